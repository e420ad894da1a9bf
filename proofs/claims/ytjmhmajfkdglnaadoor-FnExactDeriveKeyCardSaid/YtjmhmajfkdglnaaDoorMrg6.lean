import Derived.Test.YtjmhmajfkdglnaaDoorMrg5
import Derived.Test.YtjmhmajfkdglnaaDoorCards
import Derived.Test.YtjmhmajfkdglnaaDoorTie
import Derived.OpenShut
import Derived.ShutString
import Derived.ChangeOld
import Derived.OpenVars
import Derived.Deep.DeepHandedRow
import Derived.Lib.LaidTab
import Derived.LaidSub
import Derived.Carry
import Derived.Deep.Strs
namespace Go.Proofs.YtjmhmajfkdglnaaDoor
open Go.RowKit
set_option linter.unusedVariables false
attribute [local go_sem ↓] Go.wp_at_zero Go.wp_at_succ

def catB : List ByteArray → List Int
  | [] => []
  | s :: r => byt s ++ catB r
def sizeB : List ByteArray → Nat
  | [] => 0
  | s :: r => s.size + sizeB r

theorem methR (a : Addr) (w : World) : (method 279 128 (.pointer (some a)) "loop.example/s02095/impl.take").run Tryd.prog w = .ok (69, .pointer (some a)) w := by kernel_rfl
theorem catB_snoc (ps : List ByteArray) (k : Nat) (h : k < ps.length) : catB (ps.take (k + 1)) = catB (ps.take k) ++ byt ps[k] := by
  induction ps generalizing k with
  | nil => simp at h
  | cons s r ih =>
    cases k with
    | zero => simp [catB]
    | succ k => simp only [List.take_succ_cons, catB, List.getElem_cons_succ]; rw [ih k (by simpa using h), List.append_assoc]
theorem catB_length : ∀ ps : List ByteArray, (catB ps).length = sizeB ps
  | [] => rfl
  | s :: r => by rw [catB, sizeB, List.length_append, byt_length, catB_length r]
theorem catB_lt : ∀ ps : List ByteArray, ∀ x ∈ catB ps, 0 ≤ x ∧ x < 256
  | [], x, h => by simp [catB] at h
  | s :: r, x, h => by
    rw [catB, List.mem_append] at h
    rcases h with h | h
    · exact byt_lt s x h
    · exact catB_lt r x h
theorem lk_rep (i : Nat) : 0 ≤ lk (List.replicate 64 (0 : Int)) i ∧ lk (List.replicate 64 (0 : Int)) i < 256 :=
  lk_lt (fun x hx => by have := List.eq_of_mem_replicate hx; omega) i
theorem sizeB_le (ps : List ByteArray) (k : Nat) (h : k < ps.length) : (catB (ps.take k)).length + ps[k].size ≤ sizeB ps := by
  induction ps generalizing k with
  | nil => simp at h
  | cons s r ih =>
    cases k with
    | zero => simp [catB, sizeB]
    | succ k =>
      have := ih k (by simpa using h)
      simp only [List.take_succ_cons, catB, List.getElem_cons_succ, List.length_append, byt_length, sizeB]; omega

set_option maxRecDepth 100000 in
set_option maxHeartbeats 1000000 in
theorem allI_any (b o g n cap : Nat) (t : List Int) (ps : List ByteArray) (w : World) (hR : RH w b o t (t.length : Int)) (hT : TabK w) (hb0 : b ≠ 9) (hlen : t.length + sizeB ps ≤ 1152921504606846976)
    (hps : ps.length = n) (hn : n ≤ 100) (hc : ∀ i, i < n → w.cell? ⟨g, i, none⟩ = some (.string (ps.getD i ByteArray.empty))) (hgb : g ≠ b) :
    Calls Tryd.prog 61 #[.iface 128 (.pointer (some ⟨b, o, none⟩)), .slice (some ⟨g, 0, none⟩) n cap] w fun e w' => e = .returned (.tuple #[]) ∧ RH w' b o (t ++ catB ps) ((t ++ catB ps).length : Int) ∧ Upd b o w w' := by
  go_enter Tryd.func61, Tryd.ntmps61
  go_wp2
  go_loopw [8] (fun i wr => ∃ k : Nat, k ≤ n ∧ i = .int .i64 k ∧ RH wr b o (t ++ catB (ps.take k)) ((t ++ catB (ps.take k)).length : Int) ∧ Upd b o w wr) (fun i _ => n - (intOf i).toNat)
  case atStart => exact ⟨0, by omega, rfl, by simpa [catB] using hR, Upd.refl _ _ _⟩
  case round =>
    obtain ⟨k, hk, rfl, hR2, hU⟩ := hrel
    by_cases hlt : k < n
    · have hck := (hU.far (p := ⟨g, k, none⟩) (World.block_lt_of_cell? w _ (hc k hlt)) hgb).trans (hc k hlt)
      have hm := methR ⟨b, o, none⟩
      have hkp : k < ps.length := by omega
      have hTr : TabK wr := fun i hi => (hU.far (p := ⟨9, i, none⟩) (World.block_lt_of_cell? w _ (hT i hi)) (fun e => hb0 e.symm)).trans (hT i hi)
      have hsz := sizeB_le ps k hkp
      go_wp2_with fail
      refine (takeI_any b o (t ++ catB (ps.take k)) ps[k] wr hR2 hTr hb0 (by rw [List.length_append]; omega)).mono ?_
      rintro e W2 ⟨rfl, hR3, hU3⟩
      rw [List.append_assoc, ← catB_snoc ps k hkp] at hR3
      have hU4 := hU.trans hU3
      clear hR2 hTr hck hm
      go_wp2
      go_roundw
      case rel =>
        first
          | exact ⟨k + 1, by omega, by go_num, hR3, hU4⟩
          | ((repeat apply Exists.intro); exact ⟨⟨k + 1, by omega, by go_num, hR3, hU4⟩, rfl⟩)
      case measure => simp [intOf]; omega
    · obtain rfl : k = n := by omega
      rw [List.take_of_length_le (by omega)] at hR2
      go_wp2
      go_end0
      exact ⟨rfl, hR2, hU⟩

set_option maxRecDepth 100000 in
set_option maxHeartbeats 1000000 in
theorem hashOfI_any (g n cap : Nat) (ps : List ByteArray) (w : World) (hT : TabK w) (hlen : sizeB ps ≤ 1000000000000)
    (hps : ps.length = n) (hn : n ≤ 100) (hn0 : 0 < n) (hc : ∀ i, i < n → w.cell? ⟨g, i, none⟩ = some (.string (ps.getD i ByteArray.empty))) :
    Calls Tryd.prog 50 #[.slice (some ⟨g, 0, none⟩) n cap] w fun e w' => e = .returned (.string (strOfNums (shaF (catB ps)))) ∧ Below w.heap.size w w' := by
  have hgw : 9 < w.heap.size := World.block_lt_of_cell? w _ (hT 0 (by omega))
  have hgg : g < w.heap.size := World.block_lt_of_cell? w _ (hc 0 hn0)
  have hz := zero44
  go_enter Tryd.func50, Tryd.ntmps50
  go_wp2_with fail
  refine (newI_any w).mono ?_
  rintro e W1 ⟨rfl, hb1⟩
  have hs1 := hb1.size
  have hth : (W1.alloc (.cells zeroRh.toArray 125)).there W1.heap.size 0 74 := there_new W1 _ _ 74 (by simp [zeroRh_len])
  have hnl := newRh_len
  go_wp2_with (first
    | (refine wpList_store_mid rfl 125 _ _ rfl W1.heap.size 0 newRh.toArray rfl rfl (by simpa [hnl] using hth) (by rw [size44]; simp [hnl]) (all_oneCell_toArray (rhL_one _ _ _ _)) ?_
       generalize hW2 : World.setCells _ _ _ _ = W2
       have hR2 : RH W2 W1.heap.size 0 [] (([] : List Int).length : Int) := by
         rw [← hW2]
         exact ⟨List.replicate 64 0, by simp, fun i => lk_rep i, by simp, RC.of_range rfl (by simp) (World.rangeAt_setCells_same _ _ _ _ (by rw [hnl]; exact hth)) (World.there_setCells hth _ _ _)⟩
       have hs2 : W2.heap.size = W1.heap.size + 1 := by rw [← hW2, setCells_size]; simp
       have hb2 : Below W1.heap.size W1 W2 := by rw [← hW2]; exact below_setCells ((Below.refl _ _).alloc (Nat.le_refl _) _) (Nat.le_refl _) _ _
       clear hW2))
  have hb2' : Below w.heap.size w W2 := hb1.trans (hb2.mono hs1)
  have hT2 : TabK W2 := fun i hi => (hb2'.cell (p := ⟨9, i, none⟩) hgw).trans (hT i hi)
  refine (allI_any W1.heap.size 0 g n cap [] ps W2 hR2 hT2 (by omega) (by simp; omega) hps hn (fun i hi => (hb2'.cell (p := ⟨g, i, none⟩) hgg).trans (hc i hi)) (by omega)).mono ?_
  rintro e W3 ⟨rfl, hR3, hU3⟩
  rw [List.nil_append] at hR3
  have hb3 : Below w.heap.size w W3 := hb2'.trans (hU3.below hs1 (by omega))
  have hT3 : TabK W3 := fun i hi => (hb3.cell (p := ⟨9, i, none⟩) hgw).trans (hT i hi)
  clear hR2 hT2 hU3 hb2 hth hz
  go_wp2_with fail
  refine (sumI_any W1.heap.size 0 (catB ps) W3 hR3 hT3 (by rw [catB_length]; exact hlen) (catB_lt ps)).mono ?_
  rintro e W4 ⟨rfl, hb4⟩
  go_wp2
  go_ret
  exact ⟨rfl, hb3.trans (hb4.mono hb3.size)⟩

end Go.Proofs.YtjmhmajfkdglnaaDoor

namespace Go.Proofs.YtjmhmajfkdglnaaDoor
open Go.ChangeShapes Go.WideShapes Go.ChangeAt Go.RowKit Go.Deep
set_option linter.unusedVariables false

theorem own : ownKnob Tryd.prog.godebug = none := by kernel_rfl
theorem laidOut : laidOutB Tryd.prog = true := by kernel_rfl
theorem gTab : Tryd.prog.globalNamed "loop.example/s02095/impl.roundWords" = some 9 := by kernel_rfl
theorem gTabType : (Tryd.prog.globals[9]?).map (·.type) = some 143 := by kernel_rfl
theorem cells61 : Tryd.prog.cellsOf 143 = 64 := by kernel_rfl
theorem cells29 : Tryd.prog.cellsOf 86 = 1 := by kernel_rfl
theorem table1 {W : World} (h : laidMetH Tryd.prog [("loop.example/s02095/impl.roundWords", Rows.laid_loop_example_s02095_impl_roundWords)] W) : TabK W := fun i hi => by
  have ht : Lib.TabIs Tryd.prog W "loop.example/s02095/impl.roundWords" .u32 kTab :=
    Lib.tabIs_of_head (rest := []) gTab gTabType Tryd.underlying143 Tryd.underlying86 cells29 cells61 h
  exact ht.cell gTab i hi
/-- WHAT THE ROW's LIST GIVES: the table's cells hold its numbers. -/
theorem table {W : World} {l : List (String × DataW Unit)} (h : laidMetH Tryd.prog l W) (e : l.filter (fun x => x.1 == "loop.example/s02095/impl.roundWords") = [("loop.example/s02095/impl.roundWords", Rows.laid_loop_example_s02095_impl_roundWords)]) : TabK W := by
  have h1 := laidMetH.filter (fun x => x.1 == "loop.example/s02095/impl.roundWords") h
  rw [e] at h1
  exact table1 h1
def litInts : DataW Unit → List Int
  | .agg l => l.map fun
    | .lit (.int _ n) => n
    | _ => 0
  | _ => []
def lay (w : World) (g : Nat) (k : IntKind) (l : List Int) : World :=
  { w with heap := w.heap.modify g fun
      | .cells _ t frozen => .cells (l.map (Value.int k)).toArray t frozen
      | o => o }
theorem u64_nat {x : Int} (h : (Lit.int .u64 x).wf = true) : ∃ n : Nat, x = n ∧ n < 18446744073709551616 := by
  have h2 : 0 ≤ x ∧ x ≤ 18446744073709551615 := by simpa [Lit.wf, IntKind.min, IntKind.max, IntKind.signed, IntKind.bits] using h
  exact ⟨x.toNat, by omega, by omega⟩

end Go.Proofs.YtjmhmajfkdglnaaDoor
