import Derived.Test.YtagnikeaellbiaaGreatDoorMrg3
import Derived.Test.YtagnikeaellbiaaGreatDoorProg
import Derived.Laws.BytesArg
import Derived.Deep.RegionHeld3
import Derived.Lib.ConvBytes
import Derived.Deep.Strs
import Derived.Test.YtagnikeaellbiaaGreatDoorMrg0
import Derived.Test.YtagnikeaellbiaaGreatDoorMrg1
import Derived.Deep.AppendLies
import Derived.Deep.QuietTactic
import Derived.BigQuiet
import Derived.Deep.DrawnRows
namespace Go.Proofs.YtagnikeaellbiaaGreatDoor
open Go.RowKit
set_option linter.unusedVariables false
attribute [local go_sem ↓] Go.wp_at_zero Go.wp_at_succ

def catB : List ByteArray → List Int
  | [] => []
  | s :: r => byt s ++ catB r
def sizeB : List ByteArray → Nat
  | [] => 0
  | s :: r => s.size + sizeB r

theorem methR (a : Addr) (w : World) : (method 325 154 (.pointer (some a)) "loop.example/s02095/impl.take").run Tryz.prog w = .ok (112, .pointer (some a)) w := by kernel_rfl
theorem catB_snoc (ps : List ByteArray) (k : Nat) (h : k < ps.length) : catB (ps.take (k + 1)) = catB (ps.take k) ++ byt ps[k] := by
  induction ps generalizing k with
  | nil => simp at h
  | cons s r ih =>
    cases k with
    | zero => simp [catB]
    | succ k => simp only [List.take_succ_cons, catB, List.getElem_cons_succ]; rw [ih k (by simpa using h), List.append_assoc]
theorem catB_length : ∀ ps : List ByteArray, (catB ps).length = sizeB ps
  | [] => rfl
  | s :: r => by rw [catB, sizeB, List.length_append, byt_length, catB_length r]
theorem catB_lt : ∀ ps : List ByteArray, ∀ x ∈ catB ps, 0 ≤ x ∧ x < 256
  | [], x, h => by simp [catB] at h
  | s :: r, x, h => by
    rw [catB, List.mem_append] at h
    rcases h with h | h
    · exact byt_lt s x h
    · exact catB_lt r x h
theorem lk_rep (i : Nat) : 0 ≤ lk (List.replicate 64 (0 : Int)) i ∧ lk (List.replicate 64 (0 : Int)) i < 256 :=
  lk_lt (fun x hx => by have := List.eq_of_mem_replicate hx; omega) i
theorem sizeB_le (ps : List ByteArray) (k : Nat) (h : k < ps.length) : (catB (ps.take k)).length + ps[k].size ≤ sizeB ps := by
  induction ps generalizing k with
  | nil => simp at h
  | cons s r ih =>
    cases k with
    | zero => simp [catB, sizeB]
    | succ k =>
      have := ih k (by simpa using h)
      simp only [List.take_succ_cons, catB, List.getElem_cons_succ, List.length_append, byt_length, sizeB]; omega

set_option maxRecDepth 100000 in
set_option maxHeartbeats 1000000 in
theorem allI_any (b o g n cap : Nat) (t : List Int) (ps : List ByteArray) (w : World) (hR : RH w b o t (t.length : Int)) (hT : TabK w) (hb0 : b ≠ 3) (hlen : t.length + sizeB ps ≤ 1152921504606846976)
    (hps : ps.length = n) (hn : n ≤ 100) (hc : ∀ i, i < n → w.cell? ⟨g, i, none⟩ = some (.string (ps.getD i ByteArray.empty))) (hgb : g ≠ b) :
    Calls Tryz.prog 98 #[.iface 154 (.pointer (some ⟨b, o, none⟩)), .slice (some ⟨g, 0, none⟩) n cap] w fun e w' => e = .returned (.tuple #[]) ∧ RH w' b o (t ++ catB ps) ((t ++ catB ps).length : Int) ∧ Upd b o w w' := by
  go_enter Tryz.func98, Tryz.ntmps98
  go_wp2
  go_loopw [8] (fun i wr => ∃ k : Nat, k ≤ n ∧ i = .int .i64 k ∧ RH wr b o (t ++ catB (ps.take k)) ((t ++ catB (ps.take k)).length : Int) ∧ Upd b o w wr) (fun i _ => n - (intOf i).toNat)
  case atStart => exact ⟨0, by omega, rfl, by simpa [catB] using hR, Upd.refl _ _ _⟩
  case round =>
    obtain ⟨k, hk, rfl, hR2, hU⟩ := hrel
    by_cases hlt : k < n
    · have hck := (hU.far (p := ⟨g, k, none⟩) (World.block_lt_of_cell? w _ (hc k hlt)) hgb).trans (hc k hlt)
      have hm := methR ⟨b, o, none⟩
      have hkp : k < ps.length := by omega
      have hTr : TabK wr := fun i hi => (hU.far (p := ⟨3, i, none⟩) (World.block_lt_of_cell? w _ (hT i hi)) (fun e => hb0 e.symm)).trans (hT i hi)
      have hsz := sizeB_le ps k hkp
      go_wp2_with fail
      refine (takeI_any b o (t ++ catB (ps.take k)) ps[k] wr hR2 hTr hb0 (by rw [List.length_append]; omega)).mono ?_
      rintro e W2 ⟨rfl, hR3, hU3⟩
      rw [List.append_assoc, ← catB_snoc ps k hkp] at hR3
      have hU4 := hU.trans hU3
      clear hR2 hTr hck hm
      go_wp2
      go_roundw
      case rel =>
        first
          | exact ⟨k + 1, by omega, by go_num, hR3, hU4⟩
          | ((repeat apply Exists.intro); exact ⟨⟨k + 1, by omega, by go_num, hR3, hU4⟩, rfl⟩)
      case measure => simp [intOf]; omega
    · obtain rfl : k = n := by omega
      rw [List.take_of_length_le (by omega)] at hR2
      go_wp2
      go_end0
      exact ⟨rfl, hR2, hU⟩

set_option maxRecDepth 100000 in
set_option maxHeartbeats 1000000 in
theorem hashOfI_any (g n cap : Nat) (ps : List ByteArray) (w : World) (hT : TabK w) (hlen : sizeB ps ≤ 1000000000000)
    (hps : ps.length = n) (hn : n ≤ 100) (hn0 : 0 < n) (hc : ∀ i, i < n → w.cell? ⟨g, i, none⟩ = some (.string (ps.getD i ByteArray.empty))) :
    Calls Tryz.prog 80 #[.slice (some ⟨g, 0, none⟩) n cap] w fun e w' => e = .returned (.string (strOfNums (shaF (catB ps)))) ∧ Below w.heap.size w w' := by
  have hgw : 3 < w.heap.size := World.block_lt_of_cell? w _ (hT 0 (by omega))
  have hgg : g < w.heap.size := World.block_lt_of_cell? w _ (hc 0 hn0)
  have hz := zero44
  go_enter Tryz.func80, Tryz.ntmps80
  go_wp2_with fail
  refine (newI_any w).mono ?_
  rintro e W1 ⟨rfl, hb1⟩
  have hs1 := hb1.size
  have hth : (W1.alloc (.cells zeroRh.toArray 151)).there W1.heap.size 0 74 := there_new W1 _ _ 74 (by simp [zeroRh_len])
  have hnl := newRh_len
  go_wp2_with (first
    | (refine wpList_store_mid rfl 151 _ _ rfl W1.heap.size 0 newRh.toArray rfl rfl (by simpa [hnl] using hth) (by rw [size44]; simp [hnl]) (all_oneCell_toArray (rhL_one _ _ _ _)) ?_
       generalize hW2 : World.setCells _ _ _ _ = W2
       have hR2 : RH W2 W1.heap.size 0 [] (([] : List Int).length : Int) := by
         rw [← hW2]
         exact ⟨List.replicate 64 0, by simp, fun i => lk_rep i, by simp, RC.of_range rfl (by simp) (World.rangeAt_setCells_same _ _ _ _ (by rw [hnl]; exact hth)) (World.there_setCells hth _ _ _)⟩
       have hs2 : W2.heap.size = W1.heap.size + 1 := by rw [← hW2, setCells_size]; simp
       have hb2 : Below W1.heap.size W1 W2 := by rw [← hW2]; exact below_setCells ((Below.refl _ _).alloc (Nat.le_refl _) _) (Nat.le_refl _) _ _
       clear hW2))
  have hb2' : Below w.heap.size w W2 := hb1.trans (hb2.mono hs1)
  have hT2 : TabK W2 := fun i hi => (hb2'.cell (p := ⟨3, i, none⟩) hgw).trans (hT i hi)
  refine (allI_any W1.heap.size 0 g n cap [] ps W2 hR2 hT2 (by omega) (by simp; omega) hps hn (fun i hi => (hb2'.cell (p := ⟨g, i, none⟩) hgg).trans (hc i hi)) (by omega)).mono ?_
  rintro e W3 ⟨rfl, hR3, hU3⟩
  rw [List.nil_append] at hR3
  have hb3 : Below w.heap.size w W3 := hb2'.trans (hU3.below hs1 (by omega))
  have hT3 : TabK W3 := fun i hi => (hb3.cell (p := ⟨3, i, none⟩) hgw).trans (hT i hi)
  clear hR2 hT2 hU3 hb2 hth hz
  go_wp2_with fail
  refine (sumI_any W1.heap.size 0 (catB ps) W3 hR3 hT3 (by rw [catB_length]; exact hlen) (catB_lt ps)).mono ?_
  rintro e W4 ⟨rfl, hb4⟩
  go_wp2
  go_ret
  exact ⟨rfl, hb3.trans (hb4.mono hb3.size)⟩

end Go.Proofs.YtagnikeaellbiaaGreatDoor

namespace Go.Proofs.YtagnikeaellbiaaGreatDoor
open Go.RowKit
set_option linter.unusedVariables false

theorem conv2 (w : World) (a b : Int) : (convert 46 9 (.slice (some ⟨w.heap.size, 0, none⟩) 2 2)).run Tryz.prog (w.alloc (Obj.cells #[.int .u8 a, .int .u8 b] 5)) = .ok (.string (strOfNums [a, b])) (w.alloc (Obj.cells #[.int .u8 a, .int .u8 b] 5)) :=
  run_convert_bytes_arg (P := Tryz.prog) (w.alloc (Obj.cells #[.int .u8 a, .int .u8 b] 5)) 46 5 Tryz.underlying46 Tryz.underlying5 w.heap.size 0 2 2 [a, b] rfl (fun i hi => by
    have hh := heap_alloc_new w (Obj.cells #[.int .u8 a, .int .u8 b] 5)
    generalize w.alloc (Obj.cells #[.int .u8 a, .int .u8 b] 5) = W at *
    rcases (show i = 0 ∨ i = 1 by omega) with rfl | rfl
    · simp [World.cell?, hh]
    · simp [World.cell?, hh]) 9 Tryz.underlying9
/-- a text with its size -/
def sizB (s : ByteArray) : ByteArray := strOfNums [((s.size / 256 % 256 : Nat) : Int), ((s.size % 256 : Nat) : Int)] ++ s
set_option maxRecDepth 100000 in
theorem sizS_any (s : ByteArray) (w : World) (h : s.size ≤ 65535) :
    Calls Tryz.prog 49 #[.string s] w fun e w' => e = .returned (.string (sizB s)) ∧ Below w.heap.size w w' := by
  have h2 : ((s.size / 256 % 256 : Nat) : Int) = (s.size : Int) / 256 := by omega
  have h3 : ((s.size % 256 : Nat) : Int) = (s.size : Int) % 256 := by omega
  have hcv := conv2 w ((s.size : Int) / 256) ((s.size : Int) % 256)
  unfold sizB
  rw [h2, h3]
  obtain ⟨T, hT⟩ : ∃ T, Hid (T = strOfNums [(s.size : Int) / 256, (s.size : Int) % 256]) := ⟨_, rfl⟩
  have hTs : T.size = 2 := by rw [hT.out, strOfNums_size]; rfl
  rw [← hT.out] at hcv ⊢
  go_enter Tryz.func49, Tryz.ntmps49
  go_wp2
  go_ret
  exact ⟨rfl, (Below.refl _ w).alloc (Nat.le_refl _) _⟩
/-- a word and the context of a mode -/
def tagB (word : ByteArray) (k : Nat) : ByteArray := word ++ ⟨#[84, 79, 89, 80, 82, 70, 45]⟩ ++ (⟨#[48, 49, 50]⟩ : ByteArray).extract k (k + 1) ++ ⟨#[45, 77, 54, 49]⟩
theorem tagB_size (word : ByteArray) (k : Nat) (h : k < 3) : (tagB word k).size = word.size + 12 := by
  rcases (show k = 0 ∨ k = 1 ∨ k = 2 by omega) with rfl | rfl | rfl <;> (unfold tagB; rw [ByteArray.size_append, ByteArray.size_append, ByteArray.size_append]; rfl)
set_option maxRecDepth 100000 in
theorem tagS_any (word : ByteArray) (k : Nat) (w : World) (hk : k < 3) (h : word.size ≤ 100) :
    Calls Tryz.prog 51 #[.string word, .int .i64 k] w fun e w' => e = .returned (.string (tagB word k)) ∧ Below w.heap.size w w' := by
  rcases (show k = 0 ∨ k = 1 ∨ k = 2 by omega) with rfl | rfl | rfl
  · go_enter Tryz.func51, Tryz.ntmps51
    go_wp2
    go_ret
    exact ⟨rfl, Below.refl _ _⟩
  · go_enter Tryz.func51, Tryz.ntmps51
    go_wp2
    go_ret
    exact ⟨rfl, Below.refl _ _⟩
  · go_enter Tryz.func51, Tryz.ntmps51
    go_wp2
    go_ret
    exact ⟨rfl, Below.refl _ _⟩
end Go.Proofs.YtagnikeaellbiaaGreatDoor

namespace Go.Proofs.YtagnikeaellbiaaGreatDoor
open Go.RowKit
set_option linter.unusedVariables false
set_option maxRecDepth 100000
attribute [local go_sem ↓] Go.wp_at_zero Go.wp_at_succ

theorem infoU32 : (Tryz.prog.info? 120).map (fun i => (i.zero, i.size, i.bytes)) = some (some (.int .u32 0), 1, 4) := by kernel_rfl
theorem infoU8 : (Tryz.prog.info? 5).map (fun i => (i.zero, i.size, i.bytes)) = some (some (.int .u8 0), 1, 1) := by kernel_rfl

set_option maxHeartbeats 1000000 in
theorem schedS_any (g cap n : Nat) (m : List Int) (fr : Nat) (w : World) (hm : ∀ i, i < n → w.cell? ⟨g, i, none⟩ = some (.int .u8 (lk m i)))
    (hb : ∀ i, 0 ≤ lk m i ∧ lk m i < 256) (hn : n ≤ 1099511627776) (hf : fr + 64 ≤ n) (hg : g < w.heap.size) :
    Calls Tryz.prog 93 #[.slice (some ⟨g, 0, none⟩) n cap, .int .i64 fr] w fun e w' =>
      ∃ g' cap', e = .returned (.slice (some ⟨g', 0, none⟩) 64 cap') ∧
      w'.ownsRow w.heap.size 120 1 (.slice (some ⟨g', 0, none⟩) 64 cap') 64 ((wsTo m fr 64).map (Value.int .u32)) ∧ Below w.heap.size w w' := by
  obtain ⟨i0, hi, hz0, hz1, hz2⟩ := info_parts infoU32
  go_enter Tryz.func93, Tryz.ntmps93
  go_wp2
  go_loopw [5, 6] (fun v i wr => ∃ k : Nat, k ≤ 16 ∧ i = .int .i64 k ∧ wr.ownsRow w.heap.size 120 1 v k ((wsTo m fr k).map (Value.int .u32)) ∧ Below w.heap.size w wr) (fun _ i _ => 16 - (intOf i).toNat)
  case atStart => exact ⟨0, by omega, rfl, ⟨rfl, .inr ⟨w.heap.size, 0, #[], rfl, Nat.le_refl _, heap_alloc_new _ _, by omega, by decide, rfl, rfl⟩⟩, (Below.refl _ _).alloc (Nat.le_refl _) _⟩
  case round =>
    obtain ⟨k, hk, rfl, hown, hbl⟩ := hrel
    by_cases hlt : k < 16
    · obtain ⟨p, hp⟩ : ∃ p : Nat, p = fr + 4 * k := ⟨_, rfl⟩
      have hp' : (fr : Int) + 4 * (k : Int) = (p : Int) := by omega
      have c0 := (hbl.cell (p := ⟨g, p, none⟩) hg).trans (hm p (by omega))
      have c1 := (hbl.cell (p := ⟨g, p + 1, none⟩) hg).trans (hm (p + 1) (by omega))
      have c2 := (hbl.cell (p := ⟨g, p + 2, none⟩) hg).trans (hm (p + 2) (by omega))
      have c3 := (hbl.cell (p := ⟨g, p + 3, none⟩) hg).trans (hm (p + 3) (by omega))
      have b0 := hb p
      have b1 := hb (p + 1)
      have b2 := hb (p + 2)
      have b3 := hb (p + 3)
      have hnb : u5.ownBlock ≠ some g := by
        rcases hown.2 with ⟨rfl, _⟩ | ⟨g1, cap1, cur, rfl, hg1, _⟩
        · simp [Value.ownBlock]
        · simp only [Value.ownBlock, ne_eq, Option.some.injEq]; omega
      have hgr : g < wr.heap.size := Nat.lt_of_lt_of_le hg hbl.size
      have hszr : w.heap.size ≤ wr.heap.size := hbl.size
      have q0 : (0 : Int) ≤ (p : Int) := Int.natCast_nonneg _
      have q1 : (p : Int) < (n : Int) := by omega
      have q2 : (p : Int) + 1 < (n : Int) := by omega
      have q3 : (p : Int) + 2 < (n : Int) := by omega
      have q4 : (p : Int) + 3 < (n : Int) := by omega
      have q5 : (0 : Int) ≤ (p : Int) + 1 := by omega
      have q6 : (0 : Int) ≤ (p : Int) + 2 := by omega
      have q7 : (0 : Int) ≤ (p : Int) + 3 := by omega
      have e1 := i64_in ((p : Int) + 1) (by omega) (by omega)
      have e2 := i64_in ((p : Int) + 2) (by omega) (by omega)
      have e3 := i64_in ((p : Int) + 3) (by omega) (by omega)
      have f0 := u32_in (lk m p) (by omega) (by omega)
      have f1 := u32_in (lk m (p + 1)) (by omega) (by omega)
      have f2 := u32_in (lk m (p + 2)) (by omega) (by omega)
      have f3 := u32_in (lk m (p + 3)) (by omega) (by omega)
      have f4 := u32_in (lk m p * 16777216) (by omega) (by omega)
      have f5 := u32_in (lk m (p + 1) * 65536) (by omega) (by omega)
      have f6 := u32_in (lk m (p + 2) * 256) (by omega) (by omega)
      have t1 : ((p : Int) + 1).toNat = p + 1 := by omega
      have t2 : ((p : Int) + 2).toNat = p + 2 := by omega
      have t3 : ((p : Int) + 3).toNat = p + 3 := by omega
      have Hp : Hid (p = fr + 4 * k) := hp
      have hpn : p + 64 ≤ n + 4 * k := by omega
      clear hp
      go_wp2
      go_region_held3 (fun w' => w'.cell? ⟨g, p, none⟩ = some (.int .u8 (lk m p)) ∧ w'.cell? ⟨g, p + 1, none⟩ = some (.int .u8 (lk m (p + 1))) ∧
          w'.cell? ⟨g, p + 2, none⟩ = some (.int .u8 (lk m (p + 2))) ∧ w'.cell? ⟨g, p + 3, none⟩ = some (.int .u8 (lk m (p + 3))))
        (first
          | go_keep
          | (go_split_ands
             refine ⟨?_, ?_, ?_, ?_⟩
             · (rw [hgrow.cell_far _ (by simp; omega) (Ne.symm hnb)]; assumption)
             · (rw [hgrow.cell_far _ (by simp; omega) (Ne.symm hnb)]; assumption)
             · (rw [hgrow.cell_far _ (by simp; omega) (Ne.symm hnb)]; assumption)
             · (rw [hgrow.cell_far _ (by simp; omega) (Ne.symm hnb)]; assumption)))
        ((refine step_append_lies _ (by rfl) _ _ _ (by rfl) w.heap.size 120 i0 _ 1 4 Tryz.underlying121 hi hz0 hz1 hz2 rfl (by omega) u5 k ((wsTo m fr k).map (Value.int .u32)) (by rfl) ((hown.alloc _).drew)
            ⟨wr.heap.size, 0, none⟩ 1 1 [.int .u32 (word m p)] (by rfl) (by rfl) (World.news_of_block (cs := #[.int .u32 (word m p)]) (t := 120) (fr := (0, 0)) (heap_alloc_new wr _)) (by simp [Value.oneCell'])
            (by omega) (by unfold maxLen; omega) (by omega) (by simp; omega) (wr.heap.size + 1) (by simp) ?_; intro gg cap w1 hown1 hgrow hat hglt))
      go_wp2
      refine ⟨⟨k + 1, by omega, by go_num, ?_, ?_⟩, by simp [intOf]; omega⟩
      · rw [wsTo_lo m fr k hlt, ← Hp.out]; exact hown1
      · exact (((hbl.alloc hszr _).drew).grown hgrow (by simp; omega) (fun r hr => (hown.lt r hr).1))
    · obtain rfl : k = 16 := by omega
      go_wp2
      go_loopw [5, 8] (fun v i wr => ∃ k : Nat, 16 ≤ k ∧ k ≤ 64 ∧ i = .int .i64 k ∧ wr.ownsRow w.heap.size 120 1 v k ((wsTo m fr k).map (Value.int .u32)) ∧ Below w.heap.size w wr) (fun _ i _ => 64 - (intOf i).toNat)
      case atStart => exact ⟨16, by omega, by omega, rfl, hown, hbl⟩
      case round =>
        clear hown hbl
        obtain ⟨k, hk16, hk, rfl, hown, hbl⟩ := hrel
        by_cases hlt : k < 64
        · obtain ⟨g1, cap1, rfl, hg1, hlt1⟩ := hown.form (by omega)
          have c15 := own_cell hown (k - 15) (by omega)
          have c2 := own_cell hown (k - 2) (by omega)
          have c16 := own_cell hown (k - 16) (by omega)
          have c7 := own_cell hown (k - 7) (by omega)
          have b15 := wsTo_lo32 m fr k (k - 15)
          have b2 := wsTo_lo32 m fr k (k - 2)
          have b16 := wsTo_lo32 m fr k (k - 16)
          have b7 := wsTo_lo32 m fr k (k - 7)
          go_wp2_with (go_at_call 94; refine (turn_any _ _ _ (by omega) (by omega) (by omega) (by omega)).mono ?_; rintro e w' ⟨rfl, rfl⟩)
          have hszr : w.heap.size ≤ wr.heap.size := hbl.size
          have hn1 : g1 ≠ wr.heap.size := by omega
          have q0 : (0 : Int) ≤ (k : Int) - 16 := by omega
          have q1 : (k : Int) - 16 < (k : Int) := by omega
          have q2 : (0 : Int) ≤ (k : Int) - 7 := by omega
          have q3 : (k : Int) - 7 < (k : Int) := by omega
          have q4 : (16 : Int) ≤ (k : Int) := by omega
          have q5 : (7 : Int) ≤ (k : Int) := by omega
          have e1 := i64_in ((k : Int) - 16) (by omega) (by omega)
          have e2 := i64_in ((k : Int) - 7) (by omega) (by omega)
          have t1 : ((k : Int) - 16).toNat = k - 16 := by omega
          have t2 : ((k : Int) - 7).toNat = k - 7 := by omega
          have hL16 := own_get hown (k - 16) (by omega)
          have hL7 := own_get hown (k - 7) (by omega)
          go_region_held3 (fun w' => w'.cell? ⟨g1, k - 16, none⟩ = some (.int .u32 (lk (wsTo m fr k) (k - 16))) ∧ w'.cell? ⟨g1, k - 7, none⟩ = some (.int .u32 (lk (wsTo m fr k) (k - 7))))
            (first
              | go_keep
              | exact ⟨hkeep _ _ hL16, hkeep _ _ hL7⟩)
            ((refine step_append_keeps (by rfl) _ _ _ (by rfl) w.heap.size 120 i0 _ 4 Tryz.underlying121 hi hz0 hz1 hz2 rfl g1 k cap1 ((wsTo m fr k).map (Value.int .u32)) (by rfl) ((hown.alloc _).drew)
                ⟨wr.heap.size, 0, none⟩ 1 1 [.int .u32 (nextw (wsTo m fr k) k)] (by rfl) (by rfl) (World.news_of_block (cs := #[.int .u32 (nextw (wsTo m fr k) k)]) (t := 120) (fr := (0, 0)) (heap_alloc_new wr _)) (by simp [Value.oneCell'])
                (by omega) (by unfold maxLen; omega) (by omega) (by simp; omega) (wr.heap.size + 1) (by simp) ?_; intro gg cap w1 hown1 hgrow hat hglt hkeep))
          go_wp2
          go_roundw
          case rel =>
            have R1 : w1.ownsRow w.heap.size 120 1 (.slice (some ⟨gg, 0, none⟩) (k + 1) cap) (k + 1) ((wsTo m fr (k + 1)).map (Value.int .u32)) := by
              rw [wsTo_hi m fr k hk16]; exact hown1
            have R2 : Below w.heap.size w w1 := (((hbl.alloc hszr _).drew).grown hgrow (by simp; omega) (fun r hr => by simp at hr; omega))
            first
              | exact ⟨k + 1, by omega, by omega, by go_num, R1, R2⟩
              | ((repeat apply Exists.intro); exact ⟨⟨k + 1, by omega, by omega, by go_num, R1, R2⟩, rfl⟩)
          case measure => simp [intOf]; omega
        · obtain rfl : k = 64 := by omega
          obtain ⟨g1, cap1, rfl, hg1, hlt1⟩ := hown.form (by omega)
          go_wp2
          go_ret
          exact ⟨g1, cap1, rfl, hown, hbl⟩
end Go.Proofs.YtagnikeaellbiaaGreatDoor
