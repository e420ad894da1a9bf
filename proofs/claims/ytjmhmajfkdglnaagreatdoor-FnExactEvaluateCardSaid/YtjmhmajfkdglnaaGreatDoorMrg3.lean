import Derived.Test.YtjmhmajfkdglnaaGreatDoorMrg2
import Derived.Test.YtjmhmajfkdglnaaGreatDoorCards
import Derived.Test.YtjmhmajfkdglnaaGreatDoorTie
import Derived.OpenShut
import Derived.ShutString
import Derived.ChangeOld
import Derived.OpenVars
import Derived.Deep.DeepHandedRow
import Derived.Lib.LaidTab
import Derived.LaidSub
import Derived.Carry
import Derived.Deep.Strs
import Derived.Test.YtjmhmajfkdglnaaGreatDoorProg
import Derived.WalkKit
import Derived.LaidEql
import Derived.Stop.Asserts
import Derived.RowKitTokens
import Derived.Test.YtjmhmajfkdglnaaGreatDoorMrg0
import Derived.Stop.LaidTwo
set_option linter.unusedVariables false
set_option maxRecDepth 100000
set_option maxHeartbeats 16000000
namespace Go.Proofs.YtjmhmajfkdglnaaGreatDoor
open Go.RowKit
attribute [local go_sem ↓] Go.wp_at_zero Go.wp_at_succ
def catB : List ByteArray → List Int
  | [] => []
  | s :: r => byt s ++ catB r
def sizeB : List ByteArray → Nat
  | [] => 0
  | s :: r => s.size + sizeB r
theorem methR (a : Addr) (w : World) : (method 449 262 (.pointer (some a)) "loop.example/s02095/impl.take").run Tryz.prog w = .ok (190, .pointer (some a)) w := by kernel_rfl
theorem catB_snoc (ps : List ByteArray) (k : Nat) (h : k < ps.length) : catB (ps.take (k + 1)) = catB (ps.take k) ++ byt ps[k] := by
  induction ps generalizing k with
  | nil => simp at h
  | cons s r ih =>
    cases k with
    | zero => simp [catB]
    | succ k => simp only [List.take_succ_cons, catB, List.getElem_cons_succ]; rw [ih k (by simpa using h), List.append_assoc]
theorem catB_length : ∀ ps : List ByteArray, (catB ps).length = sizeB ps
  | [] => rfl
  | s :: r => by rw [catB, sizeB, List.length_append, byt_length, catB_length r]
theorem catB_lt : ∀ ps : List ByteArray, ∀ x ∈ catB ps, 0 ≤ x ∧ x < 256
  | [], x, h => by simp [catB] at h
  | s :: r, x, h => by
    rw [catB, List.mem_append] at h
    rcases h with h | h
    · exact byt_lt s x h
    · exact catB_lt r x h
theorem lk_rep (i : Nat) : 0 ≤ lk (List.replicate 64 (0 : Int)) i ∧ lk (List.replicate 64 (0 : Int)) i < 256 :=
  lk_lt (fun x hx => by have := List.eq_of_mem_replicate hx; omega) i
theorem sizeB_le (ps : List ByteArray) (k : Nat) (h : k < ps.length) : (catB (ps.take k)).length + ps[k].size ≤ sizeB ps := by
  induction ps generalizing k with
  | nil => simp at h
  | cons s r ih =>
    cases k with
    | zero => simp [catB, sizeB]
    | succ k =>
      have := ih k (by simpa using h)
      simp only [List.take_succ_cons, catB, List.getElem_cons_succ, List.length_append, byt_length, sizeB]; omega
theorem allI_any (b o g n cap : Nat) (t : List Int) (ps : List ByteArray) (w : World) (hR : RH w b o t (t.length : Int)) (hT : TabK w) (hb0 : b ≠ 6) (hlen : t.length + sizeB ps ≤ 1152921504606846976)
    (hps : ps.length = n) (hn : n ≤ 100) (hc : ∀ i, i < n → w.cell? ⟨g, i, none⟩ = some (.string (ps.getD i ByteArray.empty))) (hgb : g ≠ b) :
    Calls Tryz.prog 170 #[.iface 262 (.pointer (some ⟨b, o, none⟩)), .slice (some ⟨g, 0, none⟩) n cap] w fun e w' => e = .returned (.tuple #[]) ∧ RH w' b o (t ++ catB ps) ((t ++ catB ps).length : Int) ∧ Upd b o w w' := by
  go_enter Tryz.func170, Tryz.ntmps170
  go_wp2
  go_loopw [8] (fun i wr => ∃ k : Nat, k ≤ n ∧ i = .int .i64 k ∧ RH wr b o (t ++ catB (ps.take k)) ((t ++ catB (ps.take k)).length : Int) ∧ Upd b o w wr) (fun i _ => n - (intOf i).toNat)
  case atStart => exact ⟨0, by omega, rfl, by simpa [catB] using hR, Upd.refl _ _ _⟩
  case round =>
    obtain ⟨k, hk, rfl, hR2, hU⟩ := hrel
    by_cases hlt : k < n
    · have hck := (hU.far (p := ⟨g, k, none⟩) (World.block_lt_of_cell? w _ (hc k hlt)) hgb).trans (hc k hlt)
      have hm := methR ⟨b, o, none⟩
      have hkp : k < ps.length := by omega
      have hTr : TabK wr := fun i hi => (hU.far (p := ⟨6, i, none⟩) (World.block_lt_of_cell? w _ (hT i hi)) (fun e => hb0 e.symm)).trans (hT i hi)
      have hsz := sizeB_le ps k hkp
      go_wp2_with fail
      refine (takeI_any b o (t ++ catB (ps.take k)) ps[k] wr hR2 hTr hb0 (by rw [List.length_append]; omega)).mono ?_
      rintro e W2 ⟨rfl, hR3, hU3⟩
      rw [List.append_assoc, ← catB_snoc ps k hkp] at hR3
      have hU4 := hU.trans hU3
      clear hR2 hTr hck hm
      go_wp2
      go_roundw
      case rel =>
        first
          | exact ⟨k + 1, by omega, by go_num, hR3, hU4⟩
          | ((repeat apply Exists.intro); exact ⟨⟨k + 1, by omega, by go_num, hR3, hU4⟩, rfl⟩)
      case measure => simp [intOf]; omega
    · obtain rfl : k = n := by omega
      rw [List.take_of_length_le (by omega)] at hR2
      go_wp2
      go_end0
      exact ⟨rfl, hR2, hU⟩
theorem hashOfI_any (g n cap : Nat) (ps : List ByteArray) (w : World) (hT : TabK w) (hlen : sizeB ps ≤ 1000000000000)
    (hps : ps.length = n) (hn : n ≤ 100) (hn0 : 0 < n) (hc : ∀ i, i < n → w.cell? ⟨g, i, none⟩ = some (.string (ps.getD i ByteArray.empty))) :
    Calls Tryz.prog 124 #[.slice (some ⟨g, 0, none⟩) n cap] w fun e w' => e = .returned (.string (strOfNums (shaF (catB ps)))) ∧ Below w.heap.size w w' := by
  have hgw : 6 < w.heap.size := World.block_lt_of_cell? w _ (hT 0 (by omega))
  have hgg : g < w.heap.size := World.block_lt_of_cell? w _ (hc 0 hn0)
  have hz := zero44
  go_enter Tryz.func124, Tryz.ntmps124
  go_wp2_with fail
  refine (newI_any w).mono ?_
  rintro e W1 ⟨rfl, hb1⟩
  have hs1 := hb1.size
  have hth : (W1.alloc (.cells zeroRh.toArray 259)).there W1.heap.size 0 74 := there_new W1 _ _ 74 (by simp [zeroRh_len])
  have hnl := newRh_len
  go_wp2_with (first
    | (refine wpList_store_mid rfl 259 _ _ rfl W1.heap.size 0 newRh.toArray rfl rfl (by simpa [hnl] using hth) (by rw [size44]; simp [hnl]) (all_oneCell_toArray (rhL_one _ _ _ _)) ?_
       generalize hW2 : World.setCells _ _ _ _ = W2
       have hR2 : RH W2 W1.heap.size 0 [] (([] : List Int).length : Int) := by
         rw [← hW2]
         exact ⟨List.replicate 64 0, by simp, fun i => lk_rep i, by simp, RC.of_range rfl (by simp) (World.rangeAt_setCells_same _ _ _ _ (by rw [hnl]; exact hth)) (World.there_setCells hth _ _ _)⟩
       have hs2 : W2.heap.size = W1.heap.size + 1 := by rw [← hW2, setCells_size]; simp
       have hb2 : Below W1.heap.size W1 W2 := by rw [← hW2]; exact below_setCells ((Below.refl _ _).alloc (Nat.le_refl _) _) (Nat.le_refl _) _ _
       clear hW2))
  have hb2' : Below w.heap.size w W2 := hb1.trans (hb2.mono hs1)
  have hT2 : TabK W2 := fun i hi => (hb2'.cell (p := ⟨6, i, none⟩) hgw).trans (hT i hi)
  refine (allI_any W1.heap.size 0 g n cap [] ps W2 hR2 hT2 (by omega) (by simp; omega) hps hn (fun i hi => (hb2'.cell (p := ⟨g, i, none⟩) hgg).trans (hc i hi)) (by omega)).mono ?_
  rintro e W3 ⟨rfl, hR3, hU3⟩
  rw [List.nil_append] at hR3
  have hb3 : Below w.heap.size w W3 := hb2'.trans (hU3.below hs1 (by omega))
  have hT3 : TabK W3 := fun i hi => (hb3.cell (p := ⟨6, i, none⟩) hgw).trans (hT i hi)
  clear hR2 hT2 hU3 hb2 hth hz
  go_wp2_with fail
  refine (sumI_any W1.heap.size 0 (catB ps) W3 hR3 hT3 (by rw [catB_length]; exact hlen) (catB_lt ps)).mono ?_
  rintro e W4 ⟨rfl, hb4⟩
  go_wp2
  go_ret
  exact ⟨rfl, hb3.trans (hb4.mono hb3.size)⟩
end Go.Proofs.YtjmhmajfkdglnaaGreatDoor
namespace Go.Proofs.YtjmhmajfkdglnaaGreatDoor
open Go.ChangeShapes Go.WideShapes Go.ChangeAt Go.RowKit Go.Deep
theorem own : ownKnob Tryz.prog.godebug = none := by kernel_rfl
theorem laidOut : laidOutB Tryz.prog = true := by kernel_rfl
theorem gTab : Tryz.prog.globalNamed "loop.example/s02095/impl.roundWords" = some 6 := by kernel_rfl
theorem gTabType : (Tryz.prog.globals[6]?).map (·.type) = some 299 := by kernel_rfl
theorem cells61 : Tryz.prog.cellsOf 299 = 64 := by kernel_rfl
theorem cells29 : Tryz.prog.cellsOf 195 = 1 := by kernel_rfl
theorem table1 {W : World} (h : laidMetH Tryz.prog [("loop.example/s02095/impl.roundWords", Rows.laid_loop_example_s02095_impl_roundWords)] W) : TabK W := fun i hi => by
  have ht : Lib.TabIs Tryz.prog W "loop.example/s02095/impl.roundWords" .u32 kTab :=
    Lib.tabIs_of_head (rest := []) gTab gTabType Tryz.underlying299 Tryz.underlying195 cells29 cells61 h
  exact ht.cell gTab i hi
theorem table {W : World} {l : List (String × DataW Unit)} (h : laidMetH Tryz.prog l W) (e : l.filter (fun x => x.1 == "loop.example/s02095/impl.roundWords") = [("loop.example/s02095/impl.roundWords", Rows.laid_loop_example_s02095_impl_roundWords)]) : TabK W := by
  have h1 := laidMetH.filter (fun x => x.1 == "loop.example/s02095/impl.roundWords") h
  rw [e] at h1
  exact table1 h1
def litInts : DataW Unit → List Int
  | .agg l => l.map fun
    | .lit (.int _ n) => n
    | _ => 0
  | _ => []
def lay (w : World) (g : Nat) (k : IntKind) (l : List Int) : World :=
  { w with heap := w.heap.modify g fun
      | .cells _ t frozen => .cells (l.map (Value.int k)).toArray t frozen
      | o => o }
theorem u64_nat {x : Int} (h : (Lit.int .u64 x).wf = true) : ∃ n : Nat, x = n ∧ n < 18446744073709551616 := by
  have h2 : 0 ≤ x ∧ x ≤ 18446744073709551615 := by simpa [Lit.wf, IntKind.min, IntKind.max, IntKind.signed, IntKind.bits] using h
  exact ⟨x.toNat, by omega, by omega⟩
end Go.Proofs.YtjmhmajfkdglnaaGreatDoor
namespace Go.Proofs.YtjmhmajfkdglnaaGreatDoor
open Go.RowKit Go.Extern.Stop Go.Stop Go.Extern
theorem isCallC (w : World) : (callFunc 251 #[.agg #[.pointer (some ⟨11, 316, none⟩)]]).run Tryz.prog w = .ok (.value (.bool true)) w := by kernel_rfl
theorem isCallT (v : Value) (w : World) : (callFunc 148 #[.iface 316 v]).run Tryz.prog w = .ok (.value (.iface 273 (.agg #[.pointer (some ⟨11, 316, none⟩)]))) w := by kernel_rfl
theorem isMethodComparable (v : Value) (w : World) : (Go.method 449 273 v "Comparable").run Tryz.prog w = .ok (251, v) w := by kernel_rfl
theorem isComp : (Tryz.prog.info? 316).map (·.comparable) = some true := by kernel_rfl
theorem isSize : (Tryz.prog.info? 338).map (·.size) = some 1 := by kernel_rfl
theorem noIsE (v : Value) (xT : TypeId) (w : World) : (Instr.typeAssert (.iface 316 v) xT 275 true).run Tryz.prog w = .ok (.tuple #[.nilIface, .bool false]) w := run_typeAssert_lacksB Tryz.underlying275 (by kernel_rfl) (by kernel_rfl) v xT w
theorem noUnwrapE (v : Value) (xT : TypeId) (w : World) : (Instr.typeAssert (.iface 316 v) xT 278 true).run Tryz.prog w = .ok (.tuple #[.nilIface, .bool false]) w := run_typeAssert_lacksB Tryz.underlying278 (by kernel_rfl) (by kernel_rfl) v xT w
theorem noUnwrapsE (v : Value) (xT : TypeId) (w : World) : (Instr.typeAssert (.iface 316 v) xT 280 true).run Tryz.prog w = .ok (.tuple #[.nilIface, .bool false]) w := run_typeAssert_lacksB Tryz.underlying280 (by kernel_rfl) (by kernel_rfl) v xT w
theorem noIsW (v : Value) (xT : TypeId) (w : World) : (Instr.typeAssert (.iface 150 v) xT 275 true).run Tryz.prog w = .ok (.tuple #[.nilIface, .bool false]) w := run_typeAssert_lacksB Tryz.underlying275 (by kernel_rfl) (by kernel_rfl) v xT w
theorem hasUnwrapW (v : Value) (xT : TypeId) (w : World) : (Instr.typeAssert (.iface 150 v) xT 278 true).run Tryz.prog w = .ok (.tuple #[.iface 150 v, .bool true]) w := run_typeAssert_hasB Tryz.underlying278 (by kernel_rfl) v xT w
theorem methodUnwrap (v : Value) (w : World) : (Go.method 449 150 v "Unwrap").run Tryz.prog w = .ok (243, v) w := by kernel_rfl
def sen (a : Addr) : Value := .iface 316 (.pointer (some a))
def flt (s : ByteArray) (v : Value) : Value := .iface 150 (.agg #[.string s, v])
theorem unwI (s : ByteArray) (v : Value) (w : World) :
    Calls Tryz.prog 243 #[.agg #[.string s, v]] w fun e w' => e = .returned v ∧ Below w.heap.size w w' := by
  go_enter Tryz.func243, Tryz.ntmps243
  go_wp2
  go_ret
  exact ⟨rfl, (Below.refl _ w).alloc (Nat.le_refl _) _⟩
theorem is1_same (s : ByteArray) (b : Addr) (w : World) :
    Calls Tryz.prog 119 #[flt s (sen b), sen b] w fun e w' => e = .returned (.bool true) ∧ Below w.heap.size w w' := by
  unfold flt sen
  obtain ⟨i, hi, hcmp⟩ := Option.map_eq_some_iff.1 isComp
  obtain ⟨j, hj, hjs⟩ := Option.map_eq_some_iff.1 isSize
  have h8 := isCallT
  have h32 := isCallC
  have mR := isMethodComparable
  have nW := noIsW
  have uW := hasUnwrapW
  have mU := methodUnwrap
  have U := unwI s (.iface 316 (.pointer (some b)))
  have heq := fun w => run_eql_iface_ptr_same (P := Tryz.prog) w b Tryz.underlying76 Tryz.underlying316 hi hcmp hj
  have hty := fun w => run_eql_iface_types (P := Tryz.prog) 150 316 (.agg #[.string s, .iface 316 (.pointer (some b))]) (.pointer (some b)) Tryz.underlying76 (by decide) w
  go_enter Tryz.func119, Tryz.ntmps119
  go_wp2
  refine wp_loop_rounds 2 ?_
  rw [rounds_succ]
  go_wp2_with fail
  refine (U _).mono ?_
  rintro e w1 ⟨rfl, b1⟩
  go_wp2
  rw [rounds_succ]
  go_wp2
  go_ret
  exact ⟨rfl, b1⟩
theorem is1_other (s : ByteArray) (a b : Addr) (ca cb : Array Value) (ta tb : TypeId) (w : World) (hne : a ≠ b) (ha : w.heap[a.block]? = some (.cells ca ta (0, 0))) (hb : w.heap[b.block]? = some (.cells cb tb (0, 0))) :
    Calls Tryz.prog 119 #[flt s (sen a), sen b] w fun e w' => e = .returned (.bool false) ∧ Below w.heap.size w w' := by
  unfold flt sen
  obtain ⟨i, hi, hcmp⟩ := Option.map_eq_some_iff.1 isComp
  obtain ⟨j, hj, hjs⟩ := Option.map_eq_some_iff.1 isSize
  have h8 := isCallT
  have h32 := isCallC
  have mR := isMethodComparable
  have nE := noIsE
  have uE := noUnwrapE
  have vE := noUnwrapsE
  have nW := noIsW
  have uW := hasUnwrapW
  have mU := methodUnwrap
  have U := unwI s (.iface 316 (.pointer (some a)))
  have hty := fun w => run_eql_iface_types (P := Tryz.prog) 150 316 (.agg #[.string s, .iface 316 (.pointer (some a))]) (.pointer (some b)) Tryz.underlying76 (by decide) w
  go_enter Tryz.func119, Tryz.ntmps119
  go_wp2
  refine wp_loop_rounds 2 ?_
  rw [rounds_succ]
  go_wp2_with fail
  refine (U _).mono ?_
  rintro e w1 ⟨rfl, b1⟩
  have heq := run_eql_iface_ptr_other (P := Tryz.prog) w1 Tryz.underlying76 Tryz.underlying316 hi hcmp hj (by rw [hjs]; decide) hne ((b1.block _ (Array.getElem?_eq_some_iff.1 ha).1).trans ha) ((b1.block _ (Array.getElem?_eq_some_iff.1 hb).1).trans hb)
  go_wp2
  rw [rounds_succ]
  go_wp2
  go_ret
  exact ⟨rfl, b1⟩
structure Sn (w : World) (a0 a1 a2 a3 : Addr) : Prop where
  c0 : w.cell? ⟨0, 0, none⟩ = some (sen a0)
  c1 : w.cell? ⟨1, 0, none⟩ = some (sen a1)
  c2 : w.cell? ⟨2, 0, none⟩ = some (sen a2)
  c3 : w.cell? ⟨3, 0, none⟩ = some (sen a3)
  b0 : ∃ cs t, w.heap[a0.block]? = some (.cells cs t (0, 0))
  b1 : ∃ cs t, w.heap[a1.block]? = some (.cells cs t (0, 0))
  b2 : ∃ cs t, w.heap[a2.block]? = some (.cells cs t (0, 0))
  b3 : ∃ cs t, w.heap[a3.block]? = some (.cells cs t (0, 0))
  n01 : a0 ≠ a1
  n02 : a0 ≠ a2
  n03 : a0 ≠ a3
  n12 : a1 ≠ a2
  n13 : a1 ≠ a3
  n23 : a2 ≠ a3
theorem Sn.keep {w w' : World} {a0 a1 a2 a3 : Addr} (h : Sn w a0 a1 a2 a3) (hb : Below w.heap.size w w') : Sn w' a0 a1 a2 a3 := by
  have hc : ∀ (p : Addr) (v : Value), w.cell? p = some v → w'.cell? p = some v := fun p v hv => (hb.cell (p := p) (World.block_lt_of_cell? w _ hv)).trans hv
  have hk : ∀ (p : Addr), (∃ cs t, w.heap[p.block]? = some (.cells cs t (0, 0))) → ∃ cs t, w'.heap[p.block]? = some (.cells cs t (0, 0)) := fun p ⟨cs, t, hv⟩ => ⟨cs, t, (hb.block _ (Array.getElem?_eq_some_iff.1 hv).1).trans hv⟩
  exact ⟨hc _ _ h.c0, hc _ _ h.c1, hc _ _ h.c2, hc _ _ h.c3, hk _ h.b0, hk _ h.b1, hk _ h.b2, hk _ h.b3, h.n01, h.n02, h.n03, h.n12, h.n13, h.n23⟩
theorem cdI_of (v : Value) (a0 a1 a2 a3 : Addr) (x y z : Bool) (w : World) (h : Sn w a0 a1 a2 a3)
    (I1 : ∀ w, Sn w a0 a1 a2 a3 → Calls Tryz.prog 119 #[v, sen a1] w fun e w' => e = .returned (.bool x) ∧ Below w.heap.size w w')
    (I2 : ∀ w, Sn w a0 a1 a2 a3 → Calls Tryz.prog 119 #[v, sen a2] w fun e w' => e = .returned (.bool y) ∧ Below w.heap.size w w')
    (I3 : ∀ w, Sn w a0 a1 a2 a3 → Calls Tryz.prog 119 #[v, sen a3] w fun e w' => e = .returned (.bool z) ∧ Below w.heap.size w w') :
    Calls Tryz.prog 77 #[v] w fun e w' => e = .returned (.int .i64 (if x then 2 else if y then 3 else if z then 4 else 1)) ∧ Below w.heap.size w w' := by
  have k1 := h.c1
  cases x with
  | true =>
    clear I2 I3
    go_enter Tryz.func77, Tryz.ntmps77
    go_wp2_with fail
    refine (I1 _ h).mono ?_
    rintro e w1 ⟨rfl, b1⟩
    clear I1 k1
    go_wp2
    go_ret
    exact ⟨rfl, b1⟩
  | false =>
    cases y with
    | true =>
      clear I3
      go_enter Tryz.func77, Tryz.ntmps77
      go_wp2_with fail
      refine (I1 _ h).mono ?_
      rintro e w1 ⟨rfl, b1⟩
      replace h := h.keep b1
      clear I1 k1
      have k2 := h.c2
      go_wp2_with fail
      refine (I2 _ h).mono ?_
      rintro e w2 ⟨rfl, b2⟩
      replace b1 := b1.trans (b2.mono b1.size)
      clear I2 k2
      go_wp2
      go_ret
      exact ⟨rfl, b1⟩
    | false =>
      go_enter Tryz.func77, Tryz.ntmps77
      go_wp2_with fail
      refine (I1 _ h).mono ?_
      rintro e w1 ⟨rfl, b1⟩
      replace h := h.keep b1
      clear I1 k1
      have k2 := h.c2
      go_wp2_with fail
      refine (I2 _ h).mono ?_
      rintro e w2 ⟨rfl, b2⟩
      replace b1 := b1.trans (b2.mono b1.size)
      replace h := h.keep b2
      clear I2 k2 b2
      have k3 := h.c3
      go_wp2_with fail
      refine (I3 _ h).mono ?_
      rintro e w3 ⟨rfl, b2⟩
      replace b1 := b1.trans (b2.mono b1.size)
      clear I3 k3
      cases z
      · go_wp2
        go_ret
        exact ⟨rfl, b1⟩
      · go_wp2
        go_ret
        exact ⟨rfl, b1⟩
def Er (a0 a1 a2 a3 : Addr) (v : Value) (c : Int) : Prop := (∃ T x, v = .iface T x) ∧ ∀ w, Sn w a0 a1 a2 a3 → Calls Tryz.prog 77 #[v] w fun e w' => e = .returned (.int .i64 c) ∧ Below w.heap.size w w'
section
variable {a0 a1 a2 a3 : Addr}
theorem isN {a b : Addr} (s : ByteArray) (w : World) (hne : a ≠ b) (ha : ∃ cs t, w.heap[a.block]? = some (.cells cs t (0, 0))) (hb : ∃ cs t, w.heap[b.block]? = some (.cells cs t (0, 0))) :
    Calls Tryz.prog 119 #[flt s (sen a), sen b] w fun e w' => e = .returned (.bool false) ∧ Below w.heap.size w w' := by
  obtain ⟨ca, ta, ha⟩ := ha
  obtain ⟨cb, tb, hb⟩ := hb
  exact is1_other s a b ca cb ta tb w hne ha hb
theorem er_args (s : ByteArray) : Er a0 a1 a2 a3 (flt s (sen a0)) 1 := ⟨⟨_, _, rfl⟩, fun w h => cdI_of _ a0 a1 a2 a3 false false false w h (fun w h => isN s w h.n01 h.b0 h.b1) (fun w h => isN s w h.n02 h.b0 h.b2) (fun w h => isN s w h.n03 h.b0 h.b3)⟩
theorem er_inv (s : ByteArray) : Er a0 a1 a2 a3 (flt s (sen a2)) 3 := ⟨⟨_, _, rfl⟩, fun w h => cdI_of _ a0 a1 a2 a3 false true false w h (fun w h => isN s w h.n12.symm h.b2 h.b1) (fun w h => is1_same s a2 w) (fun w h => isN s w h.n23 h.b2 h.b3)⟩
end
end Go.Proofs.YtjmhmajfkdglnaaGreatDoor
namespace Go.Proofs.YtjmhmajfkdglnaaGreatDoor
open Go.ChangeShapes Go.WideShapes Go.ChangeAt Go.RowKit Go.Deep
theorem gE0 : Tryz.prog.globalNamed "loop.example/s02095/impl.errArgs" = some 0 := by kernel_rfl
theorem gE1 : Tryz.prog.globalNamed "loop.example/s02095/impl.errGroup" = some 1 := by kernel_rfl
theorem gE2 : Tryz.prog.globalNamed "loop.example/s02095/impl.errInverse" = some 2 := by kernel_rfl
theorem gE3 : Tryz.prog.globalNamed "loop.example/s02095/impl.errVerify" = some 3 := by kernel_rfl
theorem gE0T : (Tryz.prog.globals[0]?).map (·.type) = some 76 := by kernel_rfl
theorem gE1T : (Tryz.prog.globals[1]?).map (·.type) = some 76 := by kernel_rfl
theorem gE2T : (Tryz.prog.globals[2]?).map (·.type) = some 76 := by kernel_rfl
theorem gE3T : (Tryz.prog.globals[3]?).map (·.type) = some 76 := by kernel_rfl
theorem cellsES : Tryz.prog.cellsOf 338 = 1 := by kernel_rfl
theorem cellsSt : Tryz.prog.cellsOf 9 = 1 := by kernel_rfl
theorem starE : "*" ++ "errors.errorString" = "*errors.errorString" := by decide
theorem rowE (u : TypeId) (h : Tryz.prog.typeName? 3 u = some "*errors.errorString") : u = 316 :=
  typeName_ptr_named (nm := "errors.errorString") (by rw [starE]; kernel_rfl) (by kernel_rfl) (by decide) u (by rw [starE]; exact h)
theorem sen_inj {a b : Addr} (h : sen a = sen b) : a = b := by unfold sen at h; simpa using h
theorem pairE {W : World} {n0 n1 : String} {g0 g1 : Nat} {t0 t1 : List UInt8} (h : laidMetH Tryz.prog [(n0, .iface "*errors.errorString" (.ptr (.agg [.lit (.string t0)]))), (n1, .iface "*errors.errorString" (.ptr (.agg [.lit (.string t1)])))] W)
    (hg0 : Tryz.prog.globalNamed n0 = some g0) (ht0 : (Tryz.prog.globals[g0]?).map (·.type) = some 76) (hg1 : Tryz.prog.globalNamed n1 = some g1) (ht1 : (Tryz.prog.globals[g1]?).map (·.type) = some 76) :
    ∃ a0 a1, W.cell? ⟨g0, 0, none⟩ = some (sen a0) ∧ W.cell? ⟨g1, 0, none⟩ = some (sen a1) ∧ a0 ≠ a1 ∧ (∃ cs t, W.heap[a0.block]? = some (.cells cs t (0, 0))) ∧ ∃ cs t, W.heap[a1.block]? = some (.cells cs t (0, 0)) := by
  have h1 : laidMet Tryz.prog [(n0, .iface "*errors.errorString" (.ptr (.agg [.lit (.string t0)]))), (n1, .iface "*errors.errorString" (.ptr (.agg [.lit (.string t1)])))] W := h
  obtain ⟨a0, a1, s0, s1, c0, c1, u0, u1, hv0, hv1, -, -, -, -, -, -, hne, hb0, hb1⟩ := laid_sentinels2 h1 hg0 ht0 hg1 ht1 Tryz.underlying76 rowE Tryz.underlying316 Tryz.underlying338 rfl rfl Tryz.underlying9 cellsES cellsSt
  exact ⟨a0, a1, by unfold sen; simpa using World.var?_cell hg0 hv0 0, by unfold sen; simpa using World.var?_cell hg1 hv1 0, hne, ⟨_, _, hb0⟩, ⟨_, _, hb1⟩⟩
def laid8 : List (String × DataW Unit) := [("math/bits.deBruijn32tab", Rows.laid_math_bits_deBruijn32tab), ("math/bits.deBruijn64tab", Rows.laid_math_bits_deBruijn64tab), ("internal/strconv.uint64pow10", Rows.laid_internal_strconv_uint64pow10), ("loop.example/s02095/impl.roundWords", Rows.laid_loop_example_s02095_impl_roundWords), ("loop.example/s02095/impl.errArgs", Rows.laid_loop_example_s02095_impl_errArgs), ("loop.example/s02095/impl.errGroup", Rows.laid_loop_example_s02095_impl_errGroup), ("loop.example/s02095/impl.errInverse", Rows.laid_loop_example_s02095_impl_errInverse), ("loop.example/s02095/impl.errVerify", Rows.laid_loop_example_s02095_impl_errVerify)]
theorem pick2 {W : World} (h : laidMetH Tryz.prog laid8 W) (n0 n1 : String) (d0 d1 : DataW Unit) (e : laid8.filter (fun x => x.1 == n0 || x.1 == n1) = [(n0, d0), (n1, d1)]) : laidMetH Tryz.prog [(n0, d0), (n1, d1)] W := by
  have h1 := laidMetH.filter (fun x => x.1 == n0 || x.1 == n1) h
  rw [e] at h1
  exact h1
theorem sn_of {W : World} (h : laidMetH Tryz.prog laid8 W) : ∃ a0 a1 a2 a3, Sn W a0 a1 a2 a3 := by
  obtain ⟨a0, a1, c0, c1, n01, b0, b1⟩ := pairE (pick2 h "loop.example/s02095/impl.errArgs" "loop.example/s02095/impl.errGroup" Rows.laid_loop_example_s02095_impl_errArgs Rows.laid_loop_example_s02095_impl_errGroup (by kernel_rfl)) gE0 gE0T gE1 gE1T
  obtain ⟨x0, a2, y0, c2, n02, -, b2⟩ := pairE (pick2 h "loop.example/s02095/impl.errArgs" "loop.example/s02095/impl.errInverse" Rows.laid_loop_example_s02095_impl_errArgs Rows.laid_loop_example_s02095_impl_errInverse (by kernel_rfl)) gE0 gE0T gE2 gE2T
  obtain ⟨z0, a3, v0, c3, n03, -, b3⟩ := pairE (pick2 h "loop.example/s02095/impl.errArgs" "loop.example/s02095/impl.errVerify" Rows.laid_loop_example_s02095_impl_errArgs Rows.laid_loop_example_s02095_impl_errVerify (by kernel_rfl)) gE0 gE0T gE3 gE3T
  obtain ⟨p1, p2, q1, q2, n12, -, -⟩ := pairE (pick2 h "loop.example/s02095/impl.errGroup" "loop.example/s02095/impl.errInverse" Rows.laid_loop_example_s02095_impl_errGroup Rows.laid_loop_example_s02095_impl_errInverse (by kernel_rfl)) gE1 gE1T gE2 gE2T
  obtain ⟨r1, r3, s1, s3, n13, -, -⟩ := pairE (pick2 h "loop.example/s02095/impl.errGroup" "loop.example/s02095/impl.errVerify" Rows.laid_loop_example_s02095_impl_errGroup Rows.laid_loop_example_s02095_impl_errVerify (by kernel_rfl)) gE1 gE1T gE3 gE3T
  obtain ⟨t2, t3, u2, u3, n23, -, -⟩ := pairE (pick2 h "loop.example/s02095/impl.errInverse" "loop.example/s02095/impl.errVerify" Rows.laid_loop_example_s02095_impl_errInverse Rows.laid_loop_example_s02095_impl_errVerify (by kernel_rfl)) gE2 gE2T gE3 gE3T
  obtain rfl := sen_inj (Option.some.inj (c0.symm.trans y0))
  obtain rfl := sen_inj (Option.some.inj (c0.symm.trans v0))
  obtain rfl := sen_inj (Option.some.inj (c1.symm.trans q1))
  obtain rfl := sen_inj (Option.some.inj (c2.symm.trans q2))
  obtain rfl := sen_inj (Option.some.inj (c1.symm.trans s1))
  obtain rfl := sen_inj (Option.some.inj (c3.symm.trans s3))
  obtain rfl := sen_inj (Option.some.inj (c2.symm.trans u2))
  obtain rfl := sen_inj (Option.some.inj (c3.symm.trans u3))
  exact ⟨_, _, _, _, c0, c1, c2, c3, b0, b1, b2, b3, n01, n02, n03, n12, n13, n23⟩
theorem trodVars_len {H : Type} {enc : TypeId × Value → H} {W : World} {sp : Nat → Bool} : ∀ {ns : List String} {gs : List (DataW H)} {q : List MemPlace}, DataW.TrodVars enc Tryz.prog W sp ns gs q → gs.length = ns.length
  | [], [], _, _ => rfl
  | [], _ :: _, _, h => h.elim
  | _ :: _, [], _, h => h.elim
  | _ :: _, _ :: _, _, h => by
    obtain ⟨g, t, cs, fuel, p, q, h1, h2, h3, h4, hs, e⟩ := h
    rw [List.length_cons, List.length_cons, trodVars_len hs]
theorem five {α : Type} {l : List α} (h : l.length = 5) : ∃ a b c d e, l = [a, b, c, d, e] := by
  match l, h with
  | [a, b, c, d, e], _ => exact ⟨a, b, c, d, e, rfl⟩
def errText : DataW Unit → ByteArray
  | .iface _ (.ptr (.agg [.lit (.string l)])) => ⟨l.toArray⟩
  | _ => ⟨#[]⟩
noncomputable def low6 : Nat := (World.holding Tryz.prog default ⟨#[], #[], []⟩).heap.size
noncomputable def layE (w : World) (g i : Nat) : World :=
  { w with heap := w.heap.modify g fun
      | .cells _ t frozen => .cells #[.iface 316 (.pointer (some ⟨low6 + i, 0, none⟩))] t frozen
      | o => o }
noncomputable def laidWorld6 (os : Os) : World :=
  layE (layE (layE (layE (lay (lay (lay (lay (World.holding Tryz.prog os ⟨#[.cells #[.string (errText Rows.laid_loop_example_s02095_impl_errArgs)] 338, .cells #[.string (errText Rows.laid_loop_example_s02095_impl_errGroup)] 338, .cells #[.string (errText Rows.laid_loop_example_s02095_impl_errInverse)] 338, .cells #[.string (errText Rows.laid_loop_example_s02095_impl_errVerify)] 338], #[], []⟩) 8 .u8 (litInts Rows.laid_math_bits_deBruijn32tab)) 9 .u8 (litInts Rows.laid_math_bits_deBruijn64tab)) 7 .u64 (litInts Rows.laid_internal_strconv_uint64pow10)) 6 .u32 kTab) 0 0) 1 1) 2 2) 3 3
end Go.Proofs.YtjmhmajfkdglnaaGreatDoor
