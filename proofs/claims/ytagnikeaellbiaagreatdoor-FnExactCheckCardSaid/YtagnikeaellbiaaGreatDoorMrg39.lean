import Derived.Test.YtagnikeaellbiaaGreatDoorCards
import Derived.Test.YtagnikeaellbiaaGreatDoorTie
import Derived.Test.YtagnikeaellbiaaGreatDoorMrg26
import Derived.Test.YtagnikeaellbiaaGreatDoorMrg38
import Derived.OpenShut
import Derived.ShutString
import Derived.ChangeOld
import Derived.OpenVars
import Derived.Deep.DeepHandedRow
import Derived.Lib.LaidTab
import Derived.LaidSub
import Derived.Carry
import Derived.Deep.Strs
import Derived.Test.YtagnikeaellbiaaGreatDoorMrg35
/-
  What the cards of a seat share whose rows list four variables (chapter 5 on): the row's list, the witness's world; points and proofs that come in.
-/
namespace Go.Proofs.YtagnikeaellbiaaGreatDoor
open Go.ChangeShapes Go.WideShapes Go.ChangeAt Go.RowKit Go.Deep
set_option linter.unusedVariables false

theorem own : ownKnob Tryz.prog.godebug = none := by kernel_rfl
theorem laidOut : laidOutB Tryz.prog = true := by kernel_rfl
theorem gTab : Tryz.prog.globalNamed "loop.example/s02095/impl.roundWords" = some 3 := by kernel_rfl
theorem gTabType : (Tryz.prog.globals[3]?).map (·.type) = some 195 := by kernel_rfl
theorem cells61 : Tryz.prog.cellsOf 195 = 64 := by kernel_rfl
theorem cells29 : Tryz.prog.cellsOf 120 = 1 := by kernel_rfl
theorem varsR : varsRowed Tryz.prog ["loop.example/s02095/impl.roundWords"] = true := by kernel_rfl

theorem table1 {W : World} (h : laidMetH Tryz.prog [("loop.example/s02095/impl.roundWords", Rows.laid_loop_example_s02095_impl_roundWords)] W) : TabK W := fun i hi => by
  have ht : Lib.TabIs Tryz.prog W "loop.example/s02095/impl.roundWords" .u32 kTab :=
    Lib.tabIs_of_head (rest := []) gTab gTabType Tryz.underlying195 Tryz.underlying120 cells29 cells61 h
  exact ht.cell gTab i hi
/-- WHAT THE ROW's LIST GIVES: the table's cells hold its numbers. -/
theorem table {W : World} {l : List (String × DataW Unit)} (h : laidMetH Tryz.prog l W) (e : l.filter (fun x => x.1 == "loop.example/s02095/impl.roundWords") = [("loop.example/s02095/impl.roundWords", Rows.laid_loop_example_s02095_impl_roundWords)]) : TabK W := by
  have h1 := laidMetH.filter (fun x => x.1 == "loop.example/s02095/impl.roundWords") h
  rw [e] at h1
  exact table1 h1
def litInts : DataW Unit → List Int
  | .agg l => l.map fun
    | .lit (.int _ n) => n
    | _ => 0
  | _ => []
def lay (w : World) (g : Nat) (k : IntKind) (l : List Int) : World :=
  { w with heap := w.heap.modify g fun
      | .cells _ t frozen => .cells (l.map (Value.int k)).toArray t frozen
      | o => o }
/-- A WORLD FOR THE WITNESS: the settled one, the tables holding what their initialisers lay. -/
noncomputable def laidWorld (os : Os) : World :=
  lay (lay (lay (lay (World.holding Tryz.prog os ⟨#[], #[], []⟩) 4 .u8 (litInts Rows.laid_math_bits_deBruijn32tab)) 5 .u8 (litInts Rows.laid_math_bits_deBruijn64tab)) 2 .u64 (litInts Rows.laid_internal_strconv_uint64pow10)) 3 .u32 kTab
theorem u64_nat {x : Int} (h : (Lit.int .u64 x).wf = true) : ∃ n : Nat, x = n ∧ n < 18446744073709551616 := by
  have h2 : 0 ≤ x ∧ x ≤ 18446744073709551615 := by simpa [Lit.wf, IntKind.min, IntKind.max, IntKind.signed, IntKind.bits] using h
  exact ⟨x.toNat, by omega, by omega⟩

theorem cellsU : Tryz.prog.cellsOf 22 = 1 := by kernel_rfl
theorem cellsB : Tryz.prog.cellsOf 4 = 1 := by kernel_rfl
theorem cellsLP : Tryz.prog.cellsOf 24 = 3 := by kernel_rfl
section
variable {H : Type} {enc : TypeId × Value → H} {W : World} {base b0 : Nat} {sp : Nat → Bool} {held : Bool}
set_option maxRecDepth 100000 in
theorem open_pt {r : Reach} {v : Value} {d : DataW H} {ps : List MemPlace} (hval : Value.okWide Tryz.prog W r b0 24 v) (hd : DataW.Trod enc Tryz.prog W base sp held 24 v d ps) :
    ∃ (x y : Nat) (c : Bool), v = .agg #[.int .u64 x, .int .u64 y, .bool c] ∧ d = .agg [.lit (.int .u64 x), .lit (.int .u64 y), .lit (.bool c)] ∧ ps = [] ∧ (Lit.int .u64 (x : Int)).wf = true ∧ (Lit.int .u64 (y : Int)).wf = true ∧ x < 18446744073709551616 ∧ y < 18446744073709551616 := by
  obtain ⟨cs, rfl, hs⟩ := okWide_struct Tryz.underlying24 hval
  rw [cellsLP] at hs
  obtain ⟨fuel, hf⟩ := hd
  obtain ⟨y0, y1, y2, n, hx, -, t0, t1, t2⟩ := trod_struct3 Tryz.underlying24 hf
  simp only [cellsU, cellsB] at t0 t1 t2
  obtain ⟨a, e0, rfl, w0⟩ := DataW.trod_int Tryz.underlying22 t0
  obtain ⟨b, e1, rfl, w1⟩ := DataW.trod_int Tryz.underlying22 t1
  obtain ⟨c, e2, rfl⟩ := DataW.trod_bool Tryz.underlying4 t2
  obtain ⟨l⟩ := cs
  match l, hs with
  | [p, q, s], _ =>
    simp [Value.cells] at e0 e1 e2
    subst e0 e1 e2
    obtain ⟨x, rfl, lx⟩ := u64_nat w0
    obtain ⟨y, rfl, ly⟩ := u64_nat w1
    simp only [Prod.mk.injEq, List.append_nil] at hx
    exact ⟨x, y, c, rfl, hx.1, hx.2, w0, w1, lx, ly⟩
set_option maxRecDepth 100000 in
theorem shut_pt {x y : Int} (c : Bool) (wx : (Lit.int .u64 x).wf = true) (wy : (Lit.int .u64 y).wf = true) :
    DataW.Trod enc Tryz.prog W base sp held 24 (.agg #[.int .u64 x, .int .u64 y, .bool c]) (.agg [.lit (.int .u64 x), .lit (.int .u64 y), .lit (.bool c)]) [] := by
  refine ⟨2, ?_⟩
  have h := trod_struct3_mk (enc := enc) (w := W) (base := base) (spare := sp) (held := held) (n := 1) (cs := [.int .u64 x, .int .u64 y, .bool c]) (y0 := (.lit (.int .u64 x), [])) (y1 := (.lit (.int .u64 y), [])) (y2 := (.lit (.bool c), [])) Tryz.underlying24 (by rw [cellsLP]; rfl)
    (by simp only [cellsU]; exact trod_int_mk 0 Tryz.underlying22 wx) (by simp only [cellsU]; exact trod_int_mk 0 Tryz.underlying22 wy) (by simp only [cellsB]; simp [DataW.trod, Tryz.underlying4])
  exact h
set_option maxRecDepth 100000 in
/-- points that came in as an argument -/
theorem ars_of {a : Option Addr} {len cap : Nat} {d : DataW H} {p : List MemPlace} (h : DataW.Trod enc Tryz.prog W 0 (fun _ => true) true 25 (.slice a len cap) d p) : ∃ ps : List Tri, Ars W (.slice a len cap) ps ∧ ps.length ≤ maxLen := by
  obtain ⟨fuel, hf⟩ := h
  rcases DataW.trod_slice Tryz.underlying25 hf with ⟨hcs, -⟩ | ⟨ad, len', cap', elems, rest, n, -, hcs, -, -, hl, hm, hlen, hel, -, -⟩
  · simp [Value.cells] at hcs
    obtain ⟨rfl, rfl, rfl⟩ := hcs
    exact ⟨[], ⟨none, 0, 0, rfl, rfl, .inl rfl⟩, by simp⟩
  · simp [Value.cells] at hcs
    obtain ⟨rfl, rfl, rfl⟩ := hcs
    have key : ∀ i, i < len → ∃ t : Tri, W.cell? (ad.add (i * 3)) = some (.int .u64 (t.1 : Int)) ∧ W.cell? ((ad.add (i * 3)).add 1) = some (.int .u64 (t.2.1 : Int)) ∧ W.cell? ((ad.add (i * 3)).add 2) = some (.bool t.2.2) := by
      intro i hi
      have h1 := hel i hi
      rw [List.getElem?_eq_getElem (by omega), cellsLP, Option.bind_eq_some_iff] at h1
      obtain ⟨cs, hcs, ht⟩ := h1
      obtain ⟨-, hl3, hc3⟩ := World.cells?_some hcs
      obtain ⟨y0, y1, y2, m, hx, -, t0, t1, t2⟩ := trod_struct3 Tryz.underlying24 ht
      simp only [cellsU, cellsB] at t0 t1 t2
      obtain ⟨a, e0, -, w0⟩ := DataW.trod_int Tryz.underlying22 t0
      obtain ⟨b, e1, -, w1⟩ := DataW.trod_int Tryz.underlying22 t1
      obtain ⟨c, e2, -⟩ := DataW.trod_bool Tryz.underlying4 t2
      match cs, hl3 with
      | [p, q, s], _ =>
        simp at e0 e1 e2
        subst e0 e1 e2
        obtain ⟨x, rfl, lx⟩ := u64_nat w0
        obtain ⟨y, rfl, ly⟩ := u64_nat w1
        have k0 := hc3 0 (by simp)
        have k1 := hc3 1 (by simp)
        have k2 := hc3 2 (by simp)
        refine ⟨(x, y, c), ?_, ?_, ?_⟩
        · simpa [Addr.add] using k0
        · simpa using k1
        · simpa using k2
    by_cases h0 : len = 0
    · exact ⟨[], ⟨_, len, cap, rfl, by simp [h0], .inl h0⟩, by simp⟩
    · have hsp : ad.spot = none := by
        obtain ⟨t, k0, -⟩ := key 0 (by omega)
        simp only [Nat.zero_mul, Addr.add, if_true] at k0
        unfold World.cell? at k0
        split at k0
        · split at k0
          · cases k0
          · rename_i h; simpa using h
        · cases k0
      obtain ⟨b, o, sp⟩ := ad
      obtain rfl : sp = none := hsp
      have ha : ∀ (k i : Nat), (⟨b, k, none⟩ : Addr).add i = ⟨b, k + i, none⟩ := fun k i => by unfold Addr.add; split <;> simp_all
      have key' : ∀ i, i < len → ∃ t : Tri, W.cell? ⟨b, o + i * 3, none⟩ = some (.int .u64 (t.1 : Int)) ∧ W.cell? ⟨b, o + i * 3 + 1, none⟩ = some (.int .u64 (t.2.1 : Int)) ∧ W.cell? ⟨b, o + i * 3 + 2, none⟩ = some (.bool t.2.2) := fun i hi => by
        obtain ⟨t, k0, k1, k2⟩ := key i hi
        rw [ha] at k0 k1 k2
        rw [ha] at k1 k2
        exact ⟨t, k0, k1, k2⟩
      clear key
      refine ⟨(List.range len).attach.map fun i => (key' i.1 (List.mem_range.1 i.2)).choose, ⟨_, len, cap, rfl, by simp, .inr ⟨b, o, rfl, ?_⟩⟩, by simp; omega⟩
      have at' : ∀ i (t : Tri), ((List.range len).attach.map fun i => (key' i.1 (List.mem_range.1 i.2)).choose)[i]? = some t → ∃ hi : i < len, t = (key' i hi).choose := by
        intro i t ht
        rw [List.getElem?_map] at ht
        obtain ⟨j, hj, rfl⟩ := Option.map_eq_some_iff.1 ht
        have hj' := (List.getElem?_eq_some_iff.1 hj)
        obtain ⟨hlt, he⟩ := hj'
        have hi : i < len := by simpa using hlt
        have : j.1 = i := by rw [← he]; simp
        exact ⟨hi, by subst this; rfl⟩
      have hbl : b < W.heap.size := by
        obtain ⟨t, k0, -⟩ := key' 0 (by omega)
        exact World.block_lt_of_cell? W _ k0
      refine ⟨hbl, fun i t ht => ?_, fun i t ht => ?_, fun i t ht => ?_⟩
      · obtain ⟨hi, rfl⟩ := at' i t ht
        exact (key' i hi).choose_spec.1
      · obtain ⟨hi, rfl⟩ := at' i t ht
        exact (key' i hi).choose_spec.2.1
      · obtain ⟨hi, rfl⟩ := at' i t ht
        exact (key' i hi).choose_spec.2.2
end
end Go.Proofs.YtagnikeaellbiaaGreatDoor

/-
  Proofs that come in; toProof, eqProof.
-/
namespace Go.Proofs.YtagnikeaellbiaaGreatDoor
open Go.ChangeShapes Go.WideShapes Go.ChangeAt Go.RowKit Go.Deep
set_option linter.unusedVariables false
set_option maxRecDepth 100000 in
theorem eqF (x y : Int) (w : World) :
    Calls Tryz.prog 16 #[.agg #[.int .u64 x, .int .u64 y], .agg #[.int .u64 x, .int .u64 y]] w fun e w' => e = .returned (.bool true) ∧ Below w.heap.size w w' := by
  go_enter Tryz.func16, Tryz.ntmps16
  go_wp2
  go_ret
  exact ⟨rfl, ((Below.refl _ w).alloc (Nat.le_refl _) _).alloc (by simp) _⟩
end Go.Proofs.YtagnikeaellbiaaGreatDoor

/-
  Proofs that come in as arguments; toProof.
-/
namespace Go.Proofs.YtagnikeaellbiaaGreatDoor
open Go.ChangeShapes Go.WideShapes Go.ChangeAt Go.RowKit Go.Deep
set_option linter.unusedVariables false
theorem cellsLQ : Tryz.prog.cellsOf 42 = 2 := by kernel_rfl
section
variable {H : Type} {enc : TypeId × Value → H} {W : World} {base b0 : Nat} {sp : Nat → Bool} {held : Bool}
set_option maxRecDepth 100000 in
theorem open_prf {r : Reach} {v : Value} {d : DataW H} {ps : List MemPlace} (hval : Value.okWide Tryz.prog W r b0 42 v) (hd : DataW.Trod enc Tryz.prog W base sp held 42 v d ps) :
    ∃ (x y : Nat), v = .agg #[.int .u64 x, .int .u64 y] ∧ d = .agg [.lit (.int .u64 x), .lit (.int .u64 y)] ∧ ps = [] ∧ (Lit.int .u64 (x : Int)).wf = true ∧ (Lit.int .u64 (y : Int)).wf = true ∧ x < 18446744073709551616 ∧ y < 18446744073709551616 := by
  obtain ⟨cs, rfl, hs⟩ := okWide_struct Tryz.underlying42 hval
  rw [cellsLQ] at hs
  obtain ⟨fuel, hf⟩ := hd
  obtain ⟨y0, y1, n, hx, -, t0, t1⟩ := trod_struct2 Tryz.underlying42 hf
  simp only [cellsU] at t0 t1
  obtain ⟨a, e0, rfl, w0⟩ := DataW.trod_int Tryz.underlying22 t0
  obtain ⟨b, e1, rfl, w1⟩ := DataW.trod_int Tryz.underlying22 t1
  obtain ⟨l⟩ := cs
  match l, hs with
  | [p, q], _ =>
    simp [Value.cells] at e0 e1
    subst e0 e1
    obtain ⟨x, rfl, lx⟩ := u64_nat w0
    obtain ⟨y, rfl, ly⟩ := u64_nat w1
    simp only [Prod.mk.injEq, List.append_nil] at hx
    exact ⟨x, y, rfl, hx.1, hx.2, w0, w1, lx, ly⟩
set_option maxRecDepth 100000 in
theorem shut_prf {x y : Int} (wx : (Lit.int .u64 x).wf = true) (wy : (Lit.int .u64 y).wf = true) :
    DataW.Trod enc Tryz.prog W base sp held 42 (.agg #[.int .u64 x, .int .u64 y]) (.agg [.lit (.int .u64 x), .lit (.int .u64 y)]) [] := by
  refine ⟨2, ?_⟩
  have h := trod_struct2_mk (enc := enc) (w := W) (base := base) (spare := sp) (held := held) (n := 1) (cs := [.int .u64 x, .int .u64 y]) (y0 := (.lit (.int .u64 x), [])) (y1 := (.lit (.int .u64 y), [])) Tryz.underlying42 (by rw [cellsLQ]; rfl)
    (by simp only [cellsU]; exact trod_int_mk 0 Tryz.underlying22 wx) (by simp only [cellsU]; exact trod_int_mk 0 Tryz.underlying22 wy)
  exact h
end
set_option maxRecDepth 100000 in
theorem toF5 (x y : Int) (w : World) :
    Calls Tryz.prog 18 #[.agg #[.int .u64 x, .int .u64 y]] w fun e w' => e = .returned (.agg #[.int .u64 x, .int .u64 y]) ∧ Below w.heap.size w w' := by
  go_enter Tryz.func18, Tryz.ntmps18
  go_wp2
  refine bodyPost_ret (v := .agg #[.int .u64 x, .int .u64 y]) (by simp [results, Tryz.results18, go_sem]) rfl ⟨rfl, ?_⟩
  exact (((Below.refl _ w).alloc (Nat.le_refl _) _).alloc (by simp) _).alloc (by simp; omega) _
end Go.Proofs.YtagnikeaellbiaaGreatDoor
