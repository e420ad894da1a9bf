import Derived.Test.YtmbphmamdkgjjaaBase0
import Derived.Test.YtmbphmamdkgjjaaCrvD
import Derived.Deep.Strs
namespace Go.Proofs.Ytmbphmamdkgjjaa
open Go.ChangeShapes Go.WideShapes Go.ChangeAt Go.RowKit Go.Deep M
set_option linter.unusedVariables false

theorem cellsU : Try.prog.cellsOf 22 = 1 := by kernel_rfl
theorem cellsB : Try.prog.cellsOf 4 = 1 := by kernel_rfl
theorem cellsLP : Try.prog.cellsOf 24 = 3 := by kernel_rfl
section
variable {H : Type} {enc : TypeId × Value → H} {W : World} {base b0 : Nat} {sp : Nat → Bool} {held : Bool}
set_option maxRecDepth 100000 in
theorem open_pt {r : Reach} {v : Value} {d : DataW H} {ps : List MemPlace} (hval : Value.okWide Try.prog W r b0 24 v) (hd : DataW.Trod enc Try.prog W base sp held 24 v d ps) :
    ∃ (x y : Nat) (c : Bool), v = .agg #[.int .u64 x, .int .u64 y, .bool c] ∧ d = .agg [.lit (.int .u64 x), .lit (.int .u64 y), .lit (.bool c)] ∧ ps = [] ∧ (Lit.int .u64 (x : Int)).wf = true ∧ (Lit.int .u64 (y : Int)).wf = true ∧ x < 18446744073709551616 ∧ y < 18446744073709551616 := by
  obtain ⟨cs, rfl, hs⟩ := okWide_struct Try.underlying24 hval
  rw [cellsLP] at hs
  obtain ⟨fuel, hf⟩ := hd
  obtain ⟨y0, y1, y2, n, hx, -, t0, t1, t2⟩ := trod_struct3 Try.underlying24 hf
  simp only [cellsU, cellsB] at t0 t1 t2
  obtain ⟨a, e0, rfl, w0⟩ := DataW.trod_int Try.underlying22 t0
  obtain ⟨b, e1, rfl, w1⟩ := DataW.trod_int Try.underlying22 t1
  obtain ⟨c, e2, rfl⟩ := DataW.trod_bool Try.underlying4 t2
  obtain ⟨l⟩ := cs
  match l, hs with
  | [p, q, s], _ =>
    simp [Value.cells] at e0 e1 e2
    subst e0 e1 e2
    obtain ⟨x, rfl, lx⟩ := u64_nat w0
    obtain ⟨y, rfl, ly⟩ := u64_nat w1
    simp only [Prod.mk.injEq, List.append_nil] at hx
    exact ⟨x, y, c, rfl, hx.1, hx.2, w0, w1, lx, ly⟩
set_option maxRecDepth 100000 in
theorem shut_pt {x y : Int} (c : Bool) (wx : (Lit.int .u64 x).wf = true) (wy : (Lit.int .u64 y).wf = true) :
    DataW.Trod enc Try.prog W base sp held 24 (.agg #[.int .u64 x, .int .u64 y, .bool c]) (.agg [.lit (.int .u64 x), .lit (.int .u64 y), .lit (.bool c)]) [] := by
  refine ⟨2, ?_⟩
  have h := trod_struct3_mk (enc := enc) (w := W) (base := base) (spare := sp) (held := held) (n := 1) (cs := [.int .u64 x, .int .u64 y, .bool c]) (y0 := (.lit (.int .u64 x), [])) (y1 := (.lit (.int .u64 y), [])) (y2 := (.lit (.bool c), [])) Try.underlying24 (by rw [cellsLP]; rfl)
    (by simp only [cellsU]; exact trod_int_mk 0 Try.underlying22 wx) (by simp only [cellsU]; exact trod_int_mk 0 Try.underlying22 wy) (by simp only [cellsB]; simp [DataW.trod, Try.underlying4])
  exact h
end

set_option maxRecDepth 100000 in
set_option maxHeartbeats 2000000 in
theorem toP (x y : Int) (c : Bool) (w : World) :
    Calls Try.prog 10 #[.agg #[.int .u64 x, .int .u64 y, .bool c]] w fun e w' => e = .returned (.agg #[.int .u64 x, .int .u64 y, .bool c]) ∧ Below w.heap.size w w' := by
  go_enter Try.func10, Try.ntmps10
  go_wp2
  refine bodyPost_ret (v := .agg #[.int .u64 x, .int .u64 y, .bool c]) (by simp [results, Try.results10, go_sem]) rfl ⟨rfl, ?_⟩
  exact (((Below.refl _ w).alloc (Nat.le_refl _) _).alloc (by simp) _).alloc (by simp; omega) _
set_option maxRecDepth 100000 in
set_option maxHeartbeats 2000000 in
theorem eqP (x y : Int) (c : Bool) (w : World) :
    Calls Try.prog 16 #[.agg #[.int .u64 x, .int .u64 y, .bool c], .agg #[.int .u64 x, .int .u64 y, .bool c]] w fun e w' => e = .returned (.bool true) ∧ Below w.heap.size w w' := by
  go_enter Try.func16, Try.ntmps16
  go_wp2
  go_ret
  exact ⟨rfl, ((Below.refl _ w).alloc (Nat.le_refl _) _).alloc (by simp) _⟩
end Go.Proofs.Ytmbphmamdkgjjaa
