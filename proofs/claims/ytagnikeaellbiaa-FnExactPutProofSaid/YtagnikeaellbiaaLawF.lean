/-
  Proofs that come in as arguments, where no variable is listed; toProof, eqProof.
-/
import Derived.Test.YtagnikeaellbiaaBase0
import Derived.Test.YtagnikeaellbiaaOwn
import Derived.Deep.Strs
namespace Go.Proofs.Ytagnikeaellbiaa
open Go.ChangeShapes Go.WideShapes Go.ChangeAt Go.RowKit Go.Deep
set_option linter.unusedVariables false
theorem cellsU : Try.prog.cellsOf 22 = 1 := by kernel_rfl
theorem cellsLQ : Try.prog.cellsOf 24 = 2 := by kernel_rfl
section
variable {H : Type} {enc : TypeId × Value → H} {W : World} {base b0 : Nat} {sp : Nat → Bool} {held : Bool}
set_option maxRecDepth 100000 in
theorem open_prf {r : Reach} {v : Value} {d : DataW H} {ps : List MemPlace} (hval : Value.okWide Try.prog W r b0 24 v) (hd : DataW.Trod enc Try.prog W base sp held 24 v d ps) :
    ∃ (x y : Nat), v = .agg #[.int .u64 x, .int .u64 y] ∧ d = .agg [.lit (.int .u64 x), .lit (.int .u64 y)] ∧ ps = [] ∧ (Lit.int .u64 (x : Int)).wf = true ∧ (Lit.int .u64 (y : Int)).wf = true ∧ x < 18446744073709551616 ∧ y < 18446744073709551616 := by
  obtain ⟨cs, rfl, hs⟩ := okWide_struct Try.underlying24 hval
  rw [cellsLQ] at hs
  obtain ⟨fuel, hf⟩ := hd
  obtain ⟨y0, y1, n, hx, -, t0, t1⟩ := trod_struct2 Try.underlying24 hf
  simp only [cellsU] at t0 t1
  obtain ⟨a, e0, rfl, w0⟩ := DataW.trod_int Try.underlying22 t0
  obtain ⟨b, e1, rfl, w1⟩ := DataW.trod_int Try.underlying22 t1
  obtain ⟨l⟩ := cs
  match l, hs with
  | [p, q], _ =>
    simp [Value.cells] at e0 e1
    subst e0 e1
    obtain ⟨x, rfl, lx⟩ := u64_nat w0
    obtain ⟨y, rfl, ly⟩ := u64_nat w1
    simp only [Prod.mk.injEq, List.append_nil] at hx
    exact ⟨x, y, rfl, hx.1, hx.2, w0, w1, lx, ly⟩
set_option maxRecDepth 100000 in
theorem shut_prf {x y : Int} (wx : (Lit.int .u64 x).wf = true) (wy : (Lit.int .u64 y).wf = true) :
    DataW.Trod enc Try.prog W base sp held 24 (.agg #[.int .u64 x, .int .u64 y]) (.agg [.lit (.int .u64 x), .lit (.int .u64 y)]) [] := by
  refine ⟨2, ?_⟩
  have h := trod_struct2_mk (enc := enc) (w := W) (base := base) (spare := sp) (held := held) (n := 1) (cs := [.int .u64 x, .int .u64 y]) (y0 := (.lit (.int .u64 x), [])) (y1 := (.lit (.int .u64 y), [])) Try.underlying24 (by rw [cellsLQ]; rfl)
    (by simp only [cellsU]; exact trod_int_mk 0 Try.underlying22 wx) (by simp only [cellsU]; exact trod_int_mk 0 Try.underlying22 wy)
  exact h
end
set_option maxRecDepth 100000 in
theorem toF5 (x y : Int) (w : World) :
    Calls Try.prog 6 #[.agg #[.int .u64 x, .int .u64 y]] w fun e w' => e = .returned (.agg #[.int .u64 x, .int .u64 y]) ∧ Below w.heap.size w w' := by
  go_enter Try.func6, Try.ntmps6
  go_wp2
  refine bodyPost_ret (v := .agg #[.int .u64 x, .int .u64 y]) (by simp [results, Try.results6, go_sem]) rfl ⟨rfl, ?_⟩
  exact (((Below.refl _ w).alloc (Nat.le_refl _) _).alloc (by simp) _).alloc (by simp; omega) _
set_option maxRecDepth 100000 in
theorem eqF (x y : Int) (w : World) :
    Calls Try.prog 10 #[.agg #[.int .u64 x, .int .u64 y], .agg #[.int .u64 x, .int .u64 y]] w fun e w' => e = .returned (.bool true) ∧ Below w.heap.size w w' := by
  go_enter Try.func10, Try.ntmps10
  go_wp2
  go_ret
  exact ⟨rfl, ((Below.refl _ w).alloc (Nat.le_refl _) _).alloc (by simp) _⟩

/-- a block that holds a proof's two words -/
def K2 (W : World) (b : Nat) (t : TypeId) (x y : Int) : Prop := W.heap[b]? = some (.cells #[.int .u64 x, .int .u64 y] t)
theorem K2.new (w : World) (t : TypeId) (x y : Int) : K2 (w.alloc (.cells #[.int .u64 x, .int .u64 y] t)) w.heap.size t x y := heap_alloc_new w _
theorem K2.keep {W V : World} {b : Nat} {t : TypeId} {x y : Int} (h : K2 W b t x y) (k : Below W.heap.size W V) : K2 V b t x y := (k.block _ (Array.getElem?_eq_some_iff.1 h).1).trans h
theorem K2.alloc {W : World} {b : Nat} {t : TypeId} {x y : Int} (h : K2 W b t x y) (o : Obj) : K2 (W.alloc o) b t x y := h.keep ((Below.refl _ W).alloc (Nat.le_refl _) o)
theorem K2.c0 {W : World} {b : Nat} {t : TypeId} {x y : Int} (h : K2 W b t x y) : W.cell? ⟨b, 0, none⟩ = some (.int .u64 x) := by unfold K2 at h; simp [World.cell?, h]
theorem K2.c1 {W : World} {b : Nat} {t : TypeId} {x y : Int} (h : K2 W b t x y) : W.cell? ⟨b, 1, none⟩ = some (.int .u64 y) := by unfold K2 at h; simp [World.cell?, h]
theorem keepK {n : Nat} {w w1 w2 : World} (h : Below n w w1) (hs : n ≤ w1.heap.size) (k : Below w1.heap.size w1 w2) : Below n w w2 := h.trans (k.mono hs)
end Go.Proofs.Ytagnikeaellbiaa
