import Derived.Test.YtenggagjgmonoaaPool
import Derived.Test.YtenggagjgmonoaaFvP
namespace Go.Proofs.Ytenggagjgmonoaa
open Go.RowKit M
set_option linter.unusedVariables false

/-- a contract: the call gives this number -/
def CalN (F : FuncId) (args : Array Value) (r : Int) : Prop := ∀ w : World, Calls Try.prog F args w fun e w' => e = .returned (.agg #[.int .u64 r]) ∧ Below w.heap.size w w'
section
variable {ev : Operand → Value} {w : World} {dst : Option Tmp} {ty : TypeId} {ps : String} {af : Array Edge} {gd : Option (Nat × Bool)} {x y : Operand} {b i : Nat}
theorem exec_call1 {F : FuncId} {at_ : Array TypeId} {u : Value} (hF : ev (.func F) = .func (.func F) #[] #[]) (hcf : ∀ (args : Array Value) (w : World), (callFunc F args).run Try.prog w = .ok (.enter F args) w) (hx : ev x = u) :
    (execOp ev { dst := dst, op := .call { callee := .value (.func F), args := #[x], argTypes := at_ }, type := ty, pos := ps, after := af, guard := gd }).run Try.prog w = .ok (.enter F #[u]) w := by
  simp [execOp, hx, hF, hcf, go_sem]
theorem exec_call2 {F : FuncId} {at_ : Array TypeId} {u v : Value} (hF : ev (.func F) = .func (.func F) #[] #[]) (hcf : ∀ (args : Array Value) (w : World), (callFunc F args).run Try.prog w = .ok (.enter F args) w) (hx : ev x = u) (hy : ev y = v) :
    (execOp ev { dst := dst, op := .call { callee := .value (.func F), args := #[x, y], argTypes := at_ }, type := ty, pos := ps, after := af, guard := gd }).run Try.prog w = .ok (.enter F #[u, v]) w := by
  simp [execOp, hx, hy, hF, hcf, go_sem]
theorem exec_call4 {F : FuncId} {at_ : Array TypeId} {x3 x4 : Operand} {u v u3 u4 : Value} (hF : ev (.func F) = .func (.func F) #[] #[]) (hcf : ∀ (args : Array Value) (w : World), (callFunc F args).run Try.prog w = .ok (.enter F args) w) (hx : ev x = u) (hy : ev y = v) (h3 : ev x3 = u3) (h4 : ev x4 = u4) :
    (execOp ev { dst := dst, op := .call { callee := .value (.func F), args := #[x, y, x3, x4], argTypes := at_ }, type := ty, pos := ps, after := af, guard := gd }).run Try.prog w = .ok (.enter F #[u, v, u3, u4]) w := by
  simp [execOp, hx, hy, h3, h4, hF, hcf, go_sem]
theorem exec_move {u : Value} (hx : ev x = u) :
    (execOp ev { dst := dst, op := .move x, type := ty, pos := ps, after := af, guard := gd }).run Try.prog w = .ok (.value u) w := by
  simp [execOp, hx, go_sem]
theorem exec_loadN {z : Int} (hx : ev x = .pointer (some ⟨b, i, none⟩)) (hc : w.cell? ⟨b, i, none⟩ = some (.int .u64 z)) :
    (execOp ev { dst := dst, op := .load 39 x, type := ty, pos := ps, after := af, guard := gd }).run Try.prog w = .ok (.value (.agg #[.int .u64 z])) w := by
  simp [execOp, hx, hc, go_sem]
theorem exec_load0 (hx : ev x = .pointer (some ⟨b, i, none⟩)) :
    (execOp ev { dst := dst, op := .load 37 x, type := ty, pos := ps, after := af, guard := gd }).run Try.prog w = .ok (.value (.agg #[])) w := by
  simp [execOp, hx, go_sem]
theorem exec_alloc : (execOp ev { dst := dst, op := .alloc 39, type := ty, pos := ps, after := af, guard := gd }).run Try.prog w = .ok (.value (.pointer (some ⟨w.heap.size, 0, none⟩))) (w.alloc (.cells #[.int .u64 0] 39)) := by
  simp [execOp, go_sem]
theorem exec_store {z z0 : Int} (hx : ev x = .pointer (some ⟨b, 0, none⟩)) (hy : ev y = .agg #[.int .u64 z]) (hr : R1 w b z0) :
    (execOp ev { dst := dst, op := .store 39 x y, type := ty, pos := ps, after := af, guard := gd }).run Try.prog w = .ok .skip (w.setCell ⟨b, 0, none⟩ (.int .u64 z)) := by
  have h1 := hr.cell
  have h2 := hr.frz
  simp [execOp, hx, hy, h1, h2, go_sem]
theorem cf_times (args : Array Value) (w : World) : (callFunc 17 args).run Try.prog w = .ok (.enter 17 args) w := by kernel_rfl
theorem cf_minus (args : Array Value) (w : World) : (callFunc 23 args).run Try.prog w = .ok (.enter 23 args) w := by kernel_rfl
theorem cf_plus (args : Array Value) (w : World) : (callFunc 18 args).run Try.prog w = .ok (.enter 18 args) w := by kernel_rfl
theorem cf_reduced (args : Array Value) (w : World) : (callFunc 13 args).run Try.prog w = .ok (.enter 13 args) w := by kernel_rfl
end

section
variable {A : Act} {w W0 : World} {dst : Option Tmp} {ty : TypeId} {ps : String} {af : Array Edge} {gd : Option (Nat × Bool)} {x y x3 x4 : Operand} {b i : Nat}
theorem do_call1 {F : FuncId} {at_ : Array TypeId} {u r : Value} (hcf : ∀ (args : Array Value) (w : World), (callFunc F args).run Try.prog w = .ok (.enter F args) w) (hx : A.eval x = u)
    (hc : Calls Try.prog F #[u] w fun e w' => e = .returned r ∧ Below w.heap.size w w') :
    Does Try.prog { dst := dst, op := .call { callee := .value (.func F), args := #[x], argTypes := at_ }, type := ty, pos := ps, after := af, guard := gd } A w fun v' w' => v' = r ∧ Below w.heap.size w w' :=
  does_call (exec_call1 rfl hcf hx) (hc.mono fun _ _ ⟨h, h'⟩ => ⟨r, h, rfl, h'⟩)
theorem do_call2 {F : FuncId} {at_ : Array TypeId} {u v r : Value} (hcf : ∀ (args : Array Value) (w : World), (callFunc F args).run Try.prog w = .ok (.enter F args) w) (hx : A.eval x = u) (hy : A.eval y = v)
    (hc : Calls Try.prog F #[u, v] w fun e w' => e = .returned r ∧ Below w.heap.size w w') :
    Does Try.prog { dst := dst, op := .call { callee := .value (.func F), args := #[x, y], argTypes := at_ }, type := ty, pos := ps, after := af, guard := gd } A w fun v' w' => v' = r ∧ Below w.heap.size w w' :=
  does_call (exec_call2 rfl hcf hx hy) (hc.mono fun _ _ ⟨h, h'⟩ => ⟨r, h, rfl, h'⟩)
theorem do_call4 {F : FuncId} {at_ : Array TypeId} {u v u3 u4 r : Value} (hcf : ∀ (args : Array Value) (w : World), (callFunc F args).run Try.prog w = .ok (.enter F args) w) (hx : A.eval x = u) (hy : A.eval y = v) (h3 : A.eval x3 = u3) (h4 : A.eval x4 = u4)
    (hc : Calls Try.prog F #[u, v, u3, u4] w fun e w' => e = .returned r ∧ Below w.heap.size w w') :
    Does Try.prog { dst := dst, op := .call { callee := .value (.func F), args := #[x, y, x3, x4], argTypes := at_ }, type := ty, pos := ps, after := af, guard := gd } A w fun v' w' => v' = r ∧ Below w.heap.size w w' :=
  does_call (exec_call4 rfl hcf hx hy h3 h4) (hc.mono fun _ _ ⟨h, h'⟩ => ⟨r, h, rfl, h'⟩)
theorem do_loadN {z : Int} (hx : A.eval x = .pointer (some ⟨b, 0, none⟩)) (hr : R1 W0 b z) (hB : Below W0.heap.size W0 w) :
    Does Try.prog { dst := dst, op := .load 39 x, type := ty, pos := ps, after := af, guard := gd } A w fun v' w' => v' = .agg #[.int .u64 z] ∧ Below w.heap.size w w' :=
  does_value (exec_loadN hx (hr.keep hB).cell) ⟨rfl, Below.refl _ _⟩
theorem do_loadC {z : Int} (hx : A.eval x = .pointer (some ⟨b, i, none⟩)) (hr : W0.cell? ⟨b, i, none⟩ = some (.int .u64 z)) (hB : Below W0.heap.size W0 w) :
    Does Try.prog { dst := dst, op := .load 39 x, type := ty, pos := ps, after := af, guard := gd } A w fun v' w' => v' = .agg #[.int .u64 z] ∧ Below w.heap.size w w' :=
  does_value (exec_loadN hx (keepC hr hB)) ⟨rfl, Below.refl _ _⟩
theorem do_load0 (hx : A.eval x = .pointer (some ⟨b, i, none⟩)) :
    Does Try.prog { dst := dst, op := .load 37 x, type := ty, pos := ps, after := af, guard := gd } A w fun v' w' => v' = .agg #[] ∧ Below w.heap.size w w' :=
  does_value (exec_load0 hx) ⟨rfl, Below.refl _ _⟩
set_option maxRecDepth 100000 in
theorem do_move {u : Value} (hx : A.eval x = u) :
    Does Try.prog { dst := dst, op := .move x, type := ty, pos := ps, after := af, guard := gd } A w fun v' w' => v' = u ∧ Below w.heap.size w w' := by
  have h := exec_move (ev := A.eval) (w := w) (dst := dst) (ty := ty) (ps := ps) (af := af) (gd := gd) hx
  exact does_value h ⟨rfl, Below.refl _ _⟩
set_option maxRecDepth 100000 in
theorem do_new : Does Try.prog { dst := dst, op := .alloc 39, type := ty, pos := ps, after := af, guard := gd } A w fun v w' => v = .pointer (some ⟨w.heap.size, 0, none⟩) ∧ w' = w.alloc (.cells #[.int .u64 0] 39) :=
  by
  have h := exec_alloc (ev := A.eval) (w := w) (dst := dst) (ty := ty) (ps := ps) (af := af) (gd := gd)
  exact does_value h ⟨rfl, rfl⟩
theorem do_put {z : Int} (hx : A.eval x = .pointer (some ⟨b, 0, none⟩)) (hy : A.eval y = .agg #[.int .u64 z]) (hr : w.heap[b]? = some (.cells #[.int .u64 0] 39)) :
    Does Try.prog { dst := dst, op := .store 39 x y, type := ty, pos := ps, after := af, guard := gd } A w fun _ w' => Turned b (.cells #[.int .u64 z] 39) w w' := by
  have h1 : R1 w b 0 := hr
  refine does_skip (exec_store hx hy h1) ⟨rfl, rfl, rfl, by simp [World.setCell], h1.set z, fun k hk => ?_⟩
  simp [World.setCell, Array.getElem?_modify, Ne.symm hk]
end
end Go.Proofs.Ytenggagjgmonoaa
