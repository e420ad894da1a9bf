import Derived.Test.YtagnikeaellbiaaGreatDoorMrg8
import Derived.Test.YtagnikeaellbiaaGreatDoorMrg0
import Derived.Test.YtagnikeaellbiaaGreatDoorChecked
import Derived.WalkKit
import Derived.ProofKit
namespace Go.Proofs.YtagnikeaellbiaaGreatDoor
open Go.RowKit
set_option linter.unusedVariables false
set_option maxRecDepth 100000
section
variable {A : Act} {w : World} {dst : Option Tmp} {ty : TypeId} {ps : String} {af : Array Edge} {gd : Option (Nat × Bool)} {x y : Operand} {b i : Nat}
theorem doV_move {u : Value} (hx : A.eval x = u) :
    Does Tryz.prog { dst := dst, op := .move x, type := ty, pos := ps, after := af, guard := gd } A w fun v' w' => v' = u ∧ Below w.heap.size w w' := by
  have h : (execOp A.eval { dst := dst, op := .move x, type := ty, pos := ps, after := af, guard := gd }).run Tryz.prog w = .ok (.value (u)) w := by generalize A.eval = ev at *; simp [execOp, hx, go_sem]
  exact does_value h ⟨rfl, Below.refl _ _⟩
theorem doV_assign {u : Value} (hx : A.eval x = u) :
    Does Tryz.prog { dst := dst, op := .assign x, type := ty, pos := ps, after := af, guard := gd } A w fun v' w' => v' = u ∧ Below w.heap.size w w' := by
  have h : (execOp A.eval { dst := dst, op := .assign x, type := ty, pos := ps, after := af, guard := gd }).run Tryz.prog w = .ok (.value (u)) w := by generalize A.eval = ev at *; simp [execOp, hx, go_sem]
  exact does_value h ⟨rfl, Below.refl _ _⟩
theorem ld_pt {v0 v1 v2 : Value} (hx : A.eval x = .pointer (some ⟨b, i, none⟩)) (h0 : w.cell? ⟨b, i, none⟩ = some v0) (h1 : w.cell? ⟨b, i + 1, none⟩ = some v1) (h2 : w.cell? ⟨b, i + 2, none⟩ = some v2) :
    Does Tryz.prog { dst := dst, op := .load 27 x, type := ty, pos := ps, after := af, guard := gd } A w fun v' w' => v' = .agg #[v0, v1, v2] ∧ Below w.heap.size w w' := by
  have h : (execOp A.eval { dst := dst, op := .load 27 x, type := ty, pos := ps, after := af, guard := gd }).run Tryz.prog w = .ok (.value (.agg #[v0, v1, v2])) w := by generalize A.eval = ev at *; simp [execOp, hx, h0, h1, h2, go_sem]
  exact does_value h ⟨rfl, Below.refl _ _⟩
theorem ld_cp {v0 v1 v2 : Value} (hx : A.eval x = .pointer (some ⟨b, i, none⟩)) (h0 : w.cell? ⟨b, i, none⟩ = some v0) (h1 : w.cell? ⟨b, i + 1, none⟩ = some v1) (h2 : w.cell? ⟨b, i + 2, none⟩ = some v2) :
    Does Tryz.prog { dst := dst, op := .load 62 x, type := ty, pos := ps, after := af, guard := gd } A w fun v' w' => v' = .agg #[v0, v1, v2] ∧ Below w.heap.size w w' := by
  have h : (execOp A.eval { dst := dst, op := .load 62 x, type := ty, pos := ps, after := af, guard := gd }).run Tryz.prog w = .ok (.value (.agg #[v0, v1, v2])) w := by generalize A.eval = ev at *; simp [execOp, hx, h0, h1, h2, go_sem]
  exact does_value h ⟨rfl, Below.refl _ _⟩
theorem ld_nN {v0 : Value} (hx : A.eval x = .pointer (some ⟨b, i, none⟩)) (h0 : w.cell? ⟨b, i, none⟩ = some v0) :
    Does Tryz.prog { dst := dst, op := .load 77 x, type := ty, pos := ps, after := af, guard := gd } A w fun v' w' => v' = .agg #[v0] ∧ Below w.heap.size w w' := by
  have h : (execOp A.eval { dst := dst, op := .load 77 x, type := ty, pos := ps, after := af, guard := gd }).run Tryz.prog w = .ok (.value (.agg #[v0])) w := by generalize A.eval = ev at *; simp [execOp, hx, h0, go_sem]
  exact does_value h ⟨rfl, Below.refl _ _⟩
theorem ld_u64 {v0 : Value} (hx : A.eval x = .pointer (some ⟨b, i, none⟩)) (h0 : w.cell? ⟨b, i, none⟩ = some v0) :
    Does Tryz.prog { dst := dst, op := .load 22 x, type := ty, pos := ps, after := af, guard := gd } A w fun v' w' => v' = v0 ∧ Below w.heap.size w w' := by
  have h : (execOp A.eval { dst := dst, op := .load 22 x, type := ty, pos := ps, after := af, guard := gd }).run Tryz.prog w = .ok (.value (v0)) w := by generalize A.eval = ev at *; simp [execOp, hx, h0, go_sem]
  exact does_value h ⟨rfl, Below.refl _ _⟩
theorem ix_pts {k m cap : Nat} (hx : A.eval x = .slice (some ⟨b, i, none⟩) m cap) (hy : A.eval y = .int .i64 (k : Int)) (hk : k < m) :
    Does Tryz.prog { dst := dst, op := .indexAddr 31 x y, type := ty, pos := ps, after := af, guard := gd } A w fun v' w' => v' = .pointer (some ⟨b, i + k * 3, none⟩) ∧ Below w.heap.size w w' := by
  have h1 : (k : Int) < (m : Int) := by omega
  have h : (execOp A.eval { dst := dst, op := .indexAddr 31 x y, type := ty, pos := ps, after := af, guard := gd }).run Tryz.prog w = .ok (.value (.pointer (some ⟨b, i + k * 3, none⟩))) w := by generalize A.eval = ev at *; simp [execOp, hx, hy, h1, go_sem]
  exact does_value h ⟨rfl, Below.refl _ _⟩
theorem ix_u64s {k m cap : Nat} (hx : A.eval x = .slice (some ⟨b, i, none⟩) m cap) (hy : A.eval y = .int .i64 (k : Int)) (hk : k < m) :
    Does Tryz.prog { dst := dst, op := .indexAddr 57 x y, type := ty, pos := ps, after := af, guard := gd } A w fun v' w' => v' = .pointer (some ⟨b, i + k, none⟩) ∧ Below w.heap.size w w' := by
  have h1 : (k : Int) < (m : Int) := by omega
  have h : (execOp A.eval { dst := dst, op := .indexAddr 57 x y, type := ty, pos := ps, after := af, guard := gd }).run Tryz.prog w = .ok (.value (.pointer (some ⟨b, i + k, none⟩))) w := by generalize A.eval = ev at *; simp [execOp, hx, hy, h1, go_sem]
  exact does_value h ⟨rfl, Below.refl _ _⟩
theorem ix_cps {k m cap : Nat} (hx : A.eval x = .slice (some ⟨b, i, none⟩) m cap) (hy : A.eval y = .int .i64 (k : Int)) (hk : k < m) :
    Does Tryz.prog { dst := dst, op := .indexAddr 63 x y, type := ty, pos := ps, after := af, guard := gd } A w fun v' w' => v' = .pointer (some ⟨b, i + k * 3, none⟩) ∧ Below w.heap.size w w' := by
  have h1 : (k : Int) < (m : Int) := by omega
  have h : (execOp A.eval { dst := dst, op := .indexAddr 63 x y, type := ty, pos := ps, after := af, guard := gd }).run Tryz.prog w = .ok (.value (.pointer (some ⟨b, i + k * 3, none⟩))) w := by generalize A.eval = ev at *; simp [execOp, hx, hy, h1, go_sem]
  exact does_value h ⟨rfl, Below.refl _ _⟩
theorem ix_nNs {k m cap : Nat} (hx : A.eval x = .slice (some ⟨b, i, none⟩) m cap) (hy : A.eval y = .int .i64 (k : Int)) (hk : k < m) :
    Does Tryz.prog { dst := dst, op := .indexAddr 98 x y, type := ty, pos := ps, after := af, guard := gd } A w fun v' w' => v' = .pointer (some ⟨b, i + k, none⟩) ∧ Below w.heap.size w w' := by
  have h1 : (k : Int) < (m : Int) := by omega
  have h : (execOp A.eval { dst := dst, op := .indexAddr 98 x y, type := ty, pos := ps, after := af, guard := gd }).run Tryz.prog w = .ok (.value (.pointer (some ⟨b, i + k, none⟩))) w := by generalize A.eval = ev at *; simp [execOp, hx, hy, h1, go_sem]
  exact does_value h ⟨rfl, Below.refl _ _⟩
theorem ld_bat {v0 v1 v2 v3 v4 v5 : Value} (hx : A.eval x = .pointer (some ⟨b, i, none⟩)) (h0 : w.cell? ⟨b, i, none⟩ = some v0) (h1 : w.cell? ⟨b, i + 1, none⟩ = some v1) (h2 : w.cell? ⟨b, i + 2, none⟩ = some v2) (h3 : w.cell? ⟨b, i + 3, none⟩ = some v3) (h4 : w.cell? ⟨b, i + 4, none⟩ = some v4) (h5 : w.cell? ⟨b, i + 5, none⟩ = some v5) :
    Does Tryz.prog { dst := dst, op := .load 65 x, type := ty, pos := ps, after := af, guard := gd } A w fun v' w' => v' = .agg #[v0, v1, v2, v3, v4, v5] ∧ Below w.heap.size w w' := by
  have h : (execOp A.eval { dst := dst, op := .load 65 x, type := ty, pos := ps, after := af, guard := gd }).run Tryz.prog w = .ok (.value (.agg #[v0, v1, v2, v3, v4, v5])) w := by generalize A.eval = ev at *; simp [execOp, hx, h0, h1, h2, h3, h4, h5, go_sem]
  exact does_value h ⟨rfl, Below.refl _ _⟩
theorem ld_ctx {v0 : Value} (hx : A.eval x = .pointer (some ⟨b, i, none⟩)) (h0 : w.cell? ⟨b, i, none⟩ = some v0) :
    Does Tryz.prog { dst := dst, op := .load 60 x, type := ty, pos := ps, after := af, guard := gd } A w fun v' w' => v' = v0 ∧ Below w.heap.size w w' := by
  have h : (execOp A.eval { dst := dst, op := .load 60 x, type := ty, pos := ps, after := af, guard := gd }).run Tryz.prog w = .ok (.value (v0)) w := by generalize A.eval = ev at *; simp [execOp, hx, h0, go_sem]
  exact does_value h ⟨rfl, Below.refl _ _⟩
theorem ld_cpsl {v0 : Value} (hx : A.eval x = .pointer (some ⟨b, i, none⟩)) (h0 : w.cell? ⟨b, i, none⟩ = some v0) :
    Does Tryz.prog { dst := dst, op := .load 63 x, type := ty, pos := ps, after := af, guard := gd } A w fun v' w' => v' = v0 ∧ Below w.heap.size w w' := by
  have h : (execOp A.eval { dst := dst, op := .load 63 x, type := ty, pos := ps, after := af, guard := gd }).run Tryz.prog w = .ok (.value (v0)) w := by generalize A.eval = ev at *; simp [execOp, hx, h0, go_sem]
  exact does_value h ⟨rfl, Below.refl _ _⟩
theorem fa_bat0 (hx : A.eval x = .pointer (some ⟨b, i, none⟩)) :
    Does Tryz.prog { dst := dst, op := .fieldAddr 65 x 0, type := ty, pos := ps, after := af, guard := gd } A w fun v' w' => v' = .pointer (some ⟨b, i, none⟩) ∧ Below w.heap.size w w' := by
  have h : (execOp A.eval { dst := dst, op := .fieldAddr 65 x 0, type := ty, pos := ps, after := af, guard := gd }).run Tryz.prog w = .ok (.value (.pointer (some ⟨b, i, none⟩))) w := by generalize A.eval = ev at *; simp [execOp, hx, go_sem]
  exact does_value h ⟨rfl, Below.refl _ _⟩
theorem fa_bat1 (hx : A.eval x = .pointer (some ⟨b, i, none⟩)) :
    Does Tryz.prog { dst := dst, op := .fieldAddr 65 x 1, type := ty, pos := ps, after := af, guard := gd } A w fun v' w' => v' = .pointer (some ⟨b, i + 1, none⟩) ∧ Below w.heap.size w w' := by
  have h : (execOp A.eval { dst := dst, op := .fieldAddr 65 x 1, type := ty, pos := ps, after := af, guard := gd }).run Tryz.prog w = .ok (.value (.pointer (some ⟨b, i + 1, none⟩))) w := by generalize A.eval = ev at *; simp [execOp, hx, go_sem]
  exact does_value h ⟨rfl, Below.refl _ _⟩
theorem fa_bat2 (hx : A.eval x = .pointer (some ⟨b, i, none⟩)) :
    Does Tryz.prog { dst := dst, op := .fieldAddr 65 x 2, type := ty, pos := ps, after := af, guard := gd } A w fun v' w' => v' = .pointer (some ⟨b, i + 4, none⟩) ∧ Below w.heap.size w w' := by
  have h : (execOp A.eval { dst := dst, op := .fieldAddr 65 x 2, type := ty, pos := ps, after := af, guard := gd }).run Tryz.prog w = .ok (.value (.pointer (some ⟨b, i + 4, none⟩))) w := by generalize A.eval = ev at *; simp [execOp, hx, go_sem]
  exact does_value h ⟨rfl, Below.refl _ _⟩
theorem fa_bat3 (hx : A.eval x = .pointer (some ⟨b, i, none⟩)) :
    Does Tryz.prog { dst := dst, op := .fieldAddr 65 x 3, type := ty, pos := ps, after := af, guard := gd } A w fun v' w' => v' = .pointer (some ⟨b, i + 5, none⟩) ∧ Below w.heap.size w w' := by
  have h : (execOp A.eval { dst := dst, op := .fieldAddr 65 x 3, type := ty, pos := ps, after := af, guard := gd }).run Tryz.prog w = .ok (.value (.pointer (some ⟨b, i + 5, none⟩))) w := by generalize A.eval = ev at *; simp [execOp, hx, go_sem]
  exact does_value h ⟨rfl, Below.refl _ _⟩
theorem mi_cp {u : Value} (hx : A.eval x = u) :
    Does Tryz.prog { dst := dst, op := .makeInterface 62 x, type := ty, pos := ps, after := af, guard := gd } A w fun v' w' => v' = .iface 62 u ∧ Below w.heap.size w w' := by
  have h : (execOp A.eval { dst := dst, op := .makeInterface 62 x, type := ty, pos := ps, after := af, guard := gd }).run Tryz.prog w = .ok (.value (.iface 62 u)) w := by generalize A.eval = ev at *; simp [execOp, hx, go_sem]
  exact does_value h ⟨rfl, Below.refl _ _⟩
theorem mi_sized {u : Value} (hx : A.eval x = u) :
    Does Tryz.prog { dst := dst, op := .makeInterface 130 x, type := ty, pos := ps, after := af, guard := gd } A w fun v' w' => v' = .iface 130 u ∧ Below w.heap.size w w' := by
  have h : (execOp A.eval { dst := dst, op := .makeInterface 130 x, type := ty, pos := ps, after := af, guard := gd }).run Tryz.prog w = .ok (.value (.iface 130 u)) w := by generalize A.eval = ev at *; simp [execOp, hx, go_sem]
  exact does_value h ⟨rfl, Below.refl _ _⟩
theorem mi_plain {u : Value} (hx : A.eval x = u) :
    Does Tryz.prog { dst := dst, op := .makeInterface 133 x, type := ty, pos := ps, after := af, guard := gd } A w fun v' w' => v' = .iface 133 u ∧ Below w.heap.size w w' := by
  have h : (execOp A.eval { dst := dst, op := .makeInterface 133 x, type := ty, pos := ps, after := af, guard := gd }).run Tryz.prog w = .ok (.value (.iface 133 u)) w := by generalize A.eval = ev at *; simp [execOp, hx, go_sem]
  exact does_value h ⟨rfl, Below.refl _ _⟩
theorem mi_index {u : Value} (hx : A.eval x = u) :
    Does Tryz.prog { dst := dst, op := .makeInterface 132 x, type := ty, pos := ps, after := af, guard := gd } A w fun v' w' => v' = .iface 132 u ∧ Below w.heap.size w w' := by
  have h : (execOp A.eval { dst := dst, op := .makeInterface 132 x, type := ty, pos := ps, after := af, guard := gd }).run Tryz.prog w = .ok (.value (.iface 132 u)) w := by generalize A.eval = ev at *; simp [execOp, hx, go_sem]
  exact does_value h ⟨rfl, Below.refl _ _⟩
theorem cl0 {F : FuncId} {at_ : Array TypeId} {r : Value} (hcf : ∀ (args : Array Value) (w : World), (callFunc F args).run Tryz.prog w = .ok (.enter F args) w) 
    (hc : Calls Tryz.prog F #[] w fun e w' => e = .returned r ∧ Below w.heap.size w w') :
    Does Tryz.prog { dst := dst, op := .call { callee := .value (.func F), args := #[], argTypes := at_ }, type := ty, pos := ps, after := af, guard := gd } A w fun v' w' => v' = r ∧ Below w.heap.size w w' := by
  have hF : A.eval (.func F) = .func (.func F) #[] #[] := rfl
  have h : (execOp A.eval { dst := dst, op := .call { callee := .value (.func F), args := #[], argTypes := at_ }, type := ty, pos := ps, after := af, guard := gd }).run Tryz.prog w = .ok (.enter F #[]) w := by generalize A.eval = ev at *; simp [execOp, hF, hcf, go_sem]
  exact does_call h (hc.mono fun _ _ ⟨h, h'⟩ => ⟨r, h, rfl, h'⟩)
theorem cl1 {F : FuncId} {at_ : Array TypeId} {r : Value} {x0 : Operand} {u0 : Value} (hcf : ∀ (args : Array Value) (w : World), (callFunc F args).run Tryz.prog w = .ok (.enter F args) w) (h0 : A.eval x0 = u0)
    (hc : Calls Tryz.prog F #[u0] w fun e w' => e = .returned r ∧ Below w.heap.size w w') :
    Does Tryz.prog { dst := dst, op := .call { callee := .value (.func F), args := #[x0], argTypes := at_ }, type := ty, pos := ps, after := af, guard := gd } A w fun v' w' => v' = r ∧ Below w.heap.size w w' := by
  have hF : A.eval (.func F) = .func (.func F) #[] #[] := rfl
  have h : (execOp A.eval { dst := dst, op := .call { callee := .value (.func F), args := #[x0], argTypes := at_ }, type := ty, pos := ps, after := af, guard := gd }).run Tryz.prog w = .ok (.enter F #[u0]) w := by generalize A.eval = ev at *; simp [execOp, hF, hcf, h0, go_sem]
  exact does_call h (hc.mono fun _ _ ⟨h, h'⟩ => ⟨r, h, rfl, h'⟩)
theorem cl2 {F : FuncId} {at_ : Array TypeId} {r : Value} {x0 x1 : Operand} {u0 u1 : Value} (hcf : ∀ (args : Array Value) (w : World), (callFunc F args).run Tryz.prog w = .ok (.enter F args) w) (h0 : A.eval x0 = u0) (h1 : A.eval x1 = u1)
    (hc : Calls Tryz.prog F #[u0, u1] w fun e w' => e = .returned r ∧ Below w.heap.size w w') :
    Does Tryz.prog { dst := dst, op := .call { callee := .value (.func F), args := #[x0, x1], argTypes := at_ }, type := ty, pos := ps, after := af, guard := gd } A w fun v' w' => v' = r ∧ Below w.heap.size w w' := by
  have hF : A.eval (.func F) = .func (.func F) #[] #[] := rfl
  have h : (execOp A.eval { dst := dst, op := .call { callee := .value (.func F), args := #[x0, x1], argTypes := at_ }, type := ty, pos := ps, after := af, guard := gd }).run Tryz.prog w = .ok (.enter F #[u0, u1]) w := by generalize A.eval = ev at *; simp [execOp, hF, hcf, h0, h1, go_sem]
  exact does_call h (hc.mono fun _ _ ⟨h, h'⟩ => ⟨r, h, rfl, h'⟩)
theorem cl3 {F : FuncId} {at_ : Array TypeId} {r : Value} {x0 x1 x2 : Operand} {u0 u1 u2 : Value} (hcf : ∀ (args : Array Value) (w : World), (callFunc F args).run Tryz.prog w = .ok (.enter F args) w) (h0 : A.eval x0 = u0) (h1 : A.eval x1 = u1) (h2 : A.eval x2 = u2)
    (hc : Calls Tryz.prog F #[u0, u1, u2] w fun e w' => e = .returned r ∧ Below w.heap.size w w') :
    Does Tryz.prog { dst := dst, op := .call { callee := .value (.func F), args := #[x0, x1, x2], argTypes := at_ }, type := ty, pos := ps, after := af, guard := gd } A w fun v' w' => v' = r ∧ Below w.heap.size w w' := by
  have hF : A.eval (.func F) = .func (.func F) #[] #[] := rfl
  have h : (execOp A.eval { dst := dst, op := .call { callee := .value (.func F), args := #[x0, x1, x2], argTypes := at_ }, type := ty, pos := ps, after := af, guard := gd }).run Tryz.prog w = .ok (.enter F #[u0, u1, u2]) w := by generalize A.eval = ev at *; simp [execOp, hF, hcf, h0, h1, h2, go_sem]
  exact does_call h (hc.mono fun _ _ ⟨h, h'⟩ => ⟨r, h, rfl, h'⟩)
theorem cl4 {F : FuncId} {at_ : Array TypeId} {r : Value} {x0 x1 x2 x3 : Operand} {u0 u1 u2 u3 : Value} (hcf : ∀ (args : Array Value) (w : World), (callFunc F args).run Tryz.prog w = .ok (.enter F args) w) (h0 : A.eval x0 = u0) (h1 : A.eval x1 = u1) (h2 : A.eval x2 = u2) (h3 : A.eval x3 = u3)
    (hc : Calls Tryz.prog F #[u0, u1, u2, u3] w fun e w' => e = .returned r ∧ Below w.heap.size w w') :
    Does Tryz.prog { dst := dst, op := .call { callee := .value (.func F), args := #[x0, x1, x2, x3], argTypes := at_ }, type := ty, pos := ps, after := af, guard := gd } A w fun v' w' => v' = r ∧ Below w.heap.size w w' := by
  have hF : A.eval (.func F) = .func (.func F) #[] #[] := rfl
  have h : (execOp A.eval { dst := dst, op := .call { callee := .value (.func F), args := #[x0, x1, x2, x3], argTypes := at_ }, type := ty, pos := ps, after := af, guard := gd }).run Tryz.prog w = .ok (.enter F #[u0, u1, u2, u3]) w := by generalize A.eval = ev at *; simp [execOp, hF, hcf, h0, h1, h2, h3, go_sem]
  exact does_call h (hc.mono fun _ _ ⟨h, h'⟩ => ⟨r, h, rfl, h'⟩)
theorem cl5 {F : FuncId} {at_ : Array TypeId} {r : Value} {x0 x1 x2 x3 x4 : Operand} {u0 u1 u2 u3 u4 : Value} (hcf : ∀ (args : Array Value) (w : World), (callFunc F args).run Tryz.prog w = .ok (.enter F args) w) (h0 : A.eval x0 = u0) (h1 : A.eval x1 = u1) (h2 : A.eval x2 = u2) (h3 : A.eval x3 = u3) (h4 : A.eval x4 = u4)
    (hc : Calls Tryz.prog F #[u0, u1, u2, u3, u4] w fun e w' => e = .returned r ∧ Below w.heap.size w w') :
    Does Tryz.prog { dst := dst, op := .call { callee := .value (.func F), args := #[x0, x1, x2, x3, x4], argTypes := at_ }, type := ty, pos := ps, after := af, guard := gd } A w fun v' w' => v' = r ∧ Below w.heap.size w w' := by
  have hF : A.eval (.func F) = .func (.func F) #[] #[] := rfl
  have h : (execOp A.eval { dst := dst, op := .call { callee := .value (.func F), args := #[x0, x1, x2, x3, x4], argTypes := at_ }, type := ty, pos := ps, after := af, guard := gd }).run Tryz.prog w = .ok (.enter F #[u0, u1, u2, u3, u4]) w := by generalize A.eval = ev at *; simp [execOp, hF, hcf, h0, h1, h2, h3, h4, go_sem]
  exact does_call h (hc.mono fun _ _ ⟨h, h'⟩ => ⟨r, h, rfl, h'⟩)
theorem cl6 {F : FuncId} {at_ : Array TypeId} {r : Value} {x0 x1 x2 x3 x4 x5 : Operand} {u0 u1 u2 u3 u4 u5 : Value} (hcf : ∀ (args : Array Value) (w : World), (callFunc F args).run Tryz.prog w = .ok (.enter F args) w) (h0 : A.eval x0 = u0) (h1 : A.eval x1 = u1) (h2 : A.eval x2 = u2) (h3 : A.eval x3 = u3) (h4 : A.eval x4 = u4) (h5 : A.eval x5 = u5)
    (hc : Calls Tryz.prog F #[u0, u1, u2, u3, u4, u5] w fun e w' => e = .returned r ∧ Below w.heap.size w w') :
    Does Tryz.prog { dst := dst, op := .call { callee := .value (.func F), args := #[x0, x1, x2, x3, x4, x5], argTypes := at_ }, type := ty, pos := ps, after := af, guard := gd } A w fun v' w' => v' = r ∧ Below w.heap.size w w' := by
  have hF : A.eval (.func F) = .func (.func F) #[] #[] := rfl
  have h : (execOp A.eval { dst := dst, op := .call { callee := .value (.func F), args := #[x0, x1, x2, x3, x4, x5], argTypes := at_ }, type := ty, pos := ps, after := af, guard := gd }).run Tryz.prog w = .ok (.enter F #[u0, u1, u2, u3, u4, u5]) w := by generalize A.eval = ev at *; simp [execOp, hF, hcf, h0, h1, h2, h3, h4, h5, go_sem]
  exact does_call h (hc.mono fun _ _ ⟨h, h'⟩ => ⟨r, h, rfl, h'⟩)
theorem cl7 {F : FuncId} {at_ : Array TypeId} {r : Value} {x0 x1 x2 x3 x4 x5 x6 : Operand} {u0 u1 u2 u3 u4 u5 u6 : Value} (hcf : ∀ (args : Array Value) (w : World), (callFunc F args).run Tryz.prog w = .ok (.enter F args) w) (h0 : A.eval x0 = u0) (h1 : A.eval x1 = u1) (h2 : A.eval x2 = u2) (h3 : A.eval x3 = u3) (h4 : A.eval x4 = u4) (h5 : A.eval x5 = u5) (h6 : A.eval x6 = u6)
    (hc : Calls Tryz.prog F #[u0, u1, u2, u3, u4, u5, u6] w fun e w' => e = .returned r ∧ Below w.heap.size w w') :
    Does Tryz.prog { dst := dst, op := .call { callee := .value (.func F), args := #[x0, x1, x2, x3, x4, x5, x6], argTypes := at_ }, type := ty, pos := ps, after := af, guard := gd } A w fun v' w' => v' = r ∧ Below w.heap.size w w' := by
  have hF : A.eval (.func F) = .func (.func F) #[] #[] := rfl
  have h : (execOp A.eval { dst := dst, op := .call { callee := .value (.func F), args := #[x0, x1, x2, x3, x4, x5, x6], argTypes := at_ }, type := ty, pos := ps, after := af, guard := gd }).run Tryz.prog w = .ok (.enter F #[u0, u1, u2, u3, u4, u5, u6]) w := by generalize A.eval = ev at *; simp [execOp, hF, hcf, h0, h1, h2, h3, h4, h5, h6, go_sem]
  exact does_call h (hc.mono fun _ _ ⟨h, h'⟩ => ⟨r, h, rfl, h'⟩)
theorem sl_parts1 {x0 : Operand} {t0 : TypeId} {u0 : Value} (h0 : A.eval x0 = .iface t0 u0) :
    Does Tryz.prog { dst := dst, op := .buildSlice 156 1 #[(0, x0)], type := ty, pos := ps, after := af, guard := gd } A w fun v w' => v = .slice (some ⟨w.heap.size, 0, none⟩) 1 1 ∧ w' = w.alloc (.cells #[.iface t0 u0] 165) := by
  have h : (execOp A.eval { dst := dst, op := .buildSlice 156 1 #[(0, x0)], type := ty, pos := ps, after := af, guard := gd }).run Tryz.prog w = .ok (.value (.slice (some ⟨w.heap.size, 0, none⟩) 1 1)) (w.alloc (.cells #[.iface t0 u0] 165)) := by generalize A.eval = ev at *; simp [execOp, h0, go_sem]
  exact does_value h ⟨rfl, rfl⟩
theorem sl_parts2 {x0 x1 : Operand} {t0 : TypeId} {u0 : Value} {t1 : TypeId} {u1 : Value} (h0 : A.eval x0 = .iface t0 u0) (h1 : A.eval x1 = .iface t1 u1) :
    Does Tryz.prog { dst := dst, op := .buildSlice 156 2 #[(0, x0), (1, x1)], type := ty, pos := ps, after := af, guard := gd } A w fun v w' => v = .slice (some ⟨w.heap.size, 0, none⟩) 2 2 ∧ w' = w.alloc (.cells #[.iface t0 u0, .iface t1 u1] 165) := by
  have h : (execOp A.eval { dst := dst, op := .buildSlice 156 2 #[(0, x0), (1, x1)], type := ty, pos := ps, after := af, guard := gd }).run Tryz.prog w = .ok (.value (.slice (some ⟨w.heap.size, 0, none⟩) 2 2)) (w.alloc (.cells #[.iface t0 u0, .iface t1 u1] 165)) := by generalize A.eval = ev at *; simp [execOp, h0, h1, go_sem]
  exact does_value h ⟨rfl, rfl⟩
theorem sl_parts4 {x0 x1 x2 x3 : Operand} {t0 : TypeId} {u0 : Value} {t1 : TypeId} {u1 : Value} {t2 : TypeId} {u2 : Value} {t3 : TypeId} {u3 : Value} (h0 : A.eval x0 = .iface t0 u0) (h1 : A.eval x1 = .iface t1 u1) (h2 : A.eval x2 = .iface t2 u2) (h3 : A.eval x3 = .iface t3 u3) :
    Does Tryz.prog { dst := dst, op := .buildSlice 156 4 #[(0, x0), (1, x1), (2, x2), (3, x3)], type := ty, pos := ps, after := af, guard := gd } A w fun v w' => v = .slice (some ⟨w.heap.size, 0, none⟩) 4 4 ∧ w' = w.alloc (.cells #[.iface t0 u0, .iface t1 u1, .iface t2 u2, .iface t3 u3] 165) := by
  have h : (execOp A.eval { dst := dst, op := .buildSlice 156 4 #[(0, x0), (1, x1), (2, x2), (3, x3)], type := ty, pos := ps, after := af, guard := gd }).run Tryz.prog w = .ok (.value (.slice (some ⟨w.heap.size, 0, none⟩) 4 4)) (w.alloc (.cells #[.iface t0 u0, .iface t1 u1, .iface t2 u2, .iface t3 u3] 165)) := by generalize A.eval = ev at *; simp [execOp, h0, h1, h2, h3, go_sem]
  exact does_value h ⟨rfl, rfl⟩
theorem sl_parts6 {x0 x1 x2 x3 x4 x5 : Operand} {t0 : TypeId} {u0 : Value} {t1 : TypeId} {u1 : Value} {t2 : TypeId} {u2 : Value} {t3 : TypeId} {u3 : Value} {t4 : TypeId} {u4 : Value} {t5 : TypeId} {u5 : Value} (h0 : A.eval x0 = .iface t0 u0) (h1 : A.eval x1 = .iface t1 u1) (h2 : A.eval x2 = .iface t2 u2) (h3 : A.eval x3 = .iface t3 u3) (h4 : A.eval x4 = .iface t4 u4) (h5 : A.eval x5 = .iface t5 u5) :
    Does Tryz.prog { dst := dst, op := .buildSlice 156 6 #[(0, x0), (1, x1), (2, x2), (3, x3), (4, x4), (5, x5)], type := ty, pos := ps, after := af, guard := gd } A w fun v w' => v = .slice (some ⟨w.heap.size, 0, none⟩) 6 6 ∧ w' = w.alloc (.cells #[.iface t0 u0, .iface t1 u1, .iface t2 u2, .iface t3 u3, .iface t4 u4, .iface t5 u5] 165) := by
  have h : (execOp A.eval { dst := dst, op := .buildSlice 156 6 #[(0, x0), (1, x1), (2, x2), (3, x3), (4, x4), (5, x5)], type := ty, pos := ps, after := af, guard := gd }).run Tryz.prog w = .ok (.value (.slice (some ⟨w.heap.size, 0, none⟩) 6 6)) (w.alloc (.cells #[.iface t0 u0, .iface t1 u1, .iface t2 u2, .iface t3 u3, .iface t4 u4, .iface t5 u5] 165)) := by generalize A.eval = ev at *; simp [execOp, h0, h1, h2, h3, h4, h5, go_sem]
  exact does_value h ⟨rfl, rfl⟩
theorem sl_nN1 {x0 : Operand} {z0 : Int} (h0 : A.eval x0 = .agg #[.int .u64 z0]) :
    Does Tryz.prog { dst := dst, op := .buildSlice 98 1 #[(0, x0)], type := ty, pos := ps, after := af, guard := gd } A w fun v w' => v = .slice (some ⟨w.heap.size, 0, none⟩) 1 1 ∧ w' = w.alloc (.cells #[.int .u64 z0] 77) := by
  have h : (execOp A.eval { dst := dst, op := .buildSlice 98 1 #[(0, x0)], type := ty, pos := ps, after := af, guard := gd }).run Tryz.prog w = .ok (.value (.slice (some ⟨w.heap.size, 0, none⟩) 1 1)) (w.alloc (.cells #[.int .u64 z0] 77)) := by generalize A.eval = ev at *; simp [execOp, h0, go_sem]
  exact does_value h ⟨rfl, rfl⟩
theorem sl_u64s1 {x0 : Operand} {z0 : Int} (h0 : A.eval x0 = .int .u64 z0) :
    Does Tryz.prog { dst := dst, op := .buildSlice 57 1 #[(0, x0)], type := ty, pos := ps, after := af, guard := gd } A w fun v w' => v = .slice (some ⟨w.heap.size, 0, none⟩) 1 1 ∧ w' = w.alloc (.cells #[.int .u64 z0] 22) := by
  have h : (execOp A.eval { dst := dst, op := .buildSlice 57 1 #[(0, x0)], type := ty, pos := ps, after := af, guard := gd }).run Tryz.prog w = .ok (.value (.slice (some ⟨w.heap.size, 0, none⟩) 1 1)) (w.alloc (.cells #[.int .u64 z0] 22)) := by generalize A.eval = ev at *; simp [execOp, h0, go_sem]
  exact does_value h ⟨rfl, rfl⟩
theorem sl_strs1 {x0 : Operand} {s0 : ByteArray} (h0 : A.eval x0 = .string s0) :
    Does Tryz.prog { dst := dst, op := .buildSlice 147 1 #[(0, x0)], type := ty, pos := ps, after := af, guard := gd } A w fun v w' => v = .slice (some ⟨w.heap.size, 0, none⟩) 1 1 ∧ w' = w.alloc (.cells #[.string s0] 9) := by
  have h : (execOp A.eval { dst := dst, op := .buildSlice 147 1 #[(0, x0)], type := ty, pos := ps, after := af, guard := gd }).run Tryz.prog w = .ok (.value (.slice (some ⟨w.heap.size, 0, none⟩) 1 1)) (w.alloc (.cells #[.string s0] 9)) := by generalize A.eval = ev at *; simp [execOp, h0, go_sem]
  exact does_value h ⟨rfl, rfl⟩
theorem al_cp : Does Tryz.prog { dst := dst, op := .alloc 62, type := ty, pos := ps, after := af, guard := gd } A w fun v w' => v = .pointer (some ⟨w.heap.size, 0, none⟩) ∧ w' = w.alloc (.cells #[.int .u64 0, .int .u64 0, .bool false] 62) := by
  have h : (execOp A.eval { dst := dst, op := .alloc 62, type := ty, pos := ps, after := af, guard := gd }).run Tryz.prog w = .ok (.value (.pointer (some ⟨w.heap.size, 0, none⟩))) (w.alloc (.cells #[.int .u64 0, .int .u64 0, .bool false] 62)) := by simp [execOp, go_sem]
  exact does_value h ⟨rfl, rfl⟩
theorem pu_cp {z0 : Int} {z1 : Int} {z2 : Bool} (hx : A.eval x = .pointer (some ⟨b, 0, none⟩)) (hy : A.eval y = .agg #[.int .u64 z0, .int .u64 z1, .bool z2]) (hr : w.heap[b]? = some (.cells #[.int .u64 0, .int .u64 0, .bool false] 62)) :
    Does Tryz.prog { dst := dst, op := .store 62 x y, type := ty, pos := ps, after := af, guard := gd } A w fun _ w' => Turned b (.cells #[.int .u64 z0, .int .u64 z1, .bool z2] 62) w w' := by
  have c0 : w.cell? ⟨b, 0, none⟩ = some (.int .u64 0) := by simp [World.cell?, hr]
  have c1 : w.cell? ⟨b, 1, none⟩ = some (.int .u64 0) := by simp [World.cell?, hr]
  have c2 : w.cell? ⟨b, 2, none⟩ = some (.bool false) := by simp [World.cell?, hr]
  have hf : ∀ k, w.frozen? ⟨b, k, none⟩ = false := fun k => by simp [World.frozen?, hr]
  have h : (execOp A.eval { dst := dst, op := .store 62 x y, type := ty, pos := ps, after := af, guard := gd }).run Tryz.prog w = .ok .skip (((w.setCell ⟨b, 0, none⟩ (.int .u64 z0)).setCell ⟨b, 1, none⟩ (.int .u64 z1)).setCell ⟨b, 2, none⟩ (.bool z2)) := by generalize A.eval = ev at *; simp [execOp, hx, hy, hf, c0, c1, c2, go_sem]
  refine does_skip h ⟨rfl, rfl, rfl, by simp [World.setCell], by simp [World.setCell, Array.getElem?_modify, hr], fun k hk => ?_⟩
  simp [World.setCell, Array.getElem?_modify, Ne.symm hk]
theorem st_pt {z0 z0' : Int} {z1 z1' : Int} {z2 z2' : Bool} (hx : A.eval x = .pointer (some ⟨b, 0, none⟩)) (hy : A.eval y = .agg #[.int .u64 z0, .int .u64 z1, .bool z2]) (hr : w.heap[b]? = some (.cells #[.int .u64 z0', .int .u64 z1', .bool z2'] 27)) :
    Does Tryz.prog { dst := dst, op := .store 27 x y, type := ty, pos := ps, after := af, guard := gd } A w fun _ w' => w' = (((w.setCell ⟨b, 0, none⟩ (.int .u64 z0)).setCell ⟨b, 1, none⟩ (.int .u64 z1)).setCell ⟨b, 2, none⟩ (.bool z2)) := by
  have c0 : w.cell? ⟨b, 0, none⟩ = some (.int .u64 z0') := by simp [World.cell?, hr]
  have c1 : w.cell? ⟨b, 1, none⟩ = some (.int .u64 z1') := by simp [World.cell?, hr]
  have c2 : w.cell? ⟨b, 2, none⟩ = some (.bool z2') := by simp [World.cell?, hr]
  have hf : ∀ k, w.frozen? ⟨b, k, none⟩ = false := fun k => by simp [World.frozen?, hr]
  have h : (execOp A.eval { dst := dst, op := .store 27 x y, type := ty, pos := ps, after := af, guard := gd }).run Tryz.prog w = .ok .skip (((w.setCell ⟨b, 0, none⟩ (.int .u64 z0)).setCell ⟨b, 1, none⟩ (.int .u64 z1)).setCell ⟨b, 2, none⟩ (.bool z2)) := by generalize A.eval = ev at *; simp [execOp, hx, hy, hf, c0, c1, c2, go_sem]
  exact does_skip h rfl
theorem st_cp {z0 z0' : Int} {z1 z1' : Int} {z2 z2' : Bool} (hx : A.eval x = .pointer (some ⟨b, 0, none⟩)) (hy : A.eval y = .agg #[.int .u64 z0, .int .u64 z1, .bool z2]) (hr : w.heap[b]? = some (.cells #[.int .u64 z0', .int .u64 z1', .bool z2'] 62)) :
    Does Tryz.prog { dst := dst, op := .store 62 x y, type := ty, pos := ps, after := af, guard := gd } A w fun _ w' => w' = (((w.setCell ⟨b, 0, none⟩ (.int .u64 z0)).setCell ⟨b, 1, none⟩ (.int .u64 z1)).setCell ⟨b, 2, none⟩ (.bool z2)) := by
  have c0 : w.cell? ⟨b, 0, none⟩ = some (.int .u64 z0') := by simp [World.cell?, hr]
  have c1 : w.cell? ⟨b, 1, none⟩ = some (.int .u64 z1') := by simp [World.cell?, hr]
  have c2 : w.cell? ⟨b, 2, none⟩ = some (.bool z2') := by simp [World.cell?, hr]
  have hf : ∀ k, w.frozen? ⟨b, k, none⟩ = false := fun k => by simp [World.frozen?, hr]
  have h : (execOp A.eval { dst := dst, op := .store 62 x y, type := ty, pos := ps, after := af, guard := gd }).run Tryz.prog w = .ok .skip (((w.setCell ⟨b, 0, none⟩ (.int .u64 z0)).setCell ⟨b, 1, none⟩ (.int .u64 z1)).setCell ⟨b, 2, none⟩ (.bool z2)) := by generalize A.eval = ev at *; simp [execOp, hx, hy, hf, c0, c1, c2, go_sem]
  exact does_skip h rfl
theorem ld_tr {v0 v1 v2 : Value} (hx : A.eval x = .pointer (some ⟨b, i, none⟩)) (h0 : w.cell? ⟨b, i, none⟩ = some v0) (h1 : w.cell? ⟨b, i + 1, none⟩ = some v1) (h2 : w.cell? ⟨b, i + 2, none⟩ = some v2) :
    Does Tryz.prog { dst := dst, op := .load 117 x, type := ty, pos := ps, after := af, guard := gd } A w fun v' w' => v' = .agg #[v0, v1, v2] ∧ Below w.heap.size w w' := by
  have h : (execOp A.eval { dst := dst, op := .load 117 x, type := ty, pos := ps, after := af, guard := gd }).run Tryz.prog w = .ok (.value (.agg #[v0, v1, v2])) w := by generalize A.eval = ev at *; simp [execOp, hx, h0, h1, h2, go_sem]
  exact does_value h ⟨rfl, Below.refl _ _⟩
theorem st_tr {z0 z0' : Int} {z1 z1' : Int} {z2 z2' : Int} (hx : A.eval x = .pointer (some ⟨b, 0, none⟩)) (hy : A.eval y = .agg #[.int .u64 z0, .int .u64 z1, .int .u64 z2]) (hr : w.heap[b]? = some (.cells #[.int .u64 z0', .int .u64 z1', .int .u64 z2'] 117)) :
    Does Tryz.prog { dst := dst, op := .store 117 x y, type := ty, pos := ps, after := af, guard := gd } A w fun _ w' => w' = (((w.setCell ⟨b, 0, none⟩ (.int .u64 z0)).setCell ⟨b, 1, none⟩ (.int .u64 z1)).setCell ⟨b, 2, none⟩ (.int .u64 z2)) := by
  have c0 : w.cell? ⟨b, 0, none⟩ = some (.int .u64 z0') := by simp [World.cell?, hr]
  have c1 : w.cell? ⟨b, 1, none⟩ = some (.int .u64 z1') := by simp [World.cell?, hr]
  have c2 : w.cell? ⟨b, 2, none⟩ = some (.int .u64 z2') := by simp [World.cell?, hr]
  have hf : ∀ k, w.frozen? ⟨b, k, none⟩ = false := fun k => by simp [World.frozen?, hr]
  have h : (execOp A.eval { dst := dst, op := .store 117 x y, type := ty, pos := ps, after := af, guard := gd }).run Tryz.prog w = .ok .skip (((w.setCell ⟨b, 0, none⟩ (.int .u64 z0)).setCell ⟨b, 1, none⟩ (.int .u64 z1)).setCell ⟨b, 2, none⟩ (.int .u64 z2)) := by generalize A.eval = ev at *; simp [execOp, hx, hy, hf, c0, c1, c2, go_sem]
  exact does_skip h rfl
theorem al_nN : Does Tryz.prog { dst := dst, op := .alloc 77, type := ty, pos := ps, after := af, guard := gd } A w fun v w' => v = .pointer (some ⟨w.heap.size, 0, none⟩) ∧ w' = w.alloc (.cells #[.int .u64 0] 77) := by
  have h : (execOp A.eval { dst := dst, op := .alloc 77, type := ty, pos := ps, after := af, guard := gd }).run Tryz.prog w = .ok (.value (.pointer (some ⟨w.heap.size, 0, none⟩))) (w.alloc (.cells #[.int .u64 0] 77)) := by simp [execOp, go_sem]
  exact does_value h ⟨rfl, rfl⟩
theorem pu_nN {z0 : Int} (hx : A.eval x = .pointer (some ⟨b, 0, none⟩)) (hy : A.eval y = .agg #[.int .u64 z0]) (hr : w.heap[b]? = some (.cells #[.int .u64 0] 77)) :
    Does Tryz.prog { dst := dst, op := .store 77 x y, type := ty, pos := ps, after := af, guard := gd } A w fun _ w' => Turned b (.cells #[.int .u64 z0] 77) w w' := by
  have c0 : w.cell? ⟨b, 0, none⟩ = some (.int .u64 0) := by simp [World.cell?, hr]
  have hf : ∀ k, w.frozen? ⟨b, k, none⟩ = false := fun k => by simp [World.frozen?, hr]
  have h : (execOp A.eval { dst := dst, op := .store 77 x y, type := ty, pos := ps, after := af, guard := gd }).run Tryz.prog w = .ok .skip (w.setCell ⟨b, 0, none⟩ (.int .u64 z0)) := by generalize A.eval = ev at *; simp [execOp, hx, hy, hf, c0, go_sem]
  refine does_skip h ⟨rfl, rfl, rfl, by simp [World.setCell], by simp [World.setCell, Array.getElem?_modify, hr], fun k hk => ?_⟩
  simp [World.setCell, Array.getElem?_modify, Ne.symm hk]
theorem st_nN {z0 z0' : Int} (hx : A.eval x = .pointer (some ⟨b, 0, none⟩)) (hy : A.eval y = .agg #[.int .u64 z0]) (hr : w.heap[b]? = some (.cells #[.int .u64 z0'] 77)) :
    Does Tryz.prog { dst := dst, op := .store 77 x y, type := ty, pos := ps, after := af, guard := gd } A w fun _ w' => w' = (w.setCell ⟨b, 0, none⟩ (.int .u64 z0)) := by
  have c0 : w.cell? ⟨b, 0, none⟩ = some (.int .u64 z0') := by simp [World.cell?, hr]
  have hf : ∀ k, w.frozen? ⟨b, k, none⟩ = false := fun k => by simp [World.frozen?, hr]
  have h : (execOp A.eval { dst := dst, op := .store 77 x y, type := ty, pos := ps, after := af, guard := gd }).run Tryz.prog w = .ok .skip (w.setCell ⟨b, 0, none⟩ (.int .u64 z0)) := by generalize A.eval = ev at *; simp [execOp, hx, hy, hf, c0, go_sem]
  exact does_skip h rfl
theorem st_prf {z0 z0' : Int} {z1 z1' : Int} (hx : A.eval x = .pointer (some ⟨b, 0, none⟩)) (hy : A.eval y = .agg #[.int .u64 z0, .int .u64 z1]) (hr : w.heap[b]? = some (.cells #[.int .u64 z0', .int .u64 z1'] 37)) :
    Does Tryz.prog { dst := dst, op := .store 37 x y, type := ty, pos := ps, after := af, guard := gd } A w fun _ w' => w' = ((w.setCell ⟨b, 0, none⟩ (.int .u64 z0)).setCell ⟨b, 1, none⟩ (.int .u64 z1)) := by
  have c0 : w.cell? ⟨b, 0, none⟩ = some (.int .u64 z0') := by simp [World.cell?, hr]
  have c1 : w.cell? ⟨b, 1, none⟩ = some (.int .u64 z1') := by simp [World.cell?, hr]
  have hf : ∀ k, w.frozen? ⟨b, k, none⟩ = false := fun k => by simp [World.frozen?, hr]
  have h : (execOp A.eval { dst := dst, op := .store 37 x y, type := ty, pos := ps, after := af, guard := gd }).run Tryz.prog w = .ok .skip ((w.setCell ⟨b, 0, none⟩ (.int .u64 z0)).setCell ⟨b, 1, none⟩ (.int .u64 z1)) := by generalize A.eval = ev at *; simp [execOp, hx, hy, hf, c0, c1, go_sem]
  exact does_skip h rfl
theorem bu_prf {z0 z1 : Int} (hx : A.eval x = .int .u64 z0) (hy : A.eval y = .int .u64 z1) :
    Does Tryz.prog { dst := dst, op := .build 37 #[(0, x), (1, y)], type := ty, pos := ps, after := af, guard := gd } A w fun v' w' => v' = .agg #[.int .u64 z0, .int .u64 z1] ∧ Below w.heap.size w w' := by
  have h : (execOp A.eval { dst := dst, op := .build 37 #[(0, x), (1, y)], type := ty, pos := ps, after := af, guard := gd }).run Tryz.prog w = .ok (.value (.agg #[.int .u64 z0, .int .u64 z1])) w := by generalize A.eval = ev at *; simp [execOp, hx, hy, go_sem]
  exact does_value h ⟨rfl, Below.refl _ _⟩
end
end Go.Proofs.YtagnikeaellbiaaGreatDoor

/-
  A pool in front: the first m operations, for all of which the others wait.
-/
namespace Go.Proofs.YtagnikeaellbiaaGreatDoor
open Go.RowKit
set_option linter.unusedVariables false

def preOk (ops : Array Oper) (md : Region.Mode) (m : Nat) : Bool := (List.range ops.size).all fun i => decide (i < m) || (match ops[i]? with
  | none => true
  | some o => (List.range m).all fun j => o.after.toList.any fun e => e.on == j && Region.binds md e)
section
variable {P : Program} {ops : Array Oper} {Q : Exit → Act → World → Prop} {md : Region.Mode} {kind : Nat → Knd} {a0 : Act} {uses : Nat → List Nat}
theorem preOk_lt {m i : Nat} (h : preOk ops md m = true) {l : Array Bool} (hi : i ∈ Region.ready md ops l) (hn : ¬ ∀ j, j < m → l.getD j false = true) : i < m := by
  obtain ⟨h1, -, -, o, ho, hedge⟩ := ready_get hi
  by_cases hl : i < m
  · exact hl
  · exfalso
    apply hn
    intro j hj
    unfold preOk at h
    rw [List.all_eq_true] at h
    have h2 := h i (List.mem_range.2 (Array.getElem?_eq_some_iff.1 ho).1)
    rw [decide_eq_false hl, Bool.false_or, ho] at h2
    simp only [List.all_eq_true] at h2
    have h3 := h2 j (List.mem_range.2 hj)
    rw [List.any_eq_true] at h3
    obtain ⟨e, he, h4⟩ := h3
    rw [Bool.and_eq_true] at h4
    have h5 : e.on = j := by simpa using h4.1
    exact h5 ▸ hedge e he h4.2
theorem any_until (m : Nat) (I : Array Bool → Act → World → Prop)
    (stop : ∀ fuel l a w, I l a w → (∀ j, j < m → l.getD j false = true) → l.toList.count false ≤ fuel → wpAny P md ops Q fuel l a w)
    (stuck : ∀ l a w, I l a w → (¬ ∀ j, j < m → l.getD j false = true) → Region.ready md ops l ≠ [])
    (step : ∀ l a w i, I l a w → (¬ ∀ j, j < m → l.getD j false = true) → i ∈ Region.ready md ops l → wpOp P ops Q i (I (l.setIfInBounds i true)) a w) :
    ∀ fuel l a w, l.toList.count false ≤ fuel → I l a w → wpAny P md ops Q fuel l a w := by
  intro fuel
  induction fuel with
  | zero =>
    intro l a w hc hI
    by_cases hm : ∀ j, j < m → l.getD j false = true
    · exact stop 0 l a w hI hm hc
    · exfalso
      cases hr : Region.ready md ops l with
      | nil => exact stuck l a w hI hm hr
      | cons i r =>
        obtain ⟨h1, h2, -, -⟩ := ready_get (i := i) (md := md) (ops := ops) (l := l) (by rw [hr]; simp)
        have : false ∈ l.toList := by
          rw [Array.getD_eq_getD_getElem?, Array.getElem?_eq_getElem h1] at h2
          rw [← show l[i] = false from h2]
          exact Array.mem_toList_iff.2 (Array.getElem_mem h1)
        have := List.count_pos_iff.2 this
        omega
  | succ fuel ih =>
    intro l a w hc hI
    by_cases hm : ∀ j, j < m → l.getD j false = true
    · exact stop _ l a w hI hm hc
    · refine ⟨fun hr => absurd hr (stuck l a w hI hm), fun i hi => ?_⟩
      refine wpOp_mono (fun a w hI' => ih _ a w ?_ hI') (step l a w i hI hm hi)
      obtain ⟨h1, h2, -, -⟩ := ready_get hi
      have h3 : l.toList[i]? = some false := by
        rw [Array.getD_eq_getD_getElem?] at h2
        rw [Array.getElem?_toList, Array.getElem?_eq_getElem h1] at *
        simpa using h2
      have := count_set h3
      rw [Array.toList_setIfInBounds]
      omega
theorem upto_eq {l : Array Bool} {n m : Nat} (hs : l.size = n) (h1 : ∀ j, j < m → l.getD j false = true) (h2 : ∀ j, m ≤ j → l.getD j false = false) : l = upto n m := by
  apply Array.ext
  · rw [hs]; simp [upto]
  · intro i hi _
    have h3 : l.getD i false = l[i] := by rw [Array.getD_eq_getD_getElem?, Array.getElem?_eq_getElem hi]; rfl
    have h4 : (upto n m)[i] = decide (i < m) := by simp [upto]
    rw [h4, ← h3]
    by_cases h : i < m
    · rw [h1 i h, decide_eq_true h]
    · rw [h2 i (by omega), decide_eq_false h]
theorem count_upto (n m : Nat) (h : m ≤ n) : (upto n m).toList.count false = n - m := by
  have : (upto n m).toList = List.replicate m true ++ List.replicate (n - m) false := by
    apply List.ext_getElem
    · simp [upto]; omega
    · intro i h1 h2
      by_cases hi : i < m
      · simp [upto, hi]
      · simp [upto, hi, List.getElem_append]
  rw [this]
  simp [List.count_append, List.count_replicate]
/-- the first m operations of a drawn region, for which all others wait -/
theorem pool_pre {id : Nat} {W : World} (m : Nat) (kinds : List Knd) (us : List (List Nat)) (dl : (Nat → Nat) → List (Option Tmp × Value)) (hm : P.follows .mixedOrders = true) (hok : (okOps ops a0 .any (usesOf us) && okG ops (kindOf kinds) .any) = true) (hdag : dag ops = true) (hkk : okK kinds ops.size = true) (hmn : decide (m < ops.size) = true) (hpre : preOk ops .any m = true)
    (hdl : ∀ f, ((List.range m).map fun i => ((ops[i]?).bind (·.dst), vl (kindOf kinds) f i)) = dl f)
    (hob : ∀ i, i < m → Ob P ops (kindOf kinds) (usesOf us) a0 W.drew i)
    (fin : ∀ (f : Nat → Nat) (w : World), Below W.drew.heap.size W.drew w →
      (∀ i ob ob' k, kindOf kinds i = .new ob ob' k → i < m → W.drew.heap.size ≤ f i ∧ w.heap[f i]? = some (if k < m then ob' else ob)) →
      ∀ fuel, ops.size - m ≤ fuel → wpAny P .any ops Q fuel (upto ops.size m) (puts (dl f) a0) w) :
    (Code.region id ops true).wp P Q a0 W := by
  have hmn' := of_decide_eq_true hmn
  refine wp_region_any hm ?_
  refine any_until m (fun l a w => (∀ j, m ≤ j → l.getD j false = false) ∧ PInv .any ops (kindOf kinds) a0 W.drew l a w) ?_ ?_ ?_ _ _ _ _ ?_ ?_
  · rintro fuel l a w ⟨h1, hs, f, rfl, hB, hN, -, -, -⟩ h2 hc
    obtain rfl := upto_eq hs h2 h1
    rw [count_upto _ _ (by omega)] at hc
    rw [canon_upto (and_l hok) f m (by omega), hdl f]
    refine fin f w hB (fun i ob ob' k hk hi => ?_) fuel hc
    obtain ⟨g1, -, g3⟩ := hN i ob ob' k hk (h2 i hi)
    refine ⟨g1, g3.trans ?_⟩
    by_cases hkm : k < m
    · rw [if_pos (h2 k hkm), if_pos hkm]
    · rw [h1 k (by omega), if_neg hkm]; rfl
  · rintro l a w ⟨h1, hs, -⟩ hn hr
    have := all_listed hdag l hs hr (m + 1) m (by omega) (by omega)
    rw [h1 m (Nat.le_refl _)] at this; cases this
  · rintro l a w i ⟨h1, hI⟩ hn hi
    have him := preOk_lt hpre hi hn
    refine wpOp_mono (fun a w h => ⟨fun j hj => ?_, h⟩) (pinv_step (and_l hok) (and_r hok) (okK_is hkk) (hob i him) hI hi)
    obtain ⟨hil, -⟩ := ready_get hi
    rw [getD_set l i j hil, if_neg (by omega)]
    exact h1 j hj
  · simp
  · exact ⟨fun j _ => by rw [Array.getD_eq_getD_getElem?, Array.getElem?_replicate]; split <;> rfl, pinv_start _⟩
theorem op_go {i : Nat} {o : Oper} {a : Act} {w : World} {K : Act → World → Prop} {R : Value → World → Prop} (ho : ops[i]? = some o) (hg : o.guard = none)
    (hd : Does P o a w R) (h : ∀ v w', R v w' → K (a.put o.dst v) w') : wpOp P ops Q i K a w := by
  unfold wpOp
  simp only [ho]
  rw [if_pos (by unfold Region.wanted; rw [hg])]
  exact .inl (hd _ _ h)
/-- a store and an assignment at the end, in either order -/
theorem last_two {fuel : Nat} {l : Array Bool} {A : Act} {w w1 : World} (p q : Nat) {op oq : Oper} {vq : Value} (hf : 2 ≤ fuel)
    (hr : Region.ready md ops l = [p, q]) (hrp : Region.ready md ops (l.setIfInBounds p true) = [q]) (hrq : Region.ready md ops (l.setIfInBounds q true) = [p])
    (hpq : Region.ready md ops ((l.setIfInBounds p true).setIfInBounds q true) = []) (hqp : Region.ready md ops ((l.setIfInBounds q true).setIfInBounds p true) = [])
    (hop : ops[p]? = some op) (hgp : op.guard = none) (hdp : op.dst = none) (hoq : ops[q]? = some oq) (hgq : oq.guard = none) (d : Option Tmp) (hdq : oq.dst = d)
    (dp : Does P op A w fun _ w' => w' = w1) (dp' : Does P op (A.put d vq) w fun _ w' => w' = w1)
    (dq : ∀ w, Does P oq A w fun v w' => v = vq ∧ w' = w) (fin : Q .normal (A.put d vq) w1) : wpAny P md ops Q fuel l A w := by
  subst hdq
  obtain ⟨n, rfl⟩ : ∃ n, fuel = n + 1 + 1 := ⟨fuel - 2, by omega⟩
  have done : ∀ (l : Array Bool), Region.ready md ops l = [] → wpAny P md ops Q n l (A.put oq.dst vq) w1 := fun l hl => by
    cases n with
    | zero => exact ⟨hl, fin⟩
    | succ n => exact ⟨fun _ => fin, fun i hi => by rw [hl] at hi; cases hi⟩
  refine ⟨fun h => (by rw [hr] at h; cases h), fun i hi => ?_⟩
  rw [hr] at hi
  rcases List.mem_cons.1 hi with rfl | hi
  · refine op_go hop hgp dp ?_
    rintro v w' rfl
    rw [hdp]
    refine ⟨fun h => (by rw [hrp] at h; cases h), fun i hi => ?_⟩
    rw [hrp] at hi
    obtain rfl := List.mem_singleton.1 hi
    refine op_go hoq hgq (dq _) ?_
    rintro v w' ⟨rfl, rfl⟩
    exact done _ hpq
  · obtain rfl := List.mem_singleton.1 hi
    refine op_go hoq hgq (dq _) ?_
    rintro v w' ⟨rfl, rfl⟩
    refine ⟨fun h => (by rw [hrq] at h; cases h), fun i hi => ?_⟩
    rw [hrq] at hi
    obtain rfl := List.mem_singleton.1 hi
    refine op_go hop hgp dp' ?_
    rintro v w' rfl
    rw [hdp]
    exact done _ hqp
/-- a store and then an assignment -/
theorem last_seq {fuel : Nat} {l : Array Bool} {A : Act} {w w1 : World} (p q : Nat) {op oq : Oper} {vq : Value} (hf : 2 ≤ fuel)
    (hr : Region.ready md ops l = [p]) (hrp : Region.ready md ops (l.setIfInBounds p true) = [q])
    (hpq : Region.ready md ops ((l.setIfInBounds p true).setIfInBounds q true) = [])
    (hop : ops[p]? = some op) (hgp : op.guard = none) (hdp : op.dst = none) (hoq : ops[q]? = some oq) (hgq : oq.guard = none) (d : Option Tmp) (hdq : oq.dst = d)
    (dp : Does P op A w fun _ w' => w' = w1)
    (dq : ∀ w, Does P oq A w fun v w' => v = vq ∧ w' = w) (fin : Q .normal (A.put d vq) w1) : wpAny P md ops Q fuel l A w := by
  subst hdq
  obtain ⟨n, rfl⟩ : ∃ n, fuel = n + 1 + 1 := ⟨fuel - 2, by omega⟩
  have done : ∀ (l : Array Bool), Region.ready md ops l = [] → wpAny P md ops Q n l (A.put oq.dst vq) w1 := fun l hl => by
    cases n with
    | zero => exact ⟨hl, fin⟩
    | succ n => exact ⟨fun _ => fin, fun i hi => by rw [hl] at hi; cases hi⟩
  refine ⟨fun h => (by rw [hr] at h; cases h), fun i hi => ?_⟩
  rw [hr] at hi
  obtain rfl := List.mem_singleton.1 hi
  refine op_go hop hgp dp ?_
  rintro v w' rfl
  rw [hdp]
  refine ⟨fun h => (by rw [hrp] at h; cases h), fun i hi => ?_⟩
  rw [hrp] at hi
  obtain rfl := List.mem_singleton.1 hi
  refine op_go hoq hgq (dq _) ?_
  rintro v w' ⟨rfl, rfl⟩
  exact done _ hpq
end
end Go.Proofs.YtagnikeaellbiaaGreatDoor

/-
  The two last operations of a drawn region, one behind the other.
-/
namespace Go.Proofs.YtagnikeaellbiaaGreatDoor
open Go.RowKit
set_option linter.unusedVariables false
def edge (ops : Array Oper) (md : Region.Mode) (v j : Nat) : Bool := match ops[v]? with
  | none => false
  | some o => o.after.toList.any fun e => e.on == j && Region.binds md e
/-- operation m comes behind all the first m, and those behind it come behind it -/
def preT (ops : Array Oper) (md : Region.Mode) (m : Nat) : Bool := ((List.range m).all fun j => (List.range (m + 1)).any fun v => decide (j < v) && edge ops md v j) &&
  (List.range ops.size).all fun i => decide (i ≤ m) || (List.range i).any fun v => decide (m ≤ v) && edge ops md i v
theorem edge_listed {ops : Array Oper} {md : Region.Mode} {l : Array Bool} {v j : Nat} (h : edge ops md v j = true) (hd : ∀ o, ops[v]? = some o → ∀ e ∈ o.after.toList, Region.binds md e = true → l.getD e.on false = true) : l.getD j false = true := by
  unfold edge at h
  cases hv : ops[v]? with
  | none => rw [hv] at h; cases h
  | some o =>
    rw [hv] at h
    simp only [List.any_eq_true, Bool.and_eq_true] at h
    obtain ⟨e, he, h1, h2⟩ := h
    have h3 : e.on = j := by simpa using h1
    exact h3 ▸ hd o hv e he h2
theorem preT_lt {ops : Array Oper} {md : Region.Mode} {m i : Nat} (h : preT ops md m = true) {l : Array Bool} (hi : i ∈ Region.ready md ops l)
    (hC : ∀ j oj, ops[j]? = some oj → l.getD j false = true → ∀ e ∈ oj.after.toList, Region.binds md e = true → l.getD e.on false = true)
    (hb : ∀ j, m ≤ j → l.getD j false = false) (hn : ¬ ∀ j, j < m → l.getD j false = true) : i < m := by
  obtain ⟨h1, -, -, o, ho, hedge⟩ := ready_get hi
  by_cases hl : i < m
  · exact hl
  exfalso
  unfold preT at h
  rw [Bool.and_eq_true, List.all_eq_true, List.all_eq_true] at h
  obtain ⟨hA, hB⟩ := h
  have hEi : ∀ o', ops[i]? = some o' → ∀ e ∈ o'.after.toList, Region.binds md e = true → l.getD e.on false = true := fun o' ho' => by rw [ho] at ho'; cases ho'; exact hedge
  by_cases him : i = m
  · subst him
    apply hn
    suffices ∀ d j, i - j ≤ d → j < i → l.getD j false = true from fun j hj => this (i - j) j (Nat.le_refl _) hj
    intro d
    induction d with
    | zero => intro j h h'; omega
    | succ d ih =>
      intro j hd hj
      have h2 := hA j (List.mem_range.2 hj)
      rw [List.any_eq_true] at h2
      obtain ⟨v, hv, h3⟩ := h2
      rw [Bool.and_eq_true, decide_eq_true_eq] at h3
      have hv' := List.mem_range.1 hv
      by_cases hvi : v = i
      · subst hvi; exact edge_listed h3.2 hEi
      · exact edge_listed h3.2 (fun o' ho' => hC v o' ho' (ih v (by omega) (by omega)))
  · have h2 := hB i (List.mem_range.2 (Array.getElem?_eq_some_iff.1 ho).1)
    rw [decide_eq_false (by omega), Bool.false_or, List.any_eq_true] at h2
    obtain ⟨v, hv, h3⟩ := h2
    rw [Bool.and_eq_true, decide_eq_true_eq] at h3
    have h4 := edge_listed h3.2 hEi
    rw [hb v h3.1] at h4
    cases h4
section
variable {P : Program} {ops : Array Oper} {Q : Exit → Act → World → Prop} {md : Region.Mode}
/-- the first m operations of a drawn region, behind all of which the next one comes, and behind that the others -/
theorem pool_prT {id : Nat} {W : World} {a0 : Act} (m : Nat) (kinds : List Knd) (us : List (List Nat)) (dl : (Nat → Nat) → List (Option Tmp × Value)) (hm : P.follows .mixedOrders = true) (hok : (okOps ops a0 .any (usesOf us) && okG ops (kindOf kinds) .any) = true) (hdag : dag ops = true) (hkk : okK kinds ops.size = true) (hmn : decide (m < ops.size) = true) (hpre : preT ops .any m = true)
    (hdl : ∀ f, ((List.range m).map fun i => ((ops[i]?).bind (·.dst), vl (kindOf kinds) f i)) = dl f)
    (hob : ∀ i, i < m → Ob P ops (kindOf kinds) (usesOf us) a0 W.drew i)
    (fin : ∀ (f : Nat → Nat) (w : World), Below W.drew.heap.size W.drew w →
      (∀ i ob ob' k, kindOf kinds i = .new ob ob' k → i < m → W.drew.heap.size ≤ f i ∧ w.heap[f i]? = some (if k < m then ob' else ob)) →
      ∀ fuel, ops.size - m ≤ fuel → wpAny P .any ops Q fuel (upto ops.size m) (puts (dl f) a0) w) :
    (Code.region id ops true).wp P Q a0 W := by
  have hmn' := of_decide_eq_true hmn
  refine wp_region_any hm ?_
  refine any_until m (fun l a w => (∀ j, m ≤ j → l.getD j false = false) ∧ PInv .any ops (kindOf kinds) a0 W.drew l a w) ?_ ?_ ?_ _ _ _ _ ?_ ?_
  · rintro fuel l a w ⟨h1, hs, f, rfl, hB, hN, -, -, -⟩ h2 hc
    obtain rfl := upto_eq hs h2 h1
    rw [count_upto _ _ (by omega)] at hc
    rw [canon_upto (and_l hok) f m (by omega), hdl f]
    refine fin f w hB (fun i ob ob' k hk hi => ?_) fuel hc
    obtain ⟨g1, -, g3⟩ := hN i ob ob' k hk (h2 i hi)
    refine ⟨g1, g3.trans ?_⟩
    by_cases hkm : k < m
    · rw [if_pos (h2 k hkm), if_pos hkm]
    · rw [h1 k (by omega), if_neg hkm]; rfl
  · rintro l a w ⟨h1, hs, -⟩ hn hr
    have := all_listed hdag l hs hr (m + 1) m (by omega) (by omega)
    rw [h1 m (Nat.le_refl _)] at this; cases this
  · rintro l a w i ⟨h1, hI⟩ hn hi
    have hC := hI
    obtain ⟨-, -, -, -, -, -, -, hC⟩ := hC
    have him := preT_lt hpre hi hC h1 hn
    refine wpOp_mono (fun a w h => ⟨fun j hj => ?_, h⟩) (pinv_step (and_l hok) (and_r hok) (okK_is hkk) (hob i him) hI hi)
    obtain ⟨hil, -⟩ := ready_get hi
    rw [getD_set l i j hil, if_neg (by omega)]
    exact h1 j hj
  · simp
  · exact ⟨fun j _ => by rw [Array.getD_eq_getD_getElem?, Array.getElem?_replicate]; split <;> rfl, pinv_start _⟩
theorem last_do2 {fuel : Nat} {l : Array Bool} {A : Act} {w : World} (p q : Nat) {op oq : Oper} (hf : 2 ≤ fuel)
    (hr : Region.ready md ops l = [p]) (hrp : Region.ready md ops (l.setIfInBounds p true) = [q])
    (hpq : Region.ready md ops ((l.setIfInBounds p true).setIfInBounds q true) = [])
    (hop : ops[p]? = some op) (hgp : op.guard = none) (hoq : ops[q]? = some oq) (hgq : oq.guard = none) {R : Value → World → Prop}
    (dp : Does P op A w R) (fq : ∀ v w', R v w' → Does P oq (A.put op.dst v) w' fun v2 w2 => Q .normal ((A.put op.dst v).put oq.dst v2) w2) : wpAny P md ops Q fuel l A w := by
  obtain ⟨n, rfl⟩ : ∃ n, fuel = n + 1 + 1 := ⟨fuel - 2, by omega⟩
  refine ⟨fun h => (by rw [hr] at h; cases h), fun i hi => ?_⟩
  rw [hr] at hi
  obtain rfl := List.mem_singleton.1 hi
  refine op_go hop hgp dp ?_
  intro v w' hv
  refine ⟨fun h => (by rw [hrp] at h; cases h), fun i hi => ?_⟩
  rw [hrp] at hi
  obtain rfl := List.mem_singleton.1 hi
  refine op_go hoq hgq (fq v w' hv) ?_
  intro v2 w2 h2
  cases n with
  | zero => exact ⟨hpq, h2⟩
  | succ n => exact ⟨fun _ => h2, fun i hi => by rw [hpq] at hi; cases hi⟩
/-- one last operation -/
theorem last_do1 {fuel : Nat} {l : Array Bool} {A : Act} {w : World} (p : Nat) {op : Oper} (hf : 1 ≤ fuel)
    (hr : Region.ready md ops l = [p]) (hrp : Region.ready md ops (l.setIfInBounds p true) = [])
    (hop : ops[p]? = some op) (hgp : op.guard = none)
    (dp : Does P op A w fun v w' => Q .normal (A.put op.dst v) w') : wpAny P md ops Q fuel l A w := by
  obtain ⟨n, rfl⟩ : ∃ n, fuel = n + 1 := ⟨fuel - 1, by omega⟩
  refine ⟨fun h => (by rw [hr] at h; cases h), fun i hi => ?_⟩
  rw [hr] at hi
  obtain rfl := List.mem_singleton.1 hi
  refine op_go hop hgp dp ?_
  intro v2 w2 h2
  cases n with
  | zero => exact ⟨hrp, h2⟩
  | succ n => exact ⟨fun _ => h2, fun i hi => by rw [hrp] at hi; cases hi⟩
end
end Go.Proofs.YtagnikeaellbiaaGreatDoor
