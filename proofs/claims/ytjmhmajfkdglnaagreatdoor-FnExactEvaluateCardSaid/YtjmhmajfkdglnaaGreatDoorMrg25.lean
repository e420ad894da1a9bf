import Derived.Test.YtjmhmajfkdglnaaGreatDoorMrg7
import Derived.Test.YtjmhmajfkdglnaaGreatDoorMrg0
import Derived.Test.YtjmhmajfkdglnaaGreatDoorChecked
import Derived.WalkKit
import Derived.ProofKit
import Derived.Test.YtjmhmajfkdglnaaGreatDoorMrg24
import Derived.Test.YtjmhmajfkdglnaaGreatDoorMrg13
set_option linter.unusedVariables false
set_option maxRecDepth 100000
set_option maxHeartbeats 16000000
namespace Go.Proofs.YtjmhmajfkdglnaaGreatDoor
open Go.RowKit
section
variable {A : Act} {w : World} {dst : Option Tmp} {ty : TypeId} {ps : String} {af : Array Edge} {gd : Option (Nat × Bool)} {x y : Operand} {b i : Nat}
theorem doV_move {u : Value} (hx : A.eval x = u) :
    Does Tryz.prog { dst := dst, op := .move x, type := ty, pos := ps, after := af, guard := gd } A w fun v' w' => v' = u ∧ Below w.heap.size w w' := by
  have h : (execOp A.eval { dst := dst, op := .move x, type := ty, pos := ps, after := af, guard := gd }).run Tryz.prog w = .ok (.value (u)) w := by generalize A.eval = ev at *; simp [execOp, hx, go_sem]
  exact does_value h ⟨rfl, Below.refl _ _⟩
theorem doV_assign {u : Value} (hx : A.eval x = u) :
    Does Tryz.prog { dst := dst, op := .assign x, type := ty, pos := ps, after := af, guard := gd } A w fun v' w' => v' = u ∧ Below w.heap.size w w' := by
  have h : (execOp A.eval { dst := dst, op := .assign x, type := ty, pos := ps, after := af, guard := gd }).run Tryz.prog w = .ok (.value (u)) w := by generalize A.eval = ev at *; simp [execOp, hx, go_sem]
  exact does_value h ⟨rfl, Below.refl _ _⟩
theorem ld_pt {v0 v1 v2 : Value} (hx : A.eval x = .pointer (some ⟨b, i, none⟩)) (h0 : w.cell? ⟨b, i, none⟩ = some v0) (h1 : w.cell? ⟨b, i + 1, none⟩ = some v1) (h2 : w.cell? ⟨b, i + 2, none⟩ = some v2) :
    Does Tryz.prog { dst := dst, op := .load 28 x, type := ty, pos := ps, after := af, guard := gd } A w fun v' w' => v' = .agg #[v0, v1, v2] ∧ Below w.heap.size w w' := by
  have h : (execOp A.eval { dst := dst, op := .load 28 x, type := ty, pos := ps, after := af, guard := gd }).run Tryz.prog w = .ok (.value (.agg #[v0, v1, v2])) w := by generalize A.eval = ev at *; simp [execOp, hx, h0, h1, h2, go_sem]
  exact does_value h ⟨rfl, Below.refl _ _⟩
theorem ld_cp {v0 v1 v2 : Value} (hx : A.eval x = .pointer (some ⟨b, i, none⟩)) (h0 : w.cell? ⟨b, i, none⟩ = some v0) (h1 : w.cell? ⟨b, i + 1, none⟩ = some v1) (h2 : w.cell? ⟨b, i + 2, none⟩ = some v2) :
    Does Tryz.prog { dst := dst, op := .load 106 x, type := ty, pos := ps, after := af, guard := gd } A w fun v' w' => v' = .agg #[v0, v1, v2] ∧ Below w.heap.size w w' := by
  have h : (execOp A.eval { dst := dst, op := .load 106 x, type := ty, pos := ps, after := af, guard := gd }).run Tryz.prog w = .ok (.value (.agg #[v0, v1, v2])) w := by generalize A.eval = ev at *; simp [execOp, hx, h0, h1, h2, go_sem]
  exact does_value h ⟨rfl, Below.refl _ _⟩
theorem ld_nN {v0 : Value} (hx : A.eval x = .pointer (some ⟨b, i, none⟩)) (h0 : w.cell? ⟨b, i, none⟩ = some v0) :
    Does Tryz.prog { dst := dst, op := .load 117 x, type := ty, pos := ps, after := af, guard := gd } A w fun v' w' => v' = .agg #[v0] ∧ Below w.heap.size w w' := by
  have h : (execOp A.eval { dst := dst, op := .load 117 x, type := ty, pos := ps, after := af, guard := gd }).run Tryz.prog w = .ok (.value (.agg #[v0])) w := by generalize A.eval = ev at *; simp [execOp, hx, h0, go_sem]
  exact does_value h ⟨rfl, Below.refl _ _⟩
theorem ld_u64 {v0 : Value} (hx : A.eval x = .pointer (some ⟨b, i, none⟩)) (h0 : w.cell? ⟨b, i, none⟩ = some v0) :
    Does Tryz.prog { dst := dst, op := .load 22 x, type := ty, pos := ps, after := af, guard := gd } A w fun v' w' => v' = v0 ∧ Below w.heap.size w w' := by
  have h : (execOp A.eval { dst := dst, op := .load 22 x, type := ty, pos := ps, after := af, guard := gd }).run Tryz.prog w = .ok (.value (v0)) w := by generalize A.eval = ev at *; simp [execOp, hx, h0, go_sem]
  exact does_value h ⟨rfl, Below.refl _ _⟩
theorem ix_pts {k m cap : Nat} (hx : A.eval x = .slice (some ⟨b, i, none⟩) m cap) (hy : A.eval y = .int .i64 (k : Int)) (hk : k < m) :
    Does Tryz.prog { dst := dst, op := .indexAddr 38 x y, type := ty, pos := ps, after := af, guard := gd } A w fun v' w' => v' = .pointer (some ⟨b, i + k * 3, none⟩) ∧ Below w.heap.size w w' := by
  have h1 : (k : Int) < (m : Int) := by omega
  have h : (execOp A.eval { dst := dst, op := .indexAddr 38 x y, type := ty, pos := ps, after := af, guard := gd }).run Tryz.prog w = .ok (.value (.pointer (some ⟨b, i + k * 3, none⟩))) w := by generalize A.eval = ev at *; simp [execOp, hx, hy, h1, go_sem]
  exact does_value h ⟨rfl, Below.refl _ _⟩
theorem ix_u64s {k m cap : Nat} (hx : A.eval x = .slice (some ⟨b, i, none⟩) m cap) (hy : A.eval y = .int .i64 (k : Int)) (hk : k < m) :
    Does Tryz.prog { dst := dst, op := .indexAddr 158 x y, type := ty, pos := ps, after := af, guard := gd } A w fun v' w' => v' = .pointer (some ⟨b, i + k, none⟩) ∧ Below w.heap.size w w' := by
  have h1 : (k : Int) < (m : Int) := by omega
  have h : (execOp A.eval { dst := dst, op := .indexAddr 158 x y, type := ty, pos := ps, after := af, guard := gd }).run Tryz.prog w = .ok (.value (.pointer (some ⟨b, i + k, none⟩))) w := by generalize A.eval = ev at *; simp [execOp, hx, hy, h1, go_sem]
  exact does_value h ⟨rfl, Below.refl _ _⟩
theorem ix_cps {k m cap : Nat} (hx : A.eval x = .slice (some ⟨b, i, none⟩) m cap) (hy : A.eval y = .int .i64 (k : Int)) (hk : k < m) :
    Does Tryz.prog { dst := dst, op := .indexAddr 107 x y, type := ty, pos := ps, after := af, guard := gd } A w fun v' w' => v' = .pointer (some ⟨b, i + k * 3, none⟩) ∧ Below w.heap.size w w' := by
  have h1 : (k : Int) < (m : Int) := by omega
  have h : (execOp A.eval { dst := dst, op := .indexAddr 107 x y, type := ty, pos := ps, after := af, guard := gd }).run Tryz.prog w = .ok (.value (.pointer (some ⟨b, i + k * 3, none⟩))) w := by generalize A.eval = ev at *; simp [execOp, hx, hy, h1, go_sem]
  exact does_value h ⟨rfl, Below.refl _ _⟩
theorem ix_nNs {k m cap : Nat} (hx : A.eval x = .slice (some ⟨b, i, none⟩) m cap) (hy : A.eval y = .int .i64 (k : Int)) (hk : k < m) :
    Does Tryz.prog { dst := dst, op := .indexAddr 223 x y, type := ty, pos := ps, after := af, guard := gd } A w fun v' w' => v' = .pointer (some ⟨b, i + k, none⟩) ∧ Below w.heap.size w w' := by
  have h1 : (k : Int) < (m : Int) := by omega
  have h : (execOp A.eval { dst := dst, op := .indexAddr 223 x y, type := ty, pos := ps, after := af, guard := gd }).run Tryz.prog w = .ok (.value (.pointer (some ⟨b, i + k, none⟩))) w := by generalize A.eval = ev at *; simp [execOp, hx, hy, h1, go_sem]
  exact does_value h ⟨rfl, Below.refl _ _⟩
theorem ld_bat {v0 v1 v2 v3 v4 v5 : Value} (hx : A.eval x = .pointer (some ⟨b, i, none⟩)) (h0 : w.cell? ⟨b, i, none⟩ = some v0) (h1 : w.cell? ⟨b, i + 1, none⟩ = some v1) (h2 : w.cell? ⟨b, i + 2, none⟩ = some v2) (h3 : w.cell? ⟨b, i + 3, none⟩ = some v3) (h4 : w.cell? ⟨b, i + 4, none⟩ = some v4) (h5 : w.cell? ⟨b, i + 5, none⟩ = some v5) :
    Does Tryz.prog { dst := dst, op := .load 109 x, type := ty, pos := ps, after := af, guard := gd } A w fun v' w' => v' = .agg #[v0, v1, v2, v3, v4, v5] ∧ Below w.heap.size w w' := by
  have h : (execOp A.eval { dst := dst, op := .load 109 x, type := ty, pos := ps, after := af, guard := gd }).run Tryz.prog w = .ok (.value (.agg #[v0, v1, v2, v3, v4, v5])) w := by generalize A.eval = ev at *; simp [execOp, hx, h0, h1, h2, h3, h4, h5, go_sem]
  exact does_value h ⟨rfl, Below.refl _ _⟩
theorem ld_ctx {v0 : Value} (hx : A.eval x = .pointer (some ⟨b, i, none⟩)) (h0 : w.cell? ⟨b, i, none⟩ = some v0) :
    Does Tryz.prog { dst := dst, op := .load 104 x, type := ty, pos := ps, after := af, guard := gd } A w fun v' w' => v' = v0 ∧ Below w.heap.size w w' := by
  have h : (execOp A.eval { dst := dst, op := .load 104 x, type := ty, pos := ps, after := af, guard := gd }).run Tryz.prog w = .ok (.value (v0)) w := by generalize A.eval = ev at *; simp [execOp, hx, h0, go_sem]
  exact does_value h ⟨rfl, Below.refl _ _⟩
theorem ld_cpsl {v0 : Value} (hx : A.eval x = .pointer (some ⟨b, i, none⟩)) (h0 : w.cell? ⟨b, i, none⟩ = some v0) :
    Does Tryz.prog { dst := dst, op := .load 107 x, type := ty, pos := ps, after := af, guard := gd } A w fun v' w' => v' = v0 ∧ Below w.heap.size w w' := by
  have h : (execOp A.eval { dst := dst, op := .load 107 x, type := ty, pos := ps, after := af, guard := gd }).run Tryz.prog w = .ok (.value (v0)) w := by generalize A.eval = ev at *; simp [execOp, hx, h0, go_sem]
  exact does_value h ⟨rfl, Below.refl _ _⟩
theorem fa_bat0 (hx : A.eval x = .pointer (some ⟨b, i, none⟩)) :
    Does Tryz.prog { dst := dst, op := .fieldAddr 109 x 0, type := ty, pos := ps, after := af, guard := gd } A w fun v' w' => v' = .pointer (some ⟨b, i, none⟩) ∧ Below w.heap.size w w' := by
  have h : (execOp A.eval { dst := dst, op := .fieldAddr 109 x 0, type := ty, pos := ps, after := af, guard := gd }).run Tryz.prog w = .ok (.value (.pointer (some ⟨b, i, none⟩))) w := by generalize A.eval = ev at *; simp [execOp, hx, go_sem]
  exact does_value h ⟨rfl, Below.refl _ _⟩
theorem fa_bat1 (hx : A.eval x = .pointer (some ⟨b, i, none⟩)) :
    Does Tryz.prog { dst := dst, op := .fieldAddr 109 x 1, type := ty, pos := ps, after := af, guard := gd } A w fun v' w' => v' = .pointer (some ⟨b, i + 1, none⟩) ∧ Below w.heap.size w w' := by
  have h : (execOp A.eval { dst := dst, op := .fieldAddr 109 x 1, type := ty, pos := ps, after := af, guard := gd }).run Tryz.prog w = .ok (.value (.pointer (some ⟨b, i + 1, none⟩))) w := by generalize A.eval = ev at *; simp [execOp, hx, go_sem]
  exact does_value h ⟨rfl, Below.refl _ _⟩
theorem fa_bat2 (hx : A.eval x = .pointer (some ⟨b, i, none⟩)) :
    Does Tryz.prog { dst := dst, op := .fieldAddr 109 x 2, type := ty, pos := ps, after := af, guard := gd } A w fun v' w' => v' = .pointer (some ⟨b, i + 4, none⟩) ∧ Below w.heap.size w w' := by
  have h : (execOp A.eval { dst := dst, op := .fieldAddr 109 x 2, type := ty, pos := ps, after := af, guard := gd }).run Tryz.prog w = .ok (.value (.pointer (some ⟨b, i + 4, none⟩))) w := by generalize A.eval = ev at *; simp [execOp, hx, go_sem]
  exact does_value h ⟨rfl, Below.refl _ _⟩
theorem fa_bat3 (hx : A.eval x = .pointer (some ⟨b, i, none⟩)) :
    Does Tryz.prog { dst := dst, op := .fieldAddr 109 x 3, type := ty, pos := ps, after := af, guard := gd } A w fun v' w' => v' = .pointer (some ⟨b, i + 5, none⟩) ∧ Below w.heap.size w w' := by
  have h : (execOp A.eval { dst := dst, op := .fieldAddr 109 x 3, type := ty, pos := ps, after := af, guard := gd }).run Tryz.prog w = .ok (.value (.pointer (some ⟨b, i + 5, none⟩))) w := by generalize A.eval = ev at *; simp [execOp, hx, go_sem]
  exact does_value h ⟨rfl, Below.refl _ _⟩
theorem mi_cp {u : Value} (hx : A.eval x = u) :
    Does Tryz.prog { dst := dst, op := .makeInterface 106 x, type := ty, pos := ps, after := af, guard := gd } A w fun v' w' => v' = .iface 106 u ∧ Below w.heap.size w w' := by
  have h : (execOp A.eval { dst := dst, op := .makeInterface 106 x, type := ty, pos := ps, after := af, guard := gd }).run Tryz.prog w = .ok (.value (.iface 106 u)) w := by generalize A.eval = ev at *; simp [execOp, hx, go_sem]
  exact does_value h ⟨rfl, Below.refl _ _⟩
theorem mi_sized {u : Value} (hx : A.eval x = u) :
    Does Tryz.prog { dst := dst, op := .makeInterface 208 x, type := ty, pos := ps, after := af, guard := gd } A w fun v' w' => v' = .iface 208 u ∧ Below w.heap.size w w' := by
  have h : (execOp A.eval { dst := dst, op := .makeInterface 208 x, type := ty, pos := ps, after := af, guard := gd }).run Tryz.prog w = .ok (.value (.iface 208 u)) w := by generalize A.eval = ev at *; simp [execOp, hx, go_sem]
  exact does_value h ⟨rfl, Below.refl _ _⟩
theorem mi_plain {u : Value} (hx : A.eval x = u) :
    Does Tryz.prog { dst := dst, op := .makeInterface 210 x, type := ty, pos := ps, after := af, guard := gd } A w fun v' w' => v' = .iface 210 u ∧ Below w.heap.size w w' := by
  have h : (execOp A.eval { dst := dst, op := .makeInterface 210 x, type := ty, pos := ps, after := af, guard := gd }).run Tryz.prog w = .ok (.value (.iface 210 u)) w := by generalize A.eval = ev at *; simp [execOp, hx, go_sem]
  exact does_value h ⟨rfl, Below.refl _ _⟩
theorem mi_index {u : Value} (hx : A.eval x = u) :
    Does Tryz.prog { dst := dst, op := .makeInterface 266 x, type := ty, pos := ps, after := af, guard := gd } A w fun v' w' => v' = .iface 266 u ∧ Below w.heap.size w w' := by
  have h : (execOp A.eval { dst := dst, op := .makeInterface 266 x, type := ty, pos := ps, after := af, guard := gd }).run Tryz.prog w = .ok (.value (.iface 266 u)) w := by generalize A.eval = ev at *; simp [execOp, hx, go_sem]
  exact does_value h ⟨rfl, Below.refl _ _⟩
theorem cl0 {F : FuncId} {at_ : Array TypeId} {r : Value} (hcf : ∀ (args : Array Value) (w : World), (callFunc F args).run Tryz.prog w = .ok (.enter F args) w)
    (hc : Calls Tryz.prog F #[] w fun e w' => e = .returned r ∧ Below w.heap.size w w') :
    Does Tryz.prog { dst := dst, op := .call { callee := .value (.func F), args := #[], argTypes := at_ }, type := ty, pos := ps, after := af, guard := gd } A w fun v' w' => v' = r ∧ Below w.heap.size w w' := by
  have hF : A.eval (.func F) = .func (.func F) #[] #[] := rfl
  have h : (execOp A.eval { dst := dst, op := .call { callee := .value (.func F), args := #[], argTypes := at_ }, type := ty, pos := ps, after := af, guard := gd }).run Tryz.prog w = .ok (.enter F #[]) w := by generalize A.eval = ev at *; simp [execOp, hF, hcf, go_sem]
  exact does_call h (hc.mono fun _ _ ⟨h, h'⟩ => ⟨r, h, rfl, h'⟩)
theorem cl1 {F : FuncId} {at_ : Array TypeId} {r : Value} {x0 : Operand} {u0 : Value} (hcf : ∀ (args : Array Value) (w : World), (callFunc F args).run Tryz.prog w = .ok (.enter F args) w) (h0 : A.eval x0 = u0)
    (hc : Calls Tryz.prog F #[u0] w fun e w' => e = .returned r ∧ Below w.heap.size w w') :
    Does Tryz.prog { dst := dst, op := .call { callee := .value (.func F), args := #[x0], argTypes := at_ }, type := ty, pos := ps, after := af, guard := gd } A w fun v' w' => v' = r ∧ Below w.heap.size w w' := by
  have hF : A.eval (.func F) = .func (.func F) #[] #[] := rfl
  have h : (execOp A.eval { dst := dst, op := .call { callee := .value (.func F), args := #[x0], argTypes := at_ }, type := ty, pos := ps, after := af, guard := gd }).run Tryz.prog w = .ok (.enter F #[u0]) w := by generalize A.eval = ev at *; simp [execOp, hF, hcf, h0, go_sem]
  exact does_call h (hc.mono fun _ _ ⟨h, h'⟩ => ⟨r, h, rfl, h'⟩)
theorem cl2 {F : FuncId} {at_ : Array TypeId} {r : Value} {x0 x1 : Operand} {u0 u1 : Value} (hcf : ∀ (args : Array Value) (w : World), (callFunc F args).run Tryz.prog w = .ok (.enter F args) w) (h0 : A.eval x0 = u0) (h1 : A.eval x1 = u1)
    (hc : Calls Tryz.prog F #[u0, u1] w fun e w' => e = .returned r ∧ Below w.heap.size w w') :
    Does Tryz.prog { dst := dst, op := .call { callee := .value (.func F), args := #[x0, x1], argTypes := at_ }, type := ty, pos := ps, after := af, guard := gd } A w fun v' w' => v' = r ∧ Below w.heap.size w w' := by
  have hF : A.eval (.func F) = .func (.func F) #[] #[] := rfl
  have h : (execOp A.eval { dst := dst, op := .call { callee := .value (.func F), args := #[x0, x1], argTypes := at_ }, type := ty, pos := ps, after := af, guard := gd }).run Tryz.prog w = .ok (.enter F #[u0, u1]) w := by generalize A.eval = ev at *; simp [execOp, hF, hcf, h0, h1, go_sem]
  exact does_call h (hc.mono fun _ _ ⟨h, h'⟩ => ⟨r, h, rfl, h'⟩)
theorem cl4 {F : FuncId} {at_ : Array TypeId} {r : Value} {x0 x1 x2 x3 : Operand} {u0 u1 u2 u3 : Value} (hcf : ∀ (args : Array Value) (w : World), (callFunc F args).run Tryz.prog w = .ok (.enter F args) w) (h0 : A.eval x0 = u0) (h1 : A.eval x1 = u1) (h2 : A.eval x2 = u2) (h3 : A.eval x3 = u3)
    (hc : Calls Tryz.prog F #[u0, u1, u2, u3] w fun e w' => e = .returned r ∧ Below w.heap.size w w') :
    Does Tryz.prog { dst := dst, op := .call { callee := .value (.func F), args := #[x0, x1, x2, x3], argTypes := at_ }, type := ty, pos := ps, after := af, guard := gd } A w fun v' w' => v' = r ∧ Below w.heap.size w w' := by
  have hF : A.eval (.func F) = .func (.func F) #[] #[] := rfl
  have h : (execOp A.eval { dst := dst, op := .call { callee := .value (.func F), args := #[x0, x1, x2, x3], argTypes := at_ }, type := ty, pos := ps, after := af, guard := gd }).run Tryz.prog w = .ok (.enter F #[u0, u1, u2, u3]) w := by generalize A.eval = ev at *; simp [execOp, hF, hcf, h0, h1, h2, h3, go_sem]
  exact does_call h (hc.mono fun _ _ ⟨h, h'⟩ => ⟨r, h, rfl, h'⟩)
theorem cl5 {F : FuncId} {at_ : Array TypeId} {r : Value} {x0 x1 x2 x3 x4 : Operand} {u0 u1 u2 u3 u4 : Value} (hcf : ∀ (args : Array Value) (w : World), (callFunc F args).run Tryz.prog w = .ok (.enter F args) w) (h0 : A.eval x0 = u0) (h1 : A.eval x1 = u1) (h2 : A.eval x2 = u2) (h3 : A.eval x3 = u3) (h4 : A.eval x4 = u4)
    (hc : Calls Tryz.prog F #[u0, u1, u2, u3, u4] w fun e w' => e = .returned r ∧ Below w.heap.size w w') :
    Does Tryz.prog { dst := dst, op := .call { callee := .value (.func F), args := #[x0, x1, x2, x3, x4], argTypes := at_ }, type := ty, pos := ps, after := af, guard := gd } A w fun v' w' => v' = r ∧ Below w.heap.size w w' := by
  have hF : A.eval (.func F) = .func (.func F) #[] #[] := rfl
  have h : (execOp A.eval { dst := dst, op := .call { callee := .value (.func F), args := #[x0, x1, x2, x3, x4], argTypes := at_ }, type := ty, pos := ps, after := af, guard := gd }).run Tryz.prog w = .ok (.enter F #[u0, u1, u2, u3, u4]) w := by generalize A.eval = ev at *; simp [execOp, hF, hcf, h0, h1, h2, h3, h4, go_sem]
  exact does_call h (hc.mono fun _ _ ⟨h, h'⟩ => ⟨r, h, rfl, h'⟩)
theorem cl6 {F : FuncId} {at_ : Array TypeId} {r : Value} {x0 x1 x2 x3 x4 x5 : Operand} {u0 u1 u2 u3 u4 u5 : Value} (hcf : ∀ (args : Array Value) (w : World), (callFunc F args).run Tryz.prog w = .ok (.enter F args) w) (h0 : A.eval x0 = u0) (h1 : A.eval x1 = u1) (h2 : A.eval x2 = u2) (h3 : A.eval x3 = u3) (h4 : A.eval x4 = u4) (h5 : A.eval x5 = u5)
    (hc : Calls Tryz.prog F #[u0, u1, u2, u3, u4, u5] w fun e w' => e = .returned r ∧ Below w.heap.size w w') :
    Does Tryz.prog { dst := dst, op := .call { callee := .value (.func F), args := #[x0, x1, x2, x3, x4, x5], argTypes := at_ }, type := ty, pos := ps, after := af, guard := gd } A w fun v' w' => v' = r ∧ Below w.heap.size w w' := by
  have hF : A.eval (.func F) = .func (.func F) #[] #[] := rfl
  have h : (execOp A.eval { dst := dst, op := .call { callee := .value (.func F), args := #[x0, x1, x2, x3, x4, x5], argTypes := at_ }, type := ty, pos := ps, after := af, guard := gd }).run Tryz.prog w = .ok (.enter F #[u0, u1, u2, u3, u4, u5]) w := by generalize A.eval = ev at *; simp [execOp, hF, hcf, h0, h1, h2, h3, h4, h5, go_sem]
  exact does_call h (hc.mono fun _ _ ⟨h, h'⟩ => ⟨r, h, rfl, h'⟩)
theorem cl7 {F : FuncId} {at_ : Array TypeId} {r : Value} {x0 x1 x2 x3 x4 x5 x6 : Operand} {u0 u1 u2 u3 u4 u5 u6 : Value} (hcf : ∀ (args : Array Value) (w : World), (callFunc F args).run Tryz.prog w = .ok (.enter F args) w) (h0 : A.eval x0 = u0) (h1 : A.eval x1 = u1) (h2 : A.eval x2 = u2) (h3 : A.eval x3 = u3) (h4 : A.eval x4 = u4) (h5 : A.eval x5 = u5) (h6 : A.eval x6 = u6)
    (hc : Calls Tryz.prog F #[u0, u1, u2, u3, u4, u5, u6] w fun e w' => e = .returned r ∧ Below w.heap.size w w') :
    Does Tryz.prog { dst := dst, op := .call { callee := .value (.func F), args := #[x0, x1, x2, x3, x4, x5, x6], argTypes := at_ }, type := ty, pos := ps, after := af, guard := gd } A w fun v' w' => v' = r ∧ Below w.heap.size w w' := by
  have hF : A.eval (.func F) = .func (.func F) #[] #[] := rfl
  have h : (execOp A.eval { dst := dst, op := .call { callee := .value (.func F), args := #[x0, x1, x2, x3, x4, x5, x6], argTypes := at_ }, type := ty, pos := ps, after := af, guard := gd }).run Tryz.prog w = .ok (.enter F #[u0, u1, u2, u3, u4, u5, u6]) w := by generalize A.eval = ev at *; simp [execOp, hF, hcf, h0, h1, h2, h3, h4, h5, h6, go_sem]
  exact does_call h (hc.mono fun _ _ ⟨h, h'⟩ => ⟨r, h, rfl, h'⟩)
theorem sl_parts1 {x0 : Operand} {t0 : TypeId} {u0 : Value} (h0 : A.eval x0 = .iface t0 u0) :
    Does Tryz.prog { dst := dst, op := .buildSlice 209 1 #[(0, x0)], type := ty, pos := ps, after := af, guard := gd } A w fun v w' => v = .slice (some ⟨w.heap.size, 0, none⟩) 1 1 ∧ w' = w.alloc (.cells #[.iface t0 u0] 253) := by
  have h : (execOp A.eval { dst := dst, op := .buildSlice 209 1 #[(0, x0)], type := ty, pos := ps, after := af, guard := gd }).run Tryz.prog w = .ok (.value (.slice (some ⟨w.heap.size, 0, none⟩) 1 1)) (w.alloc (.cells #[.iface t0 u0] 253)) := by generalize A.eval = ev at *; simp [execOp, h0, go_sem]
  exact does_value h ⟨rfl, rfl⟩
theorem sl_parts2 {x0 x1 : Operand} {t0 : TypeId} {u0 : Value} {t1 : TypeId} {u1 : Value} (h0 : A.eval x0 = .iface t0 u0) (h1 : A.eval x1 = .iface t1 u1) :
    Does Tryz.prog { dst := dst, op := .buildSlice 209 2 #[(0, x0), (1, x1)], type := ty, pos := ps, after := af, guard := gd } A w fun v w' => v = .slice (some ⟨w.heap.size, 0, none⟩) 2 2 ∧ w' = w.alloc (.cells #[.iface t0 u0, .iface t1 u1] 253) := by
  have h : (execOp A.eval { dst := dst, op := .buildSlice 209 2 #[(0, x0), (1, x1)], type := ty, pos := ps, after := af, guard := gd }).run Tryz.prog w = .ok (.value (.slice (some ⟨w.heap.size, 0, none⟩) 2 2)) (w.alloc (.cells #[.iface t0 u0, .iface t1 u1] 253)) := by generalize A.eval = ev at *; simp [execOp, h0, h1, go_sem]
  exact does_value h ⟨rfl, rfl⟩
theorem sl_parts4 {x0 x1 x2 x3 : Operand} {t0 : TypeId} {u0 : Value} {t1 : TypeId} {u1 : Value} {t2 : TypeId} {u2 : Value} {t3 : TypeId} {u3 : Value} (h0 : A.eval x0 = .iface t0 u0) (h1 : A.eval x1 = .iface t1 u1) (h2 : A.eval x2 = .iface t2 u2) (h3 : A.eval x3 = .iface t3 u3) :
    Does Tryz.prog { dst := dst, op := .buildSlice 209 4 #[(0, x0), (1, x1), (2, x2), (3, x3)], type := ty, pos := ps, after := af, guard := gd } A w fun v w' => v = .slice (some ⟨w.heap.size, 0, none⟩) 4 4 ∧ w' = w.alloc (.cells #[.iface t0 u0, .iface t1 u1, .iface t2 u2, .iface t3 u3] 253) := by
  have h : (execOp A.eval { dst := dst, op := .buildSlice 209 4 #[(0, x0), (1, x1), (2, x2), (3, x3)], type := ty, pos := ps, after := af, guard := gd }).run Tryz.prog w = .ok (.value (.slice (some ⟨w.heap.size, 0, none⟩) 4 4)) (w.alloc (.cells #[.iface t0 u0, .iface t1 u1, .iface t2 u2, .iface t3 u3] 253)) := by generalize A.eval = ev at *; simp [execOp, h0, h1, h2, h3, go_sem]
  exact does_value h ⟨rfl, rfl⟩
theorem sl_parts6 {x0 x1 x2 x3 x4 x5 : Operand} {t0 : TypeId} {u0 : Value} {t1 : TypeId} {u1 : Value} {t2 : TypeId} {u2 : Value} {t3 : TypeId} {u3 : Value} {t4 : TypeId} {u4 : Value} {t5 : TypeId} {u5 : Value} (h0 : A.eval x0 = .iface t0 u0) (h1 : A.eval x1 = .iface t1 u1) (h2 : A.eval x2 = .iface t2 u2) (h3 : A.eval x3 = .iface t3 u3) (h4 : A.eval x4 = .iface t4 u4) (h5 : A.eval x5 = .iface t5 u5) :
    Does Tryz.prog { dst := dst, op := .buildSlice 209 6 #[(0, x0), (1, x1), (2, x2), (3, x3), (4, x4), (5, x5)], type := ty, pos := ps, after := af, guard := gd } A w fun v w' => v = .slice (some ⟨w.heap.size, 0, none⟩) 6 6 ∧ w' = w.alloc (.cells #[.iface t0 u0, .iface t1 u1, .iface t2 u2, .iface t3 u3, .iface t4 u4, .iface t5 u5] 253) := by
  have h : (execOp A.eval { dst := dst, op := .buildSlice 209 6 #[(0, x0), (1, x1), (2, x2), (3, x3), (4, x4), (5, x5)], type := ty, pos := ps, after := af, guard := gd }).run Tryz.prog w = .ok (.value (.slice (some ⟨w.heap.size, 0, none⟩) 6 6)) (w.alloc (.cells #[.iface t0 u0, .iface t1 u1, .iface t2 u2, .iface t3 u3, .iface t4 u4, .iface t5 u5] 253)) := by generalize A.eval = ev at *; simp [execOp, h0, h1, h2, h3, h4, h5, go_sem]
  exact does_value h ⟨rfl, rfl⟩
theorem sl_nN1 {x0 : Operand} {z0 : Int} (h0 : A.eval x0 = .agg #[.int .u64 z0]) :
    Does Tryz.prog { dst := dst, op := .buildSlice 223 1 #[(0, x0)], type := ty, pos := ps, after := af, guard := gd } A w fun v w' => v = .slice (some ⟨w.heap.size, 0, none⟩) 1 1 ∧ w' = w.alloc (.cells #[.int .u64 z0] 117) := by
  have h : (execOp A.eval { dst := dst, op := .buildSlice 223 1 #[(0, x0)], type := ty, pos := ps, after := af, guard := gd }).run Tryz.prog w = .ok (.value (.slice (some ⟨w.heap.size, 0, none⟩) 1 1)) (w.alloc (.cells #[.int .u64 z0] 117)) := by generalize A.eval = ev at *; simp [execOp, h0, go_sem]
  exact does_value h ⟨rfl, rfl⟩
theorem sl_u64s1 {x0 : Operand} {z0 : Int} (h0 : A.eval x0 = .int .u64 z0) :
    Does Tryz.prog { dst := dst, op := .buildSlice 158 1 #[(0, x0)], type := ty, pos := ps, after := af, guard := gd } A w fun v w' => v = .slice (some ⟨w.heap.size, 0, none⟩) 1 1 ∧ w' = w.alloc (.cells #[.int .u64 z0] 22) := by
  have h : (execOp A.eval { dst := dst, op := .buildSlice 158 1 #[(0, x0)], type := ty, pos := ps, after := af, guard := gd }).run Tryz.prog w = .ok (.value (.slice (some ⟨w.heap.size, 0, none⟩) 1 1)) (w.alloc (.cells #[.int .u64 z0] 22)) := by generalize A.eval = ev at *; simp [execOp, h0, go_sem]
  exact does_value h ⟨rfl, rfl⟩
theorem sl_strs1 {x0 : Operand} {s0 : ByteArray} (h0 : A.eval x0 = .string s0) :
    Does Tryz.prog { dst := dst, op := .buildSlice 255 1 #[(0, x0)], type := ty, pos := ps, after := af, guard := gd } A w fun v w' => v = .slice (some ⟨w.heap.size, 0, none⟩) 1 1 ∧ w' = w.alloc (.cells #[.string s0] 9) := by
  have h : (execOp A.eval { dst := dst, op := .buildSlice 255 1 #[(0, x0)], type := ty, pos := ps, after := af, guard := gd }).run Tryz.prog w = .ok (.value (.slice (some ⟨w.heap.size, 0, none⟩) 1 1)) (w.alloc (.cells #[.string s0] 9)) := by generalize A.eval = ev at *; simp [execOp, h0, go_sem]
  exact does_value h ⟨rfl, rfl⟩
theorem al_cp : Does Tryz.prog { dst := dst, op := .alloc 106, type := ty, pos := ps, after := af, guard := gd } A w fun v w' => v = .pointer (some ⟨w.heap.size, 0, none⟩) ∧ w' = w.alloc (.cells #[.int .u64 0, .int .u64 0, .bool false] 106) := by
  have h : (execOp A.eval { dst := dst, op := .alloc 106, type := ty, pos := ps, after := af, guard := gd }).run Tryz.prog w = .ok (.value (.pointer (some ⟨w.heap.size, 0, none⟩))) (w.alloc (.cells #[.int .u64 0, .int .u64 0, .bool false] 106)) := by simp [execOp, go_sem]
  exact does_value h ⟨rfl, rfl⟩
theorem pu_cp {z0 : Int} {z1 : Int} {z2 : Bool} (hx : A.eval x = .pointer (some ⟨b, 0, none⟩)) (hy : A.eval y = .agg #[.int .u64 z0, .int .u64 z1, .bool z2]) (hr : w.heap[b]? = some (.cells #[.int .u64 0, .int .u64 0, .bool false] 106)) :
    Does Tryz.prog { dst := dst, op := .store 106 x y, type := ty, pos := ps, after := af, guard := gd } A w fun _ w' => Turned b (.cells #[.int .u64 z0, .int .u64 z1, .bool z2] 106) w w' := by
  have c0 : w.cell? ⟨b, 0, none⟩ = some (.int .u64 0) := by simp [World.cell?, hr]
  have c1 : w.cell? ⟨b, 1, none⟩ = some (.int .u64 0) := by simp [World.cell?, hr]
  have c2 : w.cell? ⟨b, 2, none⟩ = some (.bool false) := by simp [World.cell?, hr]
  have hf : ∀ k, w.frozen? ⟨b, k, none⟩ = false := fun k => by simp [World.frozen?, hr]
  have h : (execOp A.eval { dst := dst, op := .store 106 x y, type := ty, pos := ps, after := af, guard := gd }).run Tryz.prog w = .ok .skip (((w.setCell ⟨b, 0, none⟩ (.int .u64 z0)).setCell ⟨b, 1, none⟩ (.int .u64 z1)).setCell ⟨b, 2, none⟩ (.bool z2)) := by generalize A.eval = ev at *; simp [execOp, hx, hy, hf, c0, c1, c2, go_sem]
  refine does_skip h ⟨rfl, rfl, rfl, by simp [World.setCell], by simp [World.setCell, Array.getElem?_modify, hr], fun k hk => ?_⟩
  simp [World.setCell, Array.getElem?_modify, Ne.symm hk]
theorem st_pt {z0 z0' : Int} {z1 z1' : Int} {z2 z2' : Bool} (hx : A.eval x = .pointer (some ⟨b, 0, none⟩)) (hy : A.eval y = .agg #[.int .u64 z0, .int .u64 z1, .bool z2]) (hr : w.heap[b]? = some (.cells #[.int .u64 z0', .int .u64 z1', .bool z2'] 28)) :
    Does Tryz.prog { dst := dst, op := .store 28 x y, type := ty, pos := ps, after := af, guard := gd } A w fun _ w' => w' = (((w.setCell ⟨b, 0, none⟩ (.int .u64 z0)).setCell ⟨b, 1, none⟩ (.int .u64 z1)).setCell ⟨b, 2, none⟩ (.bool z2)) := by
  have c0 : w.cell? ⟨b, 0, none⟩ = some (.int .u64 z0') := by simp [World.cell?, hr]
  have c1 : w.cell? ⟨b, 1, none⟩ = some (.int .u64 z1') := by simp [World.cell?, hr]
  have c2 : w.cell? ⟨b, 2, none⟩ = some (.bool z2') := by simp [World.cell?, hr]
  have hf : ∀ k, w.frozen? ⟨b, k, none⟩ = false := fun k => by simp [World.frozen?, hr]
  have h : (execOp A.eval { dst := dst, op := .store 28 x y, type := ty, pos := ps, after := af, guard := gd }).run Tryz.prog w = .ok .skip (((w.setCell ⟨b, 0, none⟩ (.int .u64 z0)).setCell ⟨b, 1, none⟩ (.int .u64 z1)).setCell ⟨b, 2, none⟩ (.bool z2)) := by generalize A.eval = ev at *; simp [execOp, hx, hy, hf, c0, c1, c2, go_sem]
  exact does_skip h rfl
theorem ld_tr {v0 v1 v2 : Value} (hx : A.eval x = .pointer (some ⟨b, i, none⟩)) (h0 : w.cell? ⟨b, i, none⟩ = some v0) (h1 : w.cell? ⟨b, i + 1, none⟩ = some v1) (h2 : w.cell? ⟨b, i + 2, none⟩ = some v2) :
    Does Tryz.prog { dst := dst, op := .load 189 x, type := ty, pos := ps, after := af, guard := gd } A w fun v' w' => v' = .agg #[v0, v1, v2] ∧ Below w.heap.size w w' := by
  have h : (execOp A.eval { dst := dst, op := .load 189 x, type := ty, pos := ps, after := af, guard := gd }).run Tryz.prog w = .ok (.value (.agg #[v0, v1, v2])) w := by generalize A.eval = ev at *; simp [execOp, hx, h0, h1, h2, go_sem]
  exact does_value h ⟨rfl, Below.refl _ _⟩
theorem st_tr {z0 z0' : Int} {z1 z1' : Int} {z2 z2' : Int} (hx : A.eval x = .pointer (some ⟨b, 0, none⟩)) (hy : A.eval y = .agg #[.int .u64 z0, .int .u64 z1, .int .u64 z2]) (hr : w.heap[b]? = some (.cells #[.int .u64 z0', .int .u64 z1', .int .u64 z2'] 189)) :
    Does Tryz.prog { dst := dst, op := .store 189 x y, type := ty, pos := ps, after := af, guard := gd } A w fun _ w' => w' = (((w.setCell ⟨b, 0, none⟩ (.int .u64 z0)).setCell ⟨b, 1, none⟩ (.int .u64 z1)).setCell ⟨b, 2, none⟩ (.int .u64 z2)) := by
  have c0 : w.cell? ⟨b, 0, none⟩ = some (.int .u64 z0') := by simp [World.cell?, hr]
  have c1 : w.cell? ⟨b, 1, none⟩ = some (.int .u64 z1') := by simp [World.cell?, hr]
  have c2 : w.cell? ⟨b, 2, none⟩ = some (.int .u64 z2') := by simp [World.cell?, hr]
  have hf : ∀ k, w.frozen? ⟨b, k, none⟩ = false := fun k => by simp [World.frozen?, hr]
  have h : (execOp A.eval { dst := dst, op := .store 189 x y, type := ty, pos := ps, after := af, guard := gd }).run Tryz.prog w = .ok .skip (((w.setCell ⟨b, 0, none⟩ (.int .u64 z0)).setCell ⟨b, 1, none⟩ (.int .u64 z1)).setCell ⟨b, 2, none⟩ (.int .u64 z2)) := by generalize A.eval = ev at *; simp [execOp, hx, hy, hf, c0, c1, c2, go_sem]
  exact does_skip h rfl
theorem al_nN : Does Tryz.prog { dst := dst, op := .alloc 117, type := ty, pos := ps, after := af, guard := gd } A w fun v w' => v = .pointer (some ⟨w.heap.size, 0, none⟩) ∧ w' = w.alloc (.cells #[.int .u64 0] 117) := by
  have h : (execOp A.eval { dst := dst, op := .alloc 117, type := ty, pos := ps, after := af, guard := gd }).run Tryz.prog w = .ok (.value (.pointer (some ⟨w.heap.size, 0, none⟩))) (w.alloc (.cells #[.int .u64 0] 117)) := by simp [execOp, go_sem]
  exact does_value h ⟨rfl, rfl⟩
theorem pu_nN {z0 : Int} (hx : A.eval x = .pointer (some ⟨b, 0, none⟩)) (hy : A.eval y = .agg #[.int .u64 z0]) (hr : w.heap[b]? = some (.cells #[.int .u64 0] 117)) :
    Does Tryz.prog { dst := dst, op := .store 117 x y, type := ty, pos := ps, after := af, guard := gd } A w fun _ w' => Turned b (.cells #[.int .u64 z0] 117) w w' := by
  have c0 : w.cell? ⟨b, 0, none⟩ = some (.int .u64 0) := by simp [World.cell?, hr]
  have hf : ∀ k, w.frozen? ⟨b, k, none⟩ = false := fun k => by simp [World.frozen?, hr]
  have h : (execOp A.eval { dst := dst, op := .store 117 x y, type := ty, pos := ps, after := af, guard := gd }).run Tryz.prog w = .ok .skip (w.setCell ⟨b, 0, none⟩ (.int .u64 z0)) := by generalize A.eval = ev at *; simp [execOp, hx, hy, hf, c0, go_sem]
  refine does_skip h ⟨rfl, rfl, rfl, by simp [World.setCell], by simp [World.setCell, Array.getElem?_modify, hr], fun k hk => ?_⟩
  simp [World.setCell, Array.getElem?_modify, Ne.symm hk]
theorem st_nN {z0 z0' : Int} (hx : A.eval x = .pointer (some ⟨b, 0, none⟩)) (hy : A.eval y = .agg #[.int .u64 z0]) (hr : w.heap[b]? = some (.cells #[.int .u64 z0'] 117)) :
    Does Tryz.prog { dst := dst, op := .store 117 x y, type := ty, pos := ps, after := af, guard := gd } A w fun _ w' => w' = (w.setCell ⟨b, 0, none⟩ (.int .u64 z0)) := by
  have c0 : w.cell? ⟨b, 0, none⟩ = some (.int .u64 z0') := by simp [World.cell?, hr]
  have hf : ∀ k, w.frozen? ⟨b, k, none⟩ = false := fun k => by simp [World.frozen?, hr]
  have h : (execOp A.eval { dst := dst, op := .store 117 x y, type := ty, pos := ps, after := af, guard := gd }).run Tryz.prog w = .ok .skip (w.setCell ⟨b, 0, none⟩ (.int .u64 z0)) := by generalize A.eval = ev at *; simp [execOp, hx, hy, hf, c0, go_sem]
  exact does_skip h rfl
theorem st_prf {z0 z0' : Int} {z1 z1' : Int} (hx : A.eval x = .pointer (some ⟨b, 0, none⟩)) (hy : A.eval y = .agg #[.int .u64 z0, .int .u64 z1]) (hr : w.heap[b]? = some (.cells #[.int .u64 z0', .int .u64 z1'] 40)) :
    Does Tryz.prog { dst := dst, op := .store 40 x y, type := ty, pos := ps, after := af, guard := gd } A w fun _ w' => w' = ((w.setCell ⟨b, 0, none⟩ (.int .u64 z0)).setCell ⟨b, 1, none⟩ (.int .u64 z1)) := by
  have c0 : w.cell? ⟨b, 0, none⟩ = some (.int .u64 z0') := by simp [World.cell?, hr]
  have c1 : w.cell? ⟨b, 1, none⟩ = some (.int .u64 z1') := by simp [World.cell?, hr]
  have hf : ∀ k, w.frozen? ⟨b, k, none⟩ = false := fun k => by simp [World.frozen?, hr]
  have h : (execOp A.eval { dst := dst, op := .store 40 x y, type := ty, pos := ps, after := af, guard := gd }).run Tryz.prog w = .ok .skip ((w.setCell ⟨b, 0, none⟩ (.int .u64 z0)).setCell ⟨b, 1, none⟩ (.int .u64 z1)) := by generalize A.eval = ev at *; simp [execOp, hx, hy, hf, c0, c1, go_sem]
  exact does_skip h rfl
theorem bu_prf {z0 z1 : Int} (hx : A.eval x = .int .u64 z0) (hy : A.eval y = .int .u64 z1) :
    Does Tryz.prog { dst := dst, op := .build 40 #[(0, x), (1, y)], type := ty, pos := ps, after := af, guard := gd } A w fun v' w' => v' = .agg #[.int .u64 z0, .int .u64 z1] ∧ Below w.heap.size w w' := by
  have h : (execOp A.eval { dst := dst, op := .build 40 #[(0, x), (1, y)], type := ty, pos := ps, after := af, guard := gd }).run Tryz.prog w = .ok (.value (.agg #[.int .u64 z0, .int .u64 z1])) w := by generalize A.eval = ev at *; simp [execOp, hx, hy, go_sem]
  exact does_value h ⟨rfl, Below.refl _ _⟩
end
section
variable {A : Act} {w : World} {dst : Option Tmp} {ty : TypeId} {ps : String} {af : Array Edge} {gd : Option (Nat × Bool)}
theorem cg0 {F : FuncId} {at_ : Array TypeId} {Fv : Nat → Value} {R : Nat → World → Prop} (hcf : ∀ (args : Array Value) (w : World), (callFunc F args).run Tryz.prog w = .ok (.enter F args) w)
    (hc : Calls Tryz.prog F #[] w fun e w' => ∃ x, e = .returned (Fv x) ∧ R x w' ∧ Below w.heap.size w w') :
    Does Tryz.prog { dst := dst, op := .call { callee := .value (.func F), args := #[], argTypes := at_ }, type := ty, pos := ps, after := af, guard := gd } A w fun v' w' => ∃ x, v' = Fv x ∧ R x w' ∧ Below w.heap.size w w' := by
  have hF : A.eval (.func F) = .func (.func F) #[] #[] := rfl
  have h : (execOp A.eval { dst := dst, op := .call { callee := .value (.func F), args := #[], argTypes := at_ }, type := ty, pos := ps, after := af, guard := gd }).run Tryz.prog w = .ok (.enter F #[]) w := by generalize A.eval = ev at *; simp [execOp, hF, hcf, go_sem]
  exact does_call h (hc.mono fun _ _ ⟨x, h, h'⟩ => ⟨Fv x, h, x, rfl, h'⟩)
theorem cg1 {F : FuncId} {at_ : Array TypeId} {Fv : Nat → Value} {R : Nat → World → Prop} {x0 : Operand} {u0 : Value} (hcf : ∀ (args : Array Value) (w : World), (callFunc F args).run Tryz.prog w = .ok (.enter F args) w) (h0 : A.eval x0 = u0)
    (hc : Calls Tryz.prog F #[u0] w fun e w' => ∃ x, e = .returned (Fv x) ∧ R x w' ∧ Below w.heap.size w w') :
    Does Tryz.prog { dst := dst, op := .call { callee := .value (.func F), args := #[x0], argTypes := at_ }, type := ty, pos := ps, after := af, guard := gd } A w fun v' w' => ∃ x, v' = Fv x ∧ R x w' ∧ Below w.heap.size w w' := by
  have hF : A.eval (.func F) = .func (.func F) #[] #[] := rfl
  have h : (execOp A.eval { dst := dst, op := .call { callee := .value (.func F), args := #[x0], argTypes := at_ }, type := ty, pos := ps, after := af, guard := gd }).run Tryz.prog w = .ok (.enter F #[u0]) w := by generalize A.eval = ev at *; simp [execOp, hF, hcf, h0, go_sem]
  exact does_call h (hc.mono fun _ _ ⟨x, h, h'⟩ => ⟨Fv x, h, x, rfl, h'⟩)
end
def slG (n x : Nat) : Value := .slice (some ⟨x / 18446744073709551616, 0, none⟩) n (x % 18446744073709551616)
theorem slG_of (n g cap : Nat) (h : cap < 18446744073709551616) : slG n (g * 18446744073709551616 + cap) = .slice (some ⟨g, 0, none⟩) n cap := by
  unfold slG
  rw [show (g * 18446744073709551616 + cap) / 18446744073709551616 = g by omega, show (g * 18446744073709551616 + cap) % 18446744073709551616 = cap by omega]
theorem own_cap {W : World} {base : Nat} {e : TypeId} {size g n cap : Nat} {xs : List Value} (h : W.ownsRow base e size (.slice (some ⟨g, 0, none⟩) n cap) n xs) : cap < 18446744073709551616 := by
  rcases h.2 with ⟨h0, _⟩ | ⟨g', cap', cur, hv, -, -, -, hm, -⟩
  · cases h0
  · have : cap = cap' := by injection hv
    subst this
    unfold maxLen at hm; omega
theorem own_turned {w w' : World} {B : Nat} {e : TypeId} {s : Nat} {v : Value} {n : Nat} {xs : List Value} {b : Nat} {ob : Obj} (h : w.ownsRow B e s v n xs) (hT : Turned b ob w w') (hne : v.ownBlock ≠ some b) : w'.ownsRow B e s v n xs := by
  refine ⟨h.1, ?_⟩
  rcases h.2 with h2 | ⟨g, cap, cur, hv, hbg, hg, hr⟩
  · exact .inl h2
  · refine .inr ⟨g, cap, cur, hv, hbg, ?_, hr⟩
    rw [hT.other g (fun e => hne (by rw [hv, ← e]; rfl))]; exact hg
theorem own_lasts (B : Nat) (e : TypeId) (s n : Nat) (xs : List Value) (obs : List Obj) (hne : ∀ ob ∈ obs, ∃ cs T, ob = .cells cs T ∧ T ≠ e) : G.Lasts (fun x w => w.ownsRow B e s (slG n x) n xs) obs :=
  ⟨fun x w w' h hb => below_own3 h hb, fun x w w' b ob ob' h hm hw hT => by
    obtain ⟨cs, T, rfl, hT'⟩ := hne ob hm
    exact own_turned h hT (own_ne h hw hT')⟩
theorem fldN5 (z : Int) (w : World) : (Instr.field 117 (.agg #[.int .u64 z]) 1).run Tryz.prog w = .ok (.int .u64 z) w := by kernel_rfl
section
variable {A : Act} {w : World} {dst : Option Tmp} {ty : TypeId} {ps : String} {af : Array Edge} {gd : Option (Nat × Bool)} {x y : Operand} {b i : Nat}
theorem fa_nN1 (hx : A.eval x = .pointer (some ⟨b, i, none⟩)) :
    Does Tryz.prog { dst := dst, op := .fieldAddr 117 x 1, type := ty, pos := ps, after := af, guard := gd } A w fun v' w' => v' = .pointer (some ⟨b, i, none⟩) ∧ Below w.heap.size w w' := by
  have h : (execOp A.eval { dst := dst, op := .fieldAddr 117 x 1, type := ty, pos := ps, after := af, guard := gd }).run Tryz.prog w = .ok (.value (.pointer (some ⟨b, i, none⟩))) w := by generalize A.eval = ev at *; simp [execOp, hx, go_sem]
  exact does_value h ⟨rfl, Below.refl _ _⟩
theorem fl_nN1 {z : Int} (hx : A.eval x = .agg #[.int .u64 z]) :
    Does Tryz.prog { dst := dst, op := .field 117 x 1, type := ty, pos := ps, after := af, guard := gd } A w fun v' w' => v' = .int .u64 z ∧ Below w.heap.size w w' := by
  have h : (execOp A.eval { dst := dst, op := .field 117 x 1, type := ty, pos := ps, after := af, guard := gd }).run Tryz.prog w = .ok (.value (.int .u64 z)) w := by generalize A.eval = ev at *; simp [execOp, hx, fldN5, go_sem]
  exact does_value h ⟨rfl, Below.refl _ _⟩
end
end Go.Proofs.YtjmhmajfkdglnaaGreatDoor
