import Derived.Test.YtjmhmajfkdglnaaGreatDoorMrg4
import Derived.Test.YtjmhmajfkdglnaaGreatDoorMrg0
import Derived.Test.YtjmhmajfkdglnaaGreatDoorChecked
import Derived.WalkKit
import Derived.ProofKit
import Derived.Test.YtjmhmajfkdglnaaGreatDoorProg
import Derived.Laws.BytesArg
import Derived.Deep.RegionHeld3
import Derived.Lib.ConvBytes
import Derived.Deep.Strs
import Derived.Shelf.Strings.Repeat
import Derived.KernelRfl
import Derived.Below
import Derived.Test.YtjmhmajfkdglnaaGreatDoorMrg1
import Derived.Shelf.Strings.Builder1
set_option linter.unusedVariables false
set_option maxRecDepth 100000
set_option maxHeartbeats 16000000
namespace Go.Proofs.YtjmhmajfkdglnaaGreatDoor
open Go.RowKit
section
variable {A : Act} {w : World} {dst : Option Tmp} {ty : TypeId} {ps : String} {af : Array Edge} {gd : Option (Nat × Bool)} {x y : Operand} {b i : Nat}
theorem doV_move {u : Value} (hx : A.eval x = u) :
    Does Tryz.prog { dst := dst, op := .move x, type := ty, pos := ps, after := af, guard := gd } A w fun v' w' => v' = u ∧ Below w.heap.size w w' := by
  have h : (execOp A.eval { dst := dst, op := .move x, type := ty, pos := ps, after := af, guard := gd }).run Tryz.prog w = .ok (.value (u)) w := by generalize A.eval = ev at *; simp [execOp, hx, go_sem]
  exact does_value h ⟨rfl, Below.refl _ _⟩
theorem doV_assign {u : Value} (hx : A.eval x = u) :
    Does Tryz.prog { dst := dst, op := .assign x, type := ty, pos := ps, after := af, guard := gd } A w fun v' w' => v' = u ∧ Below w.heap.size w w' := by
  have h : (execOp A.eval { dst := dst, op := .assign x, type := ty, pos := ps, after := af, guard := gd }).run Tryz.prog w = .ok (.value (u)) w := by generalize A.eval = ev at *; simp [execOp, hx, go_sem]
  exact does_value h ⟨rfl, Below.refl _ _⟩
theorem ld_pt {v0 v1 v2 : Value} (hx : A.eval x = .pointer (some ⟨b, i, none⟩)) (h0 : w.cell? ⟨b, i, none⟩ = some v0) (h1 : w.cell? ⟨b, i + 1, none⟩ = some v1) (h2 : w.cell? ⟨b, i + 2, none⟩ = some v2) :
    Does Tryz.prog { dst := dst, op := .load 28 x, type := ty, pos := ps, after := af, guard := gd } A w fun v' w' => v' = .agg #[v0, v1, v2] ∧ Below w.heap.size w w' := by
  have h : (execOp A.eval { dst := dst, op := .load 28 x, type := ty, pos := ps, after := af, guard := gd }).run Tryz.prog w = .ok (.value (.agg #[v0, v1, v2])) w := by generalize A.eval = ev at *; simp [execOp, hx, h0, h1, h2, go_sem]
  exact does_value h ⟨rfl, Below.refl _ _⟩
theorem ld_cp {v0 v1 v2 : Value} (hx : A.eval x = .pointer (some ⟨b, i, none⟩)) (h0 : w.cell? ⟨b, i, none⟩ = some v0) (h1 : w.cell? ⟨b, i + 1, none⟩ = some v1) (h2 : w.cell? ⟨b, i + 2, none⟩ = some v2) :
    Does Tryz.prog { dst := dst, op := .load 106 x, type := ty, pos := ps, after := af, guard := gd } A w fun v' w' => v' = .agg #[v0, v1, v2] ∧ Below w.heap.size w w' := by
  have h : (execOp A.eval { dst := dst, op := .load 106 x, type := ty, pos := ps, after := af, guard := gd }).run Tryz.prog w = .ok (.value (.agg #[v0, v1, v2])) w := by generalize A.eval = ev at *; simp [execOp, hx, h0, h1, h2, go_sem]
  exact does_value h ⟨rfl, Below.refl _ _⟩
theorem ld_nN {v0 : Value} (hx : A.eval x = .pointer (some ⟨b, i, none⟩)) (h0 : w.cell? ⟨b, i, none⟩ = some v0) :
    Does Tryz.prog { dst := dst, op := .load 117 x, type := ty, pos := ps, after := af, guard := gd } A w fun v' w' => v' = .agg #[v0] ∧ Below w.heap.size w w' := by
  have h : (execOp A.eval { dst := dst, op := .load 117 x, type := ty, pos := ps, after := af, guard := gd }).run Tryz.prog w = .ok (.value (.agg #[v0])) w := by generalize A.eval = ev at *; simp [execOp, hx, h0, go_sem]
  exact does_value h ⟨rfl, Below.refl _ _⟩
theorem ld_u64 {v0 : Value} (hx : A.eval x = .pointer (some ⟨b, i, none⟩)) (h0 : w.cell? ⟨b, i, none⟩ = some v0) :
    Does Tryz.prog { dst := dst, op := .load 22 x, type := ty, pos := ps, after := af, guard := gd } A w fun v' w' => v' = v0 ∧ Below w.heap.size w w' := by
  have h : (execOp A.eval { dst := dst, op := .load 22 x, type := ty, pos := ps, after := af, guard := gd }).run Tryz.prog w = .ok (.value (v0)) w := by generalize A.eval = ev at *; simp [execOp, hx, h0, go_sem]
  exact does_value h ⟨rfl, Below.refl _ _⟩
theorem ix_pts {k m cap : Nat} (hx : A.eval x = .slice (some ⟨b, i, none⟩) m cap) (hy : A.eval y = .int .i64 (k : Int)) (hk : k < m) :
    Does Tryz.prog { dst := dst, op := .indexAddr 38 x y, type := ty, pos := ps, after := af, guard := gd } A w fun v' w' => v' = .pointer (some ⟨b, i + k * 3, none⟩) ∧ Below w.heap.size w w' := by
  have h1 : (k : Int) < (m : Int) := by omega
  have h : (execOp A.eval { dst := dst, op := .indexAddr 38 x y, type := ty, pos := ps, after := af, guard := gd }).run Tryz.prog w = .ok (.value (.pointer (some ⟨b, i + k * 3, none⟩))) w := by generalize A.eval = ev at *; simp [execOp, hx, hy, h1, go_sem]
  exact does_value h ⟨rfl, Below.refl _ _⟩
theorem ix_u64s {k m cap : Nat} (hx : A.eval x = .slice (some ⟨b, i, none⟩) m cap) (hy : A.eval y = .int .i64 (k : Int)) (hk : k < m) :
    Does Tryz.prog { dst := dst, op := .indexAddr 158 x y, type := ty, pos := ps, after := af, guard := gd } A w fun v' w' => v' = .pointer (some ⟨b, i + k, none⟩) ∧ Below w.heap.size w w' := by
  have h1 : (k : Int) < (m : Int) := by omega
  have h : (execOp A.eval { dst := dst, op := .indexAddr 158 x y, type := ty, pos := ps, after := af, guard := gd }).run Tryz.prog w = .ok (.value (.pointer (some ⟨b, i + k, none⟩))) w := by generalize A.eval = ev at *; simp [execOp, hx, hy, h1, go_sem]
  exact does_value h ⟨rfl, Below.refl _ _⟩
theorem ix_cps {k m cap : Nat} (hx : A.eval x = .slice (some ⟨b, i, none⟩) m cap) (hy : A.eval y = .int .i64 (k : Int)) (hk : k < m) :
    Does Tryz.prog { dst := dst, op := .indexAddr 107 x y, type := ty, pos := ps, after := af, guard := gd } A w fun v' w' => v' = .pointer (some ⟨b, i + k * 3, none⟩) ∧ Below w.heap.size w w' := by
  have h1 : (k : Int) < (m : Int) := by omega
  have h : (execOp A.eval { dst := dst, op := .indexAddr 107 x y, type := ty, pos := ps, after := af, guard := gd }).run Tryz.prog w = .ok (.value (.pointer (some ⟨b, i + k * 3, none⟩))) w := by generalize A.eval = ev at *; simp [execOp, hx, hy, h1, go_sem]
  exact does_value h ⟨rfl, Below.refl _ _⟩
theorem ix_nNs {k m cap : Nat} (hx : A.eval x = .slice (some ⟨b, i, none⟩) m cap) (hy : A.eval y = .int .i64 (k : Int)) (hk : k < m) :
    Does Tryz.prog { dst := dst, op := .indexAddr 223 x y, type := ty, pos := ps, after := af, guard := gd } A w fun v' w' => v' = .pointer (some ⟨b, i + k, none⟩) ∧ Below w.heap.size w w' := by
  have h1 : (k : Int) < (m : Int) := by omega
  have h : (execOp A.eval { dst := dst, op := .indexAddr 223 x y, type := ty, pos := ps, after := af, guard := gd }).run Tryz.prog w = .ok (.value (.pointer (some ⟨b, i + k, none⟩))) w := by generalize A.eval = ev at *; simp [execOp, hx, hy, h1, go_sem]
  exact does_value h ⟨rfl, Below.refl _ _⟩
theorem ld_bat {v0 v1 v2 v3 v4 v5 : Value} (hx : A.eval x = .pointer (some ⟨b, i, none⟩)) (h0 : w.cell? ⟨b, i, none⟩ = some v0) (h1 : w.cell? ⟨b, i + 1, none⟩ = some v1) (h2 : w.cell? ⟨b, i + 2, none⟩ = some v2) (h3 : w.cell? ⟨b, i + 3, none⟩ = some v3) (h4 : w.cell? ⟨b, i + 4, none⟩ = some v4) (h5 : w.cell? ⟨b, i + 5, none⟩ = some v5) :
    Does Tryz.prog { dst := dst, op := .load 109 x, type := ty, pos := ps, after := af, guard := gd } A w fun v' w' => v' = .agg #[v0, v1, v2, v3, v4, v5] ∧ Below w.heap.size w w' := by
  have h : (execOp A.eval { dst := dst, op := .load 109 x, type := ty, pos := ps, after := af, guard := gd }).run Tryz.prog w = .ok (.value (.agg #[v0, v1, v2, v3, v4, v5])) w := by generalize A.eval = ev at *; simp [execOp, hx, h0, h1, h2, h3, h4, h5, go_sem]
  exact does_value h ⟨rfl, Below.refl _ _⟩
theorem ld_ctx {v0 : Value} (hx : A.eval x = .pointer (some ⟨b, i, none⟩)) (h0 : w.cell? ⟨b, i, none⟩ = some v0) :
    Does Tryz.prog { dst := dst, op := .load 104 x, type := ty, pos := ps, after := af, guard := gd } A w fun v' w' => v' = v0 ∧ Below w.heap.size w w' := by
  have h : (execOp A.eval { dst := dst, op := .load 104 x, type := ty, pos := ps, after := af, guard := gd }).run Tryz.prog w = .ok (.value (v0)) w := by generalize A.eval = ev at *; simp [execOp, hx, h0, go_sem]
  exact does_value h ⟨rfl, Below.refl _ _⟩
theorem ld_cpsl {v0 : Value} (hx : A.eval x = .pointer (some ⟨b, i, none⟩)) (h0 : w.cell? ⟨b, i, none⟩ = some v0) :
    Does Tryz.prog { dst := dst, op := .load 107 x, type := ty, pos := ps, after := af, guard := gd } A w fun v' w' => v' = v0 ∧ Below w.heap.size w w' := by
  have h : (execOp A.eval { dst := dst, op := .load 107 x, type := ty, pos := ps, after := af, guard := gd }).run Tryz.prog w = .ok (.value (v0)) w := by generalize A.eval = ev at *; simp [execOp, hx, h0, go_sem]
  exact does_value h ⟨rfl, Below.refl _ _⟩
theorem fa_bat0 (hx : A.eval x = .pointer (some ⟨b, i, none⟩)) :
    Does Tryz.prog { dst := dst, op := .fieldAddr 109 x 0, type := ty, pos := ps, after := af, guard := gd } A w fun v' w' => v' = .pointer (some ⟨b, i, none⟩) ∧ Below w.heap.size w w' := by
  have h : (execOp A.eval { dst := dst, op := .fieldAddr 109 x 0, type := ty, pos := ps, after := af, guard := gd }).run Tryz.prog w = .ok (.value (.pointer (some ⟨b, i, none⟩))) w := by generalize A.eval = ev at *; simp [execOp, hx, go_sem]
  exact does_value h ⟨rfl, Below.refl _ _⟩
theorem fa_bat1 (hx : A.eval x = .pointer (some ⟨b, i, none⟩)) :
    Does Tryz.prog { dst := dst, op := .fieldAddr 109 x 1, type := ty, pos := ps, after := af, guard := gd } A w fun v' w' => v' = .pointer (some ⟨b, i + 1, none⟩) ∧ Below w.heap.size w w' := by
  have h : (execOp A.eval { dst := dst, op := .fieldAddr 109 x 1, type := ty, pos := ps, after := af, guard := gd }).run Tryz.prog w = .ok (.value (.pointer (some ⟨b, i + 1, none⟩))) w := by generalize A.eval = ev at *; simp [execOp, hx, go_sem]
  exact does_value h ⟨rfl, Below.refl _ _⟩
theorem fa_bat2 (hx : A.eval x = .pointer (some ⟨b, i, none⟩)) :
    Does Tryz.prog { dst := dst, op := .fieldAddr 109 x 2, type := ty, pos := ps, after := af, guard := gd } A w fun v' w' => v' = .pointer (some ⟨b, i + 4, none⟩) ∧ Below w.heap.size w w' := by
  have h : (execOp A.eval { dst := dst, op := .fieldAddr 109 x 2, type := ty, pos := ps, after := af, guard := gd }).run Tryz.prog w = .ok (.value (.pointer (some ⟨b, i + 4, none⟩))) w := by generalize A.eval = ev at *; simp [execOp, hx, go_sem]
  exact does_value h ⟨rfl, Below.refl _ _⟩
theorem fa_bat3 (hx : A.eval x = .pointer (some ⟨b, i, none⟩)) :
    Does Tryz.prog { dst := dst, op := .fieldAddr 109 x 3, type := ty, pos := ps, after := af, guard := gd } A w fun v' w' => v' = .pointer (some ⟨b, i + 5, none⟩) ∧ Below w.heap.size w w' := by
  have h : (execOp A.eval { dst := dst, op := .fieldAddr 109 x 3, type := ty, pos := ps, after := af, guard := gd }).run Tryz.prog w = .ok (.value (.pointer (some ⟨b, i + 5, none⟩))) w := by generalize A.eval = ev at *; simp [execOp, hx, go_sem]
  exact does_value h ⟨rfl, Below.refl _ _⟩
theorem mi_cp {u : Value} (hx : A.eval x = u) :
    Does Tryz.prog { dst := dst, op := .makeInterface 106 x, type := ty, pos := ps, after := af, guard := gd } A w fun v' w' => v' = .iface 106 u ∧ Below w.heap.size w w' := by
  have h : (execOp A.eval { dst := dst, op := .makeInterface 106 x, type := ty, pos := ps, after := af, guard := gd }).run Tryz.prog w = .ok (.value (.iface 106 u)) w := by generalize A.eval = ev at *; simp [execOp, hx, go_sem]
  exact does_value h ⟨rfl, Below.refl _ _⟩
theorem mi_sized {u : Value} (hx : A.eval x = u) :
    Does Tryz.prog { dst := dst, op := .makeInterface 208 x, type := ty, pos := ps, after := af, guard := gd } A w fun v' w' => v' = .iface 208 u ∧ Below w.heap.size w w' := by
  have h : (execOp A.eval { dst := dst, op := .makeInterface 208 x, type := ty, pos := ps, after := af, guard := gd }).run Tryz.prog w = .ok (.value (.iface 208 u)) w := by generalize A.eval = ev at *; simp [execOp, hx, go_sem]
  exact does_value h ⟨rfl, Below.refl _ _⟩
theorem mi_plain {u : Value} (hx : A.eval x = u) :
    Does Tryz.prog { dst := dst, op := .makeInterface 210 x, type := ty, pos := ps, after := af, guard := gd } A w fun v' w' => v' = .iface 210 u ∧ Below w.heap.size w w' := by
  have h : (execOp A.eval { dst := dst, op := .makeInterface 210 x, type := ty, pos := ps, after := af, guard := gd }).run Tryz.prog w = .ok (.value (.iface 210 u)) w := by generalize A.eval = ev at *; simp [execOp, hx, go_sem]
  exact does_value h ⟨rfl, Below.refl _ _⟩
theorem mi_index {u : Value} (hx : A.eval x = u) :
    Does Tryz.prog { dst := dst, op := .makeInterface 266 x, type := ty, pos := ps, after := af, guard := gd } A w fun v' w' => v' = .iface 266 u ∧ Below w.heap.size w w' := by
  have h : (execOp A.eval { dst := dst, op := .makeInterface 266 x, type := ty, pos := ps, after := af, guard := gd }).run Tryz.prog w = .ok (.value (.iface 266 u)) w := by generalize A.eval = ev at *; simp [execOp, hx, go_sem]
  exact does_value h ⟨rfl, Below.refl _ _⟩
theorem cl0 {F : FuncId} {at_ : Array TypeId} {r : Value} (hcf : ∀ (args : Array Value) (w : World), (callFunc F args).run Tryz.prog w = .ok (.enter F args) w)
    (hc : Calls Tryz.prog F #[] w fun e w' => e = .returned r ∧ Below w.heap.size w w') :
    Does Tryz.prog { dst := dst, op := .call { callee := .value (.func F), args := #[], argTypes := at_ }, type := ty, pos := ps, after := af, guard := gd } A w fun v' w' => v' = r ∧ Below w.heap.size w w' := by
  have hF : A.eval (.func F) = .func (.func F) #[] #[] := rfl
  have h : (execOp A.eval { dst := dst, op := .call { callee := .value (.func F), args := #[], argTypes := at_ }, type := ty, pos := ps, after := af, guard := gd }).run Tryz.prog w = .ok (.enter F #[]) w := by generalize A.eval = ev at *; simp [execOp, hF, hcf, go_sem]
  exact does_call h (hc.mono fun _ _ ⟨h, h'⟩ => ⟨r, h, rfl, h'⟩)
theorem cl1 {F : FuncId} {at_ : Array TypeId} {r : Value} {x0 : Operand} {u0 : Value} (hcf : ∀ (args : Array Value) (w : World), (callFunc F args).run Tryz.prog w = .ok (.enter F args) w) (h0 : A.eval x0 = u0)
    (hc : Calls Tryz.prog F #[u0] w fun e w' => e = .returned r ∧ Below w.heap.size w w') :
    Does Tryz.prog { dst := dst, op := .call { callee := .value (.func F), args := #[x0], argTypes := at_ }, type := ty, pos := ps, after := af, guard := gd } A w fun v' w' => v' = r ∧ Below w.heap.size w w' := by
  have hF : A.eval (.func F) = .func (.func F) #[] #[] := rfl
  have h : (execOp A.eval { dst := dst, op := .call { callee := .value (.func F), args := #[x0], argTypes := at_ }, type := ty, pos := ps, after := af, guard := gd }).run Tryz.prog w = .ok (.enter F #[u0]) w := by generalize A.eval = ev at *; simp [execOp, hF, hcf, h0, go_sem]
  exact does_call h (hc.mono fun _ _ ⟨h, h'⟩ => ⟨r, h, rfl, h'⟩)
theorem cl2 {F : FuncId} {at_ : Array TypeId} {r : Value} {x0 x1 : Operand} {u0 u1 : Value} (hcf : ∀ (args : Array Value) (w : World), (callFunc F args).run Tryz.prog w = .ok (.enter F args) w) (h0 : A.eval x0 = u0) (h1 : A.eval x1 = u1)
    (hc : Calls Tryz.prog F #[u0, u1] w fun e w' => e = .returned r ∧ Below w.heap.size w w') :
    Does Tryz.prog { dst := dst, op := .call { callee := .value (.func F), args := #[x0, x1], argTypes := at_ }, type := ty, pos := ps, after := af, guard := gd } A w fun v' w' => v' = r ∧ Below w.heap.size w w' := by
  have hF : A.eval (.func F) = .func (.func F) #[] #[] := rfl
  have h : (execOp A.eval { dst := dst, op := .call { callee := .value (.func F), args := #[x0, x1], argTypes := at_ }, type := ty, pos := ps, after := af, guard := gd }).run Tryz.prog w = .ok (.enter F #[u0, u1]) w := by generalize A.eval = ev at *; simp [execOp, hF, hcf, h0, h1, go_sem]
  exact does_call h (hc.mono fun _ _ ⟨h, h'⟩ => ⟨r, h, rfl, h'⟩)
theorem cl3 {F : FuncId} {at_ : Array TypeId} {r : Value} {x0 x1 x2 : Operand} {u0 u1 u2 : Value} (hcf : ∀ (args : Array Value) (w : World), (callFunc F args).run Tryz.prog w = .ok (.enter F args) w) (h0 : A.eval x0 = u0) (h1 : A.eval x1 = u1) (h2 : A.eval x2 = u2)
    (hc : Calls Tryz.prog F #[u0, u1, u2] w fun e w' => e = .returned r ∧ Below w.heap.size w w') :
    Does Tryz.prog { dst := dst, op := .call { callee := .value (.func F), args := #[x0, x1, x2], argTypes := at_ }, type := ty, pos := ps, after := af, guard := gd } A w fun v' w' => v' = r ∧ Below w.heap.size w w' := by
  have hF : A.eval (.func F) = .func (.func F) #[] #[] := rfl
  have h : (execOp A.eval { dst := dst, op := .call { callee := .value (.func F), args := #[x0, x1, x2], argTypes := at_ }, type := ty, pos := ps, after := af, guard := gd }).run Tryz.prog w = .ok (.enter F #[u0, u1, u2]) w := by generalize A.eval = ev at *; simp [execOp, hF, hcf, h0, h1, h2, go_sem]
  exact does_call h (hc.mono fun _ _ ⟨h, h'⟩ => ⟨r, h, rfl, h'⟩)
theorem cl4 {F : FuncId} {at_ : Array TypeId} {r : Value} {x0 x1 x2 x3 : Operand} {u0 u1 u2 u3 : Value} (hcf : ∀ (args : Array Value) (w : World), (callFunc F args).run Tryz.prog w = .ok (.enter F args) w) (h0 : A.eval x0 = u0) (h1 : A.eval x1 = u1) (h2 : A.eval x2 = u2) (h3 : A.eval x3 = u3)
    (hc : Calls Tryz.prog F #[u0, u1, u2, u3] w fun e w' => e = .returned r ∧ Below w.heap.size w w') :
    Does Tryz.prog { dst := dst, op := .call { callee := .value (.func F), args := #[x0, x1, x2, x3], argTypes := at_ }, type := ty, pos := ps, after := af, guard := gd } A w fun v' w' => v' = r ∧ Below w.heap.size w w' := by
  have hF : A.eval (.func F) = .func (.func F) #[] #[] := rfl
  have h : (execOp A.eval { dst := dst, op := .call { callee := .value (.func F), args := #[x0, x1, x2, x3], argTypes := at_ }, type := ty, pos := ps, after := af, guard := gd }).run Tryz.prog w = .ok (.enter F #[u0, u1, u2, u3]) w := by generalize A.eval = ev at *; simp [execOp, hF, hcf, h0, h1, h2, h3, go_sem]
  exact does_call h (hc.mono fun _ _ ⟨h, h'⟩ => ⟨r, h, rfl, h'⟩)
theorem cl5 {F : FuncId} {at_ : Array TypeId} {r : Value} {x0 x1 x2 x3 x4 : Operand} {u0 u1 u2 u3 u4 : Value} (hcf : ∀ (args : Array Value) (w : World), (callFunc F args).run Tryz.prog w = .ok (.enter F args) w) (h0 : A.eval x0 = u0) (h1 : A.eval x1 = u1) (h2 : A.eval x2 = u2) (h3 : A.eval x3 = u3) (h4 : A.eval x4 = u4)
    (hc : Calls Tryz.prog F #[u0, u1, u2, u3, u4] w fun e w' => e = .returned r ∧ Below w.heap.size w w') :
    Does Tryz.prog { dst := dst, op := .call { callee := .value (.func F), args := #[x0, x1, x2, x3, x4], argTypes := at_ }, type := ty, pos := ps, after := af, guard := gd } A w fun v' w' => v' = r ∧ Below w.heap.size w w' := by
  have hF : A.eval (.func F) = .func (.func F) #[] #[] := rfl
  have h : (execOp A.eval { dst := dst, op := .call { callee := .value (.func F), args := #[x0, x1, x2, x3, x4], argTypes := at_ }, type := ty, pos := ps, after := af, guard := gd }).run Tryz.prog w = .ok (.enter F #[u0, u1, u2, u3, u4]) w := by generalize A.eval = ev at *; simp [execOp, hF, hcf, h0, h1, h2, h3, h4, go_sem]
  exact does_call h (hc.mono fun _ _ ⟨h, h'⟩ => ⟨r, h, rfl, h'⟩)
theorem cl6 {F : FuncId} {at_ : Array TypeId} {r : Value} {x0 x1 x2 x3 x4 x5 : Operand} {u0 u1 u2 u3 u4 u5 : Value} (hcf : ∀ (args : Array Value) (w : World), (callFunc F args).run Tryz.prog w = .ok (.enter F args) w) (h0 : A.eval x0 = u0) (h1 : A.eval x1 = u1) (h2 : A.eval x2 = u2) (h3 : A.eval x3 = u3) (h4 : A.eval x4 = u4) (h5 : A.eval x5 = u5)
    (hc : Calls Tryz.prog F #[u0, u1, u2, u3, u4, u5] w fun e w' => e = .returned r ∧ Below w.heap.size w w') :
    Does Tryz.prog { dst := dst, op := .call { callee := .value (.func F), args := #[x0, x1, x2, x3, x4, x5], argTypes := at_ }, type := ty, pos := ps, after := af, guard := gd } A w fun v' w' => v' = r ∧ Below w.heap.size w w' := by
  have hF : A.eval (.func F) = .func (.func F) #[] #[] := rfl
  have h : (execOp A.eval { dst := dst, op := .call { callee := .value (.func F), args := #[x0, x1, x2, x3, x4, x5], argTypes := at_ }, type := ty, pos := ps, after := af, guard := gd }).run Tryz.prog w = .ok (.enter F #[u0, u1, u2, u3, u4, u5]) w := by generalize A.eval = ev at *; simp [execOp, hF, hcf, h0, h1, h2, h3, h4, h5, go_sem]
  exact does_call h (hc.mono fun _ _ ⟨h, h'⟩ => ⟨r, h, rfl, h'⟩)
theorem cl7 {F : FuncId} {at_ : Array TypeId} {r : Value} {x0 x1 x2 x3 x4 x5 x6 : Operand} {u0 u1 u2 u3 u4 u5 u6 : Value} (hcf : ∀ (args : Array Value) (w : World), (callFunc F args).run Tryz.prog w = .ok (.enter F args) w) (h0 : A.eval x0 = u0) (h1 : A.eval x1 = u1) (h2 : A.eval x2 = u2) (h3 : A.eval x3 = u3) (h4 : A.eval x4 = u4) (h5 : A.eval x5 = u5) (h6 : A.eval x6 = u6)
    (hc : Calls Tryz.prog F #[u0, u1, u2, u3, u4, u5, u6] w fun e w' => e = .returned r ∧ Below w.heap.size w w') :
    Does Tryz.prog { dst := dst, op := .call { callee := .value (.func F), args := #[x0, x1, x2, x3, x4, x5, x6], argTypes := at_ }, type := ty, pos := ps, after := af, guard := gd } A w fun v' w' => v' = r ∧ Below w.heap.size w w' := by
  have hF : A.eval (.func F) = .func (.func F) #[] #[] := rfl
  have h : (execOp A.eval { dst := dst, op := .call { callee := .value (.func F), args := #[x0, x1, x2, x3, x4, x5, x6], argTypes := at_ }, type := ty, pos := ps, after := af, guard := gd }).run Tryz.prog w = .ok (.enter F #[u0, u1, u2, u3, u4, u5, u6]) w := by generalize A.eval = ev at *; simp [execOp, hF, hcf, h0, h1, h2, h3, h4, h5, h6, go_sem]
  exact does_call h (hc.mono fun _ _ ⟨h, h'⟩ => ⟨r, h, rfl, h'⟩)
theorem sl_parts1 {x0 : Operand} {t0 : TypeId} {u0 : Value} (h0 : A.eval x0 = .iface t0 u0) :
    Does Tryz.prog { dst := dst, op := .buildSlice 209 1 #[(0, x0)], type := ty, pos := ps, after := af, guard := gd } A w fun v w' => v = .slice (some ⟨w.heap.size, 0, none⟩) 1 1 ∧ w' = w.alloc (.cells #[.iface t0 u0] 253) := by
  have h : (execOp A.eval { dst := dst, op := .buildSlice 209 1 #[(0, x0)], type := ty, pos := ps, after := af, guard := gd }).run Tryz.prog w = .ok (.value (.slice (some ⟨w.heap.size, 0, none⟩) 1 1)) (w.alloc (.cells #[.iface t0 u0] 253)) := by generalize A.eval = ev at *; simp [execOp, h0, go_sem]
  exact does_value h ⟨rfl, rfl⟩
theorem sl_parts2 {x0 x1 : Operand} {t0 : TypeId} {u0 : Value} {t1 : TypeId} {u1 : Value} (h0 : A.eval x0 = .iface t0 u0) (h1 : A.eval x1 = .iface t1 u1) :
    Does Tryz.prog { dst := dst, op := .buildSlice 209 2 #[(0, x0), (1, x1)], type := ty, pos := ps, after := af, guard := gd } A w fun v w' => v = .slice (some ⟨w.heap.size, 0, none⟩) 2 2 ∧ w' = w.alloc (.cells #[.iface t0 u0, .iface t1 u1] 253) := by
  have h : (execOp A.eval { dst := dst, op := .buildSlice 209 2 #[(0, x0), (1, x1)], type := ty, pos := ps, after := af, guard := gd }).run Tryz.prog w = .ok (.value (.slice (some ⟨w.heap.size, 0, none⟩) 2 2)) (w.alloc (.cells #[.iface t0 u0, .iface t1 u1] 253)) := by generalize A.eval = ev at *; simp [execOp, h0, h1, go_sem]
  exact does_value h ⟨rfl, rfl⟩
theorem sl_parts4 {x0 x1 x2 x3 : Operand} {t0 : TypeId} {u0 : Value} {t1 : TypeId} {u1 : Value} {t2 : TypeId} {u2 : Value} {t3 : TypeId} {u3 : Value} (h0 : A.eval x0 = .iface t0 u0) (h1 : A.eval x1 = .iface t1 u1) (h2 : A.eval x2 = .iface t2 u2) (h3 : A.eval x3 = .iface t3 u3) :
    Does Tryz.prog { dst := dst, op := .buildSlice 209 4 #[(0, x0), (1, x1), (2, x2), (3, x3)], type := ty, pos := ps, after := af, guard := gd } A w fun v w' => v = .slice (some ⟨w.heap.size, 0, none⟩) 4 4 ∧ w' = w.alloc (.cells #[.iface t0 u0, .iface t1 u1, .iface t2 u2, .iface t3 u3] 253) := by
  have h : (execOp A.eval { dst := dst, op := .buildSlice 209 4 #[(0, x0), (1, x1), (2, x2), (3, x3)], type := ty, pos := ps, after := af, guard := gd }).run Tryz.prog w = .ok (.value (.slice (some ⟨w.heap.size, 0, none⟩) 4 4)) (w.alloc (.cells #[.iface t0 u0, .iface t1 u1, .iface t2 u2, .iface t3 u3] 253)) := by generalize A.eval = ev at *; simp [execOp, h0, h1, h2, h3, go_sem]
  exact does_value h ⟨rfl, rfl⟩
theorem sl_parts6 {x0 x1 x2 x3 x4 x5 : Operand} {t0 : TypeId} {u0 : Value} {t1 : TypeId} {u1 : Value} {t2 : TypeId} {u2 : Value} {t3 : TypeId} {u3 : Value} {t4 : TypeId} {u4 : Value} {t5 : TypeId} {u5 : Value} (h0 : A.eval x0 = .iface t0 u0) (h1 : A.eval x1 = .iface t1 u1) (h2 : A.eval x2 = .iface t2 u2) (h3 : A.eval x3 = .iface t3 u3) (h4 : A.eval x4 = .iface t4 u4) (h5 : A.eval x5 = .iface t5 u5) :
    Does Tryz.prog { dst := dst, op := .buildSlice 209 6 #[(0, x0), (1, x1), (2, x2), (3, x3), (4, x4), (5, x5)], type := ty, pos := ps, after := af, guard := gd } A w fun v w' => v = .slice (some ⟨w.heap.size, 0, none⟩) 6 6 ∧ w' = w.alloc (.cells #[.iface t0 u0, .iface t1 u1, .iface t2 u2, .iface t3 u3, .iface t4 u4, .iface t5 u5] 253) := by
  have h : (execOp A.eval { dst := dst, op := .buildSlice 209 6 #[(0, x0), (1, x1), (2, x2), (3, x3), (4, x4), (5, x5)], type := ty, pos := ps, after := af, guard := gd }).run Tryz.prog w = .ok (.value (.slice (some ⟨w.heap.size, 0, none⟩) 6 6)) (w.alloc (.cells #[.iface t0 u0, .iface t1 u1, .iface t2 u2, .iface t3 u3, .iface t4 u4, .iface t5 u5] 253)) := by generalize A.eval = ev at *; simp [execOp, h0, h1, h2, h3, h4, h5, go_sem]
  exact does_value h ⟨rfl, rfl⟩
theorem sl_nN1 {x0 : Operand} {z0 : Int} (h0 : A.eval x0 = .agg #[.int .u64 z0]) :
    Does Tryz.prog { dst := dst, op := .buildSlice 223 1 #[(0, x0)], type := ty, pos := ps, after := af, guard := gd } A w fun v w' => v = .slice (some ⟨w.heap.size, 0, none⟩) 1 1 ∧ w' = w.alloc (.cells #[.int .u64 z0] 117) := by
  have h : (execOp A.eval { dst := dst, op := .buildSlice 223 1 #[(0, x0)], type := ty, pos := ps, after := af, guard := gd }).run Tryz.prog w = .ok (.value (.slice (some ⟨w.heap.size, 0, none⟩) 1 1)) (w.alloc (.cells #[.int .u64 z0] 117)) := by generalize A.eval = ev at *; simp [execOp, h0, go_sem]
  exact does_value h ⟨rfl, rfl⟩
theorem sl_u64s1 {x0 : Operand} {z0 : Int} (h0 : A.eval x0 = .int .u64 z0) :
    Does Tryz.prog { dst := dst, op := .buildSlice 158 1 #[(0, x0)], type := ty, pos := ps, after := af, guard := gd } A w fun v w' => v = .slice (some ⟨w.heap.size, 0, none⟩) 1 1 ∧ w' = w.alloc (.cells #[.int .u64 z0] 22) := by
  have h : (execOp A.eval { dst := dst, op := .buildSlice 158 1 #[(0, x0)], type := ty, pos := ps, after := af, guard := gd }).run Tryz.prog w = .ok (.value (.slice (some ⟨w.heap.size, 0, none⟩) 1 1)) (w.alloc (.cells #[.int .u64 z0] 22)) := by generalize A.eval = ev at *; simp [execOp, h0, go_sem]
  exact does_value h ⟨rfl, rfl⟩
theorem sl_strs1 {x0 : Operand} {s0 : ByteArray} (h0 : A.eval x0 = .string s0) :
    Does Tryz.prog { dst := dst, op := .buildSlice 255 1 #[(0, x0)], type := ty, pos := ps, after := af, guard := gd } A w fun v w' => v = .slice (some ⟨w.heap.size, 0, none⟩) 1 1 ∧ w' = w.alloc (.cells #[.string s0] 9) := by
  have h : (execOp A.eval { dst := dst, op := .buildSlice 255 1 #[(0, x0)], type := ty, pos := ps, after := af, guard := gd }).run Tryz.prog w = .ok (.value (.slice (some ⟨w.heap.size, 0, none⟩) 1 1)) (w.alloc (.cells #[.string s0] 9)) := by generalize A.eval = ev at *; simp [execOp, h0, go_sem]
  exact does_value h ⟨rfl, rfl⟩
theorem al_cp : Does Tryz.prog { dst := dst, op := .alloc 106, type := ty, pos := ps, after := af, guard := gd } A w fun v w' => v = .pointer (some ⟨w.heap.size, 0, none⟩) ∧ w' = w.alloc (.cells #[.int .u64 0, .int .u64 0, .bool false] 106) := by
  have h : (execOp A.eval { dst := dst, op := .alloc 106, type := ty, pos := ps, after := af, guard := gd }).run Tryz.prog w = .ok (.value (.pointer (some ⟨w.heap.size, 0, none⟩))) (w.alloc (.cells #[.int .u64 0, .int .u64 0, .bool false] 106)) := by simp [execOp, go_sem]
  exact does_value h ⟨rfl, rfl⟩
theorem pu_cp {z0 : Int} {z1 : Int} {z2 : Bool} (hx : A.eval x = .pointer (some ⟨b, 0, none⟩)) (hy : A.eval y = .agg #[.int .u64 z0, .int .u64 z1, .bool z2]) (hr : w.heap[b]? = some (.cells #[.int .u64 0, .int .u64 0, .bool false] 106)) :
    Does Tryz.prog { dst := dst, op := .store 106 x y, type := ty, pos := ps, after := af, guard := gd } A w fun _ w' => Turned b (.cells #[.int .u64 z0, .int .u64 z1, .bool z2] 106) w w' := by
  have c0 : w.cell? ⟨b, 0, none⟩ = some (.int .u64 0) := by simp [World.cell?, hr]
  have c1 : w.cell? ⟨b, 1, none⟩ = some (.int .u64 0) := by simp [World.cell?, hr]
  have c2 : w.cell? ⟨b, 2, none⟩ = some (.bool false) := by simp [World.cell?, hr]
  have hf : ∀ k, w.frozen? ⟨b, k, none⟩ = false := fun k => by simp [World.frozen?, hr]
  have h : (execOp A.eval { dst := dst, op := .store 106 x y, type := ty, pos := ps, after := af, guard := gd }).run Tryz.prog w = .ok .skip (((w.setCell ⟨b, 0, none⟩ (.int .u64 z0)).setCell ⟨b, 1, none⟩ (.int .u64 z1)).setCell ⟨b, 2, none⟩ (.bool z2)) := by generalize A.eval = ev at *; simp [execOp, hx, hy, hf, c0, c1, c2, go_sem]
  refine does_skip h ⟨rfl, rfl, rfl, by simp [World.setCell], by simp [World.setCell, Array.getElem?_modify, hr], fun k hk => ?_⟩
  simp [World.setCell, Array.getElem?_modify, Ne.symm hk]
theorem st_pt {z0 z0' : Int} {z1 z1' : Int} {z2 z2' : Bool} (hx : A.eval x = .pointer (some ⟨b, 0, none⟩)) (hy : A.eval y = .agg #[.int .u64 z0, .int .u64 z1, .bool z2]) (hr : w.heap[b]? = some (.cells #[.int .u64 z0', .int .u64 z1', .bool z2'] 28)) :
    Does Tryz.prog { dst := dst, op := .store 28 x y, type := ty, pos := ps, after := af, guard := gd } A w fun _ w' => w' = (((w.setCell ⟨b, 0, none⟩ (.int .u64 z0)).setCell ⟨b, 1, none⟩ (.int .u64 z1)).setCell ⟨b, 2, none⟩ (.bool z2)) := by
  have c0 : w.cell? ⟨b, 0, none⟩ = some (.int .u64 z0') := by simp [World.cell?, hr]
  have c1 : w.cell? ⟨b, 1, none⟩ = some (.int .u64 z1') := by simp [World.cell?, hr]
  have c2 : w.cell? ⟨b, 2, none⟩ = some (.bool z2') := by simp [World.cell?, hr]
  have hf : ∀ k, w.frozen? ⟨b, k, none⟩ = false := fun k => by simp [World.frozen?, hr]
  have h : (execOp A.eval { dst := dst, op := .store 28 x y, type := ty, pos := ps, after := af, guard := gd }).run Tryz.prog w = .ok .skip (((w.setCell ⟨b, 0, none⟩ (.int .u64 z0)).setCell ⟨b, 1, none⟩ (.int .u64 z1)).setCell ⟨b, 2, none⟩ (.bool z2)) := by generalize A.eval = ev at *; simp [execOp, hx, hy, hf, c0, c1, c2, go_sem]
  exact does_skip h rfl
theorem st_cp {z0 z0' : Int} {z1 z1' : Int} {z2 z2' : Bool} (hx : A.eval x = .pointer (some ⟨b, 0, none⟩)) (hy : A.eval y = .agg #[.int .u64 z0, .int .u64 z1, .bool z2]) (hr : w.heap[b]? = some (.cells #[.int .u64 z0', .int .u64 z1', .bool z2'] 106)) :
    Does Tryz.prog { dst := dst, op := .store 106 x y, type := ty, pos := ps, after := af, guard := gd } A w fun _ w' => w' = (((w.setCell ⟨b, 0, none⟩ (.int .u64 z0)).setCell ⟨b, 1, none⟩ (.int .u64 z1)).setCell ⟨b, 2, none⟩ (.bool z2)) := by
  have c0 : w.cell? ⟨b, 0, none⟩ = some (.int .u64 z0') := by simp [World.cell?, hr]
  have c1 : w.cell? ⟨b, 1, none⟩ = some (.int .u64 z1') := by simp [World.cell?, hr]
  have c2 : w.cell? ⟨b, 2, none⟩ = some (.bool z2') := by simp [World.cell?, hr]
  have hf : ∀ k, w.frozen? ⟨b, k, none⟩ = false := fun k => by simp [World.frozen?, hr]
  have h : (execOp A.eval { dst := dst, op := .store 106 x y, type := ty, pos := ps, after := af, guard := gd }).run Tryz.prog w = .ok .skip (((w.setCell ⟨b, 0, none⟩ (.int .u64 z0)).setCell ⟨b, 1, none⟩ (.int .u64 z1)).setCell ⟨b, 2, none⟩ (.bool z2)) := by generalize A.eval = ev at *; simp [execOp, hx, hy, hf, c0, c1, c2, go_sem]
  exact does_skip h rfl
theorem ld_tr {v0 v1 v2 : Value} (hx : A.eval x = .pointer (some ⟨b, i, none⟩)) (h0 : w.cell? ⟨b, i, none⟩ = some v0) (h1 : w.cell? ⟨b, i + 1, none⟩ = some v1) (h2 : w.cell? ⟨b, i + 2, none⟩ = some v2) :
    Does Tryz.prog { dst := dst, op := .load 189 x, type := ty, pos := ps, after := af, guard := gd } A w fun v' w' => v' = .agg #[v0, v1, v2] ∧ Below w.heap.size w w' := by
  have h : (execOp A.eval { dst := dst, op := .load 189 x, type := ty, pos := ps, after := af, guard := gd }).run Tryz.prog w = .ok (.value (.agg #[v0, v1, v2])) w := by generalize A.eval = ev at *; simp [execOp, hx, h0, h1, h2, go_sem]
  exact does_value h ⟨rfl, Below.refl _ _⟩
theorem st_tr {z0 z0' : Int} {z1 z1' : Int} {z2 z2' : Int} (hx : A.eval x = .pointer (some ⟨b, 0, none⟩)) (hy : A.eval y = .agg #[.int .u64 z0, .int .u64 z1, .int .u64 z2]) (hr : w.heap[b]? = some (.cells #[.int .u64 z0', .int .u64 z1', .int .u64 z2'] 189)) :
    Does Tryz.prog { dst := dst, op := .store 189 x y, type := ty, pos := ps, after := af, guard := gd } A w fun _ w' => w' = (((w.setCell ⟨b, 0, none⟩ (.int .u64 z0)).setCell ⟨b, 1, none⟩ (.int .u64 z1)).setCell ⟨b, 2, none⟩ (.int .u64 z2)) := by
  have c0 : w.cell? ⟨b, 0, none⟩ = some (.int .u64 z0') := by simp [World.cell?, hr]
  have c1 : w.cell? ⟨b, 1, none⟩ = some (.int .u64 z1') := by simp [World.cell?, hr]
  have c2 : w.cell? ⟨b, 2, none⟩ = some (.int .u64 z2') := by simp [World.cell?, hr]
  have hf : ∀ k, w.frozen? ⟨b, k, none⟩ = false := fun k => by simp [World.frozen?, hr]
  have h : (execOp A.eval { dst := dst, op := .store 189 x y, type := ty, pos := ps, after := af, guard := gd }).run Tryz.prog w = .ok .skip (((w.setCell ⟨b, 0, none⟩ (.int .u64 z0)).setCell ⟨b, 1, none⟩ (.int .u64 z1)).setCell ⟨b, 2, none⟩ (.int .u64 z2)) := by generalize A.eval = ev at *; simp [execOp, hx, hy, hf, c0, c1, c2, go_sem]
  exact does_skip h rfl
theorem al_nN : Does Tryz.prog { dst := dst, op := .alloc 117, type := ty, pos := ps, after := af, guard := gd } A w fun v w' => v = .pointer (some ⟨w.heap.size, 0, none⟩) ∧ w' = w.alloc (.cells #[.int .u64 0] 117) := by
  have h : (execOp A.eval { dst := dst, op := .alloc 117, type := ty, pos := ps, after := af, guard := gd }).run Tryz.prog w = .ok (.value (.pointer (some ⟨w.heap.size, 0, none⟩))) (w.alloc (.cells #[.int .u64 0] 117)) := by simp [execOp, go_sem]
  exact does_value h ⟨rfl, rfl⟩
theorem pu_nN {z0 : Int} (hx : A.eval x = .pointer (some ⟨b, 0, none⟩)) (hy : A.eval y = .agg #[.int .u64 z0]) (hr : w.heap[b]? = some (.cells #[.int .u64 0] 117)) :
    Does Tryz.prog { dst := dst, op := .store 117 x y, type := ty, pos := ps, after := af, guard := gd } A w fun _ w' => Turned b (.cells #[.int .u64 z0] 117) w w' := by
  have c0 : w.cell? ⟨b, 0, none⟩ = some (.int .u64 0) := by simp [World.cell?, hr]
  have hf : ∀ k, w.frozen? ⟨b, k, none⟩ = false := fun k => by simp [World.frozen?, hr]
  have h : (execOp A.eval { dst := dst, op := .store 117 x y, type := ty, pos := ps, after := af, guard := gd }).run Tryz.prog w = .ok .skip (w.setCell ⟨b, 0, none⟩ (.int .u64 z0)) := by generalize A.eval = ev at *; simp [execOp, hx, hy, hf, c0, go_sem]
  refine does_skip h ⟨rfl, rfl, rfl, by simp [World.setCell], by simp [World.setCell, Array.getElem?_modify, hr], fun k hk => ?_⟩
  simp [World.setCell, Array.getElem?_modify, Ne.symm hk]
theorem st_nN {z0 z0' : Int} (hx : A.eval x = .pointer (some ⟨b, 0, none⟩)) (hy : A.eval y = .agg #[.int .u64 z0]) (hr : w.heap[b]? = some (.cells #[.int .u64 z0'] 117)) :
    Does Tryz.prog { dst := dst, op := .store 117 x y, type := ty, pos := ps, after := af, guard := gd } A w fun _ w' => w' = (w.setCell ⟨b, 0, none⟩ (.int .u64 z0)) := by
  have c0 : w.cell? ⟨b, 0, none⟩ = some (.int .u64 z0') := by simp [World.cell?, hr]
  have hf : ∀ k, w.frozen? ⟨b, k, none⟩ = false := fun k => by simp [World.frozen?, hr]
  have h : (execOp A.eval { dst := dst, op := .store 117 x y, type := ty, pos := ps, after := af, guard := gd }).run Tryz.prog w = .ok .skip (w.setCell ⟨b, 0, none⟩ (.int .u64 z0)) := by generalize A.eval = ev at *; simp [execOp, hx, hy, hf, c0, go_sem]
  exact does_skip h rfl
end
theorem conv2 (w : World) (a b : Int) : (convert 61 9 (.slice (some ⟨w.heap.size, 0, none⟩) 2 2)).run Tryz.prog (w.alloc (Obj.cells #[.int .u8 a, .int .u8 b] 5)) = .ok (.string (strOfNums [a, b])) (w.alloc (Obj.cells #[.int .u8 a, .int .u8 b] 5)) :=
  run_convert_bytes_arg (P := Tryz.prog) (w.alloc (Obj.cells #[.int .u8 a, .int .u8 b] 5)) 61 5 Tryz.underlying61 Tryz.underlying5 w.heap.size 0 2 2 [a, b] rfl (fun i hi => by
    have hh := heap_alloc_new w (Obj.cells #[.int .u8 a, .int .u8 b] 5)
    generalize w.alloc (Obj.cells #[.int .u8 a, .int .u8 b] 5) = W at *
    rcases (show i = 0 ∨ i = 1 by omega) with rfl | rfl
    · simp [World.cell?, hh]
    · simp [World.cell?, hh]) 9 Tryz.underlying9
def sizB (s : ByteArray) : ByteArray := strOfNums [((s.size / 256 % 256 : Nat) : Int), ((s.size % 256 : Nat) : Int)] ++ s
theorem sizS_any (s : ByteArray) (w : World) (h : s.size ≤ 65535) :
    Calls Tryz.prog 73 #[.string s] w fun e w' => e = .returned (.string (sizB s)) ∧ Below w.heap.size w w' := by
  have h2 : ((s.size / 256 % 256 : Nat) : Int) = (s.size : Int) / 256 := by omega
  have h3 : ((s.size % 256 : Nat) : Int) = (s.size : Int) % 256 := by omega
  have hcv := conv2 w ((s.size : Int) / 256) ((s.size : Int) % 256)
  unfold sizB
  rw [h2, h3]
  obtain ⟨T, hT⟩ : ∃ T, Hid (T = strOfNums [(s.size : Int) / 256, (s.size : Int) % 256]) := ⟨_, rfl⟩
  have hTs : T.size = 2 := by rw [hT.out, strOfNums_size]; rfl
  rw [← hT.out] at hcv ⊢
  go_enter Tryz.func73, Tryz.ntmps73
  go_wp2
  go_ret
  exact ⟨rfl, (Below.refl _ w).alloc (Nat.le_refl _) _⟩
def tagB (word : ByteArray) (k : Nat) : ByteArray := word ++ ⟨#[84, 79, 89, 80, 82, 70, 45]⟩ ++ (⟨#[48, 49, 50]⟩ : ByteArray).extract k (k + 1) ++ ⟨#[45, 77, 54, 49]⟩
theorem tagB_size (word : ByteArray) (k : Nat) (h : k < 3) : (tagB word k).size = word.size + 12 := by
  rcases (show k = 0 ∨ k = 1 ∨ k = 2 by omega) with rfl | rfl | rfl <;> (unfold tagB; rw [ByteArray.size_append, ByteArray.size_append, ByteArray.size_append]; rfl)
theorem tagS_any (word : ByteArray) (k : Nat) (w : World) (hk : k < 3) (h : word.size ≤ 100) :
    Calls Tryz.prog 71 #[.string word, .int .i64 k] w fun e w' => e = .returned (.string (tagB word k)) ∧ Below w.heap.size w w' := by
  rcases (show k = 0 ∨ k = 1 ∨ k = 2 by omega) with rfl | rfl | rfl
  · go_enter Tryz.func71, Tryz.ntmps71
    go_wp2
    go_ret
    exact ⟨rfl, Below.refl _ _⟩
  · go_enter Tryz.func71, Tryz.ntmps71
    go_wp2
    go_ret
    exact ⟨rfl, Below.refl _ _⟩
  · go_enter Tryz.func71, Tryz.ntmps71
    go_wp2
    go_ret
    exact ⟨rfl, Below.refl _ _⟩
theorem sizB_size (s : ByteArray) : (sizB s).size = s.size + 2 := by
  unfold sizB
  rw [ByteArray.size_append, strOfNums_size]
  simp only [List.length_cons, List.length_nil]
  omega
def numB (i : Nat) : ByteArray := strOfNums [((i / 256 % 256 : Nat) : Int), ((i % 256 : Nat) : Int)]
theorem numB_size (i : Nat) : (numB i).size = 2 := by unfold numB; rw [strOfNums_size]; rfl
end Go.Proofs.YtjmhmajfkdglnaaGreatDoor
namespace Go.Proofs.YtjmhmajfkdglnaaGreatDoor
open Go.RowKit Go.Shelf
def renRepeat : Go.Shelf.Ren := ⟨fun | 105 => 203 | 212 => 212 | 99 => 213 | 165 => 214 | 166 => 167 | 170 => 215 | 169 => 168 | 263 => 218 | 264 => 132 | 206 => 219 | 240 => 189 | 241 => 220 | 276 => 197 | 277 => 221 | n => n, fun | 9 => 9 | 3 => 3 | 4 => 4 | 20 => 20 | 0 => 0 | 46 => 130 | 109 => 306 | 5 => 5 | 72 => 249 | 76 => 250 | 51 => 195 | 146 => 312 | 53 => 22 | 148 => 219 | 70 => 247 | 37 => 61 | 75 => 76 | 127 => 284 | 164 => 293 | 80 => 254 | n => n, fun | n => n⟩
theorem laysRepeat : Go.Proofs.Lays.n105 Tryz.prog renRepeat := {
  mixed := by kernel_rfl
  f99 := Tryz.func213.trans (congrArg some (by kernel_rfl))
  f105 := Tryz.func203.trans (congrArg some (by kernel_rfl))
  f165 := Tryz.func214.trans (congrArg some (by kernel_rfl))
  f166 := Tryz.func167.trans (congrArg some (by kernel_rfl))
  f169 := Tryz.func168.trans (congrArg some (by kernel_rfl))
  f170 := Tryz.func215.trans (congrArg some (by kernel_rfl))
  f206 := Tryz.func219.trans (congrArg some (by kernel_rfl))
  f212 := Tryz.func212.trans (congrArg some (by kernel_rfl))
  f240 := Tryz.func189.trans (congrArg some (by kernel_rfl))
  f241 := Tryz.func220.trans (congrArg some (by kernel_rfl))
  f263 := Tryz.func218.trans (congrArg some (by kernel_rfl))
  f264 := Tryz.func132.trans (congrArg some (by kernel_rfl))
  f276 := Tryz.func197.trans (congrArg some (by kernel_rfl))
  f277 := Tryz.func221.trans (congrArg some (by kernel_rfl))
  t0 := Tryz.underlying0
  a0 := Tryz.isAgg0
  z0 := Tryz.sizeOf0
  v0 := Tryz.zeroValue0
  t3 := Tryz.underlying3
  a3 := Tryz.isAgg3
  z3 := Tryz.sizeOf3
  v3 := Tryz.zeroValue3
  t4 := Tryz.underlying4
  a4 := Tryz.isAgg4
  z4 := Tryz.sizeOf4
  v4 := Tryz.zeroValue4
  t5 := Tryz.underlying5
  a5 := Tryz.isAgg5
  z5 := Tryz.sizeOf5
  v5 := Tryz.zeroValue5
  t9 := Tryz.underlying9
  a9 := Tryz.isAgg9
  z9 := Tryz.sizeOf9
  v9 := Tryz.zeroValue9
  t20 := Tryz.underlying20
  a20 := Tryz.isAgg20
  z20 := Tryz.sizeOf20
  v20 := Tryz.zeroValue20
  t37 := Tryz.underlying61
  a37 := Tryz.isAgg61
  z37 := Tryz.sizeOf61
  v37 := Tryz.zeroValue61
  t46 := Tryz.underlying130
  a46 := Tryz.isAgg130
  z46 := Tryz.sizeOf130
  v46 := Tryz.zeroValue130
  t51 := Tryz.underlying195
  a51 := Tryz.isAgg195
  z51 := Tryz.sizeOf195
  v51 := Tryz.zeroValue195
  t53 := Tryz.underlying22
  a53 := Tryz.isAgg22
  z53 := Tryz.sizeOf22
  v53 := Tryz.zeroValue22
  t70 := Tryz.underlying247
  a70 := Tryz.isAgg247
  z70 := Tryz.sizeOf247
  v70 := Tryz.zeroValue247
  t72 := Tryz.underlying249
  a72 := Tryz.isAgg249
  z72 := Tryz.sizeOf249
  v72 := Tryz.zeroValue249
  t75 := Tryz.underlying76
  a75 := Tryz.isAgg76
  z75 := Tryz.sizeOf76
  v75 := Tryz.zeroValue76
  t76 := Tryz.underlying250
  a76 := Tryz.isAgg250
  z76 := Tryz.sizeOf250
  v76 := Tryz.zeroValue250
  t109 := Tryz.underlying306
  a109 := Tryz.isAgg306
  z109 := Tryz.sizeOf306
  v109 := Tryz.zeroValue306
  t127 := Tryz.underlying284
  a127 := Tryz.isAgg284
  z127 := Tryz.sizeOf284
  v127 := Tryz.zeroValue284
  t146 := Tryz.underlying312
  a146 := Tryz.isAgg312
  z146 := Tryz.sizeOf312
  v146 := Tryz.zeroValue312
  t148 := Tryz.underlying219
  a148 := Tryz.isAgg219
  z148 := Tryz.sizeOf219
  v148 := Tryz.zeroValue219
  t164 := Tryz.underlying293
  a164 := Tryz.isAgg293
  z164 := Tryz.sizeOf293
  v164 := Tryz.zeroValue293 }
theorem extraRepeat : Builder.Extra Tryz.prog renRepeat := {
  sizeBuilder := by kernel_rfl
  liesBuilder := by kernel_rfl
  t5 := laysRepeat.t5
  a5 := laysRepeat.a5
  z5 := laysRepeat.z5
  v5 := laysRepeat.v5
  infoByte := by kernel_rfl
  cellsByte := by kernel_rfl
  sizeByte := by kernel_rfl
  neB5 := by decide }
theorem eq64 : (⟨(Lib.repeatL (⟨#[0]⟩ : ByteArray).data.toList 64).toArray⟩ : ByteArray) = strOfNums (List.replicate 64 0) := by kernel_rfl
theorem rep64 (w : World) : Calls Tryz.prog 203 #[.string ⟨#[0]⟩, .int .i64 64] w fun e w' => e = .returned (.string (strOfNums (List.replicate 64 0))) ∧ Below w.heap.size w w' :=
  (Any.strings_Repeat laysRepeat extraRepeat ⟨#[0]⟩ 64 w (by decide) (by decide)).mono fun e w' ⟨h, h'⟩ => ⟨h.trans (by rw [eq64]), h'⟩
theorem eq32 : (⟨(Lib.repeatL (⟨#[0]⟩ : ByteArray).data.toList 32).toArray⟩ : ByteArray) = strOfNums (List.replicate 32 0) := by kernel_rfl
theorem rep32 (w : World) : Calls Tryz.prog 203 #[.string ⟨#[0]⟩, .int .i64 32] w fun e w' => e = .returned (.string (strOfNums (List.replicate 32 0))) ∧ Below w.heap.size w w' :=
  (Any.strings_Repeat laysRepeat extraRepeat ⟨#[0]⟩ 32 w (by decide) (by decide)).mono fun e w' ⟨h, h'⟩ => ⟨h.trans (by rw [eq32]), h'⟩
end Go.Proofs.YtjmhmajfkdglnaaGreatDoor
namespace Go.Proofs.YtjmhmajfkdglnaaGreatDoor
open Go.RowKit
theorem beTo2 (n : Nat) (h : n ≤ 65535) : strOfNums (beTo (n : Int) 2) = numB n := by
  unfold numB
  have e : beTo (n : Int) 2 = [((n / 256 % 256 : Nat) : Int), ((n % 256 : Nat) : Int)] := by
    simp only [beTo]
    simp
  rw [e]
theorem wrtZ (s : ByteArray) (w : World) (h : s.size ≤ 65535) :
    Calls Tryz.prog 240 #[.string s] w fun e w' => e = .returned (.string (sizB s)) ∧ Below w.heap.size w w' := by
  have L := fun w => beI_any (s.size : Int) 2 w (by omega) (by omega) (by omega) (by omega)
  rw [beTo2 _ h] at L
  have e1 : IntKind.u64.wrap (s.size : Int) = (s.size : Int) := by rw [IntKind.wrap_u64]; omega
  have hs : sizB s = numB s.size ++ s := rfl
  have hz := numB_size s.size
  rw [hs]
  generalize numB s.size = T at *
  clear hs
  go_enter Tryz.func240, Tryz.ntmps240
  go_wp2_with fail
  refine (L _).mono ?_
  rintro e w1 ⟨rfl, b1⟩
  go_wp2
  go_ret
  exact ⟨rfl, b1⟩
theorem wrtP (s : ByteArray) (w : World) :
    Calls Tryz.prog 245 #[.string s] w fun e w' => e = .returned (.string s) ∧ Below w.heap.size w w' := by
  go_enter Tryz.func245, Tryz.ntmps245
  go_wp2
  go_ret
  exact ⟨rfl, Below.refl _ _⟩
def Writ (v : Value) (s : ByteArray) : Prop := ∃ (T : TypeId) (x : Value) (F : FuncId), v = .iface T x ∧ (∀ w, (method 449 T x "loop.example/s02095/impl.written").run Tryz.prog w = .ok (F, x) w) ∧
  (∀ (args : Array Value) (w : World), (callFunc F args).run Tryz.prog w = .ok (.enter F args) w) ∧ ∀ w, Calls Tryz.prog F #[x] w fun e w' => e = .returned (.string s) ∧ Below w.heap.size w w'
theorem mthZ (s : ByteArray) (w : World) : (method 449 208 (.string s) "loop.example/s02095/impl.written").run Tryz.prog w = .ok (240, .string s) w := by kernel_rfl
theorem mthP (s : ByteArray) (w : World) : (method 449 210 (.string s) "loop.example/s02095/impl.written").run Tryz.prog w = .ok (245, .string s) w := by kernel_rfl
theorem ceZ (args : Array Value) (w : World) : (callFunc 240 args).run Tryz.prog w = .ok (.enter 240 args) w := by kernel_rfl
theorem ceP (args : Array Value) (w : World) : (callFunc 245 args).run Tryz.prog w = .ok (.enter 245 args) w := by kernel_rfl
theorem writZ (s : ByteArray) (h : s.size ≤ 65535) : Writ (.iface 208 (.string s)) (sizB s) := ⟨_, _, _, rfl, mthZ s, ceZ, fun w => wrtZ s w h⟩
theorem writP (s : ByteArray) : Writ (.iface 210 (.string s)) s := ⟨_, _, _, rfl, mthP s, ceP, fun w => wrtP s w⟩
end Go.Proofs.YtjmhmajfkdglnaaGreatDoor
