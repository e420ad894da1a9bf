import Derived.Test.YtaeanelfpaphiabPntA
namespace Go.Proofs.Ytaeanelfpaphiab
open Go.RowKit M
set_option linter.unusedVariables false

section
variable {ev : Operand → Value} {w : World} {dst : Option Tmp} {ty : TypeId} {ps : String} {af : Array Edge} {gd : Option (Nat × Bool)} {x y z : Operand} {b i : Nat} {X Y X0 Y0 : Int} {c c0 : Bool}
theorem exec_loadL (hx : ev x = .pointer (some ⟨b, 0, none⟩)) (h0 : w.cell? ⟨b, 0, none⟩ = some (.int .u64 X)) (h1 : w.cell? ⟨b, 1, none⟩ = some (.int .u64 Y)) (h2 : w.cell? ⟨b, 2, none⟩ = some (.bool c)) :
    (execOp ev { dst := dst, op := .load 24 x, type := ty, pos := ps, after := af, guard := gd }).run Try.prog w = .ok (.value (.agg #[.int .u64 X, .int .u64 Y, .bool c])) w := by
  simp [execOp, hx, h0, h1, h2, go_sem]
theorem exec_loadP (hx : ev x = .pointer (some ⟨b, 0, none⟩)) (h0 : w.cell? ⟨b, 0, none⟩ = some (.int .u64 X)) (h1 : w.cell? ⟨b, 1, none⟩ = some (.int .u64 Y)) (h2 : w.cell? ⟨b, 2, none⟩ = some (.bool c)) :
    (execOp ev { dst := dst, op := .load 25 x, type := ty, pos := ps, after := af, guard := gd }).run Try.prog w = .ok (.value (.agg #[.int .u64 X, .int .u64 Y, .bool c])) w := by
  simp [execOp, hx, h0, h1, h2, go_sem]
theorem exec_allocP : (execOp ev { dst := dst, op := .alloc 25, type := ty, pos := ps, after := af, guard := gd }).run Try.prog w = .ok (.value (.pointer (some ⟨w.heap.size, 0, none⟩))) (w.alloc (.cells #[.int .u64 0, .int .u64 0, .bool false] 25)) := by
  simp [execOp, go_sem]
theorem exec_storeP (hx : ev x = .pointer (some ⟨b, 0, none⟩)) (hy : ev y = .agg #[.int .u64 X, .int .u64 Y, .bool c]) (hr : K3 w 25 b X0 Y0 c0) :
    (execOp ev { dst := dst, op := .store 25 x y, type := ty, pos := ps, after := af, guard := gd }).run Try.prog w = .ok .skip (set3 w b X Y c) := by
  have h1 := hr.c0
  have h2 := hr.c1
  have h3 := hr.c2
  have h4 := hr.frz
  simp [execOp, hx, hy, h1, h2, h3, h4, go_sem, set3]
theorem exec_eqP (hx : ev x = .agg #[.int .u64 X, .int .u64 Y, .bool c]) (hy : ev y = .agg #[.int .u64 X, .int .u64 Y, .bool c]) :
    (execOp ev { dst := dst, op := .binOp .eql 25 x y 25, type := ty, pos := ps, after := af, guard := gd }).run Try.prog w = .ok (.value (.bool true)) w := by
  simp [execOp, hx, hy, go_sem]
theorem exec_neP (hx : ev x = .agg #[.int .u64 X, .int .u64 Y, .bool c]) (hy : ev y = .agg #[.int .u64 X, .int .u64 Y, .bool c]) :
    (execOp ev { dst := dst, op := .binOp .neq 25 x y 25, type := ty, pos := ps, after := af, guard := gd }).run Try.prog w = .ok (.value (.bool false)) w := by
  simp [execOp, hx, hy, go_sem]
theorem exec_pickT {v : Value} (hx : ev x = .bool true) (hy : ev y = v) :
    (execOp ev { dst := dst, op := .pick x y z, type := ty, pos := ps, after := af, guard := gd }).run Try.prog w = .ok (.value v) w := by
  simp [execOp, hx, hy, go_sem]
theorem exec_pickF {v : Value} (hx : ev x = .bool false) (hy : ev z = v) :
    (execOp ev { dst := dst, op := .pick x y z, type := ty, pos := ps, after := af, guard := gd }).run Try.prog w = .ok (.value v) w := by
  simp [execOp, hx, hy, go_sem]
theorem exec_assign {v : Value} (hx : ev x = v) :
    (execOp ev { dst := dst, op := .assign x, type := ty, pos := ps, after := af, guard := gd }).run Try.prog w = .ok (.value v) w := by
  simp [execOp, hx, go_sem]
theorem exec_call3 {F : FuncId} {at_ : Array TypeId} {x3 : Operand} {u v u3 : Value} (hF : ev (.func F) = .func (.func F) #[] #[]) (hcf : ∀ (args : Array Value) (w : World), (callFunc F args).run Try.prog w = .ok (.enter F args) w) (hx : ev x = u) (hy : ev y = v) (h3 : ev x3 = u3) :
    (execOp ev { dst := dst, op := .call { callee := .value (.func F), args := #[x, y, x3], argTypes := at_ }, type := ty, pos := ps, after := af, guard := gd }).run Try.prog w = .ok (.enter F #[u, v, u3]) w := by
  simp [execOp, hx, hy, h3, hF, hcf, go_sem]
end
section
variable {A : Act} {w W0 : World} {dst : Option Tmp} {ty : TypeId} {ps : String} {af : Array Edge} {gd : Option (Nat × Bool)} {x y z : Operand} {b i : Nat} {X Y : Int} {c : Bool}
set_option maxRecDepth 100000
theorem do_loadL (hx : A.eval x = .pointer (some ⟨b, 0, none⟩)) (hr : K3 W0 24 b X Y c) (hB : Below W0.heap.size W0 w) :
    Does Try.prog { dst := dst, op := .load 24 x, type := ty, pos := ps, after := af, guard := gd } A w fun v' w' => v' = .agg #[.int .u64 X, .int .u64 Y, .bool c] ∧ Below w.heap.size w w' := by
  have h := exec_loadL (ev := A.eval) (w := w) (dst := dst) (ty := ty) (ps := ps) (af := af) (gd := gd) hx (hr.keep hB).c0 (hr.keep hB).c1 (hr.keep hB).c2
  exact does_value h ⟨rfl, Below.refl _ _⟩
theorem do_loadP (hx : A.eval x = .pointer (some ⟨b, 0, none⟩)) (hr : K3 W0 25 b X Y c) (hB : Below W0.heap.size W0 w) :
    Does Try.prog { dst := dst, op := .load 25 x, type := ty, pos := ps, after := af, guard := gd } A w fun v' w' => v' = .agg #[.int .u64 X, .int .u64 Y, .bool c] ∧ Below w.heap.size w w' := by
  have h := exec_loadP (ev := A.eval) (w := w) (dst := dst) (ty := ty) (ps := ps) (af := af) (gd := gd) hx (hr.keep hB).c0 (hr.keep hB).c1 (hr.keep hB).c2
  exact does_value h ⟨rfl, Below.refl _ _⟩
theorem do_newP : Does Try.prog { dst := dst, op := .alloc 25, type := ty, pos := ps, after := af, guard := gd } A w fun v w' => v = .pointer (some ⟨w.heap.size, 0, none⟩) ∧ w' = w.alloc (.cells #[.int .u64 0, .int .u64 0, .bool false] 25) := by
  have h := exec_allocP (ev := A.eval) (w := w) (dst := dst) (ty := ty) (ps := ps) (af := af) (gd := gd)
  exact does_value h ⟨rfl, rfl⟩
theorem do_putP (hx : A.eval x = .pointer (some ⟨b, 0, none⟩)) (hy : A.eval y = .agg #[.int .u64 X, .int .u64 Y, .bool c]) (hr : w.heap[b]? = some (.cells #[.int .u64 0, .int .u64 0, .bool false] 25)) :
    Does Try.prog { dst := dst, op := .store 25 x y, type := ty, pos := ps, after := af, guard := gd } A w fun _ w' => Turned b (.cells #[.int .u64 X, .int .u64 Y, .bool c] 25) w w' := by
  have h1 : K3 w 25 b 0 0 false := hr
  refine does_skip (exec_storeP hx hy h1) ⟨rfl, rfl, rfl, by simp [set3, World.setCell], h1.set X Y c, fun k hk => ?_⟩
  unfold set3
  rw [setCell_heap3 _ _ _ _ _ hk, setCell_heap3 _ _ _ _ _ hk, setCell_heap3 _ _ _ _ _ hk]
theorem do_eqP (hx : A.eval x = .agg #[.int .u64 X, .int .u64 Y, .bool c]) (hy : A.eval y = .agg #[.int .u64 X, .int .u64 Y, .bool c]) :
    Does Try.prog { dst := dst, op := .binOp .eql 25 x y 25, type := ty, pos := ps, after := af, guard := gd } A w fun v' w' => v' = .bool true ∧ Below w.heap.size w w' := by
  have h := exec_eqP (ev := A.eval) (w := w) (dst := dst) (ty := ty) (ps := ps) (af := af) (gd := gd) hx hy
  exact does_value h ⟨rfl, Below.refl _ _⟩
theorem do_neP (hx : A.eval x = .agg #[.int .u64 X, .int .u64 Y, .bool c]) (hy : A.eval y = .agg #[.int .u64 X, .int .u64 Y, .bool c]) :
    Does Try.prog { dst := dst, op := .binOp .neq 25 x y 25, type := ty, pos := ps, after := af, guard := gd } A w fun v' w' => v' = .bool false ∧ Below w.heap.size w w' := by
  have h := exec_neP (ev := A.eval) (w := w) (dst := dst) (ty := ty) (ps := ps) (af := af) (gd := gd) hx hy
  exact does_value h ⟨rfl, Below.refl _ _⟩
theorem do_pickT {v : Value} (hx : A.eval x = .bool true) (hy : A.eval y = v) :
    Does Try.prog { dst := dst, op := .pick x y z, type := ty, pos := ps, after := af, guard := gd } A w fun v' w' => v' = v ∧ Below w.heap.size w w' := by
  have h := exec_pickT (ev := A.eval) (z := z) (w := w) (dst := dst) (ty := ty) (ps := ps) (af := af) (gd := gd) hx hy
  exact does_value h ⟨rfl, Below.refl _ _⟩
theorem do_pickF {v : Value} (hx : A.eval x = .bool false) (hy : A.eval z = v) :
    Does Try.prog { dst := dst, op := .pick x y z, type := ty, pos := ps, after := af, guard := gd } A w fun v' w' => v' = v ∧ Below w.heap.size w w' := by
  have h := exec_pickF (ev := A.eval) (y := y) (w := w) (dst := dst) (ty := ty) (ps := ps) (af := af) (gd := gd) hx hy
  exact does_value h ⟨rfl, Below.refl _ _⟩
theorem do_assign {v : Value} (hx : A.eval x = v) :
    Does Try.prog { dst := dst, op := .assign x, type := ty, pos := ps, after := af, guard := gd } A w fun v' w' => v' = v ∧ Below w.heap.size w w' := by
  have h := exec_assign (ev := A.eval) (w := w) (dst := dst) (ty := ty) (ps := ps) (af := af) (gd := gd) hx
  exact does_value h ⟨rfl, Below.refl _ _⟩
theorem do_call3 {F : FuncId} {at_ : Array TypeId} {x3 : Operand} {u v u3 r : Value} (hcf : ∀ (args : Array Value) (w : World), (callFunc F args).run Try.prog w = .ok (.enter F args) w) (hx : A.eval x = u) (hy : A.eval y = v) (h3 : A.eval x3 = u3)
    (hc : Calls Try.prog F #[u, v, u3] w fun e w' => e = .returned r ∧ Below w.heap.size w w') :
    Does Try.prog { dst := dst, op := .call { callee := .value (.func F), args := #[x, y, x3], argTypes := at_ }, type := ty, pos := ps, after := af, guard := gd } A w fun v' w' => v' = r ∧ Below w.heap.size w w' :=
  does_call (exec_call3 rfl hcf hx hy h3) (hc.mono fun _ _ ⟨h, h'⟩ => ⟨r, h, rfl, h'⟩)
end
end Go.Proofs.Ytaeanelfpaphiab
