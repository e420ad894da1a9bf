import Derived.Test.YtaeanelfpaphiabPool
import Derived.Test.YtaeanelfpaphiabFvP
namespace Go.Proofs.Ytaeanelfpaphiab
open Go.RowKit M
set_option linter.unusedVariables false

/-- a contract: the call gives this number -/
def CalN (F : FuncId) (args : Array Value) (r : Int) : Prop := ∀ w : World, Calls Try.prog F args w fun e w' => e = .returned (.agg #[.int .u64 r]) ∧ Below w.heap.size w w'
/-- a block that holds a triple -/
def T3 (W : World) (b : Nat) (x y z : Int) : Prop := W.heap[b]? = some (.cells #[.int .u64 x, .int .u64 y, .int .u64 z] 97)
section
variable {W W' : World} {b : Nat} {x y z : Int}
theorem T3.c0 (h : T3 W b x y z) : W.cell? ⟨b, 0, none⟩ = some (.int .u64 x) := by unfold T3 at h; simp [World.cell?, h]
theorem T3.c1 (h : T3 W b x y z) : W.cell? ⟨b, 1, none⟩ = some (.int .u64 y) := by unfold T3 at h; simp [World.cell?, h]
theorem T3.c2 (h : T3 W b x y z) : W.cell? ⟨b, 2, none⟩ = some (.int .u64 z) := by unfold T3 at h; simp [World.cell?, h]
theorem T3.frz (h : T3 W b x y z) (i : Nat) : W.frozen? ⟨b, i, none⟩ = false := by unfold T3 at h; simp [World.frozen?, h]
theorem T3.lt (h : T3 W b x y z) : b < W.heap.size := (Array.getElem?_eq_some_iff.1 h).1
theorem T3.below {N : Nat} (h : T3 W b x y z) (hb : Below N W W') (hl : b < N) : T3 W' b x y z := (hb.block b hl).trans h
theorem T3.keep (h : T3 W b x y z) (hb : Below W.heap.size W W') : T3 W' b x y z := h.below hb h.lt
theorem T3.new (w : World) (x y z : Int) : T3 (w.alloc (.cells #[.int .u64 x, .int .u64 y, .int .u64 z] 97)) w.heap.size x y z := heap_alloc_new w _
theorem T3.alloc (h : T3 W b x y z) (o : Obj) : T3 (W.alloc o) b x y z := (Below.heap_alloc W o b h.lt).trans h
theorem T3.drew (h : T3 W b x y z) : T3 W.drew b x y z := h
theorem T3.at {b' : Nat} (h : T3 W b x y z) (e : b = b') : T3 W b' x y z := e ▸ h
theorem T3.range (h : T3 W b x y z) : W.rangeAt b 0 [.int .u64 x, .int .u64 y, .int .u64 z] := fun j v hj => by
  match j, hj with
  | 0, hj => cases hj; exact h.c0
  | 1, hj => cases hj; exact h.c1
  | 2, hj => cases hj; exact h.c2
def setT (W : World) (b : Nat) (x y z : Int) : World := ((W.setCell ⟨b, 0, none⟩ (.int .u64 x)).setCell ⟨b, 1, none⟩ (.int .u64 y)).setCell ⟨b, 2, none⟩ (.int .u64 z)
theorem T3.set (h : T3 W b x y z) (x' y' z' : Int) : T3 (setT W b x' y' z') b x' y' z' := by
  unfold T3 setT at *
  simp [World.setCell, Array.getElem?_modify, h]
theorem T3.other {b' : Nat} (h : T3 W b x y z) (hne : b ≠ b') (x' y' z' : Int) : T3 (setT W b' x' y' z') b x y z := by
  unfold T3 setT at *
  rw [← h]
  simp [World.setCell, Array.getElem?_modify, Ne.symm hne]
theorem setT_below {N : Nat} {w : World} (h : Below N w W) (hb : N ≤ b) : Below N w (setT W b x y z) :=
  ((h.setCell (p := ⟨b, 0, none⟩) hb _).setCell (p := ⟨b, 1, none⟩) hb _).setCell (p := ⟨b, 2, none⟩) hb _
theorem trip_res {fn : Func} {p : Tmp} (h : fn.results = #[.cell p 97]) (tmps : Array Value) (hp : tmps.getD p undef = .pointer (some ⟨b, 0, none⟩)) (hc : T3 W b x y z) :
    (results fn tmps).run Try.prog W = .ok (.agg #[.int .u64 x, .int .u64 y, .int .u64 z]) W :=
  results_mid h tmps W b 0 [.int .u64 x, .int .u64 y, .int .u64 z] _ hp hc.range Try.underlying97 rfl (by kernel_rfl)
end

section
variable {ev : Operand → Value} {w : World} {dst : Option Tmp} {ty : TypeId} {ps : String} {af : Array Edge} {gd : Option (Nat × Bool)} {x y : Operand} {b i : Nat}
theorem exec_call1 {F : FuncId} {at_ : Array TypeId} {u : Value} (hF : ev (.func F) = .func (.func F) #[] #[]) (hcf : ∀ (args : Array Value) (w : World), (callFunc F args).run Try.prog w = .ok (.enter F args) w) (hx : ev x = u) :
    (execOp ev { dst := dst, op := .call { callee := .value (.func F), args := #[x], argTypes := at_ }, type := ty, pos := ps, after := af, guard := gd }).run Try.prog w = .ok (.enter F #[u]) w := by
  simp [execOp, hx, hF, hcf, go_sem]
theorem exec_call2 {F : FuncId} {at_ : Array TypeId} {u v : Value} (hF : ev (.func F) = .func (.func F) #[] #[]) (hcf : ∀ (args : Array Value) (w : World), (callFunc F args).run Try.prog w = .ok (.enter F args) w) (hx : ev x = u) (hy : ev y = v) :
    (execOp ev { dst := dst, op := .call { callee := .value (.func F), args := #[x, y], argTypes := at_ }, type := ty, pos := ps, after := af, guard := gd }).run Try.prog w = .ok (.enter F #[u, v]) w := by
  simp [execOp, hx, hy, hF, hcf, go_sem]
theorem exec_call4 {F : FuncId} {at_ : Array TypeId} {x3 x4 : Operand} {u v u3 u4 : Value} (hF : ev (.func F) = .func (.func F) #[] #[]) (hcf : ∀ (args : Array Value) (w : World), (callFunc F args).run Try.prog w = .ok (.enter F args) w) (hx : ev x = u) (hy : ev y = v) (h3 : ev x3 = u3) (h4 : ev x4 = u4) :
    (execOp ev { dst := dst, op := .call { callee := .value (.func F), args := #[x, y, x3, x4], argTypes := at_ }, type := ty, pos := ps, after := af, guard := gd }).run Try.prog w = .ok (.enter F #[u, v, u3, u4]) w := by
  simp [execOp, hx, hy, h3, h4, hF, hcf, go_sem]
theorem exec_idx {k : Nat} (hk : k < 3) (hx : ev x = .pointer (some ⟨b, 0, none⟩)) (hy : ev (.const (.int .i64 (k : Int))) = .int .i64 (k : Int)) :
    (execOp ev { dst := dst, op := .indexAddr 97 x (.const (.int .i64 (k : Int))), type := ty, pos := ps, after := af, guard := gd }).run Try.prog w = .ok (.value (.pointer (some ⟨b, k, none⟩))) w := by
  have h1 : (0 : Int) ≤ (k : Int) := by omega
  have h2 : (k : Int) < 3 := by omega
  simp [execOp, hx, hy, h2, go_sem]
theorem exec_idxT {k : Nat} (hk : k < 3) (hx : ev x = .pointer (some ⟨b, 0, none⟩)) (hy : ev y = .int .i64 (k : Int)) :
    (execOp ev { dst := dst, op := .indexAddr 97 x y, type := ty, pos := ps, after := af, guard := gd }).run Try.prog w = .ok (.value (.pointer (some ⟨b, k, none⟩))) w := by
  have h2 : (k : Int) < 3 := by omega
  simp [execOp, hx, hy, h2, go_sem]
theorem exec_move {u : Value} (hx : ev x = u) :
    (execOp ev { dst := dst, op := .move x, type := ty, pos := ps, after := af, guard := gd }).run Try.prog w = .ok (.value u) w := by
  simp [execOp, hx, go_sem]
theorem exec_loadT {X Y Z : Int} (hx : ev x = .pointer (some ⟨b, 0, none⟩)) (h0 : w.cell? ⟨b, 0, none⟩ = some (.int .u64 X)) (h1 : w.cell? ⟨b, 1, none⟩ = some (.int .u64 Y)) (h2 : w.cell? ⟨b, 2, none⟩ = some (.int .u64 Z)) :
    (execOp ev { dst := dst, op := .load 97 x, type := ty, pos := ps, after := af, guard := gd }).run Try.prog w = .ok (.value (.agg #[.int .u64 X, .int .u64 Y, .int .u64 Z])) w := by
  simp [execOp, hx, h0, h1, h2, go_sem]
theorem exec_storeT {X Y Z X0 Y0 Z0 : Int} (hx : ev x = .pointer (some ⟨b, 0, none⟩)) (hy : ev y = .agg #[.int .u64 X, .int .u64 Y, .int .u64 Z]) (hr : T3 w b X0 Y0 Z0) :
    (execOp ev { dst := dst, op := .store 97 x y, type := ty, pos := ps, after := af, guard := gd }).run Try.prog w = .ok .skip (setT w b X Y Z) := by
  have h1 := hr.c0
  have h2 := hr.c1
  have h3 := hr.c2
  have h4 := hr.frz
  simp [execOp, hx, hy, h1, h2, h3, h4, go_sem, setT]
theorem exec_build3 {x3 : Operand} {X Y Z : Int} (hx : ev x = .agg #[.int .u64 X]) (hy : ev y = .agg #[.int .u64 Y]) (hz : ev x3 = .agg #[.int .u64 Z]) :
    (execOp ev { dst := dst, op := .build 97 #[(0, x), (1, y), (2, x3)], type := ty, pos := ps, after := af, guard := gd }).run Try.prog w = .ok (.value (.agg #[.int .u64 X, .int .u64 Y, .int .u64 Z])) w := by
  simp [execOp, hx, hy, hz, go_sem]
theorem exec_loadN {z : Int} (hx : ev x = .pointer (some ⟨b, i, none⟩)) (hc : w.cell? ⟨b, i, none⟩ = some (.int .u64 z)) :
    (execOp ev { dst := dst, op := .load 86 x, type := ty, pos := ps, after := af, guard := gd }).run Try.prog w = .ok (.value (.agg #[.int .u64 z])) w := by
  simp [execOp, hx, hc, go_sem]
theorem exec_load0 (hx : ev x = .pointer (some ⟨b, i, none⟩)) :
    (execOp ev { dst := dst, op := .load 84 x, type := ty, pos := ps, after := af, guard := gd }).run Try.prog w = .ok (.value (.agg #[])) w := by
  simp [execOp, hx, go_sem]
theorem exec_alloc : (execOp ev { dst := dst, op := .alloc 86, type := ty, pos := ps, after := af, guard := gd }).run Try.prog w = .ok (.value (.pointer (some ⟨w.heap.size, 0, none⟩))) (w.alloc (.cells #[.int .u64 0] 86)) := by
  simp [execOp, go_sem]
theorem exec_store {z z0 : Int} (hx : ev x = .pointer (some ⟨b, 0, none⟩)) (hy : ev y = .agg #[.int .u64 z]) (hr : R1 w b z0) :
    (execOp ev { dst := dst, op := .store 86 x y, type := ty, pos := ps, after := af, guard := gd }).run Try.prog w = .ok .skip (w.setCell ⟨b, 0, none⟩ (.int .u64 z)) := by
  have h1 := hr.cell
  have h2 := hr.frz
  simp [execOp, hx, hy, h1, h2, go_sem]
theorem cf_times (args : Array Value) (w : World) : (callFunc 72 args).run Try.prog w = .ok (.enter 72 args) w := by kernel_rfl
theorem cf_minus (args : Array Value) (w : World) : (callFunc 90 args).run Try.prog w = .ok (.enter 90 args) w := by kernel_rfl
theorem cf_plus (args : Array Value) (w : World) : (callFunc 91 args).run Try.prog w = .ok (.enter 91 args) w := by kernel_rfl
theorem cf_reduced (args : Array Value) (w : World) : (callFunc 89 args).run Try.prog w = .ok (.enter 89 args) w := by kernel_rfl
theorem cf_crossed (args : Array Value) (w : World) : (callFunc 95 args).run Try.prog w = .ok (.enter 95 args) w := by kernel_rfl
end

section
variable {A : Act} {w W0 : World} {dst : Option Tmp} {ty : TypeId} {ps : String} {af : Array Edge} {gd : Option (Nat × Bool)} {x y x3 x4 : Operand} {b i : Nat}
theorem do_call1 {F : FuncId} {at_ : Array TypeId} {u r : Value} (hcf : ∀ (args : Array Value) (w : World), (callFunc F args).run Try.prog w = .ok (.enter F args) w) (hx : A.eval x = u)
    (hc : Calls Try.prog F #[u] w fun e w' => e = .returned r ∧ Below w.heap.size w w') :
    Does Try.prog { dst := dst, op := .call { callee := .value (.func F), args := #[x], argTypes := at_ }, type := ty, pos := ps, after := af, guard := gd } A w fun v' w' => v' = r ∧ Below w.heap.size w w' :=
  does_call (exec_call1 rfl hcf hx) (hc.mono fun _ _ ⟨h, h'⟩ => ⟨r, h, rfl, h'⟩)
theorem do_call2 {F : FuncId} {at_ : Array TypeId} {u v r : Value} (hcf : ∀ (args : Array Value) (w : World), (callFunc F args).run Try.prog w = .ok (.enter F args) w) (hx : A.eval x = u) (hy : A.eval y = v)
    (hc : Calls Try.prog F #[u, v] w fun e w' => e = .returned r ∧ Below w.heap.size w w') :
    Does Try.prog { dst := dst, op := .call { callee := .value (.func F), args := #[x, y], argTypes := at_ }, type := ty, pos := ps, after := af, guard := gd } A w fun v' w' => v' = r ∧ Below w.heap.size w w' :=
  does_call (exec_call2 rfl hcf hx hy) (hc.mono fun _ _ ⟨h, h'⟩ => ⟨r, h, rfl, h'⟩)
theorem do_call4 {F : FuncId} {at_ : Array TypeId} {u v u3 u4 r : Value} (hcf : ∀ (args : Array Value) (w : World), (callFunc F args).run Try.prog w = .ok (.enter F args) w) (hx : A.eval x = u) (hy : A.eval y = v) (h3 : A.eval x3 = u3) (h4 : A.eval x4 = u4)
    (hc : Calls Try.prog F #[u, v, u3, u4] w fun e w' => e = .returned r ∧ Below w.heap.size w w') :
    Does Try.prog { dst := dst, op := .call { callee := .value (.func F), args := #[x, y, x3, x4], argTypes := at_ }, type := ty, pos := ps, after := af, guard := gd } A w fun v' w' => v' = r ∧ Below w.heap.size w w' :=
  does_call (exec_call4 rfl hcf hx hy h3 h4) (hc.mono fun _ _ ⟨h, h'⟩ => ⟨r, h, rfl, h'⟩)
theorem do_loadN {z : Int} (hx : A.eval x = .pointer (some ⟨b, 0, none⟩)) (hr : R1 W0 b z) (hB : Below W0.heap.size W0 w) :
    Does Try.prog { dst := dst, op := .load 86 x, type := ty, pos := ps, after := af, guard := gd } A w fun v' w' => v' = .agg #[.int .u64 z] ∧ Below w.heap.size w w' :=
  does_value (exec_loadN hx (hr.keep hB).cell) ⟨rfl, Below.refl _ _⟩
theorem do_loadC {z : Int} (hx : A.eval x = .pointer (some ⟨b, i, none⟩)) (hr : W0.cell? ⟨b, i, none⟩ = some (.int .u64 z)) (hB : Below W0.heap.size W0 w) :
    Does Try.prog { dst := dst, op := .load 86 x, type := ty, pos := ps, after := af, guard := gd } A w fun v' w' => v' = .agg #[.int .u64 z] ∧ Below w.heap.size w w' :=
  does_value (exec_loadN hx (keepC hr hB)) ⟨rfl, Below.refl _ _⟩
theorem do_load0 (hx : A.eval x = .pointer (some ⟨b, i, none⟩)) :
    Does Try.prog { dst := dst, op := .load 84 x, type := ty, pos := ps, after := af, guard := gd } A w fun v' w' => v' = .agg #[] ∧ Below w.heap.size w w' :=
  does_value (exec_load0 hx) ⟨rfl, Below.refl _ _⟩
theorem do_loadT {X Y Z : Int} (hx : A.eval x = .pointer (some ⟨b, 0, none⟩)) (hr : T3 W0 b X Y Z) (hB : Below W0.heap.size W0 w) :
    Does Try.prog { dst := dst, op := .load 97 x, type := ty, pos := ps, after := af, guard := gd } A w fun v' w' => v' = .agg #[.int .u64 X, .int .u64 Y, .int .u64 Z] ∧ Below w.heap.size w w' :=
  does_value (exec_loadT hx (hr.keep hB).c0 (hr.keep hB).c1 (hr.keep hB).c2) ⟨rfl, Below.refl _ _⟩
set_option maxRecDepth 100000 in
theorem do_idx {k : Nat} (hk : k < 3) (hx : A.eval x = .pointer (some ⟨b, 0, none⟩)) :
    Does Try.prog { dst := dst, op := .indexAddr 97 x (.const (.int .i64 (k : Int))), type := ty, pos := ps, after := af, guard := gd } A w fun v' w' => v' = .pointer (some ⟨b, k, none⟩) ∧ Below w.heap.size w w' :=
  by
  have h := exec_idx (ev := A.eval) (w := w) (dst := dst) (ty := ty) (ps := ps) (af := af) (gd := gd) hk hx rfl
  exact does_value h ⟨rfl, Below.refl _ _⟩
set_option maxRecDepth 100000 in
theorem do_idxT {k : Nat} (hk : k < 3) (hx : A.eval x = .pointer (some ⟨b, 0, none⟩)) (hy : A.eval y = .int .i64 (k : Int)) :
    Does Try.prog { dst := dst, op := .indexAddr 97 x y, type := ty, pos := ps, after := af, guard := gd } A w fun v' w' => v' = .pointer (some ⟨b, k, none⟩) ∧ Below w.heap.size w w' := by
  have h := exec_idxT (ev := A.eval) (w := w) (dst := dst) (ty := ty) (ps := ps) (af := af) (gd := gd) hk hx hy
  exact does_value h ⟨rfl, Below.refl _ _⟩
set_option maxRecDepth 100000 in
theorem do_move {u : Value} (hx : A.eval x = u) :
    Does Try.prog { dst := dst, op := .move x, type := ty, pos := ps, after := af, guard := gd } A w fun v' w' => v' = u ∧ Below w.heap.size w w' := by
  have h := exec_move (ev := A.eval) (w := w) (dst := dst) (ty := ty) (ps := ps) (af := af) (gd := gd) hx
  exact does_value h ⟨rfl, Below.refl _ _⟩
set_option maxRecDepth 100000 in
theorem do_build {X Y Z : Int} (hx : A.eval x = .agg #[.int .u64 X]) (hy : A.eval y = .agg #[.int .u64 Y]) (hz : A.eval x3 = .agg #[.int .u64 Z]) :
    Does Try.prog { dst := dst, op := .build 97 #[(0, x), (1, y), (2, x3)], type := ty, pos := ps, after := af, guard := gd } A w fun v' w' => v' = .agg #[.int .u64 X, .int .u64 Y, .int .u64 Z] ∧ Below w.heap.size w w' := by
  have h := exec_build3 (w := w) (dst := dst) (ty := ty) (ps := ps) (af := af) (gd := gd) hx hy hz
  exact does_value h ⟨rfl, Below.refl _ _⟩
set_option maxRecDepth 100000 in
theorem do_new : Does Try.prog { dst := dst, op := .alloc 86, type := ty, pos := ps, after := af, guard := gd } A w fun v w' => v = .pointer (some ⟨w.heap.size, 0, none⟩) ∧ w' = w.alloc (.cells #[.int .u64 0] 86) :=
  by
  have h := exec_alloc (ev := A.eval) (w := w) (dst := dst) (ty := ty) (ps := ps) (af := af) (gd := gd)
  exact does_value h ⟨rfl, rfl⟩
theorem do_put {z : Int} (hx : A.eval x = .pointer (some ⟨b, 0, none⟩)) (hy : A.eval y = .agg #[.int .u64 z]) (hr : w.heap[b]? = some (.cells #[.int .u64 0] 86)) :
    Does Try.prog { dst := dst, op := .store 86 x y, type := ty, pos := ps, after := af, guard := gd } A w fun _ w' => Turned b (.cells #[.int .u64 z] 86) w w' := by
  have h1 : R1 w b 0 := hr
  refine does_skip (exec_store hx hy h1) ⟨rfl, rfl, rfl, by simp [World.setCell], h1.set z, fun k hk => ?_⟩
  simp [World.setCell, Array.getElem?_modify, Ne.symm hk]
end
end Go.Proofs.Ytaeanelfpaphiab
