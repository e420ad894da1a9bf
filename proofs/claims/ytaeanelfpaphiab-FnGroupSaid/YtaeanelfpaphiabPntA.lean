import Derived.Test.YtaeanelfpaphiabTrpV
import Derived.Test.YtaeanelfpaphiabCrvD
namespace Go.Proofs.Ytaeanelfpaphiab
open Go.RowKit M
set_option linter.unusedVariables false

/-- a block, of type t, that holds a point's three fields -/
def K3 (W : World) (t : TypeId) (b : Nat) (x y : Int) (c : Bool) : Prop := W.heap[b]? = some (.cells #[.int .u64 x, .int .u64 y, .bool c] t)
section
variable {W W' : World} {t : TypeId} {b : Nat} {x y : Int} {c : Bool}
theorem K3.c0 (h : K3 W t b x y c) : W.cell? ⟨b, 0, none⟩ = some (.int .u64 x) := by unfold K3 at h; simp [World.cell?, h]
theorem K3.c1 (h : K3 W t b x y c) : W.cell? ⟨b, 1, none⟩ = some (.int .u64 y) := by unfold K3 at h; simp [World.cell?, h]
theorem K3.c2 (h : K3 W t b x y c) : W.cell? ⟨b, 2, none⟩ = some (.bool c) := by unfold K3 at h; simp [World.cell?, h]
theorem K3.frz (h : K3 W t b x y c) (i : Nat) : W.frozen? ⟨b, i, none⟩ = false := by unfold K3 at h; simp [World.frozen?, h]
theorem K3.lt (h : K3 W t b x y c) : b < W.heap.size := (Array.getElem?_eq_some_iff.1 h).1
theorem K3.keep (h : K3 W t b x y c) (hb : Below W.heap.size W W') : K3 W' t b x y c := (hb.block b h.lt).trans h
theorem K3.new (w : World) (t : TypeId) (x y : Int) (c : Bool) : K3 (w.alloc (.cells #[.int .u64 x, .int .u64 y, .bool c] t)) t w.heap.size x y c := heap_alloc_new w _
theorem K3.alloc (h : K3 W t b x y c) (o : Obj) : K3 (W.alloc o) t b x y c := (Below.heap_alloc W o b h.lt).trans h
theorem K3.drew (h : K3 W t b x y c) : K3 W.drew t b x y c := h
theorem K3.at {b' : Nat} (h : K3 W t b x y c) (e : b = b') : K3 W t b' x y c := e ▸ h
theorem K3.range (h : K3 W t b x y c) : W.rangeAt b 0 [.int .u64 x, .int .u64 y, .bool c] := fun j v hj => by
  match j, hj with
  | 0, hj => cases hj; exact h.c0
  | 1, hj => cases hj; exact h.c1
  | 2, hj => cases hj; exact h.c2
theorem K3.set (h : K3 W t b x y c) (x' y' : Int) (c' : Bool) : K3 (set3 W b x' y' c') t b x' y' c' := by
  unfold K3 set3 at *
  simp [World.setCell, Array.getElem?_modify, h]
theorem K3.other {b' : Nat} (h : K3 W t b x y c) (hne : b ≠ b') (x' y' : Int) (c' : Bool) : K3 (set3 W b' x' y' c') t b x y c := by
  unfold K3 set3 at *
  rw [setCell_heap3 _ _ _ _ _ hne, setCell_heap3 _ _ _ _ _ hne, setCell_heap3 _ _ _ _ _ hne]; exact h
theorem cp_res {fn : Func} {p : Tmp} (h : fn.results = #[.cell p 60]) (tmps : Array Value) (hp : tmps.getD p undef = .pointer (some ⟨b, 0, none⟩)) (hc : K3 W 60 b x y c) :
    (results fn tmps).run Try.prog W = .ok (.agg #[.int .u64 x, .int .u64 y, .bool c]) W :=
  results_mid h tmps W b 0 [.int .u64 x, .int .u64 y, .bool c] _ hp hc.range Try.underlying60 rfl (by kernel_rfl)
theorem pt_res {fn : Func} {p : Tmp} (h : fn.results = #[.cell p 25]) (tmps : Array Value) (hp : tmps.getD p undef = .pointer (some ⟨b, 0, none⟩)) (hc : K3 W 25 b x y c) :
    (results fn tmps).run Try.prog W = .ok (.agg #[.int .u64 x, .int .u64 y, .bool c]) W :=
  results_mid h tmps W b 0 [.int .u64 x, .int .u64 y, .bool c] _ hp hc.range Try.underlying25 rfl (by kernel_rfl)
end

set_option maxRecDepth 100000 in
theorem zpP (w : World) : Calls Try.prog 45 #[] w fun e w' => e = .returned (.agg #[.int .u64 0, .int .u64 0, .bool true]) ∧ Below w.heap.size w w' := by
  go_enter Try.func45, Try.ntmps45
  go_wp2
  refine bodyPost_ret (v := .agg #[.int .u64 0, .int .u64 0, .bool true]) (by simp [results, Try.results45, go_sem]) rfl ⟨rfl, ?_⟩
  exact (Below.refl _ w).alloc (Nat.le_refl _) _

section
variable {ev : Operand → Value} {w : World} {dst : Option Tmp} {ty : TypeId} {ps : String} {af : Array Edge} {gd : Option (Nat × Bool)} {x y : Operand} {b i : Nat}
theorem exec_call0 {F : FuncId} {at_ : Array TypeId} (hF : ev (.func F) = .func (.func F) #[] #[]) (hcf : ∀ (args : Array Value) (w : World), (callFunc F args).run Try.prog w = .ok (.enter F args) w) :
    (execOp ev { dst := dst, op := .call { callee := .value (.func F), args := #[], argTypes := at_ }, type := ty, pos := ps, after := af, guard := gd }).run Try.prog w = .ok (.enter F #[]) w := by
  simp [execOp, hF, hcf, go_sem]
theorem exec_f60 (hx : ev x = .pointer (some ⟨b, 0, none⟩)) :
    (execOp ev { dst := dst, op := .fieldAddr 60 x 0, type := ty, pos := ps, after := af, guard := gd }).run Try.prog w = .ok (.value (.pointer (some ⟨b, 0, none⟩))) w := by
  simp [execOp, hx, go_sem]
theorem exec_f25a (hx : ev x = .pointer (some ⟨b, 0, none⟩)) :
    (execOp ev { dst := dst, op := .fieldAddr 25 x 0, type := ty, pos := ps, after := af, guard := gd }).run Try.prog w = .ok (.value (.pointer (some ⟨b, 0, none⟩))) w := by
  simp [execOp, hx, go_sem]
theorem exec_f25b (hx : ev x = .pointer (some ⟨b, 0, none⟩)) :
    (execOp ev { dst := dst, op := .fieldAddr 25 x 1, type := ty, pos := ps, after := af, guard := gd }).run Try.prog w = .ok (.value (.pointer (some ⟨b, 1, none⟩))) w := by
  simp [execOp, hx, go_sem]
theorem exec_loadU {z : Int} (hx : ev x = .pointer (some ⟨b, i, none⟩)) (hc : w.cell? ⟨b, i, none⟩ = some (.int .u64 z)) :
    (execOp ev { dst := dst, op := .load 22 x, type := ty, pos := ps, after := af, guard := gd }).run Try.prog w = .ok (.value (.int .u64 z)) w := by
  simp [execOp, hx, hc, go_sem]
theorem exec_loadK {X Y : Int} {c : Bool} (hx : ev x = .pointer (some ⟨b, 0, none⟩)) (h0 : w.cell? ⟨b, 0, none⟩ = some (.int .u64 X)) (h1 : w.cell? ⟨b, 1, none⟩ = some (.int .u64 Y)) (h2 : w.cell? ⟨b, 2, none⟩ = some (.bool c)) :
    (execOp ev { dst := dst, op := .load 60 x, type := ty, pos := ps, after := af, guard := gd }).run Try.prog w = .ok (.value (.agg #[.int .u64 X, .int .u64 Y, .bool c])) w := by
  simp [execOp, hx, h0, h1, h2, go_sem]
theorem exec_storeK {X Y X0 Y0 : Int} {c c0 : Bool} (hx : ev x = .pointer (some ⟨b, 0, none⟩)) (hy : ev y = .agg #[.int .u64 X, .int .u64 Y, .bool c]) (hr : K3 w 60 b X0 Y0 c0) :
    (execOp ev { dst := dst, op := .store 60 x y, type := ty, pos := ps, after := af, guard := gd }).run Try.prog w = .ok .skip (set3 w b X Y c) := by
  have h1 := hr.c0
  have h2 := hr.c1
  have h3 := hr.c2
  have h4 := hr.frz
  simp [execOp, hx, hy, h1, h2, h3, h4, go_sem, set3]
theorem fldP (z : Int) (w : World) : (Instr.field 86 (.agg #[.int .u64 z]) 1).run Try.prog w = .ok (.int .u64 z) w := by kernel_rfl
theorem fldK (X Y : Int) (c : Bool) (w : World) : (Instr.field 60 (.agg #[.int .u64 X, .int .u64 Y, .bool c]) 0).run Try.prog w = .ok (.agg #[.int .u64 X, .int .u64 Y, .bool c]) w := by kernel_rfl
theorem exec_fld {z : Int} (hx : ev x = .agg #[.int .u64 z]) :
    (execOp ev { dst := dst, op := .field 86 x 1, type := ty, pos := ps, after := af, guard := gd }).run Try.prog w = .ok (.value (.int .u64 z)) w := by
  simp [execOp, hx, fldP, go_sem]
theorem exec_b25 {X Y : Int} (hx : ev x = .int .u64 X) (hy : ev y = .int .u64 Y) :
    (execOp ev { dst := dst, op := .build 25 #[(0, x), (1, y)], type := ty, pos := ps, after := af, guard := gd }).run Try.prog w = .ok (.value (.agg #[.int .u64 X, .int .u64 Y, .bool false])) w := by
  simp [execOp, hx, hy, go_sem]
theorem exec_b60 {X Y : Int} {c : Bool} (hx : ev x = .agg #[.int .u64 X, .int .u64 Y, .bool c]) :
    (execOp ev { dst := dst, op := .build 60 #[(0, x)], type := ty, pos := ps, after := af, guard := gd }).run Try.prog w = .ok (.value (.agg #[.int .u64 X, .int .u64 Y, .bool c])) w := by
  simp [execOp, hx, go_sem]
theorem cf_zero (args : Array Value) (w : World) : (callFunc 45 args).run Try.prog w = .ok (.enter 45 args) w := by kernel_rfl
theorem cf_triple (args : Array Value) (w : World) : (callFunc 74 args).run Try.prog w = .ok (.enter 74 args) w := by kernel_rfl
theorem cf_tplus (args : Array Value) (w : World) : (callFunc 87 args).run Try.prog w = .ok (.enter 87 args) w := by kernel_rfl
theorem cf_point (args : Array Value) (w : World) : (callFunc 76 args).run Try.prog w = .ok (.enter 76 args) w := by kernel_rfl
end
section
variable {A : Act} {w W0 : World} {dst : Option Tmp} {ty : TypeId} {ps : String} {af : Array Edge} {gd : Option (Nat × Bool)} {x y : Operand} {b i : Nat}
set_option maxRecDepth 100000
theorem do_f60 (hx : A.eval x = .pointer (some ⟨b, 0, none⟩)) :
    Does Try.prog { dst := dst, op := .fieldAddr 60 x 0, type := ty, pos := ps, after := af, guard := gd } A w fun v' w' => v' = .pointer (some ⟨b, 0, none⟩) ∧ Below w.heap.size w w' := by
  have h := exec_f60 (ev := A.eval) (w := w) (dst := dst) (ty := ty) (ps := ps) (af := af) (gd := gd) hx
  exact does_value h ⟨rfl, Below.refl _ _⟩
theorem do_f25a (hx : A.eval x = .pointer (some ⟨b, 0, none⟩)) :
    Does Try.prog { dst := dst, op := .fieldAddr 25 x 0, type := ty, pos := ps, after := af, guard := gd } A w fun v' w' => v' = .pointer (some ⟨b, 0, none⟩) ∧ Below w.heap.size w w' := by
  have h := exec_f25a (ev := A.eval) (w := w) (dst := dst) (ty := ty) (ps := ps) (af := af) (gd := gd) hx
  exact does_value h ⟨rfl, Below.refl _ _⟩
theorem do_f25b (hx : A.eval x = .pointer (some ⟨b, 0, none⟩)) :
    Does Try.prog { dst := dst, op := .fieldAddr 25 x 1, type := ty, pos := ps, after := af, guard := gd } A w fun v' w' => v' = .pointer (some ⟨b, 1, none⟩) ∧ Below w.heap.size w w' := by
  have h := exec_f25b (ev := A.eval) (w := w) (dst := dst) (ty := ty) (ps := ps) (af := af) (gd := gd) hx
  exact does_value h ⟨rfl, Below.refl _ _⟩
theorem do_loadU {z : Int} (hx : A.eval x = .pointer (some ⟨b, i, none⟩)) (hc : W0.cell? ⟨b, i, none⟩ = some (.int .u64 z)) (hB : Below W0.heap.size W0 w) :
    Does Try.prog { dst := dst, op := .load 22 x, type := ty, pos := ps, after := af, guard := gd } A w fun v' w' => v' = .int .u64 z ∧ Below w.heap.size w w' := by
  have h := exec_loadU (ev := A.eval) (w := w) (dst := dst) (ty := ty) (ps := ps) (af := af) (gd := gd) hx (keepC hc hB)
  exact does_value h ⟨rfl, Below.refl _ _⟩
theorem do_loadK {X Y : Int} {c : Bool} (hx : A.eval x = .pointer (some ⟨b, 0, none⟩)) (hr : K3 W0 60 b X Y c) (hB : Below W0.heap.size W0 w) :
    Does Try.prog { dst := dst, op := .load 60 x, type := ty, pos := ps, after := af, guard := gd } A w fun v' w' => v' = .agg #[.int .u64 X, .int .u64 Y, .bool c] ∧ Below w.heap.size w w' := by
  have h := exec_loadK (ev := A.eval) (w := w) (dst := dst) (ty := ty) (ps := ps) (af := af) (gd := gd) hx (hr.keep hB).c0 (hr.keep hB).c1 (hr.keep hB).c2
  exact does_value h ⟨rfl, Below.refl _ _⟩
theorem do_fld {z : Int} (hx : A.eval x = .agg #[.int .u64 z]) :
    Does Try.prog { dst := dst, op := .field 86 x 1, type := ty, pos := ps, after := af, guard := gd } A w fun v' w' => v' = .int .u64 z ∧ Below w.heap.size w w' := by
  have h := exec_fld (ev := A.eval) (w := w) (dst := dst) (ty := ty) (ps := ps) (af := af) (gd := gd) hx
  exact does_value h ⟨rfl, Below.refl _ _⟩
theorem do_b25 {X Y : Int} (hx : A.eval x = .int .u64 X) (hy : A.eval y = .int .u64 Y) :
    Does Try.prog { dst := dst, op := .build 25 #[(0, x), (1, y)], type := ty, pos := ps, after := af, guard := gd } A w fun v' w' => v' = .agg #[.int .u64 X, .int .u64 Y, .bool false] ∧ Below w.heap.size w w' := by
  have h := exec_b25 (ev := A.eval) (w := w) (dst := dst) (ty := ty) (ps := ps) (af := af) (gd := gd) hx hy
  exact does_value h ⟨rfl, Below.refl _ _⟩
theorem do_b60 {X Y : Int} {c : Bool} (hx : A.eval x = .agg #[.int .u64 X, .int .u64 Y, .bool c]) :
    Does Try.prog { dst := dst, op := .build 60 #[(0, x)], type := ty, pos := ps, after := af, guard := gd } A w fun v' w' => v' = .agg #[.int .u64 X, .int .u64 Y, .bool c] ∧ Below w.heap.size w w' := by
  have h := exec_b60 (ev := A.eval) (w := w) (dst := dst) (ty := ty) (ps := ps) (af := af) (gd := gd) hx
  exact does_value h ⟨rfl, Below.refl _ _⟩
end
end Go.Proofs.Ytaeanelfpaphiab
