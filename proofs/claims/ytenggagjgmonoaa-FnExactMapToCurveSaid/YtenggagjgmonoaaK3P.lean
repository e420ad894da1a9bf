import Derived.Test.YtenggagjgmonoaaCrvV
import Derived.Test.YtenggagjgmonoaaOwn
namespace Go.Proofs.Ytenggagjgmonoaa
open Go.RowKit M
set_option linter.unusedVariables false

section
variable {W : World} {b : Nat} {x y : Int} {c : Bool}
def set3 (W : World) (b : Nat) (x y : Int) (c : Bool) : World := ((W.setCell ⟨b, 0, none⟩ (.int .u64 x)).setCell ⟨b, 1, none⟩ (.int .u64 y)).setCell ⟨b, 2, none⟩ (.bool c)
theorem setCell_heap3 (W : World) (b i : Nat) (v : Value) (k : Nat) (h : k ≠ b) : (W.setCell ⟨b, i, none⟩ v).heap[k]? = W.heap[k]? := by
  simp [World.setCell, Array.getElem?_modify, Ne.symm h]
theorem set3_below {N : Nat} {w : World} (h : Below N w W) (hb : N ≤ b) : Below N w (set3 W b x y c) :=
  ((h.setCell (p := ⟨b, 0, none⟩) hb _).setCell (p := ⟨b, 1, none⟩) hb _).setCell (p := ⟨b, 2, none⟩) hb _
end
/-- a block, of type t, that holds a point's three fields -/
def K3 (W : World) (t : TypeId) (b : Nat) (x y : Int) (c : Bool) : Prop := W.heap[b]? = some (.cells #[.int .u64 x, .int .u64 y, .bool c] t)
section
variable {W W' : World} {t : TypeId} {b : Nat} {x y : Int} {c : Bool}
theorem K3.c0 (h : K3 W t b x y c) : W.cell? ⟨b, 0, none⟩ = some (.int .u64 x) := by unfold K3 at h; simp [World.cell?, h]
theorem K3.c1 (h : K3 W t b x y c) : W.cell? ⟨b, 1, none⟩ = some (.int .u64 y) := by unfold K3 at h; simp [World.cell?, h]
theorem K3.c2 (h : K3 W t b x y c) : W.cell? ⟨b, 2, none⟩ = some (.bool c) := by unfold K3 at h; simp [World.cell?, h]
theorem K3.frz (h : K3 W t b x y c) (i : Nat) : W.frozen? ⟨b, i, none⟩ = false := by unfold K3 at h; simp [World.frozen?, h]
theorem K3.lt (h : K3 W t b x y c) : b < W.heap.size := (Array.getElem?_eq_some_iff.1 h).1
theorem K3.keep (h : K3 W t b x y c) (hb : Below W.heap.size W W') : K3 W' t b x y c := (hb.block b h.lt).trans h
theorem K3.new (w : World) (t : TypeId) (x y : Int) (c : Bool) : K3 (w.alloc (.cells #[.int .u64 x, .int .u64 y, .bool c] t)) t w.heap.size x y c := heap_alloc_new w _
theorem K3.alloc (h : K3 W t b x y c) (o : Obj) : K3 (W.alloc o) t b x y c := (Below.heap_alloc W o b h.lt).trans h
theorem K3.drew (h : K3 W t b x y c) : K3 W.drew t b x y c := h
theorem K3.at {b' : Nat} (h : K3 W t b x y c) (e : b = b') : K3 W t b' x y c := e ▸ h
theorem K3.range (h : K3 W t b x y c) : W.rangeAt b 0 [.int .u64 x, .int .u64 y, .bool c] := fun j v hj => by
  match j, hj with
  | 0, hj => cases hj; exact h.c0
  | 1, hj => cases hj; exact h.c1
  | 2, hj => cases hj; exact h.c2
theorem K3.set (h : K3 W t b x y c) (x' y' : Int) (c' : Bool) : K3 (set3 W b x' y' c') t b x' y' c' := by
  unfold K3 set3 at *
  simp [World.setCell, Array.getElem?_modify, h]
theorem K3.other {b' : Nat} (h : K3 W t b x y c) (hne : b ≠ b') (x' y' : Int) (c' : Bool) : K3 (set3 W b' x' y' c') t b x y c := by
  unfold K3 set3 at *
  rw [setCell_heap3 _ _ _ _ _ hne, setCell_heap3 _ _ _ _ _ hne, setCell_heap3 _ _ _ _ _ hne]; exact h
theorem cp_res {fn : Func} {p : Tmp} (h : fn.results = #[.cell p 34]) (tmps : Array Value) (hp : tmps.getD p undef = .pointer (some ⟨b, 0, none⟩)) (hc : K3 W 34 b x y c) :
    (results fn tmps).run Try.prog W = .ok (.agg #[.int .u64 x, .int .u64 y, .bool c]) W :=
  results_mid h tmps W b 0 [.int .u64 x, .int .u64 y, .bool c] _ hp hc.range Try.underlying34 rfl (by kernel_rfl)
theorem pt_res {fn : Func} {p : Tmp} (h : fn.results = #[.cell p 24]) (tmps : Array Value) (hp : tmps.getD p undef = .pointer (some ⟨b, 0, none⟩)) (hc : K3 W 24 b x y c) :
    (results fn tmps).run Try.prog W = .ok (.agg #[.int .u64 x, .int .u64 y, .bool c]) W :=
  results_mid h tmps W b 0 [.int .u64 x, .int .u64 y, .bool c] _ hp hc.range Try.underlying24 rfl (by kernel_rfl)
end
theorem fldP (z : Int) (w : World) : (Instr.field 39 (.agg #[.int .u64 z]) 1).run Try.prog w = .ok (.int .u64 z) w := by kernel_rfl
theorem fldK (X Y : Int) (c : Bool) (w : World) : (Instr.field 34 (.agg #[.int .u64 X, .int .u64 Y, .bool c]) 0).run Try.prog w = .ok (.agg #[.int .u64 X, .int .u64 Y, .bool c]) w := by kernel_rfl
end Go.Proofs.Ytenggagjgmonoaa
