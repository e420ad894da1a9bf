import Derived.Test.YtaeanelfpaphiaaOwn
namespace Go.Proofs.Ytaeanelfpaphiaa
open Go.RowKit
set_option linter.unusedVariables false

/-- a block, of type t, that holds a point's three fields -/
def Q3 (W : World) (t : TypeId) (b : Nat) (x y : Int) (c : Bool) : Prop := W.heap[b]? = some (.cells #[.int .u64 x, .int .u64 y, .bool c] t)
section
variable {W W' : World} {t : TypeId} {b : Nat} {x y : Int} {c : Bool}
theorem Q3.c0 (h : Q3 W t b x y c) : W.cell? ⟨b, 0, none⟩ = some (.int .u64 x) := by unfold Q3 at h; simp [World.cell?, h]
theorem Q3.c1 (h : Q3 W t b x y c) : W.cell? ⟨b, 1, none⟩ = some (.int .u64 y) := by unfold Q3 at h; simp [World.cell?, h]
theorem Q3.c2 (h : Q3 W t b x y c) : W.cell? ⟨b, 2, none⟩ = some (.bool c) := by unfold Q3 at h; simp [World.cell?, h]
theorem Q3.frz (h : Q3 W t b x y c) (i : Nat) : W.frozen? ⟨b, i, none⟩ = false := by unfold Q3 at h; simp [World.frozen?, h]
theorem Q3.lt (h : Q3 W t b x y c) : b < W.heap.size := (Array.getElem?_eq_some_iff.1 h).1
theorem Q3.keep (h : Q3 W t b x y c) (hb : Below W.heap.size W W') : Q3 W' t b x y c := (hb.block b h.lt).trans h
theorem Q3.new (w : World) (t : TypeId) (x y : Int) (c : Bool) : Q3 (w.alloc (.cells #[.int .u64 x, .int .u64 y, .bool c] t)) t w.heap.size x y c := heap_alloc_new w _
theorem Q3.alloc (h : Q3 W t b x y c) (o : Obj) : Q3 (W.alloc o) t b x y c := (Below.heap_alloc W o b h.lt).trans h
theorem Q3.range (h : Q3 W t b x y c) : W.rangeAt b 0 [.int .u64 x, .int .u64 y, .bool c] := fun j v hj => by
  match j, hj with
  | 0, hj => cases hj; exact h.c0
  | 1, hj => cases hj; exact h.c1
  | 2, hj => cases hj; exact h.c2
theorem Q3.set (h : Q3 W t b x y c) (x' y' : Int) (c' : Bool) : Q3 (((W.setCell ⟨b, 0, none⟩ (.int .u64 x')).setCell ⟨b, 1, none⟩ (.int .u64 y')).setCell ⟨b, 2, none⟩ (.bool c')) t b x' y' c' := by
  unfold Q3 at *
  simp [World.setCell, Array.getElem?_modify, h]
end
end Go.Proofs.Ytaeanelfpaphiaa
