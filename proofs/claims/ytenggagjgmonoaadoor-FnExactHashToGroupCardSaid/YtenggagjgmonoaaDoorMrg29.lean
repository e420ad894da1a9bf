import Derived.Test.YtenggagjgmonoaaDoorMrg24
import Derived.Test.YtenggagjgmonoaaDoorMrg1
import Derived.WalkKit
import Derived.Scope
import Derived.WalkMore
namespace Go.Proofs.YtenggagjgmonoaaDoor
open Go.RowKit M
set_option linter.unusedVariables false
set_option maxRecDepth 100000

section
variable {W : World} {b : Nat} {x y : Int} {c : Bool}
def set3 (W : World) (b : Nat) (x y : Int) (c : Bool) : World := ((W.setCell ⟨b, 0, none⟩ (.int .u64 x)).setCell ⟨b, 1, none⟩ (.int .u64 y)).setCell ⟨b, 2, none⟩ (.bool c)
theorem setCell_heap3 (W : World) (b i : Nat) (v : Value) (k : Nat) (h : k ≠ b) : (W.setCell ⟨b, i, none⟩ v).heap[k]? = W.heap[k]? := by
  simp [World.setCell, Array.getElem?_modify, Ne.symm h]
theorem set3_below {N : Nat} {w : World} (h : Below N w W) (hb : N ≤ b) : Below N w (set3 W b x y c) :=
  ((h.setCell (p := ⟨b, 0, none⟩) hb _).setCell (p := ⟨b, 1, none⟩) hb _).setCell (p := ⟨b, 2, none⟩) hb _
end
/-- a block, of type t, that holds a point's three fields -/
def K3 (W : World) (t : TypeId) (b : Nat) (x y : Int) (c : Bool) : Prop := W.heap[b]? = some (.cells #[.int .u64 x, .int .u64 y, .bool c] t)
section
variable {W W' : World} {t : TypeId} {b : Nat} {x y : Int} {c : Bool}
theorem K3.c0 (h : K3 W t b x y c) : W.cell? ⟨b, 0, none⟩ = some (.int .u64 x) := by unfold K3 at h; simp [World.cell?, h]
theorem K3.c1 (h : K3 W t b x y c) : W.cell? ⟨b, 1, none⟩ = some (.int .u64 y) := by unfold K3 at h; simp [World.cell?, h]
theorem K3.c2 (h : K3 W t b x y c) : W.cell? ⟨b, 2, none⟩ = some (.bool c) := by unfold K3 at h; simp [World.cell?, h]
theorem K3.frz (h : K3 W t b x y c) (i : Nat) : W.frozen? ⟨b, i, none⟩ = false := by unfold K3 at h; simp [World.frozen?, h]
theorem K3.lt (h : K3 W t b x y c) : b < W.heap.size := (Array.getElem?_eq_some_iff.1 h).1
theorem K3.keep (h : K3 W t b x y c) (hb : Below W.heap.size W W') : K3 W' t b x y c := (hb.block b h.lt).trans h
theorem K3.new (w : World) (t : TypeId) (x y : Int) (c : Bool) : K3 (w.alloc (.cells #[.int .u64 x, .int .u64 y, .bool c] t)) t w.heap.size x y c := heap_alloc_new w _
theorem K3.alloc (h : K3 W t b x y c) (o : Obj) : K3 (W.alloc o) t b x y c := (Below.heap_alloc W o b h.lt).trans h
theorem K3.drew (h : K3 W t b x y c) : K3 W.drew t b x y c := h
theorem K3.at {b' : Nat} (h : K3 W t b x y c) (e : b = b') : K3 W t b' x y c := e ▸ h
theorem K3.range (h : K3 W t b x y c) : W.rangeAt b 0 [.int .u64 x, .int .u64 y, .bool c] := fun j v hj => by
  match j, hj with
  | 0, hj => cases hj; exact h.c0
  | 1, hj => cases hj; exact h.c1
  | 2, hj => cases hj; exact h.c2
theorem K3.set (h : K3 W t b x y c) (x' y' : Int) (c' : Bool) : K3 (set3 W b x' y' c') t b x' y' c' := by
  unfold K3 set3 at *
  simp [World.setCell, Array.getElem?_modify, h]
theorem K3.other {b' : Nat} (h : K3 W t b x y c) (hne : b ≠ b') (x' y' : Int) (c' : Bool) : K3 (set3 W b' x' y' c') t b x y c := by
  unfold K3 set3 at *
  rw [setCell_heap3 _ _ _ _ _ hne, setCell_heap3 _ _ _ _ _ hne, setCell_heap3 _ _ _ _ _ hne]; exact h
theorem cp_res {fn : Func} {p : Tmp} (h : fn.results = #[.cell p 63]) (tmps : Array Value) (hp : tmps.getD p undef = .pointer (some ⟨b, 0, none⟩)) (hc : K3 W 63 b x y c) :
    (results fn tmps).run Tryd.prog W = .ok (.agg #[.int .u64 x, .int .u64 y, .bool c]) W :=
  results_mid h tmps W b 0 [.int .u64 x, .int .u64 y, .bool c] _ hp hc.range Tryd.underlying63 rfl (by kernel_rfl)
theorem pt_res {fn : Func} {p : Tmp} (h : fn.results = #[.cell p 36]) (tmps : Array Value) (hp : tmps.getD p undef = .pointer (some ⟨b, 0, none⟩)) (hc : K3 W 36 b x y c) :
    (results fn tmps).run Tryd.prog W = .ok (.agg #[.int .u64 x, .int .u64 y, .bool c]) W :=
  results_mid h tmps W b 0 [.int .u64 x, .int .u64 y, .bool c] _ hp hc.range Tryd.underlying36 rfl (by kernel_rfl)
end
theorem fldP (z : Int) (w : World) : (Instr.field 91 (.agg #[.int .u64 z]) 1).run Tryd.prog w = .ok (.int .u64 z) w := by kernel_rfl
theorem fldK (X Y : Int) (c : Bool) (w : World) : (Instr.field 63 (.agg #[.int .u64 X, .int .u64 Y, .bool c]) 0).run Tryd.prog w = .ok (.agg #[.int .u64 X, .int .u64 Y, .bool c]) w := by kernel_rfl
end Go.Proofs.YtenggagjgmonoaaDoor

/-
  A scope through which the run goes by jumps: at each jump the walk goes on behind the label.
-/
namespace Go.Proofs.YtenggagjgmonoaaDoor
open Go.RowKit

def hops (c : Code) (P : Program) (Q : Exit → Act → World → Prop) : Nat → Exit → Act → World → Prop
  | 0 => fun e a w => match e with
    | .goto _ => False
    | e => Q e a w
  | n + 1 => fun e a w => match e with
    | .goto l => ∃ rest, findLabel c l = some rest ∧ rest.wp P (hops c P Q n) a w
    | e => Q e a w
section
variable {P : Program} {Q : Exit → Act → World → Prop} {a : Act} {w : World} {c : Code}
@[go_sem] theorem hops_normal (n : Nat) : hops c P Q n .normal a w = Q .normal a w := by cases n <;> rfl
@[go_sem] theorem hops_exit (n id : Nat) : hops c P Q n (.exit id) a w = Q (.exit id) a w := by cases n <;> rfl
@[go_sem] theorem hops_ret (n : Nat) : hops c P Q n .ret a w = Q .ret a w := by cases n <;> rfl
@[go_sem] theorem hops_panic (n : Nat) (ch : List PanicEntry) : hops c P Q n (.panic ch) a w = Q (.panic ch) a w := by cases n <;> rfl
theorem hops_out (n : Nat) : hops c P Q n .outgrown a w = Q .outgrown a w := by cases n <;> rfl
theorem hops_goto {n l : Nat} {rest : Code} (hf : findLabel c l = some rest) (h : rest.wp P (hops c P Q n) a w) : hops c P Q (n + 1) (.goto l) a w := ⟨rest, hf, h⟩

theorem hops_key {b : Frame} {k : List Item} {cs : List Frame} : ∀ (n : Nat) (d : Code) (a : Act) (w : World), d.wp P (hops c P Q n) a w →
    ∃ e a' w', Q e a' w' ∧ Arrives P (lone (b.at a (.code d :: .inScope c :: k)) cs w) b k cs e a' w' := by
  intro n
  induction n with
  | zero =>
    intro d a w h
    obtain ⟨e, a₁, w₁, hq, harr⟩ := h b (.inScope c :: k) cs
    cases e with
    | normal => exact ⟨.normal, a₁, w₁, hq, Steps.trans harr (.one step_inScope)⟩
    | exit id => exact ⟨.exit id, a₁, w₁, hq, fun k' hk => harr k' (by simp [exitTo, hk])⟩
    | goto l => exact hq.elim
    | ret => exact ⟨_, a₁, w₁, hq, harr⟩
    | panic ch => exact ⟨_, a₁, w₁, hq, harr⟩
    | outgrown => exact ⟨_, a₁, w₁, hq, harr⟩
  | succ n ih =>
    intro d a w h
    obtain ⟨e, a₁, w₁, hq, harr⟩ := h b (.inScope c :: k) cs
    cases e with
    | normal => exact ⟨.normal, a₁, w₁, hq, Steps.trans harr (.one step_inScope)⟩
    | exit id => exact ⟨.exit id, a₁, w₁, hq, fun k' hk => harr k' (by simp [exitTo, hk])⟩
    | goto l =>
      obtain ⟨rest, hf, hw⟩ := hq
      obtain ⟨e₂, a₂, w₂, hq₂, harr₂⟩ := ih rest a₁ w₁ hw
      exact ⟨e₂, a₂, w₂, hq₂, .of_steps (harr _ (by simp [gotoIn, hf])) harr₂⟩
    | ret => exact ⟨_, a₁, w₁, hq, harr⟩
    | panic ch => exact ⟨_, a₁, w₁, hq, harr⟩
    | outgrown => exact ⟨_, a₁, w₁, hq, harr⟩
theorem wp_scope_hops (n : Nat) (h : c.wp P (hops c P Q n) a w) : (Code.scope c).wp P Q a w := by
  intro b k cs
  obtain ⟨e, a', w', hq, harr⟩ := hops_key n c a w h (b := b) (k := k) (cs := cs)
  exact ⟨e, a', w', hq, .of_steps (.one step_scope) harr⟩
/-- many ways through a piece of code that leave the same slots, walked on as one -/
theorem wp_join {d : Code} {A : Act} {S : World → Prop} (h : d.wp P (fun e a' w' => e = .normal ∧ a' = A ∧ S w') a w) (k : ∀ w', S w' → Q .normal A w') : d.wp P Q a w :=
  wp_mono h fun e a' w' ⟨he, ha, hs⟩ => by subst he ha; exact k w' hs
end
end Go.Proofs.YtenggagjgmonoaaDoor
