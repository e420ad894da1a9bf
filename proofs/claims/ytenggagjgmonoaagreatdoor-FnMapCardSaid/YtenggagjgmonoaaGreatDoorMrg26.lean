import Derived.Test.YtenggagjgmonoaaGreatDoorMrg25
import Derived.Test.YtenggagjgmonoaaGreatDoorMrg22
import Derived.Test.YtenggagjgmonoaaGreatDoorMrg1
namespace Go.Proofs.YtenggagjgmonoaaGreatDoor
open Go.RowKit
set_option linter.unusedVariables false

theorem pow_both (x e m : Nat) (he : e < 18446744073709551616) (hm : m = 2305843009213693951) (h : x < m) : ∃ r : Nat, r < m ∧ r = x ^ e % m ∧
    (∀ w, Calls Tryz.prog 42 #[.int .u64 x, .int .u64 e, .int .u64 m] w fun e w' => e = .returned (.int .u64 r) ∧ w = w') ∧
    (∀ w, Calls Tryz.prog 58 #[.agg #[.int .u64 x], .int .u64 e] w fun e w' => e = .returned (.agg #[.int .u64 r]) ∧ Below w.heap.size w w') := by
  subst hm
  exact ⟨_, Nat.mod_lt _ (by decide), rfl, fun w => powS_any x e _ w (by omega) he (by decide) (by decide), fun w => powP_any x e w h he⟩

/-- whatever is a square is found to be one -/
theorem sq_comp (x y r k : Nat) (hr : r = x ^ (2 ^ k) % 2305843009213693951) (hk : 2 ^ (k + 2) = 2305843009213693951 - 1 + 2) (hy : y * y % 2305843009213693951 = x) : r * r % 2305843009213693951 = x := by
  have e1 : r * r % 2305843009213693951 = x ^ (2 ^ k + 2 ^ k) % 2305843009213693951 := by rw [hr, ← Nat.mul_mod, ← Nat.pow_add]
  have e2 : (y * y) ^ (2 ^ k + 2 ^ k) = y ^ (2 ^ (k + 2)) := by
    rw [Nat.mul_pow, ← Nat.pow_add, Nat.pow_succ, Nat.pow_succ]
    congr 1
    omega
  rw [e1, ← hy, ← Nat.pow_mod, e2]
  exact M.rootP.two (k + 2) y hk
/-- the roots of a number below P, of both sides -/
theorem ev_both (x : Nat) (h : x < 2305843009213693951) : ∃ (r : Nat) (b : Bool),
    (∀ w, Calls Tryz.prog 21 #[.int .u64 x] w fun e w' => e = .returned (.tuple #[.int .u64 r, .bool b]) ∧ w = w') ∧
    (∀ w, Calls Tryz.prog 40 #[.agg #[.int .u64 x]] w fun e w' => e = .returned (.tuple #[.agg #[.int .u64 r], .bool b]) ∧ Below w.heap.size w w') ∧
    r < 2305843009213693951 ∧ (b = false → r = 0 ∧ ∀ y, y * y % 2305843009213693951 ≠ x) ∧ (b = true → r % 2 = 0 ∧ r * r % 2305843009213693951 = x) := by
  obtain ⟨j, hj⟩ : ∃ j : Nat, j = 59 := ⟨_, rfl⟩
  obtain ⟨k, hk⟩ : ∃ k : Nat, k = 2 ^ j := ⟨_, rfl⟩
  have hk1 : (k : Int) = 576460752303423488 := by rw [hk, hj]; rfl
  have hj2 : 2 ^ (j + 2) = 2305843009213693951 - 1 + 2 := by rw [hj]
  obtain ⟨r, hr, hre, L, P⟩ := pow_both x k 2305843009213693951 (by omega) rfl h
  simp only [hk1] at L P
  rw [hk] at hre
  clear hk hk1 hj
  have M := fun w => l2times_any r r w hr hr
  have T := fun w => timP_any r r w hr hr
  have hz : r * r % 2305843009213693951 < 2305843009213693951 := Nat.mod_lt _ (by decide)
  by_cases hzx : r * r % 2305843009213693951 = x
  · rw [hzx] at M T
    by_cases ho : r % 2 = 1
    · have ho1 : (((r : Nat) : Int) % 2 == 1) = true := by simp; omega
      have hr1 : 1 ≤ r := by omega
      refine ⟨2305843009213693951 - r, true, fun w => ?_, fun w => ?_, by omega, by simp, fun _ => ⟨by omega, ?_⟩⟩
      · have := sqS_odd x r w (by omega) ho1 (by omega) (by omega) L M
        rwa [show (2305843009213693951 : Int) - (r : Int) = ((2305843009213693951 - r : Nat) : Int) by omega] at this
      · exact evenP_odd x r w ho1 (2305843009213693951 - r) (fun w => ngP_of r ((2305843009213693951 - r : Nat) : Int) w fun w => mnP_any 0 r _ w (by omega) (by omega) (by omega) (by omega) (by rw [if_pos (by omega)]; omega)) P T
      · rw [← hzx]
        obtain ⟨q, hq⟩ : ∃ q, q + r = 2305843009213693951 := ⟨2305843009213693951 - r, by omega⟩
        have e1 : 2305843009213693951 - r = q := by omega
        rw [e1]
        have e2 : q * q + 2305843009213693951 * r = r * r + 2305843009213693951 * q := by rw [← hq]; grobner
        have e3 : (q * q + 2305843009213693951 * r) % 2305843009213693951 = (r * r + 2305843009213693951 * q) % 2305843009213693951 := by rw [e2]
        rwa [Nat.add_mul_mod_self_left, Nat.add_mul_mod_self_left] at e3
    · have ho1 : (((r : Nat) : Int) % 2 == 1) = false := by simp; omega
      exact ⟨r, true, fun w => sqS_even x r w (by omega) ho1 (by omega) L M, fun w => evenP_even x r w ho1 P T, hr, by simp, fun _ => ⟨by omega, hzx⟩⟩
  · have hno : ∀ y, y * y % 2305843009213693951 ≠ x := fun y hy => hzx (sq_comp x y r j hre hj2 hy)
    clear hre
    generalize r * r % 2305843009213693951 = z at *
    have hzx1 : ((z : Int) == (x : Int)) = false := by simp; omega
    exact ⟨0, false, fun w => sqS_no x r z w (by omega) hzx1 L M, fun w => evenP_no x r z w hzx1 P T, by decide, fun _ => ⟨rfl, hno⟩, by simp⟩
end Go.Proofs.YtenggagjgmonoaaGreatDoor

namespace Go.Proofs.YtenggagjgmonoaaGreatDoor
open Go.RowKit M
set_option linter.unusedVariables false
set_option maxRecDepth 100000

section
variable {W : World} {b : Nat} {x y : Int} {c : Bool}
def set3 (W : World) (b : Nat) (x y : Int) (c : Bool) : World := ((W.setCell ⟨b, 0, none⟩ (.int .u64 x)).setCell ⟨b, 1, none⟩ (.int .u64 y)).setCell ⟨b, 2, none⟩ (.bool c)
theorem setCell_heap3 (W : World) (b i : Nat) (v : Value) (k : Nat) (h : k ≠ b) : (W.setCell ⟨b, i, none⟩ v).heap[k]? = W.heap[k]? := by
  simp [World.setCell, Array.getElem?_modify, Ne.symm h]
theorem set3_below {N : Nat} {w : World} (h : Below N w W) (hb : N ≤ b) : Below N w (set3 W b x y c) :=
  ((h.setCell (p := ⟨b, 0, none⟩) hb _).setCell (p := ⟨b, 1, none⟩) hb _).setCell (p := ⟨b, 2, none⟩) hb _
end
/-- a block, of type t, that holds a point's three fields -/
def K3 (W : World) (t : TypeId) (b : Nat) (x y : Int) (c : Bool) : Prop := W.heap[b]? = some (.cells #[.int .u64 x, .int .u64 y, .bool c] t)
section
variable {W W' : World} {t : TypeId} {b : Nat} {x y : Int} {c : Bool}
theorem K3.c0 (h : K3 W t b x y c) : W.cell? ⟨b, 0, none⟩ = some (.int .u64 x) := by unfold K3 at h; simp [World.cell?, h]
theorem K3.c1 (h : K3 W t b x y c) : W.cell? ⟨b, 1, none⟩ = some (.int .u64 y) := by unfold K3 at h; simp [World.cell?, h]
theorem K3.c2 (h : K3 W t b x y c) : W.cell? ⟨b, 2, none⟩ = some (.bool c) := by unfold K3 at h; simp [World.cell?, h]
theorem K3.frz (h : K3 W t b x y c) (i : Nat) : W.frozen? ⟨b, i, none⟩ = false := by unfold K3 at h; simp [World.frozen?, h]
theorem K3.lt (h : K3 W t b x y c) : b < W.heap.size := (Array.getElem?_eq_some_iff.1 h).1
theorem K3.keep (h : K3 W t b x y c) (hb : Below W.heap.size W W') : K3 W' t b x y c := (hb.block b h.lt).trans h
theorem K3.new (w : World) (t : TypeId) (x y : Int) (c : Bool) : K3 (w.alloc (.cells #[.int .u64 x, .int .u64 y, .bool c] t)) t w.heap.size x y c := heap_alloc_new w _
theorem K3.alloc (h : K3 W t b x y c) (o : Obj) : K3 (W.alloc o) t b x y c := (Below.heap_alloc W o b h.lt).trans h
theorem K3.drew (h : K3 W t b x y c) : K3 W.drew t b x y c := h
theorem K3.at {b' : Nat} (h : K3 W t b x y c) (e : b = b') : K3 W t b' x y c := e ▸ h
theorem K3.range (h : K3 W t b x y c) : W.rangeAt b 0 [.int .u64 x, .int .u64 y, .bool c] := fun j v hj => by
  match j, hj with
  | 0, hj => cases hj; exact h.c0
  | 1, hj => cases hj; exact h.c1
  | 2, hj => cases hj; exact h.c2
theorem K3.set (h : K3 W t b x y c) (x' y' : Int) (c' : Bool) : K3 (set3 W b x' y' c') t b x' y' c' := by
  unfold K3 set3 at *
  simp [World.setCell, Array.getElem?_modify, h]
theorem K3.other {b' : Nat} (h : K3 W t b x y c) (hne : b ≠ b') (x' y' : Int) (c' : Bool) : K3 (set3 W b' x' y' c') t b x y c := by
  unfold K3 set3 at *
  rw [setCell_heap3 _ _ _ _ _ hne, setCell_heap3 _ _ _ _ _ hne, setCell_heap3 _ _ _ _ _ hne]; exact h
theorem cp_res {fn : Func} {p : Tmp} (h : fn.results = #[.cell p 44]) (tmps : Array Value) (hp : tmps.getD p undef = .pointer (some ⟨b, 0, none⟩)) (hc : K3 W 44 b x y c) :
    (results fn tmps).run Tryz.prog W = .ok (.agg #[.int .u64 x, .int .u64 y, .bool c]) W :=
  results_mid h tmps W b 0 [.int .u64 x, .int .u64 y, .bool c] _ hp hc.range Tryz.underlying44 rfl (by kernel_rfl)
theorem pt_res {fn : Func} {p : Tmp} (h : fn.results = #[.cell p 26]) (tmps : Array Value) (hp : tmps.getD p undef = .pointer (some ⟨b, 0, none⟩)) (hc : K3 W 26 b x y c) :
    (results fn tmps).run Tryz.prog W = .ok (.agg #[.int .u64 x, .int .u64 y, .bool c]) W :=
  results_mid h tmps W b 0 [.int .u64 x, .int .u64 y, .bool c] _ hp hc.range Tryz.underlying26 rfl (by kernel_rfl)
end
theorem fldP (z : Int) (w : World) : (Instr.field 49 (.agg #[.int .u64 z]) 1).run Tryz.prog w = .ok (.int .u64 z) w := by kernel_rfl
theorem fldK (X Y : Int) (c : Bool) (w : World) : (Instr.field 44 (.agg #[.int .u64 X, .int .u64 Y, .bool c]) 0).run Tryz.prog w = .ok (.agg #[.int .u64 X, .int .u64 Y, .bool c]) w := by kernel_rfl
end Go.Proofs.YtenggagjgmonoaaGreatDoor
