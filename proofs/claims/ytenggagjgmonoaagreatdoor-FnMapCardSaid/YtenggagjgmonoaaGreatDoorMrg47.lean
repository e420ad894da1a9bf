import Derived.Test.YtenggagjgmonoaaGreatDoorMrg45
import Derived.Test.YtenggagjgmonoaaGreatDoorMrg46
namespace Go.Proofs.YtenggagjgmonoaaGreatDoor
open Go.RowKit
set_option linter.unusedVariables false

set_option maxRecDepth 100000 in
set_option maxHeartbeats 1000000 in
/-- a word is drawn -/
theorem dword_any (v : Value) (p : Nat) (w : World) (hv : Cod w v) (hp : p ≤ 50000) :
    Calls Tryz.prog 14 #[v, .int .i64 p] w fun e w' => (∃ x : Nat, x < 18446744073709551616 ∧ e = .returned (.tuple #[.int .u64 x, .int .i64 (p + 10 : Nat)])) ∧ Below w.heap.size w w' := by
  have T1 := take_any v p 12 w hv (by omega) (by omega) (by omega)
  have T2 := take_any v (p + 1) 5 w hv (by omega) (by omega) (by omega)
  have T3 := byt_any v (p + 2) 8 w hv (by omega) (by omega)
  have e1 : ((p + 1 : Nat) : Int) = (p : Int) + 1 := by omega
  have e2 : ((p + 2 : Nat) : Int) = (p : Int) + 1 + 1 := by omega
  have e3 : ((8 : Nat) : Int) = 8 := rfl
  rw [e1] at T2
  rw [e2, e3] at T3
  clear e1 e2 e3
  go_enter Tryz.func14, Tryz.ntmps14
  go_wp2_with fail
  refine T1.mono ?_
  rintro e w1 ⟨⟨z, hz, rfl⟩, rfl⟩
  go_wp2_with fail
  refine T2.mono ?_
  rintro e w1 ⟨⟨y, hy, rfl⟩, rfl⟩
  go_wp2_with fail
  refine T3.mono ?_
  rintro e w1 ⟨⟨s, hs, rfl⟩, hb⟩
  have W := wdS_any s w1 hs
  have hl := numL_8 s hs
  obtain ⟨x, hx0, hx1⟩ : ∃ x : Int, 0 ≤ x ∧ x ≤ 18446744073709551615 ∧ x = (numL (byt s) : Nat) := ⟨_, by omega, by omega, rfl⟩
  rw [← hx1.2] at W
  have hx2 := hx1.1
  clear T1 T2 T3 hl hx1
  go_wp2_with fail
  refine W.mono ?_
  rintro e w2 ⟨rfl, rfl⟩
  clear W
  rcases (show z = 0 ∨ z = 1 ∨ z = 2 ∨ (3 ≤ z ∧ z < 9) ∨ 9 ≤ z by omega) with rfl | rfl | rfl | h | h
  · go_wp2
    go_ret2
    exact ⟨⟨2305843009213693951 + y - 2, by omega, ret_ui (by omega) (by omega)⟩, hb⟩
  · go_wp2
    go_ret2
    exact ⟨⟨2305843010818082053 + y - 2, by omega, ret_ui (by omega) (by omega)⟩, hb⟩
  · go_wp2
    go_ret2
    exact ⟨⟨y, by omega, ret_ui (by omega) (by omega)⟩, hb⟩
  · have h0 : ((z : Int) == 0) = false := by simp; omega
    have h1 : ((z : Int) == 1) = false := by simp; omega
    have h2 : ((z : Int) == 2) = false := by simp; omega
    have h3 : (z : Int) < 9 := by omega
    go_wp2
    go_ret2
    exact ⟨⟨(x % 2305843009213693951).toNat, by omega, ret_ui (by omega) (by omega)⟩, hb⟩
  · have h0 : ((z : Int) == 0) = false := by simp; omega
    have h1 : ((z : Int) == 1) = false := by simp; omega
    have h2 : ((z : Int) == 2) = false := by simp; omega
    have h3 : ¬ ((z : Int) < 9) := by omega
    go_wp2
    go_ret2
    exact ⟨⟨x.toNat, by omega, ret_ui (by omega) (by omega)⟩, hb⟩

end Go.Proofs.YtenggagjgmonoaaGreatDoor

namespace Go.Proofs.YtenggagjgmonoaaGreatDoor
open Go.RowKit
set_option linter.unusedVariables false

set_option maxRecDepth 100000 in
set_option maxHeartbeats 1000000 in
/-- a number to be mapped -/
theorem dmap_any (v : Value) (w : World) (hv : Cod w v) :
    Calls Tryz.prog 4 #[v] w fun e w' => (∃ u : Nat, u < 18446744073709551616 ∧ e = .returned (.int .u64 u)) ∧ Below w.heap.size w w' := by
  have S := dword_any v 0 w hv (by omega)
  go_enter Tryz.func4, Tryz.ntmps4
  go_wp2_with fail
  refine S.mono ?_
  rintro e w1 ⟨⟨x, hx, rfl⟩, hb1⟩
  have T := take_any v 10 16 w1 (hv.below hb1) (by omega) (by omega) (by omega)
  go_wp2_with fail
  refine T.mono ?_
  rintro e w2 ⟨⟨z, hz, rfl⟩, rfl⟩
  clear S T
  by_cases h0 : z = 0
  · subst h0
    go_wp2
    go_ret
    exact ⟨⟨0, by omega, rfl⟩, hb1⟩
  · have h0i : ((z : Int) == 0) = false := by simp; omega
    by_cases h1 : z = 1
    · subst h1
      go_wp2
      go_ret
      exact ⟨⟨1073741824, by omega, rfl⟩, hb1⟩
    · have h1i : ((z : Int) == 1) = false := by simp; omega
      go_wp2
      go_ret
      exact ⟨⟨x, hx, rfl⟩, hb1⟩
end Go.Proofs.YtenggagjgmonoaaGreatDoor
