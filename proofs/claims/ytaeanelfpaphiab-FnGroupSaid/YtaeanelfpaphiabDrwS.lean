import Derived.Test.YtaeanelfpaphiabSomeS
import Derived.Test.YtaeanelfpaphiabStrP
namespace Go.Proofs.Ytaeanelfpaphiab
open Go.RowKit
set_option linter.unusedVariables false

set_option maxRecDepth 100000 in
set_option maxHeartbeats 1000000 in
/-- a word is drawn -/
theorem dword_any (v : Value) (p : Nat) (w : World) (hv : Cod w v) (hp : p ≤ 50000) :
    Calls Try.prog 48 #[v, .int .i64 p] w fun e w' => (∃ x : Nat, x < 18446744073709551616 ∧ e = .returned (.tuple #[.int .u64 x, .int .i64 (p + 10 : Nat)])) ∧ Below w.heap.size w w' := by
  have T1 := take_any v p 12 w hv (by omega) (by omega) (by omega)
  have T2 := take_any v (p + 1) 5 w hv (by omega) (by omega) (by omega)
  have T3 := byt_any v (p + 2) 8 w hv (by omega) (by omega)
  have e1 : ((p + 1 : Nat) : Int) = (p : Int) + 1 := by omega
  have e2 : ((p + 2 : Nat) : Int) = (p : Int) + 1 + 1 := by omega
  have e3 : ((8 : Nat) : Int) = 8 := rfl
  rw [e1] at T2
  rw [e2, e3] at T3
  clear e1 e2 e3
  go_enter Try.func48, Try.ntmps48
  go_wp2_with fail
  refine T1.mono ?_
  rintro e w1 ⟨⟨z, hz, rfl⟩, rfl⟩
  go_wp2_with fail
  refine T2.mono ?_
  rintro e w1 ⟨⟨y, hy, rfl⟩, rfl⟩
  go_wp2_with fail
  refine T3.mono ?_
  rintro e w1 ⟨⟨s, hs, rfl⟩, hb⟩
  have W := wdS_any s w1 hs
  have hl := numL_8 s hs
  obtain ⟨x, hx0, hx1⟩ : ∃ x : Int, 0 ≤ x ∧ x ≤ 18446744073709551615 ∧ x = (numL (byt s) : Nat) := ⟨_, by omega, by omega, rfl⟩
  rw [← hx1.2] at W
  have hx2 := hx1.1
  clear T1 T2 T3 hl hx1
  go_wp2_with fail
  refine W.mono ?_
  rintro e w2 ⟨rfl, rfl⟩
  clear W
  rcases (show z = 0 ∨ z = 1 ∨ z = 2 ∨ (3 ≤ z ∧ z < 9) ∨ 9 ≤ z by omega) with rfl | rfl | rfl | h | h
  · go_wp2
    go_ret2
    exact ⟨⟨2305843009213693951 + y - 2, by omega, ret_ui (by omega) (by omega)⟩, hb⟩
  · go_wp2
    go_ret2
    exact ⟨⟨2305843010818082053 + y - 2, by omega, ret_ui (by omega) (by omega)⟩, hb⟩
  · go_wp2
    go_ret2
    exact ⟨⟨y, by omega, ret_ui (by omega) (by omega)⟩, hb⟩
  · have h0 : ((z : Int) == 0) = false := by simp; omega
    have h1 : ((z : Int) == 1) = false := by simp; omega
    have h2 : ((z : Int) == 2) = false := by simp; omega
    have h3 : (z : Int) < 9 := by omega
    go_wp2
    go_ret2
    exact ⟨⟨(x % 2305843009213693951).toNat, by omega, ret_ui (by omega) (by omega)⟩, hb⟩
  · have h0 : ((z : Int) == 0) = false := by simp; omega
    have h1 : ((z : Int) == 1) = false := by simp; omega
    have h2 : ((z : Int) == 2) = false := by simp; omega
    have h3 : ¬ ((z : Int) < 9) := by omega
    go_wp2
    go_ret2
    exact ⟨⟨x.toNat, by omega, ret_ui (by omega) (by omega)⟩, hb⟩

set_option maxRecDepth 100000 in
set_option maxHeartbeats 1000000 in
/-- a modulus is drawn -/
theorem dmod_any (v : Value) (p : Nat) (w : World) (hv : Cod w v) (hp : p ≤ 40000) :
    Calls Try.prog 49 #[v, .int .i64 p] w fun e w' => (∃ x : Nat, x < 18446744073709551616 ∧ e = .returned (.tuple #[.int .u64 x, .int .i64 (p + 11 : Nat)])) ∧ Below w.heap.size w w' := by
  have T1 := take_any v p 10 w hv (by omega) (by omega) (by omega)
  have T2 := dword_any v (p + 1) w hv (by omega)
  have e1 : ((p + 1 : Nat) : Int) = (p : Int) + 1 := by omega
  have e2 : ((p + 1 + 10 : Nat) : Int) = (p : Int) + 11 := by omega
  rw [e1, e2] at T2
  clear e1 e2
  go_enter Try.func49, Try.ntmps49
  go_wp2_with fail
  refine T1.mono ?_
  rintro e w1 ⟨⟨z, hz, rfl⟩, rfl⟩
  go_wp2_with fail
  refine T2.mono ?_
  rintro e w1 ⟨⟨x, hx, rfl⟩, hb⟩
  clear T1 T2
  obtain ⟨X, hX, hX0, hX1⟩ : ∃ X : Int, X = x ∧ 0 ≤ X ∧ X ≤ 18446744073709551615 := ⟨_, rfl, by omega, by omega⟩
  rw [← hX]
  clear hX hx
  rcases (show z < 4 ∨ (4 ≤ z ∧ z < 7) ∨ z = 7 ∨ 8 ≤ z by omega) with h | h | rfl | h
  · have h0 : (z : Int) < 4 := by omega
    go_wp2
    go_ret2
    exact ⟨⟨2305843009213693951, by decide, ret_ui rfl (by omega)⟩, hb⟩
  · have h0 : ¬ ((z : Int) < 4) := by omega
    have h1 : (z : Int) < 7 := by omega
    go_wp2
    go_ret2
    exact ⟨⟨2305843010818082053, by decide, ret_ui rfl (by omega)⟩, hb⟩
  · go_wp2
    go_ret2
    exact ⟨⟨(X % 4).toNat, by omega, ret_ui (by omega) (by omega)⟩, hb⟩
  · have h0 : ¬ ((z : Int) < 4) := by omega
    have h1 : ¬ ((z : Int) < 7) := by omega
    have h2 : ((z : Int) == 7) = false := by simp; omega
    go_wp2
    go_ret2
    exact ⟨⟨X.toNat, by omega, ret_ui (by omega) (by omega)⟩, hb⟩
end Go.Proofs.Ytaeanelfpaphiab
