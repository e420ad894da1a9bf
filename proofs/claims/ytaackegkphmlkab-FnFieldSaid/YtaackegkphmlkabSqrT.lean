import Derived.Test.YtaackegkphmlkabSqrP
namespace Go.Proofs.Ytaackegkphmlkab
open Go.RowKit
set_option linter.unusedVariables false

set_option maxRecDepth 100000 in
theorem sqI_big (x : Int) (w : World) (h1 : 2305843009213693951 ≤ x) :
    Calls Try.prog 6 #[.int .u64 x] w fun e w' => e = .returned (.tuple #[.int .u64 0, .bool false]) ∧ Below w.heap.size w w' := by
  have M := fun w => exP_more x w h1
  clear h1
  go_enter Try.func6, Try.ntmps6
  go_wp2_with fail
  refine (M _).mono ?_
  rintro e w' ⟨rfl, hb⟩
  go_wp2
  go_ret2
  exact ⟨rfl, hb.alloc hb.size _⟩
set_option maxRecDepth 100000 in
theorem sqI_two (x y : Int) (b : Bool) (w : World) (h1 : x < 2305843009213693951)
    (L : ∀ w, Calls Try.prog 19 #[.agg #[.int .u64 x]] w fun e w' => e = .returned (.tuple #[.agg #[.int .u64 y], .bool b]) ∧ Below w.heap.size w w') :
    Calls Try.prog 6 #[.int .u64 x] w fun e w' => e = .returned (.tuple #[.int .u64 y, .bool b]) ∧ Below w.heap.size w w' := by
  have M := fun w => exP_less x w h1
  clear h1
  go_enter Try.func6, Try.ntmps6
  go_wp2_with fail
  refine (M _).mono ?_
  rintro e w' ⟨rfl, hb⟩
  go_wp2_with fail
  refine (L _).mono ?_
  rintro e w'' ⟨rfl, hb2⟩
  go_wp2
  go_ret2
  have h3 := hb.alloc hb.size (Obj.cells #[.int .u64 x] 39)
  have h4 := h3.trans (hb2.mono h3.size)
  exact ⟨rfl, h4.alloc h4.size _⟩

theorem pow_both (x e m : Nat) (he : e < 18446744073709551616) (hm : m = 2305843009213693951) (h : x < m) : ∃ r : Nat, r < m ∧
    (∀ w, Calls Try.prog 11 #[.int .u64 x, .int .u64 e, .int .u64 m] w fun e w' => e = .returned (.int .u64 r) ∧ w = w') ∧
    (∀ w, Calls Try.prog 30 #[.agg #[.int .u64 x], .int .u64 e] w fun e w' => e = .returned (.agg #[.int .u64 r]) ∧ Below w.heap.size w w') := by
  subst hm
  exact ⟨_, Nat.mod_lt _ (by decide), fun w => powS_any x e _ w (by omega) he (by decide) (by decide), fun w => powP_any x e w h he⟩

/-- what both sides answer: a root's word and whether there is one -/
theorem sq_both (x : Nat) (hx : x < 18446744073709551616) : ∃ (r : Nat) (b : Bool),
    (∀ w, Calls Try.prog 5 #[.int .u64 x] w fun e w' => e = .returned (.tuple #[.int .u64 r, .bool b]) ∧ w = w') ∧
    (∀ w, Calls Try.prog 6 #[.int .u64 x] w fun e w' => e = .returned (.tuple #[.int .u64 r, .bool b]) ∧ Below w.heap.size w w') ∧
    r < 2305843009213693951 ∧ (b = false → r = 0) ∧ (b = true → r % 2 = 0 ∧ r * r % 2305843009213693951 = x) := by
  by_cases h : x < 2305843009213693951
  · obtain ⟨r, hr, L, P⟩ := pow_both x 576460752303423488 2305843009213693951 (by decide) rfl h
    have M := fun w => l2times_any r r w hr hr
    have T := fun w => timP_any r r w hr hr
    have hz : r * r % 2305843009213693951 < 2305843009213693951 := Nat.mod_lt _ (by decide)
    by_cases hzx : r * r % 2305843009213693951 = x
    · rw [hzx] at M T
      by_cases ho : r % 2 = 1
      · have ho1 : (((r : Nat) : Int) % 2 == 1) = true := by simp; omega
        have hr1 : 1 ≤ r := by omega
        refine ⟨2305843009213693951 - r, true, fun w => ?_, fun w => ?_, by omega, by simp, fun _ => ⟨by omega, ?_⟩⟩
        · have := sqS_odd x r w (by omega) ho1 (by omega) (by omega) L M
          rwa [show (2305843009213693951 : Int) - (r : Int) = ((2305843009213693951 - r : Nat) : Int) by omega] at this
        · exact sqI_two x _ true w (by omega) (fun w => evenP_odd x r w ho1 (2305843009213693951 - r) (by rw [IntKind.wrap_u64]; omega) P T)
        · rw [← hzx]
          obtain ⟨q, hq⟩ : ∃ q, q + r = 2305843009213693951 := ⟨2305843009213693951 - r, by omega⟩
          have e1 : 2305843009213693951 - r = q := by omega
          rw [e1]
          have e2 : q * q + 2305843009213693951 * r = r * r + 2305843009213693951 * q := by rw [← hq]; grobner
          have e3 : (q * q + 2305843009213693951 * r) % 2305843009213693951 = (r * r + 2305843009213693951 * q) % 2305843009213693951 := by rw [e2]
          rwa [Nat.add_mul_mod_self_left, Nat.add_mul_mod_self_left] at e3
      · have ho1 : (((r : Nat) : Int) % 2 == 1) = false := by simp; omega
        refine ⟨r, true, fun w => sqS_even x r w (by omega) ho1 (by omega) L M, fun w => sqI_two x _ true w (by omega) (fun w => evenP_even x r w ho1 P T), hr, by simp, fun _ => ⟨by omega, hzx⟩⟩
    · generalize r * r % 2305843009213693951 = z at *
      have hzx1 : ((z : Int) == (x : Int)) = false := by simp; omega
      exact ⟨0, false, fun w => sqS_no x r z w (by omega) hzx1 L M, fun w => sqI_two x _ false w (by omega) (fun w => evenP_no x r z w hzx1 P T), by decide, fun _ => rfl, by simp⟩
  · exact ⟨0, false, fun w => sqS_big x w (by omega), fun w => sqI_big x w (by omega), by decide, fun _ => rfl, by simp⟩
end Go.Proofs.Ytaackegkphmlkab
