import Derived.Test.YtaeanelfpaphiabSqrE
namespace Go.Proofs.Ytaeanelfpaphiab
open Go.RowKit
set_option linter.unusedVariables false

set_option maxRecDepth 100000 in
theorem sqI_big (x : Int) (w : World) (h1 : 2305843009213693951 ≤ x) :
    Calls Try.prog 24 #[.int .u64 x] w fun e w' => e = .returned (.tuple #[.int .u64 0, .bool false]) ∧ Below w.heap.size w w' := by
  have M := fun w => exP_more x w h1
  clear h1
  go_enter Try.func24, Try.ntmps24
  go_wp2_with fail
  refine (M _).mono ?_
  rintro e w' ⟨rfl, hb⟩
  go_wp2
  go_ret2
  exact ⟨rfl, hb.alloc hb.size _⟩
set_option maxRecDepth 100000 in
theorem sqI_two (x y : Int) (b : Bool) (w : World) (h1 : x < 2305843009213693951)
    (L : ∀ w, Calls Try.prog 60 #[.agg #[.int .u64 x]] w fun e w' => e = .returned (.tuple #[.agg #[.int .u64 y], .bool b]) ∧ Below w.heap.size w w') :
    Calls Try.prog 24 #[.int .u64 x] w fun e w' => e = .returned (.tuple #[.int .u64 y, .bool b]) ∧ Below w.heap.size w w' := by
  have M := fun w => exP_less x w h1
  clear h1
  go_enter Try.func24, Try.ntmps24
  go_wp2_with fail
  refine (M _).mono ?_
  rintro e w' ⟨rfl, hb⟩
  go_wp2_with fail
  refine (L _).mono ?_
  rintro e w'' ⟨rfl, hb2⟩
  go_wp2
  go_ret2
  have h3 := hb.alloc hb.size (Obj.cells #[.int .u64 x] 86)
  have h4 := h3.trans (hb2.mono h3.size)
  exact ⟨rfl, h4.alloc h4.size _⟩

/-- what both sides answer: a root's word and whether there is one -/
theorem sq_both (x : Nat) (hx : x < 18446744073709551616) : ∃ (r : Nat) (b : Bool),
    (∀ w, Calls Try.prog 25 #[.int .u64 x] w fun e w' => e = .returned (.tuple #[.int .u64 r, .bool b]) ∧ w = w') ∧
    (∀ w, Calls Try.prog 24 #[.int .u64 x] w fun e w' => e = .returned (.tuple #[.int .u64 r, .bool b]) ∧ Below w.heap.size w w') ∧
    r < 2305843009213693951 ∧ (b = false → r = 0) ∧ (b = true → r % 2 = 0 ∧ r * r % 2305843009213693951 = x) := by
  by_cases h : x < 2305843009213693951
  · obtain ⟨r, b, L, E, h1, h2, h3⟩ := ev_both x h
    exact ⟨r, b, L, fun w => sqI_two x r b w (by omega) E, h1, fun hb => (h2 hb).1, h3⟩
  · exact ⟨0, false, fun w => sqS_big x w (by omega), fun w => sqI_big x w (by omega), by decide, fun _ => rfl, by simp⟩
end Go.Proofs.Ytaeanelfpaphiab
