import Derived.Test.YtagnikeaellbiaaStrW
namespace Go.Proofs.Ytagnikeaellbiaa
open Go.RowKit
set_option linter.unusedVariables false

set_option maxRecDepth 100000 in
theorem scaS_bad (s : ByteArray) (w : World) (hs : s.size ≠ 8) :
    Calls Try.prog 13 #[.string s] w fun e w' => e = .returned (.tuple #[.int .u64 0, .bool false]) ∧ w = w' := by
  have z : ((s.size : Int) == 8) = false := by simp; omega
  go_enter Try.func13, Try.ntmps13
  go_wp2
  go_ret2
  exact ⟨rfl, rfl⟩
set_option maxRecDepth 100000 in
theorem scaS_less (s : ByteArray) (x : Int) (w : World) (z : (s.size : Int) = 8) (h1 : x < 2305843010818082053)
    (L : ∀ w, Calls Try.prog 16 #[.string s] w fun e w' => e = .returned (.int .u64 x) ∧ w = w') :
    Calls Try.prog 13 #[.string s] w fun e w' => e = .returned (.tuple #[.int .u64 x, .bool true]) ∧ w = w' := by
  go_enter Try.func13, Try.ntmps13
  go_wp2_with (go_at_call 16; refine (L _).mono ?_; rintro e w' ⟨rfl, rfl⟩)
  go_ret2
  exact ⟨rfl, rfl⟩
set_option maxRecDepth 100000 in
theorem scaS_more (s : ByteArray) (x : Int) (w : World) (z : (s.size : Int) = 8) (h1 : 2305843010818082053 ≤ x)
    (L : ∀ w, Calls Try.prog 16 #[.string s] w fun e w' => e = .returned (.int .u64 x) ∧ w = w') :
    Calls Try.prog 13 #[.string s] w fun e w' => e = .returned (.tuple #[.int .u64 0, .bool false]) ∧ w = w' := by
  go_enter Try.func13, Try.ntmps13
  go_wp2_with (go_at_call 16; refine (L _).mono ?_; rintro e w' ⟨rfl, rfl⟩)
  go_ret2
  exact ⟨rfl, rfl⟩

end Go.Proofs.Ytagnikeaellbiaa
