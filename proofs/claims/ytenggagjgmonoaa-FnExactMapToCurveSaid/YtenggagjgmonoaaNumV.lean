import Derived.Test.YtenggagjgmonoaaNumB
namespace Go.Proofs.Ytenggagjgmonoaa
open Go.RowKit
set_option linter.unusedVariables false

set_option maxRecDepth 100000 in
theorem invS_any (a m : Nat) (w : World) (ha : a < 18446744073709551616) (hm : m < 18446744073709551616) (h2 : 2 ≤ m) :
    Calls Try.prog 9 #[.int .u64 a, .int .u64 m] w fun e w' => e = .returned (.int .u64 (M.ivn m a : Nat)) ∧ w = w' := by
  have z : ¬ ((m : Int) < 2) := by omega
  have L := fun w => powS_any a (m - 2) m w ha (by omega) hm (by omega)
  have e : ((m - 2 : Nat) : Int) = (m : Int) - 2 := by omega
  rw [e] at L
  have e2 : a ^ (m - 2) % m = M.ivn m a := rfl
  rw [e2] at L
  generalize M.ivn m a = c at *
  clear e e2
  go_enter Try.func9, Try.ntmps9
  go_wp2_with fail
  refine (L _).mono ?_
  rintro e w' ⟨rfl, rfl⟩
  clear L
  go_wp2
  go_ret
  exact ⟨rfl, rfl⟩
set_option maxRecDepth 100000 in
theorem invS_less (a m : Nat) (w : World) (h2 : m < 2) :
    Calls Try.prog 9 #[.int .u64 a, .int .u64 m] w fun e w' => e = .returned (.int .u64 0) ∧ w = w' := by
  have z : (m : Int) < 2 := by omega
  go_enter Try.func9, Try.ntmps9
  go_wp2
  go_ret
  exact ⟨rfl, rfl⟩
end Go.Proofs.Ytenggagjgmonoaa
