import Derived.Test.YtaeanelfpaphiabPowI
import Derived.Deep.RegionWith
namespace Go.Proofs.Ytaeanelfpaphiab
open Go.RowKit
set_option linter.unusedVariables false

set_option maxRecDepth 100000 in
theorem mulI_zero (a b : Nat) (w : World) :
    Calls Try.prog 15 #[.int .u64 a, .int .u64 b, .int .u64 0] w fun e w' => e = .returned (.int .u64 0) ∧ Below w.heap.size w w' := by
  go_enter Try.func15, Try.ntmps15
  go_wp2
  go_ret
  exact ⟨rfl, Below.refl _ _⟩
set_option maxRecDepth 100000 in
theorem mulI_any (a b m : Nat) (w : World) (hm : m < 18446744073709551616) (h0 : m ≠ 0) :
    Calls Try.prog 15 #[.int .u64 a, .int .u64 b, .int .u64 m] w fun e w' => e = .returned (.int .u64 (a * b % m : Nat)) ∧ Below w.heap.size w w' := by
  have R1 := fun w => redI_any a m w h0
  have R2 := fun w => redI_any b m w h0
  have T := fun w => timI_any (a % m) (b % m) m w (Nat.mod_lt _ (by omega)) (Nat.mod_lt _ (by omega)) hm
  rw [← Nat.mul_mod] at T
  generalize a * b % m = c at *
  generalize a % m = A at *
  generalize b % m = B at *
  have z0 : ((m : Int) == 0) = false := by simp; omega
  have hfl := fldM
  unfold nm at *
  clear h0 hm
  go_enter Try.func15, Try.ntmps15
  go_wp2_with fail
  refine (R1 _).mono ?_
  rintro e w' ⟨rfl, rfl⟩
  go_wp2_with fail
  refine (R2 _).mono ?_
  rintro e w' ⟨rfl, rfl⟩
  go_wp2_with fail
  refine (T _).mono ?_
  rintro e w' ⟨rfl, hb⟩
  go_wp2
  go_ret
  exact ⟨rfl, (((Below.refl _ w).alloc (Nat.le_refl _) _).alloc (by simp) _).trans (hb.mono (by simp; omega))⟩
set_option maxRecDepth 100000 in
theorem powI_zero (a b : Nat) (w : World) :
    Calls Try.prog 17 #[.int .u64 a, .int .u64 b, .int .u64 0] w fun e w' => e = .returned (.int .u64 0) ∧ Below w.heap.size w w' := by
  go_enter Try.func17, Try.ntmps17
  go_wp2
  go_ret
  exact ⟨rfl, Below.refl _ _⟩
set_option maxRecDepth 100000 in
theorem powM_any (a b m : Nat) (w : World) (hb : b < 18446744073709551616) (hm : m < 18446744073709551616) (h0 : m ≠ 0) :
    Calls Try.prog 17 #[.int .u64 a, .int .u64 b, .int .u64 m] w fun e w' => e = .returned (.int .u64 (a ^ b % m : Nat)) ∧ Below w.heap.size w w' := by
  have R1 := fun w => redI_any a m w h0
  have T := fun w => powI_any (a % m) b m w (Nat.mod_lt _ (by omega)) hb hm
  rw [← Nat.pow_mod] at T
  generalize a ^ b % m = c at *
  generalize a % m = A at *
  have z0 : ((m : Int) == 0) = false := by simp; omega
  have hfl := fldM
  unfold nm at *
  clear h0 hm hb
  go_enter Try.func17, Try.ntmps17
  go_wp2_with fail
  refine (R1 _).mono ?_
  rintro e w' ⟨rfl, rfl⟩
  go_wp2_with fail
  refine (T _).mono ?_
  rintro e w' ⟨rfl, hb⟩
  go_wp2
  go_ret
  exact ⟨rfl, ((Below.refl _ w).alloc (Nat.le_refl _) _).trans (hb.mono (by simp))⟩
end Go.Proofs.Ytaeanelfpaphiab
