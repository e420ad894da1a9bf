import Derived.Test.YtaeanelfpaphiabDiv
import Derived.Test.YtaeanelfpaphiabOwn
import Derived.Deep.RegionHeld3
import Derived.Laws.ResultCell
namespace Go.Proofs.Ytaeanelfpaphiab
open Go.RowKit
set_option linter.unusedVariables false

def nm (m x : Nat) : Value := .agg #[.int .u64 m, .int .u64 x]

set_option maxRecDepth 100000 in
theorem valI (m : Nat) (w : World) :
    Calls Try.prog 111 #[.int .u64 m] w fun e w' => e = .returned (.int .u64 m) ∧ w = w' := by
  go_enter Try.func111, Try.ntmps111
  go_wp2
  go_ret
  exact ⟨rfl, rfl⟩

theorem methM (m : Int) (w : World) : (method 234 70 (.int .u64 m) "loop.example/s02095/impl.value").run Try.prog w = .ok (111, .int .u64 m) w := by kernel_rfl

theorem fldM (x y : Int) (w : World) : (Instr.field 72 (.agg #[.int .u64 x, .int .u64 y]) 1).run Try.prog w = .ok (.int .u64 y) w := by kernel_rfl

set_option maxRecDepth 100000 in
theorem redI_any (a m : Nat) (w : World) (h0 : m ≠ 0) :
    Calls Try.prog 50 #[.int .u64 a, .int .u64 m] w fun e w' => e = .returned (nm m (a % m)) ∧ w' = w.alloc (.cells #[.int .u64 m, .int .u64 (a % m : Nat)] 72) := by
  have hm := methM m
  have z0 : ¬ (m = 0) := h0
  go_enter Try.func50, Try.ntmps50
  go_wp2_with fail
  refine (valI m _).mono ?_
  rintro e w' ⟨rfl, rfl⟩
  go_wp2
  refine bodyPost_ret (v := nm m (a % m)) (by simp [results, Try.results50, go_sem, nm]) rfl ⟨rfl, by simp⟩

set_option maxRecDepth 100000 in
theorem timI_any (a b m : Nat) (w : World) (ha : a < m) (hb : b < m) (hm : m < 18446744073709551616) :
    Calls Try.prog 51 #[nm m a, nm m b] w fun e w' => e = .returned (nm m (a * b % m)) ∧ Below w.heap.size w w' := by
  have hme := methM m
  have M := mul64_any a b (by omega) (by omega)
  have D := fun w => div_any (a * b / 18446744073709551616) (a * b % 18446744073709551616) m w (by
    rw [Nat.div_lt_iff_lt_mul (by decide)]
    have : a * b < m * m := Nat.mul_lt_mul'' ha hb
    have : m * m ≤ m * 18446744073709551616 := Nat.mul_le_mul_left _ (by omega)
    omega) hm (Nat.mod_lt _ (by decide))
  have e : a * b / 18446744073709551616 * 18446744073709551616 + a * b % 18446744073709551616 = a * b := by omega
  rw [e] at D
  clear e
  generalize a * b / 18446744073709551616 = hi at *
  generalize a * b % 18446744073709551616 = lo at *
  obtain ⟨c, hc⟩ : ∃ c, c = a * b % m := ⟨_, rfl⟩
  rw [← hc] at D ⊢
  clear hc ha hb hm
  unfold nm
  go_enter Try.func51, Try.ntmps51
  go_wp2_with fail
  refine (M _).mono ?_
  rintro e w' ⟨rfl, rfl⟩
  go_wp2_with fail
  refine (valI m _).mono ?_
  rintro e w' ⟨rfl, rfl⟩
  go_wp2_with fail
  refine (D _).mono ?_
  rintro e w' ⟨⟨z, rfl⟩, rfl | rfl⟩
  · go_wp2
    refine bodyPost_ret (v := .agg #[.int .u64 m, .int .u64 c]) (by simp [results, Try.results51, go_sem]) rfl ⟨rfl, ?_⟩
    exact (((Below.refl _ _).alloc (Nat.le_refl _) _).alloc (by simp) _).alloc (by simp; omega) _
  · go_wp2
    refine bodyPost_ret (v := .agg #[.int .u64 m, .int .u64 c]) (by simp [results, Try.results51, go_sem]) rfl ⟨rfl, ?_⟩
    exact ((((Below.refl _ _).alloc (Nat.le_refl _) _).alloc (by simp) _).alloc (by simp; omega) _).drew
end Go.Proofs.Ytaeanelfpaphiab
