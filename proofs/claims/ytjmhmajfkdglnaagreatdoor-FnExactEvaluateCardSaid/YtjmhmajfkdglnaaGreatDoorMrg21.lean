import Derived.Test.YtjmhmajfkdglnaaGreatDoorMrg20
import Derived.WalkKit
import Derived.Scope
import Derived.WalkMore
import Derived.Test.YtjmhmajfkdglnaaGreatDoorMrg15
import Derived.Test.YtjmhmajfkdglnaaGreatDoorMrg16
set_option linter.unusedVariables false
set_option maxRecDepth 100000
set_option maxHeartbeats 16000000
namespace Go.Proofs.YtjmhmajfkdglnaaGreatDoor
open Go.RowKit
theorem pow_both (x e m : Nat) (he : e < 18446744073709551616) (hm : m = 2305843009213693951) (h : x < m) : ∃ r : Nat, r < m ∧ r = x ^ e % m ∧
    (∀ w, Calls Tryz.prog 94 #[.int .u64 x, .int .u64 e, .int .u64 m] w fun e w' => e = .returned (.int .u64 r) ∧ w = w') ∧
    (∀ w, Calls Tryz.prog 182 #[.agg #[.int .u64 x], .int .u64 e] w fun e w' => e = .returned (.agg #[.int .u64 r]) ∧ Below w.heap.size w w') := by
  subst hm
  exact ⟨_, Nat.mod_lt _ (by decide), rfl, fun w => powS_any x e _ w (by omega) he (by decide) (by decide), fun w => powP_any x e w h he⟩
theorem sq_comp (x y r k : Nat) (hr : r = x ^ (2 ^ k) % 2305843009213693951) (hk : 2 ^ (k + 2) = 2305843009213693951 - 1 + 2) (hy : y * y % 2305843009213693951 = x) : r * r % 2305843009213693951 = x := by
  have e1 : r * r % 2305843009213693951 = x ^ (2 ^ k + 2 ^ k) % 2305843009213693951 := by rw [hr, ← Nat.mul_mod, ← Nat.pow_add]
  have e2 : (y * y) ^ (2 ^ k + 2 ^ k) = y ^ (2 ^ (k + 2)) := by
    rw [Nat.mul_pow, ← Nat.pow_add, Nat.pow_succ, Nat.pow_succ]
    congr 1
    omega
  rw [e1, ← hy, ← Nat.pow_mod, e2]
  exact M.rootP.two (k + 2) y hk
theorem ev_both (x : Nat) (h : x < 2305843009213693951) : ∃ (r : Nat) (b : Bool),
    (∀ w, Calls Tryz.prog 145 #[.int .u64 x] w fun e w' => e = .returned (.tuple #[.int .u64 r, .bool b]) ∧ w = w') ∧
    (∀ w, Calls Tryz.prog 188 #[.agg #[.int .u64 x]] w fun e w' => e = .returned (.tuple #[.agg #[.int .u64 r], .bool b]) ∧ Below w.heap.size w w') ∧
    r < 2305843009213693951 ∧ (b = false → r = 0 ∧ ∀ y, y * y % 2305843009213693951 ≠ x) ∧ (b = true → r % 2 = 0 ∧ r * r % 2305843009213693951 = x) := by
  obtain ⟨j, hj⟩ : ∃ j : Nat, j = 59 := ⟨_, rfl⟩
  obtain ⟨k, hk⟩ : ∃ k : Nat, k = 2 ^ j := ⟨_, rfl⟩
  have hk1 : (k : Int) = 576460752303423488 := by rw [hk, hj]; rfl
  have hj2 : 2 ^ (j + 2) = 2305843009213693951 - 1 + 2 := by rw [hj]
  obtain ⟨r, hr, hre, L, P⟩ := pow_both x k 2305843009213693951 (by omega) rfl h
  simp only [hk1] at L P
  rw [hk] at hre
  clear hk hk1 hj
  have M := fun w => l2times_any r r w hr hr
  have T := fun w => timP_any r r w hr hr
  have hz : r * r % 2305843009213693951 < 2305843009213693951 := Nat.mod_lt _ (by decide)
  by_cases hzx : r * r % 2305843009213693951 = x
  · rw [hzx] at M T
    by_cases ho : r % 2 = 1
    · have ho1 : (((r : Nat) : Int) % 2 == 1) = true := by simp; omega
      have hr1 : 1 ≤ r := by omega
      refine ⟨2305843009213693951 - r, true, fun w => ?_, fun w => ?_, by omega, by simp, fun _ => ⟨by omega, ?_⟩⟩
      · have := sqS_odd x r w (by omega) ho1 (by omega) (by omega) L M
        rwa [show (2305843009213693951 : Int) - (r : Int) = ((2305843009213693951 - r : Nat) : Int) by omega] at this
      · exact evenP_odd x r w ho1 (2305843009213693951 - r) (fun w => ngP_of r ((2305843009213693951 - r : Nat) : Int) w fun w => mnP_any 0 r _ w (by omega) (by omega) (by omega) (by omega) (by rw [if_pos (by omega)]; omega)) P T
      · rw [← hzx]
        obtain ⟨q, hq⟩ : ∃ q, q + r = 2305843009213693951 := ⟨2305843009213693951 - r, by omega⟩
        have e1 : 2305843009213693951 - r = q := by omega
        rw [e1]
        have e2 : q * q + 2305843009213693951 * r = r * r + 2305843009213693951 * q := by rw [← hq]; grobner
        have e3 : (q * q + 2305843009213693951 * r) % 2305843009213693951 = (r * r + 2305843009213693951 * q) % 2305843009213693951 := by rw [e2]
        rwa [Nat.add_mul_mod_self_left, Nat.add_mul_mod_self_left] at e3
    · have ho1 : (((r : Nat) : Int) % 2 == 1) = false := by simp; omega
      exact ⟨r, true, fun w => sqS_even x r w (by omega) ho1 (by omega) L M, fun w => evenP_even x r w ho1 P T, hr, by simp, fun _ => ⟨by omega, hzx⟩⟩
  · have hno : ∀ y, y * y % 2305843009213693951 ≠ x := fun y hy => hzx (sq_comp x y r j hre hj2 hy)
    clear hre
    generalize r * r % 2305843009213693951 = z at *
    have hzx1 : ((z : Int) == (x : Int)) = false := by simp; omega
    exact ⟨0, false, fun w => sqS_no x r z w (by omega) hzx1 L M, fun w => evenP_no x r z w hzx1 P T, by decide, fun _ => ⟨rfl, hno⟩, by simp⟩
def hops (c : Code) (P : Program) (Q : Exit → Act → World → Prop) : Nat → Exit → Act → World → Prop
  | 0 => fun e a w => match e with
    | .goto _ => False
    | e => Q e a w
  | n + 1 => fun e a w => match e with
    | .goto l => ∃ rest, findLabel c l = some rest ∧ rest.wp P (hops c P Q n) a w
    | e => Q e a w
section
variable {P : Program} {Q : Exit → Act → World → Prop} {a : Act} {w : World} {c : Code}
@[go_sem] theorem hops_normal (n : Nat) : hops c P Q n .normal a w = Q .normal a w := by cases n <;> rfl
@[go_sem] theorem hops_exit (n id : Nat) : hops c P Q n (.exit id) a w = Q (.exit id) a w := by cases n <;> rfl
@[go_sem] theorem hops_ret (n : Nat) : hops c P Q n .ret a w = Q .ret a w := by cases n <;> rfl
@[go_sem] theorem hops_panic (n : Nat) (ch : List PanicEntry) : hops c P Q n (.panic ch) a w = Q (.panic ch) a w := by cases n <;> rfl
end
end Go.Proofs.YtjmhmajfkdglnaaGreatDoor
namespace Go.Proofs.YtjmhmajfkdglnaaGreatDoor.M
def mS (u : Fp) : Fp := 2305843009213693949 * (u * u)
def mT (u : Fp) : Fp := mS u * mS u + mS u
def mX (u : Fp) : Fp := if mT u = 0 then 111 * fi (2305843009213693949 * 2305843009213693948) else (2305843009213693840 * fi 2305843009213693948) * (1 + fi (mT u))
theorem c2 : (2305843009213693949 : Fp) = -2 := by decide
theorem c3 : (2305843009213693948 : Fp) = -3 := by decide
theorem c6 : (2305843009213693949 * 2305843009213693948 : Fp) = 6 := by decide
end Go.Proofs.YtjmhmajfkdglnaaGreatDoor.M
namespace Go.Proofs.YtjmhmajfkdglnaaGreatDoor
open Go.RowKit M
end Go.Proofs.YtjmhmajfkdglnaaGreatDoor
