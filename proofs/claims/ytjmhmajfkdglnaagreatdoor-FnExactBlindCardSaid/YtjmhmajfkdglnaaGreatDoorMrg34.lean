import Derived.Test.YtjmhmajfkdglnaaGreatDoorMrg33
import Derived.WalkKit
import Derived.Scope
import Derived.WalkMore
import Derived.Test.YtjmhmajfkdglnaaGreatDoorMrg16
namespace Go.Proofs.YtjmhmajfkdglnaaGreatDoor
open Go.RowKit
set_option linter.unusedVariables false

theorem pow_both (x e m : Nat) (he : e < 18446744073709551616) (hm : m = 2305843009213693951) (h : x < m) : ∃ r : Nat, r < m ∧ r = x ^ e % m ∧
    (∀ w, Calls Tryz.prog 94 #[.int .u64 x, .int .u64 e, .int .u64 m] w fun e w' => e = .returned (.int .u64 r) ∧ w = w') ∧
    (∀ w, Calls Tryz.prog 182 #[.agg #[.int .u64 x], .int .u64 e] w fun e w' => e = .returned (.agg #[.int .u64 r]) ∧ Below w.heap.size w w') := by
  subst hm
  exact ⟨_, Nat.mod_lt _ (by decide), rfl, fun w => powS_any x e _ w (by omega) he (by decide) (by decide), fun w => powP_any x e w h he⟩

/-- whatever is a square is found to be one -/
theorem sq_comp (x y r k : Nat) (hr : r = x ^ (2 ^ k) % 2305843009213693951) (hk : 2 ^ (k + 2) = 2305843009213693951 - 1 + 2) (hy : y * y % 2305843009213693951 = x) : r * r % 2305843009213693951 = x := by
  have e1 : r * r % 2305843009213693951 = x ^ (2 ^ k + 2 ^ k) % 2305843009213693951 := by rw [hr, ← Nat.mul_mod, ← Nat.pow_add]
  have e2 : (y * y) ^ (2 ^ k + 2 ^ k) = y ^ (2 ^ (k + 2)) := by
    rw [Nat.mul_pow, ← Nat.pow_add, Nat.pow_succ, Nat.pow_succ]
    congr 1
    omega
  rw [e1, ← hy, ← Nat.pow_mod, e2]
  exact M.rootP.two (k + 2) y hk
/-- the roots of a number below P, of both sides -/
theorem ev_both (x : Nat) (h : x < 2305843009213693951) : ∃ (r : Nat) (b : Bool),
    (∀ w, Calls Tryz.prog 145 #[.int .u64 x] w fun e w' => e = .returned (.tuple #[.int .u64 r, .bool b]) ∧ w = w') ∧
    (∀ w, Calls Tryz.prog 188 #[.agg #[.int .u64 x]] w fun e w' => e = .returned (.tuple #[.agg #[.int .u64 r], .bool b]) ∧ Below w.heap.size w w') ∧
    r < 2305843009213693951 ∧ (b = false → r = 0 ∧ ∀ y, y * y % 2305843009213693951 ≠ x) ∧ (b = true → r % 2 = 0 ∧ r * r % 2305843009213693951 = x) := by
  obtain ⟨j, hj⟩ : ∃ j : Nat, j = 59 := ⟨_, rfl⟩
  obtain ⟨k, hk⟩ : ∃ k : Nat, k = 2 ^ j := ⟨_, rfl⟩
  have hk1 : (k : Int) = 576460752303423488 := by rw [hk, hj]; rfl
  have hj2 : 2 ^ (j + 2) = 2305843009213693951 - 1 + 2 := by rw [hj]
  obtain ⟨r, hr, hre, L, P⟩ := pow_both x k 2305843009213693951 (by omega) rfl h
  simp only [hk1] at L P
  rw [hk] at hre
  clear hk hk1 hj
  have M := fun w => l2times_any r r w hr hr
  have T := fun w => timP_any r r w hr hr
  have hz : r * r % 2305843009213693951 < 2305843009213693951 := Nat.mod_lt _ (by decide)
  by_cases hzx : r * r % 2305843009213693951 = x
  · rw [hzx] at M T
    by_cases ho : r % 2 = 1
    · have ho1 : (((r : Nat) : Int) % 2 == 1) = true := by simp; omega
      have hr1 : 1 ≤ r := by omega
      refine ⟨2305843009213693951 - r, true, fun w => ?_, fun w => ?_, by omega, by simp, fun _ => ⟨by omega, ?_⟩⟩
      · have := sqS_odd x r w (by omega) ho1 (by omega) (by omega) L M
        rwa [show (2305843009213693951 : Int) - (r : Int) = ((2305843009213693951 - r : Nat) : Int) by omega] at this
      · exact evenP_odd x r w ho1 (2305843009213693951 - r) (fun w => ngP_of r ((2305843009213693951 - r : Nat) : Int) w fun w => mnP_any 0 r _ w (by omega) (by omega) (by omega) (by omega) (by rw [if_pos (by omega)]; omega)) P T
      · rw [← hzx]
        obtain ⟨q, hq⟩ : ∃ q, q + r = 2305843009213693951 := ⟨2305843009213693951 - r, by omega⟩
        have e1 : 2305843009213693951 - r = q := by omega
        rw [e1]
        have e2 : q * q + 2305843009213693951 * r = r * r + 2305843009213693951 * q := by rw [← hq]; grobner
        have e3 : (q * q + 2305843009213693951 * r) % 2305843009213693951 = (r * r + 2305843009213693951 * q) % 2305843009213693951 := by rw [e2]
        rwa [Nat.add_mul_mod_self_left, Nat.add_mul_mod_self_left] at e3
    · have ho1 : (((r : Nat) : Int) % 2 == 1) = false := by simp; omega
      exact ⟨r, true, fun w => sqS_even x r w (by omega) ho1 (by omega) L M, fun w => evenP_even x r w ho1 P T, hr, by simp, fun _ => ⟨by omega, hzx⟩⟩
  · have hno : ∀ y, y * y % 2305843009213693951 ≠ x := fun y hy => hzx (sq_comp x y r j hre hj2 hy)
    clear hre
    generalize r * r % 2305843009213693951 = z at *
    have hzx1 : ((z : Int) == (x : Int)) = false := by simp; omega
    exact ⟨0, false, fun w => sqS_no x r z w (by omega) hzx1 L M, fun w => evenP_no x r z w hzx1 P T, by decide, fun _ => ⟨rfl, hno⟩, by simp⟩
end Go.Proofs.YtjmhmajfkdglnaaGreatDoor

/-
  A scope through which the run goes by jumps: at each jump the walk goes on behind the label.
-/
namespace Go.Proofs.YtjmhmajfkdglnaaGreatDoor
open Go.RowKit

def hops (c : Code) (P : Program) (Q : Exit → Act → World → Prop) : Nat → Exit → Act → World → Prop
  | 0 => fun e a w => match e with
    | .goto _ => False
    | e => Q e a w
  | n + 1 => fun e a w => match e with
    | .goto l => ∃ rest, findLabel c l = some rest ∧ rest.wp P (hops c P Q n) a w
    | e => Q e a w
section
variable {P : Program} {Q : Exit → Act → World → Prop} {a : Act} {w : World} {c : Code}
@[go_sem] theorem hops_normal (n : Nat) : hops c P Q n .normal a w = Q .normal a w := by cases n <;> rfl
@[go_sem] theorem hops_exit (n id : Nat) : hops c P Q n (.exit id) a w = Q (.exit id) a w := by cases n <;> rfl
@[go_sem] theorem hops_ret (n : Nat) : hops c P Q n .ret a w = Q .ret a w := by cases n <;> rfl
@[go_sem] theorem hops_panic (n : Nat) (ch : List PanicEntry) : hops c P Q n (.panic ch) a w = Q (.panic ch) a w := by cases n <;> rfl
theorem hops_out (n : Nat) : hops c P Q n .outgrown a w = Q .outgrown a w := by cases n <;> rfl
theorem hops_goto {n l : Nat} {rest : Code} (hf : findLabel c l = some rest) (h : rest.wp P (hops c P Q n) a w) : hops c P Q (n + 1) (.goto l) a w := ⟨rest, hf, h⟩

theorem hops_key {b : Frame} {k : List Item} {cs : List Frame} : ∀ (n : Nat) (d : Code) (a : Act) (w : World), d.wp P (hops c P Q n) a w →
    ∃ e a' w', Q e a' w' ∧ Arrives P (lone (b.at a (.code d :: .inScope c :: k)) cs w) b k cs e a' w' := by
  intro n
  induction n with
  | zero =>
    intro d a w h
    obtain ⟨e, a₁, w₁, hq, harr⟩ := h b (.inScope c :: k) cs
    cases e with
    | normal => exact ⟨.normal, a₁, w₁, hq, Steps.trans harr (.one step_inScope)⟩
    | exit id => exact ⟨.exit id, a₁, w₁, hq, fun k' hk => harr k' (by simp [exitTo, hk])⟩
    | goto l => exact hq.elim
    | ret => exact ⟨_, a₁, w₁, hq, harr⟩
    | panic ch => exact ⟨_, a₁, w₁, hq, harr⟩
    | outgrown => exact ⟨_, a₁, w₁, hq, harr⟩
  | succ n ih =>
    intro d a w h
    obtain ⟨e, a₁, w₁, hq, harr⟩ := h b (.inScope c :: k) cs
    cases e with
    | normal => exact ⟨.normal, a₁, w₁, hq, Steps.trans harr (.one step_inScope)⟩
    | exit id => exact ⟨.exit id, a₁, w₁, hq, fun k' hk => harr k' (by simp [exitTo, hk])⟩
    | goto l =>
      obtain ⟨rest, hf, hw⟩ := hq
      obtain ⟨e₂, a₂, w₂, hq₂, harr₂⟩ := ih rest a₁ w₁ hw
      exact ⟨e₂, a₂, w₂, hq₂, .of_steps (harr _ (by simp [gotoIn, hf])) harr₂⟩
    | ret => exact ⟨_, a₁, w₁, hq, harr⟩
    | panic ch => exact ⟨_, a₁, w₁, hq, harr⟩
    | outgrown => exact ⟨_, a₁, w₁, hq, harr⟩
theorem wp_scope_hops (n : Nat) (h : c.wp P (hops c P Q n) a w) : (Code.scope c).wp P Q a w := by
  intro b k cs
  obtain ⟨e, a', w', hq, harr⟩ := hops_key n c a w h (b := b) (k := k) (cs := cs)
  exact ⟨e, a', w', hq, .of_steps (.one step_scope) harr⟩
/-- many ways through a piece of code that leave the same slots, walked on as one -/
theorem wp_join {d : Code} {A : Act} {S : World → Prop} (h : d.wp P (fun e a' w' => e = .normal ∧ a' = A ∧ S w') a w) (k : ∀ w', S w' → Q .normal A w') : d.wp P Q a w :=
  wp_mono h fun e a' w' ⟨he, ha, hs⟩ => by subst he ha; exact k w' hs
end
end Go.Proofs.YtjmhmajfkdglnaaGreatDoor

namespace Go.Proofs.YtjmhmajfkdglnaaGreatDoor.M

/-- the map: the factor, what must not be 0, and the first x -/
def mS (u : Fp) : Fp := 2305843009213693949 * (u * u)
def mT (u : Fp) : Fp := mS u * mS u + mS u
def mX (u : Fp) : Fp := if mT u = 0 then 111 * fi (2305843009213693949 * 2305843009213693948) else (2305843009213693840 * fi 2305843009213693948) * (1 + fi (mT u))
theorem c2 : (2305843009213693949 : Fp) = -2 := by decide
theorem c3 : (2305843009213693948 : Fp) = -3 := by decide
theorem c111 : (2305843009213693840 : Fp) = -111 := by decide
theorem c6 : (2305843009213693949 * 2305843009213693948 : Fp) = 6 := by decide
theorem six_ne : (6 : Fp) ≠ 0 := by decide
theorem mthree_ne : (2305843009213693948 : Fp) ≠ 0 := by decide
theorem q31 : (2147483648 : Fp) * 2147483648 = 2 := by decide
theorem sqn_sq : ∀ k (x : Fp), sqn k (x * x) = sqn k x * sqn k x
  | 0, _ => rfl
  | k + 1, x => by simp only [sqn]; exact sqn_sq k (x * x)
/-- of a number and its negative one has a root -/
theorem sq_or (a : Fp) : ∃ r : Fp, r * r = a ∨ r * r = -a := by
  refine ⟨sqn 59 a, ?_⟩
  have h := sqn61 a
  rw [show sqn 61 a = sqn 59 ((a * a) * (a * a)) from rfl, sqn_sq 59, sqn_sq 59] at h
  generalize sqn 59 a = r at *
  have : (r * r - a) * (r * r + a) = 0 := by grobner
  rcases noz this with e | e
  · exact Or.inl (by grobner)
  · exact Or.inr (by grobner)
theorem mX_zero (u : Fp) (h : mT u = 0) : mX u = 1152921504606846994 := by
  rw [mX, if_pos h, c6]
  have := fi_mul six_ne
  generalize fi 6 = f at *
  grobner
theorem mX_eq (u : Fp) (h : mT u ≠ 0) : crv (mS u * mX u) = mS u * mS u * mS u * crv (mX u) := by
  rw [mX, if_neg h]
  have h1 := fi_mul mthree_ne
  have h2 := fi_mul h
  unfold crv
  generalize fi 2305843009213693948 = g at *
  rw [c3] at h1
  rw [c111]
  unfold mT at h2 ⊢
  generalize mS u = s at *
  generalize fi (s * s + s) = f at *
  clear h
  grobner
/-- one of both is the square of some y -/
theorem has_one (u : Fp) : (∃ y : Fp, y * y = crv (mX u)) ∨ ∃ y : Fp, y * y = crv (mS u * mX u) := by
  by_cases h : mT u = 0
  · refine Or.inl ⟨301486360056512641, ?_⟩
    rw [mX_zero u h]
    decide +kernel
  · obtain ⟨r, hr | hr⟩ := sq_or (crv (mX u))
    · exact Or.inl ⟨r, hr⟩
    · refine Or.inr ⟨2147483648 * (2 * (u * u * u)) * r, ?_⟩
      rw [mX_eq u h]
      unfold mS
      rw [c2]
      have := q31
      generalize crv (mX u) = c at *
      generalize (2147483648 : Fp) = q at *
      grobner
theorem mS_neg (u : Fp) : mS (0 - u) = mS u := by unfold mS; grobner
theorem mT_neg (u : Fp) : mT (0 - u) = mT u := by unfold mT; rw [mS_neg]
theorem mX_neg (u : Fp) : mX (0 - u) = mX u := by unfold mX; rw [mT_neg]
end Go.Proofs.YtjmhmajfkdglnaaGreatDoor.M
