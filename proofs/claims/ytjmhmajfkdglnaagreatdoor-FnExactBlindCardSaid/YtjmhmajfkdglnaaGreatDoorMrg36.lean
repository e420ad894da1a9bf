import Derived.Test.YtjmhmajfkdglnaaGreatDoorMrg34
import Derived.Test.YtjmhmajfkdglnaaGreatDoorMrg16
import Derived.Test.YtjmhmajfkdglnaaGreatDoorMrg35
import Derived.Test.YtjmhmajfkdglnaaGreatDoorMrg15
import Derived.Test.YtjmhmajfkdglnaaGreatDoorMrg14
import Derived.Test.YtjmhmajfkdglnaaGreatDoorMrg28
import Derived.Test.YtjmhmajfkdglnaaGreatDoorMrg17
import Derived.Test.YtjmhmajfkdglnaaGreatDoorMrg5
namespace Go.Proofs.YtjmhmajfkdglnaaGreatDoor
open Go.RowKit M
set_option linter.unusedVariables false

set_option maxRecDepth 100000 in
set_option maxHeartbeats 4000000 in
theorem mapS_of (V U u2 s s2 t za iz x0 ia m1 it p1 x1 x g1 y1 x2 g2 y2 n1 n2 : Int) (fd fd2 od tz : Bool) (w : World)
    (hV : V.tmod 2305843009213693951 = U) (hU : 0 ≤ U) (ho : (U % 2 == 1) = od) (ht : (t == 0) = tz) (hx : x = if tz then x0 else x1)
    (hn1 : (2305843009213693951 - y1) % 2305843009213693951 = n1) (hn2 : (2305843009213693951 - y2) % 2305843009213693951 = n2) (hy1 : 0 ≤ y1) (hy1' : y1 < 2305843009213693951) (hy2 : 0 ≤ y2) (hy2' : y2 < 2305843009213693951)
    (L1 : ∀ w, Calls Tryz.prog 83 #[.int .u64 U, .int .u64 U] w fun e w' => e = .returned (.int .u64 u2) ∧ w = w')
    (L2 : ∀ w, Calls Tryz.prog 83 #[.int .u64 2305843009213693949, .int .u64 u2] w fun e w' => e = .returned (.int .u64 s) ∧ w = w')
    (L3 : ∀ w, Calls Tryz.prog 83 #[.int .u64 s, .int .u64 s] w fun e w' => e = .returned (.int .u64 s2) ∧ w = w')
    (L4 : ∀ w, Calls Tryz.prog 72 #[.int .u64 s2, .int .u64 s, .int .u64 2305843009213693951] w fun e w' => e = .returned (.int .u64 t) ∧ w = w')
    (L5 : ∀ w, Calls Tryz.prog 83 #[.int .u64 2305843009213693949, .int .u64 2305843009213693948] w fun e w' => e = .returned (.int .u64 za) ∧ w = w')
    (L6 : ∀ w, Calls Tryz.prog 55 #[.int .u64 za, .int .u64 2305843009213693951] w fun e w' => e = .returned (.int .u64 iz) ∧ w = w')
    (L7 : ∀ w, Calls Tryz.prog 83 #[.int .u64 111, .int .u64 iz] w fun e w' => e = .returned (.int .u64 x0) ∧ w = w')
    (L8 : ∀ w, Calls Tryz.prog 55 #[.int .u64 2305843009213693948, .int .u64 2305843009213693951] w fun e w' => e = .returned (.int .u64 ia) ∧ w = w')
    (L9 : ∀ w, Calls Tryz.prog 83 #[.int .u64 2305843009213693840, .int .u64 ia] w fun e w' => e = .returned (.int .u64 m1) ∧ w = w')
    (L10 : ∀ w, Calls Tryz.prog 55 #[.int .u64 t, .int .u64 2305843009213693951] w fun e w' => e = .returned (.int .u64 it) ∧ w = w')
    (L11 : ∀ w, Calls Tryz.prog 72 #[.int .u64 1, .int .u64 it, .int .u64 2305843009213693951] w fun e w' => e = .returned (.int .u64 p1) ∧ w = w')
    (L12 : ∀ w, Calls Tryz.prog 83 #[.int .u64 m1, .int .u64 p1] w fun e w' => e = .returned (.int .u64 x1) ∧ w = w')
    (L13 : ∀ w, Calls Tryz.prog 83 #[.int .u64 s, .int .u64 x] w fun e w' => e = .returned (.int .u64 x2) ∧ w = w')
    (R1 : ∀ w, Calls Tryz.prog 118 #[.int .u64 x] w fun e w' => e = .returned (.int .u64 g1) ∧ w = w')
    (R2 : ∀ w, Calls Tryz.prog 118 #[.int .u64 x2] w fun e w' => e = .returned (.int .u64 g2) ∧ w = w')
    (Q1 : ∀ w, Calls Tryz.prog 145 #[.int .u64 g1] w fun e w' => e = .returned (.tuple #[.int .u64 y1, .bool fd]) ∧ w = w')
    (Q2 : ∀ w, Calls Tryz.prog 145 #[.int .u64 g2] w fun e w' => e = .returned (.tuple #[.int .u64 y2, .bool fd2]) ∧ w = w') :
    Calls Tryz.prog 113 #[.int .u64 V] w fun e w' => e = .returned (.agg #[.int .u64 (if fd then x else x2), .int .u64 (if od then (if fd then n1 else n2) else (if fd then y1 else y2)), .bool false]) ∧ Below w.heap.size w w' := by
  have z1 : 0 ≤ 2305843009213693951 - y1 := by omega
  have z2 : 2305843009213693951 - y1 < 18446744073709551616 := by omega
  have z3 : 0 ≤ 2305843009213693951 - y2 := by omega
  have z4 : 2305843009213693951 - y2 < 18446744073709551616 := by omega
  go_enter Tryz.func113, Tryz.ntmps113
  go_wp2_with fail
  refine (L1 _).mono ?_
  rintro e w' ⟨rfl, rfl⟩
  go_wp2_with fail
  refine (L2 _).mono ?_
  rintro e w' ⟨rfl, rfl⟩
  go_wp2_with fail
  refine (L3 _).mono ?_
  rintro e w' ⟨rfl, rfl⟩
  go_wp2_with fail
  refine (L4 _).mono ?_
  rintro e w' ⟨rfl, rfl⟩
  go_wp2_with fail
  refine (L5 _).mono ?_
  rintro e w' ⟨rfl, rfl⟩
  go_wp2_with fail
  refine (L6 _).mono ?_
  rintro e w' ⟨rfl, rfl⟩
  go_wp2_with fail
  refine (L7 _).mono ?_
  rintro e w' ⟨rfl, rfl⟩
  clear L1 L2 L3 L4 L5 L6 L7
  cases tz with
  | true =>
    simp only [if_true] at hx
    subst hx
    go_wp2_with fail
    refine (R1 _).mono ?_
    rintro e w' ⟨rfl, rfl⟩
    go_wp2_with fail
    refine (Q1 _).mono ?_
    rintro e w' ⟨rfl, rfl⟩
    cases fd with
    | true =>
      cases od with
      | true =>
        go_wp2
        exact bodyPost_ret (by simp [results, Tryz.results113, go_sem]) rfl ⟨rfl, (Below.refl _ _).alloc (Nat.le_refl _) _⟩
      | false =>
        go_wp2
        exact bodyPost_ret (by simp [results, Tryz.results113, go_sem]) rfl ⟨rfl, (Below.refl _ _).alloc (Nat.le_refl _) _⟩
    | false =>
      go_wp2_with fail
      refine (L13 _).mono ?_
      rintro e w' ⟨rfl, rfl⟩
      go_wp2_with fail
      refine (R2 _).mono ?_
      rintro e w' ⟨rfl, rfl⟩
      go_wp2_with fail
      refine (Q2 _).mono ?_
      rintro e w' ⟨rfl, rfl⟩
      cases od with
      | true =>
        go_wp2
        exact bodyPost_ret (by simp [results, Tryz.results113, go_sem]) rfl ⟨rfl, (Below.refl _ _).alloc (Nat.le_refl _) _⟩
      | false =>
        go_wp2
        exact bodyPost_ret (by simp [results, Tryz.results113, go_sem]) rfl ⟨rfl, (Below.refl _ _).alloc (Nat.le_refl _) _⟩
  | false =>
    simp only [if_false, Bool.false_eq_true] at hx
    subst hx
    go_wp2_with fail
    refine (L8 _).mono ?_
    rintro e w' ⟨rfl, rfl⟩
    go_wp2_with fail
    refine (L9 _).mono ?_
    rintro e w' ⟨rfl, rfl⟩
    go_wp2_with fail
    refine (L10 _).mono ?_
    rintro e w' ⟨rfl, rfl⟩
    go_wp2_with fail
    refine (L11 _).mono ?_
    rintro e w' ⟨rfl, rfl⟩
    go_wp2_with fail
    refine (L12 _).mono ?_
    rintro e w' ⟨rfl, rfl⟩
    go_wp2_with fail
    refine (R1 _).mono ?_
    rintro e w' ⟨rfl, rfl⟩
    go_wp2_with fail
    refine (Q1 _).mono ?_
    rintro e w' ⟨rfl, rfl⟩
    cases fd with
    | true =>
      cases od with
      | true =>
        go_wp2
        exact bodyPost_ret (by simp [results, Tryz.results113, go_sem]) rfl ⟨rfl, (Below.refl _ _).alloc (Nat.le_refl _) _⟩
      | false =>
        go_wp2
        exact bodyPost_ret (by simp [results, Tryz.results113, go_sem]) rfl ⟨rfl, (Below.refl _ _).alloc (Nat.le_refl _) _⟩
    | false =>
      go_wp2_with fail
      refine (L13 _).mono ?_
      rintro e w' ⟨rfl, rfl⟩
      go_wp2_with fail
      refine (R2 _).mono ?_
      rintro e w' ⟨rfl, rfl⟩
      go_wp2_with fail
      refine (Q2 _).mono ?_
      rintro e w' ⟨rfl, rfl⟩
      cases od with
      | true =>
        go_wp2
        exact bodyPost_ret (by simp [results, Tryz.results113, go_sem]) rfl ⟨rfl, (Below.refl _ _).alloc (Nat.le_refl _) _⟩
      | false =>
        go_wp2
        exact bodyPost_ret (by simp [results, Tryz.results113, go_sem]) rfl ⟨rfl, (Below.refl _ _).alloc (Nat.le_refl _) _⟩
end Go.Proofs.YtjmhmajfkdglnaaGreatDoor

namespace Go.Proofs.YtjmhmajfkdglnaaGreatDoor
open Go.RowKit M
set_option linter.unusedVariables false

theorem rt_ex (x : Fp) : ∃ rb : Fp × Bool,
    (∀ w, Calls Tryz.prog 145 #[.int .u64 (fv x)] w fun e w' => e = .returned (.tuple #[.int .u64 (fv rb.1), .bool rb.2]) ∧ w = w') ∧
    (∀ w, Calls Tryz.prog 188 #[.agg #[.int .u64 (fv x)]] w fun e w' => e = .returned (.tuple #[.agg #[.int .u64 (fv rb.1)], .bool rb.2]) ∧ Below w.heap.size w w') ∧
    (rb.2 = false → ∀ y : Fp, y * y ≠ x) ∧ (rb.2 = true → rb.1 * rb.1 = x) := by
  obtain ⟨r, b, h1, h2, h3, h4, h5⟩ := ev_both x.val (val_lt x)
  refine ⟨(⟨r, h3⟩, b), h1, h2, fun hb y hy => (h4 hb).2 y.val ?_, fun hb => ?_⟩
  · rw [← hy, Fin.val_mul]
  · apply Fin.ext
    rw [Fin.val_mul]
    exact (h5 hb).2
/-- the even root of a number of the field, if it has one -/
noncomputable def rtV (x : Fp) : Fp := (Classical.choose (rt_ex x)).1
noncomputable def rtB (x : Fp) : Bool := (Classical.choose (rt_ex x)).2
theorem rtS (x : Fp) (w : World) : Calls Tryz.prog 145 #[.int .u64 (fv x)] w fun e w' => e = .returned (.tuple #[.int .u64 (fv (rtV x)), .bool (rtB x)]) ∧ w = w' := (Classical.choose_spec (rt_ex x)).1 w
theorem rtI (x : Fp) (w : World) : Calls Tryz.prog 188 #[.agg #[.int .u64 (fv x)]] w fun e w' => e = .returned (.tuple #[.agg #[.int .u64 (fv (rtV x))], .bool (rtB x)]) ∧ Below w.heap.size w w' := (Classical.choose_spec (rt_ex x)).2.1 w
theorem rt_no (x : Fp) (h : rtB x = false) (y : Fp) : y * y ≠ x := (Classical.choose_spec (rt_ex x)).2.2.1 h y
theorem rt_yes (x : Fp) (h : rtB x = true) : rtV x * rtV x = x := (Classical.choose_spec (rt_ex x)).2.2.2 h

/-- the map -/
noncomputable def mXX (u : Fp) : Fp := if rtB (crv (mX u)) then mX u else mS u * mX u
noncomputable def mYY (u : Fp) : Fp := rtV (crv (mXX u))
noncomputable def mYo (u : Fp) : Fp := if (fv u % 2 == 1) then 0 - mYY u else mYY u
theorem mXX_sq (u : Fp) : mYY u * mYY u = crv (mXX u) := by
  apply rt_yes
  unfold mXX
  cases h : rtB (crv (mX u)) with
  | true => rw [if_pos rfl]; exact h
  | false =>
    rw [if_neg (by simp)]
    rcases has_one u with ⟨y, hy⟩ | ⟨y, hy⟩
    · exact absurd hy (rt_no _ h y)
    · cases h2 : rtB (crv (mS u * mX u)) with
      | true => rfl
      | false => exact absurd hy (rt_no _ h2 y)
theorem map_on (u : Fp) : on (some (mXX u, mYo u)) := by
  show mYo u * mYo u = crv (mXX u)
  rw [← mXX_sq]
  unfold mYo
  split
  · grobner
  · rfl
theorem map_ifs (f o : Bool) (x x2 y1 y2 : Fp) (X Y : Fp) (hX : X = if f then x else x2) (hY : Y = if o then 0 - (if f then y1 else y2) else (if f then y1 else y2)) :
    (.agg #[.int .u64 (if f then fv x else fv x2), .int .u64 (if o then (if f then fv (0 - y1) else fv (0 - y2)) else (if f then fv y1 else fv y2)), .bool false] : Value) = .agg #[.int .u64 (fv X), .int .u64 (fv Y), .bool false] := by
  subst hX hY
  cases f <;> cases o <;> rfl
theorem map_Y (u : Fp) : mYo u = if (fv u % 2 == 1) then 0 - (if rtB (crv (mX u)) then rtV (crv (mX u)) else rtV (crv (mS u * mX u))) else (if rtB (crv (mX u)) then rtV (crv (mX u)) else rtV (crv (mS u * mX u))) := by
  unfold mYo mYY mXX
  cases rtB (crv (mX u)) <;> simp
theorem fv_ng0 (y : Fp) : (2305843009213693951 - fv y) % 2305843009213693951 = fv (0 - y) := by
  have h := val_lt y
  unfold fv
  rw [Fin.val_sub]
  show _ = (((2305843009213693951 - y.val + 0) % 2305843009213693951 : Nat) : Int)
  omega
theorem n111 : (0 - 111 : Fp) = 2305843009213693840 := by decide
theorem nm3 : (0 - 3 : Fp) = 2305843009213693948 := by decide
theorem rdZ (w : World) : Calls Tryz.prog 135 #[.int .u64 2305843009213693949, .agg #[]] w fun e w' => e = .returned (.agg #[.int .u64 (fv 2305843009213693949)]) ∧ Below w.heap.size w w' := rdV 2305843009213693949 w
theorem mapI_in (u : Fp) (w : World) :
    Calls Tryz.prog 166 #[.agg #[.int .u64 (fv u)]] w fun e w' => e = .returned (.agg #[.int .u64 (fv (mXX u)), .int .u64 (fv (mYo u)), .bool false]) ∧ Below w.heap.size w w' := by
  have es : (2305843009213693949 : Fp) * u * u = mS u := by unfold mS; grobner
  have et : mS u * mS u + mS u = mT u := rfl
  rw [← map_ifs (rtB (crv (mX u))) (fv u % 2 == 1) (mX u) (mS u * mX u) (rtV (crv (mX u))) (rtV (crv (mS u * mX u))) (mXX u) (mYo u) rfl (map_Y u)]
  by_cases ht : mT u = 0
  · have ex : (111 : Fp) * fi (2305843009213693949 * (0 - 3)) = mX u := by rw [mX, if_pos ht, nm3]
    have h1 := tmV (2305843009213693949 * u) u
    rw [es] at h1
    have h2 := plV (mS u * mS u) (mS u)
    rw [et] at h2
    have h3 := tmV 111 (fi (2305843009213693949 * (0 - 3)))
    rw [ex] at h3
    exact mapB_of (fv u) (fv 3) (fv (0 - 3)) (fv 111) (fv 2305843009213693949) (fv (2305843009213693949 * u)) (fv (mS u)) (fv (mS u * mS u)) (fv (mT u)) (fv (2305843009213693949 * (0 - 3))) (fv (fi (2305843009213693949 * (0 - 3)))) (fv (mX u))
      (fv (crv (mX u))) (fv (rtV (crv (mX u)))) (fv (mS u * mX u)) (fv (crv (mS u * mX u))) (fv (rtV (crv (mS u * mX u)))) (fv (0 - rtV (crv (mX u)))) (fv (0 - rtV (crv (mS u * mX u)))) _ _ _ w
      rd3 (ngV 3) rd111 rdZ (tmV 2305843009213693949 u) h1 (tmV (mS u) (mS u)) h2 (tmV 2305843009213693949 (0 - 3)) (ivV (2305843009213693949 * (0 - 3))) h3
      (by rw [fv_zero]; simp [ht]) (fv_ge u) rfl (csqV (mX u)) (rtI (crv (mX u))) (tmV (mS u) (mX u)) (csqV (mS u * mX u)) (rtI (crv (mS u * mX u))) (ngV (rtV (crv (mX u)))) (ngV (rtV (crv (mS u * mX u))))
  · have ex : (fi (mT u) + 1) * (0 - 111) * fi (0 - 3) = mX u := by rw [mX, if_neg ht, nm3, n111]; grobner
    have h1 := tmV (2305843009213693949 * u) u
    rw [es] at h1
    have h2 := plV (mS u * mS u) (mS u)
    rw [et] at h2
    have h3 := tmV ((fi (mT u) + 1) * (0 - 111)) (fi (0 - 3))
    rw [ex] at h3
    exact mapA_of (fv u) (fv 3) (fv (0 - 3)) (fv 111) (fv 2305843009213693949) (fv (2305843009213693949 * u)) (fv (mS u)) (fv (mS u * mS u)) (fv (mT u)) (fv (fi (mT u))) (fv 1) (fv (fi (mT u) + 1)) (fv (0 - 111)) (fv ((fi (mT u) + 1) * (0 - 111))) (fv (fi (0 - 3))) (fv (mX u))
      (fv (crv (mX u))) (fv (rtV (crv (mX u)))) (fv (mS u * mX u)) (fv (crv (mS u * mX u))) (fv (rtV (crv (mS u * mX u)))) (fv (0 - rtV (crv (mX u)))) (fv (0 - rtV (crv (mS u * mX u)))) _ _ _ w
      rd3 (ngV 3) rd111 rdZ (tmV 2305843009213693949 u) h1 (tmV (mS u) (mS u)) h2 (ivV (mT u)) rd1 (plV (fi (mT u)) 1) (ngV 111) (tmV (fi (mT u) + 1) (0 - 111)) (ivV (0 - 3)) h3
      (by rw [fv_zero]; simp [ht]) (fv_ge u) rfl (csqV (mX u)) (rtI (crv (mX u))) (tmV (mS u) (mX u)) (csqV (mS u * mX u)) (rtI (crv (mS u * mX u))) (ngV (rtV (crv (mX u)))) (ngV (rtV (crv (mS u * mX u))))
/-- a word as a number of the field -/
def toF (v : Nat) : Fp := Fin.ofNat _ v
theorem toF_val (v : Nat) : ((v : Int)).tmod 2305843009213693951 = fv (toF v) := by
  rw [Int.tmod_eq_emod_of_nonneg (by omega)]
  rfl
theorem mapS_any (v : Nat) (w : World) :
    Calls Tryz.prog 113 #[.int .u64 v] w fun e w' => e = .returned (.agg #[.int .u64 (fv (mXX (toF v))), .int .u64 (fv (mYo (toF v))), .bool false]) ∧ Below w.heap.size w w' := by
  obtain ⟨u, hu⟩ : ∃ u, u = toF v := ⟨_, rfl⟩
  have hv := toF_val v
  rw [← hu] at hv ⊢
  have et : mS u * mS u + mS u = mT u := rfl
  rw [← map_ifs (rtB (crv (mX u))) (fv u % 2 == 1) (mX u) (mS u * mX u) (rtV (crv (mX u))) (rtV (crv (mS u * mX u))) (mXX u) (mYo u) rfl (map_Y u)]
  have h2 := vadd (mS u * mS u) (mS u)
  rw [et] at h2
  refine mapS_of v (fv u) (fv (u * u)) (fv (mS u)) (fv (mS u * mS u)) (fv (mT u)) (fv (2305843009213693949 * 2305843009213693948)) (fv (fi (2305843009213693949 * 2305843009213693948))) (fv (111 * fi (2305843009213693949 * 2305843009213693948)))
    (fv (fi 2305843009213693948)) (fv (2305843009213693840 * fi 2305843009213693948)) (fv (fi (mT u))) (fv (1 + fi (mT u))) (fv (2305843009213693840 * fi 2305843009213693948 * (1 + fi (mT u)))) (fv (mX u))
    (fv (crv (mX u))) (fv (rtV (crv (mX u)))) (fv (mS u * mX u)) (fv (crv (mS u * mX u))) (fv (rtV (crv (mS u * mX u)))) (fv (0 - rtV (crv (mX u)))) (fv (0 - rtV (crv (mS u * mX u)))) _ _ _ (decide (mT u = 0)) w
    hv (fv_ge u) rfl (fv_zero _) ?_ (fv_ng0 _) (fv_ng0 _) (fv_ge _) (fv_lt _) (fv_ge _) (fv_lt _)
    (vmul u u) (vmul 2305843009213693949 (u * u)) (vmul (mS u) (mS u)) h2 (vmul 2305843009213693949 2305843009213693948) (vinv (2305843009213693949 * 2305843009213693948)) (vmul 111 (fi (2305843009213693949 * 2305843009213693948)))
    (vinv 2305843009213693948) (vmul 2305843009213693840 (fi 2305843009213693948)) (vinv (mT u)) (vadd 1 (fi (mT u))) (vmul (2305843009213693840 * fi 2305843009213693948) (1 + fi (mT u))) (vmul (mS u) (mX u))
    (rightS (mX u)) (rightS (mS u * mX u)) (rtS (crv (mX u))) (rtS (crv (mS u * mX u)))
  unfold mX
  by_cases ht : mT u = 0
  · rw [if_pos ht, if_pos (by simp [ht])]
  · rw [if_neg ht, if_neg (by simp [ht])]

end Go.Proofs.YtjmhmajfkdglnaaGreatDoor

namespace Go.Proofs.YtjmhmajfkdglnaaGreatDoor
open Go.RowKit M
set_option linter.unusedVariables false

section
variable {ev : Operand → Value} {w : World} {dst : Option Tmp} {ty : TypeId} {ps : String} {af : Array Edge} {gd : Option (Nat × Bool)} {x y : Operand} {b i : Nat} {X Y X0 Y0 : Int} {c c0 : Bool}
theorem execM_storeP (hx : ev x = .pointer (some ⟨b, 0, none⟩)) (hy : ev y = .agg #[.int .u64 X, .int .u64 Y, .bool c]) (hr : K3 w 28 b X0 Y0 c0) :
    (execOp ev { dst := dst, op := .store 28 x y, type := ty, pos := ps, after := af, guard := gd }).run Tryz.prog w = .ok .skip (set3 w b X Y c) := by
  have h1 := hr.c0
  have h2 := hr.c1
  have h3 := hr.c2
  have h4 := hr.frz
  simp [execOp, hx, hy, h1, h2, h3, h4, go_sem, set3]
theorem execM_idxW {g n cap k : Nat} (hx : ev x = .slice (some ⟨g, 0, none⟩) n cap) (hy : ev y = .int .i64 (k : Int)) (hk : k < n) :
    (execOp ev { dst := dst, op := .indexAddr 158 x y, type := ty, pos := ps, after := af, guard := gd }).run Tryz.prog w = .ok (.value (.pointer (some ⟨g, k, none⟩))) w := by
  have h2 : (k : Int) < (n : Int) := by omega
  simp [execOp, hx, hy, h2, go_sem]
end
section
variable {A : Act} {w W0 : World} {dst : Option Tmp} {ty : TypeId} {ps : String} {af : Array Edge} {gd : Option (Nat × Bool)} {x y : Operand} {b i : Nat}
set_option maxRecDepth 100000
theorem doS_idx {g n cap k : Nat} (hx : A.eval x = .slice (some ⟨g, 0, none⟩) n cap) (hy : A.eval y = .int .i64 (k : Int)) (hk : k < n) :
    Does Tryz.prog { dst := dst, op := .indexAddr 158 x y, type := ty, pos := ps, after := af, guard := gd } A w fun v' w' => v' = .pointer (some ⟨g, k, none⟩) ∧ Below w.heap.size w w' := by
  have h := execM_idxW (ev := A.eval) (w := w) (dst := dst) (ty := ty) (ps := ps) (af := af) (gd := gd) hx hy hk
  exact does_value h ⟨rfl, Below.refl _ _⟩
end
theorem cf_mapS (args : Array Value) (w : World) : (callFunc 113 args).run Tryz.prog w = .ok (.enter 113 args) w := by kernel_rfl
theorem cf_sum (args : Array Value) (w : World) : (callFunc 42 args).run Tryz.prog w = .ok (.enter 42 args) w := by kernel_rfl
theorem ptt_res {W : World} {b : Nat} {x y : Int} {c : Bool} {fn : Func} {p u : Tmp} (h : fn.results = #[.cell p 28, .tmp u]) (tmps : Array Value) (hp : tmps.getD p undef = .pointer (some ⟨b, 0, none⟩)) (hc : K3 W 28 b x y c) :
    (results fn tmps).run Tryz.prog W = .ok (.tuple #[.agg #[.int .u64 x, .int .u64 y, .bool c], tmps.getD u undef]) W := by
  have hp' : tmps[p]?.getD undef = .pointer (some ⟨b, 0, none⟩) := by simpa using hp
  simp [results, h, hp', asAddr, run_loadVar_mid W b 0 28 [.int .u64 x, .int .u64 y, .bool c] _ hc.range Tryz.underlying28 rfl (by kernel_rfl)]
/-- the point of a message -/
noncomputable def mapP (u : Nat) : Pt := some (mXX (toF u), mYo (toF u))
theorem mapP_on (u : Nat) : on (mapP u) := map_on (toF u)
noncomputable def hPt (msg tag : ByteArray) : Pt := ad (mapP (hNum msg tag 2305843009213693951 2 0)) (mapP (hNum msg tag 2305843009213693951 2 1))

set_option maxRecDepth 100000 in
set_option maxHeartbeats 4000000 in
theorem h2gS_of (msg tag : ByteArray) (H : List Int) (u0 u1 ax ay dx dy sx sy : Int) (ac dc sc : Bool) (w : World)
    (X : ∀ w, Calls Tryz.prog 112 #[.string msg, .string tag, .int .u64 2305843009213693951, .int .i64 2] w fun e w' => ∃ g cap, e = .returned (.tuple #[.slice (some ⟨g, 0, none⟩) 2 cap, .bool true]) ∧ Row w' w.heap.size g 2 cap (H.map (Value.int .u64)) ∧ Below w.heap.size w w')
    (h0 : lk H 0 = u0) (h1 : lk H 1 = u1)
    (M0 : ∀ w, Calls Tryz.prog 113 #[.int .u64 u0] w fun e w' => e = .returned (.agg #[.int .u64 ax, .int .u64 ay, .bool ac]) ∧ Below w.heap.size w w')
    (M1 : ∀ w, Calls Tryz.prog 113 #[.int .u64 u1] w fun e w' => e = .returned (.agg #[.int .u64 dx, .int .u64 dy, .bool dc]) ∧ Below w.heap.size w w')
    (SU : ∀ w, Calls Tryz.prog 42 #[.agg #[.int .u64 ax, .int .u64 ay, .bool ac], .agg #[.int .u64 dx, .int .u64 dy, .bool dc]] w fun e w' => e = .returned (.agg #[.int .u64 sx, .int .u64 sy, .bool sc]) ∧ Below w.heap.size w w') :
    Calls Tryz.prog 70 #[.string msg, .string tag] w fun e w' => e = .returned (.tuple #[.agg #[.int .u64 sx, .int .u64 sy, .bool sc], .bool true]) ∧ Below w.heap.size w w' := by
  have hr := K3.new w 28 0 0 false
  have hb := (Below.refl _ w).alloc (Nat.le_refl _) (Obj.cells #[.int .u64 0, .int .u64 0, .bool false] 28)
  go_enter Tryz.func70, Tryz.ntmps70
  go_wp2_with fail
  refine (X _).mono ?_
  rintro e W1 ⟨g, cap, rfl, hrow, b1⟩
  replace hr := hr.keep b1
  replace hb := hb.trans (b1.mono hb.size)
  have c0 := hrow.drew.cell 0 (by omega)
  have c1 := hrow.drew.cell 1 (by omega)
  rw [h0] at c0
  rw [h1] at c1
  clear X hrow b1
  go_wp2
  refine pool_pre 9 [.val (.slice (some ⟨g, 0, none⟩) 2 cap),
      .val (.pointer (some ⟨g, 0, none⟩)),
      .val (.int .u64 u0),
      .val (.agg #[.int .u64 ax, .int .u64 ay, .bool ac]),
      .val (.slice (some ⟨g, 0, none⟩) 2 cap),
      .val (.pointer (some ⟨g, 1, none⟩)),
      .val (.int .u64 u1),
      .val (.agg #[.int .u64 dx, .int .u64 dy, .bool dc]),
      .val (.agg #[.int .u64 sx, .int .u64 sy, .bool sc])] [[6], [17], [18], [19], [6], [21], [22], [23], [20, 24]] (fun f => [(some 17, .slice (some ⟨g, 0, none⟩) 2 cap), (some 18, .pointer (some ⟨g, 0, none⟩)), (some 19, .int .u64 u0), (some 20, .agg #[.int .u64 ax, .int .u64 ay, .bool ac]), (some 21, .slice (some ⟨g, 0, none⟩) 2 cap), (some 22, .pointer (some ⟨g, 1, none⟩)), (some 23, .int .u64 u1), (some 24, .agg #[.int .u64 dx, .int .u64 dy, .bool dc]), (some 25, .agg #[.int .u64 sx, .int .u64 sy, .bool sc])]) (by kernel_rfl) (by kernel_rfl) (by kernel_rfl) (by kernel_rfl) (by decide) (by kernel_rfl) (fun _ => by kernel_rfl) ?_ ?_
  · intro ix hix
    match ix, hix with
    | 0, _ => exact ob_val [(6, .slice (some ⟨g, 0, none⟩) 2 cap)] rfl rfl (fun _ => by kernel_rfl) (fun A w ⟨e0, _⟩ hB => doS_move e0)
    | 1, _ => exact ob_val [(17, .slice (some ⟨g, 0, none⟩) 2 cap)] rfl rfl (fun _ => by kernel_rfl) (fun A w ⟨e0, _⟩ hB => doS_idx (k := 0) e0 rfl (by decide))
    | 2, _ => exact ob_val [(18, .pointer (some ⟨g, 0, none⟩))] rfl rfl (fun _ => by kernel_rfl) (fun A w ⟨e0, _⟩ hB => doS_loadW e0 (keepA c0 hB))
    | 3, _ => exact ob_val [(19, .int .u64 u0)] rfl rfl (fun _ => by kernel_rfl) (fun A w ⟨e0, _⟩ hB => doS_call1 cf_mapS e0 (M0 w))
    | 4, _ => exact ob_val [(6, .slice (some ⟨g, 0, none⟩) 2 cap)] rfl rfl (fun _ => by kernel_rfl) (fun A w ⟨e0, _⟩ hB => doS_move e0)
    | 5, _ => exact ob_val [(21, .slice (some ⟨g, 0, none⟩) 2 cap)] rfl rfl (fun _ => by kernel_rfl) (fun A w ⟨e0, _⟩ hB => doS_idx (k := 1) e0 rfl (by decide))
    | 6, _ => exact ob_val [(22, .pointer (some ⟨g, 1, none⟩))] rfl rfl (fun _ => by kernel_rfl) (fun A w ⟨e0, _⟩ hB => doS_loadW e0 (keepA c1 hB))
    | 7, _ => exact ob_val [(23, .int .u64 u1)] rfl rfl (fun _ => by kernel_rfl) (fun A w ⟨e0, _⟩ hB => doS_call1 cf_mapS e0 (M1 w))
    | 8, _ => exact ob_val [(20, .agg #[.int .u64 ax, .int .u64 ay, .bool ac]), (24, .agg #[.int .u64 dx, .int .u64 dy, .bool dc])] rfl rfl (fun _ => by kernel_rfl) (fun A w ⟨e0, e1, _⟩ hB => doS_call2 cf_sum e0 e1 (SU w))
    | ix + 9, h => exact absurd h (by simp)
  intro f w4 hB _ fuel hfuel
  replace hr := hr.drew.keep hB
  replace hb := hb.drew.trans (hB.mono hb.size)
  simp only [puts, List.foldl, Act.put, List.setIfInBounds_toArray, List.set_cons_zero, List.set_cons_succ]
  refine last_seq (vq := .bool true) 9 10 hfuel (by kernel_rfl) (by kernel_rfl) (by kernel_rfl) rfl rfl rfl rfl rfl (some 5) rfl (does_skip (execM_storeP rfl rfl hr) rfl) (fun w => does_value (execS_assign rfl) ⟨rfl, rfl⟩) ?_
  simp only [Act.put, List.setIfInBounds_toArray, List.set_cons_zero, List.set_cons_succ]
  go_wp2
  exact bodyPost_ret (v := .tuple #[.agg #[.int .u64 sx, .int .u64 sy, .bool sc], .bool true]) (ptt_res (fn := Tryz.f70) (p := 4) (u := 5) Tryz.results70 _ rfl (hr.set sx sy sc)) rfl ⟨rfl, set3_below hb (Nat.le_refl _)⟩
theorem h2gS_yes (msg tag : ByteArray) (w : World) (h : okT msg tag) :
    Calls Tryz.prog 70 #[.string msg, .string tag] w fun e w' => e = .returned (.tuple #[ptW (hPt msg tag), .bool true]) ∧ Below w.heap.size w w' := by
  rw [ptW_eq]
  exact h2gS_of msg tag (h2f (byt msg) (byt tag) 2305843009213693951 2) _ _ _ _ _ _ _ _ _ _ _ w (fun w => h2fS_yes msg tag 2305843009213693951 2 w (by decide) ((okT_H (by decide) (by decide) (by decide)).1 h))
    (h2f_at msg tag 2305843009213693951 2 0 (by omega)) (h2f_at msg tag 2305843009213693951 2 1 (by omega)) (fun w => mapS_any _ w) (fun w => mapS_any _ w) (fun w => sumS_xyz (mapP _) (mapP _) w)
set_option maxRecDepth 100000 in
set_option maxHeartbeats 2000000 in
theorem h2gS_no (msg tag : ByteArray) (w : World) (h : ¬ okT msg tag) :
    Calls Tryz.prog 70 #[.string msg, .string tag] w fun e w' => e = .returned (.tuple #[.agg #[.int .u64 0, .int .u64 0, .bool true], .bool false]) ∧ Below w.heap.size w w' := by
  have X : ∀ w, Calls Tryz.prog 112 #[.string msg, .string tag, .int .u64 2305843009213693951, .int .i64 2] w fun e w' => ∃ g cap, e = .returned (.tuple #[.slice (some ⟨g, 0, none⟩) 0 cap, .bool false]) ∧ Row w' w.heap.size g 0 cap [] ∧ Below w.heap.size w w' :=
    fun w => h2fS_no msg tag 2305843009213693951 2 w (fun hh => h ((okT_H (by decide) (by decide) (by decide)).2 hh))
  have hr := K3.new w 28 0 0 false
  have hb := (Below.refl _ w).alloc (Nat.le_refl _) (Obj.cells #[.int .u64 0, .int .u64 0, .bool false] 28)
  go_enter Tryz.func70, Tryz.ntmps70
  go_wp2_with fail
  refine (X _).mono ?_
  rintro e W1 ⟨g, cap, rfl, hrow, b1⟩
  replace hr := hr.keep b1
  replace hb := hb.trans (b1.mono hb.size)
  clear X hrow b1
  go_wp2_with fail
  refine (zeroS _).mono ?_
  rintro e w2 ⟨rfl, rfl⟩
  replace hr := hr.alloc (Obj.cells #[.int .u64 0, .int .u64 0, .bool true] 28)
  replace hb := hb.alloc hb.size (Obj.cells #[.int .u64 0, .int .u64 0, .bool true] 28)
  have k0 := hr.c0
  have k1 := hr.c1
  have k2 := hr.c2
  have kf := hr.frz
  go_wp2
  exact bodyPost_ret (v := .tuple #[.agg #[.int .u64 0, .int .u64 0, .bool true], .bool false]) (ptt_res (fn := Tryz.f70) (p := 4) (u := 5) Tryz.results70 _ rfl (hr.set 0 0 true)) rfl ⟨rfl, set3_below hb (Nat.le_refl _)⟩
end Go.Proofs.YtjmhmajfkdglnaaGreatDoor
