import Derived.Test.YtenggagjgmonoaaDoorMrg28
import Derived.Test.YtenggagjgmonoaaDoorMrg24
import Derived.Test.YtenggagjgmonoaaDoorMrg30
import Derived.Test.YtenggagjgmonoaaDoorMrg31
namespace Go.Proofs.YtenggagjgmonoaaDoor
open Go.RowKit M
set_option linter.unusedVariables false

set_option maxRecDepth 100000 in
set_option maxHeartbeats 4000000 in
theorem mapS_of (V U u2 s s2 t za iz x0 ia m1 it p1 x1 x g1 y1 x2 g2 y2 n1 n2 : Int) (fd fd2 od tz : Bool) (w : World)
    (hV : V.tmod 2305843009213693951 = U) (hU : 0 ≤ U) (ho : (U % 2 == 1) = od) (ht : (t == 0) = tz) (hx : x = if tz then x0 else x1)
    (hn1 : (2305843009213693951 - y1) % 2305843009213693951 = n1) (hn2 : (2305843009213693951 - y2) % 2305843009213693951 = n2) (hy1 : 0 ≤ y1) (hy1' : y1 < 2305843009213693951) (hy2 : 0 ≤ y2) (hy2' : y2 < 2305843009213693951)
    (L1 : ∀ w, Calls Tryd.prog 43 #[.int .u64 U, .int .u64 U] w fun e w' => e = .returned (.int .u64 u2) ∧ w = w')
    (L2 : ∀ w, Calls Tryd.prog 43 #[.int .u64 2305843009213693949, .int .u64 u2] w fun e w' => e = .returned (.int .u64 s) ∧ w = w')
    (L3 : ∀ w, Calls Tryd.prog 43 #[.int .u64 s, .int .u64 s] w fun e w' => e = .returned (.int .u64 s2) ∧ w = w')
    (L4 : ∀ w, Calls Tryd.prog 39 #[.int .u64 s2, .int .u64 s, .int .u64 2305843009213693951] w fun e w' => e = .returned (.int .u64 t) ∧ w = w')
    (L5 : ∀ w, Calls Tryd.prog 43 #[.int .u64 2305843009213693949, .int .u64 2305843009213693948] w fun e w' => e = .returned (.int .u64 za) ∧ w = w')
    (L6 : ∀ w, Calls Tryd.prog 44 #[.int .u64 za, .int .u64 2305843009213693951] w fun e w' => e = .returned (.int .u64 iz) ∧ w = w')
    (L7 : ∀ w, Calls Tryd.prog 43 #[.int .u64 111, .int .u64 iz] w fun e w' => e = .returned (.int .u64 x0) ∧ w = w')
    (L8 : ∀ w, Calls Tryd.prog 44 #[.int .u64 2305843009213693948, .int .u64 2305843009213693951] w fun e w' => e = .returned (.int .u64 ia) ∧ w = w')
    (L9 : ∀ w, Calls Tryd.prog 43 #[.int .u64 2305843009213693840, .int .u64 ia] w fun e w' => e = .returned (.int .u64 m1) ∧ w = w')
    (L10 : ∀ w, Calls Tryd.prog 44 #[.int .u64 t, .int .u64 2305843009213693951] w fun e w' => e = .returned (.int .u64 it) ∧ w = w')
    (L11 : ∀ w, Calls Tryd.prog 39 #[.int .u64 1, .int .u64 it, .int .u64 2305843009213693951] w fun e w' => e = .returned (.int .u64 p1) ∧ w = w')
    (L12 : ∀ w, Calls Tryd.prog 43 #[.int .u64 m1, .int .u64 p1] w fun e w' => e = .returned (.int .u64 x1) ∧ w = w')
    (L13 : ∀ w, Calls Tryd.prog 43 #[.int .u64 s, .int .u64 x] w fun e w' => e = .returned (.int .u64 x2) ∧ w = w')
    (R1 : ∀ w, Calls Tryd.prog 46 #[.int .u64 x] w fun e w' => e = .returned (.int .u64 g1) ∧ w = w')
    (R2 : ∀ w, Calls Tryd.prog 46 #[.int .u64 x2] w fun e w' => e = .returned (.int .u64 g2) ∧ w = w')
    (Q1 : ∀ w, Calls Tryd.prog 45 #[.int .u64 g1] w fun e w' => e = .returned (.tuple #[.int .u64 y1, .bool fd]) ∧ w = w')
    (Q2 : ∀ w, Calls Tryd.prog 45 #[.int .u64 g2] w fun e w' => e = .returned (.tuple #[.int .u64 y2, .bool fd2]) ∧ w = w') :
    Calls Tryd.prog 28 #[.int .u64 V] w fun e w' => e = .returned (.agg #[.int .u64 (if fd then x else x2), .int .u64 (if od then (if fd then n1 else n2) else (if fd then y1 else y2)), .bool false]) ∧ Below w.heap.size w w' := by
  have z1 : 0 ≤ 2305843009213693951 - y1 := by omega
  have z2 : 2305843009213693951 - y1 < 18446744073709551616 := by omega
  have z3 : 0 ≤ 2305843009213693951 - y2 := by omega
  have z4 : 2305843009213693951 - y2 < 18446744073709551616 := by omega
  go_enter Tryd.func28, Tryd.ntmps28
  go_wp2_with fail
  refine (L1 _).mono ?_
  rintro e w' ⟨rfl, rfl⟩
  go_wp2_with fail
  refine (L2 _).mono ?_
  rintro e w' ⟨rfl, rfl⟩
  go_wp2_with fail
  refine (L3 _).mono ?_
  rintro e w' ⟨rfl, rfl⟩
  go_wp2_with fail
  refine (L4 _).mono ?_
  rintro e w' ⟨rfl, rfl⟩
  go_wp2_with fail
  refine (L5 _).mono ?_
  rintro e w' ⟨rfl, rfl⟩
  go_wp2_with fail
  refine (L6 _).mono ?_
  rintro e w' ⟨rfl, rfl⟩
  go_wp2_with fail
  refine (L7 _).mono ?_
  rintro e w' ⟨rfl, rfl⟩
  clear L1 L2 L3 L4 L5 L6 L7
  cases tz with
  | true =>
    simp only [if_true] at hx
    subst hx
    go_wp2_with fail
    refine (R1 _).mono ?_
    rintro e w' ⟨rfl, rfl⟩
    go_wp2_with fail
    refine (Q1 _).mono ?_
    rintro e w' ⟨rfl, rfl⟩
    cases fd with
    | true =>
      cases od with
      | true =>
        go_wp2
        exact bodyPost_ret (by simp [results, Tryd.results28, go_sem]) rfl ⟨rfl, (Below.refl _ _).alloc (Nat.le_refl _) _⟩
      | false =>
        go_wp2
        exact bodyPost_ret (by simp [results, Tryd.results28, go_sem]) rfl ⟨rfl, (Below.refl _ _).alloc (Nat.le_refl _) _⟩
    | false =>
      go_wp2_with fail
      refine (L13 _).mono ?_
      rintro e w' ⟨rfl, rfl⟩
      go_wp2_with fail
      refine (R2 _).mono ?_
      rintro e w' ⟨rfl, rfl⟩
      go_wp2_with fail
      refine (Q2 _).mono ?_
      rintro e w' ⟨rfl, rfl⟩
      cases od with
      | true =>
        go_wp2
        exact bodyPost_ret (by simp [results, Tryd.results28, go_sem]) rfl ⟨rfl, (Below.refl _ _).alloc (Nat.le_refl _) _⟩
      | false =>
        go_wp2
        exact bodyPost_ret (by simp [results, Tryd.results28, go_sem]) rfl ⟨rfl, (Below.refl _ _).alloc (Nat.le_refl _) _⟩
  | false =>
    simp only [if_false, Bool.false_eq_true] at hx
    subst hx
    go_wp2_with fail
    refine (L8 _).mono ?_
    rintro e w' ⟨rfl, rfl⟩
    go_wp2_with fail
    refine (L9 _).mono ?_
    rintro e w' ⟨rfl, rfl⟩
    go_wp2_with fail
    refine (L10 _).mono ?_
    rintro e w' ⟨rfl, rfl⟩
    go_wp2_with fail
    refine (L11 _).mono ?_
    rintro e w' ⟨rfl, rfl⟩
    go_wp2_with fail
    refine (L12 _).mono ?_
    rintro e w' ⟨rfl, rfl⟩
    go_wp2_with fail
    refine (R1 _).mono ?_
    rintro e w' ⟨rfl, rfl⟩
    go_wp2_with fail
    refine (Q1 _).mono ?_
    rintro e w' ⟨rfl, rfl⟩
    cases fd with
    | true =>
      cases od with
      | true =>
        go_wp2
        exact bodyPost_ret (by simp [results, Tryd.results28, go_sem]) rfl ⟨rfl, (Below.refl _ _).alloc (Nat.le_refl _) _⟩
      | false =>
        go_wp2
        exact bodyPost_ret (by simp [results, Tryd.results28, go_sem]) rfl ⟨rfl, (Below.refl _ _).alloc (Nat.le_refl _) _⟩
    | false =>
      go_wp2_with fail
      refine (L13 _).mono ?_
      rintro e w' ⟨rfl, rfl⟩
      go_wp2_with fail
      refine (R2 _).mono ?_
      rintro e w' ⟨rfl, rfl⟩
      go_wp2_with fail
      refine (Q2 _).mono ?_
      rintro e w' ⟨rfl, rfl⟩
      cases od with
      | true =>
        go_wp2
        exact bodyPost_ret (by simp [results, Tryd.results28, go_sem]) rfl ⟨rfl, (Below.refl _ _).alloc (Nat.le_refl _) _⟩
      | false =>
        go_wp2
        exact bodyPost_ret (by simp [results, Tryd.results28, go_sem]) rfl ⟨rfl, (Below.refl _ _).alloc (Nat.le_refl _) _⟩
end Go.Proofs.YtenggagjgmonoaaDoor

namespace Go.Proofs.YtenggagjgmonoaaDoor
open Go.RowKit M
set_option linter.unusedVariables false

theorem rt_ex (x : Fp) : ∃ rb : Fp × Bool,
    (∀ w, Calls Tryd.prog 45 #[.int .u64 (fv x)] w fun e w' => e = .returned (.tuple #[.int .u64 (fv rb.1), .bool rb.2]) ∧ w = w') ∧
    (∀ w, Calls Tryd.prog 70 #[.agg #[.int .u64 (fv x)]] w fun e w' => e = .returned (.tuple #[.agg #[.int .u64 (fv rb.1)], .bool rb.2]) ∧ Below w.heap.size w w') ∧
    (rb.2 = false → ∀ y : Fp, y * y ≠ x) ∧ (rb.2 = true → rb.1 * rb.1 = x) := by
  obtain ⟨r, b, h1, h2, h3, h4, h5⟩ := ev_both x.val (val_lt x)
  refine ⟨(⟨r, h3⟩, b), h1, h2, fun hb y hy => (h4 hb).2 y.val ?_, fun hb => ?_⟩
  · rw [← hy, Fin.val_mul]
  · apply Fin.ext
    rw [Fin.val_mul]
    exact (h5 hb).2
/-- the even root of a number of the field, if it has one -/
noncomputable def rtV (x : Fp) : Fp := (Classical.choose (rt_ex x)).1
noncomputable def rtB (x : Fp) : Bool := (Classical.choose (rt_ex x)).2
theorem rtS (x : Fp) (w : World) : Calls Tryd.prog 45 #[.int .u64 (fv x)] w fun e w' => e = .returned (.tuple #[.int .u64 (fv (rtV x)), .bool (rtB x)]) ∧ w = w' := (Classical.choose_spec (rt_ex x)).1 w
theorem rtI (x : Fp) (w : World) : Calls Tryd.prog 70 #[.agg #[.int .u64 (fv x)]] w fun e w' => e = .returned (.tuple #[.agg #[.int .u64 (fv (rtV x))], .bool (rtB x)]) ∧ Below w.heap.size w w' := (Classical.choose_spec (rt_ex x)).2.1 w
theorem rt_no (x : Fp) (h : rtB x = false) (y : Fp) : y * y ≠ x := (Classical.choose_spec (rt_ex x)).2.2.1 h y
theorem rt_yes (x : Fp) (h : rtB x = true) : rtV x * rtV x = x := (Classical.choose_spec (rt_ex x)).2.2.2 h

/-- the map -/
noncomputable def mXX (u : Fp) : Fp := if rtB (crv (mX u)) then mX u else mS u * mX u
noncomputable def mYY (u : Fp) : Fp := rtV (crv (mXX u))
noncomputable def mYo (u : Fp) : Fp := if (fv u % 2 == 1) then 0 - mYY u else mYY u
theorem mXX_sq (u : Fp) : mYY u * mYY u = crv (mXX u) := by
  apply rt_yes
  unfold mXX
  cases h : rtB (crv (mX u)) with
  | true => rw [if_pos rfl]; exact h
  | false =>
    rw [if_neg (by simp)]
    rcases has_one u with ⟨y, hy⟩ | ⟨y, hy⟩
    · exact absurd hy (rt_no _ h y)
    · cases h2 : rtB (crv (mS u * mX u)) with
      | true => rfl
      | false => exact absurd hy (rt_no _ h2 y)
theorem map_on (u : Fp) : on (some (mXX u, mYo u)) := by
  show mYo u * mYo u = crv (mXX u)
  rw [← mXX_sq]
  unfold mYo
  split
  · grobner
  · rfl
theorem map_ifs (f o : Bool) (x x2 y1 y2 : Fp) (X Y : Fp) (hX : X = if f then x else x2) (hY : Y = if o then 0 - (if f then y1 else y2) else (if f then y1 else y2)) :
    (.agg #[.int .u64 (if f then fv x else fv x2), .int .u64 (if o then (if f then fv (0 - y1) else fv (0 - y2)) else (if f then fv y1 else fv y2)), .bool false] : Value) = .agg #[.int .u64 (fv X), .int .u64 (fv Y), .bool false] := by
  subst hX hY
  cases f <;> cases o <;> rfl
theorem map_Y (u : Fp) : mYo u = if (fv u % 2 == 1) then 0 - (if rtB (crv (mX u)) then rtV (crv (mX u)) else rtV (crv (mS u * mX u))) else (if rtB (crv (mX u)) then rtV (crv (mX u)) else rtV (crv (mS u * mX u))) := by
  unfold mYo mYY mXX
  cases rtB (crv (mX u)) <;> simp
theorem fv_neg (y : Fp) : (2305843009213693951 - fv y) % 2305843009213693951 = fv (0 - y) := by
  have h := val_lt y
  unfold fv
  rw [Fin.val_sub]
  show _ = (((2305843009213693951 - y.val + 0) % 2305843009213693951 : Nat) : Int)
  omega
theorem n111 : (0 - 111 : Fp) = 2305843009213693840 := by decide
theorem nm3 : (0 - 3 : Fp) = 2305843009213693948 := by decide
theorem rdZ (w : World) : Calls Tryd.prog 65 #[.int .u64 2305843009213693949, .agg #[]] w fun e w' => e = .returned (.agg #[.int .u64 (fv 2305843009213693949)]) ∧ Below w.heap.size w w' := rdV 2305843009213693949 w
theorem mapI_in (u : Fp) (w : World) :
    Calls Tryd.prog 49 #[.agg #[.int .u64 (fv u)]] w fun e w' => e = .returned (.agg #[.int .u64 (fv (mXX u)), .int .u64 (fv (mYo u)), .bool false]) ∧ Below w.heap.size w w' := by
  have es : (2305843009213693949 : Fp) * u * u = mS u := by unfold mS; grobner
  have et : mS u * mS u + mS u = mT u := rfl
  rw [← map_ifs (rtB (crv (mX u))) (fv u % 2 == 1) (mX u) (mS u * mX u) (rtV (crv (mX u))) (rtV (crv (mS u * mX u))) (mXX u) (mYo u) rfl (map_Y u)]
  by_cases ht : mT u = 0
  · have ex : (111 : Fp) * fi (2305843009213693949 * (0 - 3)) = mX u := by rw [mX, if_pos ht, nm3]
    have h1 := tmV (2305843009213693949 * u) u
    rw [es] at h1
    have h2 := plV (mS u * mS u) (mS u)
    rw [et] at h2
    have h3 := tmV 111 (fi (2305843009213693949 * (0 - 3)))
    rw [ex] at h3
    exact mapB_of (fv u) (fv 3) (fv (0 - 3)) (fv 111) (fv 2305843009213693949) (fv (2305843009213693949 * u)) (fv (mS u)) (fv (mS u * mS u)) (fv (mT u)) (fv (2305843009213693949 * (0 - 3))) (fv (fi (2305843009213693949 * (0 - 3)))) (fv (mX u))
      (fv (crv (mX u))) (fv (rtV (crv (mX u)))) (fv (mS u * mX u)) (fv (crv (mS u * mX u))) (fv (rtV (crv (mS u * mX u)))) (fv (0 - rtV (crv (mX u)))) (fv (0 - rtV (crv (mS u * mX u)))) _ _ _ w
      rd3 (ngV 3) rd111 rdZ (tmV 2305843009213693949 u) h1 (tmV (mS u) (mS u)) h2 (tmV 2305843009213693949 (0 - 3)) (ivV (2305843009213693949 * (0 - 3))) h3
      (by rw [fv_zero]; simp [ht]) (fv_ge u) rfl (csqV (mX u)) (rtI (crv (mX u))) (tmV (mS u) (mX u)) (csqV (mS u * mX u)) (rtI (crv (mS u * mX u))) (ngV (rtV (crv (mX u)))) (ngV (rtV (crv (mS u * mX u))))
  · have ex : (fi (mT u) + 1) * (0 - 111) * fi (0 - 3) = mX u := by rw [mX, if_neg ht, nm3, n111]; grobner
    have h1 := tmV (2305843009213693949 * u) u
    rw [es] at h1
    have h2 := plV (mS u * mS u) (mS u)
    rw [et] at h2
    have h3 := tmV ((fi (mT u) + 1) * (0 - 111)) (fi (0 - 3))
    rw [ex] at h3
    exact mapA_of (fv u) (fv 3) (fv (0 - 3)) (fv 111) (fv 2305843009213693949) (fv (2305843009213693949 * u)) (fv (mS u)) (fv (mS u * mS u)) (fv (mT u)) (fv (fi (mT u))) (fv 1) (fv (fi (mT u) + 1)) (fv (0 - 111)) (fv ((fi (mT u) + 1) * (0 - 111))) (fv (fi (0 - 3))) (fv (mX u))
      (fv (crv (mX u))) (fv (rtV (crv (mX u)))) (fv (mS u * mX u)) (fv (crv (mS u * mX u))) (fv (rtV (crv (mS u * mX u)))) (fv (0 - rtV (crv (mX u)))) (fv (0 - rtV (crv (mS u * mX u)))) _ _ _ w
      rd3 (ngV 3) rd111 rdZ (tmV 2305843009213693949 u) h1 (tmV (mS u) (mS u)) h2 (ivV (mT u)) rd1 (plV (fi (mT u)) 1) (ngV 111) (tmV (fi (mT u) + 1) (0 - 111)) (ivV (0 - 3)) h3
      (by rw [fv_zero]; simp [ht]) (fv_ge u) rfl (csqV (mX u)) (rtI (crv (mX u))) (tmV (mS u) (mX u)) (csqV (mS u * mX u)) (rtI (crv (mS u * mX u))) (ngV (rtV (crv (mX u)))) (ngV (rtV (crv (mS u * mX u))))
/-- a word as a number of the field -/
def toF (v : Nat) : Fp := Fin.ofNat _ v
theorem toF_val (v : Nat) : ((v : Int)).tmod 2305843009213693951 = fv (toF v) := by
  rw [Int.tmod_eq_emod_of_nonneg (by omega)]
  rfl
theorem mapS_any (v : Nat) (w : World) :
    Calls Tryd.prog 28 #[.int .u64 v] w fun e w' => e = .returned (.agg #[.int .u64 (fv (mXX (toF v))), .int .u64 (fv (mYo (toF v))), .bool false]) ∧ Below w.heap.size w w' := by
  obtain ⟨u, hu⟩ : ∃ u, u = toF v := ⟨_, rfl⟩
  have hv := toF_val v
  rw [← hu] at hv ⊢
  have et : mS u * mS u + mS u = mT u := rfl
  rw [← map_ifs (rtB (crv (mX u))) (fv u % 2 == 1) (mX u) (mS u * mX u) (rtV (crv (mX u))) (rtV (crv (mS u * mX u))) (mXX u) (mYo u) rfl (map_Y u)]
  have h2 := vadd (mS u * mS u) (mS u)
  rw [et] at h2
  refine mapS_of v (fv u) (fv (u * u)) (fv (mS u)) (fv (mS u * mS u)) (fv (mT u)) (fv (2305843009213693949 * 2305843009213693948)) (fv (fi (2305843009213693949 * 2305843009213693948))) (fv (111 * fi (2305843009213693949 * 2305843009213693948)))
    (fv (fi 2305843009213693948)) (fv (2305843009213693840 * fi 2305843009213693948)) (fv (fi (mT u))) (fv (1 + fi (mT u))) (fv (2305843009213693840 * fi 2305843009213693948 * (1 + fi (mT u)))) (fv (mX u))
    (fv (crv (mX u))) (fv (rtV (crv (mX u)))) (fv (mS u * mX u)) (fv (crv (mS u * mX u))) (fv (rtV (crv (mS u * mX u)))) (fv (0 - rtV (crv (mX u)))) (fv (0 - rtV (crv (mS u * mX u)))) _ _ _ (decide (mT u = 0)) w
    hv (fv_ge u) rfl (fv_zero _) ?_ (fv_neg _) (fv_neg _) (fv_ge _) (fv_lt _) (fv_ge _) (fv_lt _)
    (vmul u u) (vmul 2305843009213693949 (u * u)) (vmul (mS u) (mS u)) h2 (vmul 2305843009213693949 2305843009213693948) (vinv (2305843009213693949 * 2305843009213693948)) (vmul 111 (fi (2305843009213693949 * 2305843009213693948)))
    (vinv 2305843009213693948) (vmul 2305843009213693840 (fi 2305843009213693948)) (vinv (mT u)) (vadd 1 (fi (mT u))) (vmul (2305843009213693840 * fi 2305843009213693948) (1 + fi (mT u))) (vmul (mS u) (mX u))
    (rightS (mX u)) (rightS (mS u * mX u)) (rtS (crv (mX u))) (rtS (crv (mS u * mX u)))
  unfold mX
  by_cases ht : mT u = 0
  · rw [if_pos ht, if_pos (by simp [ht])]
  · rw [if_neg ht, if_neg (by simp [ht])]

end Go.Proofs.YtenggagjgmonoaaDoor
