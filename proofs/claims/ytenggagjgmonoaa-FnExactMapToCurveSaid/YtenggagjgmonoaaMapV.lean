import Derived.Test.YtenggagjgmonoaaMapA
import Derived.Test.YtenggagjgmonoaaMapB
import Derived.Test.YtenggagjgmonoaaMapS
namespace Go.Proofs.Ytenggagjgmonoaa
open Go.RowKit M
set_option linter.unusedVariables false

theorem rt_ex (x : Fp) : ∃ rb : Fp × Bool,
    (∀ w, Calls Try.prog 10 #[.int .u64 (fv x)] w fun e w' => e = .returned (.tuple #[.int .u64 (fv rb.1), .bool rb.2]) ∧ w = w') ∧
    (∀ w, Calls Try.prog 20 #[.agg #[.int .u64 (fv x)]] w fun e w' => e = .returned (.tuple #[.agg #[.int .u64 (fv rb.1)], .bool rb.2]) ∧ Below w.heap.size w w') ∧
    (rb.2 = false → ∀ y : Fp, y * y ≠ x) ∧ (rb.2 = true → rb.1 * rb.1 = x) := by
  obtain ⟨r, b, h1, h2, h3, h4, h5⟩ := ev_both x.val (val_lt x)
  refine ⟨(⟨r, h3⟩, b), h1, h2, fun hb y hy => (h4 hb).2 y.val ?_, fun hb => ?_⟩
  · rw [← hy, Fin.val_mul]
  · apply Fin.ext
    rw [Fin.val_mul]
    exact (h5 hb).2
/-- the even root of a number of the field, if it has one -/
noncomputable def rtV (x : Fp) : Fp := (Classical.choose (rt_ex x)).1
noncomputable def rtB (x : Fp) : Bool := (Classical.choose (rt_ex x)).2
theorem rtS (x : Fp) (w : World) : Calls Try.prog 10 #[.int .u64 (fv x)] w fun e w' => e = .returned (.tuple #[.int .u64 (fv (rtV x)), .bool (rtB x)]) ∧ w = w' := (Classical.choose_spec (rt_ex x)).1 w
theorem rtI (x : Fp) (w : World) : Calls Try.prog 20 #[.agg #[.int .u64 (fv x)]] w fun e w' => e = .returned (.tuple #[.agg #[.int .u64 (fv (rtV x))], .bool (rtB x)]) ∧ Below w.heap.size w w' := (Classical.choose_spec (rt_ex x)).2.1 w
theorem rt_no (x : Fp) (h : rtB x = false) (y : Fp) : y * y ≠ x := (Classical.choose_spec (rt_ex x)).2.2.1 h y
theorem rt_yes (x : Fp) (h : rtB x = true) : rtV x * rtV x = x := (Classical.choose_spec (rt_ex x)).2.2.2 h

/-- the map -/
noncomputable def mXX (u : Fp) : Fp := if rtB (crv (mX u)) then mX u else mS u * mX u
noncomputable def mYY (u : Fp) : Fp := rtV (crv (mXX u))
noncomputable def mYo (u : Fp) : Fp := if (fv u % 2 == 1) then 0 - mYY u else mYY u
theorem mXX_sq (u : Fp) : mYY u * mYY u = crv (mXX u) := by
  apply rt_yes
  unfold mXX
  cases h : rtB (crv (mX u)) with
  | true => rw [if_pos rfl]; exact h
  | false =>
    rw [if_neg (by simp)]
    rcases has_one u with ⟨y, hy⟩ | ⟨y, hy⟩
    · exact absurd hy (rt_no _ h y)
    · cases h2 : rtB (crv (mS u * mX u)) with
      | true => rfl
      | false => exact absurd hy (rt_no _ h2 y)
theorem map_on (u : Fp) : on (some (mXX u, mYo u)) := by
  show mYo u * mYo u = crv (mXX u)
  rw [← mXX_sq]
  unfold mYo
  split
  · grobner
  · rfl
theorem map_ifs (f o : Bool) (x x2 y1 y2 : Fp) (X Y : Fp) (hX : X = if f then x else x2) (hY : Y = if o then 0 - (if f then y1 else y2) else (if f then y1 else y2)) :
    (.agg #[.int .u64 (if f then fv x else fv x2), .int .u64 (if o then (if f then fv (0 - y1) else fv (0 - y2)) else (if f then fv y1 else fv y2)), .bool false] : Value) = .agg #[.int .u64 (fv X), .int .u64 (fv Y), .bool false] := by
  subst hX hY
  cases f <;> cases o <;> rfl
theorem map_Y (u : Fp) : mYo u = if (fv u % 2 == 1) then 0 - (if rtB (crv (mX u)) then rtV (crv (mX u)) else rtV (crv (mS u * mX u))) else (if rtB (crv (mX u)) then rtV (crv (mX u)) else rtV (crv (mS u * mX u))) := by
  unfold mYo mYY mXX
  cases rtB (crv (mX u)) <;> simp
theorem fv_neg (y : Fp) : (2305843009213693951 - fv y) % 2305843009213693951 = fv (0 - y) := by
  have h := val_lt y
  unfold fv
  rw [Fin.val_sub]
  show _ = (((2305843009213693951 - y.val + 0) % 2305843009213693951 : Nat) : Int)
  omega
theorem n111 : (0 - 111 : Fp) = 2305843009213693840 := by decide
theorem nm3 : (0 - 3 : Fp) = 2305843009213693948 := by decide
theorem rdZ (w : World) : Calls Try.prog 13 #[.int .u64 2305843009213693949, .agg #[]] w fun e w' => e = .returned (.agg #[.int .u64 (fv 2305843009213693949)]) ∧ Below w.heap.size w w' := rdV 2305843009213693949 w
theorem mapI_in (u : Fp) (w : World) :
    Calls Try.prog 12 #[.agg #[.int .u64 (fv u)]] w fun e w' => e = .returned (.agg #[.int .u64 (fv (mXX u)), .int .u64 (fv (mYo u)), .bool false]) ∧ Below w.heap.size w w' := by
  have es : (2305843009213693949 : Fp) * u * u = mS u := by unfold mS; grobner
  have et : mS u * mS u + mS u = mT u := rfl
  rw [← map_ifs (rtB (crv (mX u))) (fv u % 2 == 1) (mX u) (mS u * mX u) (rtV (crv (mX u))) (rtV (crv (mS u * mX u))) (mXX u) (mYo u) rfl (map_Y u)]
  by_cases ht : mT u = 0
  · have ex : (111 : Fp) * fi (2305843009213693949 * (0 - 3)) = mX u := by rw [mX, if_pos ht, nm3]
    have h1 := tmV (2305843009213693949 * u) u
    rw [es] at h1
    have h2 := plV (mS u * mS u) (mS u)
    rw [et] at h2
    have h3 := tmV 111 (fi (2305843009213693949 * (0 - 3)))
    rw [ex] at h3
    exact mapB_of (fv u) (fv 3) (fv (0 - 3)) (fv 111) (fv 2305843009213693949) (fv (2305843009213693949 * u)) (fv (mS u)) (fv (mS u * mS u)) (fv (mT u)) (fv (2305843009213693949 * (0 - 3))) (fv (fi (2305843009213693949 * (0 - 3)))) (fv (mX u))
      (fv (crv (mX u))) (fv (rtV (crv (mX u)))) (fv (mS u * mX u)) (fv (crv (mS u * mX u))) (fv (rtV (crv (mS u * mX u)))) (fv (0 - rtV (crv (mX u)))) (fv (0 - rtV (crv (mS u * mX u)))) _ _ _ w
      rd3 (ngV 3) rd111 rdZ (tmV 2305843009213693949 u) h1 (tmV (mS u) (mS u)) h2 (tmV 2305843009213693949 (0 - 3)) (ivV (2305843009213693949 * (0 - 3))) h3
      (by rw [fv_zero]; simp [ht]) (fv_ge u) rfl (csqV (mX u)) (rtI (crv (mX u))) (tmV (mS u) (mX u)) (csqV (mS u * mX u)) (rtI (crv (mS u * mX u))) (ngV (rtV (crv (mX u)))) (ngV (rtV (crv (mS u * mX u))))
  · have ex : (fi (mT u) + 1) * (0 - 111) * fi (0 - 3) = mX u := by rw [mX, if_neg ht, nm3, n111]; grobner
    have h1 := tmV (2305843009213693949 * u) u
    rw [es] at h1
    have h2 := plV (mS u * mS u) (mS u)
    rw [et] at h2
    have h3 := tmV ((fi (mT u) + 1) * (0 - 111)) (fi (0 - 3))
    rw [ex] at h3
    exact mapA_of (fv u) (fv 3) (fv (0 - 3)) (fv 111) (fv 2305843009213693949) (fv (2305843009213693949 * u)) (fv (mS u)) (fv (mS u * mS u)) (fv (mT u)) (fv (fi (mT u))) (fv 1) (fv (fi (mT u) + 1)) (fv (0 - 111)) (fv ((fi (mT u) + 1) * (0 - 111))) (fv (fi (0 - 3))) (fv (mX u))
      (fv (crv (mX u))) (fv (rtV (crv (mX u)))) (fv (mS u * mX u)) (fv (crv (mS u * mX u))) (fv (rtV (crv (mS u * mX u)))) (fv (0 - rtV (crv (mX u)))) (fv (0 - rtV (crv (mS u * mX u)))) _ _ _ w
      rd3 (ngV 3) rd111 rdZ (tmV 2305843009213693949 u) h1 (tmV (mS u) (mS u)) h2 (ivV (mT u)) rd1 (plV (fi (mT u)) 1) (ngV 111) (tmV (fi (mT u) + 1) (0 - 111)) (ivV (0 - 3)) h3
      (by rw [fv_zero]; simp [ht]) (fv_ge u) rfl (csqV (mX u)) (rtI (crv (mX u))) (tmV (mS u) (mX u)) (csqV (mS u * mX u)) (rtI (crv (mS u * mX u))) (ngV (rtV (crv (mX u)))) (ngV (rtV (crv (mS u * mX u))))
/-- a word as a number of the field -/
def toF (v : Nat) : Fp := Fin.ofNat _ v
theorem toF_val (v : Nat) : ((v : Int)).tmod 2305843009213693951 = fv (toF v) := by
  rw [Int.tmod_eq_emod_of_nonneg (by omega)]
  rfl
theorem mapS_any (v : Nat) (w : World) :
    Calls Try.prog 4 #[.int .u64 v] w fun e w' => e = .returned (.agg #[.int .u64 (fv (mXX (toF v))), .int .u64 (fv (mYo (toF v))), .bool false]) ∧ Below w.heap.size w w' := by
  obtain ⟨u, hu⟩ : ∃ u, u = toF v := ⟨_, rfl⟩
  have hv := toF_val v
  rw [← hu] at hv ⊢
  have et : mS u * mS u + mS u = mT u := rfl
  rw [← map_ifs (rtB (crv (mX u))) (fv u % 2 == 1) (mX u) (mS u * mX u) (rtV (crv (mX u))) (rtV (crv (mS u * mX u))) (mXX u) (mYo u) rfl (map_Y u)]
  have h2 := vadd (mS u * mS u) (mS u)
  rw [et] at h2
  refine mapS_of v (fv u) (fv (u * u)) (fv (mS u)) (fv (mS u * mS u)) (fv (mT u)) (fv (2305843009213693949 * 2305843009213693948)) (fv (fi (2305843009213693949 * 2305843009213693948))) (fv (111 * fi (2305843009213693949 * 2305843009213693948)))
    (fv (fi 2305843009213693948)) (fv (2305843009213693840 * fi 2305843009213693948)) (fv (fi (mT u))) (fv (1 + fi (mT u))) (fv (2305843009213693840 * fi 2305843009213693948 * (1 + fi (mT u)))) (fv (mX u))
    (fv (crv (mX u))) (fv (rtV (crv (mX u)))) (fv (mS u * mX u)) (fv (crv (mS u * mX u))) (fv (rtV (crv (mS u * mX u)))) (fv (0 - rtV (crv (mX u)))) (fv (0 - rtV (crv (mS u * mX u)))) _ _ _ (decide (mT u = 0)) w
    hv (fv_ge u) rfl (fv_zero _) ?_ (fv_neg _) (fv_neg _) (fv_ge _) (fv_lt _) (fv_ge _) (fv_lt _)
    (vmul u u) (vmul 2305843009213693949 (u * u)) (vmul (mS u) (mS u)) h2 (vmul 2305843009213693949 2305843009213693948) (vinv (2305843009213693949 * 2305843009213693948)) (vmul 111 (fi (2305843009213693949 * 2305843009213693948)))
    (vinv 2305843009213693948) (vmul 2305843009213693840 (fi 2305843009213693948)) (vinv (mT u)) (vadd 1 (fi (mT u))) (vmul (2305843009213693840 * fi 2305843009213693948) (1 + fi (mT u))) (vmul (mS u) (mX u))
    (rightS (mX u)) (rightS (mS u * mX u)) (rtS (crv (mX u))) (rtS (crv (mS u * mX u)))
  unfold mX
  by_cases ht : mT u = 0
  · rw [if_pos ht, if_pos (by simp [ht])]
  · rw [if_neg ht, if_neg (by simp [ht])]

set_option maxRecDepth 100000 in
theorem mapI_any (v : Nat) (w : World) :
    Calls Try.prog 5 #[.int .u64 v] w fun e w' => e = .returned (.agg #[.int .u64 (fv (mXX (toF v))), .int .u64 (fv (mYo (toF v))), .bool false]) ∧ Below w.heap.size w w' := by
  have R := fun w => redP_of (v : Int) (fv (toF v)) w (by omega) (toF_val v)
  have L := mapI_in (toF v)
  generalize fv (mXX (toF v)) = X at *
  generalize fv (mYo (toF v)) = Y at *
  generalize fv (toF v) = U at *
  have K0 := K3.new w 24 0 0 false
  have b0 : Below w.heap.size w (w.alloc (Obj.cells #[.int .u64 0, .int .u64 0, .bool false] 24)) := (Below.refl _ _).alloc (Nat.le_refl _) _
  go_enter Try.func5, Try.ntmps5
  go_wp2_with fail
  refine (R _).mono ?_
  rintro e w1 ⟨rfl, b1⟩
  go_wp2_with fail
  refine (L _).mono ?_
  rintro e w2 ⟨rfl, b2⟩
  have K2 := (K0.keep b1).keep b2
  have hb2 := keepB (keepB b0 b0.size b1) (keepB b0 b0.size b1).size b2
  clear K0 b0 b1 b2
  have k0 := K2.c0
  have k1 := K2.c1
  have k2 := K2.c2
  have kf := K2.frz
  have hfl := fldK
  go_wp2
  exact bodyPost_ret (v := .agg #[.int .u64 X, .int .u64 Y, .bool false]) (pt_res (fn := Try.f5) (p := 2) Try.results5 _ rfl (K2.set X Y false)) rfl ⟨rfl, set3_below hb2 (Nat.le_refl _)⟩
end Go.Proofs.Ytenggagjgmonoaa
