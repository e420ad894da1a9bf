import Derived.Test.YtenggagjgmonoaaGreatDoorMrg28
import Derived.Test.YtenggagjgmonoaaGreatDoorMrg29
import Derived.Test.YtenggagjgmonoaaGreatDoorMrg22
namespace Go.Proofs.YtenggagjgmonoaaGreatDoor
open Go.RowKit M
set_option linter.unusedVariables false

theorem rt_ex (x : Fp) : ∃ rb : Fp × Bool,
    (∀ w, Calls Tryz.prog 21 #[.int .u64 (fv x)] w fun e w' => e = .returned (.tuple #[.int .u64 (fv rb.1), .bool rb.2]) ∧ w = w') ∧
    (∀ w, Calls Tryz.prog 40 #[.agg #[.int .u64 (fv x)]] w fun e w' => e = .returned (.tuple #[.agg #[.int .u64 (fv rb.1)], .bool rb.2]) ∧ Below w.heap.size w w') ∧
    (rb.2 = false → ∀ y : Fp, y * y ≠ x) ∧ (rb.2 = true → rb.1 * rb.1 = x) := by
  obtain ⟨r, b, h1, h2, h3, h4, h5⟩ := ev_both x.val (val_lt x)
  refine ⟨(⟨r, h3⟩, b), h1, h2, fun hb y hy => (h4 hb).2 y.val ?_, fun hb => ?_⟩
  · rw [← hy, Fin.val_mul]
  · apply Fin.ext
    rw [Fin.val_mul]
    exact (h5 hb).2
/-- the even root of a number of the field, if it has one -/
noncomputable def rtV (x : Fp) : Fp := (Classical.choose (rt_ex x)).1
noncomputable def rtB (x : Fp) : Bool := (Classical.choose (rt_ex x)).2
theorem rtS (x : Fp) (w : World) : Calls Tryz.prog 21 #[.int .u64 (fv x)] w fun e w' => e = .returned (.tuple #[.int .u64 (fv (rtV x)), .bool (rtB x)]) ∧ w = w' := (Classical.choose_spec (rt_ex x)).1 w
theorem rtI (x : Fp) (w : World) : Calls Tryz.prog 40 #[.agg #[.int .u64 (fv x)]] w fun e w' => e = .returned (.tuple #[.agg #[.int .u64 (fv (rtV x))], .bool (rtB x)]) ∧ Below w.heap.size w w' := (Classical.choose_spec (rt_ex x)).2.1 w
theorem rt_no (x : Fp) (h : rtB x = false) (y : Fp) : y * y ≠ x := (Classical.choose_spec (rt_ex x)).2.2.1 h y
theorem rt_yes (x : Fp) (h : rtB x = true) : rtV x * rtV x = x := (Classical.choose_spec (rt_ex x)).2.2.2 h

/-- the map -/
noncomputable def mXX (u : Fp) : Fp := if rtB (crv (mX u)) then mX u else mS u * mX u
noncomputable def mYY (u : Fp) : Fp := rtV (crv (mXX u))
noncomputable def mYo (u : Fp) : Fp := if (fv u % 2 == 1) then 0 - mYY u else mYY u
theorem mXX_sq (u : Fp) : mYY u * mYY u = crv (mXX u) := by
  apply rt_yes
  unfold mXX
  cases h : rtB (crv (mX u)) with
  | true => rw [if_pos rfl]; exact h
  | false =>
    rw [if_neg (by simp)]
    rcases has_one u with ⟨y, hy⟩ | ⟨y, hy⟩
    · exact absurd hy (rt_no _ h y)
    · cases h2 : rtB (crv (mS u * mX u)) with
      | true => rfl
      | false => exact absurd hy (rt_no _ h2 y)
theorem map_on (u : Fp) : on (some (mXX u, mYo u)) := by
  show mYo u * mYo u = crv (mXX u)
  rw [← mXX_sq]
  unfold mYo
  split
  · grobner
  · rfl
theorem map_ifs (f o : Bool) (x x2 y1 y2 : Fp) (X Y : Fp) (hX : X = if f then x else x2) (hY : Y = if o then 0 - (if f then y1 else y2) else (if f then y1 else y2)) :
    (.agg #[.int .u64 (if f then fv x else fv x2), .int .u64 (if o then (if f then fv (0 - y1) else fv (0 - y2)) else (if f then fv y1 else fv y2)), .bool false] : Value) = .agg #[.int .u64 (fv X), .int .u64 (fv Y), .bool false] := by
  subst hX hY
  cases f <;> cases o <;> rfl
theorem map_Y (u : Fp) : mYo u = if (fv u % 2 == 1) then 0 - (if rtB (crv (mX u)) then rtV (crv (mX u)) else rtV (crv (mS u * mX u))) else (if rtB (crv (mX u)) then rtV (crv (mX u)) else rtV (crv (mS u * mX u))) := by
  unfold mYo mYY mXX
  cases rtB (crv (mX u)) <;> simp
theorem fv_ng0 (y : Fp) : (2305843009213693951 - fv y) % 2305843009213693951 = fv (0 - y) := by
  have h := val_lt y
  unfold fv
  rw [Fin.val_sub]
  show _ = (((2305843009213693951 - y.val + 0) % 2305843009213693951 : Nat) : Int)
  omega
theorem n111 : (0 - 111 : Fp) = 2305843009213693840 := by decide
theorem nm3 : (0 - 3 : Fp) = 2305843009213693948 := by decide
theorem rdZ (w : World) : Calls Tryz.prog 17 #[.int .u64 2305843009213693949, .agg #[]] w fun e w' => e = .returned (.agg #[.int .u64 (fv 2305843009213693949)]) ∧ Below w.heap.size w w' := rdV 2305843009213693949 w
theorem mapI_in (u : Fp) (w : World) :
    Calls Tryz.prog 16 #[.agg #[.int .u64 (fv u)]] w fun e w' => e = .returned (.agg #[.int .u64 (fv (mXX u)), .int .u64 (fv (mYo u)), .bool false]) ∧ Below w.heap.size w w' := by
  have es : (2305843009213693949 : Fp) * u * u = mS u := by unfold mS; grobner
  have et : mS u * mS u + mS u = mT u := rfl
  rw [← map_ifs (rtB (crv (mX u))) (fv u % 2 == 1) (mX u) (mS u * mX u) (rtV (crv (mX u))) (rtV (crv (mS u * mX u))) (mXX u) (mYo u) rfl (map_Y u)]
  by_cases ht : mT u = 0
  · have ex : (111 : Fp) * fi (2305843009213693949 * (0 - 3)) = mX u := by rw [mX, if_pos ht, nm3]
    have h1 := tmV (2305843009213693949 * u) u
    rw [es] at h1
    have h2 := plV (mS u * mS u) (mS u)
    rw [et] at h2
    have h3 := tmV 111 (fi (2305843009213693949 * (0 - 3)))
    rw [ex] at h3
    exact mapB_of (fv u) (fv 3) (fv (0 - 3)) (fv 111) (fv 2305843009213693949) (fv (2305843009213693949 * u)) (fv (mS u)) (fv (mS u * mS u)) (fv (mT u)) (fv (2305843009213693949 * (0 - 3))) (fv (fi (2305843009213693949 * (0 - 3)))) (fv (mX u))
      (fv (crv (mX u))) (fv (rtV (crv (mX u)))) (fv (mS u * mX u)) (fv (crv (mS u * mX u))) (fv (rtV (crv (mS u * mX u)))) (fv (0 - rtV (crv (mX u)))) (fv (0 - rtV (crv (mS u * mX u)))) _ _ _ w
      rd3 (ngV 3) rd111 rdZ (tmV 2305843009213693949 u) h1 (tmV (mS u) (mS u)) h2 (tmV 2305843009213693949 (0 - 3)) (ivV (2305843009213693949 * (0 - 3))) h3
      (by rw [fv_zero]; simp [ht]) (fv_ge u) rfl (csqV (mX u)) (rtI (crv (mX u))) (tmV (mS u) (mX u)) (csqV (mS u * mX u)) (rtI (crv (mS u * mX u))) (ngV (rtV (crv (mX u)))) (ngV (rtV (crv (mS u * mX u))))
  · have ex : (fi (mT u) + 1) * (0 - 111) * fi (0 - 3) = mX u := by rw [mX, if_neg ht, nm3, n111]; grobner
    have h1 := tmV (2305843009213693949 * u) u
    rw [es] at h1
    have h2 := plV (mS u * mS u) (mS u)
    rw [et] at h2
    have h3 := tmV ((fi (mT u) + 1) * (0 - 111)) (fi (0 - 3))
    rw [ex] at h3
    exact mapA_of (fv u) (fv 3) (fv (0 - 3)) (fv 111) (fv 2305843009213693949) (fv (2305843009213693949 * u)) (fv (mS u)) (fv (mS u * mS u)) (fv (mT u)) (fv (fi (mT u))) (fv 1) (fv (fi (mT u) + 1)) (fv (0 - 111)) (fv ((fi (mT u) + 1) * (0 - 111))) (fv (fi (0 - 3))) (fv (mX u))
      (fv (crv (mX u))) (fv (rtV (crv (mX u)))) (fv (mS u * mX u)) (fv (crv (mS u * mX u))) (fv (rtV (crv (mS u * mX u)))) (fv (0 - rtV (crv (mX u)))) (fv (0 - rtV (crv (mS u * mX u)))) _ _ _ w
      rd3 (ngV 3) rd111 rdZ (tmV 2305843009213693949 u) h1 (tmV (mS u) (mS u)) h2 (ivV (mT u)) rd1 (plV (fi (mT u)) 1) (ngV 111) (tmV (fi (mT u) + 1) (0 - 111)) (ivV (0 - 3)) h3
      (by rw [fv_zero]; simp [ht]) (fv_ge u) rfl (csqV (mX u)) (rtI (crv (mX u))) (tmV (mS u) (mX u)) (csqV (mS u * mX u)) (rtI (crv (mS u * mX u))) (ngV (rtV (crv (mX u)))) (ngV (rtV (crv (mS u * mX u))))
/-- a word as a number of the field -/
def toF (v : Nat) : Fp := Fin.ofNat _ v
theorem toF_val (v : Nat) : ((v : Int)).tmod 2305843009213693951 = fv (toF v) := by
  rw [Int.tmod_eq_emod_of_nonneg (by omega)]
  rfl
theorem mapS_any (v : Nat) (w : World) :
    Calls Tryz.prog 6 #[.int .u64 v] w fun e w' => e = .returned (.agg #[.int .u64 (fv (mXX (toF v))), .int .u64 (fv (mYo (toF v))), .bool false]) ∧ Below w.heap.size w w' := by
  obtain ⟨u, hu⟩ : ∃ u, u = toF v := ⟨_, rfl⟩
  have hv := toF_val v
  rw [← hu] at hv ⊢
  have et : mS u * mS u + mS u = mT u := rfl
  rw [← map_ifs (rtB (crv (mX u))) (fv u % 2 == 1) (mX u) (mS u * mX u) (rtV (crv (mX u))) (rtV (crv (mS u * mX u))) (mXX u) (mYo u) rfl (map_Y u)]
  have h2 := vadd (mS u * mS u) (mS u)
  rw [et] at h2
  refine mapS_of v (fv u) (fv (u * u)) (fv (mS u)) (fv (mS u * mS u)) (fv (mT u)) (fv (2305843009213693949 * 2305843009213693948)) (fv (fi (2305843009213693949 * 2305843009213693948))) (fv (111 * fi (2305843009213693949 * 2305843009213693948)))
    (fv (fi 2305843009213693948)) (fv (2305843009213693840 * fi 2305843009213693948)) (fv (fi (mT u))) (fv (1 + fi (mT u))) (fv (2305843009213693840 * fi 2305843009213693948 * (1 + fi (mT u)))) (fv (mX u))
    (fv (crv (mX u))) (fv (rtV (crv (mX u)))) (fv (mS u * mX u)) (fv (crv (mS u * mX u))) (fv (rtV (crv (mS u * mX u)))) (fv (0 - rtV (crv (mX u)))) (fv (0 - rtV (crv (mS u * mX u)))) _ _ _ (decide (mT u = 0)) w
    hv (fv_ge u) rfl (fv_zero _) ?_ (fv_ng0 _) (fv_ng0 _) (fv_ge _) (fv_lt _) (fv_ge _) (fv_lt _)
    (vmul u u) (vmul 2305843009213693949 (u * u)) (vmul (mS u) (mS u)) h2 (vmul 2305843009213693949 2305843009213693948) (vinv (2305843009213693949 * 2305843009213693948)) (vmul 111 (fi (2305843009213693949 * 2305843009213693948)))
    (vinv 2305843009213693948) (vmul 2305843009213693840 (fi 2305843009213693948)) (vinv (mT u)) (vadd 1 (fi (mT u))) (vmul (2305843009213693840 * fi 2305843009213693948) (1 + fi (mT u))) (vmul (mS u) (mX u))
    (rightS (mX u)) (rightS (mS u * mX u)) (rtS (crv (mX u))) (rtS (crv (mS u * mX u)))
  unfold mX
  by_cases ht : mT u = 0
  · rw [if_pos ht, if_pos (by simp [ht])]
  · rw [if_neg ht, if_neg (by simp [ht])]

end Go.Proofs.YtenggagjgmonoaaGreatDoor

namespace Go.Proofs.YtenggagjgmonoaaGreatDoor
open Go.RowKit M
set_option linter.unusedVariables false

theorem zeroS (w : World) : Calls Tryz.prog 30 #[] w fun e w' => e = .returned (.agg #[.int .u64 0, .int .u64 0, .bool true]) ∧ w' = w.alloc (.cells #[.int .u64 0, .int .u64 0, .bool true] 26) := by
  go_enter Tryz.func30, Tryz.ntmps30
  go_wp2
  refine bodyPost_ret (v := .agg #[.int .u64 0, .int .u64 0, .bool true]) (by simp [results, Tryz.results30, go_sem]) rfl ⟨rfl, by simp⟩

set_option maxRecDepth 100000 in
theorem sumS_inf (x y : Int) (b : Bool) (w : World) :
    Calls Tryz.prog 31 #[.agg #[.int .u64 0, .int .u64 0, .bool true], .agg #[.int .u64 x, .int .u64 y, .bool b]] w fun e w' => e = .returned (.agg #[.int .u64 x, .int .u64 y, .bool b]) ∧ Below w.heap.size w w' := by
  go_enter Tryz.func31, Tryz.ntmps31
  go_wp2
  refine bodyPost_ret (v := .agg #[.int .u64 x, .int .u64 y, .bool b]) (by simp [results, Tryz.results31, go_sem]) rfl ⟨rfl, ?_⟩
  exact (((Below.refl _ w).alloc (Nat.le_refl _) _).alloc (by simp) _).alloc (by simp; omega) _
set_option maxRecDepth 100000 in
theorem sumS_inf2 (x y : Int) (w : World) :
    Calls Tryz.prog 31 #[.agg #[.int .u64 x, .int .u64 y, .bool false], .agg #[.int .u64 0, .int .u64 0, .bool true]] w fun e w' => e = .returned (.agg #[.int .u64 x, .int .u64 y, .bool false]) ∧ Below w.heap.size w w' := by
  go_enter Tryz.func31, Tryz.ntmps31
  go_wp2
  refine bodyPost_ret (v := .agg #[.int .u64 x, .int .u64 y, .bool false]) (by simp [results, Tryz.results31, go_sem]) rfl ⟨rfl, ?_⟩
  exact (((Below.refl _ w).alloc (Nat.le_refl _) _).alloc (by simp) _).alloc (by simp; omega) _
set_option maxRecDepth 100000 in
set_option maxHeartbeats 2000000 in
theorem sumS_opp (x y z : Fp) (w : World) (h : y + z = 0) :
    Calls Tryz.prog 31 #[.agg #[.int .u64 (fv x), .int .u64 (fv y), .bool false], .agg #[.int .u64 (fv x), .int .u64 (fv z), .bool false]] w fun e w' => e = .returned (.agg #[.int .u64 0, .int .u64 0, .bool true]) ∧ Below w.heap.size w w' := by
  have h1 : fv (y + z) = 0 := by rw [h]; rfl
  clear h
  go_enter Tryz.func31, Tryz.ntmps31
  go_wp2_with (first
    | (go_at_call 43; refine (vsub _ _ _).mono ?_; rintro e w' ⟨rfl, rfl⟩)
    | (go_at_call 19; refine (vadd _ _ _).mono ?_; rintro e w' ⟨rfl, rfl⟩)
    | (go_at_call 30; refine (zeroS _).mono ?_; rintro e w' ⟨rfl, rfl⟩))
  refine bodyPost_ret (v := .agg #[.int .u64 0, .int .u64 0, .bool true]) (by simp [results, Tryz.results31, go_sem]) rfl ⟨rfl, ?_⟩
  exact ((((Below.refl _ w).alloc (Nat.le_refl _) _).alloc (by simp) _).alloc (by simp; omega) _).alloc (by simp; omega) _
set_option maxRecDepth 100000 in
set_option maxHeartbeats 2000000 in
theorem sumS_dif (x y u v : Fp) (w : World) (h : x ≠ u) :
    Calls Tryz.prog 31 #[.agg #[.int .u64 (fv x), .int .u64 (fv y), .bool false], .agg #[.int .u64 (fv u), .int .u64 (fv v), .bool false]] w fun e w' => e = .returned (ptW (third x y u ((v - y) * fi (u - x)))) ∧ Below w.heap.size w w' := by
  have h1 : (fv x == fv u) = false := by rw [fv_eq]; simp [h]
  clear h
  go_enter Tryz.func31, Tryz.ntmps31
  go_wp2_with (first
    | (go_at_call 43; refine (vsub _ _ _).mono ?_; rintro e w' ⟨rfl, rfl⟩)
    | (go_at_call 20; refine (vinv _ _).mono ?_; rintro e w' ⟨rfl, rfl⟩)
    | (go_at_call 18; refine (vmul _ _ _).mono ?_; rintro e w' ⟨rfl, rfl⟩))
  go_region_held3 (fun w' => w'.cell? ⟨w.heap.size, 0, none⟩ = some (.int .u64 (fv x)) ∧ w'.cell? ⟨w.heap.size, 1, none⟩ = some (.int .u64 (fv y)) ∧ w'.cell? ⟨w.heap.size + 1, 0, none⟩ = some (.int .u64 (fv u))) (go_keep) (first
    | (go_at_call 43; refine (vsub _ _ _).mono ?_; rintro e w' ⟨rfl, rfl⟩)
    | (go_at_call 18; refine (vmul _ _ _).mono ?_; rintro e w' ⟨rfl, rfl⟩))
  go_wp2
  go_region_held3 (fun w' => w'.cell? ⟨w.heap.size, 0, none⟩ = some (.int .u64 (fv x)) ∧ w'.cell? ⟨w.heap.size, 1, none⟩ = some (.int .u64 (fv y)) ∧ w'.cell? ⟨w.heap.size + 1, 0, none⟩ = some (.int .u64 (fv u))) (go_keep) (first
    | (go_at_call 43; refine (vsub _ _ _).mono ?_; rintro e w' ⟨rfl, rfl⟩)
    | (go_at_call 18; refine (vmul _ _ _).mono ?_; rintro e w' ⟨rfl, rfl⟩))
  go_wp2
  refine bodyPost_ret (v := ptW (third x y u ((v - y) * fi (u - x)))) (by simp [results, Tryz.results31, go_sem, ptW, third]) rfl ⟨rfl, ?_⟩
  exact (((((Below.refl _ w).alloc (Nat.le_refl _) _).alloc (by simp) _).alloc (by simp; omega) _).drew).drew
set_option maxRecDepth 100000 in
set_option maxHeartbeats 2000000 in
theorem sumS_dbl (x y z : Fp) (w : World) (h : y + z ≠ 0) :
    Calls Tryz.prog 31 #[.agg #[.int .u64 (fv x), .int .u64 (fv y), .bool false], .agg #[.int .u64 (fv x), .int .u64 (fv z), .bool false]] w fun e w' => e = .returned (ptW (third x y x ((3 * (x * x) - 3) * fi (y + y)))) ∧ Below w.heap.size w w' := by
  have h1 : (fv (y + z) == 0) = false := by rw [fv_zero]; simp [h]
  clear h
  go_enter Tryz.func31, Tryz.ntmps31
  go_wp2_with fail
  refine (vsub z y _).mono ?_
  rintro e w' ⟨rfl, rfl⟩
  go_wp2_with fail
  refine (vsub x x _).mono ?_
  rintro e w' ⟨rfl, rfl⟩
  go_wp2_with fail
  refine (vadd y z _).mono ?_
  rintro e w' ⟨rfl, rfl⟩
  go_wp2_with fail
  refine (vmul x x _).mono ?_
  rintro e w' ⟨rfl, rfl⟩
  go_wp2_with fail
  refine (vmul3 (x * x) _).mono ?_
  rintro e w' ⟨rfl, rfl⟩
  go_wp2_with fail
  refine (vsub3 (3 * (x * x)) _).mono ?_
  rintro e w' ⟨rfl, rfl⟩
  go_wp2_with fail
  refine (vadd y y _).mono ?_
  rintro e w' ⟨rfl, rfl⟩
  go_wp2_with fail
  refine (vinv (y + y) _).mono ?_
  rintro e w' ⟨rfl, rfl⟩
  go_wp2_with fail
  refine (vmul (3 * (x * x) - 3) (fi (y + y)) _).mono ?_
  rintro e w' ⟨rfl, rfl⟩
  go_wp2_with fail
  go_region_held3 (fun w' => w'.cell? ⟨w.heap.size, 0, none⟩ = some (.int .u64 (fv x)) ∧ w'.cell? ⟨w.heap.size, 1, none⟩ = some (.int .u64 (fv y)) ∧ w'.cell? ⟨w.heap.size + 1, 0, none⟩ = some (.int .u64 (fv x))) (go_keep) (first
    | (go_at_call 43; refine (vsub _ _ _).mono ?_; rintro e w' ⟨rfl, rfl⟩)
    | (go_at_call 18; refine (vmul _ _ _).mono ?_; rintro e w' ⟨rfl, rfl⟩))
  go_wp2
  go_region_held3 (fun w' => w'.cell? ⟨w.heap.size, 0, none⟩ = some (.int .u64 (fv x)) ∧ w'.cell? ⟨w.heap.size, 1, none⟩ = some (.int .u64 (fv y)) ∧ w'.cell? ⟨w.heap.size + 1, 0, none⟩ = some (.int .u64 (fv x))) (go_keep) (first
    | (go_at_call 43; refine (vsub _ _ _).mono ?_; rintro e w' ⟨rfl, rfl⟩)
    | (go_at_call 18; refine (vmul _ _ _).mono ?_; rintro e w' ⟨rfl, rfl⟩))
  go_wp2
  refine bodyPost_ret (v := ptW (third x y x ((3 * (x * x) - 3) * fi (y + y)))) (by simp [results, Tryz.results31, go_sem, ptW, third]) rfl ⟨rfl, ?_⟩
  exact (((((Below.refl _ w).alloc (Nat.le_refl _) _).alloc (by simp) _).alloc (by simp; omega) _).drew).drew

/-- the model's sum is the curve's -/
theorem sumS_any (p q : Pt) (w : World) :
    Calls Tryz.prog 31 #[ptW p, ptW q] w fun e w' => e = .returned (ptW (ad p q)) ∧ Below w.heap.size w w' := by
  rcases p with _ | ⟨x, y⟩
  · rcases q with _ | ⟨u, v⟩
    · exact sumS_inf 0 0 true w
    · exact sumS_inf (fv u) (fv v) false w
  · rcases q with _ | ⟨u, v⟩
    · exact sumS_inf2 (fv x) (fv y) w
    · by_cases hx : x = u
      · subst hx
        by_cases hy : y + v = 0
        · rw [ad_c0 rfl hy]; exact sumS_opp x y v w hy
        · rw [ad_c1 rfl hy]; exact sumS_dbl x y v w hy
      · rw [ad_c2 hx]; exact sumS_dif x y u v w hx
end Go.Proofs.YtenggagjgmonoaaGreatDoor

namespace Go.Proofs.YtenggagjgmonoaaGreatDoor
open Go.RowKit M
set_option linter.unusedVariables false
end Go.Proofs.YtenggagjgmonoaaGreatDoor
