import Derived.Test.YtaeanelfpaphiabCrvA
namespace Go.Proofs.Ytaeanelfpaphiab
open Go.RowKit M
set_option linter.unusedVariables false

/-- a number of the field as a word; the walk does not look into it -/
def fv (a : Fp) : Int := (a.val : Int)
theorem vsub (a b : Fp) (w : World) : Calls Try.prog 70 #[.int .u64 (fv a), .int .u64 (fv b)] w fun e w' => e = .returned (.int .u64 (fv (a - b))) ∧ w = w' := fsub_v a b w
theorem vsub3 (a : Fp) (w : World) : Calls Try.prog 70 #[.int .u64 (fv a), .int .u64 3] w fun e w' => e = .returned (.int .u64 (fv (a - 3))) ∧ w = w' := fsub _ 3 a 3 rfl rfl w
theorem vmul (a b : Fp) (w : World) : Calls Try.prog 52 #[.int .u64 (fv a), .int .u64 (fv b)] w fun e w' => e = .returned (.int .u64 (fv (a * b))) ∧ w = w' := fmul_v a b w
theorem vmul3 (a : Fp) (w : World) : Calls Try.prog 52 #[.int .u64 3, .int .u64 (fv a)] w fun e w' => e = .returned (.int .u64 (fv (3 * a))) ∧ w = w' := fmul 3 _ 3 a rfl rfl w
theorem vadd (a b : Fp) (w : World) : Calls Try.prog 53 #[.int .u64 (fv a), .int .u64 (fv b), .int .u64 2305843009213693951] w fun e w' => e = .returned (.int .u64 (fv (a + b))) ∧ w = w' := fadd _ _ a b rfl rfl w
theorem vinv (a : Fp) (w : World) : Calls Try.prog 71 #[.int .u64 (fv a), .int .u64 2305843009213693951] w fun e w' => e = .returned (.int .u64 (fv (fi a))) ∧ w = w' := finv _ a rfl w
theorem fv_eq (a b : Fp) : (fv a == fv b) = decide (a = b) := by
  rw [Bool.eq_iff_iff]; simp [fv, Fin.ext_iff]; omega
theorem fv_zero (a : Fp) : (fv a == 0) = decide (a = 0) := fv_eq a 0

def ptW : Pt → Value
  | none => .agg #[.int .u64 0, .int .u64 0, .bool true]
  | some (x, y) => .agg #[.int .u64 (fv x), .int .u64 (fv y), .bool false]

theorem zeroS (w : World) : Calls Try.prog 38 #[] w fun e w' => e = .returned (.agg #[.int .u64 0, .int .u64 0, .bool true]) ∧ w' = w.alloc (.cells #[.int .u64 0, .int .u64 0, .bool true] 25) := by
  go_enter Try.func38, Try.ntmps38
  go_wp2
  refine bodyPost_ret (v := .agg #[.int .u64 0, .int .u64 0, .bool true]) (by simp [results, Try.results38, go_sem]) rfl ⟨rfl, by simp⟩

set_option maxRecDepth 100000 in
theorem sumS_inf (x y : Int) (b : Bool) (w : World) :
    Calls Try.prog 39 #[.agg #[.int .u64 0, .int .u64 0, .bool true], .agg #[.int .u64 x, .int .u64 y, .bool b]] w fun e w' => e = .returned (.agg #[.int .u64 x, .int .u64 y, .bool b]) ∧ Below w.heap.size w w' := by
  go_enter Try.func39, Try.ntmps39
  go_wp2
  refine bodyPost_ret (v := .agg #[.int .u64 x, .int .u64 y, .bool b]) (by simp [results, Try.results39, go_sem]) rfl ⟨rfl, ?_⟩
  exact (((Below.refl _ w).alloc (Nat.le_refl _) _).alloc (by simp) _).alloc (by simp; omega) _
set_option maxRecDepth 100000 in
theorem sumS_inf2 (x y : Int) (w : World) :
    Calls Try.prog 39 #[.agg #[.int .u64 x, .int .u64 y, .bool false], .agg #[.int .u64 0, .int .u64 0, .bool true]] w fun e w' => e = .returned (.agg #[.int .u64 x, .int .u64 y, .bool false]) ∧ Below w.heap.size w w' := by
  go_enter Try.func39, Try.ntmps39
  go_wp2
  refine bodyPost_ret (v := .agg #[.int .u64 x, .int .u64 y, .bool false]) (by simp [results, Try.results39, go_sem]) rfl ⟨rfl, ?_⟩
  exact (((Below.refl _ w).alloc (Nat.le_refl _) _).alloc (by simp) _).alloc (by simp; omega) _
set_option maxRecDepth 100000 in
set_option maxHeartbeats 2000000 in
theorem sumS_opp (x y z : Fp) (w : World) (h : y + z = 0) :
    Calls Try.prog 39 #[.agg #[.int .u64 (fv x), .int .u64 (fv y), .bool false], .agg #[.int .u64 (fv x), .int .u64 (fv z), .bool false]] w fun e w' => e = .returned (.agg #[.int .u64 0, .int .u64 0, .bool true]) ∧ Below w.heap.size w w' := by
  have h1 : fv (y + z) = 0 := by rw [h]; rfl
  clear h
  go_enter Try.func39, Try.ntmps39
  go_wp2_with (first
    | (go_at_call 70; refine (vsub _ _ _).mono ?_; rintro e w' ⟨rfl, rfl⟩)
    | (go_at_call 53; refine (vadd _ _ _).mono ?_; rintro e w' ⟨rfl, rfl⟩)
    | (go_at_call 38; refine (zeroS _).mono ?_; rintro e w' ⟨rfl, rfl⟩))
  refine bodyPost_ret (v := .agg #[.int .u64 0, .int .u64 0, .bool true]) (by simp [results, Try.results39, go_sem]) rfl ⟨rfl, ?_⟩
  exact ((((Below.refl _ w).alloc (Nat.le_refl _) _).alloc (by simp) _).alloc (by simp; omega) _).alloc (by simp; omega) _
set_option maxRecDepth 100000 in
set_option maxHeartbeats 2000000 in
theorem sumS_dif (x y u v : Fp) (w : World) (h : x ≠ u) :
    Calls Try.prog 39 #[.agg #[.int .u64 (fv x), .int .u64 (fv y), .bool false], .agg #[.int .u64 (fv u), .int .u64 (fv v), .bool false]] w fun e w' => e = .returned (ptW (third x y u ((v - y) * fi (u - x)))) ∧ Below w.heap.size w w' := by
  have h1 : (fv x == fv u) = false := by rw [fv_eq]; simp [h]
  clear h
  go_enter Try.func39, Try.ntmps39
  go_wp2_with (first
    | (go_at_call 70; refine (vsub _ _ _).mono ?_; rintro e w' ⟨rfl, rfl⟩)
    | (go_at_call 71; refine (vinv _ _).mono ?_; rintro e w' ⟨rfl, rfl⟩)
    | (go_at_call 52; refine (vmul _ _ _).mono ?_; rintro e w' ⟨rfl, rfl⟩))
  go_region_held3 (fun w' => w'.cell? ⟨w.heap.size, 0, none⟩ = some (.int .u64 (fv x)) ∧ w'.cell? ⟨w.heap.size, 1, none⟩ = some (.int .u64 (fv y)) ∧ w'.cell? ⟨w.heap.size + 1, 0, none⟩ = some (.int .u64 (fv u))) (go_keep) (first
    | (go_at_call 70; refine (vsub _ _ _).mono ?_; rintro e w' ⟨rfl, rfl⟩)
    | (go_at_call 52; refine (vmul _ _ _).mono ?_; rintro e w' ⟨rfl, rfl⟩))
  go_wp2
  go_region_held3 (fun w' => w'.cell? ⟨w.heap.size, 0, none⟩ = some (.int .u64 (fv x)) ∧ w'.cell? ⟨w.heap.size, 1, none⟩ = some (.int .u64 (fv y)) ∧ w'.cell? ⟨w.heap.size + 1, 0, none⟩ = some (.int .u64 (fv u))) (go_keep) (first
    | (go_at_call 70; refine (vsub _ _ _).mono ?_; rintro e w' ⟨rfl, rfl⟩)
    | (go_at_call 52; refine (vmul _ _ _).mono ?_; rintro e w' ⟨rfl, rfl⟩))
  go_wp2
  refine bodyPost_ret (v := ptW (third x y u ((v - y) * fi (u - x)))) (by simp [results, Try.results39, go_sem, ptW, third]) rfl ⟨rfl, ?_⟩
  exact (((((Below.refl _ w).alloc (Nat.le_refl _) _).alloc (by simp) _).alloc (by simp; omega) _).drew).drew
set_option maxRecDepth 100000 in
set_option maxHeartbeats 2000000 in
theorem sumS_dbl (x y z : Fp) (w : World) (h : y + z ≠ 0) :
    Calls Try.prog 39 #[.agg #[.int .u64 (fv x), .int .u64 (fv y), .bool false], .agg #[.int .u64 (fv x), .int .u64 (fv z), .bool false]] w fun e w' => e = .returned (ptW (third x y x ((3 * (x * x) - 3) * fi (y + y)))) ∧ Below w.heap.size w w' := by
  have h1 : (fv (y + z) == 0) = false := by rw [fv_zero]; simp [h]
  clear h
  go_enter Try.func39, Try.ntmps39
  go_wp2_with fail
  refine (vsub z y _).mono ?_
  rintro e w' ⟨rfl, rfl⟩
  go_wp2_with fail
  refine (vsub x x _).mono ?_
  rintro e w' ⟨rfl, rfl⟩
  go_wp2_with fail
  refine (vadd y z _).mono ?_
  rintro e w' ⟨rfl, rfl⟩
  go_wp2_with fail
  refine (vmul x x _).mono ?_
  rintro e w' ⟨rfl, rfl⟩
  go_wp2_with fail
  refine (vmul3 (x * x) _).mono ?_
  rintro e w' ⟨rfl, rfl⟩
  go_wp2_with fail
  refine (vsub3 (3 * (x * x)) _).mono ?_
  rintro e w' ⟨rfl, rfl⟩
  go_wp2_with fail
  refine (vadd y y _).mono ?_
  rintro e w' ⟨rfl, rfl⟩
  go_wp2_with fail
  refine (vinv (y + y) _).mono ?_
  rintro e w' ⟨rfl, rfl⟩
  go_wp2_with fail
  refine (vmul (3 * (x * x) - 3) (fi (y + y)) _).mono ?_
  rintro e w' ⟨rfl, rfl⟩
  go_wp2_with fail
  go_region_held3 (fun w' => w'.cell? ⟨w.heap.size, 0, none⟩ = some (.int .u64 (fv x)) ∧ w'.cell? ⟨w.heap.size, 1, none⟩ = some (.int .u64 (fv y)) ∧ w'.cell? ⟨w.heap.size + 1, 0, none⟩ = some (.int .u64 (fv x))) (go_keep) (first
    | (go_at_call 70; refine (vsub _ _ _).mono ?_; rintro e w' ⟨rfl, rfl⟩)
    | (go_at_call 52; refine (vmul _ _ _).mono ?_; rintro e w' ⟨rfl, rfl⟩))
  go_wp2
  go_region_held3 (fun w' => w'.cell? ⟨w.heap.size, 0, none⟩ = some (.int .u64 (fv x)) ∧ w'.cell? ⟨w.heap.size, 1, none⟩ = some (.int .u64 (fv y)) ∧ w'.cell? ⟨w.heap.size + 1, 0, none⟩ = some (.int .u64 (fv x))) (go_keep) (first
    | (go_at_call 70; refine (vsub _ _ _).mono ?_; rintro e w' ⟨rfl, rfl⟩)
    | (go_at_call 52; refine (vmul _ _ _).mono ?_; rintro e w' ⟨rfl, rfl⟩))
  go_wp2
  refine bodyPost_ret (v := ptW (third x y x ((3 * (x * x) - 3) * fi (y + y)))) (by simp [results, Try.results39, go_sem, ptW, third]) rfl ⟨rfl, ?_⟩
  exact (((((Below.refl _ w).alloc (Nat.le_refl _) _).alloc (by simp) _).alloc (by simp; omega) _).drew).drew

/-- the model's sum is the curve's -/
theorem sumS_any (p q : Pt) (w : World) :
    Calls Try.prog 39 #[ptW p, ptW q] w fun e w' => e = .returned (ptW (ad p q)) ∧ Below w.heap.size w w' := by
  rcases p with _ | ⟨x, y⟩
  · rcases q with _ | ⟨u, v⟩
    · exact sumS_inf 0 0 true w
    · exact sumS_inf (fv u) (fv v) false w
  · rcases q with _ | ⟨u, v⟩
    · exact sumS_inf2 (fv x) (fv y) w
    · by_cases hx : x = u
      · subst hx
        by_cases hy : y + v = 0
        · rw [ad_c0 rfl hy]; exact sumS_opp x y v w hy
        · rw [ad_c1 rfl hy]; exact sumS_dbl x y v w hy
      · rw [ad_c2 hx]; exact sumS_dif x y u v w hx
end Go.Proofs.Ytaeanelfpaphiab

namespace Go.Proofs.Ytaeanelfpaphiab
open Go.RowKit M
set_option linter.unusedVariables false

set_option maxRecDepth 100000 in
theorem onS_bigy (x y : Int) (w : World) (h1 : x < 2305843009213693951) (h : 2305843009213693951 ≤ y) :
    Calls Try.prog 29 #[.agg #[.int .u64 x, .int .u64 y, .bool false]] w fun e w' => e = .returned (.bool false) ∧ Below w.heap.size w w' := by
  have h2 : (y < 2305843009213693951) = False := by simp; omega
  have h3 : decide (y < 2305843009213693951) = false := by simp; omega
  have h4 : (x < 2305843009213693951) = True := by simp [h1]
  have h5 : decide (x < 2305843009213693951) = true := by simp [h1]
  clear h h1
  go_enter Try.func29, Try.ntmps29
  go_wp2
  go_region
  go_wp2
  go_ret
  exact ⟨rfl, ((Below.refl _ _).alloc (Nat.le_refl _) _).drew⟩

/-- the point of the curve that three fields are, if they are one -/
noncomputable def toPt (x y : Nat) (b : Bool) : Option Pt :=
  if b = true then (if x = 0 ∧ y = 0 then some none else none)
  else if h : x < 2305843009213693951 ∧ y < 2305843009213693951 then
    (if (⟨y, h.2⟩ : Fp) * ⟨y, h.2⟩ = crv ⟨x, h.1⟩ then some (some (⟨x, h.1⟩, ⟨y, h.2⟩)) else none)
  else none
theorem toPt_on {x y : Nat} {b : Bool} {p : Pt} (h : toPt x y b = some p) : on p := by
  unfold toPt at h
  split at h
  · split at h
    · cases h; trivial
    · cases h
  · split at h
    · split at h
      · cases h; assumption
      · cases h
    · cases h
theorem toPt_W {x y : Nat} {b : Bool} {p : Pt} (h : toPt x y b = some p) : (.agg #[.int .u64 x, .int .u64 y, .bool b] : Value) = ptW p := by
  unfold toPt at h
  split at h
  · split at h
    · rename_i hb hxy
      obtain ⟨rfl, rfl⟩ := hxy
      subst hb; cases h; rfl
    · cases h
  · split at h
    · split at h
      · rename_i hb _ _
        have hb' : b = false := by simpa using hb
        subst hb'; cases h; rfl
      · cases h
    · cases h
theorem onS_any (x y : Nat) (b : Bool) (w : World) :
    Calls Try.prog 29 #[.agg #[.int .u64 x, .int .u64 y, .bool b]] w fun e w' => e = .returned (.bool (toPt x y b).isSome) ∧ Below w.heap.size w w' := by
  cases b
  · by_cases h1 : x < 2305843009213693951
    · by_cases h2 : y < 2305843009213693951
      · have := onS_some ⟨x, h1⟩ ⟨y, h2⟩ w
        have e : (toPt x y false).isSome = decide ((⟨y, h2⟩ : Fp) * ⟨y, h2⟩ = crv ⟨x, h1⟩) := by
          unfold toPt
          rw [if_neg (by decide), dif_pos ⟨h1, h2⟩]
          split
          · rename_i h; rw [decide_eq_true h]; rfl
          · rename_i h; rw [decide_eq_false h]; rfl
        rw [e]; exact this
      · have := onS_bigy x y w (by omega) (by omega)
        have e : (toPt x y false).isSome = false := by
          unfold toPt
          rw [if_neg (by decide), dif_neg (fun h => h2 h.2)]; rfl
        rw [e]; exact this
    · have := onS_bigx x y w (by omega)
      have e : (toPt x y false).isSome = false := by
        unfold toPt
        rw [if_neg (by decide), dif_neg (fun h => h1 h.1)]; rfl
      rw [e]; exact this
  · have := onS_inf x y w
    have e : (toPt x y true).isSome = decide (x = 0 ∧ y = 0) := by
      unfold toPt
      rw [if_pos rfl]
      split
      · rename_i h; rw [decide_eq_true h]; rfl
      · rename_i h; rw [decide_eq_false h]; rfl
    rw [e]; exact this
end Go.Proofs.Ytaeanelfpaphiab
