import Derived.Test.YtdaobioomoajfaaGreatMrg4
import Derived.Test.YtdaobioomoajfaaGreatMrg3
set_option linter.unusedVariables false
set_option maxRecDepth 100000
set_option maxHeartbeats 16000000
namespace Go.Proofs.YtdaobioomoajfaaGreat
open Go.RowKit M
noncomputable def toPt (x y : Nat) (b : Bool) : Option Pt :=
  if b = true then (if x = 0 ∧ y = 0 then some none else none)
  else if h : x < 2305843009213693951 ∧ y < 2305843009213693951 then
    (if (⟨y, h.2⟩ : Fp) * ⟨y, h.2⟩ = crv ⟨x, h.1⟩ then some (some (⟨x, h.1⟩, ⟨y, h.2⟩)) else none)
  else none
theorem toPt_on {x y : Nat} {b : Bool} {p : Pt} (h : toPt x y b = some p) : on p := by
  unfold toPt at h
  split at h
  · split at h
    · cases h; trivial
    · cases h
  · split at h
    · split at h
      · cases h; assumption
      · cases h
    · cases h
theorem toPt_W {x y : Nat} {b : Bool} {p : Pt} (h : toPt x y b = some p) : (.agg #[.int .u64 x, .int .u64 y, .bool b] : Value) = ptW p := by
  unfold toPt at h
  split at h
  · split at h
    · rename_i hb hxy
      obtain ⟨rfl, rfl⟩ := hxy
      subst hb; cases h; rfl
    · cases h
  · split at h
    · split at h
      · rename_i hb _ _
        have hb' : b = false := by simpa using hb
        subst hb'; cases h; rfl
      · cases h
    · cases h
end Go.Proofs.YtdaobioomoajfaaGreat
namespace Go.Proofs.YtdaobioomoajfaaGreat
open Go.RowKit M
noncomputable def asPt (x y : Nat) (b : Bool) : Pt := (toPt x y b).getD none
theorem asPt_some {x y : Nat} {b : Bool} {p : Pt} (h : toPt x y b = some p) : asPt x y b = p := by unfold asPt; rw [h]; rfl
end Go.Proofs.YtdaobioomoajfaaGreat
namespace Go.Proofs.YtdaobioomoajfaaGreat
open Go.RowKit M
theorem fields_of {x y : Nat} {c : Bool} {p : Pt} (h : toPt x y c = some p) : (x : Int) = px p ∧ (y : Int) = py p ∧ c = pb p := by
  have e := toPt_W h
  rw [ptW_eq] at e
  injection e with e
  injection e with e
  simpa using e
theorem toPt_self {X Y : Fp} (h : on (some (X, Y))) : toPt X.val Y.val false = some (some (X, Y)) := by
  unfold toPt
  rw [if_neg (by decide), dif_pos ⟨X.isLt, Y.isLt⟩]
  exact if_pos h
end Go.Proofs.YtdaobioomoajfaaGreat
namespace Go.Proofs.YtdaobioomoajfaaGreat
open Go.RowKit M
theorem onS_some (x y : Fp) (w : World) :
    Calls Tryz.prog 41 #[.agg #[.int .u64 (x.val : Nat), .int .u64 (y.val : Nat), .bool false]] w fun e w' => e = .returned (.bool (decide (y * y = crv x))) ∧ Below w.heap.size w w' := by
  have hx := val_lt x
  have hy := val_lt y
  have e : decide (y * y = crv x) = (((y * y).val : Int) == ((crv x).val : Int)) := by
    rw [Bool.eq_iff_iff]; simp [Fin.ext_iff]; omega
  have L1 := fun w => fmul_v (w := w) y y
  have L2 := fun w => rightS (w := w) x
  rw [e]
  clear e
  generalize (y * y).val = r1 at *
  generalize (crv x).val = r2 at *
  generalize x.val = X at *
  generalize y.val = Y at *
  have hxi : (X : Int) < 2305843009213693951 := by omega
  have hyi : (Y : Int) < 2305843009213693951 := by omega
  clear hx hy
  go_enter Tryz.func41, Tryz.ntmps41
  go_wp2
  go_region_held3 (fun w' => w'.cell? ⟨w.heap.size, 0, none⟩ = some (.int .u64 (X : Int)) ∧ w'.cell? ⟨w.heap.size, 1, none⟩ = some (.int .u64 (Y : Int))) (go_keep) (first
    | (go_at_call 50; refine (L1 _).mono ?_; rintro e w' ⟨rfl, rfl⟩)
    | (go_at_call 45; refine (L2 _).mono ?_; rintro e w' ⟨rfl, rfl⟩))
  clear L1 L2
  go_wp2
  go_ret
  exact ⟨rfl, ((Below.refl _ _).alloc (Nat.le_refl _) _).drew⟩
theorem onS_inf (x y : Nat) (w : World) :
    Calls Tryz.prog 41 #[.agg #[.int .u64 x, .int .u64 y, .bool true]] w fun e w' => e = .returned (.bool (decide (x = 0 ∧ y = 0))) ∧ Below w.heap.size w w' := by
  have e : decide (x = 0 ∧ y = 0) = (((x : Int) == 0) && ((y : Int) == 0)) := by
    rw [Bool.eq_iff_iff]; simp
  rw [e]
  clear e
  by_cases h : x = 0
  · subst h
    go_enter Tryz.func41, Tryz.ntmps41
    go_wp2
    go_ret
    exact ⟨rfl, (Below.refl _ _).alloc (Nat.le_refl _) _⟩
  · have h' : ((x : Int) == 0) = false := by simp; omega
    go_enter Tryz.func41, Tryz.ntmps41
    go_wp2
    go_ret
    exact ⟨by rw [h']; rfl, (Below.refl _ _).alloc (Nat.le_refl _) _⟩
theorem onS_bigx (x y : Int) (w : World) (h : 2305843009213693951 ≤ x) :
    Calls Tryz.prog 41 #[.agg #[.int .u64 x, .int .u64 y, .bool false]] w fun e w' => e = .returned (.bool false) ∧ Below w.heap.size w w' := by
  have h2 : (x < 2305843009213693951) = False := by simp; omega
  have h3 : decide (x < 2305843009213693951) = false := by simp; omega
  clear h
  go_enter Tryz.func41, Tryz.ntmps41
  go_wp2
  go_region
  go_wp2
  go_ret
  exact ⟨rfl, ((Below.refl _ _).alloc (Nat.le_refl _) _).drew⟩
end Go.Proofs.YtdaobioomoajfaaGreat
