import Derived.Test.YtmbphmamdkgjjaaCrvB
namespace Go.Proofs.Ytmbphmamdkgjjaa
open Go.RowKit M
set_option linter.unusedVariables false

set_option maxRecDepth 100000 in
theorem onS_bigy (x y : Int) (w : World) (h1 : x < 2305843009213693951) (h : 2305843009213693951 ≤ y) :
    Calls Try.prog 9 #[.agg #[.int .u64 x, .int .u64 y, .bool false]] w fun e w' => e = .returned (.bool false) ∧ Below w.heap.size w w' := by
  have h2 : (y < 2305843009213693951) = False := by simp; omega
  have h3 : decide (y < 2305843009213693951) = false := by simp; omega
  have h4 : (x < 2305843009213693951) = True := by simp [h1]
  have h5 : decide (x < 2305843009213693951) = true := by simp [h1]
  clear h h1
  go_enter Try.func9, Try.ntmps9
  go_wp2
  go_region
  go_wp2
  go_ret
  exact ⟨rfl, ((Below.refl _ _).alloc (Nat.le_refl _) _).drew⟩

/-- the point of the curve that three fields are, if they are one -/
noncomputable def toPt (x y : Nat) (b : Bool) : Option Pt :=
  if b = true then (if x = 0 ∧ y = 0 then some none else none)
  else if h : x < 2305843009213693951 ∧ y < 2305843009213693951 then
    (if (⟨y, h.2⟩ : Fp) * ⟨y, h.2⟩ = crv ⟨x, h.1⟩ then some (some (⟨x, h.1⟩, ⟨y, h.2⟩)) else none)
  else none
theorem toPt_on {x y : Nat} {b : Bool} {p : Pt} (h : toPt x y b = some p) : on p := by
  unfold toPt at h
  split at h
  · split at h
    · cases h; trivial
    · cases h
  · split at h
    · split at h
      · cases h; assumption
      · cases h
    · cases h
theorem toPt_W {x y : Nat} {b : Bool} {p : Pt} (h : toPt x y b = some p) : (.agg #[.int .u64 x, .int .u64 y, .bool b] : Value) = ptW p := by
  unfold toPt at h
  split at h
  · split at h
    · rename_i hb hxy
      obtain ⟨rfl, rfl⟩ := hxy
      subst hb; cases h; rfl
    · cases h
  · split at h
    · split at h
      · rename_i hb _ _
        have hb' : b = false := by simpa using hb
        subst hb'; cases h; rfl
      · cases h
    · cases h
theorem onS_any (x y : Nat) (b : Bool) (w : World) :
    Calls Try.prog 9 #[.agg #[.int .u64 x, .int .u64 y, .bool b]] w fun e w' => e = .returned (.bool (toPt x y b).isSome) ∧ Below w.heap.size w w' := by
  cases b
  · by_cases h1 : x < 2305843009213693951
    · by_cases h2 : y < 2305843009213693951
      · have := onS_some ⟨x, h1⟩ ⟨y, h2⟩ w
        have e : (toPt x y false).isSome = decide ((⟨y, h2⟩ : Fp) * ⟨y, h2⟩ = crv ⟨x, h1⟩) := by
          unfold toPt
          rw [if_neg (by decide), dif_pos ⟨h1, h2⟩]
          split
          · rename_i h; rw [decide_eq_true h]; rfl
          · rename_i h; rw [decide_eq_false h]; rfl
        rw [e]; exact this
      · have := onS_bigy x y w (by omega) (by omega)
        have e : (toPt x y false).isSome = false := by
          unfold toPt
          rw [if_neg (by decide), dif_neg (fun h => h2 h.2)]; rfl
        rw [e]; exact this
    · have := onS_bigx x y w (by omega)
      have e : (toPt x y false).isSome = false := by
        unfold toPt
        rw [if_neg (by decide), dif_neg (fun h => h1 h.1)]; rfl
      rw [e]; exact this
  · have := onS_inf x y w
    have e : (toPt x y true).isSome = decide (x = 0 ∧ y = 0) := by
      unfold toPt
      rw [if_pos rfl]
      split
      · rename_i h; rw [decide_eq_true h]; rfl
      · rename_i h; rw [decide_eq_false h]; rfl
    rw [e]; exact this
end Go.Proofs.Ytmbphmamdkgjjaa
