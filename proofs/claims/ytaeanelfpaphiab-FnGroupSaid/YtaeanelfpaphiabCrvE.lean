import Derived.Test.YtaeanelfpaphiabCrvD
import Derived.Test.YtaeanelfpaphiabWordS
namespace Go.Proofs.Ytaeanelfpaphiab
open Go.RowKit M
set_option linter.unusedVariables false

/-- what three fields stand for: zero where they are no point -/
noncomputable def asPt (x y : Nat) (b : Bool) : Pt := (toPt x y b).getD none
theorem asPt_on (x y : Nat) (b : Bool) : on (asPt x y b) := by
  unfold asPt
  cases h : toPt x y b with
  | none => trivial
  | some p => exact toPt_on h
theorem asPt_some {x y : Nat} {b : Bool} {p : Pt} (h : toPt x y b = some p) : asPt x y b = p := by unfold asPt; rw [h]; rfl
theorem nt_none : ∀ k, nt k none = none
  | 0 => rfl
  | k + 1 => by rw [nt, nt_none k]; rfl
/-- the model's multiple, whatever the fields are -/
theorem timS_any (k x y : Nat) (b : Bool) (w : World) (hk : k < 18446744073709551616) :
    Calls Try.prog 8 #[.int .u64 k, .agg #[.int .u64 x, .int .u64 y, .bool b]] w fun e w' => e = .returned (ptW (nt k (asPt x y b))) ∧ Below w.heap.size w w' := by
  have O := onS_any x y b
  cases h : toPt x y b with
  | none =>
    rw [h] at O
    have := timS_no k x y b w O
    have e : asPt x y b = none := by unfold asPt; rw [h]; rfl
    rw [e, nt_none]; exact this
  | some p =>
    rw [h] at O
    have e := toPt_W h
    rw [ptW_eq] at e
    rw [e] at O ⊢
    rw [asPt_some h, ptW_eq]
    exact timS_yes k p w hk (toPt_on h) O

/-- the number of a point's text -/
def putN : Pt → Nat
  | none => 0
  | some (x, y) => x.val + 4611686018427387904 + 2305843009213693952 * (y.val % 2)
theorem putN_some (x y : Fp) : putN (some (x, y)) = x.val + 4611686018427387904 + 2305843009213693952 * (y.val % 2) := rfl
theorem putN_lt : ∀ p, putN p < 18446744073709551616
  | none => by decide
  | some (x, y) => by
    have hx := val_lt x
    have hy : y.val % 2 < 2 := Nat.mod_lt _ (by decide)
    rw [putN_some]
    generalize x.val = X at *
    generalize y.val % 2 = Z at *
    omega
set_option maxRecDepth 100000 in
theorem putS_inf (x y : Int) (w : World) :
    Calls Try.prog 28 #[.agg #[.int .u64 x, .int .u64 y, .bool true]] w fun e w' => e = .returned (.string (strOfNums (be8 (0 : Nat)))) ∧ Below w.heap.size w w' := by
  have L := fun w => wordS_any 0 w (by decide)
  go_enter Try.func28, Try.ntmps28
  go_wp2_with fail
  refine (L _).mono ?_
  rintro e w' ⟨rfl, hb⟩
  clear L
  go_wp2
  go_ret
  exact ⟨rfl, ((Below.refl _ w).alloc (Nat.le_refl _) _).trans (hb.mono (by simp))⟩
set_option maxRecDepth 100000 in
theorem putS_no (x y : Int) (w : World) (O : ∀ w, Calls Try.prog 29 #[.agg #[.int .u64 x, .int .u64 y, .bool false]] w fun e w' => e = .returned (.bool false) ∧ Below w.heap.size w w') :
    Calls Try.prog 28 #[.agg #[.int .u64 x, .int .u64 y, .bool false]] w fun e w' => e = .returned (.string (strOfNums (be8 (0 : Nat)))) ∧ Below w.heap.size w w' := by
  have L := fun w => wordS_any 0 w (by decide)
  go_enter Try.func28, Try.ntmps28
  go_wp2_with fail
  refine (O _).mono ?_
  rintro e w1 ⟨rfl, b1⟩
  go_wp2_with fail
  refine (L _).mono ?_
  rintro e w' ⟨rfl, hb⟩
  clear L
  go_wp2
  go_ret
  have b0 := ((Below.refl _ w).alloc (Nat.le_refl _) (Obj.cells #[.int .u64 x, .int .u64 y, .bool false] 25)).trans (b1.mono (by simp))
  exact ⟨rfl, b0.trans (hb.mono b0.size)⟩
set_option maxRecDepth 100000 in
theorem putS_yes (x y : Int) (n : Nat) (w : World) (hx0 : 0 ≤ x) (hx : x < 2305843009213693951) (hy0 : 0 ≤ y) (hn : (n : Int) = x + 4611686018427387904 + 2305843009213693952 * (y % 2))
    (O : ∀ w, Calls Try.prog 29 #[.agg #[.int .u64 x, .int .u64 y, .bool false]] w fun e w' => e = .returned (.bool true) ∧ Below w.heap.size w w') :
    Calls Try.prog 28 #[.agg #[.int .u64 x, .int .u64 y, .bool false]] w fun e w' => e = .returned (.string (strOfNums (be8 n))) ∧ Below w.heap.size w w' := by
  have L := fun w => wordS_any n w (by omega)
  rw [hn] at L ⊢
  clear hn
  go_enter Try.func28, Try.ntmps28
  go_wp2_with fail
  refine (O _).mono ?_
  rintro e w1 ⟨rfl, b1⟩
  have r0 := (R3.new w x y false).below b1 (by simp)
  have c0 := r0.c0
  have c1 := r0.c1
  go_wp2_with fail
  refine (L _).mono ?_
  rintro e w' ⟨rfl, hb⟩
  clear L
  go_wp2
  go_ret
  have b0 := ((Below.refl _ w).alloc (Nat.le_refl _) (Obj.cells #[.int .u64 x, .int .u64 y, .bool false] 25)).trans (b1.mono (by simp))
  exact ⟨rfl, b0.trans (hb.mono b0.size)⟩
/-- the model's text of a point -/
theorem putS_any (x y : Nat) (b : Bool) (w : World) :
    Calls Try.prog 28 #[.agg #[.int .u64 x, .int .u64 y, .bool b]] w fun e w' => e = .returned (.string (strOfNums (be8 (putN (asPt x y b) : Nat)))) ∧ Below w.heap.size w w' := by
  have O := onS_any x y b
  cases b with
  | true =>
    have e : asPt x y true = none := by
      unfold asPt toPt
      rw [if_pos rfl]
      split <;> rfl
    rw [e]
    exact putS_inf x y w
  | false =>
    cases h : toPt x y false with
    | none =>
      rw [h] at O
      have e : asPt x y false = none := by unfold asPt; rw [h]; rfl
      rw [e]
      exact putS_no x y w O
    | some p =>
      rw [h] at O
      have e := toPt_W h
      rw [asPt_some h]
      rcases p with _ | ⟨X, Y⟩
      · cases e
      · have e1 : (x : Int) = fv X ∧ (y : Int) = fv Y := by
          simp only [ptW] at e
          injection e with e
          injection e with e
          simpa using e
        have hX := val_lt X
        refine putS_yes x y (putN (some (X, Y))) w (by omega) ?_ (by omega) ?_ O
        · rw [e1.1]; unfold fv; omega
        · rw [e1.1, e1.2, putN_some]; unfold fv
          generalize X.val = A
          generalize Y.val = B
          omega
end Go.Proofs.Ytaeanelfpaphiab
