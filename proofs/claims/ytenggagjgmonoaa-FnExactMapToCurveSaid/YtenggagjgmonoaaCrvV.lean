import Derived.Test.YtenggagjgmonoaaNumV
import Derived.Test.YtenggagjgmonoaaOrd
import Derived.Deep.RegionHeld3
namespace Go.Proofs.Ytenggagjgmonoaa
open Go.RowKit M
set_option linter.unusedVariables false

theorem val_lt (a : Fp) : a.val < 2305843009213693951 := a.isLt
theorem fadd (x y : Int) (a b : Fp) (hx : x = a.val) (hy : y = b.val) (w : World) :
    Calls Try.prog 8 #[.int .u64 x, .int .u64 y, .int .u64 2305843009213693951] w fun e w' => e = .returned (.int .u64 ((a + b).val : Nat)) ∧ w = w' := by
  have := l2add_int x y a.val b.val 2305843009213693951 hx hy w a.isLt b.isLt (by decide)
  rw [Fin.val_add]
  exact this
theorem fmul (x y : Int) (a b : Fp) (hx : x = a.val) (hy : y = b.val) (w : World) :
    Calls Try.prog 7 #[.int .u64 x, .int .u64 y] w fun e w' => e = .returned (.int .u64 ((a * b).val : Nat)) ∧ w = w' := by
  subst hx hy
  rw [Fin.val_mul]
  exact l2times_any a.val b.val w a.isLt b.isLt
theorem fi_val (a : Fp) : (fi a).val = ivn 2305843009213693951 a.val := by
  unfold fi ivn
  generalize a.val ^ (2305843009213693951 - 2) = z
  show z % 2305843009213693951 % 2305843009213693951 = _
  omega
theorem finv (x : Int) (a : Fp) (hx : x = a.val) (w : World) :
    Calls Try.prog 9 #[.int .u64 x, .int .u64 2305843009213693951] w fun e w' => e = .returned (.int .u64 ((fi a).val : Nat)) ∧ w = w' := by
  subst hx
  rw [fi_val]
  exact invS_any a.val 2305843009213693951 w (Nat.lt_trans a.isLt (by decide)) (by decide) (by decide)
set_option maxRecDepth 100000 in
theorem fsub (x y : Int) (a b : Fp) (hx : x = a.val) (hy : y = b.val) (w : World) :
    Calls Try.prog 15 #[.int .u64 x, .int .u64 y] w fun e w' => e = .returned (.int .u64 ((a - b).val : Nat)) ∧ w = w' := by
  subst hx hy
  have ha := val_lt a
  have hb := val_lt b
  have e : a - b = a + (0 - b) := by grobner
  have e2 : (0 - b).val = (2305843009213693951 - b.val) % 2305843009213693951 := by
    rw [Fin.val_sub]; rfl
  have L := fun w x hx => fadd (a.val : Int) x a (0 - b) rfl hx w
  rw [← e] at L
  have hx : Hid ((2305843009213693951 - (b.val : Int)) % 2305843009213693951 = ((0 - b).val : Nat)) := by simp only [Hid]; rw [e2]; omega
  clear e e2
  generalize (a - b).val = c at *
  generalize (0 - b).val = d at *
  generalize a.val = A at *
  generalize b.val = B at *
  go_enter Try.func15, Try.ntmps15
  go_wp2_with fail
  refine (L _ _ (by have := hx.out; omega)).mono ?_
  rintro e w' ⟨rfl, rfl⟩
  clear L hx
  go_wp2
  go_ret
  exact ⟨rfl, rfl⟩
theorem fmul_v (a b : Fp) (w : World) :
    Calls Try.prog 7 #[.int .u64 (a.val : Nat), .int .u64 (b.val : Nat)] w fun e w' => e = .returned (.int .u64 ((a * b).val : Nat)) ∧ w = w' := fmul _ _ a b rfl rfl w
theorem fsub_v (a b : Fp) (w : World) :
    Calls Try.prog 15 #[.int .u64 (a.val : Nat), .int .u64 (b.val : Nat)] w fun e w' => e = .returned (.int .u64 ((a - b).val : Nat)) ∧ w = w' := fsub _ _ a b rfl rfl w
set_option maxRecDepth 100000 in
theorem rightS (x : Fp) (w : World) :
    Calls Try.prog 11 #[.int .u64 (x.val : Nat)] w fun e w' => e = .returned (.int .u64 ((crv x).val : Nat)) ∧ w = w' := by
  have e : crv x = x * x * x - 3 * x + 111 := rfl
  have L1 := fmul_v (w := w) x x
  have L2 := fmul_v (w := w) (x * x) x
  have L3 := fmul (w := w) 3 (x.val : Nat) 3 x rfl rfl
  have L4 := fsub_v (w := w) (x * x * x) (3 * x)
  have L5 := fadd (w := w) ((x * x * x - 3 * x).val : Nat) 111 (x * x * x - 3 * x) 111 rfl rfl
  rw [← e] at L5
  clear e
  have hx := val_lt x
  generalize (crv x).val = r at *
  generalize (x * x * x - 3 * x).val = r4 at *
  generalize (3 * x).val = r3 at *
  generalize (x * x * x).val = r2 at *
  generalize (x * x).val = r1 at *
  generalize x.val = X at *
  go_enter Try.func11, Try.ntmps11
  go_wp2_with fail
  refine L1.mono ?_
  rintro e w' ⟨rfl, rfl⟩
  clear L1
  go_wp2_with fail
  refine L2.mono ?_
  rintro e w' ⟨rfl, rfl⟩
  clear L2
  go_wp2_with fail
  refine L3.mono ?_
  rintro e w' ⟨rfl, rfl⟩
  clear L3
  go_wp2_with fail
  refine L4.mono ?_
  rintro e w' ⟨rfl, rfl⟩
  clear L4
  go_wp2_with fail
  refine L5.mono ?_
  rintro e w' ⟨rfl, rfl⟩
  clear L5
  go_wp2
  go_ret
  exact ⟨rfl, rfl⟩
/-- a number of the field as a word; the walk does not look into it -/
def fv (a : Fp) : Int := (a.val : Int)
theorem vsub (a b : Fp) (w : World) : Calls Try.prog 15 #[.int .u64 (fv a), .int .u64 (fv b)] w fun e w' => e = .returned (.int .u64 (fv (a - b))) ∧ w = w' := fsub_v a b w
theorem vsub3 (a : Fp) (w : World) : Calls Try.prog 15 #[.int .u64 (fv a), .int .u64 3] w fun e w' => e = .returned (.int .u64 (fv (a - 3))) ∧ w = w' := fsub _ 3 a 3 rfl rfl w
theorem vmul (a b : Fp) (w : World) : Calls Try.prog 7 #[.int .u64 (fv a), .int .u64 (fv b)] w fun e w' => e = .returned (.int .u64 (fv (a * b))) ∧ w = w' := fmul_v a b w
theorem vmul3 (a : Fp) (w : World) : Calls Try.prog 7 #[.int .u64 3, .int .u64 (fv a)] w fun e w' => e = .returned (.int .u64 (fv (3 * a))) ∧ w = w' := fmul 3 _ 3 a rfl rfl w
theorem vadd (a b : Fp) (w : World) : Calls Try.prog 8 #[.int .u64 (fv a), .int .u64 (fv b), .int .u64 2305843009213693951] w fun e w' => e = .returned (.int .u64 (fv (a + b))) ∧ w = w' := fadd _ _ a b rfl rfl w
theorem vinv (a : Fp) (w : World) : Calls Try.prog 9 #[.int .u64 (fv a), .int .u64 2305843009213693951] w fun e w' => e = .returned (.int .u64 (fv (fi a))) ∧ w = w' := finv _ a rfl w
theorem fv_eq (a b : Fp) : (fv a == fv b) = decide (a = b) := by
  rw [Bool.eq_iff_iff]; simp [fv, Fin.ext_iff]; omega
theorem fv_zero (a : Fp) : (fv a == 0) = decide (a = 0) := fv_eq a 0

def ptW : Pt → Value
  | none => .agg #[.int .u64 0, .int .u64 0, .bool true]
  | some (x, y) => .agg #[.int .u64 (fv x), .int .u64 (fv y), .bool false]
end Go.Proofs.Ytenggagjgmonoaa
