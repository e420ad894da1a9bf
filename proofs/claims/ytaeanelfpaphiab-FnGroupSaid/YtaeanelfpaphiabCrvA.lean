import Derived.Test.YtaeanelfpaphiabNumV
import Derived.Test.YtaeanelfpaphiabOrd
import Derived.Deep.RegionHeld3
namespace Go.Proofs.Ytaeanelfpaphiab
open Go.RowKit M
set_option linter.unusedVariables false

theorem val_lt (a : Fp) : a.val < 2305843009213693951 := a.isLt
theorem fadd (x y : Int) (a b : Fp) (hx : x = a.val) (hy : y = b.val) (w : World) :
    Calls Try.prog 53 #[.int .u64 x, .int .u64 y, .int .u64 2305843009213693951] w fun e w' => e = .returned (.int .u64 ((a + b).val : Nat)) ∧ w = w' := by
  have := l2add_int x y a.val b.val 2305843009213693951 hx hy w a.isLt b.isLt (by decide)
  rw [Fin.val_add]
  exact this
theorem fmul (x y : Int) (a b : Fp) (hx : x = a.val) (hy : y = b.val) (w : World) :
    Calls Try.prog 52 #[.int .u64 x, .int .u64 y] w fun e w' => e = .returned (.int .u64 ((a * b).val : Nat)) ∧ w = w' := by
  subst hx hy
  rw [Fin.val_mul]
  exact l2times_any a.val b.val w a.isLt b.isLt
theorem fi_val (a : Fp) : (fi a).val = ivn 2305843009213693951 a.val := by
  unfold fi ivn
  generalize a.val ^ (2305843009213693951 - 2) = z
  show z % 2305843009213693951 % 2305843009213693951 = _
  omega
theorem finv (x : Int) (a : Fp) (hx : x = a.val) (w : World) :
    Calls Try.prog 71 #[.int .u64 x, .int .u64 2305843009213693951] w fun e w' => e = .returned (.int .u64 ((fi a).val : Nat)) ∧ w = w' := by
  subst hx
  rw [fi_val]
  exact invS_any a.val 2305843009213693951 w (Nat.lt_trans a.isLt (by decide)) (by decide) (by decide)
set_option maxRecDepth 100000 in
theorem fsub (x y : Int) (a b : Fp) (hx : x = a.val) (hy : y = b.val) (w : World) :
    Calls Try.prog 70 #[.int .u64 x, .int .u64 y] w fun e w' => e = .returned (.int .u64 ((a - b).val : Nat)) ∧ w = w' := by
  subst hx hy
  have ha := val_lt a
  have hb := val_lt b
  have e : a - b = a + (0 - b) := by grobner
  have e2 : (0 - b).val = (2305843009213693951 - b.val) % 2305843009213693951 := by
    rw [Fin.val_sub]; rfl
  have L := fun w x hx => fadd (a.val : Int) x a (0 - b) rfl hx w
  rw [← e] at L
  have hx : Hid ((2305843009213693951 - (b.val : Int)) % 2305843009213693951 = ((0 - b).val : Nat)) := by simp only [Hid]; rw [e2]; omega
  clear e e2
  generalize (a - b).val = c at *
  generalize (0 - b).val = d at *
  generalize a.val = A at *
  generalize b.val = B at *
  go_enter Try.func70, Try.ntmps70
  go_wp2_with fail
  refine (L _ _ (by have := hx.out; omega)).mono ?_
  rintro e w' ⟨rfl, rfl⟩
  clear L hx
  go_wp2
  go_ret
  exact ⟨rfl, rfl⟩
theorem fmul_v (a b : Fp) (w : World) :
    Calls Try.prog 52 #[.int .u64 (a.val : Nat), .int .u64 (b.val : Nat)] w fun e w' => e = .returned (.int .u64 ((a * b).val : Nat)) ∧ w = w' := fmul _ _ a b rfl rfl w
theorem fsub_v (a b : Fp) (w : World) :
    Calls Try.prog 70 #[.int .u64 (a.val : Nat), .int .u64 (b.val : Nat)] w fun e w' => e = .returned (.int .u64 ((a - b).val : Nat)) ∧ w = w' := fsub _ _ a b rfl rfl w
set_option maxRecDepth 100000 in
theorem rightS (x : Fp) (w : World) :
    Calls Try.prog 43 #[.int .u64 (x.val : Nat)] w fun e w' => e = .returned (.int .u64 ((crv x).val : Nat)) ∧ w = w' := by
  have e : crv x = x * x * x - 3 * x + 111 := rfl
  have L1 := fmul_v (w := w) x x
  have L2 := fmul_v (w := w) (x * x) x
  have L3 := fmul (w := w) 3 (x.val : Nat) 3 x rfl rfl
  have L4 := fsub_v (w := w) (x * x * x) (3 * x)
  have L5 := fadd (w := w) ((x * x * x - 3 * x).val : Nat) 111 (x * x * x - 3 * x) 111 rfl rfl
  rw [← e] at L5
  clear e
  have hx := val_lt x
  generalize (crv x).val = r at *
  generalize (x * x * x - 3 * x).val = r4 at *
  generalize (3 * x).val = r3 at *
  generalize (x * x * x).val = r2 at *
  generalize (x * x).val = r1 at *
  generalize x.val = X at *
  go_enter Try.func43, Try.ntmps43
  go_wp2_with fail
  refine L1.mono ?_
  rintro e w' ⟨rfl, rfl⟩
  clear L1
  go_wp2_with fail
  refine L2.mono ?_
  rintro e w' ⟨rfl, rfl⟩
  clear L2
  go_wp2_with fail
  refine L3.mono ?_
  rintro e w' ⟨rfl, rfl⟩
  clear L3
  go_wp2_with fail
  refine L4.mono ?_
  rintro e w' ⟨rfl, rfl⟩
  clear L4
  go_wp2_with fail
  refine L5.mono ?_
  rintro e w' ⟨rfl, rfl⟩
  clear L5
  go_wp2
  go_ret
  exact ⟨rfl, rfl⟩
/-- a point as the program has it -/
def ptV : Pt → Value
  | none => .agg #[.int .u64 0, .int .u64 0, .bool true]
  | some (x, y) => .agg #[.int .u64 (x.val : Nat), .int .u64 (y.val : Nat), .bool false]
set_option maxRecDepth 100000 in
set_option maxHeartbeats 4000000 in
theorem onS_some (x y : Fp) (w : World) :
    Calls Try.prog 29 #[.agg #[.int .u64 (x.val : Nat), .int .u64 (y.val : Nat), .bool false]] w fun e w' => e = .returned (.bool (decide (y * y = crv x))) ∧ Below w.heap.size w w' := by
  have hx := val_lt x
  have hy := val_lt y
  have e : decide (y * y = crv x) = (((y * y).val : Int) == ((crv x).val : Int)) := by
    rw [Bool.eq_iff_iff]; simp [Fin.ext_iff]; omega
  have L1 := fun w => fmul_v (w := w) y y
  have L2 := fun w => rightS (w := w) x
  rw [e]
  clear e
  generalize (y * y).val = r1 at *
  generalize (crv x).val = r2 at *
  generalize x.val = X at *
  generalize y.val = Y at *
  have hxi : (X : Int) < 2305843009213693951 := by omega
  have hyi : (Y : Int) < 2305843009213693951 := by omega
  clear hx hy
  go_enter Try.func29, Try.ntmps29
  go_wp2
  go_region_held3 (fun w' => w'.cell? ⟨w.heap.size, 0, none⟩ = some (.int .u64 (X : Int)) ∧ w'.cell? ⟨w.heap.size, 1, none⟩ = some (.int .u64 (Y : Int))) (go_keep) (first
    | (go_at_call 52; refine (L1 _).mono ?_; rintro e w' ⟨rfl, rfl⟩)
    | (go_at_call 43; refine (L2 _).mono ?_; rintro e w' ⟨rfl, rfl⟩))
  clear L1 L2
  go_wp2
  go_ret
  exact ⟨rfl, ((Below.refl _ _).alloc (Nat.le_refl _) _).drew⟩
set_option maxRecDepth 100000 in
theorem onS_inf (x y : Nat) (w : World) :
    Calls Try.prog 29 #[.agg #[.int .u64 x, .int .u64 y, .bool true]] w fun e w' => e = .returned (.bool (decide (x = 0 ∧ y = 0))) ∧ Below w.heap.size w w' := by
  have e : decide (x = 0 ∧ y = 0) = (((x : Int) == 0) && ((y : Int) == 0)) := by
    rw [Bool.eq_iff_iff]; simp
  rw [e]
  clear e
  by_cases h : x = 0
  · subst h
    go_enter Try.func29, Try.ntmps29
    go_wp2
    go_ret
    exact ⟨rfl, (Below.refl _ _).alloc (Nat.le_refl _) _⟩
  · have h' : ((x : Int) == 0) = false := by simp; omega
    go_enter Try.func29, Try.ntmps29
    go_wp2
    go_ret
    exact ⟨by rw [h']; rfl, (Below.refl _ _).alloc (Nat.le_refl _) _⟩
set_option maxRecDepth 100000 in
theorem onS_bigx (x y : Int) (w : World) (h : 2305843009213693951 ≤ x) :
    Calls Try.prog 29 #[.agg #[.int .u64 x, .int .u64 y, .bool false]] w fun e w' => e = .returned (.bool false) ∧ Below w.heap.size w w' := by
  have h2 : (x < 2305843009213693951) = False := by simp; omega
  have h3 : decide (x < 2305843009213693951) = false := by simp; omega
  clear h
  go_enter Try.func29, Try.ntmps29
  go_wp2
  go_region
  go_wp2
  go_ret
  exact ⟨rfl, ((Below.refl _ _).alloc (Nat.le_refl _) _).drew⟩
end Go.Proofs.Ytaeanelfpaphiab
