import Derived.Test.YtdaobioomoajfaaGreatMrg2
import Derived.Deep.RegionHeld3
set_option linter.unusedVariables false
set_option maxRecDepth 100000
set_option maxHeartbeats 16000000
namespace Go.Proofs.YtdaobioomoajfaaGreat
open Go.RowKit
theorem shr_64 (b : Nat) (h : b < 18446744073709551616) : b / 2 ^ 64 = 0 := Nat.div_eq_of_lt (by omega)
theorem mul_bit0 (a b j m r : Nat) (hr : r = a * (b / 2 ^ (j + 1)) % m) (h : b / 2 ^ j % 2 = 0) : (r + r) % m = a * (b / 2 ^ j) % m := by
  have e := shr_succ b j
  rw [h] at e
  have e' : b / 2 ^ j = 2 * (b / 2 ^ (j + 1)) := e
  rw [e', hr, Nat.mul_left_comm, Nat.two_mul, ← Nat.add_mod]
theorem mul_bit1 (a b j m r : Nat) (hr : r = a * (b / 2 ^ (j + 1)) % m) (h : b / 2 ^ j % 2 = 1) : ((r + r) % m + a) % m = a * (b / 2 ^ j) % m := by
  have e := shr_succ b j
  rw [h] at e
  rw [e, hr, Nat.mul_add, Nat.mul_one, Nat.mul_left_comm, Nat.two_mul, ← Nat.add_mod, Nat.mod_add_mod]
theorem mulS_slow (a b m : Nat) (w : World) (ha : a < 18446744073709551616) (hb : b < 18446744073709551616) (hm : m < 18446744073709551616) (h0 : m ≠ 0) (h1 : m ≠ 2305843009213693951) :
    Calls Tryz.prog 55 #[.int .u64 a, .int .u64 b, .int .u64 m] w fun e w' => e = .returned (.int .u64 (a * b % m : Nat)) ∧ w = w' := by
  have hres : Hid (a * b % m = (a % m) * (b % m) % m) := Nat.mul_mod a b m
  have hA : a % m < m := Nat.mod_lt _ (by omega)
  have hB : b % m < m := Nat.mod_lt _ (by omega)
  have eA : Hid ((a : Int) % (m : Int) = ((a % m : Nat) : Int)) := by simp [Hid]
  have eB : Hid ((b : Int) % (m : Int) = ((b % m : Nat) : Int)) := by simp [Hid]
  generalize a % m = A at *
  generalize b % m = B at *
  generalize a * b % m = c at *
  have z0 : ((m : Int) == 0) = false := by simp; omega
  have z1 : ((m : Int) == 2305843009213693951) = false := by simp; omega
  go_enter Tryz.func55, Tryz.ntmps55
  go_wp2
  go_loop [7, 8] (fun rv iv => ∃ (k : Nat) (x : Int) (r : Nat), x = (k : Int) - 1 ∧ k ≤ 64 ∧ r < m ∧ iv = .int .i64 x ∧ rv = .int .u64 (r : Int) ∧ Hid (r = A * (B / 2 ^ k) % m)) (fun _ i => (intOf i + 1).toNat)
  case atStart => exact ⟨64, 63, 0, rfl, by omega, by omega, rfl, rfl, by rw [shr_64 B (by omega)]; simp [Hid]⟩
  case round =>
    obtain ⟨k, x, r, hx, hk, hrm, rfl, rfl, hr⟩ := hrel
    rcases k with _ | j
    · have hneg : ¬ ((0 : Int) ≤ x) := by omega
      clear hx
      go_wp2
      go_ret
      refine ⟨ret_u64 ?_, rfl⟩
      rw [hres.out, hr.out, Nat.pow_zero, Nat.div_one]
    · obtain rfl : x = (j : Int) := by omega
      clear hx
      have hd := Nat.mod_lt (r + r) (show m > 0 by omega)
      have hd2 := Nat.mod_lt ((r + r) % m + A) (show m > 0 by omega)
      have hm0 : Hid (B / 2 ^ j % 2 = 0 → (r + r) % m = A * (B / 2 ^ j) % m) := mul_bit0 A B j m r hr.out
      have hm1 : Hid (B / 2 ^ j % 2 = 1 → ((r + r) % m + A) % m = A * (B / 2 ^ j) % m) := mul_bit1 A B j m r hr.out
      by_cases hbit : B / 2 ^ j % 2 = 1
      · have ht := bit1 _ B j eB.out hbit
        have hm1' := hm1.out hbit
        clear hm0 hm1 hbit
        go_wp2_with fail
        refine (l2add_any r r m _ hrm hrm hm).mono ?_
        rintro e w' ⟨rfl, rfl⟩
        have L := fun w => l2add_int ((r + r) % m : Nat) ((a : Int) % (m : Int)) ((r + r) % m) A m rfl eA.out w hd hA hm
        generalize (r + r) % m = d at *
        generalize (d + A) % m = d2 at *
        have hm1'' : Hid (d2 = A * (B / 2 ^ j) % m) := hm1'
        clear hm1' hd
        go_wp2_with fail
        refine (L _).mono ?_
        rintro e w' ⟨rfl, rfl⟩
        clear L
        go_wp2
        go_round
        case rel => exact ⟨j, (j : Int) - 1, d2, rfl, by omega, hd2, rfl, rfl, hm1''⟩
        case measure => simp [intOf]
      · have hb0 : B / 2 ^ j % 2 = 0 := by omega
        have ht := bit0 _ B j eB.out hb0
        have hm0' := hm0.out hb0
        clear hm0 hm1 hbit hb0 hd2
        go_wp2_with fail
        refine (l2add_any r r m _ hrm hrm hm).mono ?_
        rintro e w' ⟨rfl, rfl⟩
        generalize (r + r) % m = d at *
        have hm0'' : Hid (d = A * (B / 2 ^ j) % m) := hm0'
        clear hm0'
        go_wp2
        go_round
        case rel => exact ⟨j, (j : Int) - 1, d, rfl, by omega, hd, rfl, rfl, hm0''⟩
        case measure => simp [intOf]
theorem mulS_P (a b : Nat) (w : World) (ha : a < 18446744073709551616) (hb : b < 18446744073709551616) :
    Calls Tryz.prog 55 #[.int .u64 a, .int .u64 b, .int .u64 2305843009213693951] w fun e w' => e = .returned (.int .u64 (a * b % 2305843009213693951 : Nat)) ∧ w = w' := by
  have L := fun w => l2times_any (a % 2305843009213693951) (b % 2305843009213693951) w (Nat.mod_lt _ (by decide)) (Nat.mod_lt _ (by decide))
  rw [← Nat.mul_mod] at L
  generalize a * b % 2305843009213693951 = c at *
  go_enter Tryz.func55, Tryz.ntmps55
  go_wp2_with fail
  refine (L _).mono ?_
  rintro e w' ⟨rfl, rfl⟩
  clear L
  go_wp2
  go_ret
  exact ⟨rfl, rfl⟩
theorem mulS_any (a b m : Nat) (w : World) (ha : a < 18446744073709551616) (hb : b < 18446744073709551616) (hm : m < 18446744073709551616) (h0 : m ≠ 0) :
    Calls Tryz.prog 55 #[.int .u64 a, .int .u64 b, .int .u64 m] w fun e w' => e = .returned (.int .u64 (a * b % m : Nat)) ∧ w = w' := by
  by_cases h1 : m = 2305843009213693951
  · subst h1; exact mulS_P a b w ha hb
  · exact mulS_slow a b m w ha hb hm h0 h1
theorem pow_bit0 (a e j m r : Nat) (hr : r = a ^ (e / 2 ^ (j + 1)) % m) (h : e / 2 ^ j % 2 = 0) : r * r % m = a ^ (e / 2 ^ j) % m := by
  have e1 := shr_succ e j
  rw [h] at e1
  have e' : e / 2 ^ j = 2 * (e / 2 ^ (j + 1)) := e1
  rw [e', hr]
  generalize e / 2 ^ (j + 1) = q
  rw [Nat.two_mul, Nat.pow_add, ← Nat.mul_mod]
theorem pow_bit1 (a e j m r : Nat) (hr : r = a ^ (e / 2 ^ (j + 1)) % m) (h : e / 2 ^ j % 2 = 1) : (r * r % m) * a % m = a ^ (e / 2 ^ j) % m := by
  have e1 := shr_succ e j
  rw [h] at e1
  rw [e1, hr]
  generalize e / 2 ^ (j + 1) = q
  rw [Nat.pow_succ, Nat.two_mul, Nat.pow_add, ← Nat.mul_mod, Nat.mod_mul_mod]
theorem powS_any (a b m : Nat) (w : World) (ha : a < 18446744073709551616) (hb : b < 18446744073709551616) (hm : m < 18446744073709551616) (h0 : m ≠ 0) :
    Calls Tryz.prog 51 #[.int .u64 a, .int .u64 b, .int .u64 m] w fun e w' => e = .returned (.int .u64 (a ^ b % m : Nat)) ∧ w = w' := by
  obtain ⟨c, hc⟩ : ∃ c, Hid (c = a ^ b % m) := ⟨_, rfl⟩
  rw [← hc.out]
  have z0 : ((m : Int) == 0) = false := by simp; omega
  have e1 : Hid ((1 : Int) % (m : Int) = ((1 % m : Nat) : Int)) := by simp [Hid]
  have l1 := Nat.mod_lt 1 (show m > 0 by omega)
  obtain ⟨r1, hr1⟩ : ∃ r1, Hid (r1 = 1 % m) := ⟨_, rfl⟩
  rw [← hr1.out] at e1 l1
  go_enter Tryz.func51, Tryz.ntmps51
  go_wp2
  go_loop [7, 8] (fun rv iv => ∃ (k : Nat) (x : Int) (r : Nat), x = (k : Int) - 1 ∧ k ≤ 64 ∧ r < m ∧ iv = .int .i64 x ∧ rv = .int .u64 (r : Int) ∧ Hid (r = a ^ (b / 2 ^ k) % m)) (fun _ i => (intOf i + 1).toNat)
  case atStart => exact ⟨64, 63, r1, rfl, by omega, l1, rfl, by rw [← e1.out], by rw [shr_64 b (by omega), Nat.pow_zero]; exact hr1⟩
  case round =>
    obtain ⟨k, x, r, hx, hk, hrm, rfl, rfl, hr⟩ := hrel
    rcases k with _ | j
    · have hneg : ¬ ((0 : Int) ≤ x) := by omega
      clear hx
      go_wp2
      go_ret
      refine ⟨ret_u64 ?_, rfl⟩
      rw [hc.out, hr.out, Nat.pow_zero, Nat.div_one]
    · obtain rfl : x = (j : Int) := by omega
      clear hx
      have hd := Nat.mod_lt (r * r) (show m > 0 by omega)
      have hd2 := Nat.mod_lt ((r * r % m) * a) (show m > 0 by omega)
      have hm0 : Hid (b / 2 ^ j % 2 = 0 → r * r % m = a ^ (b / 2 ^ j) % m) := pow_bit0 a b j m r hr.out
      have hm1 : Hid (b / 2 ^ j % 2 = 1 → (r * r % m) * a % m = a ^ (b / 2 ^ j) % m) := pow_bit1 a b j m r hr.out
      by_cases hbit : b / 2 ^ j % 2 = 1
      · have ht := bit1 _ b j rfl hbit
        have hm1' := hm1.out hbit
        clear hm0 hm1 hbit
        go_wp2_with fail
        refine (mulS_any r r m _ (by omega) (by omega) hm h0).mono ?_
        rintro e w' ⟨rfl, rfl⟩
        have L := fun w => mulS_any (r * r % m) a m w (by omega) ha hm h0
        generalize r * r % m = d at *
        generalize d * a % m = d2 at *
        have hm1'' : Hid (d2 = a ^ (b / 2 ^ j) % m) := hm1'
        clear hm1' hd
        go_wp2_with fail
        refine (L _).mono ?_
        rintro e w' ⟨rfl, rfl⟩
        clear L
        go_wp2
        go_round
        case rel => exact ⟨j, (j : Int) - 1, d2, rfl, by omega, hd2, rfl, rfl, hm1''⟩
        case measure => simp [intOf]
      · have hb0 : b / 2 ^ j % 2 = 0 := by omega
        have ht := bit0 _ b j rfl hb0
        have hm0' := hm0.out hb0
        clear hm0 hm1 hbit hb0 hd2
        go_wp2_with fail
        refine (mulS_any r r m _ (by omega) (by omega) hm h0).mono ?_
        rintro e w' ⟨rfl, rfl⟩
        generalize r * r % m = d at *
        have hm0'' : Hid (d = a ^ (b / 2 ^ j) % m) := hm0'
        clear hm0'
        go_wp2
        go_round
        case rel => exact ⟨j, (j : Int) - 1, d, rfl, by omega, hd, rfl, rfl, hm0''⟩
        case measure => simp [intOf]
end Go.Proofs.YtdaobioomoajfaaGreat
namespace Go.Proofs.YtdaobioomoajfaaGreat
open Go.RowKit
theorem invS_any (a m : Nat) (w : World) (ha : a < 18446744073709551616) (hm : m < 18446744073709551616) (h2 : 2 ≤ m) :
    Calls Tryz.prog 56 #[.int .u64 a, .int .u64 m] w fun e w' => e = .returned (.int .u64 (M.ivn m a : Nat)) ∧ w = w' := by
  have z : ¬ ((m : Int) < 2) := by omega
  have L := fun w => powS_any a (m - 2) m w ha (by omega) hm (by omega)
  have e : ((m - 2 : Nat) : Int) = (m : Int) - 2 := by omega
  rw [e] at L
  have e2 : a ^ (m - 2) % m = M.ivn m a := rfl
  rw [e2] at L
  generalize M.ivn m a = c at *
  clear e e2
  go_enter Tryz.func56, Tryz.ntmps56
  go_wp2_with fail
  refine (L _).mono ?_
  rintro e w' ⟨rfl, rfl⟩
  clear L
  go_wp2
  go_ret
  exact ⟨rfl, rfl⟩
end Go.Proofs.YtdaobioomoajfaaGreat
namespace Go.Proofs.YtdaobioomoajfaaGreat.M
abbrev Fp := Fin 2305843009213693951
structure Ops (α : Type) where
  cst : Nat → α
  add : α → α → α
  sub : α → α → α
  mul : α → α → α
  isz : α → Bool
structure Is {α : Type} (A : Ops α) (ev : α → Fp) : Prop where
  cst_ev : ∀ n, ev (A.cst n) = Fin.ofNat _ n
  add_ev : ∀ a b, ev (A.add a b) = ev a + ev b
  sub_ev : ∀ a b, ev (A.sub a b) = ev a - ev b
  mul_ev : ∀ a b, ev (A.mul a b) = ev a * ev b
  isz_ev : ∀ a, A.isz a = true → ev a = 0
theorem of_mod (n : Nat) : (Fin.ofNat 2305843009213693951 (n % 2305843009213693951)) = Fin.ofNat 2305843009213693951 n := by
  apply Fin.ext; simp [Fin.ofNat]
theorem of_add (a b : Nat) : (Fin.ofNat 2305843009213693951 (a + b)) = Fin.ofNat 2305843009213693951 a + Fin.ofNat 2305843009213693951 b := by
  apply Fin.ext; simp [Fin.ofNat, Fin.val_add]
theorem of_mul (a b : Nat) : (Fin.ofNat 2305843009213693951 (a * b)) = Fin.ofNat 2305843009213693951 a * Fin.ofNat 2305843009213693951 b := by
  apply Fin.ext; simp [Fin.ofNat, Fin.val_mul, Nat.mul_mod]
theorem of_P : (Fin.ofNat 2305843009213693951 2305843009213693951) = 0 := by decide
theorem of_sub (a b : Nat) : (Fin.ofNat 2305843009213693951 ((a + (2305843009213693951 - b % 2305843009213693951)))) = Fin.ofNat 2305843009213693951 a - Fin.ofNat 2305843009213693951 b := by
  have h : Fin.ofNat 2305843009213693951 (2305843009213693951 - b % 2305843009213693951) + Fin.ofNat 2305843009213693951 b = 0 := by
    rw [← of_mod b, ← of_add, Nat.sub_add_cancel (Nat.le_of_lt (Nat.mod_lt _ (by decide)))]; exact of_P
  rw [of_add]
  grobner
def base : Ops Nat where
  cst n := n
  add a b := (a + b) % 2305843009213693951
  sub a b := (a + (2305843009213693951 - b % 2305843009213693951)) % 2305843009213693951
  mul a b := a * b % 2305843009213693951
  isz a := a % 2305843009213693951 == 0
theorem base_is : Is base (fun a => Fin.ofNat _ a) where
  cst_ev _ := rfl
  add_ev a b := by show Fin.ofNat _ ((a + b) % 2305843009213693951) = _; rw [of_mod, of_add]
  sub_ev a b := by show Fin.ofNat _ ((a + (2305843009213693951 - b % 2305843009213693951)) % 2305843009213693951) = _; rw [of_mod, of_sub]
  mul_ev a b := by show Fin.ofNat _ (a * b % 2305843009213693951) = _; rw [of_mod, of_mul]
  isz_ev a h := by
    have : a % 2305843009213693951 = 0 := by simpa [base] using h
    apply Fin.ext; simp [Fin.ofNat, this]
section lists
variable {α : Type} (A : Ops α) (ev : α → Fp)
def lev (x : Fp) : List α → Fp
  | [] => 0
  | a :: l => ev a + x * lev x l
def ladd : List α → List α → List α
  | [], q => q
  | p, [] => p
  | a :: p, b :: q => A.add a b :: ladd p q
def lsub : List α → List α → List α
  | p, [] => p
  | [], b :: q => A.sub (A.cst 0) b :: lsub [] q
  | a :: p, b :: q => A.sub a b :: lsub p q
def lscale (a : α) : List α → List α
  | [] => []
  | b :: q => A.mul a b :: lscale a q
def lmul : List α → List α → List α
  | [], _ => []
  | a :: p, q => ladd A (lscale A a q) (A.cst 0 :: lmul p q)
def lisz : List α → Bool
  | [] => true
  | a :: l => A.isz a && lisz l
def lst : Ops (List α) where
  cst n := [A.cst n]
  add := ladd A
  sub := lsub A
  mul := lmul A
  isz := lisz A
theorem cst0 (I : Is A ev) : ev (A.cst 0) = 0 := by rw [I.cst_ev]; rfl
theorem ladd_ev (I : Is A ev) (x : Fp) : ∀ p q, lev ev x (ladd A p q) = lev ev x p + lev ev x q
  | [], q => by simp only [ladd, lev]; grobner
  | a :: p, [] => by simp only [ladd, lev]; grobner
  | a :: p, b :: q => by simp only [ladd, lev]; rw [I.add_ev, ladd_ev I x p q]; grobner
theorem lsub_ev (I : Is A ev) (x : Fp) : ∀ p q, lev ev x (lsub A p q) = lev ev x p - lev ev x q
  | [], [] => by simp only [lsub, lev]; grobner
  | a :: p, [] => by simp only [lsub, lev]; grobner
  | [], b :: q => by simp only [lsub, lev]; rw [I.sub_ev, lsub_ev I x [] q, cst0 A ev I]; simp only [lev]; grobner
  | a :: p, b :: q => by simp only [lsub, lev]; rw [I.sub_ev, lsub_ev I x p q]; grobner
theorem lscale_ev (I : Is A ev) (x : Fp) (a : α) : ∀ q, lev ev x (lscale A a q) = ev a * lev ev x q
  | [] => by simp only [lscale, lev]; grobner
  | b :: q => by simp only [lscale, lev]; rw [I.mul_ev, lscale_ev I x a q]; grobner
theorem lmul_ev (I : Is A ev) (x : Fp) : ∀ p q, lev ev x (lmul A p q) = lev ev x p * lev ev x q
  | [], q => by simp only [lmul, lev]; grobner
  | a :: p, q => by simp only [lmul]; rw [ladd_ev A ev I, lscale_ev A ev I]; simp only [lev]; rw [lmul_ev I x p q, cst0 A ev I]; grobner
theorem lisz_ev (I : Is A ev) (x : Fp) : ∀ p, lisz A p = true → lev ev x p = 0
  | [], _ => rfl
  | a :: p, h => by
    simp only [lisz, Bool.and_eq_true] at h
    simp only [lev]; rw [I.isz_ev a h.1, lisz_ev I x p h.2]; grobner
theorem lst_is (I : Is A ev) (x : Fp) : Is (lst A) (lev ev x) where
  cst_ev n := by simp only [lst, lev]; rw [I.cst_ev]; grobner
  add_ev := ladd_ev A ev I x
  sub_ev := lsub_ev A ev I x
  mul_ev := lmul_ev A ev I x
  isz_ev := lisz_ev A ev I x
end lists
def pr {α : Type} (A : Ops α) (r : α) : Ops (α × α) where
  cst n := (A.cst n, A.cst 0)
  add a b := (A.add a.1 b.1, A.add a.2 b.2)
  sub a b := (A.sub a.1 b.1, A.sub a.2 b.2)
  mul a b := (A.add (A.mul a.1 b.1) (A.mul r (A.mul a.2 b.2)), A.add (A.mul a.1 b.2) (A.mul a.2 b.1))
  isz a := A.isz a.1 && A.isz a.2
def pev {α : Type} (ev : α → Fp) (y : Fp) (a : α × α) : Fp := ev a.1 + ev a.2 * y
theorem pr_is {α : Type} (A : Ops α) (ev : α → Fp) (I : Is A ev) (r : α) (y : Fp) (h : y * y = ev r) : Is (pr A r) (pev ev y) where
  cst_ev n := by simp only [pr, pev, I.cst_ev]; grobner
  add_ev a b := by simp only [pr, pev, I.add_ev]; grobner
  sub_ev a b := by simp only [pr, pev, I.sub_ev]; grobner
  mul_ev a b := by simp only [pr, pev, I.add_ev, I.mul_ev]; grobner
  isz_ev a h := by
    simp only [pr, Bool.and_eq_true] at h
    simp only [pev]
    rw [I.isz_ev _ h.1, I.isz_ev _ h.2]; grobner
def cX (X1 Y1 Z1 X2 Y2 Z2 : Fp) : Fp := (X1 * Y2 + X2 * Y1) * (Y1 * Y2 + 3 * (X1 * Z2 + X2 * Z1) - 333 * (Z1 * Z2)) - (Y1 * Z2 + Y2 * Z1) * (333 * (X1 * Z2 + X2 * Z1) - 3 * (X1 * X2) - 9 * (Z1 * Z2))
def cY (X1 Y1 Z1 X2 Y2 Z2 : Fp) : Fp := (3 * (X1 * X2) - 3 * (Z1 * Z2)) * (333 * (X1 * Z2 + X2 * Z1) - 3 * (X1 * X2) - 9 * (Z1 * Z2)) + (Y1 * Y2 - 3 * (X1 * Z2 + X2 * Z1) + 333 * (Z1 * Z2)) * (Y1 * Y2 + 3 * (X1 * Z2 + X2 * Z1) - 333 * (Z1 * Z2))
def cZ (X1 Y1 Z1 X2 Y2 Z2 : Fp) : Fp := (Y1 * Z2 + Y2 * Z1) * (Y1 * Y2 - 3 * (X1 * Z2 + X2 * Z1) + 333 * (Z1 * Z2)) + (X1 * Y2 + X2 * Y1) * (3 * (X1 * X2) - 3 * (Z1 * Z2))
section terms
variable {α : Type} (A : Ops α) (ev : α → Fp)
def tX (X1 Y1 Z1 X2 Y2 Z2 : α) : α := A.sub (A.mul (A.add (A.mul X1 Y2) (A.mul X2 Y1)) (A.sub (A.add (A.mul Y1 Y2) (A.mul (A.cst 3) (A.add (A.mul X1 Z2) (A.mul X2 Z1)))) (A.mul (A.cst 333) (A.mul Z1 Z2)))) (A.mul (A.add (A.mul Y1 Z2) (A.mul Y2 Z1)) (A.sub (A.sub (A.mul (A.cst 333) (A.add (A.mul X1 Z2) (A.mul X2 Z1))) (A.mul (A.cst 3) (A.mul X1 X2))) (A.mul (A.cst 9) (A.mul Z1 Z2))))
def tY (X1 Y1 Z1 X2 Y2 Z2 : α) : α := A.add (A.mul (A.sub (A.mul (A.cst 3) (A.mul X1 X2)) (A.mul (A.cst 3) (A.mul Z1 Z2))) (A.sub (A.sub (A.mul (A.cst 333) (A.add (A.mul X1 Z2) (A.mul X2 Z1))) (A.mul (A.cst 3) (A.mul X1 X2))) (A.mul (A.cst 9) (A.mul Z1 Z2)))) (A.mul (A.add (A.sub (A.mul Y1 Y2) (A.mul (A.cst 3) (A.add (A.mul X1 Z2) (A.mul X2 Z1)))) (A.mul (A.cst 333) (A.mul Z1 Z2))) (A.sub (A.add (A.mul Y1 Y2) (A.mul (A.cst 3) (A.add (A.mul X1 Z2) (A.mul X2 Z1)))) (A.mul (A.cst 333) (A.mul Z1 Z2))))
def tZ (X1 Y1 Z1 X2 Y2 Z2 : α) : α := A.add (A.mul (A.add (A.mul Y1 Z2) (A.mul Y2 Z1)) (A.add (A.sub (A.mul Y1 Y2) (A.mul (A.cst 3) (A.add (A.mul X1 Z2) (A.mul X2 Z1)))) (A.mul (A.cst 333) (A.mul Z1 Z2)))) (A.mul (A.add (A.mul X1 Y2) (A.mul X2 Y1)) (A.sub (A.mul (A.cst 3) (A.mul X1 X2)) (A.mul (A.cst 3) (A.mul Z1 Z2))))
theorem n3 : Fin.ofNat 2305843009213693951 3 = 3 := rfl
theorem n9 : Fin.ofNat 2305843009213693951 9 = 9 := rfl
theorem n333 : Fin.ofNat 2305843009213693951 333 = 333 := rfl
theorem tX_ev (I : Is A ev) (X1 Y1 Z1 X2 Y2 Z2 : α) : ev (tX A X1 Y1 Z1 X2 Y2 Z2) = cX (ev X1) (ev Y1) (ev Z1) (ev X2) (ev Y2) (ev Z2) := by
  simp only [tX, cX, I.add_ev, I.sub_ev, I.mul_ev, I.cst_ev, n3, n9, n333]
theorem tY_ev (I : Is A ev) (X1 Y1 Z1 X2 Y2 Z2 : α) : ev (tY A X1 Y1 Z1 X2 Y2 Z2) = cY (ev X1) (ev Y1) (ev Z1) (ev X2) (ev Y2) (ev Z2) := by
  simp only [tY, cY, I.add_ev, I.sub_ev, I.mul_ev, I.cst_ev, n3, n9, n333]
theorem tZ_ev (I : Is A ev) (X1 Y1 Z1 X2 Y2 Z2 : α) : ev (tZ A X1 Y1 Z1 X2 Y2 Z2) = cZ (ev X1) (ev Y1) (ev Z1) (ev X2) (ev Y2) (ev Z2) := by
  simp only [tZ, cZ, I.add_ev, I.sub_ev, I.mul_ev, I.cst_ev, n3, n333]
end terms
def O1 : Ops (List Nat × List Nat) := pr (lst base) [111, 2305843009213693948, 0, 1]
def O2 : Ops (List (List Nat × List Nat) × List (List Nat × List Nat)) := pr (lst O1) [([111], []), ([2305843009213693948], []), ([], []), ([1], [])]
abbrev Tm := List (List Nat × List Nat) × List (List Nat × List Nat)
def vX1 : Tm := ([([0, 1], [])], [])
def vY1 : Tm := ([([], [1])], [])
def vX2 : Tm := ([([], []), ([1], [])], [])
def vY2 : Tm := ([], [([1], [])])
def v1 : Tm := O2.cst 1
def vG : Tm := O2.cst 509478702933351334
def bX : Tm := ([([2161500717453475506], []), ([1174542309601076355], []), ([1528436108800054002], []), ([509478702933351334], [])], [([2305843009213693297], []), ([2305843009213693733], [])])
def bY : Tm := ([([2305843009213596178], []), ([1635], []), ([981], []), ([109], [])], [])
def bZ : Tm := ([([1013336099879625047], []), ([26377692027225896], []), ([1528436108800054002], []), ([509478702933351334], [])], [([436], [])])
def aX : Tm := ([([], [9, 2305843009213693729]), ([], [2305843009213693285, 3]), ([], [3]), ([], [0, 1])], [([9, 2305843009213693285, 3], []), ([2305843009213693729, 3, 0, 1], [])])
def aY : Tm := ([([2305843009213595410, 666, 2305843009213693942, 111], []), ([666, 2305843009213693924, 999, 2305843009213693948], []), ([2305843009213693942, 999, 2305843009213693942], []), ([111, 2305843009213693948, 0, 1], [])], [])
def aZ : Tm := ([([], [444, 2305843009213693948]), ([], [2305843009213693942]), ([], [0, 3]), ([], [1])], [([444, 2305843009213693942, 0, 1], []), ([2305843009213693948, 0, 3], [])])
def lX : Tm := ([([2266062909634493350, 2105108078040952962, 1655779090265898711, 1019675884031042865], [28436484402, 2305843004436320089]), ([185427925849112865, 1702644267032254989, 346933232121007911, 876334164614703616], [27713430504, 2305843009123873591]), ([268258476051313744, 1160957271530457698, 2142100187054085692, 567846299838842472], [2305843008700220893, 2305843008931615249]), ([529303233487956074, 944383870552142229, 1135648799096550892, 1342457424969164515], [321642432, 2305843009099351207]), ([1736298584554094978, 121714200401316783, 654949388347866010, 84122944388284030], [111847734, 641574]), ([279409133157177922, 609896821887700974, 28541322197979099, 9513774065993033], [2305843009213408807]), ([407591262632047152, 1203746239764155390, 578839195819921746, 192946398606640582], [2305843009213622665, 2305843009213670189])], [([2305842994634566375, 28582763274, 2305843009085806867, 63943542], [1291121704661670878, 1950220345770176329]), ([2305843004725669963, 2305843008799664863, 2138580, 20245224], [1722287382623797949, 148710699812508563]), ([225406332, 2305843008925841083, 1283148, 2305843009212695947], [57082644395958198, 638438144085680073]), ([63729684, 2305843009181187535, 142572, 2305843009213408807], [1918272676087212701, 155730070299268493]), ([5275164, 2305843009213622665, 0, 2305843009213670189], [1046515147259233630, 2296329235147700918])])
def lY : Tm := ([([2305839338644053808, 67455411147, 2305842966513415594, 9559559529], []), ([81792344538, 62106287922, 2305842967361897209, 2305843008893976241], []), ([2305842955803620812, 52969311801, 536676651, 2305843009024536550], []), ([2305842975646114555, 156971772, 2305843008733368883, 2305843009195587307], []), ([86719419, 142536357, 2305843009045280776, 1318791], []), ([2305843009165148185, 48118050, 213858, 213858], []), ([2305843009203036694, 178215, 106929, 11881], [])], [([1139347499901288498, 134374402730954088, 378166585455107236], []), ([2025429871897680777, 1745016734581667603, 1476267929119759427], []), ([475920033594201298, 1501002009966323946, 2196202687329304382], []), ([890707573641168560, 1391041576963276542, 695520788481638271], []), ([1903262454030680031, 1500681898847666111, 1903262454030680031], [])])
def lZ : Tm := ([([2188604749035709729, 1950191756843385720, 753184642879434644, 551926363421966237], [23896492920, 30367836]), ([294412666577487009, 1265043312850670218, 323159484630416897, 115644410707002637], [2305843008664078891, 187767324]), ([1732639531425777664, 491228466478824777, 1703538899516527416, 1482647732089259881], [2305843009117457851, 155688624]), ([333796337209767950, 1204739621137735226, 1721529265693799594, 1915778272507979598], [78129456, 2305843009212268231]), ([2140577264557865399, 340994844170095921, 252368833164852090, 1755545135591751304], [1996008, 427716]), ([1889731353889233602, 2220219042619756654, 28541322197979099, 9513774065993033], [427716, 142572]), ([2079013453835514426, 569325421753928713, 578839195819921746, 192946398606640582], [47524])], [([2305842990094574893, 383661252, 191830626, 2305843009171064923], [355622663443517622, 2299838920391080883]), ([255774168, 2305843009207278211, 60735672, 712860], [2157132309401185388, 367991343581287701]), ([192899916, 2305843009209844507, 2305843009210699939, 427716], [1667404865128013878, 1553239576336097482]), ([21956088, 2305843009213266235, 2305843009212838519, 47524], [2150112938914425458, 2229732816685749687]), ([71286, 0, 2305843009213622665], [9513774065993033, 2296329235147700918])])
def rX : Tm := ([([1885856899149449528, 1909709102757962122, 1593858225802100086, 243519128968615194, 428576832198421864, 866199093984228832, 118906679111610262], [28807278858, 2305843004056669165, 36169470, 2305843009180791211, 5589738]), ([1909709102757962122, 97266234467640796, 1998080156948799645, 373775007098140957, 583946597567261357, 1734188305297737051, 1680014725033269484], [2305842994132013809, 206492652, 2305843008918493393, 67959756, 2305843009213470283]), ([1593858225802100086, 1998080156948799645, 1535907099398001512, 249259866794213647, 287576852150544193, 33210040806213884, 112084484616800685], [167692140, 2305843009109582383, 202578462, 2305843009212079225, 2305843009213478131]), ([243519128968615194, 373775007098140957, 249259866794213647, 1632972742955594436, 1610187031593315929, 1492544642706835073, 1093939204740350701], [30201066, 177152904, 2305843009210790191, 2305843009211378791, 32046]), ([428576832198421864, 583946597567261357, 287576852150544193, 1610187031593315929, 310041413814451143, 1365066268907849491, 1951949210014716304], [16339536, 2305843009212404917, 2305843009211094301, 2305843009213646863]), ([866199093984228832, 1734188305297737051, 33210040806213884, 1492544642706835073, 1365066268907849491, 129724829965376277, 1528436108800054002], [2305843009213627243, 2305843009212826747, 2305843009213487941, 1308, 2305843009213691989]), ([118906679111610262, 1680014725033269484, 112084484616800685, 1093939204740350701, 1951949210014716304, 1528436108800054002, 509478702933351334], [2305843009213621357, 2305843009213671715, 654, 2305843009213693297, 2305843009213693733])], [([28807278858, 2305842994132013809, 167692140, 30201066, 16339536, 2305843009213627243, 2305843009213621357], [1692325662910389505, 1142064771415803324, 243032987670592724, 1791840577378979282, 677921060269776323]), ([2305843004056669165, 206492652, 2305843009109582383, 177152904, 2305843009212404917, 2305843009212826747, 2305843009213671715], [1142064771415803324, 181419997249559900, 1031939894323315310, 223361017845583272, 1598055410815738657]), ([36169470, 2305843008918493393, 202578462, 2305843009210790191, 2305843009211094301, 2305843009213487941, 654], [243032987670592724, 1031939894323315310, 356831734460793307, 336419105841677039, 1033140075398953842]), ([2305843009180791211, 67959756, 2305843009212079225, 2305843009211378791, 2305843009213646863, 1308, 2305843009213693297], [1791840577378979282, 223361017845583272, 336419105841677039, 439683417784189928, 1588541636749745624]), ([5589738, 2305843009213470283, 2305843009213478131, 32046, 0, 2305843009213691989, 2305843009213693733], [677921060269776323, 1598055410815738657, 1033140075398953842, 1588541636749745624, 751029208386414053])])
def rY : Tm := ([([2305839260938370842, 92977430877, 54270291438, 2305842973761177010, 186921702, 49101012, 2305843009202841148], []), ([92977430877, 64374975990, 2305842952323343789, 1169089092, 145181133, 2305843009164010225, 474804], []), ([54270291438, 2305842952323343789, 2422103715, 372345417, 2305843008943535380, 2422089, 103986], []), ([2305842973761177010, 1169089092, 372345417, 2305843009212026251, 4231053, 2305843009213262311, 2305843009213605334], []), ([186921702, 145181133, 2305843008943535380, 4231053, 2305843009211097244, 2305843009212275425, 1308], []), ([49101012, 2305843009164010225, 2422089, 2305843009213262311, 2305843009212275425, 9810, 981], []), ([2305843009202841148, 474804, 103986, 2305843009213605334, 1308, 981, 109], [])], [([], [2305842965910079993, 381342168, 294659046, 2305843009114820923, 223668]), ([], [381342168, 978641676, 2305843008911777467, 2248452, 2305843009213258387]), ([], [294659046, 2305843008911777467, 4061340, 2305843009212410803, 2305843009213040605]), ([], [2305843009114820923, 2248452, 2305843009212410803, 2305843009211508283, 7848]), ([], [223668, 2305843009213258387, 2305843009213040605, 7848, 1962])])
def rZ : Tm := ([([366067165220335679, 2165820030487784948, 1313546196699074487, 1334292268533161230, 374681532381777935, 1049455204817329562, 1799842644381070569], [2305842990137733007, 257818572, 2305843009211080567, 21499596, 2305843009213548763]), ([2165820030487784948, 2275264796303146961, 284670915022767086, 1672002503746999786, 1790121540038948772, 204965084252091841, 2193758524596893266], [515601828, 2305843009204982671, 193461048, 2305843009211370943, 3924]), ([1313546196699074487, 284670915022767086, 1256595665246563221, 1979620063397396635, 332607518320142203, 1736683239451040222, 1250735328124658111], [2305843009209338311, 64616508, 2305843009207596055, 11772, 145188]), ([1334292268533161230, 1672002503746999786, 1979620063397396635, 515336210326882748, 2176532309226505134, 1492544642706835073, 2251617596380194193], [2305843009192253215, 2305843009210209439, 0, 1548672, 2305843009213688719]), ([374681532381777935, 1790121540038948772, 332607518320142203, 2176532309226505134, 338582736012430242, 283498069795950263, 803784592440865845], [2305843009213548763, 2305843009213682179, 1742256, 2305843009213676947]), ([1049455204817329562, 204965084252091841, 1736683239451040222, 1492544642706835073, 283498069795950263, 158266152163355376, 1528436108800054002], [2305843009213690027, 580752, 2305843009213686103, 0, 1308]), ([1799842644381070569, 2193758524596893266, 1250735328124658111, 2251617596380194193, 803784592440865845, 1528436108800054002, 509478702933351334], [48396, 2305843009213692643, 0, 436])], [([2305842990137733007, 515601828, 2305843009209338311, 2305843009192253215, 2305843009213548763, 2305843009213690027, 48396], [1367033456855123531, 2116324177286889266, 480325897907211066, 1404270244252498032, 1899193825960264512]), ([257818572, 2305843009204982671, 64616508, 2305843009210209439, 2305843009213682179, 580752, 2305843009213692643], [2116324177286889266, 978922694553352223, 2003823970969690917, 439683417784189928, 1598055410815738657]), ([2305843009211080567, 193461048, 2305843009207596055, 0, 1742256, 2305843009213686103], [480325897907211066, 2003823970969690917, 1587154433966335150, 393501750237635237, 1061681397596932941]), ([21499596, 2305843009211370943, 11772, 1548672, 2305843009213676947, 0, 436], [1404270244252498032, 439683417784189928, 393501750237635237, 534821158444120258, 1607569184881731690]), ([2305843009213548763, 3924, 145188, 2305843009213688719, 0, 1308], [1899193825960264512, 1598055410815738657, 1061681397596932941, 1607569184881731690, 751029208386414053])])
theorem bX_ck : O2.isz (O2.sub (tX O2 vX2 vY2 v1 v1 vG v1) bX) = true := by decide +kernel
theorem bY_ck : O2.isz (O2.sub (tY O2 vX2 vY2 v1 v1 vG v1) bY) = true := by decide +kernel
theorem bZ_ck : O2.isz (O2.sub (tZ O2 vX2 vY2 v1 v1 vG v1) bZ) = true := by decide +kernel
theorem aX_ck : O2.isz (O2.sub (tX O2 vX1 vY1 v1 vX2 vY2 v1) aX) = true := by decide +kernel
theorem aY_ck : O2.isz (O2.sub (tY O2 vX1 vY1 v1 vX2 vY2 v1) aY) = true := by decide +kernel
theorem aZ_ck : O2.isz (O2.sub (tZ O2 vX1 vY1 v1 vX2 vY2 v1) aZ) = true := by decide +kernel
theorem lX_ck : O2.isz (O2.sub (tX O2 vX1 vY1 v1 bX bY bZ) lX) = true := by decide +kernel
theorem lY_ck : O2.isz (O2.sub (tY O2 vX1 vY1 v1 bX bY bZ) lY) = true := by decide +kernel
theorem lZ_ck : O2.isz (O2.sub (tZ O2 vX1 vY1 v1 bX bY bZ) lZ) = true := by decide +kernel
theorem rX_ck : O2.isz (O2.sub (tX O2 aX aY aZ v1 vG v1) rX) = true := by decide +kernel
theorem rY_ck : O2.isz (O2.sub (tY O2 aX aY aZ v1 vG v1) rY) = true := by decide +kernel
theorem rZ_ck : O2.isz (O2.sub (tZ O2 aX aY aZ v1 vG v1) rZ) = true := by decide +kernel
theorem XZ_ck : O2.isz (O2.sub (O2.mul lX rZ) (O2.mul lZ rX)) = true := by decide +kernel
theorem YZ_ck : O2.isz (O2.sub (O2.mul lY rZ) (O2.mul lZ rY)) = true := by decide +kernel
end Go.Proofs.YtdaobioomoajfaaGreat.M
namespace Go.Proofs.YtdaobioomoajfaaGreat.M
def fi (a : Fp) : Fp := Fin.ofNat _ (ivn 2305843009213693951 a.val)
theorem val_ne {a : Fp} (h : a ≠ 0) : a.val % 2305843009213693951 ≠ 0 := by
  intro e
  rw [Nat.mod_eq_of_lt a.isLt] at e
  exact h (Fin.ext e)
theorem fi_mul {a : Fp} (h : a ≠ 0) : a * fi a = 1 := by
  apply Fin.ext
  rw [Fin.val_mul]
  exact rootP.iv a.val (val_ne h) (by decide)
theorem noz {a b : Fp} (h : a * b = 0) : a = 0 ∨ b = 0 := by
  by_cases c : a = 0
  · exact Or.inl c
  · refine Or.inr ?_
    have := fi_mul c
    grobner
theorem ne_mul {a b : Fp} (h1 : a ≠ 0) (h2 : b ≠ 0) : a * b ≠ 0 := by
  intro h
  rcases noz h with e | e
  · exact h1 e
  · exact h2 e
def sqn : Nat → Fp → Fp
  | 0, x => x
  | k + 1, x => sqn k (x * x)
theorem sqn_val : ∀ k (x : Fp), (sqn k x).val = x.val ^ (2 ^ k) % 2305843009213693951
  | 0, x => by simp only [sqn]; rw [Nat.pow_zero, Nat.pow_one, Nat.mod_eq_of_lt x.isLt]
  | k + 1, x => by
    simp only [sqn]
    rw [sqn_val k (x * x), Fin.val_mul, ← Nat.pow_mod, ← Nat.pow_two, ← Nat.pow_mul, Nat.pow_succ, Nat.mul_comm 2]
theorem sqn61 (x : Fp) : sqn 61 x = x * x := by
  apply Fin.ext
  rw [sqn_val 61 x, rootP.two 61 x.val (by decide), Fin.val_mul]
def tsq (t : Nat × Nat × Nat) : Nat × Nat × Nat :=
  let m := 2305843009213693951
  let c3 := 2 * t.2.1 * t.2.2
  let c4 := t.2.2 * t.2.2
  ((t.1 * t.1 + (m - 111) * c3) % m, (2 * t.1 * t.2.1 + 3 * c3 + (m - 111) * c4) % m, (2 * t.1 * t.2.2 + t.2.1 * t.2.1 + 3 * c4) % m)
def tsn : Nat → Nat × Nat × Nat → Nat × Nat × Nat
  | 0, t => t
  | k + 1, t => tsn k (tsq t)
def tev (r : Fp) (t : Nat × Nat × Nat) : Fp := Fin.ofNat _ t.1 + Fin.ofNat _ t.2.1 * r + Fin.ofNat _ t.2.2 * (r * r)
theorem nm111 : Fin.ofNat 2305843009213693951 (2305843009213693951 - 111) = -111 := by decide
theorem n2 : Fin.ofNat 2305843009213693951 2 = 2 := rfl
theorem tsq_ev (r : Fp) (h : r * r * r = 3 * r - 111) (t : Nat × Nat × Nat) : tev r (tsq t) = tev r t * tev r t := by
  simp only [tev, tsq, of_mod, of_add, of_mul, nm111, n2, n3]
  grobner
theorem tsn_ev (r : Fp) (h : r * r * r = 3 * r - 111) : ∀ k t, tev r (tsn k t) = sqn k (tev r t)
  | 0, t => rfl
  | k + 1, t => by simp only [tsn, sqn]; rw [tsn_ev r h k, tsq_ev r h]
theorem no_root (r : Fp) : r * r * r - 3 * r + 111 ≠ 0 := by
  intro h0
  have h : r * r * r = 3 * r - 111 := by grobner
  have e : tsn 61 (0, 1, 0) = (311388172664779689, 246475026467563493, 2150148922881304106) := by decide +kernel
  have a := tsn_ev r h 61 (0, 1, 0)
  have b : tev r (0, 1, 0) = r := by
    show (0 : Fp) + 1 * r + 0 * (r * r) = r
    grobner
  rw [e, b, sqn61] at a
  have c : (311388172664779689 : Fp) + 246475026467563493 * r + 2150148922881304106 * (r * r) = r * r := a
  clear a b e h0
  grobner
abbrev Pt := Option (Fp × Fp)
def crv (x : Fp) : Fp := x * x * x - 3 * x + 111
def on : Pt → Prop
  | none => True
  | some (x, y) => y * y = crv x
theorem y_ne {x y : Fp} (h : on (some (x, y))) : y ≠ 0 := by
  intro e
  have h' : y * y = x * x * x - 3 * x + 111 := h
  subst e
  exact no_root x (by grobner)
theorem two_ne : (2 : Fp) ≠ 0 := by decide
theorem same_x {x y z : Fp} (h1 : on (some (x, y))) (h2 : on (some (x, z))) : y = z ∨ y + z = 0 := by
  have h1' : y * y = x * x * x - 3 * x + 111 := h1
  have h2' : z * z = x * x * x - 3 * x + 111 := h2
  have : (y - z) * (y + z) = 0 := by grobner
  rcases noz this with e | e
  · exact Or.inl (by grobner)
  · exact Or.inr e
def third (x1 y1 x2 s : Fp) : Pt := some ((s * s - x1 - x2), (s * (x1 - (s * s - x1 - x2)) - y1))
theorem third_on {x1 y1 x2 y2 s : Fp} (h1 : on (some (x1, y1))) (h2 : on (some (x2, y2))) (hx : x1 ≠ x2) (hs : s * (x2 - x1) = y2 - y1) : on (third x1 y1 x2 s) := by
  have h1' : y1 * y1 = x1 * x1 * x1 - 3 * x1 + 111 := h1
  have h2' : y2 * y2 = x2 * x2 * x2 - 3 * x2 + 111 := h2
  show (s * (x1 - (s * s - x1 - x2)) - y1) * (s * (x1 - (s * s - x1 - x2)) - y1) = (s * s - x1 - x2) * (s * s - x1 - x2) * (s * s - x1 - x2) - 3 * (s * s - x1 - x2) + 111
  have : (x2 - x1) * ((s * (x1 - (s * s - x1 - x2)) - y1) * (s * (x1 - (s * s - x1 - x2)) - y1) - ((s * s - x1 - x2) * (s * s - x1 - x2) * (s * s - x1 - x2) - 3 * (s * s - x1 - x2) + 111)) = 0 := by grobner
  rcases noz this with e | e
  · exact absurd (show x1 = x2 by grobner) hx
  · grobner
theorem third_dbl {x1 y1 s : Fp} (h1 : on (some (x1, y1))) (hs : s * (y1 + y1) = 3 * (x1 * x1) - 3) : on (third x1 y1 x1 s) := by
  have h1' : y1 * y1 = x1 * x1 * x1 - 3 * x1 + 111 := h1
  show (s * (x1 - (s * s - x1 - x1)) - y1) * (s * (x1 - (s * s - x1 - x1)) - y1) = (s * s - x1 - x1) * (s * s - x1 - x1) * (s * s - x1 - x1) - 3 * (s * s - x1 - x1) + 111
  grobner
end Go.Proofs.YtdaobioomoajfaaGreat.M
namespace Go.Proofs.YtdaobioomoajfaaGreat.M
def ad : Pt → Pt → Pt
  | none, q => q
  | some (x, y), none => some (x, y)
  | some (x1, y1), some (x2, y2) =>
    if x1 = x2 then
      if y1 + y2 = 0 then none else third x1 y1 x1 ((3 * (x1 * x1) - 3) * fi (y1 + y1))
    else third x1 y1 x2 ((y2 - y1) * fi (x2 - x1))
def ng : Pt → Pt
  | none => none
  | some (x, y) => some (x, (-y))
def pX : Pt → Fp
  | none => 0
  | some (x, _) => x
def pY : Pt → Fp
  | none => 1
  | some (_, y) => y
def pZ : Pt → Fp
  | none => 0
  | some (_, _) => 1
theorem sub_eq {a b : Fp} (h : a - b = 0) : a = b := by grobner
theorem sub_ne {a b : Fp} (h : a ≠ b) : b - a ≠ 0 := fun e => h (by grobner)
theorem dbl_ne {y : Fp} (h : y ≠ 0) : y + y ≠ 0 := by
  intro e
  have : (2 : Fp) * y = 0 := by grobner
  exact ne_mul two_ne h this
theorem ad_ways {x1 y1 x2 y2 : Fp} (h1 : on (some (x1, y1))) (h2 : on (some (x2, y2))) (m : Pt → Prop)
    (a : x1 = x2 → y1 + y2 = 0 → m none)
    (b : ∀ s, x1 = x2 → y1 = y2 → s * (y1 + y1) = 3 * (x1 * x1) - 3 → m (third x1 y1 x1 s))
    (d : ∀ s, x1 ≠ x2 → s * (x2 - x1) = y2 - y1 → m (third x1 y1 x2 s)) : m (ad (some (x1, y1)) (some (x2, y2))) := by
  simp only [ad]
  split
  · rename_i e
    split
    · rename_i e2; exact a e e2
    · rename_i e2
      subst e
      have e3 : y1 = y2 := by
        rcases same_x h1 h2 with r | r
        · exact r
        · exact absurd r e2
      refine b _ rfl e3 ?_
      have := fi_mul (dbl_ne (y_ne h1))
      grobner
  · rename_i e
    refine d _ e ?_
    have := fi_mul (sub_ne e)
    grobner
theorem ad_on : ∀ {p q : Pt}, on p → on q → on (ad p q)
  | none, _, _, h => h
  | some (_, _), none, h, _ => h
  | some (_, _), some (_, _), h1, h2 => by
    refine ad_ways h1 h2 on (fun _ _ => trivial) (fun s _ _ hs => third_dbl h1 hs) (fun s hx hs => third_on h1 h2 hx hs)
theorem ng_on : ∀ {p : Pt}, on p → on (ng p)
  | none, _ => trivial
  | some (x, y), h => by
    have h' : y * y = crv x := h
    show (-y) * (-y) = crv x
    grobner
def rep (X Y Z : Fp) (p : Pt) : Prop := ∃ l : Fp, l ≠ 0 ∧ X = l * pX p ∧ Y = l * pY p ∧ Z = l * pZ p
theorem rep_eq {X Y Z X' Y' Z' : Fp} : ∀ {p q : Pt}, rep X Y Z p → rep X' Y' Z' q → X * Z' = Z * X' → Y * Z' = Z * Y' → p = q
  | none, none, _, _, _, _ => rfl
  | none, some (x, y), ⟨l, h0, _, h2, h3⟩, ⟨m, g0, _, _, g3⟩, _, e2 => by
    simp only [pY, pZ] at h2 h3 g3
    exact absurd (show l * m = 0 by grobner) (ne_mul h0 g0)
  | some (x, y), none, ⟨l, h0, _, _, h3⟩, ⟨m, g0, _, g2, g3⟩, _, e2 => by
    simp only [pY, pZ] at h3 g2 g3
    exact absurd (show l * m = 0 by grobner) (ne_mul h0 g0)
  | some (x, y), some (x', y'), ⟨l, h0, h1, h2, h3⟩, ⟨m, g0, g1, g2, g3⟩, e1, e2 => by
    simp only [pX, pY, pZ] at h1 h2 h3 g1 g2 g3
    have a : (l * m) * (x - x') = 0 := by grobner
    have b : (l * m) * (y - y') = 0 := by grobner
    have n := ne_mul h0 g0
    have a' : x = x' := by
      rcases noz a with r | r
      · exact absurd r n
      · grobner
    have b' : y = y' := by
      rcases noz b with r | r
      · exact absurd r n
      · grobner
    rw [a', b']
theorem c3_ne {y : Fp} (h : y ≠ 0) : 8 * (y * y * y) ≠ 0 := ne_mul (by decide) (ne_mul (ne_mul h h) h)
theorem rep_ad : ∀ {p q : Pt}, on p → on q → rep (cX (pX p) (pY p) (pZ p) (pX q) (pY q) (pZ q)) (cY (pX p) (pY p) (pZ p) (pX q) (pY q) (pZ q)) (cZ (pX p) (pY p) (pZ p) (pX q) (pY q) (pZ q)) (ad p q)
  | none, none, _, _ => ⟨1, by decide, by simp only [ad, pX, pY, pZ, cX]; grobner, by simp only [ad, pX, pY, pZ, cY]; grobner, by simp only [ad, pX, pY, pZ, cZ]; grobner⟩
  | none, some (x, y), _, h => ⟨y, y_ne h, by simp only [ad, pX, pY, pZ, cX]; grobner, by simp only [ad, pX, pY, pZ, cY]; grobner, by simp only [ad, pX, pY, pZ, cZ]; grobner⟩
  | some (x, y), none, h, _ => ⟨y, y_ne h, by simp only [ad, pX, pY, pZ, cX]; grobner, by simp only [ad, pX, pY, pZ, cY]; grobner, by simp only [ad, pX, pY, pZ, cZ]; grobner⟩
  | some (x1, y1), some (x2, y2), h1, h2 => by
    have h1' : y1 * y1 = x1 * x1 * x1 - 3 * x1 + 111 := h1
    have h2' : y2 * y2 = x2 * x2 * x2 - 3 * x2 + 111 := h2
    refine ad_ways h1 h2 (fun r => rep (cX x1 y1 1 x2 y2 1) (cY x1 y1 1 x2 y2 1) (cZ x1 y1 1 x2 y2 1) r) ?_ ?_ ?_
    · intro e1 e2
      subst e1
      have e3 : y2 = - y1 := by grobner
      subst e3
      have d := fi_mul (dbl_ne (y_ne h1))
      have on2 := third_dbl (s := (3 * (x1 * x1) - 3) * fi (y1 + y1)) h1 (by grobner)
      have hs : ((3 * (x1 * x1) - 3) * fi (y1 + y1)) * (y1 + y1) = 3 * (x1 * x1) - 3 := by grobner
      generalize (3 * (x1 * x1) - 3) * fi (y1 + y1) = s at on2 hs
      refine ⟨8 * (y1 * y1 * y1) * (s * (x1 - (s * s - x1 - x1)) - y1), ne_mul (c3_ne (y_ne h1)) (y_ne on2), ?_, ?_, ?_⟩
      · simp only [pX, cX]; grobner
      · simp only [pY, cY]; grobner
      · simp only [pZ, cZ]; grobner
    · intro s e1 e2 hs
      subst e1 e2
      refine ⟨8 * (y1 * y1 * y1), c3_ne (y_ne h1), ?_, ?_, ?_⟩
      · simp only [third, pX, cX]; grobner
      · simp only [third, pY, cY]; grobner
      · simp only [third, pZ, cZ]; grobner
    · intro s hx hs
      have d := fi_mul (sub_ne hx)
      have hd := sub_ne hx
      have hs' : ((- y2 - y1) * fi (x2 - x1)) * (x2 - x1) = - y2 - y1 := by grobner
      generalize (- y2 - y1) * fi (x2 - x1) = t at hs'
      have on2 : on (third x1 y1 x2 t) := third_on h1 (ng_on h2) hx hs'
      have k : cZ x1 y1 1 x2 y2 1 = (x2 - x1) * (x2 - x1) * (x2 - x1) * (t * (x1 - (t * t - x1 - x2)) - y1) := by
        unfold cZ; grobner
      refine ⟨cZ x1 y1 1 x2 y2 1, ?_, ?_, ?_, ?_⟩
      · rw [k]; exact ne_mul (ne_mul (ne_mul hd hd) hd) (y_ne on2)
      · have : (x2 - x1) * (x2 - x1) * (cX x1 y1 1 x2 y2 1 - cZ x1 y1 1 x2 y2 1 * (s * s - x1 - x2)) = 0 := by
          unfold cX cZ; clear k on2 hs' d; grobner
        rcases noz this with r | r
        · exact absurd r (ne_mul hd hd)
        · exact sub_eq r
      · have : (x2 - x1) * (x2 - x1) * (x2 - x1) * (cY x1 y1 1 x2 y2 1 - cZ x1 y1 1 x2 y2 1 * (s * (x1 - (s * s - x1 - x2)) - y1)) = 0 := by
          unfold cY cZ; clear k on2 hs' d; grobner
        rcases noz this with r | r
        · exact absurd r (ne_mul (ne_mul hd hd) hd)
        · exact sub_eq r
      · show cZ x1 y1 1 x2 y2 1 = cZ x1 y1 1 x2 y2 1 * 1
        generalize cZ x1 y1 1 x2 y2 1 = u
        clear k on2 hs' d hs h1' h2'
        grobner
end Go.Proofs.YtdaobioomoajfaaGreat.M
namespace Go.Proofs.YtdaobioomoajfaaGreat.M
theorem cX_sc (l m X1 Y1 Z1 X2 Y2 Z2 : Fp) : cX (l * X1) (l * Y1) (l * Z1) (m * X2) (m * Y2) (m * Z2) = (l * l * (m * m)) * cX X1 Y1 Z1 X2 Y2 Z2 := by unfold cX; grobner
theorem cY_sc (l m X1 Y1 Z1 X2 Y2 Z2 : Fp) : cY (l * X1) (l * Y1) (l * Z1) (m * X2) (m * Y2) (m * Z2) = (l * l * (m * m)) * cY X1 Y1 Z1 X2 Y2 Z2 := by unfold cY; grobner
theorem cZ_sc (l m X1 Y1 Z1 X2 Y2 Z2 : Fp) : cZ (l * X1) (l * Y1) (l * Z1) (m * X2) (m * Y2) (m * Z2) = (l * l * (m * m)) * cZ X1 Y1 Z1 X2 Y2 Z2 := by unfold cZ; grobner
theorem rep_sc {X Y Z : Fp} {p : Pt} (k : Fp) (hk : k ≠ 0) : rep X Y Z p → rep (k * X) (k * Y) (k * Z) p := by
  rintro ⟨l, h0, h1, h2, h3⟩
  exact ⟨k * l, ne_mul hk h0, by grobner, by grobner, by grobner⟩
theorem rep_c {X1 Y1 Z1 X2 Y2 Z2 : Fp} {p q : Pt} (hp : on p) (hq : on q) (h1 : rep X1 Y1 Z1 p) (h2 : rep X2 Y2 Z2 q) : rep (cX X1 Y1 Z1 X2 Y2 Z2) (cY X1 Y1 Z1 X2 Y2 Z2) (cZ X1 Y1 Z1 X2 Y2 Z2) (ad p q) := by
  obtain ⟨l, h0, rfl, rfl, rfl⟩ := h1
  obtain ⟨m, g0, rfl, rfl, rfl⟩ := h2
  rw [cX_sc, cY_sc, cZ_sc]
  exact rep_sc _ (ne_mul (ne_mul h0 h0) (ne_mul g0 g0)) (rep_ad hp hq)
theorem rep_self (p : Pt) : rep (pX p) (pY p) (pZ p) p := ⟨1, by decide, by grobner, by grobner, by grobner⟩
def gG : Pt := some (1, 509478702933351334)
theorem gG_on : on gG := by
  show (509478702933351334 : Fp) * 509478702933351334 = 1 * 1 * 1 - 3 * 1 + 111
  decide
section check
variable {x1 y1 x2 y2 : Fp}
def e1 (x1 y1 : Fp) : List Nat × List Nat → Fp := pev (lev (fun a => Fin.ofNat _ a) x1) y1
def e2 (x1 y1 x2 y2 : Fp) : Tm → Fp := pev (lev (e1 x1 y1) x2) y2
theorem e1_is (h1 : on (some (x1, y1))) : Is O1 (e1 x1 y1) := by
  have h1' : y1 * y1 = x1 * x1 * x1 - 3 * x1 + 111 := h1
  refine pr_is _ _ (lst_is _ _ base_is x1) _ y1 ?_
  show y1 * y1 = 111 + x1 * (2305843009213693948 + x1 * (0 + x1 * (1 + x1 * 0)))
  grobner
theorem e1_cst (n : Nat) : e1 x1 y1 ([n], []) = Fin.ofNat _ n := by
  show (Fin.ofNat _ n + x1 * 0) + 0 * y1 = _
  generalize Fin.ofNat 2305843009213693951 n = u
  grobner
theorem e1_nil : e1 x1 y1 ([], []) = 0 := by
  show (0 : Fp) + 0 * y1 = 0
  grobner
theorem e2_is (h1 : on (some (x1, y1))) (h2 : on (some (x2, y2))) : Is O2 (e2 x1 y1 x2 y2) := by
  have h2' : y2 * y2 = x2 * x2 * x2 - 3 * x2 + 111 := h2
  refine pr_is _ _ (lst_is _ _ (e1_is h1) x2) _ y2 ?_
  show y2 * y2 = e1 x1 y1 ([111], []) + x2 * (e1 x1 y1 ([2305843009213693948], []) + x2 * (e1 x1 y1 ([], []) + x2 * (e1 x1 y1 ([1], []) + x2 * 0)))
  rw [e1_cst, e1_cst, e1_cst, e1_nil]
  show y2 * y2 = 111 + x2 * (2305843009213693948 + x2 * (0 + x2 * (1 + x2 * 0)))
  grobner
theorem ck_eq (h1 : on (some (x1, y1))) (h2 : on (some (x2, y2))) {a b : Tm} (h : O2.isz (O2.sub a b) = true) : e2 x1 y1 x2 y2 a = e2 x1 y1 x2 y2 b := by
  have I := e2_is h1 h2
  have := I.isz_ev _ h
  rw [I.sub_ev] at this
  exact sub_eq this
theorem e2_X1 : e2 x1 y1 x2 y2 vX1 = x1 := by
  show ((((Fin.ofNat _ 0 + x1 * (Fin.ofNat _ 1 + x1 * 0)) + 0 * y1) + x2 * 0) + 0 * y2) = x1
  show ((((0 + x1 * (1 + x1 * 0)) + 0 * y1) + x2 * 0) + 0 * y2) = x1
  grobner
theorem e2_Y1 : e2 x1 y1 x2 y2 vY1 = y1 := by
  show (((0 + (Fin.ofNat _ 1 + x1 * 0) * y1) + x2 * 0) + 0 * y2) = y1
  show (((0 + (1 + x1 * 0) * y1) + x2 * 0) + 0 * y2) = y1
  grobner
theorem e2_X2 : e2 x1 y1 x2 y2 vX2 = x2 := by
  show (e1 x1 y1 ([], []) + x2 * (e1 x1 y1 ([1], []) + x2 * 0)) + 0 * y2 = x2
  rw [e1_cst, e1_nil]
  show (0 + x2 * (1 + x2 * 0)) + 0 * y2 = x2
  grobner
theorem e2_Y2 : e2 x1 y1 x2 y2 vY2 = y2 := by
  show 0 + (e1 x1 y1 ([1], []) + x2 * 0) * y2 = y2
  rw [e1_cst]
  show 0 + (1 + x2 * 0) * y2 = y2
  grobner
theorem e2_1 (h1 : on (some (x1, y1))) (h2 : on (some (x2, y2))) : e2 x1 y1 x2 y2 v1 = 1 := (e2_is h1 h2).cst_ev 1
theorem e2_G (h1 : on (some (x1, y1))) (h2 : on (some (x2, y2))) : e2 x1 y1 x2 y2 vG = 509478702933351334 := (e2_is h1 h2).cst_ev 509478702933351334
theorem asc_cc (h1 : on (some (x1, y1))) (h2 : on (some (x2, y2))) : ad (some (x1, y1)) (ad (some (x2, y2)) gG) = ad (ad (some (x1, y1)) (some (x2, y2))) gG := by
  have I := e2_is h1 h2
  have b := rep_c h1 (ad_on h2 gG_on) (rep_self _) (rep_ad h2 gG_on)
  have a := rep_c (ad_on h1 h2) gG_on (rep_ad h1 h2) (rep_self _)
  simp only [pX, pY, pZ, gG] at a b
  have bX' := (tX_ev O2 _ I vX2 vY2 v1 v1 vG v1).symm.trans (ck_eq h1 h2 bX_ck)
  have bY' := (tY_ev O2 _ I vX2 vY2 v1 v1 vG v1).symm.trans (ck_eq h1 h2 bY_ck)
  have bZ' := (tZ_ev O2 _ I vX2 vY2 v1 v1 vG v1).symm.trans (ck_eq h1 h2 bZ_ck)
  have aX' := (tX_ev O2 _ I vX1 vY1 v1 vX2 vY2 v1).symm.trans (ck_eq h1 h2 aX_ck)
  have aY' := (tY_ev O2 _ I vX1 vY1 v1 vX2 vY2 v1).symm.trans (ck_eq h1 h2 aY_ck)
  have aZ' := (tZ_ev O2 _ I vX1 vY1 v1 vX2 vY2 v1).symm.trans (ck_eq h1 h2 aZ_ck)
  have lX' := (tX_ev O2 _ I vX1 vY1 v1 bX bY bZ).symm.trans (ck_eq h1 h2 lX_ck)
  have lY' := (tY_ev O2 _ I vX1 vY1 v1 bX bY bZ).symm.trans (ck_eq h1 h2 lY_ck)
  have lZ' := (tZ_ev O2 _ I vX1 vY1 v1 bX bY bZ).symm.trans (ck_eq h1 h2 lZ_ck)
  have rX' := (tX_ev O2 _ I aX aY aZ v1 vG v1).symm.trans (ck_eq h1 h2 rX_ck)
  have rY' := (tY_ev O2 _ I aX aY aZ v1 vG v1).symm.trans (ck_eq h1 h2 rY_ck)
  have rZ' := (tZ_ev O2 _ I aX aY aZ v1 vG v1).symm.trans (ck_eq h1 h2 rZ_ck)
  rw [e2_X2, e2_Y2, e2_1 h1 h2, e2_G h1 h2] at bX' bY' bZ'
  rw [e2_X1, e2_Y1, e2_X2, e2_Y2, e2_1 h1 h2] at aX' aY' aZ'
  rw [e2_X1, e2_Y1, e2_1 h1 h2] at lX' lY' lZ'
  rw [e2_1 h1 h2, e2_G h1 h2] at rX' rY' rZ'
  rw [bX', bY', bZ', lX', lY', lZ'] at b
  rw [aX', aY', aZ', rX', rY', rZ'] at a
  refine rep_eq b a ?_ ?_
  · rw [← I.mul_ev, ← I.mul_ev]; exact ck_eq h1 h2 XZ_ck
  · rw [← I.mul_ev, ← I.mul_ev]; exact ck_eq h1 h2 YZ_ck
end check
theorem ad_o (p : Pt) : ad p none = p := by cases p <;> rfl
theorem o_ad (p : Pt) : ad none p = p := rfl
theorem asc : ∀ {p q : Pt}, on p → on q → ad p (ad q gG) = ad (ad p q) gG
  | none, _, _, _ => rfl
  | some (_, _), none, _, _ => rfl
  | some (_, _), some (_, _), h1, h2 => asc_cc h1 h2
end Go.Proofs.YtdaobioomoajfaaGreat.M
namespace Go.Proofs.YtdaobioomoajfaaGreat.M
def ph : Nat → Pt
  | 0 => none
  | k + 1 => ad (ph k) gG
def tk : Nat → Pt → Pt
  | 0, p => p
  | k + 1, p => ad (tk k p) gG
theorem ph_on : ∀ k, on (ph k)
  | 0 => trivial
  | k + 1 => ad_on (ph_on k) gG_on
theorem tk_on {p : Pt} (h : on p) : ∀ k, on (tk k p)
  | 0 => h
  | k + 1 => ad_on (tk_on h k) gG_on
theorem ad_ph {p : Pt} (h : on p) : ∀ k, ad p (ph k) = tk k p
  | 0 => ad_o p
  | k + 1 => by show ad p (ad (ph k) gG) = ad (tk k p) gG; rw [asc h (ph_on k), ad_ph h k]
theorem tk_add (p : Pt) (i : Nat) : ∀ j, tk (i + j) p = tk j (tk i p)
  | 0 => rfl
  | j + 1 => by show ad (tk (i + j) p) gG = _; rw [tk_add p i j]; rfl
theorem tk_o : ∀ k, tk k none = ph k
  | 0 => rfl
  | k + 1 => by show ad (tk k none) gG = _; rw [tk_o k]; rfl
theorem ph_add (i j : Nat) : ph (i + j) = ad (ph i) (ph j) := by
  rw [ad_ph (ph_on i), ← tk_o i, ← tk_add, tk_o]
def finx (x1 x2 s : Nat) : Nat := (s * s + (2305843009213693951 - x1) + (2305843009213693951 - x2)) % 2305843009213693951
def finN (x1 y1 x2 s : Nat) : Nat × Nat × Nat :=
  (finx x1 x2 s, (s * (x1 + (2305843009213693951 - finx x1 x2 s)) + (2305843009213693951 - y1)) % 2305843009213693951, 1)
def adn (iv : Nat → Nat) (p q : Nat × Nat × Nat) : Nat × Nat × Nat :=
  bif p.2.2 == 0 then q else bif q.2.2 == 0 then p else
    bif p.1 == q.1 then
      bif (p.2.1 + q.2.1) % 2305843009213693951 == 0 then (0, 0, 0) else
        finN p.1 p.2.1 q.1 ((3 * (p.1 * p.1) + (2305843009213693951 - 3)) % 2305843009213693951 * iv ((p.2.1 + p.2.1) % 2305843009213693951) % 2305843009213693951)
    else finN p.1 p.2.1 q.1 ((q.2.1 + (2305843009213693951 - p.2.1)) % 2305843009213693951 * iv ((q.1 + (2305843009213693951 - p.1)) % 2305843009213693951) % 2305843009213693951)
def ofn (p : Nat × Nat × Nat) : Pt := if p.2.2 = 0 then none else some ((Fin.ofNat _ p.1), (Fin.ofNat _ p.2.1))
def okn (p : Nat × Nat × Nat) : Prop := p.1 < 2305843009213693951 ∧ p.2.1 < 2305843009213693951
theorem of_le {b : Nat} (h : b < 2305843009213693951) : Fin.ofNat 2305843009213693951 (2305843009213693951 - b) = - Fin.ofNat 2305843009213693951 b := by
  have := of_sub 0 b
  rw [Nat.mod_eq_of_lt h, Nat.zero_add] at this
  rw [this]
  show (0 : Fp) - _ = _
  generalize Fin.ofNat 2305843009213693951 b = u
  grobner
theorem fi_pw {p : Nat} (a : Nat) (hp : p < 2 ^ 64) : pw 64 a (p - 2) p = ivn p (a % p) := by
  unfold ivn
  rw [pw_is p 64 a (p - 2) (by omega), ← Nat.pow_mod]
theorem of_inj {a b : Nat} (ha : a < 2305843009213693951) (hb : b < 2305843009213693951) : Fin.ofNat 2305843009213693951 a = Fin.ofNat _ b ↔ a = b := by
  constructor
  · intro h
    have := congrArg Fin.val h
    simp only [Fin.ofNat] at this
    rwa [Nat.mod_eq_of_lt ha, Nat.mod_eq_of_lt hb] at this
  · intro h; rw [h]
theorem of_z (a : Nat) : Fin.ofNat 2305843009213693951 a = 0 ↔ a % 2305843009213693951 = 0 := by
  constructor
  · intro h; exact congrArg Fin.val h
  · intro h; apply Fin.ext; exact h
theorem finx_lt (x1 x2 s : Nat) : finx x1 x2 s < 2305843009213693951 := Nat.mod_lt _ (by decide)
theorem finN_ok (x1 y1 x2 s : Nat) : okn (finN x1 y1 x2 s) := ⟨finx_lt x1 x2 s, Nat.mod_lt _ (by decide)⟩
theorem finx_of {x1 x2 s : Nat} (h1 : x1 < 2305843009213693951) (h3 : x2 < 2305843009213693951) : Fin.ofNat 2305843009213693951 (finx x1 x2 s) = Fin.ofNat _ s * Fin.ofNat _ s - Fin.ofNat _ x1 - Fin.ofNat _ x2 := by
  unfold finx
  rw [of_mod, of_add, of_add, of_mul, of_le h1, of_le h3]
  generalize Fin.ofNat 2305843009213693951 s = u
  generalize Fin.ofNat 2305843009213693951 x1 = v
  generalize Fin.ofNat 2305843009213693951 x2 = w
  grobner
theorem ofn_c (x y : Nat) : ofn (x, y, 1) = some ((Fin.ofNat _ x), (Fin.ofNat _ y)) := if_neg (show ¬ (1 : Nat) = 0 by decide)
theorem finN_is {x1 y1 x2 s : Nat} (h1 : x1 < 2305843009213693951) (h2 : y1 < 2305843009213693951) (h3 : x2 < 2305843009213693951) (S : Fp) (hS : Fin.ofNat _ s = S) :
    ofn (finN x1 y1 x2 s) = third (Fin.ofNat _ x1) (Fin.ofNat _ y1) (Fin.ofNat _ x2) S := by
  subst hS
  have e := finx_of (s := s) h1 h3
  have hx := finx_lt x1 x2 s
  unfold finN
  generalize finx x1 x2 s = x at e hx
  rw [ofn_c, of_mod, of_add, of_mul, of_add, of_le h2, of_le hx, e]
  unfold third
  generalize Fin.ofNat 2305843009213693951 s = u
  generalize Fin.ofNat 2305843009213693951 x1 = v
  generalize Fin.ofNat 2305843009213693951 x2 = w
  generalize Fin.ofNat 2305843009213693951 y1 = z
  have : u * (v + -(u * u - v - w)) + -z = u * (v - (u * u - v - w)) - z := by grobner
  rw [this]
theorem sub_of (a b : Fp) : a + - b = a - b := by grobner
section adn
variable (iv : Nat → Nat) {x1 y1 z1 x2 y2 z2 : Nat}
theorem adn_0 : adn iv (x1, y1, 0) (x2, y2, z2) = (x2, y2, z2) := rfl
theorem adn_1 (c1 : z1 ≠ 0) : adn iv (x1, y1, z1) (x2, y2, 0) = (x1, y1, z1) := by
  have d1 : (z1 == 0) = false := by simp [c1]
  simp only [adn, d1, cond_false, beq_self_eq_true, cond_true]
theorem adn_2 (c1 : z1 ≠ 0) (c2 : z2 ≠ 0) (c4 : (y1 + y2) % 2305843009213693951 = 0) : adn iv (x1, y1, z1) (x1, y2, z2) = (0, 0, 0) := by
  have d1 : (z1 == 0) = false := by simp [c1]
  have d2 : (z2 == 0) = false := by simp [c2]
  simp only [adn, d1, d2, cond_false, beq_self_eq_true, cond_true, c4]
theorem adn_3 (c1 : z1 ≠ 0) (c2 : z2 ≠ 0) (c4 : (y1 + y2) % 2305843009213693951 ≠ 0) : adn iv (x1, y1, z1) (x1, y2, z2) = finN x1 y1 x1 ((3 * (x1 * x1) + (2305843009213693951 - 3)) % 2305843009213693951 * iv ((y1 + y1) % 2305843009213693951) % 2305843009213693951) := by
  have d1 : (z1 == 0) = false := by simp [c1]
  have d2 : (z2 == 0) = false := by simp [c2]
  have d4 : ((y1 + y2) % 2305843009213693951 == 0) = false := by simp [c4]
  simp only [adn, d1, d2, d4, cond_false, beq_self_eq_true, cond_true]
theorem adn_4 (c1 : z1 ≠ 0) (c2 : z2 ≠ 0) (c3 : x1 ≠ x2) : adn iv (x1, y1, z1) (x2, y2, z2) = finN x1 y1 x2 ((y2 + (2305843009213693951 - y1)) % 2305843009213693951 * iv ((x2 + (2305843009213693951 - x1)) % 2305843009213693951) % 2305843009213693951) := by
  have d1 : (z1 == 0) = false := by simp [c1]
  have d2 : (z2 == 0) = false := by simp [c2]
  have d3 : (x1 == x2) = false := by simp [c3]
  simp only [adn, d1, d2, d3, cond_false]
end adn
theorem ad_c0 {x1 y1 x2 y2 : Fp} (h1 : x1 = x2) (h2 : y1 + y2 = 0) : ad (some (x1, y1)) (some (x2, y2)) = none := by simp only [ad]; rw [if_pos h1, if_pos h2]
theorem ad_c1 {x1 y1 x2 y2 : Fp} (h1 : x1 = x2) (h2 : y1 + y2 ≠ 0) : ad (some (x1, y1)) (some (x2, y2)) = third x1 y1 x1 ((3 * (x1 * x1) - 3) * fi (y1 + y1)) := by simp only [ad]; rw [if_pos h1, if_neg h2]
theorem ad_c2 {x1 y1 x2 y2 : Fp} (h1 : x1 ≠ x2) : ad (some (x1, y1)) (some (x2, y2)) = third x1 y1 x2 ((y2 - y1) * fi (x2 - x1)) := by simp only [ad]; rw [if_neg h1]
theorem adn_is (iv : Nat → Nat) (hiv : ∀ a, Fin.ofNat 2305843009213693951 (iv (a % 2305843009213693951)) = fi (Fin.ofNat _ a)) (p q : Nat × Nat × Nat) (hp : okn p) (hq : okn q) : ofn (adn iv p q) = ad (ofn p) (ofn q) ∧ okn (adn iv p q) := by
  obtain ⟨x1, y1, z1⟩ := p
  obtain ⟨x2, y2, z2⟩ := q
  have a1 : x1 < 2305843009213693951 := hp.1
  have a2 : y1 < 2305843009213693951 := hp.2
  have b1 : x2 < 2305843009213693951 := hq.1
  by_cases c1 : z1 = 0
  · subst c1; rw [adn_0]; exact ⟨rfl, hq⟩
  · by_cases c2 : z2 = 0
    · subst c2; rw [adn_1 iv c1]; exact ⟨(ad_o _).symm, hp⟩
    · have f1 : ofn (x1, y1, z1) = some ((Fin.ofNat _ x1), (Fin.ofNat _ y1)) := if_neg c1
      have f2 : ofn (x2, y2, z2) = some ((Fin.ofNat _ x2), (Fin.ofNat _ y2)) := if_neg c2
      rw [f1, f2]
      by_cases c3 : x1 = x2
      · subst c3
        by_cases c4 : (y1 + y2) % 2305843009213693951 = 0
        · have g : Fin.ofNat 2305843009213693951 y1 + Fin.ofNat _ y2 = 0 := by rw [← of_add]; exact (of_z _).mpr c4
          rw [adn_2 iv c1 c2 c4, ad_c0 rfl g]
          exact ⟨rfl, by decide, by decide⟩
        · have g : Fin.ofNat 2305843009213693951 y1 + Fin.ofNat _ y2 ≠ 0 := by rw [← of_add]; exact fun h => c4 ((of_z _).mp h)
          rw [adn_3 iv c1 c2 c4, ad_c1 rfl g]
          refine ⟨finN_is a1 a2 a1 _ ?_, finN_ok _ _ _ _⟩
          rw [of_mod, of_mul, of_mod, of_add, of_mul, of_mul, hiv, of_add, of_le (show 3 < 2305843009213693951 by decide), n3, sub_of]
      · rw [adn_4 iv c1 c2 c3, ad_c2 (fun h => c3 ((of_inj a1 b1).mp h))]
        refine ⟨finN_is a1 a2 b1 _ ?_, finN_ok _ _ _ _⟩
        rw [of_mod, of_mul, of_mod, of_add, of_le a2, hiv, of_add, of_le a1, sub_of, sub_of]
def phn {α : Type} (A : α → α → α) (z g : α) : Nat → Nat → α
  | 0, _ => z
  | f + 1, k => let r := phn A z g f (k / 2); let d := A r r; bif k % 2 == 1 then A d g else d
theorem phn_is {α : Type} (A : α → α → α) (z g : α) (ok : α → Prop) (v : α → Pt) (hA : ∀ p q, ok p → ok q → v (A p q) = ad (v p) (v q) ∧ ok (A p q)) (hz : v z = none ∧ ok z) (hg : v g = gG ∧ ok g) : ∀ f k, k < 2 ^ f → v (phn A z g f k) = ph k ∧ ok (phn A z g f k)
  | 0, k, h => by
    have : k = 0 := by simp at h; exact h
    subst this
    exact hz
  | f + 1, k, h => by
    have h1 : k / 2 < 2 ^ f := by rw [Nat.pow_succ] at h; omega
    obtain ⟨i1, i2⟩ := phn_is A z g ok v hA hz hg f (k / 2) h1
    obtain ⟨d1, d2⟩ := hA _ _ i2 i2
    rw [i1, ← ph_add] at d1
    simp only [phn]
    by_cases c : k % 2 = 1
    · simp only [c, beq_self_eq_true, cond_true]
      obtain ⟨g1, g2⟩ := hA (A (phn A z g f (k / 2)) (phn A z g f (k / 2))) g d2 hg.2
      refine ⟨?_, g2⟩
      rw [g1, d1, hg.1]
      have e : k = k / 2 + k / 2 + 1 := by omega
      conv => rhs; rw [e]
      rfl
    · have c' : (k % 2 == 1) = false := by simp [c]
      simp only [c', cond_false]
      refine ⟨?_, d2⟩
      rw [d1]; congr 1; omega
theorem iv_is {p : Nat} (hp : p < 2 ^ 64) (a : Nat) : pw 64 (a % p) (p - 2) p = ivn p (a % p) := by
  unfold ivn
  rw [pw_is p 64 (a % p) (p - 2) (by omega)]
def ivP (a : Nat) : Nat := pw 64 a (2305843009213693951 - 2) 2305843009213693951
theorem ivP_is (a : Nat) : Fin.ofNat 2305843009213693951 (ivP (a % 2305843009213693951)) = fi (Fin.ofNat _ a) :=
  congrArg (Fin.ofNat 2305843009213693951) (iv_is (p := 2305843009213693951) (by decide) a)
theorem phN_is (k : Nat) (h : k < 2 ^ 62) : ofn (phn (adn ivP) (0, 0, 0) (1, 509478702933351334, 1) 62 k) = ph k :=
  (phn_is (adn ivP) (0, 0, 0) (1, 509478702933351334, 1) okn ofn (fun p q hp hq => adn_is ivP ivP_is p q hp hq) ⟨rfl, by decide, by decide⟩ ⟨rfl, by decide, by decide⟩ 62 k h).1
theorem ph_N : ph 2305843010818082053 = none := by
  have h := phN_is 2305843010818082053 (by decide)
  have : (phn (adn ivP) (0, 0, 0) (1, 509478702933351334, 1) 62 2305843010818082053).2.2 = 0 := by decide +kernel
  exact h.symm.trans (if_pos this)
end Go.Proofs.YtdaobioomoajfaaGreat.M
namespace Go.Proofs.YtdaobioomoajfaaGreat.M
theorem ng_ad : ∀ {p : Pt}, on p → ad (ng p) p = none
  | none, _ => rfl
  | some (x, y), _ => ad_c0 rfl (by generalize y = u; grobner)
theorem gG_ne : gG ≠ none := by intro h; cases h
theorem back_gcd (m : Nat → Prop) (h0 : m 0) (ha : ∀ i j, m i → m j → m (i + j)) (hs : ∀ i j, m i → m (i + j) → m j) (i j : Nat) : m i → m j → m (Nat.gcd i j) := by
  have hk : ∀ i k, m i → m (i * k) := by
    intro i k h
    induction k with
    | zero => exact h0
    | succ k ih => rw [Nat.mul_succ]; exact ha _ _ ih h
  refine Nat.gcd.induction (P := fun i j => m i → m j → m (Nat.gcd i j)) i j ?_ ?_
  · intro n _ h; rw [Nat.gcd_zero_left]; exact h
  · intro a n _ ih h1 h2
    rw [Nat.gcd_rec]
    refine ih ?_ h1
    have e := Nat.div_add_mod n a
    exact hs (a * (n / a)) (n % a) (hk a _ h1) (e.symm ▸ h2)
theorem gcd_N (p : Nat) (hp : ∀ a b, a * b % p = 0 → a % p = 0 ∨ b % p = 0) (i : Nat) (h0 : 0 < i) (hi : i < p) : Nat.gcd i p = 1 := by
  obtain ⟨e, he⟩ := Nat.gcd_dvd_right i p
  have h1 : Nat.gcd i p ≤ i := Nat.le_of_dvd h0 (Nat.gcd_dvd_left i p)
  have h2 : 0 < Nat.gcd i p := Nat.gcd_pos_of_pos_left p h0
  generalize Nat.gcd i p = d at he h1 h2
  have k : d * e % p = 0 := by rw [← he]; exact Nat.mod_self p
  rcases hp d e k with r | r
  · rw [Nat.mod_eq_of_lt (by omega)] at r; omega
  · obtain ⟨f, hf⟩ := Nat.dvd_of_mod_eq_zero r
    have hp0 : 0 < p := by omega
    have e1 : p * (d * f) = p * 1 := by
      rw [Nat.mul_one]
      calc p * (d * f) = d * (p * f) := Nat.mul_left_comm p d f
        _ = p := by rw [← hf, ← he]
    have e2 := Nat.eq_of_mul_eq_mul_left hp0 e1
    exact (Nat.eq_one_of_mul_eq_one_right e2)
theorem tk_N {p : Pt} (h : on p) : tk 2305843010818082053 p = p := by
  have a := ad_ph h 2305843010818082053
  have b := congrArg (ad p) ph_N
  exact a.symm.trans (b.trans (ad_o p))
theorem tk_sub {p q : Pt} (n : Nat) (hn : ∀ r, on r → tk n r = r) (hp : on p) (hq : on q) {i : Nat} (hi : i ≤ n) (e : tk i p = tk i q) : p = q := by
  have a : tk (n - i) (tk i p) = tk (n - i) (tk i q) := by rw [e]
  rw [← tk_add, ← tk_add, Nat.add_sub_cancel' hi, hn p hp, hn q hq] at a
  exact a
theorem tk_ne {p : Pt} (n : Nat) (hn : ∀ r, on r → tk n r = r) (hpr : ∀ a b, a * b % n = 0 → a % n = 0 ∨ b % n = 0) (hp : on p) {i : Nat} (h0 : 0 < i) (hi : i < n) : tk i p ≠ p := by
  intro e
  have g := back_gcd (fun j => tk j p = p) rfl (fun a b h1 h2 => by show tk (a + b) p = p; rw [tk_add, h1, h2]) (fun a b h1 h2 => by
    have h2' : tk (a + b) p = p := h2
    rw [tk_add, h1] at h2'
    exact h2') i n e (hn p hp)
  rw [gcd_N n hpr i h0 hi] at g
  have g1 : ad p gG = p := g
  have a := asc (ng_on hp) hp
  rw [g1, ng_ad hp, o_ad] at a
  exact gG_ne a.symm
theorem tk_dif {p : Pt} (n : Nat) (hn : ∀ r, on r → tk n r = r) (hpr : ∀ a b, a * b % n = 0 → a % n = 0 ∨ b % n = 0) (hp : on p) {i j : Nat} (h0 : i < j) (hj : j < n) : tk i p ≠ tk j p := by
  intro e
  have : j = (j - i) + i := by omega
  rw [this, tk_add] at e
  exact tk_ne n hn hpr hp (show 0 < j - i by omega) (by omega) (tk_sub n hn hp (tk_on hp (j - i)) (by omega) e).symm
def code : Pt → Nat
  | none => 4611686018427387902
  | some (x, y) => 2 * x.val + y.val % 2
theorem code_lt : ∀ p, code p < 4611686018427387903
  | none => by decide
  | some (x, y) => by
    have := x.isLt
    show 2 * x.val + y.val % 2 < _
    omega
theorem neg_val {y z : Fp} (h : y + z = 0) (hy : y ≠ 0) : z.val = 2305843009213693951 - y.val := by
  have e := congrArg Fin.val h
  rw [Fin.val_add] at e
  have e' : (y.val + z.val) % 2305843009213693951 = 0 := e
  have h1 := y.isLt
  have h2 := z.isLt
  have h3 : y.val ≠ 0 := fun c => hy (Fin.ext c)
  omega
theorem code_inj : ∀ {p q : Pt}, on p → on q → code p = code q → p = q
  | none, none, _, _, _ => rfl
  | none, some (x, y), _, _, e => by
    have := x.isLt
    have e' : 4611686018427387902 = 2 * x.val + y.val % 2 := e
    omega
  | some (x, y), none, _, _, e => by
    have := x.isLt
    have e' : 2 * x.val + y.val % 2 = 4611686018427387902 := e
    omega
  | some (x, y), some (x', y'), h1, h2, e => by
    have e' : 2 * x.val + y.val % 2 = 2 * x'.val + y'.val % 2 := e
    have ex : x = x' := Fin.ext (by omega)
    subst ex
    rcases same_x h1 h2 with r | r
    · rw [r]
    · have := neg_val r (y_ne h1)
      have := y.isLt
      have : y.val ≠ 0 := fun c => y_ne h1 (Fin.ext c)
      omega
theorem all_ph {c : Pt} (hc : on c) (n : Nat) (hn : ∀ r, on r → tk n r = r) (hpr : ∀ a b, a * b % n = 0 → a % n = 0 ∨ b % n = 0) (big : 4611686018427387903 < n + n) : ∃ k, k < n ∧ ph k = c := by
  by_cases h : ∃ k, k < n ∧ ph k = c
  · exact h
  · exfalso
    obtain ⟨i, j, h1, h2, h3⟩ := php 4611686018427387903 (fun i => code (if i < n then ph i else tk (i - n) c)) (fun i _ => code_lt _)
    have oi : ∀ i, on (if i < n then ph i else tk (i - n) c) := by
      intro i; split
      · exact ph_on i
      · exact tk_on hc _
    have e := code_inj (oi i) (oi j) h3
    split at e
    · rename_i a
      split at e
      · rename_i b
        rw [← tk_o, ← tk_o] at e
        exact tk_dif n hn hpr (p := none) trivial h1 b e
      · rename_i b
        have s : tk (n - (j - n)) (ph i) = c := by
          rw [e, ← tk_add, Nat.add_sub_cancel' (by omega), hn c hc]
        have s' : ph (i + (n - (j - n))) = c := by rw [← s, ← tk_o, tk_add, tk_o]
        have s2 : ∃ k, k < n ∧ ph k = c := by
          by_cases lt : i + (n - (j - n)) < n
          · exact ⟨_, lt, s'⟩
          · refine ⟨i + (n - (j - n)) - n, by omega, ?_⟩
            rw [← s', ← tk_o, ← tk_o]
            have : i + (n - (j - n)) = n + (i + (n - (j - n)) - n) := by omega
            conv => rhs; rw [this, tk_add, hn none trivial]
        exact h s2
    · rename_i a
      split at e
      · rename_i b; omega
      · rename_i b
        exact tk_dif n hn hpr hc (show i - n < j - n by omega) (by omega) e
theorem is_ph {c : Pt} (hc : on c) : ∃ k, k < 2305843010818082053 ∧ ph k = c :=
  all_ph hc 2305843010818082053 (fun _ h => tk_N h) (fun a b h => rootN.noz a b h) (by decide)
def nt : Nat → Pt → Pt
  | 0, _ => none
  | k + 1, p => ad (nt k p) p
theorem nt_on {p : Pt} (h : on p) : ∀ k, on (nt k p)
  | 0 => trivial
  | k + 1 => ad_on (nt_on h k) h
theorem nt_ph (i : Nat) : ∀ k, nt k (ph i) = ph (k * i)
  | 0 => by rw [Nat.zero_mul]; rfl
  | k + 1 => by show ad (nt k (ph i)) (ph i) = _; rw [nt_ph i k, ← ph_add, Nat.succ_mul]
theorem nt_add {p : Pt} (h : on p) (i j : Nat) : nt (i + j) p = ad (nt i p) (nt j p) := by
  obtain ⟨m, _, rfl⟩ := is_ph h
  rw [nt_ph, nt_ph, nt_ph, ← ph_add, Nat.add_mul]
end Go.Proofs.YtdaobioomoajfaaGreat.M
namespace Go.Proofs.YtdaobioomoajfaaGreat
open Go.RowKit M
theorem val_lt (a : Fp) : a.val < 2305843009213693951 := a.isLt
theorem fadd (x y : Int) (a b : Fp) (hx : x = a.val) (hy : y = b.val) (w : World) :
    Calls Tryz.prog 52 #[.int .u64 x, .int .u64 y, .int .u64 2305843009213693951] w fun e w' => e = .returned (.int .u64 ((a + b).val : Nat)) ∧ w = w' := by
  have := l2add_int x y a.val b.val 2305843009213693951 hx hy w a.isLt b.isLt (by decide)
  rw [Fin.val_add]
  exact this
theorem fmul (x y : Int) (a b : Fp) (hx : x = a.val) (hy : y = b.val) (w : World) :
    Calls Tryz.prog 50 #[.int .u64 x, .int .u64 y] w fun e w' => e = .returned (.int .u64 ((a * b).val : Nat)) ∧ w = w' := by
  subst hx hy
  rw [Fin.val_mul]
  exact l2times_any a.val b.val w a.isLt b.isLt
theorem fi_val (a : Fp) : (fi a).val = ivn 2305843009213693951 a.val := by
  unfold fi ivn
  generalize a.val ^ (2305843009213693951 - 2) = z
  show z % 2305843009213693951 % 2305843009213693951 = _
  omega
theorem finv (x : Int) (a : Fp) (hx : x = a.val) (w : World) :
    Calls Tryz.prog 56 #[.int .u64 x, .int .u64 2305843009213693951] w fun e w' => e = .returned (.int .u64 ((fi a).val : Nat)) ∧ w = w' := by
  subst hx
  rw [fi_val]
  exact invS_any a.val 2305843009213693951 w (Nat.lt_trans a.isLt (by decide)) (by decide) (by decide)
theorem fsub (x y : Int) (a b : Fp) (hx : x = a.val) (hy : y = b.val) (w : World) :
    Calls Tryz.prog 53 #[.int .u64 x, .int .u64 y] w fun e w' => e = .returned (.int .u64 ((a - b).val : Nat)) ∧ w = w' := by
  subst hx hy
  have ha := val_lt a
  have hb := val_lt b
  have e : a - b = a + (0 - b) := by grobner
  have e2 : (0 - b).val = (2305843009213693951 - b.val) % 2305843009213693951 := by
    rw [Fin.val_sub]; rfl
  have L := fun w x hx => fadd (a.val : Int) x a (0 - b) rfl hx w
  rw [← e] at L
  have hx : Hid ((2305843009213693951 - (b.val : Int)) % 2305843009213693951 = ((0 - b).val : Nat)) := by simp only [Hid]; rw [e2]; omega
  clear e e2
  generalize (a - b).val = c at *
  generalize (0 - b).val = d at *
  generalize a.val = A at *
  generalize b.val = B at *
  go_enter Tryz.func53, Tryz.ntmps53
  go_wp2_with fail
  refine (L _ _ (by have := hx.out; omega)).mono ?_
  rintro e w' ⟨rfl, rfl⟩
  clear L hx
  go_wp2
  go_ret
  exact ⟨rfl, rfl⟩
theorem fmul_v (a b : Fp) (w : World) :
    Calls Tryz.prog 50 #[.int .u64 (a.val : Nat), .int .u64 (b.val : Nat)] w fun e w' => e = .returned (.int .u64 ((a * b).val : Nat)) ∧ w = w' := fmul _ _ a b rfl rfl w
theorem fsub_v (a b : Fp) (w : World) :
    Calls Tryz.prog 53 #[.int .u64 (a.val : Nat), .int .u64 (b.val : Nat)] w fun e w' => e = .returned (.int .u64 ((a - b).val : Nat)) ∧ w = w' := fsub _ _ a b rfl rfl w
theorem rightS (x : Fp) (w : World) :
    Calls Tryz.prog 45 #[.int .u64 (x.val : Nat)] w fun e w' => e = .returned (.int .u64 ((crv x).val : Nat)) ∧ w = w' := by
  have e : crv x = x * x * x - 3 * x + 111 := rfl
  have L1 := fmul_v (w := w) x x
  have L2 := fmul_v (w := w) (x * x) x
  have L3 := fmul (w := w) 3 (x.val : Nat) 3 x rfl rfl
  have L4 := fsub_v (w := w) (x * x * x) (3 * x)
  have L5 := fadd (w := w) ((x * x * x - 3 * x).val : Nat) 111 (x * x * x - 3 * x) 111 rfl rfl
  rw [← e] at L5
  clear e
  have hx := val_lt x
  generalize (crv x).val = r at *
  generalize (x * x * x - 3 * x).val = r4 at *
  generalize (3 * x).val = r3 at *
  generalize (x * x * x).val = r2 at *
  generalize (x * x).val = r1 at *
  generalize x.val = X at *
  go_enter Tryz.func45, Tryz.ntmps45
  go_wp2_with fail
  refine L1.mono ?_
  rintro e w' ⟨rfl, rfl⟩
  clear L1
  go_wp2_with fail
  refine L2.mono ?_
  rintro e w' ⟨rfl, rfl⟩
  clear L2
  go_wp2_with fail
  refine L3.mono ?_
  rintro e w' ⟨rfl, rfl⟩
  clear L3
  go_wp2_with fail
  refine L4.mono ?_
  rintro e w' ⟨rfl, rfl⟩
  clear L4
  go_wp2_with fail
  refine L5.mono ?_
  rintro e w' ⟨rfl, rfl⟩
  clear L5
  go_wp2
  go_ret
  exact ⟨rfl, rfl⟩
def fv (a : Fp) : Int := (a.val : Int)
theorem vsub (a b : Fp) (w : World) : Calls Tryz.prog 53 #[.int .u64 (fv a), .int .u64 (fv b)] w fun e w' => e = .returned (.int .u64 (fv (a - b))) ∧ w = w' := fsub_v a b w
theorem vsub3 (a : Fp) (w : World) : Calls Tryz.prog 53 #[.int .u64 (fv a), .int .u64 3] w fun e w' => e = .returned (.int .u64 (fv (a - 3))) ∧ w = w' := fsub _ 3 a 3 rfl rfl w
theorem vmul (a b : Fp) (w : World) : Calls Tryz.prog 50 #[.int .u64 (fv a), .int .u64 (fv b)] w fun e w' => e = .returned (.int .u64 (fv (a * b))) ∧ w = w' := fmul_v a b w
theorem vmul3 (a : Fp) (w : World) : Calls Tryz.prog 50 #[.int .u64 3, .int .u64 (fv a)] w fun e w' => e = .returned (.int .u64 (fv (3 * a))) ∧ w = w' := fmul 3 _ 3 a rfl rfl w
theorem vadd (a b : Fp) (w : World) : Calls Tryz.prog 52 #[.int .u64 (fv a), .int .u64 (fv b), .int .u64 2305843009213693951] w fun e w' => e = .returned (.int .u64 (fv (a + b))) ∧ w = w' := fadd _ _ a b rfl rfl w
theorem vinv (a : Fp) (w : World) : Calls Tryz.prog 56 #[.int .u64 (fv a), .int .u64 2305843009213693951] w fun e w' => e = .returned (.int .u64 (fv (fi a))) ∧ w = w' := finv _ a rfl w
theorem fv_eq (a b : Fp) : (fv a == fv b) = decide (a = b) := by
  rw [Bool.eq_iff_iff]; simp [fv, Fin.ext_iff]; omega
theorem fv_zero (a : Fp) : (fv a == 0) = decide (a = 0) := fv_eq a 0
def ptW : Pt → Value
  | none => .agg #[.int .u64 0, .int .u64 0, .bool true]
  | some (x, y) => .agg #[.int .u64 (fv x), .int .u64 (fv y), .bool false]
end Go.Proofs.YtdaobioomoajfaaGreat
