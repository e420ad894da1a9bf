import Derived.Test.YtagnikeaellbiaaGreatDoorChecked
import Derived.Test.YtagnikeaellbiaaGreatDoorMrg0
import Derived.Test.YtagnikeaellbiaaGreatDoorMrg9
import Derived.WalkKit
import Derived.ProofKit
import Derived.WalkSpells
import Derived.WalkLawsBesides
import Derived.Outline
import Derived.Test.YtagnikeaellbiaaGreatDoorMrg1
namespace Go.Proofs.YtagnikeaellbiaaGreatDoor
open Go.RowKit
set_option linter.unusedVariables false

set_option maxRecDepth 100000 in
theorem l2add_any (a b m : Nat) (w : World) (ha : a < m) (hb : b < m) (hm : m < 18446744073709551616) :
    Calls Tryz.prog 35 #[.int .u64 a, .int .u64 b, .int .u64 m] w fun e w' => e = .returned (.int .u64 ((a + b) % m : Nat)) ∧ w = w' := by
  by_cases h : m - b ≤ a
  · have e : ((a + b) % m : Nat) = a - (m - b) := by
      have : a + b = (a - (m - b)) + m := by omega
      rw [this, Nat.add_mod_right, Nat.mod_eq_of_lt (by omega)]
    rw [e]
    clear e
    go_enter Tryz.func35, Tryz.ntmps35
    go_wp2
    go_ret
    exact ⟨ret_u64 (by omega), rfl⟩
  · have e : ((a + b) % m : Nat) = a + b := Nat.mod_eq_of_lt (by omega)
    rw [e]
    clear e
    go_enter Tryz.func35, Tryz.ntmps35
    go_wp2
    go_ret
    exact ⟨ret_u64 (by omega), rfl⟩

theorem l2add_int (x y : Int) (a b m : Nat) (hx : x = a) (hy : y = b) (w : World) (ha : a < m) (hb : b < m) (hm : m < 18446744073709551616) :
    Calls Tryz.prog 35 #[.int .u64 x, .int .u64 y, .int .u64 m] w fun e w' => e = .returned (.int .u64 ((a + b) % m : Nat)) ∧ w = w' := by
  subst hx hy; exact l2add_any a b m w ha hb hm

theorem wrap_tdiv (x c : Int) : (IntKind.u64.wrap x).tdiv c = IntKind.u64.wrap x / c := by
  rw [Int.tdiv_eq_ediv_of_nonneg]; rw [IntKind.wrap_u64]; omega
theorem wrap_tmod (x c : Int) : (IntKind.u64.wrap x).tmod c = IntKind.u64.wrap x % c := by
  rw [Int.tmod_eq_emod_of_nonneg]; rw [IntKind.wrap_u64]; omega
theorem mod61_tmod (x c : Int) : (x % 2305843009213693952).tmod c = x % 2305843009213693952 % c := by
  rw [Int.tmod_eq_emod_of_nonneg]; omega
/-- a product of two numbers in halves of words -/
theorem halves (a b : Nat) : a * b = 18446744073709551616 * (a / 4294967296 * (b / 4294967296)) + 4294967296 * (a / 4294967296 * (b % 4294967296)) + 4294967296 * (a % 4294967296 * (b / 4294967296)) + a % 4294967296 * (b % 4294967296) := by
  have h1 := Nat.div_add_mod a 4294967296
  have h2 := Nat.div_add_mod b 4294967296
  generalize a / 4294967296 = ah at *
  generalize a % 4294967296 = al at *
  generalize b / 4294967296 = bh at *
  generalize b % 4294967296 = bl at *
  subst h1 h2
  grobner
/-- a product in two words, folded at bit 61 -/
theorem fold61 (q : Nat) : (q / 2305843009213693952 + q % 2305843009213693952 % 2305843009213693951) % 2305843009213693951 = q % 2305843009213693951 := by omega
theorem prod_lt {a b c d : Nat} (ha : a ≤ c) (hb : b ≤ d) : a * b ≤ c * d := Nat.mul_le_mul ha hb

set_option maxRecDepth 100000 in
theorem l2times_any (a b : Nat) (w : World) (ha : a < 2305843009213693951) (hb : b < 2305843009213693951) :
    Calls Tryz.prog 57 #[.int .u64 a, .int .u64 b] w fun e w' => e = .returned (.int .u64 (a * b % 2305843009213693951 : Nat)) ∧ w = w' := by
  go_enter Tryz.func57, Tryz.ntmps57
  go_wp2_with fail
  have hq := halves a b
  have c0 : a % 4294967296 * (b % 4294967296) ≤ 4294967295 * 4294967295 := prod_lt (by omega) (by omega)
  have c1 : a / 4294967296 * (b % 4294967296) ≤ 536870911 * 4294967295 := prod_lt (by omega) (by omega)
  have c2 : a % 4294967296 * (b / 4294967296) ≤ 4294967295 * 536870911 := prod_lt (by omega) (by omega)
  have c3 : a / 4294967296 * (b / 4294967296) ≤ 536870911 * 536870911 := prod_lt (by omega) (by omega)
  have cq : a * b ≤ 2305843009213693950 * 2305843009213693950 := prod_lt (by omega) (by omega)
  have d0 : (a : Int) % 4294967296 * ((b : Int) % 4294967296) = ((a % 4294967296 * (b % 4294967296) : Nat) : Int) := by simp
  have d1 : (a : Int) / 4294967296 * ((b : Int) % 4294967296) = ((a / 4294967296 * (b % 4294967296) : Nat) : Int) := by simp
  have d2 : (a : Int) % 4294967296 * ((b : Int) / 4294967296) = ((a % 4294967296 * (b / 4294967296) : Nat) : Int) := by simp
  have d3 : (a : Int) / 4294967296 * ((b : Int) / 4294967296) = ((a / 4294967296 * (b / 4294967296) : Nat) : Int) := by simp
  refine (l2add_int _ _ (a * b / 2305843009213693952) (a * b % 2305843009213693952 % 2305843009213693951) 2305843009213693951 ?_ ?_ w (by omega) (by omega) (by omega)).mono ?_
  · rw [d0, d1, d2, d3]
    simp only [wrap_tdiv, wrap_tmod]
    simp only [IntKind.wrap_u64]
    generalize a * b = q at *
    generalize a % 4294967296 * (b % 4294967296) = p0 at *
    generalize a / 4294967296 * (b % 4294967296) = p1 at *
    generalize a % 4294967296 * (b / 4294967296) = p2 at *
    generalize a / 4294967296 * (b / 4294967296) = p3 at *
    omega
  · rw [d0, d1, d2]
    simp only [wrap_tdiv, wrap_tmod, mod61_tmod]
    simp only [IntKind.wrap_u64]
    generalize a * b = q at *
    generalize a % 4294967296 * (b % 4294967296) = p0 at *
    generalize a / 4294967296 * (b % 4294967296) = p1 at *
    generalize a % 4294967296 * (b / 4294967296) = p2 at *
    generalize a / 4294967296 * (b / 4294967296) = p3 at *
    omega
  · rintro e w' ⟨rfl, rfl⟩
    have e := fold61 (a * b)
    generalize (a * b / 2305843009213693952 + a * b % 2305843009213693952 % 2305843009213693951) % 2305843009213693951 = z at *
    clear d0 d1 d2 d3 c0 c1 c2 c3 hq cq
    go_wp2
    go_ret
    exact ⟨ret_u64 (by omega), rfl⟩
end Go.Proofs.YtagnikeaellbiaaGreatDoor

namespace Go.Proofs.YtagnikeaellbiaaGreatDoor
open Go.RowKit
set_option linter.unusedVariables false

theorem shr_succ (b j : Nat) : b / 2 ^ j = 2 * (b / 2 ^ (j + 1)) + b / 2 ^ j % 2 := by
  have : b / 2 ^ (j + 1) = b / 2 ^ j / 2 := by rw [Nat.pow_succ, Nat.div_div_eq_div_mul]
  omega
theorem shr_64 (b : Nat) (h : b < 18446744073709551616) : b / 2 ^ 64 = 0 := Nat.div_eq_of_lt (by omega)
theorem mul_bit0 (a b j m r : Nat) (hr : r = a * (b / 2 ^ (j + 1)) % m) (h : b / 2 ^ j % 2 = 0) : (r + r) % m = a * (b / 2 ^ j) % m := by
  have e := shr_succ b j
  rw [h] at e
  have e' : b / 2 ^ j = 2 * (b / 2 ^ (j + 1)) := e
  rw [e', hr, Nat.mul_left_comm, Nat.two_mul, ← Nat.add_mod]
theorem mul_bit1 (a b j m r : Nat) (hr : r = a * (b / 2 ^ (j + 1)) % m) (h : b / 2 ^ j % 2 = 1) : ((r + r) % m + a) % m = a * (b / 2 ^ j) % m := by
  have e := shr_succ b j
  rw [h] at e
  rw [e, hr, Nat.mul_add, Nat.mul_one, Nat.mul_left_comm, Nat.two_mul, ← Nat.add_mod, Nat.mod_add_mod]

theorem bit_tmod (B j : Nat) : ((B : Int) / 2 ^ j).tmod 2 = ((B / 2 ^ j % 2 : Nat) : Int) := by
  have e : (B : Int) / 2 ^ j = ((B / 2 ^ j : Nat) : Int) := by simp
  rw [e, Int.tmod_eq_emod_of_nonneg (Int.natCast_nonneg _)]
  generalize B / 2 ^ j = z
  omega
theorem bit1 (x : Int) (B j : Nat) (hx : x = B) (h : B / 2 ^ j % 2 = 1) : ((x / 2 ^ j).tmod 2 == 1) = true := by
  rw [hx, bit_tmod, h]; rfl
theorem bit0 (x : Int) (B j : Nat) (hx : x = B) (h : B / 2 ^ j % 2 = 0) : ((x / 2 ^ j).tmod 2 == 1) = false := by
  rw [hx, bit_tmod, h]; rfl

set_option maxRecDepth 100000 in
set_option maxHeartbeats 1000000 in
theorem mulS_slow (a b m : Nat) (w : World) (ha : a < 18446744073709551616) (hb : b < 18446744073709551616) (hm : m < 18446744073709551616) (h0 : m ≠ 0) (h1 : m ≠ 2305843009213693951) :
    Calls Tryz.prog 34 #[.int .u64 a, .int .u64 b, .int .u64 m] w fun e w' => e = .returned (.int .u64 (a * b % m : Nat)) ∧ w = w' := by
  have hres : Hid (a * b % m = (a % m) * (b % m) % m) := Nat.mul_mod a b m
  have hA : a % m < m := Nat.mod_lt _ (by omega)
  have hB : b % m < m := Nat.mod_lt _ (by omega)
  have eA : Hid ((a : Int) % (m : Int) = ((a % m : Nat) : Int)) := by simp [Hid]
  have eB : Hid ((b : Int) % (m : Int) = ((b % m : Nat) : Int)) := by simp [Hid]
  generalize a % m = A at *
  generalize b % m = B at *
  generalize a * b % m = c at *
  have z0 : ((m : Int) == 0) = false := by simp; omega
  have z1 : ((m : Int) == 2305843009213693951) = false := by simp; omega
  go_enter Tryz.func34, Tryz.ntmps34
  go_wp2
  go_loop [7, 8] (fun rv iv => ∃ (k : Nat) (x : Int) (r : Nat), x = (k : Int) - 1 ∧ k ≤ 64 ∧ r < m ∧ iv = .int .i64 x ∧ rv = .int .u64 (r : Int) ∧ Hid (r = A * (B / 2 ^ k) % m)) (fun _ i => (intOf i + 1).toNat)
  case atStart => exact ⟨64, 63, 0, rfl, by omega, by omega, rfl, rfl, by rw [shr_64 B (by omega)]; simp [Hid]⟩
  case round =>
    obtain ⟨k, x, r, hx, hk, hrm, rfl, rfl, hr⟩ := hrel
    rcases k with _ | j
    · have hneg : ¬ ((0 : Int) ≤ x) := by omega
      clear hx
      go_wp2
      go_ret
      refine ⟨ret_u64 ?_, rfl⟩
      rw [hres.out, hr.out, Nat.pow_zero, Nat.div_one]
    · obtain rfl : x = (j : Int) := by omega
      clear hx
      have hd := Nat.mod_lt (r + r) (show m > 0 by omega)
      have hd2 := Nat.mod_lt ((r + r) % m + A) (show m > 0 by omega)
      have hm0 : Hid (B / 2 ^ j % 2 = 0 → (r + r) % m = A * (B / 2 ^ j) % m) := mul_bit0 A B j m r hr.out
      have hm1 : Hid (B / 2 ^ j % 2 = 1 → ((r + r) % m + A) % m = A * (B / 2 ^ j) % m) := mul_bit1 A B j m r hr.out
      by_cases hbit : B / 2 ^ j % 2 = 1
      · have ht := bit1 _ B j eB.out hbit
        have hm1' := hm1.out hbit
        clear hm0 hm1 hbit
        go_wp2_with fail
        refine (l2add_any r r m _ hrm hrm hm).mono ?_
        rintro e w' ⟨rfl, rfl⟩
        have L := fun w => l2add_int ((r + r) % m : Nat) ((a : Int) % (m : Int)) ((r + r) % m) A m rfl eA.out w hd hA hm
        generalize (r + r) % m = d at *
        generalize (d + A) % m = d2 at *
        have hm1'' : Hid (d2 = A * (B / 2 ^ j) % m) := hm1'
        clear hm1' hd
        go_wp2_with fail
        refine (L _).mono ?_
        rintro e w' ⟨rfl, rfl⟩
        clear L
        go_wp2
        go_round
        case rel => exact ⟨j, (j : Int) - 1, d2, rfl, by omega, hd2, rfl, rfl, hm1''⟩
        case measure => simp [intOf]
      · have hb0 : B / 2 ^ j % 2 = 0 := by omega
        have ht := bit0 _ B j eB.out hb0
        have hm0' := hm0.out hb0
        clear hm0 hm1 hbit hb0 hd2
        go_wp2_with fail
        refine (l2add_any r r m _ hrm hrm hm).mono ?_
        rintro e w' ⟨rfl, rfl⟩
        generalize (r + r) % m = d at *
        have hm0'' : Hid (d = A * (B / 2 ^ j) % m) := hm0'
        clear hm0'
        go_wp2
        go_round
        case rel => exact ⟨j, (j : Int) - 1, d, rfl, by omega, hd, rfl, rfl, hm0''⟩
        case measure => simp [intOf]

set_option maxRecDepth 100000 in
theorem mulS_zero (a b : Nat) (w : World) :
    Calls Tryz.prog 34 #[.int .u64 a, .int .u64 b, .int .u64 0] w fun e w' => e = .returned (.int .u64 0) ∧ w = w' := by
  go_enter Tryz.func34, Tryz.ntmps34
  go_wp2
  go_ret
  exact ⟨rfl, rfl⟩
set_option maxRecDepth 100000 in
theorem mulS_P (a b : Nat) (w : World) (ha : a < 18446744073709551616) (hb : b < 18446744073709551616) :
    Calls Tryz.prog 34 #[.int .u64 a, .int .u64 b, .int .u64 2305843009213693951] w fun e w' => e = .returned (.int .u64 (a * b % 2305843009213693951 : Nat)) ∧ w = w' := by
  have L := fun w => l2times_any (a % 2305843009213693951) (b % 2305843009213693951) w (Nat.mod_lt _ (by decide)) (Nat.mod_lt _ (by decide))
  rw [← Nat.mul_mod] at L
  generalize a * b % 2305843009213693951 = c at *
  go_enter Tryz.func34, Tryz.ntmps34
  go_wp2_with fail
  refine (L _).mono ?_
  rintro e w' ⟨rfl, rfl⟩
  clear L
  go_wp2
  go_ret
  exact ⟨rfl, rfl⟩
/-- the product, for every modulus -/
theorem mulS_any (a b m : Nat) (w : World) (ha : a < 18446744073709551616) (hb : b < 18446744073709551616) (hm : m < 18446744073709551616) (h0 : m ≠ 0) :
    Calls Tryz.prog 34 #[.int .u64 a, .int .u64 b, .int .u64 m] w fun e w' => e = .returned (.int .u64 (a * b % m : Nat)) ∧ w = w' := by
  by_cases h1 : m = 2305843009213693951
  · subst h1; exact mulS_P a b w ha hb
  · exact mulS_slow a b m w ha hb hm h0 h1

theorem pow_bit0 (a e j m r : Nat) (hr : r = a ^ (e / 2 ^ (j + 1)) % m) (h : e / 2 ^ j % 2 = 0) : r * r % m = a ^ (e / 2 ^ j) % m := by
  have e1 := shr_succ e j
  rw [h] at e1
  have e' : e / 2 ^ j = 2 * (e / 2 ^ (j + 1)) := e1
  rw [e', hr]
  generalize e / 2 ^ (j + 1) = q
  rw [Nat.two_mul, Nat.pow_add, ← Nat.mul_mod]
theorem pow_bit1 (a e j m r : Nat) (hr : r = a ^ (e / 2 ^ (j + 1)) % m) (h : e / 2 ^ j % 2 = 1) : (r * r % m) * a % m = a ^ (e / 2 ^ j) % m := by
  have e1 := shr_succ e j
  rw [h] at e1
  rw [e1, hr]
  generalize e / 2 ^ (j + 1) = q
  rw [Nat.pow_succ, Nat.two_mul, Nat.pow_add, ← Nat.mul_mod, Nat.mod_mul_mod]

set_option maxRecDepth 100000 in
set_option maxHeartbeats 1000000 in
theorem powS_any (a b m : Nat) (w : World) (ha : a < 18446744073709551616) (hb : b < 18446744073709551616) (hm : m < 18446744073709551616) (h0 : m ≠ 0) :
    Calls Tryz.prog 90 #[.int .u64 a, .int .u64 b, .int .u64 m] w fun e w' => e = .returned (.int .u64 (a ^ b % m : Nat)) ∧ w = w' := by
  obtain ⟨c, hc⟩ : ∃ c, Hid (c = a ^ b % m) := ⟨_, rfl⟩
  rw [← hc.out]
  have z0 : ((m : Int) == 0) = false := by simp; omega
  have e1 : Hid ((1 : Int) % (m : Int) = ((1 % m : Nat) : Int)) := by simp [Hid]
  have l1 := Nat.mod_lt 1 (show m > 0 by omega)
  obtain ⟨r1, hr1⟩ : ∃ r1, Hid (r1 = 1 % m) := ⟨_, rfl⟩
  rw [← hr1.out] at e1 l1
  go_enter Tryz.func90, Tryz.ntmps90
  go_wp2
  go_loop [7, 8] (fun rv iv => ∃ (k : Nat) (x : Int) (r : Nat), x = (k : Int) - 1 ∧ k ≤ 64 ∧ r < m ∧ iv = .int .i64 x ∧ rv = .int .u64 (r : Int) ∧ Hid (r = a ^ (b / 2 ^ k) % m)) (fun _ i => (intOf i + 1).toNat)
  case atStart => exact ⟨64, 63, r1, rfl, by omega, l1, rfl, by rw [← e1.out], by rw [shr_64 b (by omega), Nat.pow_zero]; exact hr1⟩
  case round =>
    obtain ⟨k, x, r, hx, hk, hrm, rfl, rfl, hr⟩ := hrel
    rcases k with _ | j
    · have hneg : ¬ ((0 : Int) ≤ x) := by omega
      clear hx
      go_wp2
      go_ret
      refine ⟨ret_u64 ?_, rfl⟩
      rw [hc.out, hr.out, Nat.pow_zero, Nat.div_one]
    · obtain rfl : x = (j : Int) := by omega
      clear hx
      have hd := Nat.mod_lt (r * r) (show m > 0 by omega)
      have hd2 := Nat.mod_lt ((r * r % m) * a) (show m > 0 by omega)
      have hm0 : Hid (b / 2 ^ j % 2 = 0 → r * r % m = a ^ (b / 2 ^ j) % m) := pow_bit0 a b j m r hr.out
      have hm1 : Hid (b / 2 ^ j % 2 = 1 → (r * r % m) * a % m = a ^ (b / 2 ^ j) % m) := pow_bit1 a b j m r hr.out
      by_cases hbit : b / 2 ^ j % 2 = 1
      · have ht := bit1 _ b j rfl hbit
        have hm1' := hm1.out hbit
        clear hm0 hm1 hbit
        go_wp2_with fail
        refine (mulS_any r r m _ (by omega) (by omega) hm h0).mono ?_
        rintro e w' ⟨rfl, rfl⟩
        have L := fun w => mulS_any (r * r % m) a m w (by omega) ha hm h0
        generalize r * r % m = d at *
        generalize d * a % m = d2 at *
        have hm1'' : Hid (d2 = a ^ (b / 2 ^ j) % m) := hm1'
        clear hm1' hd
        go_wp2_with fail
        refine (L _).mono ?_
        rintro e w' ⟨rfl, rfl⟩
        clear L
        go_wp2
        go_round
        case rel => exact ⟨j, (j : Int) - 1, d2, rfl, by omega, hd2, rfl, rfl, hm1''⟩
        case measure => simp [intOf]
      · have hb0 : b / 2 ^ j % 2 = 0 := by omega
        have ht := bit0 _ b j rfl hb0
        have hm0' := hm0.out hb0
        clear hm0 hm1 hbit hb0 hd2
        go_wp2_with fail
        refine (mulS_any r r m _ (by omega) (by omega) hm h0).mono ?_
        rintro e w' ⟨rfl, rfl⟩
        generalize r * r % m = d at *
        have hm0'' : Hid (d = a ^ (b / 2 ^ j) % m) := hm0'
        clear hm0'
        go_wp2
        go_round
        case rel => exact ⟨j, (j : Int) - 1, d, rfl, by omega, hd, rfl, rfl, hm0''⟩
        case measure => simp [intOf]
set_option maxRecDepth 100000 in
theorem powS_zero (a b : Nat) (w : World) :
    Calls Tryz.prog 90 #[.int .u64 a, .int .u64 b, .int .u64 0] w fun e w' => e = .returned (.int .u64 0) ∧ w = w' := by
  go_enter Tryz.func90, Tryz.ntmps90
  go_wp2
  go_ret
  exact ⟨rfl, rfl⟩
end Go.Proofs.YtagnikeaellbiaaGreatDoor

namespace Go.Proofs.YtagnikeaellbiaaGreatDoor
set_option linter.unusedVariables false

/-- bytes as a number, the highest first -/
def numL (l : List Int) : Nat := l.foldl (fun r x => r * 256 + x.toNat) 0
theorem numL_snoc (l : List Int) (x : Int) : numL (l ++ [x]) = numL l * 256 + x.toNat := by simp [numL]
theorem byt_take (s : ByteArray) (k : Nat) (h : k < s.size) : (byt s).take (k + 1) = (byt s).take k ++ [(s[k].toNat : Int)] := by
  rw [List.take_succ_eq_append_getElem (by rw [byt_length]; exact h)]
  simp [byt]
  rfl
theorem numL_take (s : ByteArray) (k : Nat) (h : k < s.size) : numL ((byt s).take (k + 1)) = numL ((byt s).take k) * 256 + s[k].toNat := by
  rw [byt_take s k h, numL_snoc]; simp
end Go.Proofs.YtagnikeaellbiaaGreatDoor
