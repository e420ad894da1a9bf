import Derived.Test.YtmbphmamdkgjjaaChecked
import Derived.WalkKit
import Derived.ProofKit
import Derived.WalkSpells
import Derived.WalkLawsBesides
import Derived.Outline
import Derived.Lib.BitFns
import Derived.Lib.Mul64
import Derived.Laws.Bits64b
namespace Go.Proofs.Ytmbphmamdkgjjaa
open Go.RowKit
set_option linter.unusedVariables false

theorem len_le (x : Nat) (hx : x < 2 ^ 64) : Lib.bitLen x ≤ 64 := Lib.bitLen_le x 64 (Nat.le_refl _) hx
theorem len_up : ∀ (f x : Nat), x < 2 ^ f → x < 2 ^ (Lib.bitLenAux f x)
  | 0, x, h => by simpa [Lib.bitLenAux] using h
  | f + 1, x, h => by
    unfold Lib.bitLenAux
    split
    · subst_vars; simp
    · have := len_up f (x / 2) (by rw [Nat.pow_succ] at h; omega)
      rw [Nat.add_comm, Nat.pow_succ]; omega
theorem len_lo : ∀ (f x : Nat), x ≠ 0 → x < 2 ^ f → 1 ≤ Lib.bitLenAux f x ∧ 2 ^ (Lib.bitLenAux f x - 1) ≤ x
  | 0, x, h0, h => by simp at h; omega
  | f + 1, x, h0, h => by
    unfold Lib.bitLenAux
    rw [if_neg h0]
    refine ⟨by omega, ?_⟩
    rw [Nat.add_sub_cancel_left]
    by_cases h2 : x / 2 = 0
    · rw [h2]
      have : Lib.bitLenAux f 0 = 0 := by cases f <;> simp [Lib.bitLenAux]
      rw [this]; omega
    · obtain ⟨q1, q2⟩ := len_lo f (x / 2) h2 (by rw [Nat.pow_succ] at h; omega)
      have : Lib.bitLenAux f (x / 2) = (Lib.bitLenAux f (x / 2) - 1) + 1 := by omega
      rw [this, Nat.pow_succ]; omega

theorem ret_i64 {a b : Int} (h : a = b) : Ending.returned (.int .i64 a) = .returned (.int .i64 b) := by rw [h]

theorem get8 (i : Nat) (h : i < Lib.len8tab.size) : ((Lib.len8tab[i]'h).toNat : Int) = Lib.bitLen i := by
  have hs := Lib.len8tab_size
  have := Lib.len8_of (i : Int) (by omega) (by omega)
  rw [Int.toNat_natCast] at this
  rw [← this, Lib.len8, Int.toNat_natCast, getElem?_pos _ i h]; rfl
theorem get8_sh (k x : Nat) (i : Nat) (h : i < Lib.len8tab.size) (hE : i = x / 2 ^ k) (hk : k = 0 ∨ 2 ^ k ≤ x) (hx : x < 2 ^ 64) : (k : Int) + ((Lib.len8tab[i]'h).toNat : Int) = (Lib.bitLen x : Int) := by
  rw [get8, hE]
  rcases hk with rfl | hk
  · simp
  · rw [Lib.bitLen_shift k x hk hx]; omega

theorem wrap64_small (z : Int) (h0 : 0 ≤ z) (h1 : z ≤ 9223372036854775807) : wrap64 z = z := by unfold wrap64; omega
theorem sh_wrap (k x : Nat) (i : Nat) (h : i < Lib.len8tab.size) (hE : i = x / 2 ^ k) (hk : k = 0 ∨ 2 ^ k ≤ x) (hx : x < 2 ^ 64) (hk64 : k ≤ 64) : wrap64 ((k : Int) + wrap64 ((Lib.len8tab[i]'h).toNat : Int)) = (Lib.bitLen x : Int) := by
  have e := get8_sh k x i h hE hk hx
  have l := (Lib.len8tab[i]'h).toNat_lt
  generalize (Lib.len8tab[i]'h).toNat = q at *
  rw [wrap64_small q (by omega) (by omega), wrap64_small _ (by omega) (by omega)]
  exact e
theorem sh_wrap0 (x : Nat) (i : Nat) (h : i < Lib.len8tab.size) (hE : i = x) (hx : x < 2 ^ 64) : wrap64 (wrap64 ((Lib.len8tab[i]'h).toNat : Int)) = (Lib.bitLen x : Int) := by
  have := sh_wrap 0 x i h (by rw [hE, Nat.pow_zero, Nat.div_one]) (.inl rfl) hx (by omega)
  simpa using this

set_option maxRecDepth 100000 in
set_option maxHeartbeats 4000000 in
theorem len_int (x : Int) (w : World) (h0 : 0 ≤ x) (h1 : x ≤ 18446744073709551615) :
    Calls Try.prog 65 #[.int .u64 x] w fun e w' => e = .returned (.int .i64 (Lib.bitLen x.toNat)) ∧ w = w' := by
  go_enter Try.func65, Try.ntmps65
  go_wp2
  all_goals first
    | (go_ret; refine ⟨ret_i64 ?_, rfl⟩)
    | (exfalso; have hs := Lib.len8tab_size; omega)
  all_goals have hs := Lib.len8tab_size
  · exact sh_wrap 56 x.toNat _ _ (by omega) (.inr (by omega)) (by omega) (by omega)
  · exact sh_wrap 48 x.toNat _ _ (by omega) (.inr (by omega)) (by omega) (by omega)
  · exact sh_wrap 40 x.toNat _ _ (by omega) (.inr (by omega)) (by omega) (by omega)
  · exact sh_wrap 32 x.toNat _ _ (by omega) (.inr (by omega)) (by omega) (by omega)
  · exact sh_wrap 24 x.toNat _ _ (by omega) (.inr (by omega)) (by omega) (by omega)
  · exact sh_wrap 16 x.toNat _ _ (by omega) (.inr (by omega)) (by omega) (by omega)
  · exact sh_wrap 8 x.toNat _ _ (by omega) (.inr (by omega)) (by omega) (by omega)
  · exact sh_wrap0 x.toNat _ _ rfl (by omega)

theorem len_nat (x : Nat) (hx : x < 18446744073709551616) (w : World) :
    Calls Try.prog 65 #[.int .u64 x] w fun e w' => e = .returned (.int .i64 (Lib.bitLen x)) ∧ w = w' := by
  have := len_int (x : Int) w (by omega) (by omega)
  rwa [Int.toNat_natCast] at this

set_option maxRecDepth 100000 in
theorem lead_any (x : Nat) (hx : x < 18446744073709551616) (w : World) :
    Calls Try.prog 63 #[.int .u64 x] w fun e w' => e = .returned (.int .i64 ((64 - Lib.bitLen x : Nat) : Int)) ∧ w = w' := by
  have L := len_nat x hx
  have hl := len_le x (by omega)
  generalize Lib.bitLen x = q at *
  clear hx
  go_enter Try.func63, Try.ntmps63
  go_wp2_with fail
  refine (L _).mono ?_
  rintro e w' ⟨rfl, rfl⟩
  go_wp2
  go_ret
  exact ⟨ret_i64 (by omega), rfl⟩

theorem maskN (a : Nat) (ha : a < 18446744073709551616) : bits .and .u64 (a : Int) 4294967295 = ((a % 4294967296 : Nat) : Int) := by
  have h := bits_and_u64_nat a 4294967295 ha (by omega)
  rwa [show a &&& 4294967295 = a % 4294967296 from Nat.and_two_pow_sub_one_eq_mod a 32] at h
theorem maskW (z : Int) : bits .and .u64 (IntKind.u64.wrap z) 4294967295 = IntKind.u64.wrap z % 4294967296 := by
  obtain ⟨n, hn⟩ : ∃ n : Nat, IntKind.u64.wrap z = n := ⟨(IntKind.u64.wrap z).toNat, by rw [IntKind.wrap_u64]; omega⟩
  have hl : n < 18446744073709551616 := by rw [IntKind.wrap_u64] at hn; omega
  rw [hn, maskN n hl]; omega
theorem ret_two {k l : IntKind} {a b c d : Int} (h : a = c) (h2 : b = d) : Ending.returned (.tuple #[.int k a, .int l b]) = .returned (.tuple #[.int k c, .int l d]) := by rw [h, h2]
theorem wrapM (a : Nat) : IntKind.u64.wrap (a : Int) = ((a % 18446744073709551616 : Nat) : Int) := by rw [IntKind.wrap_u64]; omega

set_option maxRecDepth 100000 in
set_option maxHeartbeats 4000000 in
theorem mul64_any (x y : Nat) (hx : x < 18446744073709551616) (hy : y < 18446744073709551616) (w : World) :
    Calls Try.prog 54 #[.int .u64 x, .int .u64 y] w fun e w' => e = .returned (.tuple #[.int .u64 ((x * y / 18446744073709551616 : Nat) : Int), .int .u64 ((x * y % 18446744073709551616 : Nat) : Int)]) ∧ w = w' := by
  go_enter Try.func54, Try.ntmps54
  go_wp2
  go_ret2
  refine ⟨ret_two ?_ ?_, rfl⟩
  · obtain ⟨b1, b2, b3, hh⟩ := Lib.mul64_hi x y hx hy
    have ba := Lib.half_mul_le (a := x / 4294967296) (b := y / 4294967296) (by omega) (by omega)
    have bb := Lib.half_mul_le (a := x / 4294967296) (b := y % 4294967296) (by omega) (by omega)
    have bc := Lib.half_mul_le (a := x % 4294967296) (b := y / 4294967296) (by omega) (by omega)
    have d0 : (x : Int) / 4294967296 = ((x / 4294967296 : Nat) : Int) := by omega
    have d1 : (y : Int) / 4294967296 = ((y / 4294967296 : Nat) : Int) := by omega
    rw [maskN x hx, maskN y hy, d0, d1]
    simp only [maskW, ← Int.natCast_mul]
    simp only [IntKind.wrap_u64]
    rw [← hh]
    generalize x / 4294967296 * (y / 4294967296) = p3 at *
    generalize x / 4294967296 * (y % 4294967296) = p2 at *
    generalize x % 4294967296 * (y / 4294967296) = p1 at *
    generalize x % 4294967296 * (y % 4294967296) = p0 at *
    clear d0 d1 hh hx hy
    omega
  · rw [← Int.natCast_mul, wrapM]
end Go.Proofs.Ytmbphmamdkgjjaa
