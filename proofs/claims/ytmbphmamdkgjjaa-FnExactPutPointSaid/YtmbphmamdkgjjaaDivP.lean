/-
  The arithmetic of a division of two words by one, in halves (no run of a program).
-/
namespace Go.Proofs.Ytmbphmamdkgjjaa.Dv
set_option linter.unusedVariables false

/-- what holds while a half of the quotient is sought -/
structure Half (Y a b U d : Nat) : Prop where
  y : Y = a * 4294967296 + b
  b : b < 4294967296
  a0 : 2147483648 ≤ a
  a1 : a < 4294967296
  u : U < Y
  d : d < 4294967296

variable {Y a b U d q r : Nat}
theorem Half.ypos (h : Half Y a b U d) : 0 < Y := by have := h.u; omega
theorem Half.small (h : Half Y a b U d) : (U * 4294967296 + d) / Y < 4294967296 := by
  rw [Nat.div_lt_iff_lt_mul h.ypos]
  have := h.u; have := h.d
  have : (U + 1) * 4294967296 ≤ Y * 4294967296 := Nat.mul_le_mul_right _ (by omega)
  omega
theorem Half.less (h : Half Y a b U d) (e : q * a + r = U) : ((U * 4294967296 + d) / Y < q ↔ 4294967296 * r + d < q * b) := by
  rw [Nat.div_lt_iff_lt_mul h.ypos, h.y, Nat.mul_add, ← Nat.mul_assoc]
  generalize q * a = m at *
  generalize q * b = n at *
  omega
theorem Half.start (h : Half Y a b U d) : (U * 4294967296 + d) / Y ≤ U / a ∧ U / a ≤ 4294967297 := by
  have h0 := h.a0; have h1 := h.u; have h2 := h.d; have h3 := h.b; have hy := h.y
  constructor
  · apply Nat.le_of_lt_succ
    rw [Nat.div_lt_iff_lt_mul h.ypos, hy]
    have e := Nat.lt_mul_div_succ U (show 0 < a by omega)
    have e2 : U + 1 ≤ (U / a + 1) * a := by rw [Nat.mul_comm]; exact e
    have e3 : (U + 1) * 4294967296 ≤ (U / a + 1) * a * 4294967296 := Nat.mul_le_mul_right _ e2
    rw [Nat.mul_add, ← Nat.mul_assoc]
    generalize (U / a).succ * b = z
    generalize hz : (U / a + 1) * a = t at *
    omega
  · apply Nat.le_of_lt_succ
    rw [Nat.div_lt_iff_lt_mul (by omega)]
    omega
theorem Half.over (h : Half Y a b U d) (e : q * a + r = U) (hq : q ≤ 4294967296) (hr : 4294967296 ≤ r) : q ≤ (U * 4294967296 + d) / Y := by
  rw [Nat.le_div_iff_mul_le h.ypos, h.y, Nat.mul_add, ← Nat.mul_assoc]
  have h1 : q * b ≤ 4294967296 * r := Nat.mul_le_mul hq (by have := h.b; omega)
  generalize q * a = m at *
  generalize q * b = n at *
  omega
/-- both halves together -/
theorem two (Y U d0 d1 : Nat) (hY : 0 < Y) : ((U * 4294967296 + d1) % Y * 4294967296 + d0) % Y = (U * 18446744073709551616 + d1 * 4294967296 + d0) % Y := by
  have e : U * 18446744073709551616 + d1 * 4294967296 + d0 = (U * 4294967296 + d1) * 4294967296 + d0 := by omega
  rw [e, Nat.add_mod, Nat.mod_mul_mod, ← Nat.add_mod]
/-- what is left over, with the wrap of a word -/
theorem left (z Y : Nat) (hY : Y < 18446744073709551616) (h0 : 0 < Y) : (((z : Int) % 18446744073709551616) - (((z / Y) * Y : Nat) : Int) % 18446744073709551616) % 18446744073709551616 = ((z % Y : Nat) : Int) := by
  have e := Nat.div_add_mod z Y
  rw [Nat.mul_comm] at e
  have l := Nat.mod_lt z h0
  generalize z / Y * Y = t at *
  generalize z % Y = u at *
  omega
theorem shifted (x y s : Nat) : (x * 2 ^ s) % (y * 2 ^ s) / 2 ^ s = x % y := by
  rw [Nat.mul_mod_mul_right, Nat.mul_div_cancel _ (Nat.two_pow_pos s)]
/-- the dividend, shifted by s, in two words -/
theorem words (hi lo y s : Nat) (hs : s ≤ 63) (hlo : lo < 18446744073709551616) (hh : hi < y) (hy : y * 2 ^ s < 18446744073709551616) :
    hi * 2 ^ s < 18446744073709551616 ∧ lo / 2 ^ (64 - s) < 2 ^ s ∧ hi * 2 ^ s + lo / 2 ^ (64 - s) < y * 2 ^ s ∧
    (hi * 2 ^ s + lo / 2 ^ (64 - s)) * 18446744073709551616 + lo * 2 ^ s % 18446744073709551616 = (hi * 18446744073709551616 + lo) * 2 ^ s := by
  have hp := Nat.two_pow_pos s
  have e1 : (hi + 1) * 2 ^ s ≤ y * 2 ^ s := Nat.mul_le_mul_right _ hh
  rw [Nat.add_mul, Nat.one_mul] at e1
  have e2 : (2 : Nat) ^ (64 - s) * 2 ^ s = 18446744073709551616 := by rw [← Nat.pow_add, show 64 - s + s = 64 by omega]
  have e3 : lo / 2 ^ (64 - s) < 2 ^ s := by
    rw [Nat.div_lt_iff_lt_mul (Nat.two_pow_pos _), Nat.mul_comm, e2]; exact hlo
  have e4 : lo * 2 ^ s / 18446744073709551616 = lo / 2 ^ (64 - s) := by
    rw [← e2, Nat.mul_div_mul_right _ _ hp]
  refine ⟨by omega, e3, by omega, ?_⟩
  rw [← e4, Nat.add_mul, Nat.add_mul, Nat.mul_right_comm hi]
  have := Nat.div_add_mod (lo * 2 ^ s) 18446744073709551616
  generalize hi * 2 ^ s = t at *
  generalize lo * 2 ^ s = u at *
  omega
/-- an 'or' of parts that do not meet -/
theorem or_add (h t s : Nat) (ht : t < 2 ^ s) : h * 2 ^ s ||| t = h * 2 ^ s + t := by
  rw [Nat.mul_comm, Nat.two_pow_add_eq_or_of_lt ht]
end Go.Proofs.Ytmbphmamdkgjjaa.Dv
