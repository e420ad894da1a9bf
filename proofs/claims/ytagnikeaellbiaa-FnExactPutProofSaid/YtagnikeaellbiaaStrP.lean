import Derived.Test.YtagnikeaellbiaaNumL
import Derived.Test.YtagnikeaellbiaaOrN
namespace Go.Proofs.Ytagnikeaellbiaa
open Go.RowKit
set_option linter.unusedVariables false

theorem numL_lt (l : List Int) (h : ∀ x ∈ l, 0 ≤ x ∧ x < 256) : numL l < 256 ^ l.length := by
  suffices ∀ (l : List Int) (a n : Nat), (∀ x ∈ l, 0 ≤ x ∧ x < 256) → a < 256 ^ n → l.foldl (fun r x => r * 256 + x.toNat) a < 256 ^ (n + l.length) by
    have := this l 0 0 h (by decide)
    rwa [Nat.zero_add] at this
  intro l
  induction l with
  | nil => intro a n _ h; simpa using h
  | cons x l ih =>
    intro a n hx ha
    have := ih (a * 256 + x.toNat) (n + 1) (fun y hy => hx y (List.mem_cons_of_mem _ hy)) (by
      have := hx x List.mem_cons_self
      rw [Nat.pow_succ]; omega)
    rw [List.foldl_cons, List.length_cons, show n + (l.length + 1) = n + 1 + l.length by omega]
    exact this
theorem numL_take_lt (s : ByteArray) (k : Nat) (hk : k < 8) : numL ((byt s).take k) < 72057594037927936 := by
  have h1 := numL_lt ((byt s).take k) (fun x hx => byt_lt s x (List.mem_of_mem_take hx))
  have h2 : (256 : Nat) ^ ((byt s).take k).length ≤ 256 ^ 7 := Nat.pow_le_pow_right (by decide) (by rw [List.length_take]; omega)
  have : (256 : Nat) ^ 7 = 72057594037927936 := by decide
  omega
theorem numL_8 (s : ByteArray) (h : s.size = 8) : numL (byt s) < 18446744073709551616 := by
  have h1 := numL_lt (byt s) (byt_lt s)
  rw [byt_length, h] at h1
  have : (256 : Nat) ^ 8 = 18446744073709551616 := by decide
  omega

/-- a byte behind a word that is moved up -/
theorem or_byte (z : Nat) (v : UInt8) : bits .or .u64 (IntKind.u64.wrap ((z : Int) * 256)) ((v.toNat : Nat) : Int) = ((z * 256 % 18446744073709551616 + v.toNat : Nat) : Int) := by
  have hv := v.toNat_lt
  have e : IntKind.u64.wrap ((z : Int) * 256) = ((z * 256 % 18446744073709551616 : Nat) : Int) := by rw [IntKind.wrap_u64]; omega
  rw [e, orN _ _ (Nat.mod_lt _ (by decide)) (by omega)]
  have e2 : z * 256 % 18446744073709551616 = z % 72057594037927936 * 2 ^ 8 := by omega
  rw [e2, Dv.or_add _ _ 8 (by omega)]
end Go.Proofs.Ytagnikeaellbiaa
