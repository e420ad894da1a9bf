import Derived.Test.YtaeanelfpaphiabNumL
import Derived.Test.YtaeanelfpaphiabPure4
namespace Go.Proofs.Ytaeanelfpaphiab
set_option linter.unusedVariables false

theorem toNat_byte (n : Nat) (k : Nat) : ((n : Int) / (k : Int) % 256).toNat = n / k % 256 := by
  rw [← Int.natCast_ediv]
  omega
theorem dig (m q : Nat) (h : q = m / 256) : q * 256 + m % 256 = m := by omega
theorem numL_be8 (n : Nat) (h : n < 18446744073709551616) : numL (be8 (n : Int)) = n := by
  have e0 := toNat_byte n 72057594037927936
  have e1 := toNat_byte n 281474976710656
  have e2 := toNat_byte n 1099511627776
  have e3 := toNat_byte n 4294967296
  have e4 := toNat_byte n 16777216
  have e5 := toNat_byte n 65536
  have e6 := toNat_byte n 256
  have e7 : ((n : Int) % 256).toNat = n % 256 := by omega
  have f0 : n / 72057594037927936 % 256 = n / 72057594037927936 := by omega
  have f1 := dig (n / 281474976710656) (n / 72057594037927936) (by omega)
  have f2 := dig (n / 1099511627776) (n / 281474976710656) (by omega)
  have f3 := dig (n / 4294967296) (n / 1099511627776) (by omega)
  have f4 := dig (n / 16777216) (n / 4294967296) (by omega)
  have f5 := dig (n / 65536) (n / 16777216) (by omega)
  have f6 := dig (n / 256) (n / 65536) (by omega)
  have f7 := dig n (n / 256) rfl
  have e : numL (be8 (n : Int)) = (((((((0 * 256 + n / 72057594037927936 % 256) * 256 + n / 281474976710656 % 256) * 256 + n / 1099511627776 % 256) * 256 + n / 4294967296 % 256) * 256 + n / 16777216 % 256) * 256 + n / 65536 % 256) * 256 + n / 256 % 256) * 256 + n % 256 := by
    rw [← e0, ← e1, ← e2, ← e3, ← e4, ← e5, ← e6, ← e7]; rfl
  rw [e, f0, Nat.zero_mul, Nat.zero_add, f1, f2, f3, f4, f5, f6, f7]
theorem be8_numL (a b c d e f g h : Int) (ha : 0 ≤ a ∧ a < 256) (hb : 0 ≤ b ∧ b < 256) (hc : 0 ≤ c ∧ c < 256) (hd : 0 ≤ d ∧ d < 256) (he : 0 ≤ e ∧ e < 256) (hf : 0 ≤ f ∧ f < 256) (hg : 0 ≤ g ∧ g < 256) (hh : 0 ≤ h ∧ h < 256) :
    be8 ((numL [a, b, c, d, e, f, g, h] : Nat) : Int) = [a, b, c, d, e, f, g, h] := by
  have e1 : ((numL [a, b, c, d, e, f, g, h] : Nat) : Int) = ((((((a * 256 + b) * 256 + c) * 256 + d) * 256 + e) * 256 + f) * 256 + g) * 256 + h := by
    simp only [numL, List.foldl_cons, List.foldl_nil]
    omega
  rw [e1]
  simp only [be8, List.cons.injEq, and_true]
  refine ⟨?_, ?_, ?_, ?_, ?_, ?_, ?_, ?_⟩ <;> omega
theorem byt_inj {s t : ByteArray} (h : byt s = byt t) : s = t := by
  apply ByteArray.ext
  apply Array.ext'
  have h2 : s.data.toList.map (fun b => ((b.toNat : Nat) : Int)) = t.data.toList.map (fun b => ((b.toNat : Nat) : Int)) := by simpa [byt] using h
  exact (List.map_inj_right (fun a b hab => UInt8.toNat_inj.1 (Int.ofNat_inj.1 hab))).1 h2
/-- a text of eight bytes is that of its number alone -/
theorem str8 (s : ByteArray) (hs : s.size = 8) (n : Nat) (hn : n < 18446744073709551616) : strOfNums (be8 (n : Int)) = s ↔ n = numL (byt s) := by
  constructor
  · intro h
    rw [← h, byt_str _ (be8_lt _), numL_be8 n hn]
  · intro h
    apply byt_inj
    rw [byt_str _ (be8_lt _), h]
    have hl := byt_length s
    have hb := byt_lt s
    rw [hs] at hl
    generalize byt s = l at *
    match l, hl with
    | [a, b, c, d, e, f, g, k], _ =>
      exact be8_numL a b c d e f g k (hb a (by simp)) (hb b (by simp)) (hb c (by simp)) (hb d (by simp)) (hb e (by simp)) (hb f (by simp)) (hb g (by simp)) (hb k (by simp))
end Go.Proofs.Ytaeanelfpaphiab
