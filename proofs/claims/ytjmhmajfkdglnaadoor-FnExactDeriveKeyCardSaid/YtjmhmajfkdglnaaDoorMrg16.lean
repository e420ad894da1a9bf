import Derived.Test.YtjmhmajfkdglnaaDoorChecked
import Derived.Test.YtjmhmajfkdglnaaDoorMrg0
import Derived.Test.YtjmhmajfkdglnaaDoorMrg15
import Derived.WalkKit
import Derived.ProofKit
import Derived.WalkSpells
import Derived.WalkLawsBesides
import Derived.Outline
import Derived.Test.YtjmhmajfkdglnaaDoorMrg1
namespace Go.Proofs.YtjmhmajfkdglnaaDoor
open Go.RowKit
set_option linter.unusedVariables false

set_option maxRecDepth 100000 in
theorem l2add_any (a b m : Nat) (w : World) (ha : a < m) (hb : b < m) (hm : m < 18446744073709551616) :
    Calls Tryd.prog 29 #[.int .u64 a, .int .u64 b, .int .u64 m] w fun e w' => e = .returned (.int .u64 ((a + b) % m : Nat)) ∧ w = w' := by
  by_cases h : m - b ≤ a
  · have e : ((a + b) % m : Nat) = a - (m - b) := by
      have : a + b = (a - (m - b)) + m := by omega
      rw [this, Nat.add_mod_right, Nat.mod_eq_of_lt (by omega)]
    rw [e]
    clear e
    go_enter Tryd.func29, Tryd.ntmps29
    go_wp2
    go_ret
    exact ⟨ret_u64 (by omega), rfl⟩
  · have e : ((a + b) % m : Nat) = a + b := Nat.mod_eq_of_lt (by omega)
    rw [e]
    clear e
    go_enter Tryd.func29, Tryd.ntmps29
    go_wp2
    go_ret
    exact ⟨ret_u64 (by omega), rfl⟩

theorem l2add_int (x y : Int) (a b m : Nat) (hx : x = a) (hy : y = b) (w : World) (ha : a < m) (hb : b < m) (hm : m < 18446744073709551616) :
    Calls Tryd.prog 29 #[.int .u64 x, .int .u64 y, .int .u64 m] w fun e w' => e = .returned (.int .u64 ((a + b) % m : Nat)) ∧ w = w' := by
  subst hx hy; exact l2add_any a b m w ha hb hm

theorem shr_succ (b j : Nat) : b / 2 ^ j = 2 * (b / 2 ^ (j + 1)) + b / 2 ^ j % 2 := by
  have : b / 2 ^ (j + 1) = b / 2 ^ j / 2 := by rw [Nat.pow_succ, Nat.div_div_eq_div_mul]
  omega
theorem bit_tmod (B j : Nat) : ((B : Int) / 2 ^ j).tmod 2 = ((B / 2 ^ j % 2 : Nat) : Int) := by
  have e : (B : Int) / 2 ^ j = ((B / 2 ^ j : Nat) : Int) := by simp
  rw [e, Int.tmod_eq_emod_of_nonneg (Int.natCast_nonneg _)]
  generalize B / 2 ^ j = z
  omega
theorem bit1 (x : Int) (B j : Nat) (hx : x = B) (h : B / 2 ^ j % 2 = 1) : ((x / 2 ^ j).tmod 2 == 1) = true := by
  rw [hx, bit_tmod, h]; rfl
theorem bit0 (x : Int) (B j : Nat) (hx : x = B) (h : B / 2 ^ j % 2 = 0) : ((x / 2 ^ j).tmod 2 == 1) = false := by
  rw [hx, bit_tmod, h]; rfl

end Go.Proofs.YtjmhmajfkdglnaaDoor

namespace Go.Proofs.YtjmhmajfkdglnaaDoor
set_option linter.unusedVariables false

/-- bytes as a number, the highest first -/
def numL (l : List Int) : Nat := l.foldl (fun r x => r * 256 + x.toNat) 0
theorem numL_snoc (l : List Int) (x : Int) : numL (l ++ [x]) = numL l * 256 + x.toNat := by simp [numL]
theorem byt_take (s : ByteArray) (k : Nat) (h : k < s.size) : (byt s).take (k + 1) = (byt s).take k ++ [(s[k].toNat : Int)] := by
  rw [List.take_succ_eq_append_getElem (by rw [byt_length]; exact h)]
  simp [byt]
  rfl
theorem numL_take (s : ByteArray) (k : Nat) (h : k < s.size) : numL ((byt s).take (k + 1)) = numL ((byt s).take k) * 256 + s[k].toNat := by
  rw [byt_take s k h, numL_snoc]; simp
end Go.Proofs.YtjmhmajfkdglnaaDoor
