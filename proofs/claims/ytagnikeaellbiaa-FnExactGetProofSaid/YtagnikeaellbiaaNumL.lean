import Derived.Test.YtagnikeaellbiaaPure4
namespace Go.Proofs.Ytagnikeaellbiaa
set_option linter.unusedVariables false

/-- bytes as a number, the highest first -/
def numL (l : List Int) : Nat := l.foldl (fun r x => r * 256 + x.toNat) 0
theorem numL_snoc (l : List Int) (x : Int) : numL (l ++ [x]) = numL l * 256 + x.toNat := by simp [numL]
theorem byt_take (s : ByteArray) (k : Nat) (h : k < s.size) : (byt s).take (k + 1) = (byt s).take k ++ [(s[k].toNat : Int)] := by
  rw [List.take_succ_eq_append_getElem (by rw [byt_length]; exact h)]
  simp [byt]
  rfl
theorem numL_take (s : ByteArray) (k : Nat) (h : k < s.size) : numL ((byt s).take (k + 1)) = numL ((byt s).take k) * 256 + s[k].toNat := by
  rw [byt_take s k h, numL_snoc]; simp
end Go.Proofs.Ytagnikeaellbiaa
