/-
  Plain functions: what is expanded.
-/
import Derived.Test.YtenggagjgmonoaaDoorPure5
namespace Go.Proofs.YtenggagjgmonoaaDoor
def tTo (key info : List Int) : Nat → List Int
  | 0 => []
  | k + 1 => hmacF key (tTo key info k ++ info ++ [(k : Int) + 1])
def outTo (key info : List Int) : Nat → List Int
  | 0 => []
  | k + 1 => outTo key info k ++ tTo key info (k + 1)
theorem tTo_lt (key info : List Int) : ∀ k, ∀ x ∈ tTo key info k, 0 ≤ x ∧ x < 256
  | 0, x, h => by simp [tTo] at h
  | k + 1, x, h => hmacF_lt _ _ x h
theorem tTo_le (key info : List Int) (k : Nat) : (tTo key info k).length ≤ 32 := by
  cases k with
  | zero => simp [tTo]
  | succ k => rw [tTo, hmacF_length]; omega
theorem outTo_length (key info : List Int) : ∀ k, (outTo key info k).length = 32 * k
  | 0 => rfl
  | k + 1 => by rw [outTo, List.length_append, outTo_length key info k, tTo, hmacF_length]; omega
theorem outTo_lt (key info : List Int) : ∀ k, ∀ x ∈ outTo key info k, 0 ≤ x ∧ x < 256
  | 0, x, h => by simp [outTo] at h
  | k + 1, x, h => by
    rw [outTo, List.mem_append] at h
    rcases h with h | h
    · exact outTo_lt key info k x h
    · exact tTo_lt key info (k + 1) x h
def expF (key info : List Int) (n : Nat) : List Int := (outTo key info ((n + 31) / 32)).take n
theorem str_take (l : List Int) (n : Nat) : (strOfNums l).extract 0 n = strOfNums (l.take n) := by
  apply ByteArray.ext
  simp [strOfNums, List.map_take]
theorem str_append' (l r : List Int) : strOfNums l ++ strOfNums r = strOfNums (l ++ r) := by
  apply ByteArray.ext; simp [strOfNums]
theorem byt_one (k : Nat) (h : k < 255) : byt (strOfNums [(k : Int) + 1]) = [(k : Int) + 1] := byt_str _ (fun x hx => by simp at hx; omega)
end Go.Proofs.YtenggagjgmonoaaDoor
