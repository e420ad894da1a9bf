import Derived.Test.YtigjoddbljjdnaaDoorMrg10
import Derived.Test.YtigjoddbljjdnaaDoorMrg11
import Derived.Below
import Derived.Laws.AppendOwn
namespace Go.Proofs.YtigjoddbljjdnaaDoor
open Go.RowKit
set_option linter.unusedVariables false

/-- numbers below m made of a message -/
def h2f (msg tag : List Int) (m c : Nat) : List Int := (List.range c).map (fun i => ((numL (piece (expM msg tag (24 * c)) i) % m : Nat) : Int))
theorem h2f_length (msg tag : List Int) (m c : Nat) : (h2f msg tag m c).length = c := by simp [h2f]
theorem h2f_take (msg tag : List Int) (m c k : Nat) (hk : k < c) : (h2f msg tag m c).take (k + 1) = (h2f msg tag m c).take k ++ [((numL (piece (expM msg tag (24 * c)) k) % m : Nat) : Int)] := by
  rw [List.take_succ_eq_append_getElem (by rw [h2f_length]; exact hk)]
  simp [h2f]
theorem str_piece (l : List Int) (k : Nat) : (strOfNums l).extract (24 * k) (24 * k + 24) = strOfNums (piece l k) := by
  apply ByteArray.ext
  simp [strOfNums, piece, List.map_take, List.map_drop]
theorem piece_lt {l : List Int} (h : ∀ x ∈ l, 0 ≤ x ∧ x < 256) (k : Nat) : ∀ x ∈ piece l k, 0 ≤ x ∧ x < 256 := fun x hx => h x (List.mem_of_mem_drop (List.mem_of_mem_take hx))
theorem piece_length {l : List Int} {c : Nat} (h : l.length = 24 * c) (k : Nat) (hk : k < c) : (piece l k).length = 24 := by
  rw [piece, List.length_take, List.length_drop]; omega
/-- what is asked of the arguments -/
def okH (msg tag : ByteArray) (m : Nat) (c : Int) : Prop := 1 ≤ c ∧ c ≤ 340 ∧ m ≠ 0 ∧ okM msg tag (24 * c)
theorem own_keep {w w' : World} {base : Nat} {e : TypeId} {size : Nat} {v : Value} {n : Nat} {xs : List Value} (h : w.ownsRow base e size v n xs) (hb : Below w.heap.size w w') : w'.ownsRow base e size v n xs := by
  obtain ⟨h1, h2⟩ := h
  refine ⟨h1, ?_⟩
  rcases h2 with h | ⟨g, cap, cur, rfl, hbg, hg, h3⟩
  · exact .inl h
  · exact .inr ⟨g, cap, cur, rfl, hbg, (hb.block g (Array.getElem?_eq_some_iff.1 hg).1).trans hg, h3⟩
end Go.Proofs.YtigjoddbljjdnaaDoor

namespace Go.Proofs.YtigjoddbljjdnaaDoor
theorem outTo_take (k i : List Int) (j : Nat) : ∀ m, j ≤ m → (outTo k i m).take (32 * j) = outTo k i j
  | 0, h => by
    obtain rfl : j = 0 := by omega
    rfl
  | m + 1, h => by
    by_cases e : j = m + 1
    · subst e
      rw [List.take_of_length_le (by rw [outTo_length]; omega)]
    · have hl := outTo_length k i m
      rw [outTo, List.take_append_of_le_length (by omega)]
      exact outTo_take k i j m (by omega)
/-- what is expanded to fewer bytes is the beginning -/
theorem expF_take (k i : List Int) (n c : Nat) (h : c ≤ n) : (expF k i n).take c = expF k i c := by
  unfold expF
  rw [List.take_take, Nat.min_eq_left h, ← outTo_take k i ((c + 31) / 32) ((n + 31) / 32) (by omega), List.take_take, Nat.min_eq_left (by omega)]
theorem expF_length (k i : List Int) (n : Nat) : (expF k i n).length = n := by
  rw [expF, List.length_take, outTo_length]; omega
theorem piece_all (l : List Int) (h : l.length = 24) : piece l 0 = l := by
  unfold piece
  rw [Nat.mul_zero, List.drop_zero, List.take_of_length_le (by omega)]
end Go.Proofs.YtigjoddbljjdnaaDoor
