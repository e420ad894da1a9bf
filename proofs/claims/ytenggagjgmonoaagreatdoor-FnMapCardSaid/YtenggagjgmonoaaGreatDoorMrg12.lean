import Derived.Test.YtenggagjgmonoaaGreatDoorMrg10
import Derived.Test.YtenggagjgmonoaaGreatDoorMrg11
import Derived.Below
import Derived.Laws.AppendOwn
namespace Go.Proofs.YtenggagjgmonoaaGreatDoor
open Go.RowKit
set_option linter.unusedVariables false

/-- numbers below m made of a message -/
def h2f (msg tag : List Int) (m c : Nat) : List Int := (List.range c).map (fun i => ((numL (piece (expM msg tag (24 * c)) i) % m : Nat) : Int))
theorem h2f_length (msg tag : List Int) (m c : Nat) : (h2f msg tag m c).length = c := by simp [h2f]
theorem h2f_take (msg tag : List Int) (m c k : Nat) (hk : k < c) : (h2f msg tag m c).take (k + 1) = (h2f msg tag m c).take k ++ [((numL (piece (expM msg tag (24 * c)) k) % m : Nat) : Int)] := by
  rw [List.take_succ_eq_append_getElem (by rw [h2f_length]; exact hk)]
  simp [h2f]
theorem str_piece (l : List Int) (k : Nat) : (strOfNums l).extract (24 * k) (24 * k + 24) = strOfNums (piece l k) := by
  apply ByteArray.ext
  simp [strOfNums, piece, List.map_take, List.map_drop]
theorem piece_lt {l : List Int} (h : ∀ x ∈ l, 0 ≤ x ∧ x < 256) (k : Nat) : ∀ x ∈ piece l k, 0 ≤ x ∧ x < 256 := fun x hx => h x (List.mem_of_mem_drop (List.mem_of_mem_take hx))
theorem piece_length {l : List Int} {c : Nat} (h : l.length = 24 * c) (k : Nat) (hk : k < c) : (piece l k).length = 24 := by
  rw [piece, List.length_take, List.length_drop]; omega
/-- what is asked of the arguments -/
def okH (msg tag : ByteArray) (m : Nat) (c : Int) : Prop := 1 ≤ c ∧ c ≤ 340 ∧ m ≠ 0 ∧ okM msg tag (24 * c)
theorem own_keep {w w' : World} {base : Nat} {e : TypeId} {size : Nat} {v : Value} {n : Nat} {xs : List Value} (h : w.ownsRow base e size v n xs) (hb : Below w.heap.size w w') : w'.ownsRow base e size v n xs := by
  obtain ⟨h1, h2⟩ := h
  refine ⟨h1, ?_⟩
  rcases h2 with h | ⟨g, cap, cur, rfl, hbg, hg, h3⟩
  · exact .inl h
  · exact .inr ⟨g, cap, cur, rfl, hbg, (hb.block g (Array.getElem?_eq_some_iff.1 hg).1).trans hg, h3⟩
end Go.Proofs.YtenggagjgmonoaaGreatDoor

namespace Go.Proofs.YtenggagjgmonoaaGreatDoor
open Go.RowKit
set_option linter.unusedVariables false

/-- a message and a tag that can be hashed -/
def okT (msg tag : ByteArray) : Prop := 1 ≤ tag.size ∧ tag.size ≤ 255 ∧ msg.size ≤ 65535
theorem okT_H {msg tag : ByteArray} {m : Nat} {c : Int} (h0 : m ≠ 0) (h1 : 1 ≤ c) (h2 : c ≤ 340) : okT msg tag ↔ okH msg tag m c := by
  constructor
  · rintro ⟨h3, h4, h5⟩
    exact ⟨h1, h2, h0, h3, h4, by omega, by omega, h5⟩
  · rintro ⟨-, -, -, h3, h4, -, -, h5⟩
    exact ⟨h3, h4, h5⟩
/-- the number of a message below m, the i-th of c -/
def hNum (msg tag : ByteArray) (m c i : Nat) : Nat := numL (piece (expM (byt msg) (byt tag) (24 * c)) i) % m
theorem h2f_at (msg tag : ByteArray) (m c i : Nat) (hi : i < c) : lk (h2f (byt msg) (byt tag) m c) i = (hNum msg tag m c i : Nat) := by
  unfold lk h2f hNum
  rw [List.getD_eq_getElem?_getD, List.getElem?_map, List.getElem?_range hi]
  rfl

end Go.Proofs.YtenggagjgmonoaaGreatDoor
