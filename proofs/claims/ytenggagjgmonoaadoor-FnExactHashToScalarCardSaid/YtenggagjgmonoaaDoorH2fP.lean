import Derived.Test.YtenggagjgmonoaaDoorPure7
import Derived.Test.YtenggagjgmonoaaDoorNumL
import Derived.Test.YtenggagjgmonoaaDoorOkM
import Derived.Below
import Derived.Laws.AppendOwn
namespace Go.Proofs.YtenggagjgmonoaaDoor
open Go.RowKit
set_option linter.unusedVariables false

/-- numbers below m made of a message -/
def h2f (msg tag : List Int) (m c : Nat) : List Int := (List.range c).map (fun i => ((numL (piece (expM msg tag (24 * c)) i) % m : Nat) : Int))
theorem h2f_length (msg tag : List Int) (m c : Nat) : (h2f msg tag m c).length = c := by simp [h2f]
theorem h2f_take (msg tag : List Int) (m c k : Nat) (hk : k < c) : (h2f msg tag m c).take (k + 1) = (h2f msg tag m c).take k ++ [((numL (piece (expM msg tag (24 * c)) k) % m : Nat) : Int)] := by
  rw [List.take_succ_eq_append_getElem (by rw [h2f_length]; exact hk)]
  simp [h2f]
theorem str_piece (l : List Int) (k : Nat) : (strOfNums l).extract (24 * k) (24 * k + 24) = strOfNums (piece l k) := by
  apply ByteArray.ext
  simp [strOfNums, piece, List.map_take, List.map_drop]
theorem piece_lt {l : List Int} (h : ∀ x ∈ l, 0 ≤ x ∧ x < 256) (k : Nat) : ∀ x ∈ piece l k, 0 ≤ x ∧ x < 256 := fun x hx => h x (List.mem_of_mem_drop (List.mem_of_mem_take hx))
theorem piece_length {l : List Int} {c : Nat} (h : l.length = 24 * c) (k : Nat) (hk : k < c) : (piece l k).length = 24 := by
  rw [piece, List.length_take, List.length_drop]; omega
/-- what is asked of the arguments -/
def okH (msg tag : ByteArray) (m : Nat) (c : Int) : Prop := 1 ≤ c ∧ c ≤ 340 ∧ m ≠ 0 ∧ okM msg tag (24 * c)
theorem own_keep {w w' : World} {base : Nat} {e : TypeId} {size : Nat} {v : Value} {n : Nat} {xs : List Value} (h : w.ownsRow base e size v n xs) (hb : Below w.heap.size w w') : w'.ownsRow base e size v n xs := by
  obtain ⟨h1, h2⟩ := h
  refine ⟨h1, ?_⟩
  rcases h2 with h | ⟨g, cap, cur, rfl, hbg, hg, h3⟩
  · exact .inl h
  · exact .inr ⟨g, cap, cur, rfl, hbg, (hb.block g (Array.getElem?_eq_some_iff.1 hg).1).trans hg, h3⟩
end Go.Proofs.YtenggagjgmonoaaDoor
