/-
  Plain laws: a text that is taken piece by piece.
-/
import Derived.Test.YtmbphmamdkgjjaaPure3
import Derived.Laws.BytesArg
namespace Go.Proofs.Ytmbphmamdkgjjaa
def tab64 (g : Nat → Int) : List Int := (List.range 64).map g
theorem tab64_length (g : Nat → Int) : (tab64 g).length = 64 := by simp [tab64]
theorem lk_tab64 (g : Nat → Int) (i : Nat) (h : i < 64) : lk (tab64 g) i = g i := by
  unfold lk tab64
  rw [List.getD_eq_getElem?_getD, List.getElem?_map, List.getElem?_range h]; rfl
theorem lk_over (l : List Int) (i : Nat) (h : l.length ≤ i) : lk l i = 0 := by
  unfold lk; rw [List.getD_eq_getElem?_getD, List.getElem?_eq_none h]; rfl
theorem tab64_lt (g : Nat → Int) (h : ∀ i, i < 64 → 0 ≤ g i ∧ g i < 256) (i : Nat) : 0 ≤ lk (tab64 g) i ∧ lk (tab64 g) i < 256 := by
  by_cases hi : i < 64
  · rw [lk_tab64 g i hi]; exact h i hi
  · rw [lk_over _ _ (by rw [tab64_length]; omega)]; omega
theorem word_congr {m m' : List Int} {p p' : Nat} (h : ∀ i, i < 4 → lk m (p + i) = lk m' (p' + i)) : word m p = word m' p' := by
  have h0 := h 0 (by omega)
  have h1 := h 1 (by omega)
  have h2 := h 2 (by omega)
  have h3 := h 3 (by omega)
  rw [Nat.add_zero, Nat.add_zero] at h0
  unfold word
  rw [h0, h1, h2, h3]
theorem wsTo_congr {m m' : List Int} {p p' : Nat} (h : ∀ i, i < 64 → lk m (p + i) = lk m' (p' + i)) : ∀ k, wsTo m p k = wsTo m' p' k
  | 0 => rfl
  | k + 1 => by
    rw [wsTo, wsTo, wsTo_congr h k]
    by_cases hk : k < 16
    · rw [if_pos hk, if_pos hk, word_congr (m := m) (m' := m') (p := p + 4 * k) (p' := p' + 4 * k) (fun i hi => by rw [Nat.add_assoc, Nat.add_assoc]; exact h _ (by omega))]
    · rw [if_neg hk, if_neg hk]
theorem stateTo_congr {m m' : List Int} : ∀ k, (∀ i, i < 64 * k → lk m i = lk m' i) → stateTo m k = stateTo m' k
  | 0, _ => rfl
  | k + 1, h => by
    rw [stateTo, stateTo, stateTo_congr k (fun i hi => h i (by omega)), wsTo_congr (m := m) (m' := m') (p := 64 * k) (p' := 64 * k) (fun i hi => h _ (by omega)) 64]
theorem lk_append_ge (l r : List Int) (i : Nat) (h : l.length ≤ i) : lk (l ++ r) i = lk r (i - l.length) := by
  unfold lk; rw [List.getD_eq_getElem?_getD, List.getD_eq_getElem?_getD, List.getElem?_append_right h]
theorem stateTo_append (t q : List Int) (k : Nat) (h : 64 * k ≤ t.length) : stateTo (t ++ q) k = stateTo t k :=
  stateTo_congr k (fun i hi => lk_append_lt _ _ _ (by omega))
theorem lk_take (l : List Int) (n i : Nat) (h : i < n) : lk (l.take n) i = lk l i := by
  unfold lk; rw [List.getD_eq_getElem?_getD, List.getD_eq_getElem?_getD, List.getElem?_take_of_lt h]
theorem lk_drop (l : List Int) (n i : Nat) : lk (l.drop n) i = lk l (n + i) := by
  unfold lk; rw [List.getD_eq_getElem?_getD, List.getD_eq_getElem?_getD, List.getElem?_drop]
/-- the block behind a copy of q to place f -/
def blkC (blk q : List Int) (f : Nat) : List Int := tab64 (fun i => if f ≤ i ∧ i < f + q.length then lk q (i - f) else lk blk i)
theorem byt_extract (p : ByteArray) (n : Nat) : byt (p.extract n p.size) = (byt p).drop n := by
  simp only [byt, ByteArray.data_extract, Array.toList_extract]
  rw [List.extract_eq_take_drop, List.take_of_length_le (by simp), List.map_drop]
theorem byt_str (l : List Int) (h : ∀ x ∈ l, 0 ≤ x ∧ x < 256) : byt (strOfNums l) = l := by
  rw [byt, strOfNums_data, List.map_map]
  conv => rhs; rw [← List.map_id l]
  refine List.map_congr_left (fun x hx => ?_)
  have := h x hx
  simp only [Function.comp, id, UInt8.toNat_ofNat']
  omega
theorem byt_append (a b : ByteArray) : byt (a ++ b) = byt a ++ byt b := by simp [byt]
end Go.Proofs.Ytmbphmamdkgjjaa
