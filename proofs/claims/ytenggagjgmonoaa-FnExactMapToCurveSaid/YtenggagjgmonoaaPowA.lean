import Derived.Test.YtenggagjgmonoaaBitI
import Derived.Test.YtenggagjgmonoaaOwn
import Derived.RangeFuncFrom
namespace Go.Proofs.Ytenggagjgmonoaa
open Go.RowKit Go.Shelf
set_option linter.unusedVariables false
attribute [local go_sem] Oper.semAt_some

/-- the number that bits spell, the highest first -/
def valB (l : List Bool) : Nat := l.foldl (fun v b => 2 * v + b.toNat) 0
theorem valB_snoc (l : List Bool) (b : Bool) : valB (l ++ [b]) = 2 * valB l + b.toNat := by simp [valB]
theorem valB_bits (e L : Nat) : ∀ j, j ≤ L → e / 2 ^ L = 0 → valB (bitsF e L j) = e / 2 ^ (L - j)
  | 0, _, h => by simp [bitsF, valB, h]
  | j + 1, hj, h => by
    rw [bitsF, valB_snoc, valB_bits e L j (by omega) h]
    have e1 : L - j = L - (j + 1) + 1 := by omega
    rw [e1]
    generalize L - (j + 1) = i
    have : e / 2 ^ (i + 1) = e / 2 ^ i / 2 := by rw [Nat.pow_succ, Nat.div_div_eq_div_mul]
    rw [this]
    generalize e / 2 ^ i = z
    by_cases hz : z % 2 = 1
    · simp [hz]; omega
    · simp [hz]; omega
theorem valB_all (e : Nat) (he : e < 2 ^ 64) : valB (bitsF e (Lib.bitLen e) (Lib.bitLen e)) = e := by
  have h : e < 2 ^ Lib.bitLen e := len_up 64 e he
  rw [valB_bits e _ _ (Nat.le_refl _) (Nat.div_eq_of_lt h), Nat.sub_self, Nat.pow_zero, Nat.div_one]

theorem cell_new1 (w : World) (v : Value) (t : TypeId) {b : Nat} (e : w.heap.size = b) : (w.alloc (.cells #[v] t)).cell? ⟨b, 0, none⟩ = some v := by subst e; rw [World.cell?, World.alloc_heap_new w _]; rfl
theorem setCell_heap (W : World) (b i : Nat) (v : Value) (k : Nat) (h : k ≠ b) : (W.setCell ⟨b, i, none⟩ v).heap[k]? = W.heap[k]? := by
  simp [World.setCell, Array.getElem?_modify, Ne.symm h]
theorem keeps_below {W W' : World} (h : Below W.heap.size W W') : KeepsOthers W W' := ⟨h.size, fun k o hk _ => (h.block k (Array.getElem?_eq_some_iff.1 hk).1).trans hk⟩

theorem pow_step0 (a m c d v : Nat) (hc : c = a ^ v % m) (hd : d = c * c % m) : d = a ^ (2 * v) % m := by
  rw [hd, hc, Nat.two_mul, Nat.pow_add, ← Nat.mul_mod]
theorem pow_step1 (a m c d d2 v : Nat) (hc : c = a ^ v % m) (hd : d = c * c % m) (hd2 : d2 = d * a % m) : d2 = a ^ (2 * v + 1) % m := by
  rw [hd2, pow_step0 a m c d v hc hd, Nat.mod_mul_mod, Nat.pow_succ]

end Go.Proofs.Ytenggagjgmonoaa
