import Derived.RangeFuncNested
import Derived.RangeFuncBound
import Derived.RangeFuncCalls
import Derived.RangeFuncLeaves
import Derived.Shelf.Abstract
import Derived.Shelf.RegionOpen
import Derived.WalkKit
import Derived.OwnWalkIn
import Derived.TacticsInMore
import Derived.LoopNIn
import Derived.LoopIn
import Derived.Test.YtenggagjgmonoaaDoorMrg20
import Derived.Test.YtenggagjgmonoaaDoorMrg1
import Derived.RangeFuncFrom
namespace Go.Proofs.YtenggagjgmonoaaDoor
open Go.RowKit Go.Shelf
set_option linter.unusedVariables false
attribute [local go_sem] Oper.semAt_some

/-- the highest j of L bits, the highest first -/
def bitsF (e L : Nat) : Nat → List Bool
  | 0 => []
  | j + 1 => bitsF e L j ++ [decide (e / 2 ^ (L - (j + 1)) % 2 = 1)]
theorem bitsF_length (e L : Nat) : ∀ j, (bitsF e L j).length = j
  | 0 => rfl
  | j + 1 => by simp [bitsF, bitsF_length e L j]
theorem and1 (z : Nat) (h : z < 18446744073709551616) : bits .and .u64 (z : Int) 1 = ((z % 2 : Nat) : Int) := by
  have := bits_and_u64_nat z 1 h (by decide)
  rwa [show z &&& 1 = z % 2 from Nat.and_two_pow_sub_one_eq_mod z 1] at this
theorem bit_eq (e i : Nat) (he : e < 18446744073709551616) : (bits .and .u64 ((e : Int) / 2 ^ i) 1 == 1) = decide (e / 2 ^ i % 2 = 1) := by
  have e1 : (e : Int) / 2 ^ i = ((e / 2 ^ i : Nat) : Int) := by simp
  rw [e1, and1 _ (Nat.lt_of_le_of_lt (Nat.div_le_self _ _) he)]
  generalize e / 2 ^ i % 2 = z
  by_cases h : z = 1
  · subst h; rfl
  · simp [h]; omega

set_option maxRecDepth 100000 in
set_option maxHeartbeats 4000000 in
theorem bit_stops (n : Nat) (hn : 1 ≤ n) (e Be : Nat) (he : e < 18446744073709551616) (w : World) (hc : w.cell? ⟨Be, 0, none⟩ = some (.int .u64 e)) (hB : Be < w.heap.size) :
    SeqStopsK Fence.wide n Tryd.prog 93 #[.pointer (some ⟨Be, 0, none⟩)] (fun b : Bool => #[.bool b]) (fun W W' => W.cell? ⟨Be, 0, none⟩ = some (.int .u64 e) → W'.cell? ⟨Be, 0, none⟩ = some (.int .u64 e))
      (fun xs => xs = bitsF e (Lib.bitLen e) (Lib.bitLen e)) (fun _ => True) 64 w := fun l J Jx W hW _ _ hY h0 => by
  have hcW : W.cell? ⟨Be, 0, none⟩ = some (.int .u64 e) := (hW.cell (p := ⟨Be, 0, none⟩) hB).trans hc
  have hL := len_nat e he
  have hl := len_le e (by omega)
  have hbe := bit_eq e
  generalize Lib.bitLen e = L at *
  refine callsIn_of_wp Tryd.func93 rfl trivial ?_ rfl
  simp only [Tryd.ntmps93, List.size_toArray, List.length_cons, List.length_nil, Nat.reduceAdd, Nat.reduceSub, Array.replicate_succ, Array.replicate_zero, List.push_toArray, List.append_toArray, List.nil_append, List.cons_append]
  gi_wp2_with (refine ⟨trivial, ?_⟩; gi_at_call 89; refine (callsIn_wide.2 (hL _)).mono ?_; rintro e w' ⟨rfl, rfl⟩)
  clear hL
  gi_loopw [3] (fun i wr => ∃ (k : Nat) (x : Int), x = (k : Int) - 1 ∧ k ≤ L ∧ i = .int .i64 x ∧ wr.cell? ⟨Be, 0, none⟩ = some (.int .u64 e) ∧ J (bitsF e L (L - k)) wr) (fun i _ => (intOf i + 1).toNat)
  case atStart => exact ⟨L, (L : Int) - 1, rfl, Nat.le_refl _, rfl, hcW, by rw [Nat.sub_self]; exact h0⟩
  case round =>
    obtain ⟨k, x, hx, hk, rfl, hcr, hJ⟩ := hrel
    rcases k with _ | j
    · have hneg : ¬ ((0 : Int) ≤ x) := by omega
      clear hx
      gi_wp2
      go_end0
      exact ⟨⟨_, rfl⟩, .inl hJ⟩
    · obtain rfl : x = (j : Int) := by omega
      clear hx
      have hbj := hbe j he
      have hst : bitsF e L (L - j) = bitsF e L (L - (j + 1)) ++ [decide (e / 2 ^ j % 2 = 1)] := by
        have e1 : L - j = L - (j + 1) + 1 := by omega
        rw [e1, bitsF, show L - (L - (j + 1) + 1) = j by omega]
      generalize decide (e / 2 ^ j % 2 = 1) = bb at *
      obtain ⟨fn, tmps, assign, body, hy, hR⟩ := hY _ bb wr hJ (by rw [bitsF_length]; omega)
      rw [← hst] at hR
      clear hY hbe hst
      gi_wp2
      refine hR.mono ?_
      rintro e' W3 (⟨rfl, hJ3, hk3⟩ | ⟨rfl, hJx3⟩)
      · have hc3 := hk3 hcr
        gi_wp2
        go_roundw
        case rel => exact ⟨j, (j : Int) - 1, rfl, by omega, rfl, hc3, hJ3⟩
        case measure => simp [intOf]
      · gi_wp2
        refine bodyPost_ret (results_none rfl _ _ _) rfl ?_
        exact ⟨⟨_, rfl⟩, .inr ⟨_, trivial, hJx3⟩⟩

set_option maxRecDepth 100000 in
theorem bits_of (e : Nat) (w : World) :
    Calls Tryd.prog 90 #[.int .u64 e] w fun r w' => r = .returned (.func (.func 93) #[] #[.pointer (some ⟨w.heap.size, 0, none⟩)]) ∧ w' = w.alloc (.cells #[.int .u64 e] 25) := by
  go_enter Tryd.func90, Tryd.ntmps90
  go_wp2
  go_ret
  exact ⟨rfl, rfl⟩
end Go.Proofs.YtenggagjgmonoaaDoor

namespace Go.Proofs.YtenggagjgmonoaaDoor
open Go.RowKit Go.Shelf
set_option linter.unusedVariables false
attribute [local go_sem] Oper.semAt_some

/-- the number that bits spell, the highest first -/
def valB (l : List Bool) : Nat := l.foldl (fun v b => 2 * v + b.toNat) 0
theorem valB_snoc (l : List Bool) (b : Bool) : valB (l ++ [b]) = 2 * valB l + b.toNat := by simp [valB]
theorem valB_bits (e L : Nat) : ∀ j, j ≤ L → e / 2 ^ L = 0 → valB (bitsF e L j) = e / 2 ^ (L - j)
  | 0, _, h => by simp [bitsF, valB, h]
  | j + 1, hj, h => by
    rw [bitsF, valB_snoc, valB_bits e L j (by omega) h]
    have e1 : L - j = L - (j + 1) + 1 := by omega
    rw [e1]
    generalize L - (j + 1) = i
    have : e / 2 ^ (i + 1) = e / 2 ^ i / 2 := by rw [Nat.pow_succ, Nat.div_div_eq_div_mul]
    rw [this]
    generalize e / 2 ^ i = z
    by_cases hz : z % 2 = 1
    · simp [hz]; omega
    · simp [hz]; omega
theorem valB_all (e : Nat) (he : e < 2 ^ 64) : valB (bitsF e (Lib.bitLen e) (Lib.bitLen e)) = e := by
  have h : e < 2 ^ Lib.bitLen e := len_up 64 e he
  rw [valB_bits e _ _ (Nat.le_refl _) (Nat.div_eq_of_lt h), Nat.sub_self, Nat.pow_zero, Nat.div_one]

theorem cell_new1 (w : World) (v : Value) (t : TypeId) {b : Nat} (e : w.heap.size = b) : (w.alloc (.cells #[v] t)).cell? ⟨b, 0, none⟩ = some v := by subst e; rw [World.cell?, World.alloc_heap_new w _]; rfl
theorem setCell_heap (W : World) (b i : Nat) (v : Value) (k : Nat) (h : k ≠ b) : (W.setCell ⟨b, i, none⟩ v).heap[k]? = W.heap[k]? := by
  simp [World.setCell, Array.getElem?_modify, Ne.symm h]
theorem keeps_below {W W' : World} (h : Below W.heap.size W W') : KeepsOthers W W' := ⟨h.size, fun k o hk _ => (h.block k (Array.getElem?_eq_some_iff.1 hk).1).trans hk⟩

theorem pow_step0 (a m c d v : Nat) (hc : c = a ^ v % m) (hd : d = c * c % m) : d = a ^ (2 * v) % m := by
  rw [hd, hc, Nat.two_mul, Nat.pow_add, ← Nat.mul_mod]
theorem pow_step1 (a m c d d2 v : Nat) (hc : c = a ^ v % m) (hd : d = c * c % m) (hd2 : d2 = d * a % m) : d2 = a ^ (2 * v + 1) % m := by
  rw [hd2, pow_step0 a m c d v hc hd, Nat.mod_mul_mod, Nat.pow_succ]

end Go.Proofs.YtenggagjgmonoaaDoor
