import Derived.RangeFuncNested
import Derived.RangeFuncBound
import Derived.RangeFuncCalls
import Derived.RangeFuncLeaves
import Derived.Shelf.Abstract
import Derived.Shelf.RegionOpen
import Derived.WalkKit
import Derived.OwnWalkIn
import Derived.TacticsInMore
import Derived.LoopNIn
import Derived.LoopIn
import Derived.Test.YtenggagjgmonoaaDiv
namespace Go.Proofs.Ytenggagjgmonoaa
open Go.RowKit Go.Shelf
set_option linter.unusedVariables false
attribute [local go_sem] Oper.semAt_some

/-- the highest j of L bits, the highest first -/
def bitsF (e L : Nat) : Nat → List Bool
  | 0 => []
  | j + 1 => bitsF e L j ++ [decide (e / 2 ^ (L - (j + 1)) % 2 = 1)]
theorem bitsF_length (e L : Nat) : ∀ j, (bitsF e L j).length = j
  | 0 => rfl
  | j + 1 => by simp [bitsF, bitsF_length e L j]
theorem and1 (z : Nat) (h : z < 18446744073709551616) : bits .and .u64 (z : Int) 1 = ((z % 2 : Nat) : Int) := by
  have := bits_and_u64_nat z 1 h (by decide)
  rwa [show z &&& 1 = z % 2 from Nat.and_two_pow_sub_one_eq_mod z 1] at this
theorem bit_eq (e i : Nat) (he : e < 18446744073709551616) : (bits .and .u64 ((e : Int) / 2 ^ i) 1 == 1) = decide (e / 2 ^ i % 2 = 1) := by
  have e1 : (e : Int) / 2 ^ i = ((e / 2 ^ i : Nat) : Int) := by simp
  rw [e1, and1 _ (Nat.lt_of_le_of_lt (Nat.div_le_self _ _) he)]
  generalize e / 2 ^ i % 2 = z
  by_cases h : z = 1
  · subst h; rfl
  · simp [h]; omega

set_option maxRecDepth 100000 in
set_option maxHeartbeats 4000000 in
theorem bit_stops (n : Nat) (hn : 1 ≤ n) (e Be : Nat) (he : e < 18446744073709551616) (w : World) (hc : w.cell? ⟨Be, 0, none⟩ = some (.int .u64 e)) (hB : Be < w.heap.size) :
    SeqStopsK Fence.wide n Try.prog 30 #[.pointer (some ⟨Be, 0, none⟩)] (fun b : Bool => #[.bool b]) (fun W W' => W.cell? ⟨Be, 0, none⟩ = some (.int .u64 e) → W'.cell? ⟨Be, 0, none⟩ = some (.int .u64 e))
      (fun xs => xs = bitsF e (Lib.bitLen e) (Lib.bitLen e)) (fun _ => True) 64 w := fun l J Jx W hW _ _ hY h0 => by
  have hcW : W.cell? ⟨Be, 0, none⟩ = some (.int .u64 e) := (hW.cell (p := ⟨Be, 0, none⟩) hB).trans hc
  have hL := len_nat e he
  have hl := len_le e (by omega)
  have hbe := bit_eq e
  generalize Lib.bitLen e = L at *
  refine callsIn_of_wp Try.func30 rfl trivial ?_ rfl
  simp only [Try.ntmps30, List.size_toArray, List.length_cons, List.length_nil, Nat.reduceAdd, Nat.reduceSub, Array.replicate_succ, Array.replicate_zero, List.push_toArray, List.append_toArray, List.nil_append, List.cons_append]
  gi_wp2_with (refine ⟨trivial, ?_⟩; gi_at_call 29; refine (callsIn_wide.2 (hL _)).mono ?_; rintro e w' ⟨rfl, rfl⟩)
  clear hL
  gi_loopw [3] (fun i wr => ∃ (k : Nat) (x : Int), x = (k : Int) - 1 ∧ k ≤ L ∧ i = .int .i64 x ∧ wr.cell? ⟨Be, 0, none⟩ = some (.int .u64 e) ∧ J (bitsF e L (L - k)) wr) (fun i _ => (intOf i + 1).toNat)
  case atStart => exact ⟨L, (L : Int) - 1, rfl, Nat.le_refl _, rfl, hcW, by rw [Nat.sub_self]; exact h0⟩
  case round =>
    obtain ⟨k, x, hx, hk, rfl, hcr, hJ⟩ := hrel
    rcases k with _ | j
    · have hneg : ¬ ((0 : Int) ≤ x) := by omega
      clear hx
      gi_wp2
      go_end0
      exact ⟨⟨_, rfl⟩, .inl hJ⟩
    · obtain rfl : x = (j : Int) := by omega
      clear hx
      have hbj := hbe j he
      have hst : bitsF e L (L - j) = bitsF e L (L - (j + 1)) ++ [decide (e / 2 ^ j % 2 = 1)] := by
        have e1 : L - j = L - (j + 1) + 1 := by omega
        rw [e1, bitsF, show L - (L - (j + 1) + 1) = j by omega]
      generalize decide (e / 2 ^ j % 2 = 1) = bb at *
      obtain ⟨fn, tmps, assign, body, hy, hR⟩ := hY _ bb wr hJ (by rw [bitsF_length]; omega)
      rw [← hst] at hR
      clear hY hbe hst
      gi_wp2
      refine hR.mono ?_
      rintro e' W3 (⟨rfl, hJ3, hk3⟩ | ⟨rfl, hJx3⟩)
      · have hc3 := hk3 hcr
        gi_wp2
        go_roundw
        case rel => exact ⟨j, (j : Int) - 1, rfl, by omega, rfl, hc3, hJ3⟩
        case measure => simp [intOf]
      · gi_wp2
        refine bodyPost_ret (results_none rfl _ _ _) rfl ?_
        exact ⟨⟨_, rfl⟩, .inr ⟨_, trivial, hJx3⟩⟩

set_option maxRecDepth 100000 in
theorem bits_of (e : Nat) (w : World) :
    Calls Try.prog 28 #[.int .u64 e] w fun r w' => r = .returned (.func (.func 30) #[] #[.pointer (some ⟨w.heap.size, 0, none⟩)]) ∧ w' = w.alloc (.cells #[.int .u64 e] 22) := by
  go_enter Try.func28, Try.ntmps28
  go_wp2
  go_ret
  exact ⟨rfl, rfl⟩
end Go.Proofs.Ytenggagjgmonoaa
