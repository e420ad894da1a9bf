import Derived.Test.YtenggagjgmonoaaGreatDoorMrg21
import Derived.Deep.RegionHeld3
import Derived.RangeFuncNested
import Derived.RangeFuncBound
import Derived.RangeFuncCalls
import Derived.RangeFuncLeaves
import Derived.Shelf.Abstract
import Derived.Shelf.RegionOpen
import Derived.WalkKit
import Derived.OwnWalkIn
import Derived.TacticsInMore
import Derived.LoopNIn
import Derived.LoopIn
import Derived.Test.YtenggagjgmonoaaGreatDoorMrg19
namespace Go.Proofs.YtenggagjgmonoaaGreatDoor
open Go.RowKit M
set_option linter.unusedVariables false

theorem val_lt (a : Fp) : a.val < 2305843009213693951 := a.isLt
theorem fadd (x y : Int) (a b : Fp) (hx : x = a.val) (hy : y = b.val) (w : World) :
    Calls Tryz.prog 19 #[.int .u64 x, .int .u64 y, .int .u64 2305843009213693951] w fun e w' => e = .returned (.int .u64 ((a + b).val : Nat)) ∧ w = w' := by
  have := l2add_int x y a.val b.val 2305843009213693951 hx hy w a.isLt b.isLt (by decide)
  rw [Fin.val_add]
  exact this
theorem fmul (x y : Int) (a b : Fp) (hx : x = a.val) (hy : y = b.val) (w : World) :
    Calls Tryz.prog 18 #[.int .u64 x, .int .u64 y] w fun e w' => e = .returned (.int .u64 ((a * b).val : Nat)) ∧ w = w' := by
  subst hx hy
  rw [Fin.val_mul]
  exact l2times_any a.val b.val w a.isLt b.isLt
theorem fi_val (a : Fp) : (fi a).val = ivn 2305843009213693951 a.val := by
  unfold fi ivn
  generalize a.val ^ (2305843009213693951 - 2) = z
  show z % 2305843009213693951 % 2305843009213693951 = _
  omega
theorem finv (x : Int) (a : Fp) (hx : x = a.val) (w : World) :
    Calls Tryz.prog 20 #[.int .u64 x, .int .u64 2305843009213693951] w fun e w' => e = .returned (.int .u64 ((fi a).val : Nat)) ∧ w = w' := by
  subst hx
  rw [fi_val]
  exact invS_any a.val 2305843009213693951 w (Nat.lt_trans a.isLt (by decide)) (by decide) (by decide)
set_option maxRecDepth 100000 in
theorem fsub (x y : Int) (a b : Fp) (hx : x = a.val) (hy : y = b.val) (w : World) :
    Calls Tryz.prog 43 #[.int .u64 x, .int .u64 y] w fun e w' => e = .returned (.int .u64 ((a - b).val : Nat)) ∧ w = w' := by
  subst hx hy
  have ha := val_lt a
  have hb := val_lt b
  have e : a - b = a + (0 - b) := by grobner
  have e2 : (0 - b).val = (2305843009213693951 - b.val) % 2305843009213693951 := by
    rw [Fin.val_sub]; rfl
  have L := fun w x hx => fadd (a.val : Int) x a (0 - b) rfl hx w
  rw [← e] at L
  have hx : Hid ((2305843009213693951 - (b.val : Int)) % 2305843009213693951 = ((0 - b).val : Nat)) := by simp only [Hid]; rw [e2]; omega
  clear e e2
  generalize (a - b).val = c at *
  generalize (0 - b).val = d at *
  generalize a.val = A at *
  generalize b.val = B at *
  go_enter Tryz.func43, Tryz.ntmps43
  go_wp2_with fail
  refine (L _ _ (by have := hx.out; omega)).mono ?_
  rintro e w' ⟨rfl, rfl⟩
  clear L hx
  go_wp2
  go_ret
  exact ⟨rfl, rfl⟩
theorem fmul_v (a b : Fp) (w : World) :
    Calls Tryz.prog 18 #[.int .u64 (a.val : Nat), .int .u64 (b.val : Nat)] w fun e w' => e = .returned (.int .u64 ((a * b).val : Nat)) ∧ w = w' := fmul _ _ a b rfl rfl w
theorem fsub_v (a b : Fp) (w : World) :
    Calls Tryz.prog 43 #[.int .u64 (a.val : Nat), .int .u64 (b.val : Nat)] w fun e w' => e = .returned (.int .u64 ((a - b).val : Nat)) ∧ w = w' := fsub _ _ a b rfl rfl w
set_option maxRecDepth 100000 in
theorem rightS (x : Fp) (w : World) :
    Calls Tryz.prog 22 #[.int .u64 (x.val : Nat)] w fun e w' => e = .returned (.int .u64 ((crv x).val : Nat)) ∧ w = w' := by
  have e : crv x = x * x * x - 3 * x + 111 := rfl
  have L1 := fmul_v (w := w) x x
  have L2 := fmul_v (w := w) (x * x) x
  have L3 := fmul (w := w) 3 (x.val : Nat) 3 x rfl rfl
  have L4 := fsub_v (w := w) (x * x * x) (3 * x)
  have L5 := fadd (w := w) ((x * x * x - 3 * x).val : Nat) 111 (x * x * x - 3 * x) 111 rfl rfl
  rw [← e] at L5
  clear e
  have hx := val_lt x
  generalize (crv x).val = r at *
  generalize (x * x * x - 3 * x).val = r4 at *
  generalize (3 * x).val = r3 at *
  generalize (x * x * x).val = r2 at *
  generalize (x * x).val = r1 at *
  generalize x.val = X at *
  go_enter Tryz.func22, Tryz.ntmps22
  go_wp2_with fail
  refine L1.mono ?_
  rintro e w' ⟨rfl, rfl⟩
  clear L1
  go_wp2_with fail
  refine L2.mono ?_
  rintro e w' ⟨rfl, rfl⟩
  clear L2
  go_wp2_with fail
  refine L3.mono ?_
  rintro e w' ⟨rfl, rfl⟩
  clear L3
  go_wp2_with fail
  refine L4.mono ?_
  rintro e w' ⟨rfl, rfl⟩
  clear L4
  go_wp2_with fail
  refine L5.mono ?_
  rintro e w' ⟨rfl, rfl⟩
  clear L5
  go_wp2
  go_ret
  exact ⟨rfl, rfl⟩
/-- a number of the field as a word; the walk does not look into it -/
def fv (a : Fp) : Int := (a.val : Int)
theorem vsub (a b : Fp) (w : World) : Calls Tryz.prog 43 #[.int .u64 (fv a), .int .u64 (fv b)] w fun e w' => e = .returned (.int .u64 (fv (a - b))) ∧ w = w' := fsub_v a b w
theorem vsub3 (a : Fp) (w : World) : Calls Tryz.prog 43 #[.int .u64 (fv a), .int .u64 3] w fun e w' => e = .returned (.int .u64 (fv (a - 3))) ∧ w = w' := fsub _ 3 a 3 rfl rfl w
theorem vmul (a b : Fp) (w : World) : Calls Tryz.prog 18 #[.int .u64 (fv a), .int .u64 (fv b)] w fun e w' => e = .returned (.int .u64 (fv (a * b))) ∧ w = w' := fmul_v a b w
theorem vmul3 (a : Fp) (w : World) : Calls Tryz.prog 18 #[.int .u64 3, .int .u64 (fv a)] w fun e w' => e = .returned (.int .u64 (fv (3 * a))) ∧ w = w' := fmul 3 _ 3 a rfl rfl w
theorem vadd (a b : Fp) (w : World) : Calls Tryz.prog 19 #[.int .u64 (fv a), .int .u64 (fv b), .int .u64 2305843009213693951] w fun e w' => e = .returned (.int .u64 (fv (a + b))) ∧ w = w' := fadd _ _ a b rfl rfl w
theorem vinv (a : Fp) (w : World) : Calls Tryz.prog 20 #[.int .u64 (fv a), .int .u64 2305843009213693951] w fun e w' => e = .returned (.int .u64 (fv (fi a))) ∧ w = w' := finv _ a rfl w
theorem fv_eq (a b : Fp) : (fv a == fv b) = decide (a = b) := by
  rw [Bool.eq_iff_iff]; simp [fv, Fin.ext_iff]; omega
theorem fv_zero (a : Fp) : (fv a == 0) = decide (a = 0) := fv_eq a 0

def ptW : Pt → Value
  | none => .agg #[.int .u64 0, .int .u64 0, .bool true]
  | some (x, y) => .agg #[.int .u64 (fv x), .int .u64 (fv y), .bool false]
end Go.Proofs.YtenggagjgmonoaaGreatDoor

namespace Go.Proofs.YtenggagjgmonoaaGreatDoor
open Go.RowKit Go.Shelf
set_option linter.unusedVariables false
attribute [local go_sem] Oper.semAt_some

/-- the highest j of L bits, the highest first -/
def bitsF (e L : Nat) : Nat → List Bool
  | 0 => []
  | j + 1 => bitsF e L j ++ [decide (e / 2 ^ (L - (j + 1)) % 2 = 1)]
theorem bitsF_length (e L : Nat) : ∀ j, (bitsF e L j).length = j
  | 0 => rfl
  | j + 1 => by simp [bitsF, bitsF_length e L j]
theorem and1 (z : Nat) (h : z < 18446744073709551616) : bits .and .u64 (z : Int) 1 = ((z % 2 : Nat) : Int) := by
  have := bits_and_u64_nat z 1 h (by decide)
  rwa [show z &&& 1 = z % 2 from Nat.and_two_pow_sub_one_eq_mod z 1] at this
theorem bit_eq (e i : Nat) (he : e < 18446744073709551616) : (bits .and .u64 ((e : Int) / 2 ^ i) 1 == 1) = decide (e / 2 ^ i % 2 = 1) := by
  have e1 : (e : Int) / 2 ^ i = ((e / 2 ^ i : Nat) : Int) := by simp
  rw [e1, and1 _ (Nat.lt_of_le_of_lt (Nat.div_le_self _ _) he)]
  generalize e / 2 ^ i % 2 = z
  by_cases h : z = 1
  · subst h; rfl
  · simp [h]; omega

set_option maxRecDepth 100000 in
set_option maxHeartbeats 4000000 in
theorem bit_stops (n : Nat) (hn : 1 ≤ n) (e Be : Nat) (he : e < 18446744073709551616) (w : World) (hc : w.cell? ⟨Be, 0, none⟩ = some (.int .u64 e)) (hB : Be < w.heap.size) :
    SeqStopsK Fence.wide n Tryz.prog 75 #[.pointer (some ⟨Be, 0, none⟩)] (fun b : Bool => #[.bool b]) (fun W W' => W.cell? ⟨Be, 0, none⟩ = some (.int .u64 e) → W'.cell? ⟨Be, 0, none⟩ = some (.int .u64 e))
      (fun xs => xs = bitsF e (Lib.bitLen e) (Lib.bitLen e)) (fun _ => True) 64 w := fun l J Jx W hW _ _ hY h0 => by
  have hcW : W.cell? ⟨Be, 0, none⟩ = some (.int .u64 e) := (hW.cell (p := ⟨Be, 0, none⟩) hB).trans hc
  have hL := len_nat e he
  have hl := len_le e (by omega)
  have hbe := bit_eq e
  generalize Lib.bitLen e = L at *
  refine callsIn_of_wp Tryz.func75 rfl trivial ?_ rfl
  simp only [Tryz.ntmps75, List.size_toArray, List.length_cons, List.length_nil, Nat.reduceAdd, Nat.reduceSub, Array.replicate_succ, Array.replicate_zero, List.push_toArray, List.append_toArray, List.nil_append, List.cons_append]
  gi_wp2_with (refine ⟨trivial, ?_⟩; gi_at_call 74; refine (callsIn_wide.2 (hL _)).mono ?_; rintro e w' ⟨rfl, rfl⟩)
  clear hL
  gi_loopw [3] (fun i wr => ∃ (k : Nat) (x : Int), x = (k : Int) - 1 ∧ k ≤ L ∧ i = .int .i64 x ∧ wr.cell? ⟨Be, 0, none⟩ = some (.int .u64 e) ∧ J (bitsF e L (L - k)) wr) (fun i _ => (intOf i + 1).toNat)
  case atStart => exact ⟨L, (L : Int) - 1, rfl, Nat.le_refl _, rfl, hcW, by rw [Nat.sub_self]; exact h0⟩
  case round =>
    obtain ⟨k, x, hx, hk, rfl, hcr, hJ⟩ := hrel
    rcases k with _ | j
    · have hneg : ¬ ((0 : Int) ≤ x) := by omega
      clear hx
      gi_wp2
      go_end0
      exact ⟨⟨_, rfl⟩, .inl hJ⟩
    · obtain rfl : x = (j : Int) := by omega
      clear hx
      have hbj := hbe j he
      have hst : bitsF e L (L - j) = bitsF e L (L - (j + 1)) ++ [decide (e / 2 ^ j % 2 = 1)] := by
        have e1 : L - j = L - (j + 1) + 1 := by omega
        rw [e1, bitsF, show L - (L - (j + 1) + 1) = j by omega]
      generalize decide (e / 2 ^ j % 2 = 1) = bb at *
      obtain ⟨fn, tmps, assign, body, hy, hR⟩ := hY _ bb wr hJ (by rw [bitsF_length]; omega)
      rw [← hst] at hR
      clear hY hbe hst
      gi_wp2
      refine hR.mono ?_
      rintro e' W3 (⟨rfl, hJ3, hk3⟩ | ⟨rfl, hJx3⟩)
      · have hc3 := hk3 hcr
        gi_wp2
        go_roundw
        case rel => exact ⟨j, (j : Int) - 1, rfl, by omega, rfl, hc3, hJ3⟩
        case measure => simp [intOf]
      · gi_wp2
        refine bodyPost_ret (results_none rfl _ _ _) rfl ?_
        exact ⟨⟨_, rfl⟩, .inr ⟨_, trivial, hJx3⟩⟩

set_option maxRecDepth 100000 in
theorem bits_of (e : Nat) (w : World) :
    Calls Tryz.prog 65 #[.int .u64 e] w fun r w' => r = .returned (.func (.func 75) #[] #[.pointer (some ⟨w.heap.size, 0, none⟩)]) ∧ w' = w.alloc (.cells #[.int .u64 e] 23) := by
  go_enter Tryz.func65, Tryz.ntmps65
  go_wp2
  go_ret
  exact ⟨rfl, rfl⟩
end Go.Proofs.YtenggagjgmonoaaGreatDoor
