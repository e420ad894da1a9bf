import Derived.Test.YtjmhmajfkdglnaaGreatDoorMrg0
import Derived.Test.YtjmhmajfkdglnaaGreatDoorChecked
import Derived.WalkKit
import Derived.ProofKit
import Derived.WalkSpells
import Derived.WalkLawsBesides
import Derived.Outline
import Derived.Laws.BytesArg
import Derived.Deep.RegionHeld3
import Derived.BigQuiet
import Derived.Deep.DrawnRows
set_option linter.unusedVariables false
set_option maxRecDepth 100000
set_option maxHeartbeats 16000000
namespace Go.Proofs.YtjmhmajfkdglnaaGreatDoor
open Go.RowKit
attribute [local go_sem ↓] Go.wp_at_zero Go.wp_at_succ
theorem infoU8' : (Tryz.prog.info? 5).map (fun i => (i.zero, i.size, i.bytes)) = some (some (.int .u8 0), 1, 1) := by kernel_rfl
theorem beI_any (n : Int) (k : Nat) (w : World) (h0 : 0 ≤ n) (h1 : n < 18446744073709551616) (hk : k ≤ 8) (hk1 : 1 ≤ k) :
    Calls Tryz.prog 191 #[.int .u64 n, .int .i64 k] w fun e w' => e = .returned (.string (strOfNums (beTo n k))) ∧ Below w.heap.size w w' := by
  obtain ⟨i0, hi, hz0, hz1, hz2⟩ := info_parts infoU8'
  obtain ⟨w1, hmk, hrow, hbl⟩ : ∃ w1, (Instr.makeSlice 61 (.int .i64 k) (.int .i64 k)).run Tryz.prog w = .ok (.slice (some ⟨w.heap.size, 0, none⟩) k k) w1 ∧ Row w1 w.heap.size w.heap.size k k ((List.replicate k (0 : Int)).map (Value.int .u8)) ∧ Below w.heap.size w w1 := by
    obtain ⟨w1, hr, ho, hg⟩ := run_make_full (P := Tryz.prog) w w.heap.size 61 5 i0 (.int .u8 0) 1 Tryz.underlying61 hi hz0 hz1 .i64 .i64 k (by rw [hz2]; omega) (by unfold maxLen; omega) (Nat.le_refl _)
    refine ⟨w1, hr, ?_, (Below.refl _ _).grown hg (Nat.le_refl _) (fun r hr => by cases hr)⟩
    have hrow := Row.of_owns ho
    rw [show (Value.int .u8 0).cells = #[.int .u8 0] from rfl, Nat.mul_one, toList_madeCells_one] at hrow
    rw [List.map_replicate]
    exact hrow
  go_enter Tryz.func191, Tryz.ntmps191
  go_wp2
  go_loopw [0, 6] (fun nv i wr => ∃ j : Nat, j ≤ k ∧ nv = .int .u64 (n / 256 ^ j) ∧ i = .int .i64 ((k : Int) - 1 - (j : Int)) ∧ Row wr w.heap.size w.heap.size k k ((List.replicate (k - j) (0 : Int) ++ beTo n j).map (Value.int .u8)) ∧ Below w.heap.size w wr) (fun _ i _ => (intOf i + 1).toNat)
  case atStart => exact ⟨0, by omega, by simp, by simp, by simpa [beTo] using hrow, hbl⟩
  case round =>
    clear hrow hbl hmk
    obtain ⟨j, hj, rfl, rfl, hrow, hbl⟩ := hrel
    have hn0 : 0 ≤ n / 256 ^ j := Int.ediv_nonneg h0 (Int.le_of_lt (Int.pow_pos (by omega)))
    have hn1 : n / 256 ^ j < 18446744073709551616 := Int.lt_of_le_of_lt (Int.ediv_le_self _ h0) h1
    have hst : Hid (n / 256 ^ (j + 1) = n / 256 ^ j / 256) := by
      simp only [Hid]; rw [Int.pow_succ, Int.ediv_ediv_of_nonneg (Int.le_of_lt (Int.pow_pos (by omega)))]
    have hbe : Hid (beTo n (j + 1) = n / 256 ^ j % 256 :: beTo n j) := rfl
    by_cases hlt : j < k
    · generalize n / 256 ^ j = N at *
      have hge : (0 : Int) ≤ (k : Int) - 1 - (j : Int) := by omega
      obtain ⟨hsome, hfz⟩ := hrow.room (k - 1 - j) (by omega)
      obtain ⟨v0, hc⟩ := Option.isSome_iff_exists.1 hsome
      go_wp2
      go_roundw
      case rel =>
        have R1 := hrow.set (k - 1 - j) (by omega) (.int .u8 (N % 256))
        rw [← List.map_set, set_mid k j hlt _ (N % 256), ← hbe.out] at R1
        have R2 : Below w.heap.size w (wr.setCell ⟨w.heap.size, k - 1 - j, none⟩ (.int .u8 (N % 256))) := hbl.setCell (by simp) _
        have R3 : Value.int .i64 ((k : Int) - 1 - (j : Int) - 1) = Value.int .i64 ((k : Int) - 1 - ((j + 1 : Nat) : Int)) := by congr 1; omega
        have R4 : Value.int .u64 (N / 256) = Value.int .u64 (n / 256 ^ (j + 1)) := by rw [hst.out]
        first
          | exact ⟨j + 1, by omega, R4, R3, R1, R2⟩
          | ((repeat apply Exists.intro); exact ⟨⟨j + 1, by omega, R4, R3, R1, R2⟩, rfl⟩)
      case measure => simp [intOf]; omega
    · obtain rfl : j = k := by omega
      rw [Nat.sub_self, List.replicate_zero, List.nil_append] at hrow
      have hcv := run_convert_bytes_arg (P := Tryz.prog) wr 61 5 Tryz.underlying61 Tryz.underlying5 w.heap.size 0 j j (beTo n j) (beTo_length n j) (fun i h => by rw [Nat.zero_add]; exact hrow.cell i h) 9 Tryz.underlying9
      go_wp2
      go_ret
      exact ⟨rfl, hbl⟩
end Go.Proofs.YtjmhmajfkdglnaaGreatDoor
namespace Go.Proofs.YtjmhmajfkdglnaaGreatDoor
open Go.RowKit
theorem ret_int {k : IntKind} {a b : Int} (h : a = b) : Ending.returned (.int k a) = .returned (.int k b) := by rw [h]
theorem turn_any (x : Int) (n : Int) (w : World) (h0 : 0 ≤ x) (h1 : x < 4294967296) (hn : 0 < n) (hn' : n < 32) :
    Calls Tryz.prog 147 #[.int .u32 x, .int .i64 n] w fun e w' => e = .returned (.int .u32 (rotr x n)) ∧ w = w' := by
  go_enter Tryz.func147, Tryz.ntmps147
  go_wp2
  go_ret
  exact ⟨rfl, rfl⟩
attribute [local go_sem ↓] Go.wp_at_zero Go.wp_at_succ
theorem size44 : (Tryz.prog.info? 259).map (·.size) = some 74 := by kernel_rfl
def zeroRh : List Value := rhL (List.replicate 8 0) (List.replicate 64 0) 0 0
def newRh : List Value := rhL h0L (List.replicate 64 0) 0 0
theorem zero44 (w : World) : (zeroValue 259).run Tryz.prog w = .ok (.agg zeroRh.toArray) w := by kernel_rfl
theorem build44 (w : World) : (Instr.build 259 #[(0, .agg #[.int .u32 1779033703, .int .u32 3144134277, .int .u32 1013904242, .int .u32 2773480762, .int .u32 1359893119, .int .u32 2600822924, .int .u32 528734635, .int .u32 1541459225])]).run Tryz.prog w = .ok (.agg newRh.toArray) w := run_build w _ _ _ (by kernel_rfl)
theorem newRh_len : newRh.length = 74 := by decide
theorem zeroRh_len : zeroRh.length = 74 := by decide
theorem rhL_one (st blk : List Int) (f z : Int) : ∀ v ∈ rhL st blk f z, v.oneCell' = true := by
  intro v hv
  simp only [rhL, List.mem_append, List.mem_map, List.mem_cons, List.not_mem_nil, or_false] at hv
  rcases hv with (⟨x, _, rfl⟩ | ⟨x, _, rfl⟩) | rfl | rfl <;> rfl
theorem newI_any (w : World) :
    Calls Tryz.prog 169 #[] w fun e w' => e = .returned (.agg newRh.toArray) ∧ Below w.heap.size w w' := by
  have hz := zero44
  have hb := build44
  have hr := results_mid (P := Tryz.prog) (fn := Tryz.f169) (p := 0) (ty := 259) Tryz.results169
  have hth : (w.alloc (.cells zeroRh.toArray 259)).there w.heap.size 0 74 := there_new w _ _ 74 (by simp [zeroRh_len])
  go_enter Tryz.func169, Tryz.ntmps169
  go_wp2_with (refine wpList_store_mid rfl 259 _ _ rfl w.heap.size 0 newRh.toArray rfl rfl (by simpa [newRh_len] using hth) (by rw [size44]; simp [newRh_len]) (all_oneCell_toArray (rhL_one _ _ _ _)) ?_)
  refine bodyPost_ret (v := .agg newRh.toArray) (hr _ _ w.heap.size 0 newRh _ rfl (World.rangeAt_setCells_same _ _ _ _ (by rw [newRh_len]; exact hth)) Tryz.underlying259 rfl (by rw [size44, newRh_len])) rfl ⟨rfl, ?_⟩
  exact below_setCells ((Below.refl _ _).alloc (Nat.le_refl _) _) (Nat.le_refl _) _ _
end Go.Proofs.YtjmhmajfkdglnaaGreatDoor
namespace Go.Proofs.YtjmhmajfkdglnaaGreatDoor
open Go.RowKit
theorem rot_any (x k n : Int) (w : World) (h0 : 0 ≤ x) (h1 : x < 4294967296) (hk : -32 < k) (hk' : k < 0) (hn : n = -k) :
    Calls Tryz.prog 207 #[.int .u32 x, .int .i64 k] w fun e w' => e = .returned (.int .u32 (rotr x n)) ∧ w = w' := by
  have e := mask31 k hk hk'
  obtain ⟨m, rfl⟩ : ∃ m : Int, k = -m := ⟨-k, by omega⟩
  have e' : bits BinOp.and IntKind.u64 (IntKind.u64.wrap (-m)) 31 = 32 - m := by rw [e]; omega
  have hn2 : Hid (n = m) := by rw [hn]; simp [Hid]
  clear e hn
  go_enter Tryz.func207, Tryz.ntmps207
  go_wp2
  go_ret
  have e2 : (32 : Int) - (32 - m) = m := by omega
  refine ⟨ret_int (k := .u32) ?_, rfl⟩
  rw [hn2.out, e2, or_comm32]
  rfl
end Go.Proofs.YtjmhmajfkdglnaaGreatDoor
