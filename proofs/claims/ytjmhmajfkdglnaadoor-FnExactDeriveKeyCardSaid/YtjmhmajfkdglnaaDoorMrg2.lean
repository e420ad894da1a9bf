import Derived.Test.YtjmhmajfkdglnaaDoorMrg1
import Derived.Test.YtjmhmajfkdglnaaDoorChecked
import Derived.WalkKit
import Derived.ProofKit
import Derived.WalkSpells
import Derived.WalkLawsBesides
import Derived.Outline
import Derived.Laws.BytesArg
import Derived.Deep.RegionHeld3
import Derived.BigQuiet
import Derived.Deep.DrawnRows
import Derived.Test.YtjmhmajfkdglnaaDoorMrg0
namespace Go.Proofs.YtjmhmajfkdglnaaDoor
open Go.RowKit
set_option linter.unusedVariables false
attribute [local go_sem ↓] Go.wp_at_zero Go.wp_at_succ

theorem infoU8' : (Tryd.prog.info? 5).map (fun i => (i.zero, i.size, i.bytes)) = some (some (.int .u8 0), 1, 1) := by kernel_rfl

set_option maxRecDepth 100000 in
set_option maxHeartbeats 1000000 in
theorem beI_any (n : Int) (k : Nat) (w : World) (h0 : 0 ≤ n) (h1 : n < 18446744073709551616) (hk : k ≤ 8) (hk1 : 1 ≤ k) :
    Calls Tryd.prog 17 #[.int .u64 n, .int .i64 k] w fun e w' => e = .returned (.string (strOfNums (beTo n k))) ∧ Below w.heap.size w w' := by
  obtain ⟨i0, hi, hz0, hz1, hz2⟩ := info_parts infoU8'
  obtain ⟨w1, hmk, hrow, hbl⟩ : ∃ w1, (Instr.makeSlice 30 (.int .i64 k) (.int .i64 k)).run Tryd.prog w = .ok (.slice (some ⟨w.heap.size, 0, none⟩) k k) w1 ∧ Row w1 w.heap.size w.heap.size k k ((List.replicate k (0 : Int)).map (Value.int .u8)) ∧ Below w.heap.size w w1 := by
    obtain ⟨w1, hr, ho, hg⟩ := run_make_full (P := Tryd.prog) w w.heap.size 30 5 i0 (.int .u8 0) 1 Tryd.underlying30 hi hz0 hz1 .i64 .i64 k (by rw [hz2]; omega) (by unfold maxLen; omega) (Nat.le_refl _)
    refine ⟨w1, hr, ?_, (Below.refl _ _).grown hg (Nat.le_refl _) (fun r hr => by cases hr)⟩
    have hrow := Row.of_owns ho
    rw [show (Value.int .u8 0).cells = #[.int .u8 0] from rfl, Nat.mul_one, toList_madeCells_one] at hrow
    rw [List.map_replicate]
    exact hrow
  go_enter Tryd.func17, Tryd.ntmps17
  go_wp2
  go_loopw [0, 6] (fun nv i wr => ∃ j : Nat, j ≤ k ∧ nv = .int .u64 (n / 256 ^ j) ∧ i = .int .i64 ((k : Int) - 1 - (j : Int)) ∧ Row wr w.heap.size w.heap.size k k ((List.replicate (k - j) (0 : Int) ++ beTo n j).map (Value.int .u8)) ∧ Below w.heap.size w wr) (fun _ i _ => (intOf i + 1).toNat)
  case atStart => exact ⟨0, by omega, by simp, by simp, by simpa [beTo] using hrow, hbl⟩
  case round =>
    clear hrow hbl hmk
    obtain ⟨j, hj, rfl, rfl, hrow, hbl⟩ := hrel
    have hn0 : 0 ≤ n / 256 ^ j := Int.ediv_nonneg h0 (Int.le_of_lt (Int.pow_pos (by omega)))
    have hn1 : n / 256 ^ j < 18446744073709551616 := Int.lt_of_le_of_lt (Int.ediv_le_self _ h0) h1
    have hst : Hid (n / 256 ^ (j + 1) = n / 256 ^ j / 256) := by
      simp only [Hid]; rw [Int.pow_succ, Int.ediv_ediv_of_nonneg (Int.le_of_lt (Int.pow_pos (by omega)))]
    have hbe : Hid (beTo n (j + 1) = n / 256 ^ j % 256 :: beTo n j) := rfl
    by_cases hlt : j < k
    · generalize n / 256 ^ j = N at *
      have hge : (0 : Int) ≤ (k : Int) - 1 - (j : Int) := by omega
      obtain ⟨hsome, hfz⟩ := hrow.room (k - 1 - j) (by omega)
      obtain ⟨v0, hc⟩ := Option.isSome_iff_exists.1 hsome
      go_wp2
      go_roundw
      case rel =>
        have R1 := hrow.set (k - 1 - j) (by omega) (.int .u8 (N % 256))
        rw [← List.map_set, set_mid k j hlt _ (N % 256), ← hbe.out] at R1
        have R2 : Below w.heap.size w (wr.setCell ⟨w.heap.size, k - 1 - j, none⟩ (.int .u8 (N % 256))) := hbl.setCell (by simp) _
        have R3 : Value.int .i64 ((k : Int) - 1 - (j : Int) - 1) = Value.int .i64 ((k : Int) - 1 - ((j + 1 : Nat) : Int)) := by congr 1; omega
        have R4 : Value.int .u64 (N / 256) = Value.int .u64 (n / 256 ^ (j + 1)) := by rw [hst.out]
        first
          | exact ⟨j + 1, by omega, R4, R3, R1, R2⟩
          | ((repeat apply Exists.intro); exact ⟨⟨j + 1, by omega, R4, R3, R1, R2⟩, rfl⟩)
      case measure => simp [intOf]; omega
    · obtain rfl : j = k := by omega
      rw [Nat.sub_self, List.replicate_zero, List.nil_append] at hrow
      have hcv := run_convert_bytes_arg (P := Tryd.prog) wr 30 5 Tryd.underlying30 Tryd.underlying5 w.heap.size 0 j j (beTo n j) (beTo_length n j) (fun i h => by rw [Nat.zero_add]; exact hrow.cell i h) 9 Tryd.underlying9
      go_wp2
      go_ret
      exact ⟨rfl, hbl⟩

end Go.Proofs.YtjmhmajfkdglnaaDoor

namespace Go.Proofs.YtjmhmajfkdglnaaDoor
open Go.RowKit
set_option linter.unusedVariables false

theorem ret_int {k : IntKind} {a b : Int} (h : a = b) : Ending.returned (.int k a) = .returned (.int k b) := by rw [h]

theorem turn_any (x : Int) (n : Int) (w : World) (h0 : 0 ≤ x) (h1 : x < 4294967296) (hn : 0 < n) (hn' : n < 32) :
    Calls Tryd.prog 45 #[.int .u32 x, .int .i64 n] w fun e w' => e = .returned (.int .u32 (rotr x n)) ∧ w = w' := by
  go_enter Tryd.func45, Tryd.ntmps45
  go_wp2
  go_ret
  exact ⟨rfl, rfl⟩
end Go.Proofs.YtjmhmajfkdglnaaDoor
