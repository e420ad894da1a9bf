import Derived.Test.YtdaobioomoajfaaGreatProg
import Derived.Test.YtdaobioomoajfaaGreatMrg9
import Derived.Test.YtdaobioomoajfaaGreatMrg0
import Derived.Test.YtdaobioomoajfaaGreatChecked
import Derived.WalkKit
import Derived.ProofKit
import Derived.WalkSpells
import Derived.WalkLawsBesides
import Derived.Outline
import Derived.Laws.BytesArg
import Derived.Deep.RegionHeld3
import Derived.BigQuiet
import Derived.Deep.DrawnRows
import Derived.Test.YtdaobioomoajfaaGreatMrg2
import Derived.Test.YtdaobioomoajfaaGreatMrg8
import Derived.Test.YtdaobioomoajfaaGreatMrg6
set_option linter.unusedVariables false
set_option maxRecDepth 100000
set_option maxHeartbeats 16000000
namespace Go.Proofs.YtdaobioomoajfaaGreat
open Go.RowKit
theorem nmS (s : ByteArray) (w : World) : Calls Tryz.prog 33 #[.string s] w fun e w' => e = .returned (.bool (nameB s)) ∧ w = w' := by
  by_cases h1 : (1 : Int) ≤ (s.size : Int)
  · by_cases h2 : (s.size : Int) ≤ 32
    · have e : nameB s = true := decide_eq_true (by omega)
      rw [e]
      go_enter Tryz.func33, Tryz.ntmps33
      go_wp2
      go_ret
      exact ⟨rfl, rfl⟩
    · have e : nameB s = false := decide_eq_false (by omega)
      rw [e]
      go_enter Tryz.func33, Tryz.ntmps33
      go_wp2
      go_ret
      exact ⟨rfl, rfl⟩
  · have e : nameB s = false := decide_eq_false (by omega)
    rw [e]
    go_enter Tryz.func33, Tryz.ntmps33
    go_wp2
    go_ret
    exact ⟨rfl, rfl⟩
end Go.Proofs.YtdaobioomoajfaaGreat
namespace Go.Proofs.YtdaobioomoajfaaGreat
open Go.RowKit
attribute [local go_sem ↓] Go.wp_at_zero Go.wp_at_succ
theorem infoU8' : (Tryz.prog.info? 5).map (fun i => (i.zero, i.size, i.bytes)) = some (some (.int .u8 0), 1, 1) := by kernel_rfl
theorem beI_any (n : Int) (k : Nat) (w : World) (h0 : 0 ≤ n) (h1 : n < 18446744073709551616) (hk : k ≤ 8) (hk1 : 1 ≤ k) :
    Calls Tryz.prog 17 #[.int .u64 n, .int .i64 k] w fun e w' => e = .returned (.string (strOfNums (beTo n k))) ∧ Below w.heap.size w w' := by
  obtain ⟨i0, hi, hz0, hz1, hz2⟩ := info_parts infoU8'
  obtain ⟨w1, hmk, hrow, hbl⟩ : ∃ w1, (Instr.makeSlice 22 (.int .i64 k) (.int .i64 k)).run Tryz.prog w = .ok (.slice (some ⟨w.heap.size, 0, none⟩) k k) w1 ∧ Row w1 w.heap.size w.heap.size k k ((List.replicate k (0 : Int)).map (Value.int .u8)) ∧ Below w.heap.size w w1 := by
    obtain ⟨w1, hr, ho, hg⟩ := run_make_full (P := Tryz.prog) w w.heap.size 22 5 i0 (.int .u8 0) 1 Tryz.underlying22 hi hz0 hz1 .i64 .i64 k (by rw [hz2]; omega) (by unfold maxLen; omega) (Nat.le_refl _)
    refine ⟨w1, hr, ?_, (Below.refl _ _).grown hg (Nat.le_refl _) (fun r hr => by cases hr)⟩
    have hrow := Row.of_owns ho
    rw [show (Value.int .u8 0).cells = #[.int .u8 0] from rfl, Nat.mul_one, toList_madeCells_one] at hrow
    rw [List.map_replicate]
    exact hrow
  go_enter Tryz.func17, Tryz.ntmps17
  go_wp2
  go_loopw [0, 6] (fun nv i wr => ∃ j : Nat, j ≤ k ∧ nv = .int .u64 (n / 256 ^ j) ∧ i = .int .i64 ((k : Int) - 1 - (j : Int)) ∧ Row wr w.heap.size w.heap.size k k ((List.replicate (k - j) (0 : Int) ++ beTo n j).map (Value.int .u8)) ∧ Below w.heap.size w wr) (fun _ i _ => (intOf i + 1).toNat)
  case atStart => exact ⟨0, by omega, by simp, by simp, by simpa [beTo] using hrow, hbl⟩
  case round =>
    clear hrow hbl hmk
    obtain ⟨j, hj, rfl, rfl, hrow, hbl⟩ := hrel
    have hn0 : 0 ≤ n / 256 ^ j := Int.ediv_nonneg h0 (Int.le_of_lt (Int.pow_pos (by omega)))
    have hn1 : n / 256 ^ j < 18446744073709551616 := Int.lt_of_le_of_lt (Int.ediv_le_self _ h0) h1
    have hst : Hid (n / 256 ^ (j + 1) = n / 256 ^ j / 256) := by
      simp only [Hid]; rw [Int.pow_succ, Int.ediv_ediv_of_nonneg (Int.le_of_lt (Int.pow_pos (by omega)))]
    have hbe : Hid (beTo n (j + 1) = n / 256 ^ j % 256 :: beTo n j) := rfl
    by_cases hlt : j < k
    · generalize n / 256 ^ j = N at *
      have hge : (0 : Int) ≤ (k : Int) - 1 - (j : Int) := by omega
      obtain ⟨hsome, hfz⟩ := hrow.room (k - 1 - j) (by omega)
      obtain ⟨v0, hc⟩ := Option.isSome_iff_exists.1 hsome
      go_wp2
      go_roundw
      case rel =>
        have R1 := hrow.set (k - 1 - j) (by omega) (.int .u8 (N % 256))
        rw [← List.map_set, set_mid k j hlt _ (N % 256), ← hbe.out] at R1
        have R2 : Below w.heap.size w (wr.setCell ⟨w.heap.size, k - 1 - j, none⟩ (.int .u8 (N % 256))) := hbl.setCell (by simp) _
        have R3 : Value.int .i64 ((k : Int) - 1 - (j : Int) - 1) = Value.int .i64 ((k : Int) - 1 - ((j + 1 : Nat) : Int)) := by congr 1; omega
        have R4 : Value.int .u64 (N / 256) = Value.int .u64 (n / 256 ^ (j + 1)) := by rw [hst.out]
        first
          | exact ⟨j + 1, by omega, R4, R3, R1, R2⟩
          | ((repeat apply Exists.intro); exact ⟨⟨j + 1, by omega, R4, R3, R1, R2⟩, rfl⟩)
      case measure => simp [intOf]; omega
    · obtain rfl : j = k := by omega
      rw [Nat.sub_self, List.replicate_zero, List.nil_append] at hrow
      have hcv := run_convert_bytes_arg (P := Tryz.prog) wr 22 5 Tryz.underlying22 Tryz.underlying5 w.heap.size 0 j j (beTo n j) (beTo_length n j) (fun i h => by rw [Nat.zero_add]; exact hrow.cell i h) 9 Tryz.underlying9
      go_wp2
      go_ret
      exact ⟨rfl, hbl⟩
end Go.Proofs.YtdaobioomoajfaaGreat
namespace Go.Proofs.YtdaobioomoajfaaGreat
open Go.RowKit
theorem putI_any (n : Nat) (w : World) (hn : n < 18446744073709551616) :
    Calls Tryz.prog 15 #[.int .u64 n] w fun e w' => e = .returned (.string (strOfNums (be8 n))) ∧ Below w.heap.size w w' := by
  have L := fun w => beI_any (n : Int) 8 w (by omega) (by omega) (by omega) (by omega)
  rw [beTo8] at L
  clear hn
  go_enter Tryz.func15, Tryz.ntmps15
  go_wp2_with fail
  refine (L _).mono ?_
  rintro e w' ⟨rfl, hb⟩
  go_wp2
  go_ret
  exact ⟨rfl, hb⟩
end Go.Proofs.YtdaobioomoajfaaGreat
namespace Go.Proofs.YtdaobioomoajfaaGreat
open Go.RowKit
theorem wdI_any (s : ByteArray) (w : World) (hs : s.size = 8) :
    Calls Tryz.prog 28 #[.string s] w fun e w' => e = .returned (.int .u64 (numL (byt s) : Nat)) ∧ w = w' := by
  obtain ⟨c, hc⟩ : ∃ c, Hid (c = numL (byt s)) := ⟨_, rfl⟩
  rw [← hc.out]
  go_enter Tryz.func28, Tryz.ntmps28
  go_wp2
  go_loop [3, 7] (fun rv iv => ∃ (k r : Nat), k ≤ 8 ∧ iv = .int .i64 (k : Int) ∧ rv = .int .u64 (r : Int) ∧ Hid (r = numL ((byt s).take k))) (fun _ i => 8 - (intOf i).toNat)
  case atStart => exact ⟨0, 0, by omega, rfl, rfl, by simp [Hid, numL]⟩
  case round =>
    obtain ⟨k, r, hk, rfl, rfl, hr⟩ := hrel
    by_cases hlt : k < 8
    · have hlt' : k < s.size := by omega
      have hlti : (k : Int) < (s.size : Int) := by omega
      have hv := s[k].toNat_lt
      have hl := numL_take_lt s k hlt
      rw [← hr.out] at hl
      have e0 : IntKind.u64.wrap (s[k].toNat : Int) = (s[k].toNat : Int) := by simp only [IntKind.wrap_u64]; omega
      have e1 := or_byte r s[k]
      rw [Nat.mod_eq_of_lt (show r * 256 < 18446744073709551616 by omega)] at e1
      have hn : Hid (r * 256 + s[k].toNat = numL ((byt s).take (k + 1))) := by simp only [Hid]; rw [numL_take s k hlt', ← hr.out]
      generalize r * 256 + s[k].toNat = r' at *
      clear hl hv
      go_wp2
      go_round
      case rel => exact ⟨k + 1, r', by omega, by go_num, rfl, hn⟩
      case measure => simp [intOf]; omega
    · obtain rfl : k = 8 := by omega
      rw [List.take_of_length_le (by rw [byt_length]; omega)] at hr
      go_wp2
      go_ret
      exact ⟨ret_u64 (by rw [hc.out, hr.out]), rfl⟩
end Go.Proofs.YtdaobioomoajfaaGreat
