import Derived.Test.YtagnikeaellbiaaOwn
import Derived.Test.YtagnikeaellbiaaPure4
import Derived.Test.YtagnikeaellbiaaChecked
import Derived.WalkKit
import Derived.ProofKit
import Derived.WalkSpells
import Derived.WalkLawsBesides
import Derived.Outline
import Derived.Laws.BytesArg
namespace Go.Proofs.Ytagnikeaellbiaa
open Go.RowKit
set_option linter.unusedVariables false

theorem infoU8w : (Try.prog.info? 5).map (fun i => (i.zero, i.size, i.bytes)) = some (some (.int .u8 0), 1, 1) := by kernel_rfl
set_option maxRecDepth 100000 in
set_option maxHeartbeats 1000000 in
theorem wordS_any (n : Nat) (w : World) (hn : n < 18446744073709551616) :
    Calls Try.prog 11 #[.int .u64 n] w fun e w' => e = .returned (.string (strOfNums (be8 n))) ∧ Below w.heap.size w w' := by
  obtain ⟨i0, hi, hz0, hz1, hz2⟩ := info_parts infoU8w
  go_enter Try.func11, Try.ntmps11
  go_wp2
  go_loopw [3, 4] (fun v i wr => ∃ j g cap : Nat, j ≤ 8 ∧ i = .int .i64 (7 - (j : Int)) ∧ v = .slice (some ⟨g, 0, none⟩) j cap ∧ Row wr w.heap.size g j cap (((be8 n).take j).map (Value.int .u8)) ∧ Below w.heap.size w wr) (fun _ i _ => (intOf i + 1).toNat)
  case atStart => exact ⟨0, w.heap.size, 0, by omega, rfl, rfl, Row.of_block (n := 0) (cs := #[]) (heap_alloc_new w _) (Nat.le_refl _) (by simp) (by simp), (Below.refl _ _).alloc (Nat.le_refl _) _⟩
  case round =>
    obtain ⟨j, g1, cap1, hj, rfl, rfl, hrow, hbl⟩ := hrel
    have hsz1 : w.heap.size ≤ wr.heap.size := hbl.size
    by_cases hlt : j < 8
    · have hg0 : (0 : Int) ≤ 7 - (j : Int) := by omega
      go_wp2_with (first
        | (at_builtin; refine wpList_append_row rfl _ _ 36 rfl w.heap.size 5 i0 (.int .u8 0) 1 Try.underlying36 hi hz0 hz1 hz2 rfl g1 j cap1 (((be8 n).take j).map (Value.int .u8)) rfl (hrow.alloc _) ⟨wr.heap.size, 0, none⟩ 1 1 [.int .u8 (beAt n j)] rfl rfl (World.news_of_block (cs := #[.int .u8 (beAt n j)]) (heap_alloc_new wr _)) (by simp [Value.oneCell']) (by unfold maxLen; omega) (by omega) (by simp; omega) _ rfl ?_; intro g3 cap3 w3 hrow3 hgr3 _ _)
        | go_in)
      go_roundw
      case rel =>
        have R1 : Row w3 w.heap.size g3 (j + 1) cap3 (((be8 n).take (j + 1)).map (Value.int .u8)) := by
          rw [be8_take _ j hlt, List.map_append]; exact hrow3
        have R2 : Below w.heap.size w w3 := (hbl.alloc hsz1 _).grown hgr3 (by simp; omega) (fun r hr => by simp at hr; have := hrow.lo; omega)
        have R3 : Value.int .i64 (7 - (j : Int) - 1) = Value.int .i64 (7 - ((j + 1 : Nat) : Int)) := by congr 1; omega
        first
          | exact ⟨j + 1, g3, cap3, by omega, R3, rfl, R1, R2⟩
          | ((repeat apply Exists.intro); exact ⟨⟨j + 1, g3, cap3, by omega, R3, rfl, R1, R2⟩, rfl⟩)
      case measure => simp [intOf]; omega
    · obtain rfl : j = 8 := by omega
      have hrow' : Row wr w.heap.size g1 8 cap1 ((be8 n).map (Value.int .u8)) := hrow
      have hcv := run_convert_bytes_arg (P := Try.prog) wr 36 5 Try.underlying36 Try.underlying5 g1 0 8 cap1 (be8 n) rfl (fun i h => by rw [Nat.zero_add]; exact hrow'.cell i h) 9 Try.underlying9
      go_wp2
      go_ret
      exact ⟨rfl, hbl⟩
end Go.Proofs.Ytagnikeaellbiaa
