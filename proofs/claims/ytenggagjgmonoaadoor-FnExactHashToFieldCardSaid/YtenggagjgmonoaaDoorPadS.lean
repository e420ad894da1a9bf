import Derived.Test.YtenggagjgmonoaaDoorSchedS
import Derived.Test.YtenggagjgmonoaaDoorPure4
import Derived.Test.YtenggagjgmonoaaDoorOwn
namespace Go.Proofs.YtenggagjgmonoaaDoor
open Go.RowKit
set_option linter.unusedVariables false
set_option maxRecDepth 100000

def lenV : Value → Nat
  | .slice _ n _ => n
  | _ => 0

set_option maxRecDepth 100000 in
set_option maxHeartbeats 1000000 in
theorem padS_any (s : ByteArray) (w : World) (hs : s.size ≤ 1073741824) :
    Calls Tryd.prog 31 #[.string s] w fun e w' => ∃ g' n' cap', e = .returned (.slice (some ⟨g', 0, none⟩) n' cap') ∧
      Row w' w.heap.size g' n' cap' ((padF (byt s)).map (Value.int .u8)) ∧ Below w.heap.size w w' := by
  obtain ⟨i0, hi, hz0, hz1, hz2⟩ := info_parts infoU8
  obtain ⟨cap0, w1, hcv, hrow, hbl⟩ : ∃ cap0 w1, (convert 9 40 (.string s)).run Tryd.prog w = .ok (.slice (some ⟨w.heap.size, 0, none⟩) s.size cap0) w1 ∧
      Row w1 w.heap.size w.heap.size s.size cap0 ((byt s).map (Value.int .u8)) ∧ Below w.heap.size w w1 :=
    ⟨_, _, Lib.run_convert_string_bytes w 9 40 5 s Tryd.underlying9 Tryd.underlying40 Tryd.underlying5, row_bytes w _ s w.heap.size (Nat.le_refl _) (by unfold maxLen; omega)⟩
  have hsz1 : w.heap.size ≤ w1.heap.size := hbl.size
  go_enter Tryd.func31, Tryd.ntmps31
  go_wp2_with (first
    | (at_builtin; refine wpList_append_row rfl _ _ 40 rfl w.heap.size 5 i0 (.int .u8 0) 1 Tryd.underlying40 hi hz0 hz1 hz2 rfl w.heap.size s.size cap0 ((byt s).map (Value.int .u8)) rfl (hrow.alloc _) ⟨w1.heap.size, 0, none⟩ 1 1 [.int .u8 128] rfl rfl (World.news_of_block (cs := #[.int .u8 128]) (heap_alloc_new w1 _)) (by simp [Value.oneCell']) (by unfold maxLen; omega) (by omega) (by simp; omega) _ rfl ?_; intro g2 cap2 w2 hrow2 hgr2 _ _)
    | go_in)
  have hbl2 : Below w.heap.size w w2 := (hbl.alloc hsz1 _).grown hgr2 (by simp; omega) (fun r hr => by simp at hr; omega)
  clear hrow hbl hgr2 hcv hsz1
  go_loopw [3] (fun v wr => ∃ z g cap : Nat, z ≤ zeros s.size ∧ v = .slice (some ⟨g, 0, none⟩) (s.size + 1 + z) cap ∧ Row wr w.heap.size g (s.size + 1 + z) cap ((byt s ++ [128] ++ List.replicate z 0).map (Value.int .u8)) ∧ Below w.heap.size w wr) (fun v _ => s.size + 1 + zeros s.size - lenV v)
  case atStart => exact ⟨0, g2, cap2, Nat.zero_le _, rfl, by simpa using hrow2, hbl2⟩
  case round =>
    clear hrow2 hbl2
    obtain ⟨z, g, cap, hz, rfl, hrow, hbl⟩ := hrel
    have hsz1 : w.heap.size ≤ wr.heap.size := hbl.size
    have hzl : zeros s.size < 64 := Nat.mod_lt _ (by omega)
    by_cases hlt : z < zeros s.size
    · have ht : (((s.size : Int) + 1 + (z : Int)) % 64 != 56) = true := by
        rw [bne_iff_ne]; unfold zeros at hlt; omega
      go_wp2_with (first
        | (at_builtin; refine wpList_append_row rfl _ _ 40 rfl w.heap.size 5 i0 (.int .u8 0) 1 Tryd.underlying40 hi hz0 hz1 hz2 rfl g (s.size + 1 + z) cap ((byt s ++ [128] ++ List.replicate z 0).map (Value.int .u8)) rfl (hrow.alloc _) ⟨wr.heap.size, 0, none⟩ 1 1 [.int .u8 0] rfl rfl (World.news_of_block (cs := #[.int .u8 0]) (heap_alloc_new wr _)) (by simp [Value.oneCell']) (by unfold maxLen; omega) (by omega) (by simp; omega) _ rfl ?_; intro g3 cap3 w3 hrow3 hgr3 _ _)
        | go_in)
      go_roundw
      case rel =>
        have R1 : Row w3 w.heap.size g3 (s.size + 1 + (z + 1)) cap3 ((byt s ++ [128] ++ List.replicate (z + 1) 0).map (Value.int .u8)) := by
          rw [List.replicate_succ', ← List.append_assoc, List.map_append, ← Nat.add_assoc]; exact hrow3
        have R2 : Below w.heap.size w w3 := (hbl.alloc hsz1 _).grown hgr3 (by simp; omega) (fun r hr => by simp at hr; have := hrow.lo; omega)
        first
          | exact ⟨z + 1, g3, cap3, by omega, rfl, R1, R2⟩
          | ((repeat apply Exists.intro); exact ⟨⟨z + 1, g3, cap3, by omega, rfl, R1, R2⟩, rfl⟩)
      case measure => simp [lenV]; omega
    · obtain rfl : z = zeros s.size := by omega
      have ht : (((s.size : Int) + 1 + (zeros s.size : Int)) % 64 != 56) = false := by
        rw [bne_eq_false_iff_eq]; unfold zeros; omega
      have hN : 0 ≤ (s.size : Int) * 8 ∧ (s.size : Int) * 8 ≤ 8589934592 := by omega
      go_wp2
      clear hz hlt ht
      go_loopw [3, 5] (fun v i wr => ∃ j g cap : Nat, j ≤ 8 ∧ i = .int .i64 (7 - (j : Int)) ∧ v = .slice (some ⟨g, 0, none⟩) (s.size + 1 + zeros s.size + j) cap ∧ Row wr w.heap.size g (s.size + 1 + zeros s.size + j) cap ((byt s ++ [128] ++ List.replicate (zeros s.size) 0 ++ (be8 (s.size * 8)).take j).map (Value.int .u8)) ∧ Below w.heap.size w wr) (fun _ i _ => (intOf i + 1).toNat)
      case atStart => exact ⟨0, g, cap, by omega, rfl, rfl, by simpa using hrow, hbl⟩
      case round =>
        clear hrow hbl hsz1
        obtain ⟨j, g1, cap1, hj, rfl, rfl, hrow, hbl⟩ := hrel
        have hsz1 : w.heap.size ≤ wr.heap.size := hbl.size
        by_cases hlt : j < 8
        · have hg0 : (0 : Int) ≤ 7 - (j : Int) := by omega
          go_wp2_with (first
            | (at_builtin; refine wpList_append_row rfl _ _ 40 rfl w.heap.size 5 i0 (.int .u8 0) 1 Tryd.underlying40 hi hz0 hz1 hz2 rfl g1 (s.size + 1 + zeros s.size + j) cap1 ((byt s ++ [128] ++ List.replicate (zeros s.size) 0 ++ (be8 (s.size * 8)).take j).map (Value.int .u8)) rfl (hrow.alloc _) ⟨wr.heap.size, 0, none⟩ 1 1 [.int .u8 (beAt (s.size * 8) j)] rfl rfl (World.news_of_block (cs := #[.int .u8 (beAt (s.size * 8) j)]) (heap_alloc_new wr _)) (by simp [Value.oneCell']) (by unfold maxLen; omega) (by omega) (by simp; omega) _ rfl ?_; intro g3 cap3 w3 hrow3 hgr3 _ _)
            | go_in)
          go_roundw
          case rel =>
            have R1 : Row w3 w.heap.size g3 (s.size + 1 + zeros s.size + (j + 1)) cap3 ((byt s ++ [128] ++ List.replicate (zeros s.size) 0 ++ (be8 (s.size * 8)).take (j + 1)).map (Value.int .u8)) := by
              rw [be8_take _ j hlt, ← List.append_assoc, List.map_append, ← Nat.add_assoc]; exact hrow3
            have R2 : Below w.heap.size w w3 := (hbl.alloc hsz1 _).grown hgr3 (by simp; omega) (fun r hr => by simp at hr; have := hrow.lo; omega)
            have R3 : Value.int .i64 (7 - (j : Int) - 1) = Value.int .i64 (7 - ((j + 1 : Nat) : Int)) := by congr 1; omega
            first
              | exact ⟨j + 1, g3, cap3, by omega, R3, rfl, R1, R2⟩
              | ((repeat apply Exists.intro); exact ⟨⟨j + 1, g3, cap3, by omega, R3, rfl, R1, R2⟩, rfl⟩)
          case measure => simp [intOf]; omega
        · obtain rfl : j = 8 := by omega
          go_wp2
          go_ret
          exact ⟨g1, _, cap1, rfl, by rw [padF_byt]; exact hrow, hbl⟩
end Go.Proofs.YtenggagjgmonoaaDoor
