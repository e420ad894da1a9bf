import Derived.Test.YtkgaodmbiloggaaDoorNewK
namespace Go.Proofs.YtkgaodmbiloggaaDoor
open Go.RowKit
set_option linter.unusedVariables false

set_option maxRecDepth 100000 in
set_option maxHeartbeats 1000000 in
theorem hmacI_any (key s : ByteArray) (w : World) (hT : TabK w) (hk : key.size ≤ 10000000000) (hs : s.size ≤ 10000000000) :
    Calls Tryd.prog 10 #[.string key, .string s] w fun e w' => e = .returned (.string (strOfNums (hmacF (byt key) (byt s)))) ∧ Below w.heap.size w w' := by
  have hgw : 0 < w.heap.size := World.block_lt_of_cell? w _ (hT 0 (by omega))
  go_enter Tryd.func10, Tryd.ntmps10
  go_wp2_with fail
  refine (newK_any key w hT (by omega)).mono ?_
  rintro e W1 ⟨L1, L2, rfl, h1, h2, hb1⟩
  go_wp2_with fail
  generalize hW2 : W1.alloc _ = W2
  have hc : ∀ i, i < 1 → W2.cell? ⟨W1.heap.size, i, none⟩ = some (.string ([s].getD i ByteArray.empty)) := fun i hi => by
    obtain rfl : i = 0 := by omega
    rw [← hW2, cell_of_row _ _ _ _ _ _ (heap_alloc_new W1 _)]; rfl
  have hb2 : Below w.heap.size w W2 := by rw [← hW2]; exact hb1.alloc hb1.size _
  have hT2 : TabK W2 := fun i hi => (hb2.cell (p := ⟨0, i, none⟩) hgw).trans (hT i hi)
  clear hW2
  refine (ofK_any L1 L2 _ _ W1.heap.size 1 1 [s] W2 h1 h2 hT2 (by rw [xorL_length, kkL_length]; simp [sizeB]; omega) (by rw [xorL_length, kkL_length]; omega) (xorL_lt _ _) (xorL_lt _ _) rfl (by omega) (by omega) hc).mono ?_
  rintro e W3 ⟨rfl, hb3⟩
  go_wp2
  go_ret
  exact ⟨by simp [catB, hmacF], hb2.trans (hb3.mono hb2.size)⟩

set_option maxRecDepth 100000 in
theorem extractI_any (key s : ByteArray) (w : World) (hT : TabK w) (hk : key.size ≤ 10000000000) (hs : s.size ≤ 10000000000) :
    Calls Tryd.prog 12 #[.string key, .string s] w fun e w' => e = .returned (.string (strOfNums (hmacF (byt key) (byt s)))) ∧ Below w.heap.size w w' := by
  go_enter Tryd.func12, Tryd.ntmps12
  go_wp2_with fail
  refine (hmacI_any key s w hT hk hs).mono ?_
  rintro e W1 ⟨rfl, hb1⟩
  go_wp2
  go_ret
  exact ⟨rfl, hb1⟩
end Go.Proofs.YtkgaodmbiloggaaDoor
