import Derived.Test.YtkgaodmbiloggaaDoorHmacS
namespace Go.Proofs.YtkgaodmbiloggaaDoor
open Go.RowKit
set_option linter.unusedVariables false

set_option maxRecDepth 100000 in
theorem extractS_any (key s : ByteArray) (w : World) (hk : key.size ≤ 33554432) (hs : s.size ≤ 33554432) :
    Calls Tryd.prog 11 #[.string key, .string s] w fun e w' => e = .returned (.string (strOfNums (hmacF (byt key) (byt s)))) ∧ Below w.heap.size w w' := by
  go_enter Tryd.func11, Tryd.ntmps11
  go_wp2_with fail
  refine (hmacS_any key s w hk hs).mono ?_
  rintro e W1 ⟨rfl, hb1⟩
  go_wp2
  go_ret
  exact ⟨rfl, hb1⟩
end Go.Proofs.YtkgaodmbiloggaaDoor
