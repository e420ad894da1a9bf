import Derived.Test.YtkgaodmbiloggaaDoorSchedS
import Derived.Test.YtkgaodmbiloggaaDoorPure2
import Derived.Test.YtkgaodmbiloggaaDoorOwn
namespace Go.Proofs.YtkgaodmbiloggaaDoor
open Go.RowKit
set_option linter.unusedVariables false

/-- the table of the constants, at the head of a new block -/
theorem tableS_any (w : World) :
    Calls Tryd.prog 15 #[] w fun e w' => ∃ g', e = .returned (.slice (some ⟨g', 0, none⟩) 64 64) ∧
      w'.ownsRow w.heap.size 29 1 (.slice (some ⟨g', 0, none⟩) 64 64) 64 (kTab.map (Value.int .u32)) ∧ Below w.heap.size w w' := by
  go_enter Tryd.func15, Tryd.ntmps15
  go_wp2
  go_ret
  exact ⟨w.heap.size, rfl, World.ownsRow_lit w _ 64 (Nat.le_refl _) (by decide) rfl, (Below.refl _ _).alloc (Nat.le_refl _) _⟩

end Go.Proofs.YtkgaodmbiloggaaDoor
