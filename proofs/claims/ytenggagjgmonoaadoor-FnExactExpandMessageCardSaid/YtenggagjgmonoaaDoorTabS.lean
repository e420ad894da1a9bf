import Derived.Test.YtenggagjgmonoaaDoorSchedS
import Derived.Test.YtenggagjgmonoaaDoorPure4
import Derived.Test.YtenggagjgmonoaaDoorOwn
namespace Go.Proofs.YtenggagjgmonoaaDoor
open Go.RowKit
set_option linter.unusedVariables false
set_option maxRecDepth 100000

/-- the table of the constants, at the head of a new block -/
theorem tableS_any (w : World) :
    Calls Tryd.prog 30 #[] w fun e w' => ∃ g', e = .returned (.slice (some ⟨g', 0, none⟩) 64 64) ∧
      w'.ownsRow w.heap.size 66 1 (.slice (some ⟨g', 0, none⟩) 64 64) 64 (kTab.map (Value.int .u32)) ∧ Below w.heap.size w w' := by
  go_enter Tryd.func30, Tryd.ntmps30
  go_wp2
  go_ret
  exact ⟨w.heap.size, rfl, World.ownsRow_lit w _ 64 (Nat.le_refl _) (by decide) rfl, (Below.refl _ _).alloc (Nat.le_refl _) _⟩

end Go.Proofs.YtenggagjgmonoaaDoor
