/-
  What the four laws of this seat share: the row's list, the witness's world.
-/
import Derived.Test.YtenggagjgmonoaaDoorCards
import Derived.Test.YtenggagjgmonoaaDoorTie
import Derived.Test.YtenggagjgmonoaaDoorAllI
import Derived.Test.YtenggagjgmonoaaDoorShaS
import Derived.OpenShut
import Derived.ShutString
import Derived.ChangeOld
import Derived.OpenVars
import Derived.Deep.DeepHandedRow
import Derived.Lib.LaidTab
namespace Go.Proofs.YtenggagjgmonoaaDoor
open Go.ChangeShapes Go.WideShapes Go.ChangeAt Go.RowKit
set_option linter.unusedVariables false

theorem own : ownKnob Tryd.prog.godebug = none := by kernel_rfl
theorem laidOut : laidOutB Tryd.prog = true := by kernel_rfl
theorem gTab : Tryd.prog.globalNamed "loop.example/s02095/impl.roundWords" = some 2 := by kernel_rfl
theorem gTabType : (Tryd.prog.globals[2]?).map (·.type) = some 142 := by kernel_rfl
theorem cells61 : Tryd.prog.cellsOf 142 = 64 := by kernel_rfl
theorem cells29 : Tryd.prog.cellsOf 66 = 1 := by kernel_rfl
theorem varsR : varsRowed Tryd.prog ["loop.example/s02095/impl.roundWords"] = true := by kernel_rfl

/-- WHAT THE ROW's LIST GIVES: the table's cells hold its numbers. -/
theorem table {W : World} (h : laidMetH Tryd.prog [("loop.example/s02095/impl.roundWords", Rows.laid_loop_example_s02095_impl_roundWords)] W) : TabK W := fun i hi => by
  have ht : Lib.TabIs Tryd.prog W "loop.example/s02095/impl.roundWords" .u32 kTab :=
    Lib.tabIs_of_head (rest := []) gTab gTabType Tryd.underlying142 Tryd.underlying66 cells29 cells61 h
  exact ht.cell gTab i hi

/-- A WORLD FOR THE WITNESS: the settled one, the table holding what its initialiser lays. -/
noncomputable def laidWorld (os : Os) : World :=
  { World.holding Tryd.prog os ⟨#[], #[], []⟩ with heap := (World.holding Tryd.prog os ⟨#[], #[], []⟩).heap.modify 2 fun
      | .cells _ t frozen => .cells (kTab.map (Value.int .u32)).toArray t frozen
      | o => o }
theorem u64_nat {x : Int} (h : (Lit.int .u64 x).wf = true) : ∃ n : Nat, x = n ∧ n < 18446744073709551616 := by
  have h2 : 0 ≤ x ∧ x ≤ 18446744073709551615 := by simpa [Lit.wf, IntKind.min, IntKind.max, IntKind.signed, IntKind.bits] using h
  exact ⟨x.toNat, by omega, by omega⟩
end Go.Proofs.YtenggagjgmonoaaDoor
