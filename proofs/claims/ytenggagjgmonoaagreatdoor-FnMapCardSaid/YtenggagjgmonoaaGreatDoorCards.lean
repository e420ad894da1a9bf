/-
  DERIVED. GIVEN WITH THE SEED: THE CARDS: each row of YtenggagjgmonoaaGreatDoorRows.lean that lists a variable, with what it lists TIED to the program's text (the seventh form; the later family's looks); each row that meets fmt, with fmt's text TOLD by the authors' own Lean function (tested against real Go, not proved from fmt's source: count such statements apart). THE CARD IS WHAT COUNTS. Prove the row's statement (the work); the ties are given (YtenggagjgmonoaaGreatDoorTie.lean); close each card by the builder's one call (the guide's Derived/Test/ToyasCard.lean, 'card_holds'). Laid BY PROGRAM, IN A SANDBOX (cutbox-door.mjs). By AI agents, Wed Nov 11 2026. No macro, syntax, notation, axiom, sorry.
-/
import Derived.Test.YtenggagjgmonoaaGreatDoorRows
import GoSem.ClaimSeven
namespace Go.Proofs.YtenggagjgmonoaaGreatDoor
namespace Rows

/-- THE TIED CARD OF 'laws.FnMap'. -/
def fnMapCard : Claim7 := { stood := { row := fnMapRow, standIns := [], harness := (true, "f4433cb674394cf4080914a995df7d971d3d5ce04b3cd0cc99afaa3369628b61"), looks := false }, kinds := [], alts := [], laidByText := true, laidKinds := [.data], laidTests := true, laidLooks := .later }
def FnMapCardSaid : Prop := Claim7.holds Tryz.pinned (.plain (OpenSpec.ofChange fnMapSpec)) fnMapCard

/-- THE SECOND FORM's CARD OF 'laws.FnMap'. -/
def fnMapUptoCard : Claim7 := { stood := { row := fnMapUptoRow, standIns := [], harness := (true, "f4433cb674394cf4080914a995df7d971d3d5ce04b3cd0cc99afaa3369628b61"), looks := false }, kinds := [], alts := [], laidByText := true, laidKinds := [.data], laidTests := true, laidLooks := .later }
def FnMapUptoCardSaid : Prop := Claim7.holds Tryz.pinned (.plain (OpenSpec.upto fnMapSpec)) fnMapUptoCard
end Rows
end Go.Proofs.YtenggagjgmonoaaGreatDoor
