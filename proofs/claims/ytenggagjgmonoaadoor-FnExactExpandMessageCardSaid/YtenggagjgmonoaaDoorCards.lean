/-
  DERIVED. GIVEN WITH THE SEED: THE CARDS: each row of YtenggagjgmonoaaDoorRows.lean that lists a variable, with what it lists TIED to the program's text (the seventh form; the later family's looks); each row that meets fmt, with fmt's text TOLD by the authors' own Lean function (tested against real Go, not proved from fmt's source: count such statements apart). THE CARD IS WHAT COUNTS. Prove the row's statement (the work); the ties are given (YtenggagjgmonoaaDoorTie.lean); close each card by the builder's one call (the guide's Derived/Test/ToyasCard.lean, 'card_holds'). Laid BY PROGRAM, IN A SANDBOX (cutbox-door.mjs). By AI agents, Wed Nov 11 2026. No macro, syntax, notation, axiom, sorry.
-/
import Derived.Test.YtenggagjgmonoaaDoorRows
import GoSem.ClaimSeven
namespace Go.Proofs.YtenggagjgmonoaaDoor
namespace Rows

/-- THE TIED CARD OF 'laws.FnExactExpandMessage'. -/
def fnExactExpandMessageCard : Claim7 := { stood := { row := fnExactExpandMessageRow, standIns := [], harness := (true, "fc9370c33b1301ec3e38259d11713467f0fedd6a3ad431830788a0f1b642023a"), looks := false }, kinds := [], alts := [], laidByText := true, laidKinds := [.data], laidTests := true, laidLooks := .later }
def FnExactExpandMessageCardSaid : Prop := Claim7.holds Tryd.pinned (.plain (OpenSpec.ofChange fnExactExpandMessageSpec)) fnExactExpandMessageCard

/-- THE TIED CARD OF 'laws.FnExactHashToScalar'. -/
def fnExactHashToScalarCard : Claim7 := { stood := { row := fnExactHashToScalarRow, standIns := [], harness := (true, "fc9370c33b1301ec3e38259d11713467f0fedd6a3ad431830788a0f1b642023a"), looks := false }, kinds := [], alts := [], laidByText := true, laidKinds := [.data], laidTests := true, laidLooks := .later }
def FnExactHashToScalarCardSaid : Prop := Claim7.holds Tryd.pinned (.plain (OpenSpec.ofChange fnExactHashToScalarSpec)) fnExactHashToScalarCard

/-- THE TIED CARD OF 'laws.FnExactHashToField'. -/
def fnExactHashToFieldCard : Claim7 := { stood := { row := fnExactHashToFieldRow, standIns := [], harness := (true, "fc9370c33b1301ec3e38259d11713467f0fedd6a3ad431830788a0f1b642023a"), looks := false }, kinds := [], alts := [], laidByText := true, laidKinds := [.data], laidTests := true, laidLooks := .later }
def FnExactHashToFieldCardSaid : Prop := Claim7.holds Tryd.pinned (.plain (OpenSpec.ofChange fnExactHashToFieldSpec)) fnExactHashToFieldCard

/-- THE TIED CARD OF 'laws.FnExactHashToGroup'. -/
def fnExactHashToGroupCard : Claim7 := { stood := { row := fnExactHashToGroupRow, standIns := [], harness := (true, "fc9370c33b1301ec3e38259d11713467f0fedd6a3ad431830788a0f1b642023a"), looks := false }, kinds := [], alts := [], laidByText := true, laidKinds := [.data], laidTests := true, laidLooks := .later }
def FnExactHashToGroupCardSaid : Prop := Claim7.holds Tryd.pinned (.plain (OpenSpec.ofChange fnExactHashToGroupSpec)) fnExactHashToGroupCard

/-- THE SECOND FORM's CARD OF 'laws.FnExactExpandMessage'. -/
def fnExactExpandMessageUptoCard : Claim7 := { stood := { row := fnExactExpandMessageUptoRow, standIns := [], harness := (true, "fc9370c33b1301ec3e38259d11713467f0fedd6a3ad431830788a0f1b642023a"), looks := false }, kinds := [], alts := [], laidByText := true, laidKinds := [.data], laidTests := true, laidLooks := .later }
def FnExactExpandMessageUptoCardSaid : Prop := Claim7.holds Tryd.pinned (.plain (OpenSpec.upto fnExactExpandMessageSpec)) fnExactExpandMessageUptoCard

/-- THE SECOND FORM's CARD OF 'laws.FnExactHashToScalar'. -/
def fnExactHashToScalarUptoCard : Claim7 := { stood := { row := fnExactHashToScalarUptoRow, standIns := [], harness := (true, "fc9370c33b1301ec3e38259d11713467f0fedd6a3ad431830788a0f1b642023a"), looks := false }, kinds := [], alts := [], laidByText := true, laidKinds := [.data], laidTests := true, laidLooks := .later }
def FnExactHashToScalarUptoCardSaid : Prop := Claim7.holds Tryd.pinned (.plain (OpenSpec.upto fnExactHashToScalarSpec)) fnExactHashToScalarUptoCard

/-- THE SECOND FORM's CARD OF 'laws.FnExactHashToField'. -/
def fnExactHashToFieldUptoCard : Claim7 := { stood := { row := fnExactHashToFieldUptoRow, standIns := [], harness := (true, "fc9370c33b1301ec3e38259d11713467f0fedd6a3ad431830788a0f1b642023a"), looks := false }, kinds := [], alts := [], laidByText := true, laidKinds := [.data], laidTests := true, laidLooks := .later }
def FnExactHashToFieldUptoCardSaid : Prop := Claim7.holds Tryd.pinned (.plain (OpenSpec.upto fnExactHashToFieldSpec)) fnExactHashToFieldUptoCard

/-- THE SECOND FORM's CARD OF 'laws.FnExactHashToGroup'. -/
def fnExactHashToGroupUptoCard : Claim7 := { stood := { row := fnExactHashToGroupUptoRow, standIns := [], harness := (true, "fc9370c33b1301ec3e38259d11713467f0fedd6a3ad431830788a0f1b642023a"), looks := false }, kinds := [], alts := [], laidByText := true, laidKinds := [.data], laidTests := true, laidLooks := .later }
def FnExactHashToGroupUptoCardSaid : Prop := Claim7.holds Tryd.pinned (.plain (OpenSpec.upto fnExactHashToGroupSpec)) fnExactHashToGroupUptoCard
end Rows
end Go.Proofs.YtenggagjgmonoaaDoor
