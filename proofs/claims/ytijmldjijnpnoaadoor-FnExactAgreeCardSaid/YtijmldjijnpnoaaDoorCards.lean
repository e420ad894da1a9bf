/-
  DERIVED. GIVEN WITH THE SEED: THE CARDS: each row of YtijmldjijnpnoaaDoorRows.lean that lists a variable, with what it lists TIED to the program's text (the seventh form; the later family's looks); each row that meets fmt, with fmt's text TOLD by the authors' own Lean function (tested against real Go, not proved from fmt's source: count such statements apart). THE CARD IS WHAT COUNTS. Prove the row's statement (the work); the ties are given (YtijmldjijnpnoaaDoorTie.lean); close each card by the builder's one call (the guide's Derived/Test/ToyasCard.lean, 'card_holds'). Laid BY PROGRAM, IN A SANDBOX (cutbox-door.mjs). By AI agents, Wed Nov 11 2026. No macro, syntax, notation, axiom, sorry.
-/
import Derived.Test.YtijmldjijnpnoaaDoorRows
import GoSem.ClaimSeven
namespace Go.Proofs.YtijmldjijnpnoaaDoor
namespace Rows

/-- THE TIED CARD OF 'laws.FnExactAgree'. -/
def fnExactAgreeCard : Claim7 := { stood := { row := fnExactAgreeRow, standIns := [], harness := (true, "5ffc475e714143181f73cdeb8d179b6115586c490f6f35adca907b586b0e121e"), looks := false }, kinds := [], alts := [], laidByText := true, laidKinds := [.data], laidTests := true, laidLooks := .later }
def FnExactAgreeCardSaid : Prop := Claim7.holds Tryd.pinned (.plain (OpenSpec.ofChange fnExactAgreeSpec)) fnExactAgreeCard

/-- THE TIED CARD OF 'laws.FnExactHashToGroup'. -/
def fnExactHashToGroupCard : Claim7 := { stood := { row := fnExactHashToGroupRow, standIns := [], harness := (true, "5ffc475e714143181f73cdeb8d179b6115586c490f6f35adca907b586b0e121e"), looks := false }, kinds := [], alts := [], laidByText := true, laidKinds := [.data], laidTests := true, laidLooks := .later }
def FnExactHashToGroupCardSaid : Prop := Claim7.holds Tryd.pinned (.plain (OpenSpec.ofChange fnExactHashToGroupSpec)) fnExactHashToGroupCard

/-- THE SECOND FORM's CARD OF 'laws.FnExactAgree'. -/
def fnExactAgreeUptoCard : Claim7 := { stood := { row := fnExactAgreeUptoRow, standIns := [], harness := (true, "5ffc475e714143181f73cdeb8d179b6115586c490f6f35adca907b586b0e121e"), looks := false }, kinds := [], alts := [], laidByText := true, laidKinds := [.data], laidTests := true, laidLooks := .later }
def FnExactAgreeUptoCardSaid : Prop := Claim7.holds Tryd.pinned (.plain (OpenSpec.upto fnExactAgreeSpec)) fnExactAgreeUptoCard

/-- THE SECOND FORM's CARD OF 'laws.FnExactHashToGroup'. -/
def fnExactHashToGroupUptoCard : Claim7 := { stood := { row := fnExactHashToGroupUptoRow, standIns := [], harness := (true, "5ffc475e714143181f73cdeb8d179b6115586c490f6f35adca907b586b0e121e"), looks := false }, kinds := [], alts := [], laidByText := true, laidKinds := [.data], laidTests := true, laidLooks := .later }
def FnExactHashToGroupUptoCardSaid : Prop := Claim7.holds Tryd.pinned (.plain (OpenSpec.upto fnExactHashToGroupSpec)) fnExactHashToGroupUptoCard
end Rows
end Go.Proofs.YtijmldjijnpnoaaDoor
