/-
  DERIVED. GIVEN WITH THE SEED: THE CARDS: each row of YtjmhmajfkdglnaaDoorRows.lean that lists a variable, with what it lists TIED to the program's text (the seventh form; the later family's looks); each row that meets fmt, with fmt's text TOLD by the authors' own Lean function (tested against real Go, not proved from fmt's source: count such statements apart). THE CARD IS WHAT COUNTS. Prove the row's statement (the work); the ties are given (YtjmhmajfkdglnaaDoorTie.lean); close each card by the builder's one call (the guide's Derived/Test/ToyasCard.lean, 'card_holds'). Laid BY PROGRAM, IN A SANDBOX (cutbox-door.mjs). By AI agents, Wed Nov 11 2026. No macro, syntax, notation, axiom, sorry.
-/
import Derived.Test.YtjmhmajfkdglnaaDoorRows
import GoSem.ClaimSeven
namespace Go.Proofs.YtjmhmajfkdglnaaDoor
namespace Rows

/-- THE TIED CARD OF 'laws.FnExactDeriveKey'. -/
def fnExactDeriveKeyCard : Claim7 := { stood := { row := fnExactDeriveKeyRow, standIns := [], harness := (true, "73f07afbd653eb0ed228da7f1933097d6a903f7b4c20a50a9e5c285581832e7f"), looks := true }, kinds := [], alts := [], laidByText := true, laidKinds := [.data, .data, .data, .data, .sentinel, .sentinel, .sentinel, .sentinel], laidTests := true, laidLooks := .later }
def FnExactDeriveKeyCardSaid : Prop := Claim7.holds Tryd.pinned (.plain (OpenSpec.ofChange fnExactDeriveKeySpec)) fnExactDeriveKeyCard

/-- THE SECOND FORM's CARD OF 'laws.FnExactDeriveKey'. -/
def fnExactDeriveKeyUptoCard : Claim7 := { stood := { row := fnExactDeriveKeyUptoRow, standIns := [], harness := (true, "73f07afbd653eb0ed228da7f1933097d6a903f7b4c20a50a9e5c285581832e7f"), looks := true }, kinds := [], alts := [], laidByText := true, laidKinds := [.data, .data, .data, .data, .sentinel, .sentinel, .sentinel, .sentinel], laidTests := true, laidLooks := .later }
def FnExactDeriveKeyUptoCardSaid : Prop := Claim7.holds Tryd.pinned (.plain (OpenSpec.upto fnExactDeriveKeySpec)) fnExactDeriveKeyUptoCard
end Rows
end Go.Proofs.YtjmhmajfkdglnaaDoor
