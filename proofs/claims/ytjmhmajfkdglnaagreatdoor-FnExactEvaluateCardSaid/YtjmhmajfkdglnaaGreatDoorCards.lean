/-
  DERIVED. GIVEN WITH THE SEED: THE CARDS: each row of YtjmhmajfkdglnaaGreatDoorRows.lean that lists a variable, with what it lists TIED to the program's text (the seventh form; the later family's looks); each row that meets fmt, with fmt's text TOLD by the authors' own Lean function (tested against real Go, not proved from fmt's source: count such statements apart). THE CARD IS WHAT COUNTS. Prove the row's statement (the work); the ties are given (YtjmhmajfkdglnaaGreatDoorTie.lean); close each card by the builder's one call (the guide's Derived/Test/ToyasCard.lean, 'card_holds'). Laid BY PROGRAM, IN A SANDBOX (cutbox-door.mjs). By AI agents, Wed Nov 11 2026. No macro, syntax, notation, axiom, sorry.
-/
import Derived.Test.YtjmhmajfkdglnaaGreatDoorRows
import GoSem.ClaimSeven
namespace Go.Proofs.YtjmhmajfkdglnaaGreatDoor
namespace Rows

/-- THE TIED CARD OF 'laws.FnExactDirect'. -/
def fnExactDirectCard : Claim7 := { stood := { row := fnExactDirectRow, standIns := [], harness := (true, "48c0e543f54e74e8d5b809883cecccb97cc5d8089a86b45455b7c1fb7648b708"), looks := true }, kinds := [], alts := [], laidByText := true, laidKinds := [.data, .data, .data, .data, .sentinel, .sentinel, .sentinel, .sentinel], laidTests := true, laidLooks := .later }
def FnExactDirectCardSaid : Prop := Claim7.holds Tryz.pinned (.plain (OpenSpec.ofChange fnExactDirectSpec)) fnExactDirectCard

/-- THE TIED CARD OF 'laws.FnExactBlind'. -/
def fnExactBlindCard : Claim7 := { stood := { row := fnExactBlindRow, standIns := [], harness := (true, "48c0e543f54e74e8d5b809883cecccb97cc5d8089a86b45455b7c1fb7648b708"), looks := true }, kinds := [], alts := [], laidByText := true, laidKinds := [.data, .data, .data, .data, .sentinel, .sentinel, .sentinel, .sentinel], laidTests := true, laidLooks := .later }
def FnExactBlindCardSaid : Prop := Claim7.holds Tryz.pinned (.plain (OpenSpec.ofChange fnExactBlindSpec)) fnExactBlindCard

/-- THE TIED CARD OF 'laws.FnExactEvaluate'. -/
def fnExactEvaluateCard : Claim7 := { stood := { row := fnExactEvaluateRow, standIns := [], harness := (true, "48c0e543f54e74e8d5b809883cecccb97cc5d8089a86b45455b7c1fb7648b708"), looks := true }, kinds := [], alts := [], laidByText := true, laidKinds := [.data, .data, .data, .data, .sentinel, .sentinel, .sentinel, .sentinel], laidTests := true, laidLooks := .later }
def FnExactEvaluateCardSaid : Prop := Claim7.holds Tryz.pinned (.plain (OpenSpec.ofChange fnExactEvaluateSpec)) fnExactEvaluateCard

/-- THE TIED CARD OF 'laws.FnExactFinalize'. -/
def fnExactFinalizeCard : Claim7 := { stood := { row := fnExactFinalizeRow, standIns := [], harness := (true, "48c0e543f54e74e8d5b809883cecccb97cc5d8089a86b45455b7c1fb7648b708"), looks := true }, kinds := [], alts := [], laidByText := true, laidKinds := [.data, .data, .data, .data, .sentinel, .sentinel, .sentinel, .sentinel], laidTests := true, laidLooks := .later }
def FnExactFinalizeCardSaid : Prop := Claim7.holds Tryz.pinned (.plain (OpenSpec.ofChange fnExactFinalizeSpec)) fnExactFinalizeCard

/-- THE TIED CARD OF 'laws.FnBatch'. -/
def fnBatchCard : Claim7 := { stood := { row := fnBatchRow, standIns := [], harness := (true, "48c0e543f54e74e8d5b809883cecccb97cc5d8089a86b45455b7c1fb7648b708"), looks := true }, kinds := [], alts := [], laidByText := true, laidKinds := [.data, .data, .data, .data, .sentinel, .sentinel, .sentinel, .sentinel], laidTests := true, laidLooks := .later }
def FnBatchCardSaid : Prop := Claim7.holds Tryz.pinned (.plain (OpenSpec.ofChange fnBatchSpec)) fnBatchCard

/-- THE SECOND FORM's CARD OF 'laws.FnExactDirect'. -/
def fnExactDirectUptoCard : Claim7 := { stood := { row := fnExactDirectUptoRow, standIns := [], harness := (true, "48c0e543f54e74e8d5b809883cecccb97cc5d8089a86b45455b7c1fb7648b708"), looks := true }, kinds := [], alts := [], laidByText := true, laidKinds := [.data, .data, .data, .data, .sentinel, .sentinel, .sentinel, .sentinel], laidTests := true, laidLooks := .later }
def FnExactDirectUptoCardSaid : Prop := Claim7.holds Tryz.pinned (.plain (OpenSpec.upto fnExactDirectSpec)) fnExactDirectUptoCard

/-- THE SECOND FORM's CARD OF 'laws.FnExactBlind'. -/
def fnExactBlindUptoCard : Claim7 := { stood := { row := fnExactBlindUptoRow, standIns := [], harness := (true, "48c0e543f54e74e8d5b809883cecccb97cc5d8089a86b45455b7c1fb7648b708"), looks := true }, kinds := [], alts := [], laidByText := true, laidKinds := [.data, .data, .data, .data, .sentinel, .sentinel, .sentinel, .sentinel], laidTests := true, laidLooks := .later }
def FnExactBlindUptoCardSaid : Prop := Claim7.holds Tryz.pinned (.plain (OpenSpec.upto fnExactBlindSpec)) fnExactBlindUptoCard

/-- THE SECOND FORM's CARD OF 'laws.FnExactEvaluate'. -/
def fnExactEvaluateUptoCard : Claim7 := { stood := { row := fnExactEvaluateUptoRow, standIns := [], harness := (true, "48c0e543f54e74e8d5b809883cecccb97cc5d8089a86b45455b7c1fb7648b708"), looks := true }, kinds := [], alts := [], laidByText := true, laidKinds := [.data, .data, .data, .data, .sentinel, .sentinel, .sentinel, .sentinel], laidTests := true, laidLooks := .later }
def FnExactEvaluateUptoCardSaid : Prop := Claim7.holds Tryz.pinned (.plain (OpenSpec.upto fnExactEvaluateSpec)) fnExactEvaluateUptoCard

/-- THE SECOND FORM's CARD OF 'laws.FnExactFinalize'. -/
def fnExactFinalizeUptoCard : Claim7 := { stood := { row := fnExactFinalizeUptoRow, standIns := [], harness := (true, "48c0e543f54e74e8d5b809883cecccb97cc5d8089a86b45455b7c1fb7648b708"), looks := true }, kinds := [], alts := [], laidByText := true, laidKinds := [.data, .data, .data, .data, .sentinel, .sentinel, .sentinel, .sentinel], laidTests := true, laidLooks := .later }
def FnExactFinalizeUptoCardSaid : Prop := Claim7.holds Tryz.pinned (.plain (OpenSpec.upto fnExactFinalizeSpec)) fnExactFinalizeUptoCard

/-- THE SECOND FORM's CARD OF 'laws.FnBatch'. -/
def fnBatchUptoCard : Claim7 := { stood := { row := fnBatchUptoRow, standIns := [], harness := (true, "48c0e543f54e74e8d5b809883cecccb97cc5d8089a86b45455b7c1fb7648b708"), looks := true }, kinds := [], alts := [], laidByText := true, laidKinds := [.data, .data, .data, .data, .sentinel, .sentinel, .sentinel, .sentinel], laidTests := true, laidLooks := .later }
def FnBatchUptoCardSaid : Prop := Claim7.holds Tryz.pinned (.plain (OpenSpec.upto fnBatchSpec)) fnBatchUptoCard
end Rows
end Go.Proofs.YtjmhmajfkdglnaaGreatDoor
