/-
  DERIVED. GIVEN WITH THE SEED: THE CARDS: each row of YtmjniccfjffclaaGreatDoorRows.lean that lists a variable, with what it lists TIED to the program's text (the seventh form; the later family's looks); each row that meets fmt, with fmt's text TOLD by the authors' own Lean function (tested against real Go, not proved from fmt's source: count such statements apart). THE CARD IS WHAT COUNTS. Prove the row's statement (the work); the ties are given (YtmjniccfjffclaaGreatDoorTie.lean); close each card by the builder's one call (the guide's Derived/Test/ToyasCard.lean, 'card_holds'). Laid BY PROGRAM, IN A SANDBOX (cutbox-door.mjs). By AI agents, Wed Nov 11 2026. No macro, syntax, notation, axiom, sorry.
-/
import Derived.Test.YtmjniccfjffclaaGreatDoorRows
import GoSem.ClaimSeven
namespace Go.Proofs.YtmjniccfjffclaaGreatDoor
namespace Rows

/-- THE TIED CARD OF 'laws.FnBatch'. -/
def fnBatchCard : Claim7 := { stood := { row := fnBatchRow, standIns := [], harness := (true, "52b440e992f6014cde3074bf6350ec1f9e1de8371abee0d27a4aaa0bcfb9c7b7"), looks := true }, kinds := [], alts := [], laidByText := true, laidKinds := [.data, .data, .data, .data, .sentinel, .sentinel, .sentinel, .sentinel], laidTests := true, laidLooks := .later }
def FnBatchCardSaid : Prop := Claim7.holds Tryz.pinned (.plain (OpenSpec.ofChange fnBatchSpec)) fnBatchCard

/-- THE TIED CARD OF 'laws.FnBlind'. -/
def fnBlindCard : Claim7 := { stood := { row := fnBlindRow, standIns := [], harness := (true, "52b440e992f6014cde3074bf6350ec1f9e1de8371abee0d27a4aaa0bcfb9c7b7"), looks := true }, kinds := [], alts := [], laidByText := true, laidKinds := [.data, .data, .data, .data, .sentinel, .sentinel, .sentinel, .sentinel], laidTests := true, laidLooks := .later }
def FnBlindCardSaid : Prop := Claim7.holds Tryz.pinned (.plain (OpenSpec.ofChange fnBlindSpec)) fnBlindCard

/-- THE TIED CARD OF 'laws.FnVerified'. -/
def fnVerifiedCard : Claim7 := { stood := { row := fnVerifiedRow, standIns := [], harness := (true, "52b440e992f6014cde3074bf6350ec1f9e1de8371abee0d27a4aaa0bcfb9c7b7"), looks := true }, kinds := [], alts := [], laidByText := true, laidKinds := [.data, .data, .data, .data, .sentinel, .sentinel, .sentinel, .sentinel], laidTests := true, laidLooks := .later }
def FnVerifiedCardSaid : Prop := Claim7.holds Tryz.pinned (.plain (OpenSpec.ofChange fnVerifiedSpec)) fnVerifiedCard

/-- THE SECOND FORM's CARD OF 'laws.FnBatch'. -/
def fnBatchUptoCard : Claim7 := { stood := { row := fnBatchUptoRow, standIns := [], harness := (true, "52b440e992f6014cde3074bf6350ec1f9e1de8371abee0d27a4aaa0bcfb9c7b7"), looks := true }, kinds := [], alts := [], laidByText := true, laidKinds := [.data, .data, .data, .data, .sentinel, .sentinel, .sentinel, .sentinel], laidTests := true, laidLooks := .later }
def FnBatchUptoCardSaid : Prop := Claim7.holds Tryz.pinned (.plain (OpenSpec.upto fnBatchSpec)) fnBatchUptoCard

/-- THE SECOND FORM's CARD OF 'laws.FnBlind'. -/
def fnBlindUptoCard : Claim7 := { stood := { row := fnBlindUptoRow, standIns := [], harness := (true, "52b440e992f6014cde3074bf6350ec1f9e1de8371abee0d27a4aaa0bcfb9c7b7"), looks := true }, kinds := [], alts := [], laidByText := true, laidKinds := [.data, .data, .data, .data, .sentinel, .sentinel, .sentinel, .sentinel], laidTests := true, laidLooks := .later }
def FnBlindUptoCardSaid : Prop := Claim7.holds Tryz.pinned (.plain (OpenSpec.upto fnBlindSpec)) fnBlindUptoCard

/-- THE SECOND FORM's CARD OF 'laws.FnVerified'. -/
def fnVerifiedUptoCard : Claim7 := { stood := { row := fnVerifiedUptoRow, standIns := [], harness := (true, "52b440e992f6014cde3074bf6350ec1f9e1de8371abee0d27a4aaa0bcfb9c7b7"), looks := true }, kinds := [], alts := [], laidByText := true, laidKinds := [.data, .data, .data, .data, .sentinel, .sentinel, .sentinel, .sentinel], laidTests := true, laidLooks := .later }
def FnVerifiedUptoCardSaid : Prop := Claim7.holds Tryz.pinned (.plain (OpenSpec.upto fnVerifiedSpec)) fnVerifiedUptoCard
end Rows
end Go.Proofs.YtmjniccfjffclaaGreatDoor
