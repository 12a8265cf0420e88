/-
  DERIVED. GIVEN WITH THE SEED: THE CARDS: each row of YtdppipeclnldeaaGreatDoorRows.lean that lists a variable, with what it lists TIED to the program's text (the seventh form; the later family's looks); each row that meets fmt, with fmt's text TOLD by the authors' own Lean function (tested against real Go, not proved from fmt's source: count such statements apart). THE CARD IS WHAT COUNTS. Prove the row's statement (the work); the ties are given (YtdppipeclnldeaaGreatDoorTie.lean); close each card by the builder's one call (the guide's Derived/Test/ToyasCard.lean, 'card_holds'). Laid BY PROGRAM, IN A SANDBOX (cutbox-door.mjs). By AI agents, Wed Nov 11 2026. No macro, syntax, notation, axiom, sorry.
-/
import Derived.Test.YtdppipeclnldeaaGreatDoorRows
import GoSem.ClaimSeven
namespace Go.Proofs.YtdppipeclnldeaaGreatDoor
namespace Rows

/-- THE TIED CARD OF 'laws.FnExactOfferBatch'. -/
def fnExactOfferBatchCard : Claim7 := { stood := { row := fnExactOfferBatchRow, standIns := [], harness := (true, "27cc0fd97cb337c2d74b0b8e3eebe99d3ebb3ce04db59ada3ca3b050c4294ce5"), looks := true }, kinds := [], alts := [], laidByText := true, laidKinds := [.handle, .wider], laidTests := true, laidLooks := .later }
def FnExactOfferBatchCardSaid : Prop := Claim7.holds Tryz.pinned (.plain (OpenSpec.ofChange fnExactOfferBatchSpec)) fnExactOfferBatchCard

/-- THE SECOND FORM's CARD OF 'laws.FnExactOfferBatch'. -/
def fnExactOfferBatchUptoCard : Claim7 := { stood := { row := fnExactOfferBatchUptoRow, standIns := [], harness := (true, "27cc0fd97cb337c2d74b0b8e3eebe99d3ebb3ce04db59ada3ca3b050c4294ce5"), looks := true }, kinds := [], alts := [], laidByText := true, laidKinds := [.handle, .wider], laidTests := true, laidLooks := .later }
def FnExactOfferBatchUptoCardSaid : Prop := Claim7.holds Tryz.pinned (.plain (OpenSpec.upto fnExactOfferBatchSpec)) fnExactOfferBatchUptoCard
end Rows
end Go.Proofs.YtdppipeclnldeaaGreatDoor
