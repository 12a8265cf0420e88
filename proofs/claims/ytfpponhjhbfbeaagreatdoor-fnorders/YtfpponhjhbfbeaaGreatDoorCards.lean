/-
  DERIVED. GIVEN WITH THE SEED: THE CARDS: each row of YtfpponhjhbfbeaaGreatDoorRows.lean that lists a variable, with what it lists TIED to the program's text (the seventh form; the later family's looks); each row that meets fmt, with fmt's text TOLD by the authors' own Lean function (tested against real Go, not proved from fmt's source: count such statements apart). THE CARD IS WHAT COUNTS. Prove the row's statement (the work); the ties are given (YtfpponhjhbfbeaaGreatDoorTie.lean); close each card by the builder's one call (the guide's Derived/Test/ToyasCard.lean, 'card_holds'). Laid BY PROGRAM, IN A SANDBOX (cutbox-door.mjs). By AI agents, Wed Nov 11 2026. No macro, syntax, notation, axiom, sorry.
-/
import Derived.Test.YtfpponhjhbfbeaaGreatDoorRows
import GoSem.ClaimSeven
namespace Go.Proofs.YtfpponhjhbfbeaaGreatDoor
namespace Rows

/-- THE TIED CARD OF 'laws.FnOrders'. -/
def fnOrdersCard : Claim7 := { stood := { row := fnOrdersRow, standIns := [], harness := (true, "44627cfd9a2a9a45ad651599ae87172eb6c14d49503d9b9896cfd030889065f1"), looks := true }, kinds := [], alts := [], laidByText := true, laidKinds := [.wider, .data], laidTests := true, laidLooks := .later }
def FnOrdersCardSaid : Prop := Claim7.holds Tryz.pinned (.plain (OpenSpec.ofChange fnOrdersSpec)) fnOrdersCard

/-- THE TIED CARD OF 'laws.FnLaid'. -/
def fnLaidCard : Claim7 := { stood := { row := fnLaidRow, standIns := [], harness := (true, "44627cfd9a2a9a45ad651599ae87172eb6c14d49503d9b9896cfd030889065f1"), looks := true }, kinds := [], alts := [], laidByText := true, laidKinds := [.wider, .data], laidTests := true, laidLooks := .later }
def FnLaidCardSaid : Prop := Claim7.holds Tryz.pinned (.plain (OpenSpec.ofChange fnLaidSpec)) fnLaidCard

/-- THE SECOND FORM's CARD OF 'laws.FnOrders'. -/
def fnOrdersUptoCard : Claim7 := { stood := { row := fnOrdersUptoRow, standIns := [], harness := (true, "44627cfd9a2a9a45ad651599ae87172eb6c14d49503d9b9896cfd030889065f1"), looks := true }, kinds := [], alts := [], laidByText := true, laidKinds := [.wider, .data], laidTests := true, laidLooks := .later }
def FnOrdersUptoCardSaid : Prop := Claim7.holds Tryz.pinned (.plain (OpenSpec.upto fnOrdersSpec)) fnOrdersUptoCard

/-- THE SECOND FORM's CARD OF 'laws.FnLaid'. -/
def fnLaidUptoCard : Claim7 := { stood := { row := fnLaidUptoRow, standIns := [], harness := (true, "44627cfd9a2a9a45ad651599ae87172eb6c14d49503d9b9896cfd030889065f1"), looks := true }, kinds := [], alts := [], laidByText := true, laidKinds := [.wider, .data], laidTests := true, laidLooks := .later }
def FnLaidUptoCardSaid : Prop := Claim7.holds Tryz.pinned (.plain (OpenSpec.upto fnLaidSpec)) fnLaidUptoCard
end Rows
end Go.Proofs.YtfpponhjhbfbeaaGreatDoor
