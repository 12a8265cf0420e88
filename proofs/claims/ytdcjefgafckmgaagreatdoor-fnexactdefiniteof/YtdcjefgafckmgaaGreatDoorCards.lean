/-
  DERIVED. GIVEN WITH THE SEED: THE CARDS: each row of YtdcjefgafckmgaaGreatDoorRows.lean that lists a variable, with what it lists TIED to the program's text (the seventh form; the later family's looks); each row that meets fmt, with fmt's text TOLD by the authors' own Lean function (tested against real Go, not proved from fmt's source: count such statements apart). THE CARD IS WHAT COUNTS. Prove the row's statement (the work); the ties are given (YtdcjefgafckmgaaGreatDoorTie.lean); close each card by the builder's one call (the guide's Derived/Test/ToyasCard.lean, 'card_holds'). Laid BY PROGRAM, IN A SANDBOX (cutbox-door.mjs). By AI agents, Wed Nov 11 2026. No macro, syntax, notation, axiom, sorry.
-/
import Derived.Test.YtdcjefgafckmgaaGreatDoorRows
import GoSem.ClaimSeven
namespace Go.Proofs.YtdcjefgafckmgaaGreatDoor
namespace Rows

/-- THE TIED CARD OF 'laws.FnOrders'. -/
def fnOrdersCard : Claim7 := { stood := { row := fnOrdersRow, standIns := [], harness := (true, "7d2a901ba702d2f82edafe70cdfe425bf32c383bd6b773c074b02013e8c2bef3"), looks := false }, kinds := [], alts := [], laidByText := true, laidKinds := [.wider, .data], laidTests := true, laidLooks := .later }
def FnOrdersCardSaid : Prop := Claim7.holds Tryz.pinned (.plain (OpenSpec.ofChange fnOrdersSpec)) fnOrdersCard

/-- THE TIED CARD OF 'laws.FnChanges'. -/
def fnChangesCard : Claim7 := { stood := { row := fnChangesRow, standIns := [], harness := (true, "7d2a901ba702d2f82edafe70cdfe425bf32c383bd6b773c074b02013e8c2bef3"), looks := false }, kinds := [], alts := [], laidByText := true, laidKinds := [.wider], laidTests := true, laidLooks := .later }
def FnChangesCardSaid : Prop := Claim7.holds Tryz.pinned (.plain (OpenSpec.ofChange fnChangesSpec)) fnChangesCard

/-- THE TIED CARD OF 'laws.FnExactDefiniteOf'. -/
def fnExactDefiniteOfCard : Claim7 := { stood := { row := fnExactDefiniteOfRow, standIns := [], harness := (true, "7d2a901ba702d2f82edafe70cdfe425bf32c383bd6b773c074b02013e8c2bef3"), looks := false }, kinds := [], alts := [], laidByText := true, laidKinds := [.wider], laidTests := true, laidLooks := .later }
def FnExactDefiniteOfCardSaid : Prop := Claim7.holds Tryz.pinned (.plain (OpenSpec.ofChange fnExactDefiniteOfSpec)) fnExactDefiniteOfCard

/-- THE SECOND FORM's CARD OF 'laws.FnOrders'. -/
def fnOrdersUptoCard : Claim7 := { stood := { row := fnOrdersUptoRow, standIns := [], harness := (true, "7d2a901ba702d2f82edafe70cdfe425bf32c383bd6b773c074b02013e8c2bef3"), looks := false }, kinds := [], alts := [], laidByText := true, laidKinds := [.wider, .data], laidTests := true, laidLooks := .later }
def FnOrdersUptoCardSaid : Prop := Claim7.holds Tryz.pinned (.plain (OpenSpec.upto fnOrdersSpec)) fnOrdersUptoCard

/-- THE SECOND FORM's CARD OF 'laws.FnChanges'. -/
def fnChangesUptoCard : Claim7 := { stood := { row := fnChangesUptoRow, standIns := [], harness := (true, "7d2a901ba702d2f82edafe70cdfe425bf32c383bd6b773c074b02013e8c2bef3"), looks := false }, kinds := [], alts := [], laidByText := true, laidKinds := [.wider], laidTests := true, laidLooks := .later }
def FnChangesUptoCardSaid : Prop := Claim7.holds Tryz.pinned (.plain (OpenSpec.upto fnChangesSpec)) fnChangesUptoCard

/-- THE SECOND FORM's CARD OF 'laws.FnExactDefiniteOf'. -/
def fnExactDefiniteOfUptoCard : Claim7 := { stood := { row := fnExactDefiniteOfUptoRow, standIns := [], harness := (true, "7d2a901ba702d2f82edafe70cdfe425bf32c383bd6b773c074b02013e8c2bef3"), looks := false }, kinds := [], alts := [], laidByText := true, laidKinds := [.wider], laidTests := true, laidLooks := .later }
def FnExactDefiniteOfUptoCardSaid : Prop := Claim7.holds Tryz.pinned (.plain (OpenSpec.upto fnExactDefiniteOfSpec)) fnExactDefiniteOfUptoCard
end Rows
end Go.Proofs.YtdcjefgafckmgaaGreatDoor
