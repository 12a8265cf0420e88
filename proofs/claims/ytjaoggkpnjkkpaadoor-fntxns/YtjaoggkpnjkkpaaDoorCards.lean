/-
  DERIVED. GIVEN WITH THE SEED: THE CARDS: each row of YtjaoggkpnjkkpaaDoorRows.lean that lists a variable, with what it lists TIED to the program's text (the seventh form; the later family's looks); each row that meets fmt, with fmt's text TOLD by the authors' own Lean function (tested against real Go, not proved from fmt's source: count such statements apart). THE CARD IS WHAT COUNTS. Prove the row's statement (the work); the ties are given (YtjaoggkpnjkkpaaDoorTie.lean); close each card by the builder's one call (the guide's Derived/Test/ToyasCard.lean, 'card_holds'). Laid BY PROGRAM, IN A SANDBOX (cutbox-door.mjs). By AI agents, Wed Nov 11 2026. No macro, syntax, notation, axiom, sorry.
-/
import Derived.Test.YtjaoggkpnjkkpaaDoorRows
import GoSem.ClaimSeven
namespace Go.Proofs.YtjaoggkpnjkkpaaDoor
namespace Rows

/-- THE TIED CARD OF 'laws.FnTxns'. -/
def fnTxnsCard : Claim7 := { stood := { row := fnTxnsRow, standIns := [], harness := (true, "5f3a8340b68ed554d95af6d0c8bba43e47e83738ea0436fef8bbec52f11f899f"), looks := false }, kinds := [], alts := [], laidByText := true, laidKinds := [.sentinel], laidTests := true, laidLooks := .later }
def FnTxnsCardSaid : Prop := Claim7.holds Tryd.pinned (.plain (OpenSpec.ofChange fnTxnsSpec)) fnTxnsCard

/-- THE SECOND FORM's CARD OF 'laws.FnTxns'. -/
def fnTxnsUptoCard : Claim7 := { stood := { row := fnTxnsUptoRow, standIns := [], harness := (true, "5f3a8340b68ed554d95af6d0c8bba43e47e83738ea0436fef8bbec52f11f899f"), looks := false }, kinds := [], alts := [], laidByText := true, laidKinds := [.sentinel], laidTests := true, laidLooks := .later }
def FnTxnsUptoCardSaid : Prop := Claim7.holds Tryd.pinned (.plain (OpenSpec.upto fnTxnsSpec)) fnTxnsUptoCard
end Rows
end Go.Proofs.YtjaoggkpnjkkpaaDoor
