/-
  DERIVED. GIVEN WITH THE SEED: THE CARDS: each row of YtlnocniiehaekaaDoorRows.lean that lists a variable, with what it lists TIED to the program's text (the seventh form; the later family's looks); each row that meets fmt, with fmt's text TOLD by the authors' own Lean function (tested against real Go, not proved from fmt's source: count such statements apart). THE CARD IS WHAT COUNTS. Prove the row's statement (the work); the ties are given (YtlnocniiehaekaaDoorTie.lean); close each card by the builder's one call (the guide's Derived/Test/ToyasCard.lean, 'card_holds'). Laid BY PROGRAM, IN A SANDBOX (cutbox-door.mjs). By AI agents, Wed Nov 11 2026. No macro, syntax, notation, axiom, sorry.
-/
import Derived.Test.YtlnocniiehaekaaDoorRows
import GoSem.ClaimSeven
namespace Go.Proofs.YtlnocniiehaekaaDoor
namespace Rows

/-- THE TIED CARD OF 'laws.FnTxns'. -/
def fnTxnsCard : Claim7 := { stood := { row := fnTxnsRow, standIns := [], harness := (true, "5441218ee7345ea112a753b1ab158e508be50479c017fa6aef931f76e3e1f6ad"), looks := false }, kinds := [], alts := [], laidByText := true, laidKinds := [.sentinel], laidTests := true, laidLooks := .later }
def FnTxnsCardSaid : Prop := Claim7.holds Tryd.pinned (.plain (OpenSpec.ofChange fnTxnsSpec)) fnTxnsCard

/-- THE TIED CARD OF 'laws.FnExactReadTxn'. -/
def fnExactReadTxnCard : Claim7 := { stood := { row := fnExactReadTxnRow, standIns := [], harness := (true, "5441218ee7345ea112a753b1ab158e508be50479c017fa6aef931f76e3e1f6ad"), looks := false }, kinds := [], alts := [], laidByText := true, laidKinds := [.sentinel], laidTests := true, laidLooks := .later }
def FnExactReadTxnCardSaid : Prop := Claim7.holds Tryd.pinned (.plain (OpenSpec.ofChange fnExactReadTxnSpec)) fnExactReadTxnCard

/-- THE SECOND FORM's CARD OF 'laws.FnTxns'. -/
def fnTxnsUptoCard : Claim7 := { stood := { row := fnTxnsUptoRow, standIns := [], harness := (true, "5441218ee7345ea112a753b1ab158e508be50479c017fa6aef931f76e3e1f6ad"), looks := false }, kinds := [], alts := [], laidByText := true, laidKinds := [.sentinel], laidTests := true, laidLooks := .later }
def FnTxnsUptoCardSaid : Prop := Claim7.holds Tryd.pinned (.plain (OpenSpec.upto fnTxnsSpec)) fnTxnsUptoCard

/-- THE SECOND FORM's CARD OF 'laws.FnExactReadTxn'. -/
def fnExactReadTxnUptoCard : Claim7 := { stood := { row := fnExactReadTxnUptoRow, standIns := [], harness := (true, "5441218ee7345ea112a753b1ab158e508be50479c017fa6aef931f76e3e1f6ad"), looks := false }, kinds := [], alts := [], laidByText := true, laidKinds := [.sentinel], laidTests := true, laidLooks := .later }
def FnExactReadTxnUptoCardSaid : Prop := Claim7.holds Tryd.pinned (.plain (OpenSpec.upto fnExactReadTxnSpec)) fnExactReadTxnUptoCard
end Rows
end Go.Proofs.YtlnocniiehaekaaDoor
