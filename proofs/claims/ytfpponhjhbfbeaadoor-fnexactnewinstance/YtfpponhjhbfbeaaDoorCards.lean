/-
  DERIVED. GIVEN WITH THE SEED: THE CARDS: each row of YtfpponhjhbfbeaaDoorRows.lean that lists a variable, with what it lists TIED to the program's text (the seventh form; the later family's looks); each row that meets fmt, with fmt's text TOLD by the authors' own Lean function (tested against real Go, not proved from fmt's source: count such statements apart). THE CARD IS WHAT COUNTS. Prove the row's statement (the work); the ties are given (YtfpponhjhbfbeaaDoorTie.lean); close each card by the builder's one call (the guide's Derived/Test/ToyasCard.lean, 'card_holds'). Laid BY PROGRAM, IN A SANDBOX (cutbox-door.mjs). By AI agents, Wed Nov 11 2026. No macro, syntax, notation, axiom, sorry.
-/
import Derived.Test.YtfpponhjhbfbeaaDoorRows
import GoSem.ClaimSeven
namespace Go.Proofs.YtfpponhjhbfbeaaDoor
namespace Rows

/-- THE TIED CARD OF 'laws.FnExactNewInstance'. -/
def fnExactNewInstanceCard : Claim7 := { stood := { row := fnExactNewInstanceRow, standIns := [], harness := (true, "1961b3c3c4af3876dafa09c79039acbe3def20c6fab7fa1717bb353bb59c65d3"), looks := false }, kinds := [], alts := [], laidByText := true, laidKinds := [.data], laidTests := true, laidLooks := .later }
def FnExactNewInstanceCardSaid : Prop := Claim7.holds Tryd.pinned (.plain (OpenSpec.ofChange fnExactNewInstanceSpec)) fnExactNewInstanceCard

/-- THE SECOND FORM's CARD OF 'laws.FnExactNewInstance'. -/
def fnExactNewInstanceUptoCard : Claim7 := { stood := { row := fnExactNewInstanceUptoRow, standIns := [], harness := (true, "1961b3c3c4af3876dafa09c79039acbe3def20c6fab7fa1717bb353bb59c65d3"), looks := false }, kinds := [], alts := [], laidByText := true, laidKinds := [.data], laidTests := true, laidLooks := .later }
def FnExactNewInstanceUptoCardSaid : Prop := Claim7.holds Tryd.pinned (.plain (OpenSpec.upto fnExactNewInstanceSpec)) fnExactNewInstanceUptoCard
end Rows
end Go.Proofs.YtfpponhjhbfbeaaDoor
