/-
  DERIVED. GIVEN WITH THE SEED: THE CARDS: each row of YtkklhbofeghnbaaDoorRows.lean that lists a variable, with what it lists TIED to the program's text (the seventh form; the later family's looks); each row that meets fmt, with fmt's text TOLD by the authors' own Lean function (tested against real Go, not proved from fmt's source: count such statements apart). THE CARD IS WHAT COUNTS. Prove the row's statement (the work); the ties are given (YtkklhbofeghnbaaDoorTie.lean); close each card by the builder's one call (the guide's Derived/Test/ToyasCard.lean, 'card_holds'). Laid BY PROGRAM, IN A SANDBOX (cutbox-door.mjs). By AI agents, Wed Nov 11 2026. No macro, syntax, notation, axiom, sorry.
-/
import Derived.Test.YtkklhbofeghnbaaDoorRows
import GoSem.ClaimSeven
namespace Go.Proofs.YtkklhbofeghnbaaDoor
namespace Rows

/-- THE TIED CARD OF 'laws.FnExactNewCluster'. -/
def fnExactNewClusterCard : Claim7 := { stood := { row := fnExactNewClusterRow, standIns := [], harness := (true, "07761fea04a64b87530149cfd686eb2abcee103a71d3e3932bb88ec1c28c07e8"), looks := false }, kinds := [], alts := [], laidByText := true, laidKinds := [.data], laidTests := true, laidLooks := .later }
def FnExactNewClusterCardSaid : Prop := Claim7.holds Tryd.pinned (.plain (OpenSpec.ofChange fnExactNewClusterSpec)) fnExactNewClusterCard

/-- THE SECOND FORM's CARD OF 'laws.FnExactNewCluster'. -/
def fnExactNewClusterUptoCard : Claim7 := { stood := { row := fnExactNewClusterUptoRow, standIns := [], harness := (true, "07761fea04a64b87530149cfd686eb2abcee103a71d3e3932bb88ec1c28c07e8"), looks := false }, kinds := [], alts := [], laidByText := true, laidKinds := [.data], laidTests := true, laidLooks := .later }
def FnExactNewClusterUptoCardSaid : Prop := Claim7.holds Tryd.pinned (.plain (OpenSpec.upto fnExactNewClusterSpec)) fnExactNewClusterUptoCard
end Rows
end Go.Proofs.YtkklhbofeghnbaaDoor
