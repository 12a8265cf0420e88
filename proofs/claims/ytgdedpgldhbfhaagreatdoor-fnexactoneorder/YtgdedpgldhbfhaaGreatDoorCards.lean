/-
  DERIVED. GIVEN WITH THE SEED: THE CARDS: each row of YtgdedpgldhbfhaaGreatDoorRows.lean that lists a variable, with what it lists TIED to the program's text (the seventh form; the later family's looks); each row that meets fmt, with fmt's text TOLD by the authors' own Lean function (tested against real Go, not proved from fmt's source: count such statements apart). THE CARD IS WHAT COUNTS. Prove the row's statement (the work); the ties are given (YtgdedpgldhbfhaaGreatDoorTie.lean); close each card by the builder's one call (the guide's Derived/Test/ToyasCard.lean, 'card_holds'). Laid BY PROGRAM, IN A SANDBOX (cutbox-door.mjs). By AI agents, Wed Nov 11 2026. No macro, syntax, notation, axiom, sorry.
-/
import Derived.Test.YtgdedpgldhbfhaaGreatDoorRows
import GoSem.ClaimSeven
namespace Go.Proofs.YtgdedpgldhbfhaaGreatDoor
namespace Rows

/-- THE TIED CARD OF 'laws.FnExactAuditCluster'. -/
def fnExactAuditClusterCard : Claim7 := { stood := { row := fnExactAuditClusterRow, standIns := [], harness := (true, "8967dd95b351c8f014a815d8f15c483af442de5c850aa29394f4622e643433ba"), looks := true }, kinds := [], alts := [], laidByText := true, laidKinds := [.handle, .wider], laidTests := true, laidLooks := .later }
def FnExactAuditClusterCardSaid : Prop := Claim7.holds Tryz.pinned (.plain (OpenSpec.ofChange fnExactAuditClusterSpec)) fnExactAuditClusterCard

/-- THE TIED CARD OF 'laws.FnExactOneOrder'. -/
def fnExactOneOrderCard : Claim7 := { stood := { row := fnExactOneOrderRow, standIns := [], harness := (true, "8967dd95b351c8f014a815d8f15c483af442de5c850aa29394f4622e643433ba"), looks := true }, kinds := [], alts := [], laidByText := true, laidKinds := [.handle, .wider], laidTests := true, laidLooks := .later }
def FnExactOneOrderCardSaid : Prop := Claim7.holds Tryz.pinned (.plain (OpenSpec.ofChange fnExactOneOrderSpec)) fnExactOneOrderCard

/-- THE TIED CARD OF 'laws.FnExactDoneAt'. -/
def fnExactDoneAtCard : Claim7 := { stood := { row := fnExactDoneAtRow, standIns := [], harness := (true, "8967dd95b351c8f014a815d8f15c483af442de5c850aa29394f4622e643433ba"), looks := true }, kinds := [], alts := [], laidByText := true, laidKinds := [.handle, .wider], laidTests := true, laidLooks := .later }
def FnExactDoneAtCardSaid : Prop := Claim7.holds Tryz.pinned (.plain (OpenSpec.ofChange fnExactDoneAtSpec)) fnExactDoneAtCard

/-- THE TIED CARD OF 'laws.FnExactItemsAt'. -/
def fnExactItemsAtCard : Claim7 := { stood := { row := fnExactItemsAtRow, standIns := [], harness := (true, "8967dd95b351c8f014a815d8f15c483af442de5c850aa29394f4622e643433ba"), looks := true }, kinds := [], alts := [], laidByText := true, laidKinds := [.handle, .wider], laidTests := true, laidLooks := .later }
def FnExactItemsAtCardSaid : Prop := Claim7.holds Tryz.pinned (.plain (OpenSpec.ofChange fnExactItemsAtSpec)) fnExactItemsAtCard

/-- THE SECOND FORM's CARD OF 'laws.FnExactAuditCluster'. -/
def fnExactAuditClusterUptoCard : Claim7 := { stood := { row := fnExactAuditClusterUptoRow, standIns := [], harness := (true, "8967dd95b351c8f014a815d8f15c483af442de5c850aa29394f4622e643433ba"), looks := true }, kinds := [], alts := [], laidByText := true, laidKinds := [.handle, .wider], laidTests := true, laidLooks := .later }
def FnExactAuditClusterUptoCardSaid : Prop := Claim7.holds Tryz.pinned (.plain (OpenSpec.upto fnExactAuditClusterSpec)) fnExactAuditClusterUptoCard

/-- THE SECOND FORM's CARD OF 'laws.FnExactOneOrder'. -/
def fnExactOneOrderUptoCard : Claim7 := { stood := { row := fnExactOneOrderUptoRow, standIns := [], harness := (true, "8967dd95b351c8f014a815d8f15c483af442de5c850aa29394f4622e643433ba"), looks := true }, kinds := [], alts := [], laidByText := true, laidKinds := [.handle, .wider], laidTests := true, laidLooks := .later }
def FnExactOneOrderUptoCardSaid : Prop := Claim7.holds Tryz.pinned (.plain (OpenSpec.upto fnExactOneOrderSpec)) fnExactOneOrderUptoCard

/-- THE SECOND FORM's CARD OF 'laws.FnExactDoneAt'. -/
def fnExactDoneAtUptoCard : Claim7 := { stood := { row := fnExactDoneAtUptoRow, standIns := [], harness := (true, "8967dd95b351c8f014a815d8f15c483af442de5c850aa29394f4622e643433ba"), looks := true }, kinds := [], alts := [], laidByText := true, laidKinds := [.handle, .wider], laidTests := true, laidLooks := .later }
def FnExactDoneAtUptoCardSaid : Prop := Claim7.holds Tryz.pinned (.plain (OpenSpec.upto fnExactDoneAtSpec)) fnExactDoneAtUptoCard

/-- THE SECOND FORM's CARD OF 'laws.FnExactItemsAt'. -/
def fnExactItemsAtUptoCard : Claim7 := { stood := { row := fnExactItemsAtUptoRow, standIns := [], harness := (true, "8967dd95b351c8f014a815d8f15c483af442de5c850aa29394f4622e643433ba"), looks := true }, kinds := [], alts := [], laidByText := true, laidKinds := [.handle, .wider], laidTests := true, laidLooks := .later }
def FnExactItemsAtUptoCardSaid : Prop := Claim7.holds Tryz.pinned (.plain (OpenSpec.upto fnExactItemsAtSpec)) fnExactItemsAtUptoCard
end Rows
end Go.Proofs.YtgdedpgldhbfhaaGreatDoor
