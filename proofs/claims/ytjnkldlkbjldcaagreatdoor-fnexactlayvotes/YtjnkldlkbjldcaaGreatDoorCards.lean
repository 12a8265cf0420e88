/-
  DERIVED. GIVEN WITH THE SEED: THE CARDS: each row of YtjnkldlkbjldcaaGreatDoorRows.lean that lists a variable, with what it lists TIED to the program's text (the seventh form; the later family's looks); each row that meets fmt, with fmt's text TOLD by the authors' own Lean function (tested against real Go, not proved from fmt's source: count such statements apart). THE CARD IS WHAT COUNTS. Prove the row's statement (the work); the ties are given (YtjnkldlkbjldcaaGreatDoorTie.lean); close each card by the builder's one call (the guide's Derived/Test/ToyasCard.lean, 'card_holds'). Laid BY PROGRAM, IN A SANDBOX (cutbox-door.mjs). By AI agents, Wed Nov 11 2026. No macro, syntax, notation, axiom, sorry.
-/
import Derived.Test.YtjnkldlkbjldcaaGreatDoorRows
import GoSem.ClaimSeven
namespace Go.Proofs.YtjnkldlkbjldcaaGreatDoor
namespace Rows

/-- THE TIED CARD OF 'laws.FnLaid'. -/
def fnLaidCard : Claim7 := { stood := { row := fnLaidRow, standIns := [], harness := (true, "168522cacc69bac585c57895b09c2024c7bbdee478647d62b211a8e62a76d08e"), looks := true }, kinds := [], alts := [], laidByText := true, laidKinds := [.wider, .data], laidTests := true, laidLooks := .later }
def FnLaidCardSaid : Prop := Claim7.holds Tryz.pinned (.plain (OpenSpec.ofChange fnLaidSpec)) fnLaidCard

/-- THE TIED CARD OF 'laws.FnExactVotesOf'. -/
def fnExactVotesOfCard : Claim7 := { stood := { row := fnExactVotesOfRow, standIns := [], harness := (true, "168522cacc69bac585c57895b09c2024c7bbdee478647d62b211a8e62a76d08e"), looks := true }, kinds := [], alts := [], laidByText := true, laidKinds := [.wider], laidTests := true, laidLooks := .later }
def FnExactVotesOfCardSaid : Prop := Claim7.holds Tryz.pinned (.plain (OpenSpec.ofChange fnExactVotesOfSpec)) fnExactVotesOfCard

/-- THE TIED CARD OF 'laws.FnExactLayVotes'. -/
def fnExactLayVotesCard : Claim7 := { stood := { row := fnExactLayVotesRow, standIns := [], harness := (true, "168522cacc69bac585c57895b09c2024c7bbdee478647d62b211a8e62a76d08e"), looks := true }, kinds := [], alts := [], laidByText := true, laidKinds := [.wider, .data], laidTests := true, laidLooks := .later }
def FnExactLayVotesCardSaid : Prop := Claim7.holds Tryz.pinned (.plain (OpenSpec.ofChange fnExactLayVotesSpec)) fnExactLayVotesCard

/-- THE TIED CARD OF 'laws.FnExactFirstReport'. -/
def fnExactFirstReportCard : Claim7 := { stood := { row := fnExactFirstReportRow, standIns := [], harness := (true, "168522cacc69bac585c57895b09c2024c7bbdee478647d62b211a8e62a76d08e"), looks := true }, kinds := [], alts := [], laidByText := true, laidKinds := [.wider, .data], laidTests := true, laidLooks := .later }
def FnExactFirstReportCardSaid : Prop := Claim7.holds Tryz.pinned (.plain (OpenSpec.ofChange fnExactFirstReportSpec)) fnExactFirstReportCard

/-- THE TIED CARD OF 'laws.FnExactGoOn'. -/
def fnExactGoOnCard : Claim7 := { stood := { row := fnExactGoOnRow, standIns := [], harness := (true, "168522cacc69bac585c57895b09c2024c7bbdee478647d62b211a8e62a76d08e"), looks := true }, kinds := [], alts := [], laidByText := true, laidKinds := [.wider, .data], laidTests := true, laidLooks := .later }
def FnExactGoOnCardSaid : Prop := Claim7.holds Tryz.pinned (.plain (OpenSpec.ofChange fnExactGoOnSpec)) fnExactGoOnCard

/-- THE TIED CARD OF 'laws.FnStays'. -/
def fnStaysCard : Claim7 := { stood := { row := fnStaysRow, standIns := [], harness := (true, "168522cacc69bac585c57895b09c2024c7bbdee478647d62b211a8e62a76d08e"), looks := true }, kinds := [], alts := [], laidByText := true, laidKinds := [.wider, .data], laidTests := true, laidLooks := .later }
def FnStaysCardSaid : Prop := Claim7.holds Tryz.pinned (.plain (OpenSpec.ofChange fnStaysSpec)) fnStaysCard

/-- THE TIED CARD OF 'laws.FnInstances'. -/
def fnInstancesCard : Claim7 := { stood := { row := fnInstancesRow, standIns := [], harness := (true, "168522cacc69bac585c57895b09c2024c7bbdee478647d62b211a8e62a76d08e"), looks := true }, kinds := [], alts := [], laidByText := true, laidKinds := [.wider, .data], laidTests := true, laidLooks := .later }
def FnInstancesCardSaid : Prop := Claim7.holds Tryz.pinned (.plain (OpenSpec.ofChange fnInstancesSpec)) fnInstancesCard

/-- THE TIED CARD OF 'laws.FnExactNextInstance'. -/
def fnExactNextInstanceCard : Claim7 := { stood := { row := fnExactNextInstanceRow, standIns := [], harness := (true, "168522cacc69bac585c57895b09c2024c7bbdee478647d62b211a8e62a76d08e"), looks := true }, kinds := [], alts := [], laidByText := true, laidKinds := [.wider, .data], laidTests := true, laidLooks := .later }
def FnExactNextInstanceCardSaid : Prop := Claim7.holds Tryz.pinned (.plain (OpenSpec.ofChange fnExactNextInstanceSpec)) fnExactNextInstanceCard

/-- THE TIED CARD OF 'laws.FnOrders'. -/
def fnOrdersCard : Claim7 := { stood := { row := fnOrdersRow, standIns := [], harness := (true, "168522cacc69bac585c57895b09c2024c7bbdee478647d62b211a8e62a76d08e"), looks := true }, kinds := [], alts := [], laidByText := true, laidKinds := [.wider, .data], laidTests := true, laidLooks := .later }
def FnOrdersCardSaid : Prop := Claim7.holds Tryz.pinned (.plain (OpenSpec.ofChange fnOrdersSpec)) fnOrdersCard

/-- THE SECOND FORM's CARD OF 'laws.FnLaid'. -/
def fnLaidUptoCard : Claim7 := { stood := { row := fnLaidUptoRow, standIns := [], harness := (true, "168522cacc69bac585c57895b09c2024c7bbdee478647d62b211a8e62a76d08e"), looks := true }, kinds := [], alts := [], laidByText := true, laidKinds := [.wider, .data], laidTests := true, laidLooks := .later }
def FnLaidUptoCardSaid : Prop := Claim7.holds Tryz.pinned (.plain (OpenSpec.upto fnLaidSpec)) fnLaidUptoCard

/-- THE SECOND FORM's CARD OF 'laws.FnExactVotesOf'. -/
def fnExactVotesOfUptoCard : Claim7 := { stood := { row := fnExactVotesOfUptoRow, standIns := [], harness := (true, "168522cacc69bac585c57895b09c2024c7bbdee478647d62b211a8e62a76d08e"), looks := true }, kinds := [], alts := [], laidByText := true, laidKinds := [.wider], laidTests := true, laidLooks := .later }
def FnExactVotesOfUptoCardSaid : Prop := Claim7.holds Tryz.pinned (.plain (OpenSpec.upto fnExactVotesOfSpec)) fnExactVotesOfUptoCard

/-- THE SECOND FORM's CARD OF 'laws.FnExactLayVotes'. -/
def fnExactLayVotesUptoCard : Claim7 := { stood := { row := fnExactLayVotesUptoRow, standIns := [], harness := (true, "168522cacc69bac585c57895b09c2024c7bbdee478647d62b211a8e62a76d08e"), looks := true }, kinds := [], alts := [], laidByText := true, laidKinds := [.wider, .data], laidTests := true, laidLooks := .later }
def FnExactLayVotesUptoCardSaid : Prop := Claim7.holds Tryz.pinned (.plain (OpenSpec.upto fnExactLayVotesSpec)) fnExactLayVotesUptoCard

/-- THE SECOND FORM's CARD OF 'laws.FnExactFirstReport'. -/
def fnExactFirstReportUptoCard : Claim7 := { stood := { row := fnExactFirstReportUptoRow, standIns := [], harness := (true, "168522cacc69bac585c57895b09c2024c7bbdee478647d62b211a8e62a76d08e"), looks := true }, kinds := [], alts := [], laidByText := true, laidKinds := [.wider, .data], laidTests := true, laidLooks := .later }
def FnExactFirstReportUptoCardSaid : Prop := Claim7.holds Tryz.pinned (.plain (OpenSpec.upto fnExactFirstReportSpec)) fnExactFirstReportUptoCard

/-- THE SECOND FORM's CARD OF 'laws.FnExactGoOn'. -/
def fnExactGoOnUptoCard : Claim7 := { stood := { row := fnExactGoOnUptoRow, standIns := [], harness := (true, "168522cacc69bac585c57895b09c2024c7bbdee478647d62b211a8e62a76d08e"), looks := true }, kinds := [], alts := [], laidByText := true, laidKinds := [.wider, .data], laidTests := true, laidLooks := .later }
def FnExactGoOnUptoCardSaid : Prop := Claim7.holds Tryz.pinned (.plain (OpenSpec.upto fnExactGoOnSpec)) fnExactGoOnUptoCard

/-- THE SECOND FORM's CARD OF 'laws.FnStays'. -/
def fnStaysUptoCard : Claim7 := { stood := { row := fnStaysUptoRow, standIns := [], harness := (true, "168522cacc69bac585c57895b09c2024c7bbdee478647d62b211a8e62a76d08e"), looks := true }, kinds := [], alts := [], laidByText := true, laidKinds := [.wider, .data], laidTests := true, laidLooks := .later }
def FnStaysUptoCardSaid : Prop := Claim7.holds Tryz.pinned (.plain (OpenSpec.upto fnStaysSpec)) fnStaysUptoCard

/-- THE SECOND FORM's CARD OF 'laws.FnInstances'. -/
def fnInstancesUptoCard : Claim7 := { stood := { row := fnInstancesUptoRow, standIns := [], harness := (true, "168522cacc69bac585c57895b09c2024c7bbdee478647d62b211a8e62a76d08e"), looks := true }, kinds := [], alts := [], laidByText := true, laidKinds := [.wider, .data], laidTests := true, laidLooks := .later }
def FnInstancesUptoCardSaid : Prop := Claim7.holds Tryz.pinned (.plain (OpenSpec.upto fnInstancesSpec)) fnInstancesUptoCard

/-- THE SECOND FORM's CARD OF 'laws.FnExactNextInstance'. -/
def fnExactNextInstanceUptoCard : Claim7 := { stood := { row := fnExactNextInstanceUptoRow, standIns := [], harness := (true, "168522cacc69bac585c57895b09c2024c7bbdee478647d62b211a8e62a76d08e"), looks := true }, kinds := [], alts := [], laidByText := true, laidKinds := [.wider, .data], laidTests := true, laidLooks := .later }
def FnExactNextInstanceUptoCardSaid : Prop := Claim7.holds Tryz.pinned (.plain (OpenSpec.upto fnExactNextInstanceSpec)) fnExactNextInstanceUptoCard

/-- THE SECOND FORM's CARD OF 'laws.FnOrders'. -/
def fnOrdersUptoCard : Claim7 := { stood := { row := fnOrdersUptoRow, standIns := [], harness := (true, "168522cacc69bac585c57895b09c2024c7bbdee478647d62b211a8e62a76d08e"), looks := true }, kinds := [], alts := [], laidByText := true, laidKinds := [.wider, .data], laidTests := true, laidLooks := .later }
def FnOrdersUptoCardSaid : Prop := Claim7.holds Tryz.pinned (.plain (OpenSpec.upto fnOrdersSpec)) fnOrdersUptoCard
end Rows
end Go.Proofs.YtjnkldlkbjldcaaGreatDoor
