/-
  DERIVED. GIVEN WITH THE SEED: THE CARDS: each row of YtolegggbippneaaGreatDoorRows.lean that lists a variable, with what it lists TIED to the program's text (the seventh form; the later family's looks); each row that meets fmt, with fmt's text TOLD by the authors' own Lean function (tested against real Go, not proved from fmt's source: count such statements apart). THE CARD IS WHAT COUNTS. Prove the row's statement (the work); the ties are given (YtolegggbippneaaGreatDoorTie.lean); close each card by the builder's one call (the guide's Derived/Test/ToyasCard.lean, 'card_holds'). Laid BY PROGRAM, IN A SANDBOX (cutbox-door.mjs). By AI agents, Wed Nov 11 2026. No macro, syntax, notation, axiom, sorry.
-/
import Derived.Test.YtolegggbippneaaGreatDoorRows
import GoSem.ClaimSeven
namespace Go.Proofs.YtolegggbippneaaGreatDoor
namespace Rows

/-- THE TIED CARD OF 'laws.FnInstances'. -/
def fnInstancesCard : Claim7 := { stood := { row := fnInstancesRow, standIns := [], harness := (true, "af7283c44b87cd31e28177626de3498c46904145def0ee78472772aed9fc2780"), looks := false }, kinds := [], alts := [], laidByText := true, laidKinds := [.wider, .data], laidTests := true, laidLooks := .later }
def FnInstancesCardSaid : Prop := Claim7.holds Tryz.pinned (.plain (OpenSpec.ofChange fnInstancesSpec)) fnInstancesCard

/-- THE TIED CARD OF 'laws.FnStays'. -/
def fnStaysCard : Claim7 := { stood := { row := fnStaysRow, standIns := [], harness := (true, "af7283c44b87cd31e28177626de3498c46904145def0ee78472772aed9fc2780"), looks := false }, kinds := [], alts := [], laidByText := true, laidKinds := [.wider, .data], laidTests := true, laidLooks := .later }
def FnStaysCardSaid : Prop := Claim7.holds Tryz.pinned (.plain (OpenSpec.ofChange fnStaysSpec)) fnStaysCard

/-- THE TIED CARD OF 'laws.FnExactInstanceFault'. -/
def fnExactInstanceFaultCard : Claim7 := { stood := { row := fnExactInstanceFaultRow, standIns := [], harness := (true, "af7283c44b87cd31e28177626de3498c46904145def0ee78472772aed9fc2780"), looks := false }, kinds := [], alts := [], laidByText := true, laidKinds := [.wider], laidTests := true, laidLooks := .later }
def FnExactInstanceFaultCardSaid : Prop := Claim7.holds Tryz.pinned (.plain (OpenSpec.ofChange fnExactInstanceFaultSpec)) fnExactInstanceFaultCard

/-- THE TIED CARD OF 'laws.FnExactSetBatch'. -/
def fnExactSetBatchCard : Claim7 := { stood := { row := fnExactSetBatchRow, standIns := [], harness := (true, "af7283c44b87cd31e28177626de3498c46904145def0ee78472772aed9fc2780"), looks := false }, kinds := [], alts := [], laidByText := true, laidKinds := [.wider], laidTests := true, laidLooks := .later }
def FnExactSetBatchCardSaid : Prop := Claim7.holds Tryz.pinned (.plain (OpenSpec.ofChange fnExactSetBatchSpec)) fnExactSetBatchCard

/-- THE TIED CARD OF 'laws.FnExactFirstReport'. -/
def fnExactFirstReportCard : Claim7 := { stood := { row := fnExactFirstReportRow, standIns := [], harness := (true, "af7283c44b87cd31e28177626de3498c46904145def0ee78472772aed9fc2780"), looks := false }, kinds := [], alts := [], laidByText := true, laidKinds := [.wider, .data], laidTests := true, laidLooks := .later }
def FnExactFirstReportCardSaid : Prop := Claim7.holds Tryz.pinned (.plain (OpenSpec.ofChange fnExactFirstReportSpec)) fnExactFirstReportCard

/-- THE TIED CARD OF 'laws.FnExactPropose'. -/
def fnExactProposeCard : Claim7 := { stood := { row := fnExactProposeRow, standIns := [], harness := (true, "af7283c44b87cd31e28177626de3498c46904145def0ee78472772aed9fc2780"), looks := false }, kinds := [], alts := [], laidByText := true, laidKinds := [.wider], laidTests := true, laidLooks := .later }
def FnExactProposeCardSaid : Prop := Claim7.holds Tryz.pinned (.plain (OpenSpec.ofChange fnExactProposeSpec)) fnExactProposeCard

/-- THE TIED CARD OF 'laws.FnExactGoOn'. -/
def fnExactGoOnCard : Claim7 := { stood := { row := fnExactGoOnRow, standIns := [], harness := (true, "af7283c44b87cd31e28177626de3498c46904145def0ee78472772aed9fc2780"), looks := false }, kinds := [], alts := [], laidByText := true, laidKinds := [.wider, .data], laidTests := true, laidLooks := .later }
def FnExactGoOnCardSaid : Prop := Claim7.holds Tryz.pinned (.plain (OpenSpec.ofChange fnExactGoOnSpec)) fnExactGoOnCard

/-- THE TIED CARD OF 'laws.FnExactOutcomeOf'. -/
def fnExactOutcomeOfCard : Claim7 := { stood := { row := fnExactOutcomeOfRow, standIns := [], harness := (true, "af7283c44b87cd31e28177626de3498c46904145def0ee78472772aed9fc2780"), looks := false }, kinds := [], alts := [], laidByText := true, laidKinds := [.wider], laidTests := true, laidLooks := .later }
def FnExactOutcomeOfCardSaid : Prop := Claim7.holds Tryz.pinned (.plain (OpenSpec.ofChange fnExactOutcomeOfSpec)) fnExactOutcomeOfCard

/-- THE SECOND FORM's CARD OF 'laws.FnInstances'. -/
def fnInstancesUptoCard : Claim7 := { stood := { row := fnInstancesUptoRow, standIns := [], harness := (true, "af7283c44b87cd31e28177626de3498c46904145def0ee78472772aed9fc2780"), looks := false }, kinds := [], alts := [], laidByText := true, laidKinds := [.wider, .data], laidTests := true, laidLooks := .later }
def FnInstancesUptoCardSaid : Prop := Claim7.holds Tryz.pinned (.plain (OpenSpec.upto fnInstancesSpec)) fnInstancesUptoCard

/-- THE SECOND FORM's CARD OF 'laws.FnStays'. -/
def fnStaysUptoCard : Claim7 := { stood := { row := fnStaysUptoRow, standIns := [], harness := (true, "af7283c44b87cd31e28177626de3498c46904145def0ee78472772aed9fc2780"), looks := false }, kinds := [], alts := [], laidByText := true, laidKinds := [.wider, .data], laidTests := true, laidLooks := .later }
def FnStaysUptoCardSaid : Prop := Claim7.holds Tryz.pinned (.plain (OpenSpec.upto fnStaysSpec)) fnStaysUptoCard

/-- THE SECOND FORM's CARD OF 'laws.FnExactInstanceFault'. -/
def fnExactInstanceFaultUptoCard : Claim7 := { stood := { row := fnExactInstanceFaultUptoRow, standIns := [], harness := (true, "af7283c44b87cd31e28177626de3498c46904145def0ee78472772aed9fc2780"), looks := false }, kinds := [], alts := [], laidByText := true, laidKinds := [.wider], laidTests := true, laidLooks := .later }
def FnExactInstanceFaultUptoCardSaid : Prop := Claim7.holds Tryz.pinned (.plain (OpenSpec.upto fnExactInstanceFaultSpec)) fnExactInstanceFaultUptoCard

/-- THE SECOND FORM's CARD OF 'laws.FnExactSetBatch'. -/
def fnExactSetBatchUptoCard : Claim7 := { stood := { row := fnExactSetBatchUptoRow, standIns := [], harness := (true, "af7283c44b87cd31e28177626de3498c46904145def0ee78472772aed9fc2780"), looks := false }, kinds := [], alts := [], laidByText := true, laidKinds := [.wider], laidTests := true, laidLooks := .later }
def FnExactSetBatchUptoCardSaid : Prop := Claim7.holds Tryz.pinned (.plain (OpenSpec.upto fnExactSetBatchSpec)) fnExactSetBatchUptoCard

/-- THE SECOND FORM's CARD OF 'laws.FnExactFirstReport'. -/
def fnExactFirstReportUptoCard : Claim7 := { stood := { row := fnExactFirstReportUptoRow, standIns := [], harness := (true, "af7283c44b87cd31e28177626de3498c46904145def0ee78472772aed9fc2780"), looks := false }, kinds := [], alts := [], laidByText := true, laidKinds := [.wider, .data], laidTests := true, laidLooks := .later }
def FnExactFirstReportUptoCardSaid : Prop := Claim7.holds Tryz.pinned (.plain (OpenSpec.upto fnExactFirstReportSpec)) fnExactFirstReportUptoCard

/-- THE SECOND FORM's CARD OF 'laws.FnExactPropose'. -/
def fnExactProposeUptoCard : Claim7 := { stood := { row := fnExactProposeUptoRow, standIns := [], harness := (true, "af7283c44b87cd31e28177626de3498c46904145def0ee78472772aed9fc2780"), looks := false }, kinds := [], alts := [], laidByText := true, laidKinds := [.wider], laidTests := true, laidLooks := .later }
def FnExactProposeUptoCardSaid : Prop := Claim7.holds Tryz.pinned (.plain (OpenSpec.upto fnExactProposeSpec)) fnExactProposeUptoCard

/-- THE SECOND FORM's CARD OF 'laws.FnExactGoOn'. -/
def fnExactGoOnUptoCard : Claim7 := { stood := { row := fnExactGoOnUptoRow, standIns := [], harness := (true, "af7283c44b87cd31e28177626de3498c46904145def0ee78472772aed9fc2780"), looks := false }, kinds := [], alts := [], laidByText := true, laidKinds := [.wider, .data], laidTests := true, laidLooks := .later }
def FnExactGoOnUptoCardSaid : Prop := Claim7.holds Tryz.pinned (.plain (OpenSpec.upto fnExactGoOnSpec)) fnExactGoOnUptoCard

/-- THE SECOND FORM's CARD OF 'laws.FnExactOutcomeOf'. -/
def fnExactOutcomeOfUptoCard : Claim7 := { stood := { row := fnExactOutcomeOfUptoRow, standIns := [], harness := (true, "af7283c44b87cd31e28177626de3498c46904145def0ee78472772aed9fc2780"), looks := false }, kinds := [], alts := [], laidByText := true, laidKinds := [.wider], laidTests := true, laidLooks := .later }
def FnExactOutcomeOfUptoCardSaid : Prop := Claim7.holds Tryz.pinned (.plain (OpenSpec.upto fnExactOutcomeOfSpec)) fnExactOutcomeOfUptoCard
end Rows
end Go.Proofs.YtolegggbippneaaGreatDoor
