/-
  DERIVED. GIVEN WITH THE SEED: THE CARDS: each row of YtmgkjcobdmdjmaaGreatDoorRows.lean that lists a variable, with what it lists TIED to the program's text (the seventh form; the later family's looks); each row that meets fmt, with fmt's text TOLD by the authors' own Lean function (tested against real Go, not proved from fmt's source: count such statements apart). THE CARD IS WHAT COUNTS. Prove the row's statement (the work); the ties are given (YtmgkjcobdmdjmaaGreatDoorTie.lean); close each card by the builder's one call (the guide's Derived/Test/ToyasCard.lean, 'card_holds'). Laid BY PROGRAM, IN A SANDBOX (cutbox-door.mjs). By AI agents, Wed Nov 11 2026. No macro, syntax, notation, axiom, sorry.
-/
import Derived.Test.YtmgkjcobdmdjmaaGreatDoorRows
import GoSem.ClaimSeven
namespace Go.Proofs.YtmgkjcobdmdjmaaGreatDoor
namespace Rows

/-- THE TIED CARD OF 'laws.FnInstances'. -/
def fnInstancesCard : Claim7 := { stood := { row := fnInstancesRow, standIns := [], harness := (true, "1d5a39487ec32570119ba1325c762e3d4ec86818346584185f577f4fe7900388"), looks := false }, kinds := [], alts := [], laidByText := true, laidKinds := [.wider, .data], laidTests := true, laidLooks := .later }
def FnInstancesCardSaid : Prop := Claim7.holds Tryz.pinned (.plain (OpenSpec.ofChange fnInstancesSpec)) fnInstancesCard

/-- THE TIED CARD OF 'laws.FnChanges'. -/
def fnChangesCard : Claim7 := { stood := { row := fnChangesRow, standIns := [], harness := (true, "1d5a39487ec32570119ba1325c762e3d4ec86818346584185f577f4fe7900388"), looks := false }, kinds := [], alts := [], laidByText := true, laidKinds := [.wider], laidTests := true, laidLooks := .later }
def FnChangesCardSaid : Prop := Claim7.holds Tryz.pinned (.plain (OpenSpec.ofChange fnChangesSpec)) fnChangesCard

/-- THE TIED CARD OF 'laws.FnExactOrderFault'. -/
def fnExactOrderFaultCard : Claim7 := { stood := { row := fnExactOrderFaultRow, standIns := [], harness := (true, "1d5a39487ec32570119ba1325c762e3d4ec86818346584185f577f4fe7900388"), looks := false }, kinds := [], alts := [], laidByText := true, laidKinds := [.wider], laidTests := true, laidLooks := .later }
def FnExactOrderFaultCardSaid : Prop := Claim7.holds Tryz.pinned (.plain (OpenSpec.ofChange fnExactOrderFaultSpec)) fnExactOrderFaultCard

/-- THE TIED CARD OF 'laws.FnExactDecidedIn'. -/
def fnExactDecidedInCard : Claim7 := { stood := { row := fnExactDecidedInRow, standIns := [], harness := (true, "1d5a39487ec32570119ba1325c762e3d4ec86818346584185f577f4fe7900388"), looks := false }, kinds := [], alts := [], laidByText := true, laidKinds := [.wider], laidTests := true, laidLooks := .later }
def FnExactDecidedInCardSaid : Prop := Claim7.holds Tryz.pinned (.plain (OpenSpec.ofChange fnExactDecidedInSpec)) fnExactDecidedInCard

/-- THE TIED CARD OF 'laws.FnExactDefiniteOf'. -/
def fnExactDefiniteOfCard : Claim7 := { stood := { row := fnExactDefiniteOfRow, standIns := [], harness := (true, "1d5a39487ec32570119ba1325c762e3d4ec86818346584185f577f4fe7900388"), looks := false }, kinds := [], alts := [], laidByText := true, laidKinds := [.wider], laidTests := true, laidLooks := .later }
def FnExactDefiniteOfCardSaid : Prop := Claim7.holds Tryz.pinned (.plain (OpenSpec.ofChange fnExactDefiniteOfSpec)) fnExactDefiniteOfCard

/-- THE TIED CARD OF 'laws.FnExactNextInstance'. -/
def fnExactNextInstanceCard : Claim7 := { stood := { row := fnExactNextInstanceRow, standIns := [], harness := (true, "1d5a39487ec32570119ba1325c762e3d4ec86818346584185f577f4fe7900388"), looks := false }, kinds := [], alts := [], laidByText := true, laidKinds := [.wider, .data], laidTests := true, laidLooks := .later }
def FnExactNextInstanceCardSaid : Prop := Claim7.holds Tryz.pinned (.plain (OpenSpec.ofChange fnExactNextInstanceSpec)) fnExactNextInstanceCard

/-- THE TIED CARD OF 'laws.FnExactChangeLast'. -/
def fnExactChangeLastCard : Claim7 := { stood := { row := fnExactChangeLastRow, standIns := [], harness := (true, "1d5a39487ec32570119ba1325c762e3d4ec86818346584185f577f4fe7900388"), looks := false }, kinds := [], alts := [], laidByText := true, laidKinds := [.wider], laidTests := true, laidLooks := .later }
def FnExactChangeLastCardSaid : Prop := Claim7.holds Tryz.pinned (.plain (OpenSpec.ofChange fnExactChangeLastSpec)) fnExactChangeLastCard

/-- THE SECOND FORM's CARD OF 'laws.FnInstances'. -/
def fnInstancesUptoCard : Claim7 := { stood := { row := fnInstancesUptoRow, standIns := [], harness := (true, "1d5a39487ec32570119ba1325c762e3d4ec86818346584185f577f4fe7900388"), looks := false }, kinds := [], alts := [], laidByText := true, laidKinds := [.wider, .data], laidTests := true, laidLooks := .later }
def FnInstancesUptoCardSaid : Prop := Claim7.holds Tryz.pinned (.plain (OpenSpec.upto fnInstancesSpec)) fnInstancesUptoCard

/-- THE SECOND FORM's CARD OF 'laws.FnChanges'. -/
def fnChangesUptoCard : Claim7 := { stood := { row := fnChangesUptoRow, standIns := [], harness := (true, "1d5a39487ec32570119ba1325c762e3d4ec86818346584185f577f4fe7900388"), looks := false }, kinds := [], alts := [], laidByText := true, laidKinds := [.wider], laidTests := true, laidLooks := .later }
def FnChangesUptoCardSaid : Prop := Claim7.holds Tryz.pinned (.plain (OpenSpec.upto fnChangesSpec)) fnChangesUptoCard

/-- THE SECOND FORM's CARD OF 'laws.FnExactOrderFault'. -/
def fnExactOrderFaultUptoCard : Claim7 := { stood := { row := fnExactOrderFaultUptoRow, standIns := [], harness := (true, "1d5a39487ec32570119ba1325c762e3d4ec86818346584185f577f4fe7900388"), looks := false }, kinds := [], alts := [], laidByText := true, laidKinds := [.wider], laidTests := true, laidLooks := .later }
def FnExactOrderFaultUptoCardSaid : Prop := Claim7.holds Tryz.pinned (.plain (OpenSpec.upto fnExactOrderFaultSpec)) fnExactOrderFaultUptoCard

/-- THE SECOND FORM's CARD OF 'laws.FnExactDecidedIn'. -/
def fnExactDecidedInUptoCard : Claim7 := { stood := { row := fnExactDecidedInUptoRow, standIns := [], harness := (true, "1d5a39487ec32570119ba1325c762e3d4ec86818346584185f577f4fe7900388"), looks := false }, kinds := [], alts := [], laidByText := true, laidKinds := [.wider], laidTests := true, laidLooks := .later }
def FnExactDecidedInUptoCardSaid : Prop := Claim7.holds Tryz.pinned (.plain (OpenSpec.upto fnExactDecidedInSpec)) fnExactDecidedInUptoCard

/-- THE SECOND FORM's CARD OF 'laws.FnExactDefiniteOf'. -/
def fnExactDefiniteOfUptoCard : Claim7 := { stood := { row := fnExactDefiniteOfUptoRow, standIns := [], harness := (true, "1d5a39487ec32570119ba1325c762e3d4ec86818346584185f577f4fe7900388"), looks := false }, kinds := [], alts := [], laidByText := true, laidKinds := [.wider], laidTests := true, laidLooks := .later }
def FnExactDefiniteOfUptoCardSaid : Prop := Claim7.holds Tryz.pinned (.plain (OpenSpec.upto fnExactDefiniteOfSpec)) fnExactDefiniteOfUptoCard

/-- THE SECOND FORM's CARD OF 'laws.FnExactNextInstance'. -/
def fnExactNextInstanceUptoCard : Claim7 := { stood := { row := fnExactNextInstanceUptoRow, standIns := [], harness := (true, "1d5a39487ec32570119ba1325c762e3d4ec86818346584185f577f4fe7900388"), looks := false }, kinds := [], alts := [], laidByText := true, laidKinds := [.wider, .data], laidTests := true, laidLooks := .later }
def FnExactNextInstanceUptoCardSaid : Prop := Claim7.holds Tryz.pinned (.plain (OpenSpec.upto fnExactNextInstanceSpec)) fnExactNextInstanceUptoCard

/-- THE SECOND FORM's CARD OF 'laws.FnExactChangeLast'. -/
def fnExactChangeLastUptoCard : Claim7 := { stood := { row := fnExactChangeLastUptoRow, standIns := [], harness := (true, "1d5a39487ec32570119ba1325c762e3d4ec86818346584185f577f4fe7900388"), looks := false }, kinds := [], alts := [], laidByText := true, laidKinds := [.wider], laidTests := true, laidLooks := .later }
def FnExactChangeLastUptoCardSaid : Prop := Claim7.holds Tryz.pinned (.plain (OpenSpec.upto fnExactChangeLastSpec)) fnExactChangeLastUptoCard
end Rows
end Go.Proofs.YtmgkjcobdmdjmaaGreatDoor
