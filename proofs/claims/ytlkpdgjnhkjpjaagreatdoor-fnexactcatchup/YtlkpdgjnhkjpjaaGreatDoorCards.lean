/-
  DERIVED. GIVEN WITH THE SEED: THE CARDS: each row of YtlkpdgjnhkjpjaaGreatDoorRows.lean that lists a variable, with what it lists TIED to the program's text (the seventh form; the later family's looks); each row that meets fmt, with fmt's text TOLD by the authors' own Lean function (tested against real Go, not proved from fmt's source: count such statements apart). THE CARD IS WHAT COUNTS. Prove the row's statement (the work); the ties are given (YtlkpdgjnhkjpjaaGreatDoorTie.lean); close each card by the builder's one call (the guide's Derived/Test/ToyasCard.lean, 'card_holds'). Laid BY PROGRAM, IN A SANDBOX (cutbox-door.mjs). By AI agents, Wed Nov 11 2026. No macro, syntax, notation, axiom, sorry.
-/
import Derived.Test.YtlkpdgjnhkjpjaaGreatDoorRows
import GoSem.ClaimSeven
namespace Go.Proofs.YtlkpdgjnhkjpjaaGreatDoor
namespace Rows

/-- THE TIED CARD OF 'laws.FnNodes'. -/
def fnNodesCard : Claim7 := { stood := { row := fnNodesRow, standIns := [], harness := (true, "4d8bd8a7709132aa80d4bdc6c4368734827b1139826b1a2f37b5dff12d92dbf9"), looks := true }, kinds := [], alts := [], laidByText := true, laidKinds := [.handle, .wider], laidTests := true, laidLooks := .later }
def FnNodesCardSaid : Prop := Claim7.holds Tryz.pinned (.plain (OpenSpec.ofChange fnNodesSpec)) fnNodesCard

/-- THE TIED CARD OF 'laws.FnCrashes'. -/
def fnCrashesCard : Claim7 := { stood := { row := fnCrashesRow, standIns := [], harness := (true, "4d8bd8a7709132aa80d4bdc6c4368734827b1139826b1a2f37b5dff12d92dbf9"), looks := true }, kinds := [], alts := [], laidByText := true, laidKinds := [.handle, .wider], laidTests := true, laidLooks := .later }
def FnCrashesCardSaid : Prop := Claim7.holds Tryz.pinned (.plain (OpenSpec.ofChange fnCrashesSpec)) fnCrashesCard

/-- THE TIED CARD OF 'laws.FnCatches'. -/
def fnCatchesCard : Claim7 := { stood := { row := fnCatchesRow, standIns := [], harness := (true, "4d8bd8a7709132aa80d4bdc6c4368734827b1139826b1a2f37b5dff12d92dbf9"), looks := true }, kinds := [], alts := [], laidByText := true, laidKinds := [.handle, .wider], laidTests := true, laidLooks := .later }
def FnCatchesCardSaid : Prop := Claim7.holds Tryz.pinned (.plain (OpenSpec.ofChange fnCatchesSpec)) fnCatchesCard

/-- THE TIED CARD OF 'laws.FnExactLearn'. -/
def fnExactLearnCard : Claim7 := { stood := { row := fnExactLearnRow, standIns := [], harness := (true, "4d8bd8a7709132aa80d4bdc6c4368734827b1139826b1a2f37b5dff12d92dbf9"), looks := true }, kinds := [], alts := [], laidByText := true, laidKinds := [.handle, .wider], laidTests := true, laidLooks := .later }
def FnExactLearnCardSaid : Prop := Claim7.holds Tryz.pinned (.plain (OpenSpec.ofChange fnExactLearnSpec)) fnExactLearnCard

/-- THE TIED CARD OF 'laws.FnExactHear'. -/
def fnExactHearCard : Claim7 := { stood := { row := fnExactHearRow, standIns := [], harness := (true, "4d8bd8a7709132aa80d4bdc6c4368734827b1139826b1a2f37b5dff12d92dbf9"), looks := true }, kinds := [], alts := [], laidByText := true, laidKinds := [.handle, .wider], laidTests := true, laidLooks := .later }
def FnExactHearCardSaid : Prop := Claim7.holds Tryz.pinned (.plain (OpenSpec.ofChange fnExactHearSpec)) fnExactHearCard

/-- THE TIED CARD OF 'laws.FnExactSyncNode'. -/
def fnExactSyncNodeCard : Claim7 := { stood := { row := fnExactSyncNodeRow, standIns := [], harness := (true, "4d8bd8a7709132aa80d4bdc6c4368734827b1139826b1a2f37b5dff12d92dbf9"), looks := true }, kinds := [], alts := [], laidByText := true, laidKinds := [.handle, .wider], laidTests := true, laidLooks := .later }
def FnExactSyncNodeCardSaid : Prop := Claim7.holds Tryz.pinned (.plain (OpenSpec.ofChange fnExactSyncNodeSpec)) fnExactSyncNodeCard

/-- THE TIED CARD OF 'laws.FnExactCrashNode'. -/
def fnExactCrashNodeCard : Claim7 := { stood := { row := fnExactCrashNodeRow, standIns := [], harness := (true, "4d8bd8a7709132aa80d4bdc6c4368734827b1139826b1a2f37b5dff12d92dbf9"), looks := true }, kinds := [], alts := [], laidByText := true, laidKinds := [.handle, .wider], laidTests := true, laidLooks := .later }
def FnExactCrashNodeCardSaid : Prop := Claim7.holds Tryz.pinned (.plain (OpenSpec.ofChange fnExactCrashNodeSpec)) fnExactCrashNodeCard

/-- THE TIED CARD OF 'laws.FnExactCatchUp'. -/
def fnExactCatchUpCard : Claim7 := { stood := { row := fnExactCatchUpRow, standIns := [], harness := (true, "4d8bd8a7709132aa80d4bdc6c4368734827b1139826b1a2f37b5dff12d92dbf9"), looks := true }, kinds := [], alts := [], laidByText := true, laidKinds := [.handle, .wider], laidTests := true, laidLooks := .later }
def FnExactCatchUpCardSaid : Prop := Claim7.holds Tryz.pinned (.plain (OpenSpec.ofChange fnExactCatchUpSpec)) fnExactCatchUpCard

/-- THE SECOND FORM's CARD OF 'laws.FnNodes'. -/
def fnNodesUptoCard : Claim7 := { stood := { row := fnNodesUptoRow, standIns := [], harness := (true, "4d8bd8a7709132aa80d4bdc6c4368734827b1139826b1a2f37b5dff12d92dbf9"), looks := true }, kinds := [], alts := [], laidByText := true, laidKinds := [.handle, .wider], laidTests := true, laidLooks := .later }
def FnNodesUptoCardSaid : Prop := Claim7.holds Tryz.pinned (.plain (OpenSpec.upto fnNodesSpec)) fnNodesUptoCard

/-- THE SECOND FORM's CARD OF 'laws.FnCrashes'. -/
def fnCrashesUptoCard : Claim7 := { stood := { row := fnCrashesUptoRow, standIns := [], harness := (true, "4d8bd8a7709132aa80d4bdc6c4368734827b1139826b1a2f37b5dff12d92dbf9"), looks := true }, kinds := [], alts := [], laidByText := true, laidKinds := [.handle, .wider], laidTests := true, laidLooks := .later }
def FnCrashesUptoCardSaid : Prop := Claim7.holds Tryz.pinned (.plain (OpenSpec.upto fnCrashesSpec)) fnCrashesUptoCard

/-- THE SECOND FORM's CARD OF 'laws.FnCatches'. -/
def fnCatchesUptoCard : Claim7 := { stood := { row := fnCatchesUptoRow, standIns := [], harness := (true, "4d8bd8a7709132aa80d4bdc6c4368734827b1139826b1a2f37b5dff12d92dbf9"), looks := true }, kinds := [], alts := [], laidByText := true, laidKinds := [.handle, .wider], laidTests := true, laidLooks := .later }
def FnCatchesUptoCardSaid : Prop := Claim7.holds Tryz.pinned (.plain (OpenSpec.upto fnCatchesSpec)) fnCatchesUptoCard

/-- THE SECOND FORM's CARD OF 'laws.FnExactLearn'. -/
def fnExactLearnUptoCard : Claim7 := { stood := { row := fnExactLearnUptoRow, standIns := [], harness := (true, "4d8bd8a7709132aa80d4bdc6c4368734827b1139826b1a2f37b5dff12d92dbf9"), looks := true }, kinds := [], alts := [], laidByText := true, laidKinds := [.handle, .wider], laidTests := true, laidLooks := .later }
def FnExactLearnUptoCardSaid : Prop := Claim7.holds Tryz.pinned (.plain (OpenSpec.upto fnExactLearnSpec)) fnExactLearnUptoCard

/-- THE SECOND FORM's CARD OF 'laws.FnExactHear'. -/
def fnExactHearUptoCard : Claim7 := { stood := { row := fnExactHearUptoRow, standIns := [], harness := (true, "4d8bd8a7709132aa80d4bdc6c4368734827b1139826b1a2f37b5dff12d92dbf9"), looks := true }, kinds := [], alts := [], laidByText := true, laidKinds := [.handle, .wider], laidTests := true, laidLooks := .later }
def FnExactHearUptoCardSaid : Prop := Claim7.holds Tryz.pinned (.plain (OpenSpec.upto fnExactHearSpec)) fnExactHearUptoCard

/-- THE SECOND FORM's CARD OF 'laws.FnExactSyncNode'. -/
def fnExactSyncNodeUptoCard : Claim7 := { stood := { row := fnExactSyncNodeUptoRow, standIns := [], harness := (true, "4d8bd8a7709132aa80d4bdc6c4368734827b1139826b1a2f37b5dff12d92dbf9"), looks := true }, kinds := [], alts := [], laidByText := true, laidKinds := [.handle, .wider], laidTests := true, laidLooks := .later }
def FnExactSyncNodeUptoCardSaid : Prop := Claim7.holds Tryz.pinned (.plain (OpenSpec.upto fnExactSyncNodeSpec)) fnExactSyncNodeUptoCard

/-- THE SECOND FORM's CARD OF 'laws.FnExactCrashNode'. -/
def fnExactCrashNodeUptoCard : Claim7 := { stood := { row := fnExactCrashNodeUptoRow, standIns := [], harness := (true, "4d8bd8a7709132aa80d4bdc6c4368734827b1139826b1a2f37b5dff12d92dbf9"), looks := true }, kinds := [], alts := [], laidByText := true, laidKinds := [.handle, .wider], laidTests := true, laidLooks := .later }
def FnExactCrashNodeUptoCardSaid : Prop := Claim7.holds Tryz.pinned (.plain (OpenSpec.upto fnExactCrashNodeSpec)) fnExactCrashNodeUptoCard

/-- THE SECOND FORM's CARD OF 'laws.FnExactCatchUp'. -/
def fnExactCatchUpUptoCard : Claim7 := { stood := { row := fnExactCatchUpUptoRow, standIns := [], harness := (true, "4d8bd8a7709132aa80d4bdc6c4368734827b1139826b1a2f37b5dff12d92dbf9"), looks := true }, kinds := [], alts := [], laidByText := true, laidKinds := [.handle, .wider], laidTests := true, laidLooks := .later }
def FnExactCatchUpUptoCardSaid : Prop := Claim7.holds Tryz.pinned (.plain (OpenSpec.upto fnExactCatchUpSpec)) fnExactCatchUpUptoCard
end Rows
end Go.Proofs.YtlkpdgjnhkjpjaaGreatDoor
