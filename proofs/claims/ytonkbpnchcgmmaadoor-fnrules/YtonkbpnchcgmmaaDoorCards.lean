/-
  DERIVED. GIVEN WITH THE SEED: THE CARDS: each row of YtonkbpnchcgmmaaDoorRows.lean that lists a variable, with what it lists TIED to the program's text (the seventh form; the later family's looks); each row that meets fmt, with fmt's text TOLD by the authors' own Lean function (tested against real Go, not proved from fmt's source: count such statements apart). THE CARD IS WHAT COUNTS. Prove the row's statement (the work); the ties are given (YtonkbpnchcgmmaaDoorTie.lean); close each card by the builder's one call (the guide's Derived/Test/ToyasCard.lean, 'card_holds'). Laid BY PROGRAM, IN A SANDBOX (cutbox-door.mjs). By AI agents, Wed Nov 11 2026. No macro, syntax, notation, axiom, sorry.
-/
import Derived.Test.YtonkbpnchcgmmaaDoorRows
import GoSem.ClaimSeven
namespace Go.Proofs.YtonkbpnchcgmmaaDoor
namespace Rows

/-- THE TIED CARD OF 'laws.FnRules'. -/
def fnRulesCard : Claim7 := { stood := { row := fnRulesRow, standIns := [], harness := (true, "09538b2c1f32fdbf1b6100bfa43b12df6732f2e000191ea5b19bba3be9220a16"), looks := false }, kinds := [], alts := [], laidByText := true, laidKinds := [.wider], laidTests := true, laidLooks := .later }
def FnRulesCardSaid : Prop := Claim7.holds Tryd.pinned (.plain (OpenSpec.ofChange fnRulesSpec)) fnRulesCard

/-- THE TIED CARD OF 'laws.FnExactProposalFor'. -/
def fnExactProposalForCard : Claim7 := { stood := { row := fnExactProposalForRow, standIns := [], harness := (true, "09538b2c1f32fdbf1b6100bfa43b12df6732f2e000191ea5b19bba3be9220a16"), looks := false }, kinds := [], alts := [], laidByText := true, laidKinds := [.wider], laidTests := true, laidLooks := .later }
def FnExactProposalForCardSaid : Prop := Claim7.holds Tryd.pinned (.plain (OpenSpec.ofChange fnExactProposalForSpec)) fnExactProposalForCard

/-- THE TIED CARD OF 'laws.FnExactChoiceFor'. -/
def fnExactChoiceForCard : Claim7 := { stood := { row := fnExactChoiceForRow, standIns := [], harness := (true, "09538b2c1f32fdbf1b6100bfa43b12df6732f2e000191ea5b19bba3be9220a16"), looks := false }, kinds := [], alts := [], laidByText := true, laidKinds := [.wider], laidTests := true, laidLooks := .later }
def FnExactChoiceForCardSaid : Prop := Claim7.holds Tryd.pinned (.plain (OpenSpec.ofChange fnExactChoiceForSpec)) fnExactChoiceForCard

/-- THE TIED CARD OF 'laws.FnExactMayPropose'. -/
def fnExactMayProposeCard : Claim7 := { stood := { row := fnExactMayProposeRow, standIns := [], harness := (true, "09538b2c1f32fdbf1b6100bfa43b12df6732f2e000191ea5b19bba3be9220a16"), looks := false }, kinds := [], alts := [], laidByText := true, laidKinds := [.wider], laidTests := true, laidLooks := .later }
def FnExactMayProposeCardSaid : Prop := Claim7.holds Tryd.pinned (.plain (OpenSpec.ofChange fnExactMayProposeSpec)) fnExactMayProposeCard

/-- THE TIED CARD OF 'laws.FnExactMayReport'. -/
def fnExactMayReportCard : Claim7 := { stood := { row := fnExactMayReportRow, standIns := [], harness := (true, "09538b2c1f32fdbf1b6100bfa43b12df6732f2e000191ea5b19bba3be9220a16"), looks := false }, kinds := [], alts := [], laidByText := true, laidKinds := [.wider], laidTests := true, laidLooks := .later }
def FnExactMayReportCardSaid : Prop := Claim7.holds Tryd.pinned (.plain (OpenSpec.ofChange fnExactMayReportSpec)) fnExactMayReportCard

/-- THE SECOND FORM's CARD OF 'laws.FnRules'. -/
def fnRulesUptoCard : Claim7 := { stood := { row := fnRulesUptoRow, standIns := [], harness := (true, "09538b2c1f32fdbf1b6100bfa43b12df6732f2e000191ea5b19bba3be9220a16"), looks := false }, kinds := [], alts := [], laidByText := true, laidKinds := [.wider], laidTests := true, laidLooks := .later }
def FnRulesUptoCardSaid : Prop := Claim7.holds Tryd.pinned (.plain (OpenSpec.upto fnRulesSpec)) fnRulesUptoCard

/-- THE SECOND FORM's CARD OF 'laws.FnExactProposalFor'. -/
def fnExactProposalForUptoCard : Claim7 := { stood := { row := fnExactProposalForUptoRow, standIns := [], harness := (true, "09538b2c1f32fdbf1b6100bfa43b12df6732f2e000191ea5b19bba3be9220a16"), looks := false }, kinds := [], alts := [], laidByText := true, laidKinds := [.wider], laidTests := true, laidLooks := .later }
def FnExactProposalForUptoCardSaid : Prop := Claim7.holds Tryd.pinned (.plain (OpenSpec.upto fnExactProposalForSpec)) fnExactProposalForUptoCard

/-- THE SECOND FORM's CARD OF 'laws.FnExactChoiceFor'. -/
def fnExactChoiceForUptoCard : Claim7 := { stood := { row := fnExactChoiceForUptoRow, standIns := [], harness := (true, "09538b2c1f32fdbf1b6100bfa43b12df6732f2e000191ea5b19bba3be9220a16"), looks := false }, kinds := [], alts := [], laidByText := true, laidKinds := [.wider], laidTests := true, laidLooks := .later }
def FnExactChoiceForUptoCardSaid : Prop := Claim7.holds Tryd.pinned (.plain (OpenSpec.upto fnExactChoiceForSpec)) fnExactChoiceForUptoCard

/-- THE SECOND FORM's CARD OF 'laws.FnExactMayPropose'. -/
def fnExactMayProposeUptoCard : Claim7 := { stood := { row := fnExactMayProposeUptoRow, standIns := [], harness := (true, "09538b2c1f32fdbf1b6100bfa43b12df6732f2e000191ea5b19bba3be9220a16"), looks := false }, kinds := [], alts := [], laidByText := true, laidKinds := [.wider], laidTests := true, laidLooks := .later }
def FnExactMayProposeUptoCardSaid : Prop := Claim7.holds Tryd.pinned (.plain (OpenSpec.upto fnExactMayProposeSpec)) fnExactMayProposeUptoCard

/-- THE SECOND FORM's CARD OF 'laws.FnExactMayReport'. -/
def fnExactMayReportUptoCard : Claim7 := { stood := { row := fnExactMayReportUptoRow, standIns := [], harness := (true, "09538b2c1f32fdbf1b6100bfa43b12df6732f2e000191ea5b19bba3be9220a16"), looks := false }, kinds := [], alts := [], laidByText := true, laidKinds := [.wider], laidTests := true, laidLooks := .later }
def FnExactMayReportUptoCardSaid : Prop := Claim7.holds Tryd.pinned (.plain (OpenSpec.upto fnExactMayReportSpec)) fnExactMayReportUptoCard
end Rows
end Go.Proofs.YtonkbpnchcgmmaaDoor
