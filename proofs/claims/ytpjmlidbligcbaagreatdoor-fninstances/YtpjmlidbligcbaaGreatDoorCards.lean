/-
  DERIVED. GIVEN WITH THE SEED: THE CARDS: each row of YtpjmlidbligcbaaGreatDoorRows.lean that lists a variable, with what it lists TIED to the program's text (the seventh form; the later family's looks); each row that meets fmt, with fmt's text TOLD by the authors' own Lean function (tested against real Go, not proved from fmt's source: count such statements apart). THE CARD IS WHAT COUNTS. Prove the row's statement (the work); the ties are given (YtpjmlidbligcbaaGreatDoorTie.lean); close each card by the builder's one call (the guide's Derived/Test/ToyasCard.lean, 'card_holds'). Laid BY PROGRAM, IN A SANDBOX (cutbox-door.mjs). By AI agents, Wed Nov 11 2026. No macro, syntax, notation, axiom, sorry.
-/
import Derived.Test.YtpjmlidbligcbaaGreatDoorRows
import GoSem.ClaimSeven
namespace Go.Proofs.YtpjmlidbligcbaaGreatDoor
namespace Rows

/-- THE TIED CARD OF 'laws.FnInstances'. -/
def fnInstancesCard : Claim7 := { stood := { row := fnInstancesRow, standIns := [], harness := (true, "f0f29fc79500abf2179b9d8ad9bdd0c23575ace768f7f679434fc7c9d42ae55d"), looks := true }, kinds := [], alts := [], laidByText := true, laidKinds := [.wider, .data], laidTests := true, laidLooks := .later }
def FnInstancesCardSaid : Prop := Claim7.holds Tryz.pinned (.plain (OpenSpec.ofChange fnInstancesSpec)) fnInstancesCard

/-- THE TIED CARD OF 'laws.FnStays'. -/
def fnStaysCard : Claim7 := { stood := { row := fnStaysRow, standIns := [], harness := (true, "f0f29fc79500abf2179b9d8ad9bdd0c23575ace768f7f679434fc7c9d42ae55d"), looks := true }, kinds := [], alts := [], laidByText := true, laidKinds := [.wider, .data], laidTests := true, laidLooks := .later }
def FnStaysCardSaid : Prop := Claim7.holds Tryz.pinned (.plain (OpenSpec.ofChange fnStaysSpec)) fnStaysCard

/-- THE TIED CARD OF 'laws.FnOrders'. -/
def fnOrdersCard : Claim7 := { stood := { row := fnOrdersRow, standIns := [], harness := (true, "f0f29fc79500abf2179b9d8ad9bdd0c23575ace768f7f679434fc7c9d42ae55d"), looks := true }, kinds := [], alts := [], laidByText := true, laidKinds := [.wider, .data], laidTests := true, laidLooks := .later }
def FnOrdersCardSaid : Prop := Claim7.holds Tryz.pinned (.plain (OpenSpec.ofChange fnOrdersSpec)) fnOrdersCard

/-- THE TIED CARD OF 'laws.FnLaid'. -/
def fnLaidCard : Claim7 := { stood := { row := fnLaidRow, standIns := [], harness := (true, "f0f29fc79500abf2179b9d8ad9bdd0c23575ace768f7f679434fc7c9d42ae55d"), looks := true }, kinds := [], alts := [], laidByText := true, laidKinds := [.wider, .data], laidTests := true, laidLooks := .later }
def FnLaidCardSaid : Prop := Claim7.holds Tryz.pinned (.plain (OpenSpec.ofChange fnLaidSpec)) fnLaidCard

/-- THE TIED CARD OF 'laws.FnExactVotesOf'. -/
def fnExactVotesOfCard : Claim7 := { stood := { row := fnExactVotesOfRow, standIns := [], harness := (true, "f0f29fc79500abf2179b9d8ad9bdd0c23575ace768f7f679434fc7c9d42ae55d"), looks := true }, kinds := [], alts := [], laidByText := true, laidKinds := [.wider], laidTests := true, laidLooks := .later }
def FnExactVotesOfCardSaid : Prop := Claim7.holds Tryz.pinned (.plain (OpenSpec.ofChange fnExactVotesOfSpec)) fnExactVotesOfCard

/-- THE SECOND FORM's CARD OF 'laws.FnInstances'. -/
def fnInstancesUptoCard : Claim7 := { stood := { row := fnInstancesUptoRow, standIns := [], harness := (true, "f0f29fc79500abf2179b9d8ad9bdd0c23575ace768f7f679434fc7c9d42ae55d"), looks := true }, kinds := [], alts := [], laidByText := true, laidKinds := [.wider, .data], laidTests := true, laidLooks := .later }
def FnInstancesUptoCardSaid : Prop := Claim7.holds Tryz.pinned (.plain (OpenSpec.upto fnInstancesSpec)) fnInstancesUptoCard

/-- THE SECOND FORM's CARD OF 'laws.FnStays'. -/
def fnStaysUptoCard : Claim7 := { stood := { row := fnStaysUptoRow, standIns := [], harness := (true, "f0f29fc79500abf2179b9d8ad9bdd0c23575ace768f7f679434fc7c9d42ae55d"), looks := true }, kinds := [], alts := [], laidByText := true, laidKinds := [.wider, .data], laidTests := true, laidLooks := .later }
def FnStaysUptoCardSaid : Prop := Claim7.holds Tryz.pinned (.plain (OpenSpec.upto fnStaysSpec)) fnStaysUptoCard

/-- THE SECOND FORM's CARD OF 'laws.FnOrders'. -/
def fnOrdersUptoCard : Claim7 := { stood := { row := fnOrdersUptoRow, standIns := [], harness := (true, "f0f29fc79500abf2179b9d8ad9bdd0c23575ace768f7f679434fc7c9d42ae55d"), looks := true }, kinds := [], alts := [], laidByText := true, laidKinds := [.wider, .data], laidTests := true, laidLooks := .later }
def FnOrdersUptoCardSaid : Prop := Claim7.holds Tryz.pinned (.plain (OpenSpec.upto fnOrdersSpec)) fnOrdersUptoCard

/-- THE SECOND FORM's CARD OF 'laws.FnLaid'. -/
def fnLaidUptoCard : Claim7 := { stood := { row := fnLaidUptoRow, standIns := [], harness := (true, "f0f29fc79500abf2179b9d8ad9bdd0c23575ace768f7f679434fc7c9d42ae55d"), looks := true }, kinds := [], alts := [], laidByText := true, laidKinds := [.wider, .data], laidTests := true, laidLooks := .later }
def FnLaidUptoCardSaid : Prop := Claim7.holds Tryz.pinned (.plain (OpenSpec.upto fnLaidSpec)) fnLaidUptoCard

/-- THE SECOND FORM's CARD OF 'laws.FnExactVotesOf'. -/
def fnExactVotesOfUptoCard : Claim7 := { stood := { row := fnExactVotesOfUptoRow, standIns := [], harness := (true, "f0f29fc79500abf2179b9d8ad9bdd0c23575ace768f7f679434fc7c9d42ae55d"), looks := true }, kinds := [], alts := [], laidByText := true, laidKinds := [.wider], laidTests := true, laidLooks := .later }
def FnExactVotesOfUptoCardSaid : Prop := Claim7.holds Tryz.pinned (.plain (OpenSpec.upto fnExactVotesOfSpec)) fnExactVotesOfUptoCard
end Rows
end Go.Proofs.YtpjmlidbligcbaaGreatDoor
