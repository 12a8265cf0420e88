/-
  DERIVED. GIVEN WITH THE SEED: THE CARDS: each row of YtjjoahhnkpjolaaGreatDoorRows.lean that lists a variable, with what it lists TIED to the program's text (the seventh form; the later family's looks); each row that meets fmt, with fmt's text TOLD by the authors' own Lean function (tested against real Go, not proved from fmt's source: count such statements apart). THE CARD IS WHAT COUNTS. Prove the row's statement (the work); the ties are given (YtjjoahhnkpjolaaGreatDoorTie.lean); close each card by the builder's one call (the guide's Derived/Test/ToyasCard.lean, 'card_holds'). Laid BY PROGRAM, IN A SANDBOX (cutbox-door.mjs). By AI agents, Wed Nov 11 2026. No macro, syntax, notation, axiom, sorry.
-/
import Derived.Test.YtjjoahhnkpjolaaGreatDoorRows
import GoSem.ClaimSeven
namespace Go.Proofs.YtjjoahhnkpjolaaGreatDoor
namespace Rows

/-- THE TIED CARD OF 'laws.FnExactClusterFault'. -/
def fnExactClusterFaultCard : Claim7 := { stood := { row := fnExactClusterFaultRow, standIns := [], harness := (true, "a6d24596dc9353ab1e867428da3ea22366c55d0ffb2ae95aa97d0875bba6928d"), looks := true }, kinds := [], alts := [], laidByText := true, laidKinds := [.handle, .wider], laidTests := true, laidLooks := .later }
def FnExactClusterFaultCardSaid : Prop := Claim7.holds Tryz.pinned (.plain (OpenSpec.ofChange fnExactClusterFaultSpec)) fnExactClusterFaultCard

/-- THE TIED CARD OF 'laws.FnExactOpenNext'. -/
def fnExactOpenNextCard : Claim7 := { stood := { row := fnExactOpenNextRow, standIns := [], harness := (true, "a6d24596dc9353ab1e867428da3ea22366c55d0ffb2ae95aa97d0875bba6928d"), looks := true }, kinds := [], alts := [], laidByText := true, laidKinds := [.handle, .wider, .data], laidTests := true, laidLooks := .later }
def FnExactOpenNextCardSaid : Prop := Claim7.holds Tryz.pinned (.plain (OpenSpec.ofChange fnExactOpenNextSpec)) fnExactOpenNextCard

/-- THE TIED CARD OF 'laws.FnExactCandidateOf'. -/
def fnExactCandidateOfCard : Claim7 := { stood := { row := fnExactCandidateOfRow, standIns := [], harness := (true, "a6d24596dc9353ab1e867428da3ea22366c55d0ffb2ae95aa97d0875bba6928d"), looks := true }, kinds := [], alts := [], laidByText := true, laidKinds := [.handle, .wider], laidTests := true, laidLooks := .later }
def FnExactCandidateOfCardSaid : Prop := Claim7.holds Tryz.pinned (.plain (OpenSpec.ofChange fnExactCandidateOfSpec)) fnExactCandidateOfCard

/-- THE SECOND FORM's CARD OF 'laws.FnExactClusterFault'. -/
def fnExactClusterFaultUptoCard : Claim7 := { stood := { row := fnExactClusterFaultUptoRow, standIns := [], harness := (true, "a6d24596dc9353ab1e867428da3ea22366c55d0ffb2ae95aa97d0875bba6928d"), looks := true }, kinds := [], alts := [], laidByText := true, laidKinds := [.handle, .wider], laidTests := true, laidLooks := .later }
def FnExactClusterFaultUptoCardSaid : Prop := Claim7.holds Tryz.pinned (.plain (OpenSpec.upto fnExactClusterFaultSpec)) fnExactClusterFaultUptoCard

/-- THE SECOND FORM's CARD OF 'laws.FnExactOpenNext'. -/
def fnExactOpenNextUptoCard : Claim7 := { stood := { row := fnExactOpenNextUptoRow, standIns := [], harness := (true, "a6d24596dc9353ab1e867428da3ea22366c55d0ffb2ae95aa97d0875bba6928d"), looks := true }, kinds := [], alts := [], laidByText := true, laidKinds := [.handle, .wider, .data], laidTests := true, laidLooks := .later }
def FnExactOpenNextUptoCardSaid : Prop := Claim7.holds Tryz.pinned (.plain (OpenSpec.upto fnExactOpenNextSpec)) fnExactOpenNextUptoCard

/-- THE SECOND FORM's CARD OF 'laws.FnExactCandidateOf'. -/
def fnExactCandidateOfUptoCard : Claim7 := { stood := { row := fnExactCandidateOfUptoRow, standIns := [], harness := (true, "a6d24596dc9353ab1e867428da3ea22366c55d0ffb2ae95aa97d0875bba6928d"), looks := true }, kinds := [], alts := [], laidByText := true, laidKinds := [.handle, .wider], laidTests := true, laidLooks := .later }
def FnExactCandidateOfUptoCardSaid : Prop := Claim7.holds Tryz.pinned (.plain (OpenSpec.upto fnExactCandidateOfSpec)) fnExactCandidateOfUptoCard
end Rows
end Go.Proofs.YtjjoahhnkpjolaaGreatDoor
