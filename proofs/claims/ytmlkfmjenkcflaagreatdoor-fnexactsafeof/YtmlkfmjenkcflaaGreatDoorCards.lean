/-
  DERIVED. GIVEN WITH THE SEED: THE CARDS: each row of YtmlkfmjenkcflaaGreatDoorRows.lean that lists a variable, with what it lists TIED to the program's text (the seventh form; the later family's looks); each row that meets fmt, with fmt's text TOLD by the authors' own Lean function (tested against real Go, not proved from fmt's source: count such statements apart). THE CARD IS WHAT COUNTS. Prove the row's statement (the work); the ties are given (YtmlkfmjenkcflaaGreatDoorTie.lean); close each card by the builder's one call (the guide's Derived/Test/ToyasCard.lean, 'card_holds'). Laid BY PROGRAM, IN A SANDBOX (cutbox-door.mjs). By AI agents, Wed Nov 11 2026. No macro, syntax, notation, axiom, sorry.
-/
import Derived.Test.YtmlkfmjenkcflaaGreatDoorRows
import GoSem.ClaimSeven
namespace Go.Proofs.YtmlkfmjenkcflaaGreatDoor
namespace Rows

/-- THE TIED CARD OF 'laws.FnExactSafeOf'. -/
def fnExactSafeOfCard : Claim7 := { stood := { row := fnExactSafeOfRow, standIns := [], harness := (true, "ee46ec6ca18d4017143be7f3980fbede48ba226111513d8f0fe88649c9e2f552"), looks := false }, kinds := [], alts := [], laidByText := true, laidKinds := [.wider], laidTests := true, laidLooks := .later }
def FnExactSafeOfCardSaid : Prop := Claim7.holds Tryz.pinned (.plain (OpenSpec.ofChange fnExactSafeOfSpec)) fnExactSafeOfCard

/-- THE SECOND FORM's CARD OF 'laws.FnExactSafeOf'. -/
def fnExactSafeOfUptoCard : Claim7 := { stood := { row := fnExactSafeOfUptoRow, standIns := [], harness := (true, "ee46ec6ca18d4017143be7f3980fbede48ba226111513d8f0fe88649c9e2f552"), looks := false }, kinds := [], alts := [], laidByText := true, laidKinds := [.wider], laidTests := true, laidLooks := .later }
def FnExactSafeOfUptoCardSaid : Prop := Claim7.holds Tryz.pinned (.plain (OpenSpec.upto fnExactSafeOfSpec)) fnExactSafeOfUptoCard
end Rows
end Go.Proofs.YtmlkfmjenkcflaaGreatDoor
