/-
  DERIVED. GIVEN WITH THE SEED: THE CARDS: each row of YtfdkcbafpiojkaaGreatDoorRows.lean that lists a variable, with what it lists TIED to the program's text (the seventh form; the later family's looks); each row that meets fmt, with fmt's text TOLD by the authors' own Lean function (tested against real Go, not proved from fmt's source: count such statements apart). THE CARD IS WHAT COUNTS. Prove the row's statement (the work); the ties are given (YtfdkcbafpiojkaaGreatDoorTie.lean); close each card by the builder's one call (the guide's Derived/Test/ToyasCard.lean, 'card_holds'). Laid BY PROGRAM, IN A SANDBOX (cutbox-door.mjs). By AI agents, Wed Nov 11 2026. No macro, syntax, notation, axiom, sorry.
-/
import Derived.Test.YtfdkcbafpiojkaaGreatDoorRows
import GoSem.ClaimSeven
namespace Go.Proofs.YtfdkcbafpiojkaaGreatDoor
namespace Rows

/-- THE TIED CARD OF 'laws.FnExactDropTent'. -/
def fnExactDropTentCard : Claim7 := { stood := { row := fnExactDropTentRow, standIns := [], harness := (true, "6b4c6848eb54fb0c94690f7d2aa2a3983c714e2d318525408e5c0530f1fa1445"), looks := true }, kinds := [], alts := [], laidByText := true, laidKinds := [.handle], laidTests := true, laidLooks := .later }
def FnExactDropTentCardSaid : Prop := Claim7.holds Tryz.pinned (.plain (OpenSpec.ofChange fnExactDropTentSpec)) fnExactDropTentCard

/-- THE TIED CARD OF 'laws.FnExactOptDeliver'. -/
def fnExactOptDeliverCard : Claim7 := { stood := { row := fnExactOptDeliverRow, standIns := [], harness := (true, "6b4c6848eb54fb0c94690f7d2aa2a3983c714e2d318525408e5c0530f1fa1445"), looks := true }, kinds := [], alts := [], laidByText := true, laidKinds := [.handle], laidTests := true, laidLooks := .later }
def FnExactOptDeliverCardSaid : Prop := Claim7.holds Tryz.pinned (.plain (OpenSpec.ofChange fnExactOptDeliverSpec)) fnExactOptDeliverCard

/-- THE TIED CARD OF 'laws.FnExactDeliver'. -/
def fnExactDeliverCard : Claim7 := { stood := { row := fnExactDeliverRow, standIns := [], harness := (true, "6b4c6848eb54fb0c94690f7d2aa2a3983c714e2d318525408e5c0530f1fa1445"), looks := true }, kinds := [], alts := [], laidByText := true, laidKinds := [.handle], laidTests := true, laidLooks := .later }
def FnExactDeliverCardSaid : Prop := Claim7.holds Tryz.pinned (.plain (OpenSpec.ofChange fnExactDeliverSpec)) fnExactDeliverCard

/-- THE TIED CARD OF 'laws.FnOpts'. -/
def fnOptsCard : Claim7 := { stood := { row := fnOptsRow, standIns := [], harness := (true, "6b4c6848eb54fb0c94690f7d2aa2a3983c714e2d318525408e5c0530f1fa1445"), looks := true }, kinds := [], alts := [], laidByText := true, laidKinds := [.handle], laidTests := true, laidLooks := .later }
def FnOptsCardSaid : Prop := Claim7.holds Tryz.pinned (.plain (OpenSpec.ofChange fnOptsSpec)) fnOptsCard

/-- THE TIED CARD OF 'laws.FnDelivers'. -/
def fnDeliversCard : Claim7 := { stood := { row := fnDeliversRow, standIns := [], harness := (true, "6b4c6848eb54fb0c94690f7d2aa2a3983c714e2d318525408e5c0530f1fa1445"), looks := true }, kinds := [], alts := [], laidByText := true, laidKinds := [.handle], laidTests := true, laidLooks := .later }
def FnDeliversCardSaid : Prop := Claim7.holds Tryz.pinned (.plain (OpenSpec.ofChange fnDeliversSpec)) fnDeliversCard

/-- THE TIED CARD OF 'laws.FnReplies'. -/
def fnRepliesCard : Claim7 := { stood := { row := fnRepliesRow, standIns := [], harness := (true, "6b4c6848eb54fb0c94690f7d2aa2a3983c714e2d318525408e5c0530f1fa1445"), looks := true }, kinds := [], alts := [], laidByText := true, laidKinds := [.handle], laidTests := true, laidLooks := .later }
def FnRepliesCardSaid : Prop := Claim7.holds Tryz.pinned (.plain (OpenSpec.ofChange fnRepliesSpec)) fnRepliesCard

/-- THE SECOND FORM's CARD OF 'laws.FnExactDropTent'. -/
def fnExactDropTentUptoCard : Claim7 := { stood := { row := fnExactDropTentUptoRow, standIns := [], harness := (true, "6b4c6848eb54fb0c94690f7d2aa2a3983c714e2d318525408e5c0530f1fa1445"), looks := true }, kinds := [], alts := [], laidByText := true, laidKinds := [.handle], laidTests := true, laidLooks := .later }
def FnExactDropTentUptoCardSaid : Prop := Claim7.holds Tryz.pinned (.plain (OpenSpec.upto fnExactDropTentSpec)) fnExactDropTentUptoCard

/-- THE SECOND FORM's CARD OF 'laws.FnExactOptDeliver'. -/
def fnExactOptDeliverUptoCard : Claim7 := { stood := { row := fnExactOptDeliverUptoRow, standIns := [], harness := (true, "6b4c6848eb54fb0c94690f7d2aa2a3983c714e2d318525408e5c0530f1fa1445"), looks := true }, kinds := [], alts := [], laidByText := true, laidKinds := [.handle], laidTests := true, laidLooks := .later }
def FnExactOptDeliverUptoCardSaid : Prop := Claim7.holds Tryz.pinned (.plain (OpenSpec.upto fnExactOptDeliverSpec)) fnExactOptDeliverUptoCard

/-- THE SECOND FORM's CARD OF 'laws.FnExactDeliver'. -/
def fnExactDeliverUptoCard : Claim7 := { stood := { row := fnExactDeliverUptoRow, standIns := [], harness := (true, "6b4c6848eb54fb0c94690f7d2aa2a3983c714e2d318525408e5c0530f1fa1445"), looks := true }, kinds := [], alts := [], laidByText := true, laidKinds := [.handle], laidTests := true, laidLooks := .later }
def FnExactDeliverUptoCardSaid : Prop := Claim7.holds Tryz.pinned (.plain (OpenSpec.upto fnExactDeliverSpec)) fnExactDeliverUptoCard

/-- THE SECOND FORM's CARD OF 'laws.FnOpts'. -/
def fnOptsUptoCard : Claim7 := { stood := { row := fnOptsUptoRow, standIns := [], harness := (true, "6b4c6848eb54fb0c94690f7d2aa2a3983c714e2d318525408e5c0530f1fa1445"), looks := true }, kinds := [], alts := [], laidByText := true, laidKinds := [.handle], laidTests := true, laidLooks := .later }
def FnOptsUptoCardSaid : Prop := Claim7.holds Tryz.pinned (.plain (OpenSpec.upto fnOptsSpec)) fnOptsUptoCard

/-- THE SECOND FORM's CARD OF 'laws.FnDelivers'. -/
def fnDeliversUptoCard : Claim7 := { stood := { row := fnDeliversUptoRow, standIns := [], harness := (true, "6b4c6848eb54fb0c94690f7d2aa2a3983c714e2d318525408e5c0530f1fa1445"), looks := true }, kinds := [], alts := [], laidByText := true, laidKinds := [.handle], laidTests := true, laidLooks := .later }
def FnDeliversUptoCardSaid : Prop := Claim7.holds Tryz.pinned (.plain (OpenSpec.upto fnDeliversSpec)) fnDeliversUptoCard

/-- THE SECOND FORM's CARD OF 'laws.FnReplies'. -/
def fnRepliesUptoCard : Claim7 := { stood := { row := fnRepliesUptoRow, standIns := [], harness := (true, "6b4c6848eb54fb0c94690f7d2aa2a3983c714e2d318525408e5c0530f1fa1445"), looks := true }, kinds := [], alts := [], laidByText := true, laidKinds := [.handle], laidTests := true, laidLooks := .later }
def FnRepliesUptoCardSaid : Prop := Claim7.holds Tryz.pinned (.plain (OpenSpec.upto fnRepliesSpec)) fnRepliesUptoCard
end Rows
end Go.Proofs.YtfdkcbafpiojkaaGreatDoor
