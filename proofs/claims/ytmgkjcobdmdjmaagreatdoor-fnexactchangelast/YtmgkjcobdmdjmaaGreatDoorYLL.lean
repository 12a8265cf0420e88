/- Texts joined, with what the law reaches alone. -/
import Derived.Test.YtmgkjcobdmdjmaaGreatDoorYLG
import Derived.Test.YtmgkjcobdmdjmaaGreatDoorYLK
import Derived.Test.YtmgkjcobdmdjmaaGreatDoorYLI
namespace Go.Proofs.YtmgkjcobdmdjmaaGreatDoor
open Go.RowKit
open Go.BigFrame
set_option linter.unusedVariables false
set_option maxRecDepth 100000
set_option linter.unusedSimpArgs false
theorem last_at (ps : List InstQ) (hlt : ps.length - 1 < ps.length) : lastE (ps.map InstQ.e) = InstQ.e ps[ps.length - 1] := by
  unfold lastE
  rw [List.length_map]
  exact inst_at ps _ hlt

end Go.Proofs.YtmgkjcobdmdjmaaGreatDoor
namespace Go.Proofs.YtmgkjcobdmdjmaaGreatDoor
open Go.RowKit
open Go.BigFrame
set_option linter.unusedVariables false
set_option maxRecDepth 100000
set_option linter.unusedSimpArgs false
theorem Blk.outs {w w' : World} {b : Nat} {t : TypeId} {cs : Array Value} {F : List Nat} (h : Blk w b t cs) (hU : Out F w w') (hF : b ∉ F) : Blk w' b t cs := (hU.block b h.lt hF).trans h

end Go.Proofs.YtmgkjcobdmdjmaaGreatDoor
namespace Go.Proofs.YtmgkjcobdmdjmaaGreatDoor
open Go.RowKit
open Go.BigFrame
set_option linter.unusedVariables false
set_option maxRecDepth 100000
set_option linter.unusedSimpArgs false
/-- The variable openRow is as the program's text lays it. -/
def Opn (w : World) : Prop := ∀ j, j < 3 → w.cell? ⟨0, j, none⟩ = some (.int .i64 3)

theorem Opn.below {w w' : World} (h : Opn w) (hb : Below w.heap.size w w') : Opn w' := fun j hj => cellB (h j hj) hb

structure RulO (w : World) : Prop where
  r : Rul w
  o : Opn w

theorem RulO.below {w w' : World} (h : RulO w) (hb : Below w.heap.size w w') : RulO w' := ⟨h.r.below hb, h.o.below hb⟩

theorem Opn.range {w : World} (h : Opn w) : w.rangeAt 0 0 [.int .i64 3, .int .i64 3, .int .i64 3] := fun j v hv => by
  rw [Nat.zero_add]
  match j, hv with
  | 0, hv => simp at hv; subst hv; exact h 0 (by omega)
  | 1, hv => simp at hv; subst hv; exact h 1 (by omega)
  | 2, hv => simp at hv; subst hv; exact h 2 (by omega)

end Go.Proofs.YtmgkjcobdmdjmaaGreatDoor
namespace Go.Proofs.YtmgkjcobdmdjmaaGreatDoor
open Go.RowKit
open Go.BigFrame
set_option linter.unusedVariables false
set_option maxRecDepth 100000
set_option linter.unusedSimpArgs false
end Go.Proofs.YtmgkjcobdmdjmaaGreatDoor
namespace Go.Proofs.YtmgkjcobdmdjmaaGreatDoor
open Go.RowKit
open Go.BigFrame
set_option linter.unusedVariables false
set_option maxRecDepth 100000
set_option linter.unusedSimpArgs false
end Go.Proofs.YtmgkjcobdmdjmaaGreatDoor
namespace Go.Proofs.YtmgkjcobdmdjmaaGreatDoor
open Go.RowKit
open Go.BigFrame
set_option linter.unusedVariables false
set_option maxRecDepth 100000
set_option linter.unusedSimpArgs false
end Go.Proofs.YtmgkjcobdmdjmaaGreatDoor
