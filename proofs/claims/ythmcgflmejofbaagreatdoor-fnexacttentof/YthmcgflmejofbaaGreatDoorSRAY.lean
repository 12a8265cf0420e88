/- Texts joined, with what the law reaches alone. -/
import Derived.Test.YthmcgflmejofbaaGreatDoorSRAP
set_option linter.unusedVariables false
set_option linter.unusedSimpArgs false
namespace Go.Proofs.YthmcgflmejofbaaGreatDoor
open Go.RowKit Go.Maps
open Go.BigFrame
set_option maxRecDepth 100000
theorem apartG {s t:Value} (h:∀ g,s.ownBlock=some g→t.ownBlock=some g→False):s.ownBlock=none∨s.ownBlock≠t.ownBlock:=by
 cases e:s.ownBlock with
 | none=>exact Or.inl rfl
 | some g=>right;intro k;exact h g e k.symm

theorem Blk.otherG {w:World} {b g j:Nat} {t:TypeId} {cs:Array Value} {u:Value} (h:Blk w b t cs) (hne:b≠g):Blk (w.setCell ⟨g,j,none⟩ u) b t cs:=by
 unfold Blk at h ⊢
 rw [Below.heap_setCell _ _ _ _ (by dsimp only;omega)]
 exact h

section
variable {ops:Array Oper} {rest:List Oper} {o:Oper} {a:Act} {Q:Exit→Act→World→Prop}
end
end Go.Proofs.YthmcgflmejofbaaGreatDoor
