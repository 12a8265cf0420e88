/- Texts joined, with what the laws reach alone. -/
import Derived.Test.YtfdkcbafpiojkaaGreatDoorSGAO
import Derived.RangeFuncNested
import Derived.RangeFuncBound
import Derived.RangeFuncCalls
import Derived.RangeFuncLeaves
import Derived.RangeFuncBox
import Derived.RangeFuncWrites
import Derived.Shelf.Abstract
import Derived.Shelf.RegionOpen
import Derived.OwnWalkIn
import Derived.TacticsInMore
import Derived.LoopNIn
import Derived.LoopIn
import Derived.Laws.CopyRow
set_option linter.unusedVariables false
set_option linter.unusedSimpArgs false
namespace Go.Proofs.YtfdkcbafpiojkaaGreatDoor
open Go.RowKit Go.Shelf
set_option maxRecDepth 100000
attribute [local go_sem] Oper.semAt_some
/-- What lies below n₀ lies as it lay, but for block ba. -/
def KeepB (n₀ ba:Nat) (W W' : World):Prop:=∀ k,k < n₀→k≠ba→W'.heap[k]? = W.heap[k]?

theorem KeepB.cell {n₀ ba b j:Nat} {W W' : World} {v:Value} (h:KeepB n₀ ba W W') (hb:b < n₀) (hn:b≠ba) (hc:W.cell? ⟨b,j,none⟩=some v):W'.cell? ⟨b,j,none⟩=some v:=by
 have e:=h b hb hn
 simp only [World.cell?] at hc ⊢
 rw [e]
 exact hc

/-- A block of cells, or a list that is owned, abides what the loop's book-keeping turns. -/
theorem Blk.turned {w w' : World} {b:Nat} {t:TypeId} {cs:Array Value} {row:Option Nat} (h:Blk w b t cs) (hg:w.grownBy w' row) (hr:∀ r,row=some r→∃ o:Obj,w.heap[r]? = some o∧o.isCells=false):Blk w' b t cs:=by
 refine h.grown hg ?_
 intro e
 obtain ⟨o,ho,hc⟩:=hr b e.symm
 unfold Blk at h
 rw [h] at ho
 simp only [Option.some.injEq] at ho
 subst ho
 simp [Obj.isCells] at hc

end Go.Proofs.YtfdkcbafpiojkaaGreatDoor
