/- Texts joined,with what the laws reach alone. -/
import Derived.Test.YtgdedpgldhbfhaaGreatDoorQAAH
set_option linter.unusedVariables false
set_option linter.unusedSimpArgs false
set_option maxRecDepth 100000
namespace Go.Proofs.YtgdedpgldhbfhaaGreatDoor
open Go.RowKit Go.BigFrame
theorem q2S:∀ (xs acc:List TxnD),∃zs,onc acc xs=acc++zs
 |[],acc=>⟨[],by simp[onc]⟩
 |t::r,acc=>by
  simp only[onc];obtain⟨zs,e⟩:=q2S r (if knw acc t then acc else acc++[t]);rw[e];split
  ·exact⟨zs,rfl⟩
  ·exact⟨t::zs,by simp⟩
theorem z9A(ds:List InstE)(n m:Nat)(h:n≤m):∃zs,defL ds m=defL ds n++zs:=by
 have e:ds.take m=ds.take n++(ds.take m).drop n:=by
  have:=(List.take_append_drop n (ds.take m)).symm
  rwa [List.take_take,Nat.min_eq_left h]at this
 unfold defL;rw[e];unfold z3Z;rw[List.flatMap_append,z1J];exact q2S _ _
end Go.Proofs.YtgdedpgldhbfhaaGreatDoor
