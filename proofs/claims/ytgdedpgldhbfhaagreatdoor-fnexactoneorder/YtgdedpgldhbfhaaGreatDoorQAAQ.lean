/- Texts joined,with what the laws reach alone. -/
import Derived.Test.YtgdedpgldhbfhaaGreatDoorQAAO
set_option linter.unusedVariables false
set_option linter.unusedSimpArgs false
set_option maxRecDepth 100000
namespace Go.Proofs.YtgdedpgldhbfhaaGreatDoor
open Go.RowKit Go.BigFrame
theorem z8E{mem:List NodeQ}(h:mem.length+nmL NodeQ.n mem≤1048576)(k:Nat)(hk:k<mem.length):mem[k].done.length+nmL TxnQ.n mem[k].done≤1048576:=by
 have h2:=z1d NodeQ.n mem k hk;have h3:mem[k].done.length+nmL TxnQ.n mem[k].done≤NodeQ.n mem[k]:=by
  show _≤RepQ.n mem[k].r;have e1:mem[k].r.done=mem[k].done:=rfl;simp only[RepQ.n,e1];omega
 omega
end Go.Proofs.YtgdedpgldhbfhaaGreatDoor
