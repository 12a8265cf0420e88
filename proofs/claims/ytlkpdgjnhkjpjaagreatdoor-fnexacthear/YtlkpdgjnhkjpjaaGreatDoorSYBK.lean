/- Texts joined,with what the laws reach alone. -/
import Derived.Test.YtlkpdgjnhkjpjaaGreatDoorSYBG
set_option linter.unusedVariables false
set_option linter.unusedSimpArgs false
set_option maxRecDepth 100000
set_option maxHeartbeats 1000000
namespace Go.Proofs.YtlkpdgjnhkjpjaaGreatDoor
open Go.RowKit Go.BigFrame
theorem q7a{w W w':World}{r:Option Nat}(h:Below w.heap.size w W)(hg:W.grownBy w' r):w.grownBy w' r:=
 ⟨hg.os.trans h.os,hg.tape.trans h.tape,hg.output.trans h.output,Nat.le_trans h.size hg.size,fun i hi hne=>(hg.block i (Nat.lt_of_lt_of_le hi h.size) hne).trans (h.block i hi)⟩
theorem q7b(i s q:Int)(base:Nat)(v:Value)(n:Nat)(xs:List Value)(c:Int)(w:World)(h:w.ownsRow base 144 3 v n xs)(hn:n≤1099511627776)(h0:0≤c)(h1:c≤1099511627776):
  Calls Tryz.prog 49 #[.agg #[.int .i64 i,.int .i64 s,.int .i64 q,v],.int .i64 c] w fun e w'=>e=.returned (.int .i64 (c+((n*3:Nat):Int)))∧w'.ownsRow base 144 3 v n (z0o (z1n c n))∧w.grownBy w' v.ownBlock:=by
 obtain⟨a,k,rfl⟩:=z0f h;go_enter Tryz.func49,Tryz.ntmps49
 go_wp2_with (go_at_call 93;refine(z72 base _ n xs c _ (z0a h (by go_grown)) hn h0 h1).mono ?_;rintro e w' ⟨rfl,ho,hg⟩)
 go_ret;exact⟨rfl,ho,q7a (by go_grown) hg⟩
end Go.Proofs.YtlkpdgjnhkjpjaaGreatDoor
