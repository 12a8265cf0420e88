/- Texts joined,with what the laws reach alone. -/
import Derived.Test.YtgdedpgldhbfhaaGreatDoorQAAA
set_option linter.unusedVariables false
set_option linter.unusedSimpArgs false
set_option maxRecDepth 100000
namespace Go.Proofs.YtgdedpgldhbfhaaGreatDoor
open Go.RowKit Go.BigFrame
theorem q20(c d n l t:Int)(w:World):
  Calls Tryz.prog 11 #[.agg #[.int .i64 c,.int .i64 d,.int .i64 n,.int .i64 l,.int .i64 t],.agg #[.int .i64 c,.int .i64 d,.int .i64 n,.int .i64 l,.int .i64 t]] w fun e w'=>e=.returned (.bool true)∧Below w.heap.size w w':=by
 have h1:(c !=c)=false:=by simp
 have h2:(d !=d)=false:=by simp
 have h3:(n !=n)=false:=by simp
 have h4:(l !=l)=false:=by simp
 have h5:(t !=t)=false:=by simp
 have hb:Below w.heap.size w ((w.alloc (.cells #[.int .i64 c,.int .i64 d,.int .i64 n,.int .i64 l,.int .i64 t] 28)).alloc (.cells #[.int .i64 c,.int .i64 d,.int .i64 n,.int .i64 l,.int .i64 t] 28)):=by go_grown
 go_enter Tryz.func11,Tryz.ntmps11
 go_wp2
 go_ret;exact⟨rfl,hb⟩
end Go.Proofs.YtgdedpgldhbfhaaGreatDoor
