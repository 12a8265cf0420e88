import Derived.Test.YtlkpdgjnhkjpjaaGreatDoorSYAT
import Derived.Test.YtlkpdgjnhkjpjaaGreatDoorSYBF
import Derived.Deep.Slices
import Derived.Deep.Strs
import Derived.LaidMore
import Derived.Lib.LaidU8
import Derived.Lib.SmallJoins
import Derived.OpenVars
import Derived.ProofKit
import Derived.Stop.Joined
import Derived.Stop.LaidErr
set_option linter.unusedVariables false
set_option linter.unusedSimpArgs false
set_option maxRecDepth 100000
set_option maxHeartbeats 2000000
namespace Go.Proofs.YtlkpdgjnhkjpjaaGreatDoor
open Go.RowKit Go.BigFrame Go.Deep Go.ChangeShapes Go.WideShapes
open Go.Proofs.Tryz renaming prog->K
variable {H:Type} {enc:TypeId × Value→H} {w:World} {base:Nat} {spare:Nat→Bool} {held:Bool}
theorem q7h(n:Nat)(l:List Value)(y:DataW H × List MemPlace)(h:DataW.trod enc K w base spare held n 2 l=some y):∃p:Int,l=intK.cells p∧intK.rd w p∧True:=by
 obtain⟨k,e,_⟩:=DataW.trod_int Tryz.underlying2 h;exact⟨k,e,trivial,trivial⟩
theorem q7c{fuel:Nat}{cs:List Value}{x:DataW H × List MemPlace}(h:DataW.trod enc K w base spare held fuel 115 cs=some x):
  ∃ (v:Value) (zs:List Int),cs=[v]∧intK.At w v zs∧zs.length≤9223372036854775807:=by
 obtain⟨v,ps,h1,h2,h3,_⟩:=z38 intK (fun _=>True) Tryz.underlying115 (by kernel_rfl) (by decide) q7h h;exact⟨v,ps,h1,h2,h3⟩
theorem q7f(n:Nat)(l:List Value)(y:DataW H × List MemPlace)(h:DataW.trod enc K w base spare held n 265 l=some y):∃p:RoundQ,l=roundK.cells p∧roundK.rd w p∧RoundQ.wf p:=by
 obtain⟨y0,y1,n,_,hl,h0,h1⟩:=trod_struct2 Tryz.underlying265 h;rw[show K.cellsOf 265=2 by kernel_rfl]at hl;have e:K.cellsOf 115=1:=by kernel_rfl
 match l,hl with
 |[c0,c1],_=>
  simp only[e,List.drop_zero,List.drop_succ_cons,List.take_succ_cons,List.take_zero]at h0 h1;obtain⟨v0,z0,e0,a0,l0⟩:=q7c h0;obtain⟨v1,z1,e1,a1,l1⟩:=q7c h1;simp only[List.cons.injEq,and_true]at e0 e1;exact⟨⟨v0,z0,v1,z1⟩,by rw[e0,e1];rfl,⟨a0,a1⟩,⟨l0,l1⟩⟩
theorem q7e{fuel:Nat}{cs:List Value}{x:DataW H × List MemPlace}(h:DataW.trod enc K w base spare held fuel 121 cs=some x):
  ∃ (v:Value) (ps:List RoundQ),cs=[v]∧roundK.At w v ps∧ps.length≤9223372036854775807∧∀p∈ps,RoundQ.wf p:=
 z38 roundK RoundQ.wf Tryz.underlying121 (by kernel_rfl) (by decide) q7f h
theorem q7d{fuel:Nat}{cs:List Value}{x:DataW H × List MemPlace}(h:DataW.trod enc K w base spare held fuel 123 cs=some x):
  ∃p:InstQ,cs=[.bool p.has,p.vb,p.vr,p.vd]∧instK.rd w p∧p.wf:=by
 obtain⟨y0,y1,y2,y3,n,_,hl,h0,h1,h2,h3⟩:=Go.Joins.trod_struct4 Tryz.underlying123 h;rw[show K.cellsOf 123=4 by kernel_rfl]at hl;have e:K.cellsOf 4=1:=by kernel_rfl
 have e':K.cellsOf 57=1:=by kernel_rfl
 have e2:K.cellsOf 121=1:=by kernel_rfl
 have e3:K.cellsOf 115=1:=by kernel_rfl
 match cs,hl with
 |[c0,c1,c2,c3],_=>
  simp only[e,e',e2,e3,List.drop_zero,List.drop_succ_cons,List.take_succ_cons,List.take_zero]at h0 h1 h2 h3;obtain⟨k,e0,_⟩:=DataW.trod_bool Tryz.underlying4 h0;obtain⟨v1,z1,e1,a1,l1,w1⟩:=z6O h1;obtain⟨v2,z2,e2,a2,l2,w2⟩:=q7e h2;obtain⟨v3,z3,e3,a3,l3⟩:=q7c h3;simp only[List.cons.injEq,and_true]at e0 e1 e2 e3;exact⟨⟨k,v1,z1,v2,z2,v3,z3⟩,by rw[e0,e1,e2,e3],⟨a1,a2,a3⟩,⟨⟨l1,w1⟩,⟨l2,w2⟩,l3⟩⟩
theorem q7g(n:Nat)(l:List Value)(y:DataW H × List MemPlace)(h:DataW.trod enc K w base spare held n 123 l=some y):∃p:InstQ,l=instK.cells p∧instK.rd w p∧InstQ.wf p:=by
 obtain⟨p,e,h1,h2⟩:=q7d h;exact⟨p,e,h1,h2⟩
theorem q7i{r:Reach}{b0:Nat}{v:Value}{d:DataW H}{p:List MemPlace}(hv:Value.okWide K w r b0 56 v)(h:DataW.Trod enc K w base spare held 56 v d p):
  ∃ps:List InstQ,instK.At w v ps∧ps.length≤9223372036854775807∧∀p∈ps,InstQ.wf p:=by
 obtain⟨a0,len0,cap0,rfl⟩:=okWide_slice Tryz.underlying56 hv;obtain⟨fuel,hf⟩:=h;obtain⟨v,ps,e,h1,h2,h3⟩:=z38 instK InstQ.wf Tryz.underlying56 (by kernel_rfl) (by decide) q7g hf;simp[Value.cells]at e;rw[←e]at h1;exact⟨ps,h1,h2,h3⟩
end Go.Proofs.YtlkpdgjnhkjpjaaGreatDoor
