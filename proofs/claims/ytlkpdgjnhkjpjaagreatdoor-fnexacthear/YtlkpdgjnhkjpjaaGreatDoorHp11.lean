/- Hear in plain words. No condition. -/
import Derived.Test.YtlkpdgjnhkjpjaaGreatDoorSYAT
import Derived.Test.YtlkpdgjnhkjpjaaGreatDoorSYBF
import Derived.Test.YtlkpdgjnhkjpjaaGreatDoorSYBM
set_option linter.unusedVariables false
set_option linter.unusedSimpArgs false
set_option maxRecDepth 100000
namespace Go.Proofs.YtlkpdgjnhkjpjaaGreatDoor
open Go.RowKit Go.BigFrame
def heC(ds:List InstE)(kn sf:Int)(x:RepE)(t:TxnD):Int:=if nodF ds kn sf x=0 then opC x t else nodF ds kn sf x
def heA(ds:List InstE)(kn sf:Int)(x:RepE)(t:TxnD):Int:=if heC ds kn sf x t=0 then opA x t else 0
def heK(ds:List InstE)(kn sf:Int)(x:RepE)(t:TxnD):Int:=if heC ds kn sf x t=0 then kn else 0
def heS(ds:List InstE)(kn sf:Int)(x:RepE)(t:TxnD):Int:=if heC ds kn sf x t=0 then sf else 0
def heE(ds:List InstE)(kn sf:Int)(x:RepE)(t:TxnD):RepE:=if heC ds kn sf x t=0 then opE x t else⟨[],[],[],[],[]⟩
theorem z33{p q:RepQ}(h:p.e=q.e):p.n=q.n:=by
  have e1:∀l:List USQ,nmL USQ.n l=nmL List.length (l.map USQ.e):=fun l=>by simp only[nmL,List.map_map];rfl
  have e2:∀l:List TxnQ,nmL TxnQ.n l=nmL TxnD.n (l.map TxnQ.e):=fun l=>by simp only[nmL,List.map_map];rfl
  simp only[RepQ.e,RepE.mk.injEq]at h;obtain⟨h0,h1,h2,h3,h4⟩:=h;have l0:=congrArg List.length h0;have l2:=congrArg List.length h2;have l3:=congrArg List.length h3;simp only[List.length_map]at l0 l2 l3;simp only[RepQ.n,e1,e2,h0,h1,h2,h3,h4,l0,l2,l3]
theorem z25{ds:List InstE}{kn sf:Int}{x:RepE}{t:TxnD}{c:Int}(h:heC ds kn sf x t=c)(hc:c≠0):heC ds kn sf x t=c∧heA ds kn sf x t=0∧heK ds kn sf x t=0∧heS ds kn sf x t=0∧heE ds kn sf x t=⟨[],[],[],[],[]⟩:=by
  have h0:heC ds kn sf x t≠0:=by rw[h];exact hc
  exact⟨h,if_neg h0,if_neg h0,if_neg h0,if_neg h0⟩
theorem z36{ds:List InstE}{kn sf:Int}{x:RepE}{t:TxnD}(h:heC ds kn sf x t=0):heC ds kn sf x t=0∧heA ds kn sf x t=opA x t∧heK ds kn sf x t=kn∧heS ds kn sf x t=sf∧heE ds kn sf x t=opE x t:=⟨h,if_pos h,if_pos h,if_pos h,if_pos h⟩
end Go.Proofs.YtlkpdgjnhkjpjaaGreatDoor
