import Derived.Test.YtlkpdgjnhkjpjaaGreatDoorSUAQ
set_option linter.unusedVariables false
set_option linter.unusedSimpArgs false
set_option maxRecDepth 100000
namespace Go.Proofs.YtlkpdgjnhkjpjaaGreatDoor
open Go.RowKit Go.BigFrame
section
open Go.ChangeShapes Go.WideShapes
theorem q53 {W : World} (h : laidMet Tryz.prog [("loop.example/g00631/impl.rules", Rows.laid_loop_example_g00631_impl_rules)] W) : Rul W := by
 obtain⟨g,t,cs,fuel,p,hg,ht,hvar,hd⟩:=Lib.laidMet.reads h (List.mem_singleton.2 rfl);obtain rfl:=Option.some.inj (gRul.symm.trans hg);obtain rfl:=Option.some.inj (tRul.symm.trans ht);unfold Rows.laid_loop_example_g00631_impl_rules at hd;have e:∀i,i<5→∃fuel' d q,_∧_:=fun i hi=>Lib.array_elem Tryz.underlying402 hd i hi
 rw[q6p]at e;obtain⟨f0,d0,q0,r0,s0⟩:=e 0 (by omega);obtain⟨f1,d1,q1,r1,s1⟩:=e 1 (by omega);obtain⟨f2,d2,q2,r2,s2⟩:=e 2 (by omega);obtain⟨f3,d3,q3,r3,s3⟩:=e 3 (by omega);obtain⟨f4,d4,q4,r4,s4⟩:=e 4 (by omega);simp only[List.getElem?_cons_zero,List.getElem?_cons_succ,Option.some.injEq]at r0 r1 r2 r3 r4;subst r0 r1 r2 r3 r4;have t0:=z2b s0;have t1:=z2b s1;have t2:=z2b s2;have t3:=z2b s3;have t4:=z2b s4;have hall:cs.toList.take 35=q6U:=by
  rw[show 35=0*7+7+7+7+7+7 from rfl,List.take_add,List.take_add,List.take_add,List.take_add];rw[show 0*7+7+7+7+7=4*7 from rfl,show 0*7+7+7+7=3*7 from rfl,show 0*7+7+7=2*7 from rfl,show 0*7+7=1*7 from rfl,t1,t2,t3,t4];have t0':List.take (1*7) cs.toList=_:=t0;rw[t0'];rfl
 intro i v hv;have hi:i<35:=by
  have:=(List.getElem?_eq_some_iff.1 hv).1;simpa[q6U]using this
 rw[World.var?_cell hg hvar i,←Array.getElem?_toList];rw[←hall,List.getElem?_take,if_pos hi]at hv;exact hv
end
end Go.Proofs.YtlkpdgjnhkjpjaaGreatDoor
