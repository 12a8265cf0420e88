import Derived.Test.YtdppipeclnldeaaGreatDoorOBAM
set_option linter.unusedVariables false
set_option linter.unusedSimpArgs false
set_option maxRecDepth 100000
namespace Go.Proofs.YtdppipeclnldeaaGreatDoor
open Go.RowKit Go.BigFrame
section
open Go.Deep Go.ChangeShapes Go.WideShapes
section
variable {H:Type} {enc:TypeId × Value→H} {w:World} {base:Nat} {spare:Nat→Bool} {held:Bool}
theorem q1H(n:Nat)(l:List Value)(y:DataW H × List MemPlace)(h:DataW.trod enc Tryz.prog w base spare held n 85 l=some y):∃p:NodeQ,l=nodeK.cells p∧nodeK.rd w p∧NodeQ.wf p:=by
 obtain⟨kn,sf,p,e,h1,h2⟩:=z6C h;exact⟨NodeQ.of kn sf p,e,h1,h2⟩
theorem q6z{r:Reach}{b0:Nat}{v:Value}{d:DataW H}{p:List MemPlace}(hv:Value.okWide Tryz.prog w r b0 25 v)(h:DataW.Trod enc Tryz.prog w base spare held 25 v d p):
  ∃q:CluQ,v=.agg #[q.vo,q.vm]∧cluK.rd w q∧q.wf:=by
 obtain⟨cs,rfl,hsz⟩:=okWide_struct Tryz.underlying25 hv;obtain⟨fuel,hf⟩:=h;obtain⟨y0,y1,n,_,hl,h0,h1⟩:=trod_struct2 Tryz.underlying25 hf;rw[show Tryz.prog.cellsOf 25=2 by kernel_rfl]at hl;have e0:Tryz.prog.cellsOf 22=1:=by kernel_rfl
 have e1:Tryz.prog.cellsOf 23=1:=by kernel_rfl
 obtain⟨l⟩:=cs
 match l,hl with
 |[c0,c1],_=>
  simp only[Value.cells,e0,e1,List.drop_zero,List.drop_succ_cons,List.take_succ_cons,List.take_zero]at h0 h1;obtain⟨v0,ps,f0,r0,l0,w0⟩:=z1H instK InstQ.wf Tryz.underlying22 (by kernel_rfl) (by decide) q1E h0;obtain⟨v1,qs,f1,r1,l1,w1⟩:=z1H nodeK NodeQ.wf Tryz.underlying23 (by kernel_rfl) (by decide) q1H h1;simp only[List.cons.injEq,and_true]at f0 f1;subst f0 f1;exact⟨⟨c0,ps,c1,qs⟩,rfl,⟨r0,r1⟩,⟨l0,w0⟩,⟨l1,w1⟩⟩
end
end
section
open Go.ChangeShapes Go.WideShapes
theorem q51 {W : World} (h : laidMet Tryz.prog [("loop.example/g00631/impl.rules", Rows.laid_loop_example_g00631_impl_rules)] W) : Rul W := by
 obtain⟨g,t,cs,fuel,p,hg,ht,hvar,hd⟩:=Lib.laidMet.reads h (List.mem_singleton.2 rfl);obtain rfl:=Option.some.inj (gRul.symm.trans hg);obtain rfl:=Option.some.inj (tRul.symm.trans ht);unfold Rows.laid_loop_example_g00631_impl_rules at hd;have e:∀i,i<5→∃fuel' d q,_∧_:=fun i hi=>Lib.array_elem Tryz.underlying355 hd i hi
 rw[q6l]at e;obtain⟨f0,d0,q0,r0,s0⟩:=e 0 (by omega);obtain⟨f1,d1,q1,r1,s1⟩:=e 1 (by omega);obtain⟨f2,d2,q2,r2,s2⟩:=e 2 (by omega);obtain⟨f3,d3,q3,r3,s3⟩:=e 3 (by omega);obtain⟨f4,d4,q4,r4,s4⟩:=e 4 (by omega);simp only[List.getElem?_cons_zero,List.getElem?_cons_succ,Option.some.injEq]at r0 r1 r2 r3 r4;subst r0 r1 r2 r3 r4;have t0:=z2b s0;have t1:=z2b s1;have t2:=z2b s2;have t3:=z2b s3;have t4:=z2b s4;have hall:cs.toList.take 35=q6J:=by
  rw[show 35=0*7+7+7+7+7+7 from rfl,List.take_add,List.take_add,List.take_add,List.take_add];rw[show 0*7+7+7+7+7=4*7 from rfl,show 0*7+7+7+7=3*7 from rfl,show 0*7+7+7=2*7 from rfl,show 0*7+7=1*7 from rfl,t1,t2,t3,t4];have t0':List.take (1*7) cs.toList=_:=t0;rw[t0'];rfl
 intro i v hv;have hi:i<35:=by
  have:=(List.getElem?_eq_some_iff.1 hv).1;simpa[q6J]using this
 rw[World.var?_cell hg hvar i,←Array.getElem?_toList];rw[←hall,List.getElem?_take,if_pos hi]at hv;exact hv
end
end Go.Proofs.YtdppipeclnldeaaGreatDoor
