/- Texts joined, with what the laws reach alone. -/
import Derived.Test.YtpmkhnakgeillaaGreatDoorSNAQ
set_option linter.unusedVariables false
set_option linter.unusedSimpArgs false
namespace Go.Proofs.YtpmkhnakgeillaaGreatDoor
open Go.RowKit Go.Deep Go.ChangeShapes Go.WideShapes
set_option maxRecDepth 100000
section
variable {H:Type} {enc:TypeId × Value→H} {w:World} {base:Nat} {spare:Nat→Bool} {held:Bool}
theorem open_instK (n:Nat) (l:List Value) (y:DataW H × List MemPlace) (h:DataW.trod enc Tryz.prog w base spare held n 123 l=some y):∃ p:InstQ,l=instK.cells p∧instK.rd w p∧InstQ.wf p:=by
 obtain ⟨p,e,h1,h2⟩:=open_instCells h
 exact ⟨p,e,h1,h2⟩

theorem open_instsV {r:Reach} {b0:Nat} {v:Value} {d:DataW H} {p:List MemPlace} (hv:Value.okWide Tryz.prog w r b0 56 v) (h:DataW.Trod enc Tryz.prog w base spare held 56 v d p) :
  ∃ ps:List InstQ,instK.At w v ps∧ps.length≤9223372036854775807∧∀ p∈ps,InstQ.wf p:=by
 obtain ⟨a0,len0,cap0,rfl⟩:=okWide_slice Tryz.underlying56 hv
 obtain ⟨fuel,hf⟩:=h
 obtain ⟨v,ps,e,h1,h2,h3⟩:=open_kind instK InstQ.wf Tryz.underlying56 (by kernel_rfl) (by decide) open_instK hf
 simp [Value.cells] at e
 rw [← e] at h1
 exact ⟨ps,h1,h2,h3⟩

end
end Go.Proofs.YtpmkhnakgeillaaGreatDoor
namespace Go.Proofs.YtpmkhnakgeillaaGreatDoor
open Go.RowKit Go.Deep Go.ChangeShapes Go.WideShapes
set_option maxRecDepth 100000
section
variable {H:Type} {enc:TypeId × Value→H} {w:World} {base:Nat} {spare:Nat→Bool} {held:Bool}
theorem trod_struct5 {P:Program} {t:TypeId} {f0 f1 f2 f3 f4:Field} {fuel:Nat} {cs:List Value} {x:DataW H × List MemPlace} (ht:P.underlying t=some (.struct #[f0,f1,f2,f3,f4])) (h:DataW.trod enc P w base spare held fuel t cs=some x) :
  ∃ y0 y1 y2 y3 y4 n,cs.length=P.cellsOf t∧DataW.trod enc P w base spare held n f0.type ((cs.drop f0.offset).take (P.cellsOf f0.type))=some y0 ∧
   DataW.trod enc P w base spare held n f1.type ((cs.drop f1.offset).take (P.cellsOf f1.type))=some y1∧DataW.trod enc P w base spare held n f2.type ((cs.drop f2.offset).take (P.cellsOf f2.type))=some y2 ∧
   DataW.trod enc P w base spare held n f3.type ((cs.drop f3.offset).take (P.cellsOf f3.type))=some y3∧DataW.trod enc P w base spare held n f4.type ((cs.drop f4.offset).take (P.cellsOf f4.type))=some y4:=by
 obtain ⟨xs,n,_,rfl,hl,hlen,hf⟩:=DataW.trod_struct ht h
 match xs,hlen with
 | [y0,y1,y2,y3,y4],_=>exact ⟨y0,y1,y2,y3,y4,n,hl,by simpa using hf 0 f0 rfl,by simpa using hf 1 f1 rfl,by simpa using hf 2 f2 rfl,by simpa using hf 3 f3 rfl,by simpa using hf 4 f4 rfl⟩

set_option maxRecDepth 100000 in
theorem open_item {fuel:Nat} {cs:List Value} {x:DataW H × List MemPlace} (h:DataW.trod enc Tryz.prog w base spare held fuel 270 cs=some x):∃ z:ItemD,cs=z.cells:=by
 obtain ⟨y0,y1,n,_,hl,h0,h1⟩:=trod_struct2 Tryz.underlying270 h
 rw [show Tryz.prog.cellsOf 270=2 by kernel_rfl] at hl
 have e:Tryz.prog.cellsOf 2=1:=by kernel_rfl
 match cs,hl with
 | [c0,c1],_=>
  simp only [e,List.drop_zero,List.drop_succ_cons,List.take_succ_cons,List.take_zero] at h0 h1
  obtain ⟨k,e0,_⟩:=DataW.trod_int Tryz.underlying2 h0
  obtain ⟨y,e1,_⟩:=DataW.trod_int Tryz.underlying2 h1
  simp only [List.cons.injEq,and_true] at e0 e1
  exact ⟨⟨k,y⟩,by rw [e0,e1];rfl⟩

set_option maxRecDepth 100000 in
theorem open_undo {fuel:Nat} {cs:List Value} {x:DataW H × List MemPlace} (h:DataW.trod enc Tryz.prog w base spare held fuel 329 cs=some x):∃ z:UndoD,cs=z.cells:=by
 obtain ⟨y0,y1,y2,n,_,hl,h0,h1,h2⟩:=trod_struct3 Tryz.underlying329 h
 rw [show Tryz.prog.cellsOf 329=3 by kernel_rfl] at hl
 have e:Tryz.prog.cellsOf 2=1:=by kernel_rfl
 have e' : Tryz.prog.cellsOf 4=1:=by kernel_rfl
 match cs,hl with
 | [c0,c1,c2],_=>
  simp only [e,e',List.drop_zero,List.drop_succ_cons,List.take_succ_cons,List.take_zero] at h0 h1 h2
  obtain ⟨k,e0,_⟩:=DataW.trod_int Tryz.underlying2 h0
  obtain ⟨y,e1,_⟩:=DataW.trod_bool Tryz.underlying4 h1
  obtain ⟨v,e2,_⟩:=DataW.trod_int Tryz.underlying2 h2
  simp only [List.cons.injEq,and_true] at e0 e1 e2
  exact ⟨⟨k,y,v⟩,by rw [e0,e1,e2];rfl⟩

theorem open_itemK (n:Nat) (l:List Value) (y:DataW H × List MemPlace) (h:DataW.trod enc Tryz.prog w base spare held n 270 l=some y):∃ p:ItemD,l=itemK.cells p∧itemK.rd w p∧True:=by
 obtain ⟨z,e⟩:=open_item h
 exact ⟨z,e,trivial,trivial⟩

theorem open_itemsK {fuel:Nat} {cs:List Value} {x:DataW H × List MemPlace} (h:DataW.trod enc Tryz.prog w base spare held fuel 58 cs=some x) :
  ∃ (v:Value) (zs:List ItemD),cs=[v]∧itemK.At w v zs∧zs.length≤9223372036854775807:=by
 obtain ⟨v,ps,h1,h2,h3,_⟩:=open_kind itemK (fun _=>True) Tryz.underlying58 (by kernel_rfl) (by decide) open_itemK h
 exact ⟨v,ps,h1,h2,h3⟩

theorem open_undoK (n:Nat) (l:List Value) (y:DataW H × List MemPlace) (h:DataW.trod enc Tryz.prog w base spare held n 329 l=some y):∃ p:UndoD,l=undoK.cells p∧undoK.rd w p∧True:=by
 obtain ⟨z,e⟩:=open_undo h
 exact ⟨z,e,trivial,trivial⟩

theorem open_undosK (n:Nat) (l:List Value) (y:DataW H × List MemPlace) (h:DataW.trod enc Tryz.prog w base spare held n 267 l=some y):∃ p:USQ,l=ussK.cells p∧ussK.rd w p∧USQ.wf p:=by
 obtain ⟨v,ps,h1,h2,h3,_⟩:=open_kind undoK (fun _=>True) Tryz.underlying267 (by kernel_rfl) (by decide) open_undoK h
 exact ⟨⟨v,ps⟩,h1,h2,h3⟩

theorem open_ussK {fuel:Nat} {cs:List Value} {x:DataW H × List MemPlace} (h:DataW.trod enc Tryz.prog w base spare held fuel 59 cs=some x) :
  ∃ (v:Value) (ps:List USQ),cs=[v]∧ussK.At w v ps∧ps.length≤9223372036854775807∧∀ p∈ps,USQ.wf p:=
 open_kind ussK USQ.wf Tryz.underlying59 (by kernel_rfl) (by decide) open_undosK h

theorem open_repCells {fuel:Nat} {cs:List Value} {x:DataW H × List MemPlace} (h:DataW.trod enc Tryz.prog w base spare held fuel 61 cs=some x) :
  ∃ p:RepQ,cs=[p.vd,p.vb,p.vt,p.vu,p.vn]∧repK.rd w p∧p.wf:=by
 obtain ⟨y0,y1,y2,y3,y4,n,hl,h0,h1,h2,h3,h4⟩:=trod_struct5 Tryz.underlying61 h
 rw [show Tryz.prog.cellsOf 61=5 by kernel_rfl] at hl
 have e:Tryz.prog.cellsOf 57=1:=by kernel_rfl
 have e' : Tryz.prog.cellsOf 58=1:=by kernel_rfl
 have e2:Tryz.prog.cellsOf 59=1:=by kernel_rfl
 match cs,hl with
 | [c0,c1,c2,c3,c4],_=>
  simp only [e,e',e2,List.drop_zero,List.drop_succ_cons,List.take_succ_cons,List.take_zero] at h0 h1 h2 h3 h4
  obtain ⟨v0,z0,e0,a0,l0,w0⟩:=open_txnsK h0
  obtain ⟨v1,z1,e1,a1,l1⟩:=open_itemsK h1
  obtain ⟨v2,z2,e2,a2,l2,w2⟩:=open_txnsK h2
  obtain ⟨v3,z3,e3,a3,l3,w3⟩:=open_ussK h3
  obtain ⟨v4,z4,e4,a4,l4⟩:=open_itemsK h4
  simp only [List.cons.injEq,and_true] at e0 e1 e2 e3 e4
  exact ⟨⟨v0,z0,v1,z1,v2,z2,v3,z3,v4,z4⟩,by rw [e0,e1,e2,e3,e4],⟨a0,a1,a2,a3,a4⟩,⟨⟨l0,w0⟩,l1,⟨l2,w2⟩,⟨l3,w3⟩,l4⟩⟩

end
end Go.Proofs.YtpmkhnakgeillaaGreatDoor
namespace Go.Proofs.YtpmkhnakgeillaaGreatDoor
open Go.RowKit Go.Deep Go.ChangeShapes Go.WideShapes
set_option maxRecDepth 100000
section
variable {H:Type} {enc:TypeId × Value→H} {w:World} {base:Nat} {spare:Nat→Bool} {held:Bool}
set_option maxRecDepth 100000 in
theorem open_nodeCells {fuel:Nat} {cs:List Value} {x:DataW H × List MemPlace} (h:DataW.trod enc Tryz.prog w base spare held fuel 63 cs=some x) :
  ∃ (kn sf:Int) (p:RepQ),cs=[.int .i64 kn,.int .i64 sf,p.vd,p.vb,p.vt,p.vu,p.vn]∧repK.rd w p∧p.wf:=by
 obtain ⟨y0,y1,y2,n,_,hl,h0,h1,h2⟩:=trod_struct3 Tryz.underlying63 h
 rw [show Tryz.prog.cellsOf 63=7 by kernel_rfl] at hl
 have e:Tryz.prog.cellsOf 2=1:=by kernel_rfl
 have e' : Tryz.prog.cellsOf 61=5:=by kernel_rfl
 match cs,hl with
 | [c0,c1,c2,c3,c4,c5,c6],_=>
  simp only [e,e',List.drop_zero,List.drop_succ_cons,List.take_succ_cons,List.take_zero] at h0 h1 h2
  obtain ⟨k,e0,_⟩:=DataW.trod_int Tryz.underlying2 h0
  obtain ⟨s,e1,_⟩:=DataW.trod_int Tryz.underlying2 h1
  obtain ⟨p,e2,r,wf⟩:=open_repCells h2
  simp only [List.cons.injEq,and_true] at e0 e1 e2
  exact ⟨k,s,p,by rw [e0,e1,e2.1,e2.2.1,e2.2.2.1,e2.2.2.2.1,e2.2.2.2.2],r,wf⟩

theorem open_node {r:Reach} {b0:Nat} {v:Value} {d:DataW H} {p:List MemPlace} (hv:Value.okWide Tryz.prog w r b0 63 v) (h:DataW.Trod enc Tryz.prog w base spare held 63 v d p) :
  ∃ (kn sf:Int) (q:RepQ),v=.agg #[.int .i64 kn,.int .i64 sf,q.vd,q.vb,q.vt,q.vu,q.vn]∧repK.rd w q∧q.wf:=by
 obtain ⟨cs,rfl,hsz⟩:=okWide_struct Tryz.underlying63 hv
 obtain ⟨fuel,hf⟩:=h
 obtain ⟨kn,sf,q,e,h1,h2⟩:=open_nodeCells hf
 refine ⟨kn,sf,q,?_,h1,h2⟩
 congr 1
 apply Array.ext'
 simpa [Value.cells] using e

end
end Go.Proofs.YtpmkhnakgeillaaGreatDoor
namespace Go.Proofs.YtpmkhnakgeillaaGreatDoor
open Go.RowKit Go.ChangeShapes Go.WideShapes
set_option maxRecDepth 100000
theorem rul_of_met {W : World} (h : laidMet Tryz.prog [("loop.example/g00631/impl.rules", Rows.laid_loop_example_g00631_impl_rules)] W) : Rul W := by
 obtain ⟨g,t,cs,fuel,p,hg,ht,hvar,hd⟩:=Lib.laidMet.reads h (List.mem_singleton.2 rfl)
 obtain rfl:=Option.some.inj (gRul.symm.trans hg)
 obtain rfl:=Option.some.inj (tRul.symm.trans ht)
 unfold Rows.laid_loop_example_g00631_impl_rules at hd
 have e:∀ i,i < 5→∃ fuel' d q,_∧_:=fun i hi=>Lib.array_elem Tryz.underlying402 hd i hi
 rw [cRule] at e
 obtain ⟨f0,d0,q0,r0,s0⟩:=e 0 (by omega)
 obtain ⟨f1,d1,q1,r1,s1⟩:=e 1 (by omega)
 obtain ⟨f2,d2,q2,r2,s2⟩:=e 2 (by omega)
 obtain ⟨f3,d3,q3,r3,s3⟩:=e 3 (by omega)
 obtain ⟨f4,d4,q4,r4,s4⟩:=e 4 (by omega)
 simp only [List.getElem?_cons_zero,List.getElem?_cons_succ,Option.some.injEq] at r0 r1 r2 r3 r4
 subst r0 r1 r2 r3 r4
 have t0:=rule_cells s0
 have t1:=rule_cells s1
 have t2:=rule_cells s2
 have t3:=rule_cells s3
 have t4:=rule_cells s4
 have hall:cs.toList.take 35=rulL:=by
  rw [show 35=0 * 7 + 7 + 7 + 7 + 7 + 7 from rfl,List.take_add,List.take_add,List.take_add,List.take_add]
  rw [show 0 * 7 + 7 + 7 + 7 + 7=4 * 7 from rfl,show 0 * 7 + 7 + 7 + 7=3 * 7 from rfl,show 0 * 7 + 7 + 7=2 * 7 from rfl,show 0 * 7 + 7=1 * 7 from rfl,t1,t2,t3,t4]
  have t0' : List.take (1 * 7) cs.toList=_:=t0
  rw [t0']
  rfl
 intro i v hv
 have hi:i < 35:=by
  have:=(List.getElem?_eq_some_iff.1 hv).1
  simpa [rulL] using this
 rw [World.var?_cell hg hvar i,← Array.getElem?_toList]
 rw [← hall,List.getElem?_take,if_pos hi] at hv
 exact hv

end Go.Proofs.YtpmkhnakgeillaaGreatDoor
