/- Texts joined, with what the law reaches alone. -/
import Derived.Test.YthmcgflmejofbaaGreatDoorSRBB
import Derived.Test.YthmcgflmejofbaaGreatDoorSRAE
import Derived.Test.YthmcgflmejofbaaGreatDoorSRAG
import Derived.Test.YthmcgflmejofbaaGreatDoorSRAW
import Derived.Test.YthmcgflmejofbaaGreatDoorSRAR
set_option linter.unusedVariables false
set_option linter.unusedSimpArgs false
namespace Go.Proofs.YthmcgflmejofbaaGreatDoor
open Go.RowKit
open Go.BigFrame
set_option maxRecDepth 100000
/-- All is the same. -/
def sameRep (x y:RepE):Bool:=sameTs x.done y.done && (sameIs x.base y.base && (sameTs x.tent y.tent && (sameUss x.undos y.undos && sameIs x.now y.now)))

set_option maxHeartbeats 4000000 in
theorem implSameReplicas_any (p q:RepQ) (w:World) (h:repK.rd w p) (h' : repK.rd w q) (hl:p.n≤1048576) (hl' : q.n≤1048576) :
  Calls Tryz.prog 24 #[.agg #[p.vd,p.vb,p.vt,p.vu,p.vn],.agg #[q.vd,q.vb,q.vt,q.vu,q.vn]] w fun e w' => e=.returned (.bool (sameRep p.e q.e))∧Below w.heap.size w w' := by
 obtain ⟨pvd,pd,pvb,pb,pvt,pt,pvu,pu,pvn,pn⟩:=p
 obtain ⟨p0,p5,rfl⟩:∃ a c,pvd=.slice a pd.length c:=h.1.shape
 obtain ⟨p1,p6,rfl⟩:∃ a c,pvb=.slice a pb.length c:=h.2.1.shape
 obtain ⟨p2,p7,rfl⟩:∃ a c,pvt=.slice a pt.length c:=h.2.2.1.shape
 obtain ⟨p3,p8,rfl⟩:∃ a c,pvu=.slice a pu.length c:=h.2.2.2.1.shape
 obtain ⟨p4,p9,rfl⟩:∃ a c,pvn=.slice a pn.length c:=h.2.2.2.2.shape
 obtain ⟨qvd,qd,qvb,qb,qvt,qt,qvu,qu,qvn,qn⟩:=q
 obtain ⟨q0,q5,rfl⟩:∃ a c,qvd=.slice a qd.length c:=h'.1.shape
 obtain ⟨q1,q6,rfl⟩:∃ a c,qvb=.slice a qb.length c:=h'.2.1.shape
 obtain ⟨q2,q7,rfl⟩:∃ a c,qvt=.slice a qt.length c:=h'.2.2.1.shape
 obtain ⟨q3,q8,rfl⟩:∃ a c,qvu=.slice a qu.length c:=h'.2.2.2.1.shape
 obtain ⟨q4,q9,rfl⟩:∃ a c,qvn=.slice a qn.length c:=h'.2.2.2.2.shape
 dsimp only [RepQ.n] at hl hl'
 have c0:=fun w h h' => implSameTxns_any (.slice p0 pd.length p5) (.slice q0 qd.length q5) (pd.map TxnQ.e) (qd.map TxnQ.e) w (txnsAt_of' h) (txnsAt_of' h') (by rw [List.length_map,sumA_of'];omega) (by rw [List.length_map,sumA_of'];omega)
 have c1:=fun w h h' => implSameItems_any p1 q1 p6 q6 pb qb w h h' (by omega) (by omega)
 have c2:=fun w h h' => implSameTxns_any (.slice p2 pt.length p7) (.slice q2 qt.length q7) (pt.map TxnQ.e) (qt.map TxnQ.e) w (txnsAt_of' h) (txnsAt_of' h') (by rw [List.length_map,sumA_of'];omega) (by rw [List.length_map,sumA_of'];omega)
 have c3:=fun w h h' => equalUss_any (.slice p3 pu.length p8) (.slice q3 qu.length q8) pu qu w h h' (by omega) (by omega)
 have c4:=fun w h h' => implSameItems_any p4 q4 p9 q9 pn qn w h h' (by omega) (by omega)
 obtain ⟨r0,r1,r2,r3,r4⟩:txnK.At w (.slice p0 pd.length p5) pd∧itemK.At w (.slice p1 pb.length p6) pb∧txnK.At w (.slice p2 pt.length p7) pt∧ussK.At w (.slice p3 pu.length p8) pu∧itemK.At w (.slice p4 pn.length p9) pn:=h
 obtain ⟨s0,s1,s2,s3,s4⟩:txnK.At w (.slice q0 qd.length q5) qd∧itemK.At w (.slice q1 qb.length q6) qb∧txnK.At w (.slice q2 qt.length q7) qt∧ussK.At w (.slice q3 qu.length q8) qu∧itemK.At w (.slice q4 qn.length q9) qn:=h'
 replace r1:=(itemK_at r1).2
 replace r4:=(itemK_at r4).2
 replace s1:=(itemK_at s1).2
 replace s4:=(itemK_at s4).2
 have E:Hid (sameRep ⟨pd.map TxnQ.e,pb,pt.map TxnQ.e,pu.map USQ.e,pn⟩ ⟨qd.map TxnQ.e,qb,qt.map TxnQ.e,qu.map USQ.e,qn⟩=(sameTs (pd.map TxnQ.e) (qd.map TxnQ.e) && (sameIs pb qb && (sameTs (pt.map TxnQ.e) (qt.map TxnQ.e) && (sameUss (pu.map USQ.e) (qu.map USQ.e) && sameIs pn qn))))):=show _=_ from rfl
 dsimp only [RepQ.e]
 generalize sameTs (pd.map TxnQ.e) (qd.map TxnQ.e)=X0 at *
 generalize sameIs pb qb=X1 at *
 generalize sameTs (pt.map TxnQ.e) (qt.map TxnQ.e)=X2 at *
 generalize sameUss (pu.map USQ.e) (qu.map USQ.e)=X3 at *
 generalize sameIs pn qn=X4 at *
 generalize sameRep ⟨pd.map TxnQ.e,pb,pt.map TxnQ.e,pu.map USQ.e,pn⟩ ⟨qd.map TxnQ.e,qb,qt.map TxnQ.e,qu.map USQ.e,qn⟩=S at *
 have B:=(Blk.new w 28 #[.slice p0 pd.length p5,.slice p1 pb.length p6,.slice p2 pt.length p7,.slice p3 pu.length p8,.slice p4 pn.length p9]).below (w' := ((w.alloc (.cells #[.slice p0 pd.length p5,.slice p1 pb.length p6,.slice p2 pt.length p7,.slice p3 pu.length p8,.slice p4 pn.length p9] 28)).alloc (.cells #[.slice q0 qd.length q5,.slice q1 qb.length q6,.slice q2 qt.length q7,.slice q3 qu.length q8,.slice q4 qn.length q9] 28))) (by go_grown)
 have B' := Blk.new (w.alloc (.cells #[.slice p0 pd.length p5,.slice p1 pb.length p6,.slice p2 pt.length p7,.slice p3 pu.length p8,.slice p4 pn.length p9] 28)) 28 #[.slice q0 qd.length q5,.slice q1 qb.length q6,.slice q2 qt.length q7,.slice q3 qu.length q8,.slice q4 qn.length q9]
 have hB:Below w.heap.size w ((w.alloc (.cells #[.slice p0 pd.length p5,.slice p1 pb.length p6,.slice p2 pt.length p7,.slice p3 pu.length p8,.slice p4 pn.length p9] 28)).alloc (.cells #[.slice q0 qd.length q5,.slice q1 qb.length q6,.slice q2 qt.length q7,.slice q3 qu.length q8,.slice q4 qn.length q9] 28)):=by go_grown
 rw [World.size_alloc] at B'
 go_enter Tryz.func24,Tryz.ntmps24
 have f0:=B.cell 0 _ rfl
 have g0:=B'.cell 0 _ rfl
 go_wp2_with fail
 clear f0 g0
 generalize ((w.alloc (.cells #[.slice p0 pd.length p5,.slice p1 pb.length p6,.slice p2 pt.length p7,.slice p3 pu.length p8,.slice p4 pn.length p9] 28)).alloc (.cells #[.slice q0 qd.length q5,.slice q1 qb.length q6,.slice q2 qt.length q7,.slice q3 qu.length q8,.slice q4 qn.length q9] 28))=W at *
 refine (c0 W (r0.below hB) (s0.below hB)).mono ?_
 rintro e w0 ⟨rfl,hb⟩
 replace B:=B.below hb
 replace B' := B'.below hb
 replace hB:=hB.trans (hb.mono hB.size)
 clear hb
 cases X0 with
 | false=>
  go_wp2
  go_ret
  exact ⟨by rw [E.out];rfl,hB⟩
 | true=>
  have f1:=B.cell 1 _ rfl
  have g1:=B'.cell 1 _ rfl
  go_wp2_with fail
  clear f1 g1
  refine (c1 w0 (r1.below hB) (s1.below hB)).mono ?_
  rintro e w1 ⟨rfl,hb⟩
  replace B:=B.below hb
  replace B' := B'.below hb
  replace hB:=hB.trans (hb.mono hB.size)
  clear hb
  cases X1 with
  | false=>
   go_wp2
   go_ret
   exact ⟨by rw [E.out];rfl,hB⟩
  | true=>
   have f2:=B.cell 2 _ rfl
   have g2:=B'.cell 2 _ rfl
   go_wp2_with fail
   clear f2 g2
   refine (c2 w1 (r2.below hB) (s2.below hB)).mono ?_
   rintro e w2 ⟨rfl,hb⟩
   replace B:=B.below hb
   replace B' := B'.below hb
   replace hB:=hB.trans (hb.mono hB.size)
   clear hb
   cases X2 with
   | false=>
    go_wp2
    go_ret
    exact ⟨by rw [E.out];rfl,hB⟩
   | true=>
    have f3:=B.cell 3 _ rfl
    have g3:=B'.cell 3 _ rfl
    go_wp2_with fail
    clear f3 g3
    refine (c3 w2 (r3.below hB) (s3.below hB)).mono ?_
    rintro e w3 ⟨rfl,hb⟩
    replace B:=B.below hb
    replace B' := B'.below hb
    replace hB:=hB.trans (hb.mono hB.size)
    clear hb
    cases X3 with
    | false=>
     go_wp2
     go_ret
     exact ⟨by rw [E.out];rfl,hB⟩
    | true=>
     have f4:=B.cell 4 _ rfl
     have g4:=B'.cell 4 _ rfl
     go_wp2_with fail
     clear f4 g4
     refine (c4 w3 (r4.below hB) (s4.below hB)).mono ?_
     rintro e w4 ⟨rfl,hb⟩
     replace B:=B.below hb
     replace B' := B'.below hb
     replace hB:=hB.trans (hb.mono hB.size)
     clear hb
     go_wp2
     go_ret
     exact ⟨by rw [E.out];rfl,hB⟩

set_option maxHeartbeats 4000000 in
theorem l9Same_any (b b' : Nat) (p q:RepQ) (w:World) (hP:Blk w b 28 #[p.vd,p.vb,p.vt,p.vu,p.vn]) (hQ:Blk w b' 28 #[q.vd,q.vb,q.vt,q.vu,q.vn]) (h:repK.rd w p) (h' : repK.rd w q) (hl:p.n≤1048576) (hl' : q.n≤1048576) :
  Calls Tryz.prog 129 #[.pointer (some ⟨b,0,none⟩),.pointer (some ⟨b',0,none⟩)] w fun e w' => e=.returned (.bool (sameRep p.e q.e))∧Below w.heap.size w w' := by
 obtain ⟨pvd,pd,pvb,pb,pvt,pt,pvu,pu,pvn,pn⟩:=p
 obtain ⟨p0,p5,rfl⟩:∃ a c,pvd=.slice a pd.length c:=h.1.shape
 obtain ⟨p1,p6,rfl⟩:∃ a c,pvb=.slice a pb.length c:=h.2.1.shape
 obtain ⟨p2,p7,rfl⟩:∃ a c,pvt=.slice a pt.length c:=h.2.2.1.shape
 obtain ⟨p3,p8,rfl⟩:∃ a c,pvu=.slice a pu.length c:=h.2.2.2.1.shape
 obtain ⟨p4,p9,rfl⟩:∃ a c,pvn=.slice a pn.length c:=h.2.2.2.2.shape
 obtain ⟨qvd,qd,qvb,qb,qvt,qt,qvu,qu,qvn,qn⟩:=q
 obtain ⟨q0,q5,rfl⟩:∃ a c,qvd=.slice a qd.length c:=h'.1.shape
 obtain ⟨q1,q6,rfl⟩:∃ a c,qvb=.slice a qb.length c:=h'.2.1.shape
 obtain ⟨q2,q7,rfl⟩:∃ a c,qvt=.slice a qt.length c:=h'.2.2.1.shape
 obtain ⟨q3,q8,rfl⟩:∃ a c,qvu=.slice a qu.length c:=h'.2.2.2.1.shape
 obtain ⟨q4,q9,rfl⟩:∃ a c,qvn=.slice a qn.length c:=h'.2.2.2.2.shape
 dsimp only [RepQ.n] at hl hl'
 have c0:=fun w h h' => specSameTxns_any (.slice p0 pd.length p5) (.slice q0 qd.length q5) (pd.map TxnQ.e) (qd.map TxnQ.e) w (txnsAt_of' h) (txnsAt_of' h') (by rw [List.length_map,sumA_of'];omega) (by rw [List.length_map,sumA_of'];omega)
 have c1:=fun w h h' => specSameItems_any p1 q1 p6 q6 pb qb w h h' (by omega) (by omega)
 have c2:=fun w h h' => specSameTxns_any (.slice p2 pt.length p7) (.slice q2 qt.length q7) (pt.map TxnQ.e) (qt.map TxnQ.e) w (txnsAt_of' h) (txnsAt_of' h') (by rw [List.length_map,sumA_of'];omega) (by rw [List.length_map,sumA_of'];omega)
 have c3:=fun w h h' => l9SameUndos_any (.slice p3 pu.length p8) (.slice q3 qu.length q8) pu qu w h h' (by omega) (by omega)
 have c4:=fun w h h' => specSameItems_any p4 q4 p9 q9 pn qn w h h' (by omega) (by omega)
 obtain ⟨r0,r1,r2,r3,r4⟩:txnK.At w (.slice p0 pd.length p5) pd∧itemK.At w (.slice p1 pb.length p6) pb∧txnK.At w (.slice p2 pt.length p7) pt∧ussK.At w (.slice p3 pu.length p8) pu∧itemK.At w (.slice p4 pn.length p9) pn:=h
 obtain ⟨s0,s1,s2,s3,s4⟩:txnK.At w (.slice q0 qd.length q5) qd∧itemK.At w (.slice q1 qb.length q6) qb∧txnK.At w (.slice q2 qt.length q7) qt∧ussK.At w (.slice q3 qu.length q8) qu∧itemK.At w (.slice q4 qn.length q9) qn:=h'
 replace r1:=(itemK_at r1).2
 replace r4:=(itemK_at r4).2
 replace s1:=(itemK_at s1).2
 replace s4:=(itemK_at s4).2
 have E:Hid (sameRep ⟨pd.map TxnQ.e,pb,pt.map TxnQ.e,pu.map USQ.e,pn⟩ ⟨qd.map TxnQ.e,qb,qt.map TxnQ.e,qu.map USQ.e,qn⟩=(sameTs (pd.map TxnQ.e) (qd.map TxnQ.e) && (sameIs pb qb && (sameTs (pt.map TxnQ.e) (qt.map TxnQ.e) && (sameUss (pu.map USQ.e) (qu.map USQ.e) && sameIs pn qn))))):=show _=_ from rfl
 dsimp only [RepQ.e]
 generalize sameTs (pd.map TxnQ.e) (qd.map TxnQ.e)=X0 at *
 generalize sameIs pb qb=X1 at *
 generalize sameTs (pt.map TxnQ.e) (qt.map TxnQ.e)=X2 at *
 generalize sameUss (pu.map USQ.e) (qu.map USQ.e)=X3 at *
 generalize sameIs pn qn=X4 at *
 generalize sameRep ⟨pd.map TxnQ.e,pb,pt.map TxnQ.e,pu.map USQ.e,pn⟩ ⟨qd.map TxnQ.e,qb,qt.map TxnQ.e,qu.map USQ.e,qn⟩=S at *
 have f0:=hP.lat 0 _ rfl
 have g0:=hQ.lat 0 _ rfl
 have f1:=hP.lat 1 _ rfl
 have g1:=hQ.lat 1 _ rfl
 have f2:=hP.lat 2 _ rfl
 have g2:=hQ.lat 2 _ rfl
 have f3:=hP.lat 3 _ rfl
 have g3:=hQ.lat 3 _ rfl
 have f4:=hP.lat 4 _ rfl
 have g4:=hQ.lat 4 _ rfl
 have hW:Below w.heap.size w w.drew:=(Below.refl _ _).drew
 have hnn:Nonempty (Lat w):=⟨⟨w,Below.refl _ _⟩⟩
 go_enter Tryz.func129,Tryz.ntmps129
 go_wp2_with fail
 refine text_begin (S:=fun w' => ∃ u:Lat w,w' = u.val) (by kernel_rfl) ?_
 cases X0 with
 | false=>
  refine seg_range [(0,8)] 46 (by kernel_rfl) (by kernel_rfl) (by kernel_rfl) (by kernel_rfl) (by kernel_rfl) ⟨⟨_,hW⟩,rfl⟩ ?_
  simp only [pickR,List.toList_toArray,List.flatMap_cons,List.flatMap_nil,List.drop_succ_cons,List.drop_zero,List.take_succ_cons,List.take_zero,List.cons_append,List.nil_append,List.append_nil]
  repeat go_big_quiet_step (fail)
  refine wpQuiet_nil ?_
  refine call_at 8 (some 13) 172 #[.slice p0 pd.length p5,.slice q0 qd.length q5] 45 (by kernel_rfl) (by kernel_rfl) (by kernel_rfl) (by kernel_rfl) (by kernel_rfl) ?_
  refine (c0 _ (r0.below hW) (s0.below hW)).mono ?_
  rintro e w9 ⟨rfl,hb9⟩
  replace hW:=hW.trans (hb9.mono hW.size)
  clear hb9
  refine ⟨_,rfl,⟨⟨_,hW⟩,rfl⟩,?_⟩
  simp only [Act.put,List.setIfInBounds_toArray,List.set_cons_zero,List.set_cons_succ]
  refine seg_range [(9,9)] 36 (by kernel_rfl) (by kernel_rfl) (by kernel_rfl) (by kernel_rfl) (by kernel_rfl) ⟨⟨_,hW⟩,rfl⟩ ?_
  simp only [pickR,List.toList_toArray,List.flatMap_cons,List.flatMap_nil,List.drop_succ_cons,List.drop_zero,List.take_succ_cons,List.take_zero,List.cons_append,List.nil_append,List.append_nil]
  repeat go_big_quiet_step (fail)
  refine wpQuiet_nil ?_
  refine skip_at 18 (some 23) 35 (by kernel_rfl) (by kernel_rfl) (by kernel_rfl) (by kernel_rfl) (by kernel_rfl) ⟨⟨_,hW⟩,rfl⟩ ?_
  simp only [Act.put,List.setIfInBounds_toArray,List.set_cons_zero,List.set_cons_succ]
  refine seg_range [(19,10)] 25 (by kernel_rfl) (by kernel_rfl) (by kernel_rfl) (by kernel_rfl) (by kernel_rfl) ⟨⟨_,hW⟩,rfl⟩ ?_
  simp only [pickR,List.toList_toArray,List.flatMap_cons,List.flatMap_nil,List.drop_succ_cons,List.drop_zero,List.take_succ_cons,List.take_zero,List.cons_append,List.nil_append,List.append_nil]
  repeat go_big_quiet_step (fail)
  refine wpQuiet_nil ?_
  refine skip_at 29 (some 34) 24 (by kernel_rfl) (by kernel_rfl) (by kernel_rfl) (by kernel_rfl) (by kernel_rfl) ⟨⟨_,hW⟩,rfl⟩ ?_
  simp only [Act.put,List.setIfInBounds_toArray,List.set_cons_zero,List.set_cons_succ]
  refine seg_range [(30,10)] 14 (by kernel_rfl) (by kernel_rfl) (by kernel_rfl) (by kernel_rfl) (by kernel_rfl) ⟨⟨_,hW⟩,rfl⟩ ?_
  simp only [pickR,List.toList_toArray,List.flatMap_cons,List.flatMap_nil,List.drop_succ_cons,List.drop_zero,List.take_succ_cons,List.take_zero,List.cons_append,List.nil_append,List.append_nil]
  repeat go_big_quiet_step (fail)
  refine wpQuiet_nil ?_
  refine skip_at 40 (some 45) 13 (by kernel_rfl) (by kernel_rfl) (by kernel_rfl) (by kernel_rfl) (by kernel_rfl) ⟨⟨_,hW⟩,rfl⟩ ?_
  simp only [Act.put,List.setIfInBounds_toArray,List.set_cons_zero,List.set_cons_succ]
  refine seg_range [(41,10)] 3 (by kernel_rfl) (by kernel_rfl) (by kernel_rfl) (by kernel_rfl) (by kernel_rfl) ⟨⟨_,hW⟩,rfl⟩ ?_
  simp only [pickR,List.toList_toArray,List.flatMap_cons,List.flatMap_nil,List.drop_succ_cons,List.drop_zero,List.take_succ_cons,List.take_zero,List.cons_append,List.nil_append,List.append_nil]
  repeat go_big_quiet_step (fail)
  refine wpQuiet_nil ?_
  refine skip_at 51 (some 56) 2 (by kernel_rfl) (by kernel_rfl) (by kernel_rfl) (by kernel_rfl) (by kernel_rfl) ⟨⟨_,hW⟩,rfl⟩ ?_
  simp only [Act.put,List.setIfInBounds_toArray,List.set_cons_zero,List.set_cons_succ]
  refine seg_range [(52,2)] 0 (by kernel_rfl) (by kernel_rfl) (by kernel_rfl) (by kernel_rfl) (by kernel_rfl) ⟨⟨_,hW⟩,rfl⟩ ?_
  simp only [pickR,List.toList_toArray,List.flatMap_cons,List.flatMap_nil,List.drop_succ_cons,List.drop_zero,List.take_succ_cons,List.take_zero,List.cons_append,List.nil_append,List.append_nil]
  repeat go_big_quiet_step (fail)
  refine wpQuiet_nil ?_
  refine text_end (by kernel_rfl) ?_
  go_wp2
  go_ret
  exact ⟨by rw [E.out];simp,hW⟩
 | true=>
  cases X2 with
  | false=>
   refine seg_range [(0,8)] 46 (by kernel_rfl) (by kernel_rfl) (by kernel_rfl) (by kernel_rfl) (by kernel_rfl) ⟨⟨_,hW⟩,rfl⟩ ?_
   simp only [pickR,List.toList_toArray,List.flatMap_cons,List.flatMap_nil,List.drop_succ_cons,List.drop_zero,List.take_succ_cons,List.take_zero,List.cons_append,List.nil_append,List.append_nil]
   repeat go_big_quiet_step (fail)
   refine wpQuiet_nil ?_
   refine call_at 8 (some 13) 172 #[.slice p0 pd.length p5,.slice q0 qd.length q5] 45 (by kernel_rfl) (by kernel_rfl) (by kernel_rfl) (by kernel_rfl) (by kernel_rfl) ?_
   refine (c0 _ (r0.below hW) (s0.below hW)).mono ?_
   rintro e w9 ⟨rfl,hb9⟩
   replace hW:=hW.trans (hb9.mono hW.size)
   clear hb9
   refine ⟨_,rfl,⟨⟨_,hW⟩,rfl⟩,?_⟩
   simp only [Act.put,List.setIfInBounds_toArray,List.set_cons_zero,List.set_cons_succ]
   refine seg_range [(9,9)] 36 (by kernel_rfl) (by kernel_rfl) (by kernel_rfl) (by kernel_rfl) (by kernel_rfl) ⟨⟨_,hW⟩,rfl⟩ ?_
   simp only [pickR,List.toList_toArray,List.flatMap_cons,List.flatMap_nil,List.drop_succ_cons,List.drop_zero,List.take_succ_cons,List.take_zero,List.cons_append,List.nil_append,List.append_nil]
   repeat go_big_quiet_step (fail)
   refine wpQuiet_nil ?_
   refine call_at 18 (some 23) 172 #[.slice p2 pt.length p7,.slice q2 qt.length q7] 35 (by kernel_rfl) (by kernel_rfl) (by kernel_rfl) (by kernel_rfl) (by kernel_rfl) ?_
   refine (c2 _ (r2.below hW) (s2.below hW)).mono ?_
   rintro e w9 ⟨rfl,hb9⟩
   replace hW:=hW.trans (hb9.mono hW.size)
   clear hb9
   refine ⟨_,rfl,⟨⟨_,hW⟩,rfl⟩,?_⟩
   simp only [Act.put,List.setIfInBounds_toArray,List.set_cons_zero,List.set_cons_succ]
   refine seg_range [(19,10)] 25 (by kernel_rfl) (by kernel_rfl) (by kernel_rfl) (by kernel_rfl) (by kernel_rfl) ⟨⟨_,hW⟩,rfl⟩ ?_
   simp only [pickR,List.toList_toArray,List.flatMap_cons,List.flatMap_nil,List.drop_succ_cons,List.drop_zero,List.take_succ_cons,List.take_zero,List.cons_append,List.nil_append,List.append_nil]
   repeat go_big_quiet_step (fail)
   refine wpQuiet_nil ?_
   refine skip_at 29 (some 34) 24 (by kernel_rfl) (by kernel_rfl) (by kernel_rfl) (by kernel_rfl) (by kernel_rfl) ⟨⟨_,hW⟩,rfl⟩ ?_
   simp only [Act.put,List.setIfInBounds_toArray,List.set_cons_zero,List.set_cons_succ]
   refine seg_range [(30,10)] 14 (by kernel_rfl) (by kernel_rfl) (by kernel_rfl) (by kernel_rfl) (by kernel_rfl) ⟨⟨_,hW⟩,rfl⟩ ?_
   simp only [pickR,List.toList_toArray,List.flatMap_cons,List.flatMap_nil,List.drop_succ_cons,List.drop_zero,List.take_succ_cons,List.take_zero,List.cons_append,List.nil_append,List.append_nil]
   repeat go_big_quiet_step (fail)
   refine wpQuiet_nil ?_
   refine skip_at 40 (some 45) 13 (by kernel_rfl) (by kernel_rfl) (by kernel_rfl) (by kernel_rfl) (by kernel_rfl) ⟨⟨_,hW⟩,rfl⟩ ?_
   simp only [Act.put,List.setIfInBounds_toArray,List.set_cons_zero,List.set_cons_succ]
   refine seg_range [(41,10)] 3 (by kernel_rfl) (by kernel_rfl) (by kernel_rfl) (by kernel_rfl) (by kernel_rfl) ⟨⟨_,hW⟩,rfl⟩ ?_
   simp only [pickR,List.toList_toArray,List.flatMap_cons,List.flatMap_nil,List.drop_succ_cons,List.drop_zero,List.take_succ_cons,List.take_zero,List.cons_append,List.nil_append,List.append_nil]
   repeat go_big_quiet_step (fail)
   refine wpQuiet_nil ?_
   refine skip_at 51 (some 56) 2 (by kernel_rfl) (by kernel_rfl) (by kernel_rfl) (by kernel_rfl) (by kernel_rfl) ⟨⟨_,hW⟩,rfl⟩ ?_
   simp only [Act.put,List.setIfInBounds_toArray,List.set_cons_zero,List.set_cons_succ]
   refine seg_range [(52,2)] 0 (by kernel_rfl) (by kernel_rfl) (by kernel_rfl) (by kernel_rfl) (by kernel_rfl) ⟨⟨_,hW⟩,rfl⟩ ?_
   simp only [pickR,List.toList_toArray,List.flatMap_cons,List.flatMap_nil,List.drop_succ_cons,List.drop_zero,List.take_succ_cons,List.take_zero,List.cons_append,List.nil_append,List.append_nil]
   repeat go_big_quiet_step (fail)
   refine wpQuiet_nil ?_
   refine text_end (by kernel_rfl) ?_
   go_wp2
   go_ret
   exact ⟨by rw [E.out];simp,hW⟩
  | true=>
   cases X1 with
   | false=>
    refine seg_range [(0,8)] 46 (by kernel_rfl) (by kernel_rfl) (by kernel_rfl) (by kernel_rfl) (by kernel_rfl) ⟨⟨_,hW⟩,rfl⟩ ?_
    simp only [pickR,List.toList_toArray,List.flatMap_cons,List.flatMap_nil,List.drop_succ_cons,List.drop_zero,List.take_succ_cons,List.take_zero,List.cons_append,List.nil_append,List.append_nil]
    repeat go_big_quiet_step (fail)
    refine wpQuiet_nil ?_
    refine call_at 8 (some 13) 172 #[.slice p0 pd.length p5,.slice q0 qd.length q5] 45 (by kernel_rfl) (by kernel_rfl) (by kernel_rfl) (by kernel_rfl) (by kernel_rfl) ?_
    refine (c0 _ (r0.below hW) (s0.below hW)).mono ?_
    rintro e w9 ⟨rfl,hb9⟩
    replace hW:=hW.trans (hb9.mono hW.size)
    clear hb9
    refine ⟨_,rfl,⟨⟨_,hW⟩,rfl⟩,?_⟩
    simp only [Act.put,List.setIfInBounds_toArray,List.set_cons_zero,List.set_cons_succ]
    refine seg_range [(9,9)] 36 (by kernel_rfl) (by kernel_rfl) (by kernel_rfl) (by kernel_rfl) (by kernel_rfl) ⟨⟨_,hW⟩,rfl⟩ ?_
    simp only [pickR,List.toList_toArray,List.flatMap_cons,List.flatMap_nil,List.drop_succ_cons,List.drop_zero,List.take_succ_cons,List.take_zero,List.cons_append,List.nil_append,List.append_nil]
    repeat go_big_quiet_step (fail)
    refine wpQuiet_nil ?_
    refine call_at 18 (some 23) 172 #[.slice p2 pt.length p7,.slice q2 qt.length q7] 35 (by kernel_rfl) (by kernel_rfl) (by kernel_rfl) (by kernel_rfl) (by kernel_rfl) ?_
    refine (c2 _ (r2.below hW) (s2.below hW)).mono ?_
    rintro e w9 ⟨rfl,hb9⟩
    replace hW:=hW.trans (hb9.mono hW.size)
    clear hb9
    refine ⟨_,rfl,⟨⟨_,hW⟩,rfl⟩,?_⟩
    simp only [Act.put,List.setIfInBounds_toArray,List.set_cons_zero,List.set_cons_succ]
    refine seg_range [(19,10)] 25 (by kernel_rfl) (by kernel_rfl) (by kernel_rfl) (by kernel_rfl) (by kernel_rfl) ⟨⟨_,hW⟩,rfl⟩ ?_
    simp only [pickR,List.toList_toArray,List.flatMap_cons,List.flatMap_nil,List.drop_succ_cons,List.drop_zero,List.take_succ_cons,List.take_zero,List.cons_append,List.nil_append,List.append_nil]
    repeat go_big_quiet_step (fail)
    refine wpQuiet_nil ?_
    refine call_at 29 (some 34) 173 #[.slice p1 pb.length p6,.slice q1 qb.length q6] 24 (by kernel_rfl) (by kernel_rfl) (by kernel_rfl) (by kernel_rfl) (by kernel_rfl) ?_
    refine (c1 _ (r1.below hW) (s1.below hW)).mono ?_
    rintro e w9 ⟨rfl,hb9⟩
    replace hW:=hW.trans (hb9.mono hW.size)
    clear hb9
    refine ⟨_,rfl,⟨⟨_,hW⟩,rfl⟩,?_⟩
    simp only [Act.put,List.setIfInBounds_toArray,List.set_cons_zero,List.set_cons_succ]
    refine seg_range [(30,10)] 14 (by kernel_rfl) (by kernel_rfl) (by kernel_rfl) (by kernel_rfl) (by kernel_rfl) ⟨⟨_,hW⟩,rfl⟩ ?_
    simp only [pickR,List.toList_toArray,List.flatMap_cons,List.flatMap_nil,List.drop_succ_cons,List.drop_zero,List.take_succ_cons,List.take_zero,List.cons_append,List.nil_append,List.append_nil]
    repeat go_big_quiet_step (fail)
    refine wpQuiet_nil ?_
    refine skip_at 40 (some 45) 13 (by kernel_rfl) (by kernel_rfl) (by kernel_rfl) (by kernel_rfl) (by kernel_rfl) ⟨⟨_,hW⟩,rfl⟩ ?_
    simp only [Act.put,List.setIfInBounds_toArray,List.set_cons_zero,List.set_cons_succ]
    refine seg_range [(41,10)] 3 (by kernel_rfl) (by kernel_rfl) (by kernel_rfl) (by kernel_rfl) (by kernel_rfl) ⟨⟨_,hW⟩,rfl⟩ ?_
    simp only [pickR,List.toList_toArray,List.flatMap_cons,List.flatMap_nil,List.drop_succ_cons,List.drop_zero,List.take_succ_cons,List.take_zero,List.cons_append,List.nil_append,List.append_nil]
    repeat go_big_quiet_step (fail)
    refine wpQuiet_nil ?_
    refine skip_at 51 (some 56) 2 (by kernel_rfl) (by kernel_rfl) (by kernel_rfl) (by kernel_rfl) (by kernel_rfl) ⟨⟨_,hW⟩,rfl⟩ ?_
    simp only [Act.put,List.setIfInBounds_toArray,List.set_cons_zero,List.set_cons_succ]
    refine seg_range [(52,2)] 0 (by kernel_rfl) (by kernel_rfl) (by kernel_rfl) (by kernel_rfl) (by kernel_rfl) ⟨⟨_,hW⟩,rfl⟩ ?_
    simp only [pickR,List.toList_toArray,List.flatMap_cons,List.flatMap_nil,List.drop_succ_cons,List.drop_zero,List.take_succ_cons,List.take_zero,List.cons_append,List.nil_append,List.append_nil]
    repeat go_big_quiet_step (fail)
    refine wpQuiet_nil ?_
    refine text_end (by kernel_rfl) ?_
    go_wp2
    go_ret
    exact ⟨by rw [E.out];simp,hW⟩
   | true=>
    cases X4 with
    | false=>
     refine seg_range [(0,8)] 46 (by kernel_rfl) (by kernel_rfl) (by kernel_rfl) (by kernel_rfl) (by kernel_rfl) ⟨⟨_,hW⟩,rfl⟩ ?_
     simp only [pickR,List.toList_toArray,List.flatMap_cons,List.flatMap_nil,List.drop_succ_cons,List.drop_zero,List.take_succ_cons,List.take_zero,List.cons_append,List.nil_append,List.append_nil]
     repeat go_big_quiet_step (fail)
     refine wpQuiet_nil ?_
     refine call_at 8 (some 13) 172 #[.slice p0 pd.length p5,.slice q0 qd.length q5] 45 (by kernel_rfl) (by kernel_rfl) (by kernel_rfl) (by kernel_rfl) (by kernel_rfl) ?_
     refine (c0 _ (r0.below hW) (s0.below hW)).mono ?_
     rintro e w9 ⟨rfl,hb9⟩
     replace hW:=hW.trans (hb9.mono hW.size)
     clear hb9
     refine ⟨_,rfl,⟨⟨_,hW⟩,rfl⟩,?_⟩
     simp only [Act.put,List.setIfInBounds_toArray,List.set_cons_zero,List.set_cons_succ]
     refine seg_range [(9,9)] 36 (by kernel_rfl) (by kernel_rfl) (by kernel_rfl) (by kernel_rfl) (by kernel_rfl) ⟨⟨_,hW⟩,rfl⟩ ?_
     simp only [pickR,List.toList_toArray,List.flatMap_cons,List.flatMap_nil,List.drop_succ_cons,List.drop_zero,List.take_succ_cons,List.take_zero,List.cons_append,List.nil_append,List.append_nil]
     repeat go_big_quiet_step (fail)
     refine wpQuiet_nil ?_
     refine call_at 18 (some 23) 172 #[.slice p2 pt.length p7,.slice q2 qt.length q7] 35 (by kernel_rfl) (by kernel_rfl) (by kernel_rfl) (by kernel_rfl) (by kernel_rfl) ?_
     refine (c2 _ (r2.below hW) (s2.below hW)).mono ?_
     rintro e w9 ⟨rfl,hb9⟩
     replace hW:=hW.trans (hb9.mono hW.size)
     clear hb9
     refine ⟨_,rfl,⟨⟨_,hW⟩,rfl⟩,?_⟩
     simp only [Act.put,List.setIfInBounds_toArray,List.set_cons_zero,List.set_cons_succ]
     refine seg_range [(19,10)] 25 (by kernel_rfl) (by kernel_rfl) (by kernel_rfl) (by kernel_rfl) (by kernel_rfl) ⟨⟨_,hW⟩,rfl⟩ ?_
     simp only [pickR,List.toList_toArray,List.flatMap_cons,List.flatMap_nil,List.drop_succ_cons,List.drop_zero,List.take_succ_cons,List.take_zero,List.cons_append,List.nil_append,List.append_nil]
     repeat go_big_quiet_step (fail)
     refine wpQuiet_nil ?_
     refine call_at 29 (some 34) 173 #[.slice p1 pb.length p6,.slice q1 qb.length q6] 24 (by kernel_rfl) (by kernel_rfl) (by kernel_rfl) (by kernel_rfl) (by kernel_rfl) ?_
     refine (c1 _ (r1.below hW) (s1.below hW)).mono ?_
     rintro e w9 ⟨rfl,hb9⟩
     replace hW:=hW.trans (hb9.mono hW.size)
     clear hb9
     refine ⟨_,rfl,⟨⟨_,hW⟩,rfl⟩,?_⟩
     simp only [Act.put,List.setIfInBounds_toArray,List.set_cons_zero,List.set_cons_succ]
     refine seg_range [(30,10)] 14 (by kernel_rfl) (by kernel_rfl) (by kernel_rfl) (by kernel_rfl) (by kernel_rfl) ⟨⟨_,hW⟩,rfl⟩ ?_
     simp only [pickR,List.toList_toArray,List.flatMap_cons,List.flatMap_nil,List.drop_succ_cons,List.drop_zero,List.take_succ_cons,List.take_zero,List.cons_append,List.nil_append,List.append_nil]
     repeat go_big_quiet_step (fail)
     refine wpQuiet_nil ?_
     refine call_at 40 (some 45) 173 #[.slice p4 pn.length p9,.slice q4 qn.length q9] 13 (by kernel_rfl) (by kernel_rfl) (by kernel_rfl) (by kernel_rfl) (by kernel_rfl) ?_
     refine (c4 _ (r4.below hW) (s4.below hW)).mono ?_
     rintro e w9 ⟨rfl,hb9⟩
     replace hW:=hW.trans (hb9.mono hW.size)
     clear hb9
     refine ⟨_,rfl,⟨⟨_,hW⟩,rfl⟩,?_⟩
     simp only [Act.put,List.setIfInBounds_toArray,List.set_cons_zero,List.set_cons_succ]
     refine seg_range [(41,10)] 3 (by kernel_rfl) (by kernel_rfl) (by kernel_rfl) (by kernel_rfl) (by kernel_rfl) ⟨⟨_,hW⟩,rfl⟩ ?_
     simp only [pickR,List.toList_toArray,List.flatMap_cons,List.flatMap_nil,List.drop_succ_cons,List.drop_zero,List.take_succ_cons,List.take_zero,List.cons_append,List.nil_append,List.append_nil]
     repeat go_big_quiet_step (fail)
     refine wpQuiet_nil ?_
     refine skip_at 51 (some 56) 2 (by kernel_rfl) (by kernel_rfl) (by kernel_rfl) (by kernel_rfl) (by kernel_rfl) ⟨⟨_,hW⟩,rfl⟩ ?_
     simp only [Act.put,List.setIfInBounds_toArray,List.set_cons_zero,List.set_cons_succ]
     refine seg_range [(52,2)] 0 (by kernel_rfl) (by kernel_rfl) (by kernel_rfl) (by kernel_rfl) (by kernel_rfl) ⟨⟨_,hW⟩,rfl⟩ ?_
     simp only [pickR,List.toList_toArray,List.flatMap_cons,List.flatMap_nil,List.drop_succ_cons,List.drop_zero,List.take_succ_cons,List.take_zero,List.cons_append,List.nil_append,List.append_nil]
     repeat go_big_quiet_step (fail)
     refine wpQuiet_nil ?_
     refine text_end (by kernel_rfl) ?_
     go_wp2
     go_ret
     exact ⟨by rw [E.out];simp,hW⟩
    | true=>
     refine seg_range [(0,8)] 46 (by kernel_rfl) (by kernel_rfl) (by kernel_rfl) (by kernel_rfl) (by kernel_rfl) ⟨⟨_,hW⟩,rfl⟩ ?_
     simp only [pickR,List.toList_toArray,List.flatMap_cons,List.flatMap_nil,List.drop_succ_cons,List.drop_zero,List.take_succ_cons,List.take_zero,List.cons_append,List.nil_append,List.append_nil]
     repeat go_big_quiet_step (fail)
     refine wpQuiet_nil ?_
     refine call_at 8 (some 13) 172 #[.slice p0 pd.length p5,.slice q0 qd.length q5] 45 (by kernel_rfl) (by kernel_rfl) (by kernel_rfl) (by kernel_rfl) (by kernel_rfl) ?_
     refine (c0 _ (r0.below hW) (s0.below hW)).mono ?_
     rintro e w9 ⟨rfl,hb9⟩
     replace hW:=hW.trans (hb9.mono hW.size)
     clear hb9
     refine ⟨_,rfl,⟨⟨_,hW⟩,rfl⟩,?_⟩
     simp only [Act.put,List.setIfInBounds_toArray,List.set_cons_zero,List.set_cons_succ]
     refine seg_range [(9,9)] 36 (by kernel_rfl) (by kernel_rfl) (by kernel_rfl) (by kernel_rfl) (by kernel_rfl) ⟨⟨_,hW⟩,rfl⟩ ?_
     simp only [pickR,List.toList_toArray,List.flatMap_cons,List.flatMap_nil,List.drop_succ_cons,List.drop_zero,List.take_succ_cons,List.take_zero,List.cons_append,List.nil_append,List.append_nil]
     repeat go_big_quiet_step (fail)
     refine wpQuiet_nil ?_
     refine call_at 18 (some 23) 172 #[.slice p2 pt.length p7,.slice q2 qt.length q7] 35 (by kernel_rfl) (by kernel_rfl) (by kernel_rfl) (by kernel_rfl) (by kernel_rfl) ?_
     refine (c2 _ (r2.below hW) (s2.below hW)).mono ?_
     rintro e w9 ⟨rfl,hb9⟩
     replace hW:=hW.trans (hb9.mono hW.size)
     clear hb9
     refine ⟨_,rfl,⟨⟨_,hW⟩,rfl⟩,?_⟩
     simp only [Act.put,List.setIfInBounds_toArray,List.set_cons_zero,List.set_cons_succ]
     refine seg_range [(19,10)] 25 (by kernel_rfl) (by kernel_rfl) (by kernel_rfl) (by kernel_rfl) (by kernel_rfl) ⟨⟨_,hW⟩,rfl⟩ ?_
     simp only [pickR,List.toList_toArray,List.flatMap_cons,List.flatMap_nil,List.drop_succ_cons,List.drop_zero,List.take_succ_cons,List.take_zero,List.cons_append,List.nil_append,List.append_nil]
     repeat go_big_quiet_step (fail)
     refine wpQuiet_nil ?_
     refine call_at 29 (some 34) 173 #[.slice p1 pb.length p6,.slice q1 qb.length q6] 24 (by kernel_rfl) (by kernel_rfl) (by kernel_rfl) (by kernel_rfl) (by kernel_rfl) ?_
     refine (c1 _ (r1.below hW) (s1.below hW)).mono ?_
     rintro e w9 ⟨rfl,hb9⟩
     replace hW:=hW.trans (hb9.mono hW.size)
     clear hb9
     refine ⟨_,rfl,⟨⟨_,hW⟩,rfl⟩,?_⟩
     simp only [Act.put,List.setIfInBounds_toArray,List.set_cons_zero,List.set_cons_succ]
     refine seg_range [(30,10)] 14 (by kernel_rfl) (by kernel_rfl) (by kernel_rfl) (by kernel_rfl) (by kernel_rfl) ⟨⟨_,hW⟩,rfl⟩ ?_
     simp only [pickR,List.toList_toArray,List.flatMap_cons,List.flatMap_nil,List.drop_succ_cons,List.drop_zero,List.take_succ_cons,List.take_zero,List.cons_append,List.nil_append,List.append_nil]
     repeat go_big_quiet_step (fail)
     refine wpQuiet_nil ?_
     refine call_at 40 (some 45) 173 #[.slice p4 pn.length p9,.slice q4 qn.length q9] 13 (by kernel_rfl) (by kernel_rfl) (by kernel_rfl) (by kernel_rfl) (by kernel_rfl) ?_
     refine (c4 _ (r4.below hW) (s4.below hW)).mono ?_
     rintro e w9 ⟨rfl,hb9⟩
     replace hW:=hW.trans (hb9.mono hW.size)
     clear hb9
     refine ⟨_,rfl,⟨⟨_,hW⟩,rfl⟩,?_⟩
     simp only [Act.put,List.setIfInBounds_toArray,List.set_cons_zero,List.set_cons_succ]
     refine seg_range [(41,10)] 3 (by kernel_rfl) (by kernel_rfl) (by kernel_rfl) (by kernel_rfl) (by kernel_rfl) ⟨⟨_,hW⟩,rfl⟩ ?_
     simp only [pickR,List.toList_toArray,List.flatMap_cons,List.flatMap_nil,List.drop_succ_cons,List.drop_zero,List.take_succ_cons,List.take_zero,List.cons_append,List.nil_append,List.append_nil]
     repeat go_big_quiet_step (fail)
     refine wpQuiet_nil ?_
     refine call_at 51 (some 56) 174 #[.slice p3 pu.length p8,.slice q3 qu.length q8] 2 (by kernel_rfl) (by kernel_rfl) (by kernel_rfl) (by kernel_rfl) (by kernel_rfl) ?_
     refine (c3 _ (r3.below hW) (s3.below hW)).mono ?_
     rintro e w9 ⟨rfl,hb9⟩
     replace hW:=hW.trans (hb9.mono hW.size)
     clear hb9
     refine ⟨_,rfl,⟨⟨_,hW⟩,rfl⟩,?_⟩
     simp only [Act.put,List.setIfInBounds_toArray,List.set_cons_zero,List.set_cons_succ]
     refine seg_range [(52,2)] 0 (by kernel_rfl) (by kernel_rfl) (by kernel_rfl) (by kernel_rfl) (by kernel_rfl) ⟨⟨_,hW⟩,rfl⟩ ?_
     simp only [pickR,List.toList_toArray,List.flatMap_cons,List.flatMap_nil,List.drop_succ_cons,List.drop_zero,List.take_succ_cons,List.take_zero,List.cons_append,List.nil_append,List.append_nil]
     repeat go_big_quiet_step (fail)
     refine wpQuiet_nil ?_
     refine text_end (by kernel_rfl) ?_
     go_wp2
     go_ret
     exact ⟨by rw [E.out];simp,hW⟩

end Go.Proofs.YthmcgflmejofbaaGreatDoor
namespace Go.Proofs.YthmcgflmejofbaaGreatDoor
open Go.RowKit
set_option maxRecDepth 100000
theorem stp_zero {acc:List TxnD} {t:TxnD} (h:stpF acc t=0):t.F=0∧knw acc t=false:=by
 unfold stpF at h
 by_cases h0:t.F=0
 ·rw [if_pos h0] at h
  refine ⟨h0,?_⟩
  cases hk:knw acc t with
  | false=>rfl
  | true=>rw [hk] at h;exact absurd h (by decide)
 ·rw [if_neg h0] at h
  exact absurd h h0

theorem knw_false {acc:List TxnD} {t:TxnD}:knw acc t=false↔∀ a∈acc,stF a t=false:=by
 unfold knw
 rw [List.any_eq_false]
 simp

theorem lstGo_iff:∀ (r acc:List TxnD),lstGo acc r=0↔(∀ t∈r,t.F=0)∧r.Pairwise (fun a b=>stF a b=false)∧∀ a∈acc,∀ t∈r,stF a t=false
 | [],acc=>by simp [lstGo]
 | x :: r,acc=>by
  rw [lstGo]
  constructor
  ·intro h
   by_cases h0:stpF acc x=0
   ·rw [if_pos h0] at h
    obtain ⟨h1,h2⟩:=stp_zero h0
    obtain ⟨i1,i2,i3⟩:=(lstGo_iff r (acc ++ [x])).1 h
    refine ⟨fun t ht=>?_,List.pairwise_cons.2 ⟨fun t ht=>i3 x (by simp) t ht,i2⟩,fun a ha t ht=>?_⟩
    ·rcases List.mem_cons.1 ht with rfl | ht
     ·exact h1
     ·exact i1 t ht
    ·rcases List.mem_cons.1 ht with rfl | ht
     ·exact knw_false.1 h2 a ha
     ·exact i3 a (by simp [ha]) t ht
   ·rw [if_neg h0] at h
    exact absurd h h0
  ·rintro ⟨h1,h2,h3⟩
   have hx:stpF acc x=0:=by
    unfold stpF
    rw [if_pos (h1 x (by simp)),knw_false.2 (fun a ha=>h3 a ha x (by simp))]
    rfl
   rw [if_pos hx]
   obtain ⟨p1,p2⟩:=List.pairwise_cons.1 h2
   refine (lstGo_iff r (acc ++ [x])).2 ⟨fun t ht=>h1 t (List.mem_cons_of_mem _ ht),p2,fun a ha t ht=>?_⟩
   rcases List.mem_append.1 ha with ha | ha
   ·exact h3 a ha t (List.mem_cons_of_mem _ ht)
   ·rw [List.mem_singleton.1 ha]
    exact p1 t ht

theorem lst_iff (ds:List TxnD):lstF ds=0↔ds.length≤40∧(∀ t∈ds,t.F=0)∧ds.Pairwise (fun a b=>stF a b=false):=by
 unfold lstF
 by_cases h:40 < ds.length
 ·rw [if_pos h]
  constructor
  ·intro h;exact absurd h (by decide)
  ·intro h1;omega
 ·rw [if_neg h,lstGo_iff]
  constructor
  ·rintro ⟨h1,h2,_⟩;exact ⟨by omega,h1,h2⟩
  ·rintro ⟨_,h1,h2⟩;exact ⟨h1,h2,fun a ha=>by simp at ha⟩

theorem few_n {qs:List TxnQ} (h:∀ t∈qs.map TxnQ.e,t.F=0):nmL TxnQ.n qs≤4 * qs.length:=by
 induction qs with
 | nil=>simp [nmL]
 | cons q r ih=>
  have h1:(TxnQ.e q).F=0:=h _ (by simp)
  have h2:=(txnF_zero h1).2.2.2.1.2
  have h3:q.acts.length≤4:=h2
  have:=ih (fun t ht=>h t (by simp only [List.map_cons,List.mem_cons];exact Or.inr ht))
  simp only [nmL,List.map_cons,List.sum_cons,List.length_cons,TxnQ.n] at this ⊢
  omega

/-- The fault of a replica. -/
def repF (r:RepE):Int:=if 16 < r.done.length∨8 < r.tent.length then 2 else if lstF (r.done ++ r.tent)=0 then (if sameRep (mkR r.done r.tent) r=true then 0 else 8) else lstF (r.done ++ r.tent)

theorem rep_many {r:RepE} (h:16 < r.done.length∨8 < r.tent.length):repF r=2:=by unfold repF;rw [if_pos h]

theorem rep_list {r:RepE} (h:¬ (16 < r.done.length∨8 < r.tent.length)) (h2:lstF (r.done ++ r.tent)≠0):repF r=lstF (r.done ++ r.tent):=by unfold repF;rw [if_neg h,if_neg h2]

theorem rep_same {r:RepE} (h:¬ (16 < r.done.length∨8 < r.tent.length)) (h2:lstF (r.done ++ r.tent)=0):repF r=if sameRep (mkR r.done r.tent) r=true then 0 else 8:=by unfold repF;rw [if_neg h,if_pos h2]

theorem lst_F {ds:List TxnD} (h:lstF ds=0):∀ t∈ds,t.F=0:=((lst_iff ds).1 h).2.1

theorem und_four {xs:List ItemD} {E:List TxnD} (hl:xs.length≤8) (g:Good xs) (hF:∀ t∈E,t.F=0):∀ u∈undL xs E,u.length≤4:=by
 induction E generalizing xs with
 | nil=>intro u hu;simp [undL,deedsE] at hu
 | cons t r ih=>
  intro u hu
  have ht:=hF t (by simp)
  simp only [undL,deedsE,List.map_cons,List.mem_cons] at hu
  rcases hu with rfl | hu
  ·have hz:=acts_of_F (show txnF t.id t.session t.seq t.acts=0 from ht)
   unfold runU
   split
   ·have:=(unR_parts hl g hz.2 (by assumption)).1
    omega
   ·simp
  ·have g2:=nextI_good hl g ht
   exact ih g2.1 g2.2 (fun t' h' => hF t' (List.mem_cons_of_mem _ h')) u hu

/-- What the model of a replica holds is small. -/
theorem mk_small {p:RepQ} {D E:List TxnD} (h:p.e=mkR D E) (hD:∀ t∈D,t.F=0) (hE:∀ t∈E,t.F=0) (lD:D.length≤40) (lE:E.length≤40):p.n≤1000:=by
 simp only [RepQ.e,mkR,RepE.mk.injEq] at h
 obtain ⟨h0,h1,h2,h3,h4⟩:=h
 have g0:=allI_good (xs:=[]) (by simp) nil_good hD
 have g1:=allI_good g0.1 g0.2 hE
 have n0:=few_n (qs:=p.done) (by rw [h0];exact hD)
 have n2:=few_n (qs:=p.tent) (by rw [h2];exact hE)
 have l0:p.done.length=D.length:=by simpa using congrArg List.length h0
 have l2:p.tent.length=E.length:=by simpa using congrArg List.length h2
 have l3:p.undos.length=E.length:=by
  have:=congrArg List.length h3
  simpa [undL,deeds_len] using this
 have n3:nmL USQ.n p.undos≤4 * p.undos.length:=by
  have hu:∀ u∈p.undos,u.us.length≤4:=fun u hu=>by
   have:u.us∈undL (allI [] D) E:=by rw [← h3];exact List.mem_map.2 ⟨u,hu,rfl⟩
   exact und_four g0.1 g0.2 hE _ this
  clear h3 l3
  revert hu
  generalize p.undos=U
  intro hu
  induction U with
  | nil=>simp [nmL]
  | cons u r ih=>
   have:=ih (fun v hv=>hu v (List.mem_cons_of_mem _ hv))
   have h4:=hu u (by simp)
   simp only [nmL,List.map_cons,List.sum_cons,List.length_cons,USQ.n] at this ⊢
   omega
 unfold RepQ.n
 rw [h1,h4,l0,l2,l3]
 rw [l0] at n0
 rw [l2] at n2
 rw [l3] at n3
 have:=g0.1
 have:=g1.1
 omega

end Go.Proofs.YthmcgflmejofbaaGreatDoor
