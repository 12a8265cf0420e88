/- Texts joined, with what the laws reach alone. -/
import Derived.Test.YtjjoahhnkpjolaaGreatDoorCFBA
set_option linter.unusedVariables false
set_option linter.unusedSimpArgs false
namespace Go.Proofs.YtjjoahhnkpjolaaGreatDoor
open Go.RowKit
open Go.BigFrame
set_option maxRecDepth 100000
structure Wrp (P:Prop):Prop where
 out:P

/-- The error of a code. -/
def misC (c:Int):Value:=if c=0 then .nilIface else .iface 202 (.agg #[.int .i64 c])

theorem codeOf_any (c:Int) (w:World) (hg:ErrT w):Calls Tryz.prog 83 #[misC c] w fun e w' => e=.returned (.int .i64 c)∧Below w.heap.size w w' := by
 unfold misC
 by_cases h:c=0
 ·rw [if_pos h,h]
  exact codeOf_nil w
 ·rw [if_neg h]
  exact codeOf_hit c w hg

/-- What checkedRecord leaves. -/
def CkPost (p:RepQ) (w:World) (e:Ending) (w' : World):Prop:=∃ (a0 a1 a2 a3:Option Addr) (l0 c0 l1 c1 l2 c2 l3 c3:Nat),e=.returned (.tuple #[.agg #[.slice a0 l0 c0,.slice a1 l1 c1,.slice a2 l2 c2,.slice a3 l3 c3],misC (repF p.e)])∧(repF p.e=0→∃ w1,Below w.heap.size w w1∧RecPost w1 w' (.slice a0 l0 c0) (.slice a1 l1 c1) (.slice a2 l2 c2) (.slice a3 l3 c3) (p.done.map TxnQ.e) (p.tent.map TxnQ.e))∧Below w.heap.size w w'

theorem ck_bad {p:RepQ} {w w' : World} {c:Int} {a0 a1 a2 a3:Option Addr} {l0 c0 l1 c1 l2 c2 l3 c3:Nat} (h:repF p.e=c) (hne:c≠0) (hb:Below w.heap.size w w'):CkPost p w (.returned (.tuple #[.agg #[.slice a0 l0 c0,.slice a1 l1 c1,.slice a2 l2 c2,.slice a3 l3 c3],.iface 202 (.agg #[.int .i64 c])])) w' :=
 ⟨a0,a1,a2,a3,l0,c0,l1,c1,l2,c2,l3,c3,by rw [h,show misC c=.iface 202 (.agg #[.int .i64 c]) from if_neg hne],fun h0=>absurd (h.symm.trans h0) hne,hb⟩

theorem ck_ok {p:RepQ} {w w1 w' : World} {a0 a1 a2 a3:Option Addr} {l0 c0 l1 c1 l2 c2 l3 c3:Nat} (h:repF p.e=0) (h1:Below w.heap.size w w1) (hp:RecPost w1 w' (.slice a0 l0 c0) (.slice a1 l1 c1) (.slice a2 l2 c2) (.slice a3 l3 c3) (p.done.map TxnQ.e) (p.tent.map TxnQ.e)) (hb:Below w.heap.size w w'):CkPost p w (.returned (.tuple #[.agg #[.slice a0 l0 c0,.slice a1 l1 c1,.slice a2 l2 c2,.slice a3 l3 c3],.nilIface])) w' :=
 ⟨a0,a1,a2,a3,l0,c0,l1,c1,l2,c2,l3,c3,by rw [h];rfl,fun _=>⟨w1,h1,hp⟩,hb⟩

theorem RecPost.below {w w' w'' : World} {vN iN vU iU:Value} {D E:List TxnD} (h:RecPost w w' vN iN vU iU D E) (hb:Below w'.heap.size w' w''):RecPost w w'' vN iN vU iU D E:=by
 obtain ⟨ds,us,rb,B0,R,r⟩:=h
 exact ⟨ds,us,rb,B0,R.below hb,r⟩

set_option maxRecDepth 100000 in
set_option maxHeartbeats 16000000 in
theorem checked_any (p:RepQ) (w:World) (h:repK.rd w p) (nd:NiceV p.vd) (nt:NiceV p.vt) (hl:p.n≤1048576) :
  Calls Tryz.prog 82 #[.agg #[p.vd,p.vb,p.vt,p.vu,p.vn]] w (CkPost p w):=by
 obtain ⟨pvd,pd,pvb,pb,pvt,pt,pvu,pu,pvn,pn⟩:=p
 obtain ⟨p0,p5,rfl⟩:∃ a c,pvd=.slice a pd.length c:=h.1.shape
 obtain ⟨p1,p6,rfl⟩:∃ a c,pvb=.slice a pb.length c:=h.2.1.shape
 obtain ⟨p2,p7,rfl⟩:∃ a c,pvt=.slice a pt.length c:=h.2.2.1.shape
 obtain ⟨p3,p8,rfl⟩:∃ a c,pvu=.slice a pu.length c:=h.2.2.2.1.shape
 obtain ⟨p4,p9,rfl⟩:∃ a c,pvn=.slice a pn.length c:=h.2.2.2.2.shape
 dsimp only [RepQ.n] at hl
 have n0:=nd _ _ _ rfl
 have n2:=nt _ _ _ rfl
 have HW:=True.intro
 have hr:=fun (w' : World) hb=>repK.rd_below (w' := w') h hb
 have HND:Hid (NiceV (.slice p0 pd.length p5)∧NiceV (.slice p2 pt.length p7)):=⟨nd,nt⟩
 clear n0 n2 nd nt h HW
 have hb0:Below w.heap.size w ((w.alloc (.cells #[.slice p0 pd.length p5,.slice p1 pb.length p6,.slice p2 pt.length p7,.slice p3 pu.length p8,.slice p4 pn.length p9] 56)).alloc (.cells #[.slice none 0 0,.slice none 0 0,.slice none 0 0,.slice none 0 0] 149)):=by go_grown
 have B:=(Blk.new w 56 #[.slice p0 pd.length p5,.slice p1 pb.length p6,.slice p2 pt.length p7,.slice p3 pu.length p8,.slice p4 pn.length p9]).below (w' := ((w.alloc (.cells #[.slice p0 pd.length p5,.slice p1 pb.length p6,.slice p2 pt.length p7,.slice p3 pu.length p8,.slice p4 pn.length p9] 56)).alloc (.cells #[.slice none 0 0,.slice none 0 0,.slice none 0 0,.slice none 0 0] 149))) (by go_grown)
 have Bv:=Blk.new (w.alloc (.cells #[.slice p0 pd.length p5,.slice p1 pb.length p6,.slice p2 pt.length p7,.slice p3 pu.length p8,.slice p4 pn.length p9] 56)) 149 #[.slice none 0 0,.slice none 0 0,.slice none 0 0,.slice none 0 0]
 rw [World.size_alloc] at Bv
 have hs0:w.heap.size + 2≤((w.alloc (.cells #[.slice p0 pd.length p5,.slice p1 pb.length p6,.slice p2 pt.length p7,.slice p3 pu.length p8,.slice p4 pn.length p9] 56)).alloc (.cells #[.slice none 0 0,.slice none 0 0,.slice none 0 0,.slice none 0 0] 149)).heap.size:=by simp only [World.size_alloc];omega
 have hpd:(pd.length:Int)≤1048576:=by omega
 have hpt:(pt.length:Int)≤1048576:=by omega
 have q0:=B.cell 0 _ rfl
 have q2:=B.cell 2 _ rfl
 go_enter Tryz.func82,Tryz.ntmps82
 by_cases hm:16 < pd.length∨8 < pt.length
 ·have HC:Hid (repF (RepQ.e (⟨.slice p0 pd.length p5,pd,.slice p1 pb.length p6,pb,.slice p2 pt.length p7,pt,.slice p3 pu.length p8,pu,.slice p4 pn.length p9,pn⟩:RepQ))=2):=show _=_ from rep_many (by simpa [RepQ.e] using hm)
  clear hr HND
  by_cases h16:16 < pd.length
  ·have i16:(16:Int) < (pd.length:Int):=by omega
   obtain ⟨z0,z1,z2,z3⟩:=Bv.cel4
   obtain ⟨y0,y1,y2,y3⟩:=Bv.frz4
   have HB:Hid (∀ u0 u1 u2 u3:Value,Below w.heap.size w ((((((w.alloc (.cells #[.slice p0 pd.length p5,.slice p1 pb.length p6,.slice p2 pt.length p7,.slice p3 pu.length p8,.slice p4 pn.length p9] 56)).alloc (.cells #[.slice none 0 0,.slice none 0 0,.slice none 0 0,.slice none 0 0] 149)).setCell ⟨w.heap.size + 1,0,none⟩ u0).setCell ⟨w.heap.size + 1,1,none⟩ u1).setCell ⟨w.heap.size + 1,2,none⟩ u2).setCell ⟨w.heap.size + 1,3,none⟩ u3)):=fun u0 u1 u2 u3=>(((hb0.setCell (p:=⟨w.heap.size + 1,0,none⟩) (by show w.heap.size≤w.heap.size + 1;omega) u0).setCell (p:=⟨w.heap.size + 1,1,none⟩) (by show w.heap.size≤w.heap.size + 1;omega) u1).setCell (p:=⟨w.heap.size + 1,2,none⟩) (by show w.heap.size≤w.heap.size + 1;omega) u2).setCell (p:=⟨w.heap.size + 1,3,none⟩) (by show w.heap.size≤w.heap.size + 1;omega) u3
   go_wp2
   exact bodyPost_ret (v:=.tuple #[.agg #[.slice none 0 0,.slice none 0 0,.slice none 0 0,.slice none 0 0],.iface 202 (.agg #[.int .i64 2])]) (by simp [results,Tryz.results82,go_sem,z0,z1,z2,z3]) rfl (ck_bad HC.out (by first | decide | exact hne) hb0)
  ·have i16:¬ (16:Int) < (pd.length:Int):=by omega
   have i8:(8:Int) < (pt.length:Int):=by omega
   obtain ⟨z0,z1,z2,z3⟩:=Bv.cel4
   obtain ⟨y0,y1,y2,y3⟩:=Bv.frz4
   have HB:Hid (∀ u0 u1 u2 u3:Value,Below w.heap.size w ((((((w.alloc (.cells #[.slice p0 pd.length p5,.slice p1 pb.length p6,.slice p2 pt.length p7,.slice p3 pu.length p8,.slice p4 pn.length p9] 56)).alloc (.cells #[.slice none 0 0,.slice none 0 0,.slice none 0 0,.slice none 0 0] 149)).setCell ⟨w.heap.size + 1,0,none⟩ u0).setCell ⟨w.heap.size + 1,1,none⟩ u1).setCell ⟨w.heap.size + 1,2,none⟩ u2).setCell ⟨w.heap.size + 1,3,none⟩ u3)):=fun u0 u1 u2 u3=>(((hb0.setCell (p:=⟨w.heap.size + 1,0,none⟩) (by show w.heap.size≤w.heap.size + 1;omega) u0).setCell (p:=⟨w.heap.size + 1,1,none⟩) (by show w.heap.size≤w.heap.size + 1;omega) u1).setCell (p:=⟨w.heap.size + 1,2,none⟩) (by show w.heap.size≤w.heap.size + 1;omega) u2).setCell (p:=⟨w.heap.size + 1,3,none⟩) (by show w.heap.size≤w.heap.size + 1;omega) u3
   go_wp2
   exact bodyPost_ret (v:=.tuple #[.agg #[.slice none 0 0,.slice none 0 0,.slice none 0 0,.slice none 0 0],.iface 202 (.agg #[.int .i64 2])]) (by simp [results,Tryz.results82,go_sem,z0,z1,z2,z3]) rfl (ck_bad HC.out (by first | decide | exact hne) hb0)
 have i16:¬ (16:Int) < (pd.length:Int):=by omega
 have i8:¬ (8:Int) < (pt.length:Int):=by omega
 have hl16:pd.length≤16:=by omega
 have hl8:pt.length≤8:=by omega
 have hm' : ¬ (16 < (pd.map TxnQ.e).length∨8 < (pt.map TxnQ.e).length):=by simpa using hm
 have hbC:Below ((w.alloc (.cells #[.slice p0 pd.length p5,.slice p1 pb.length p6,.slice p2 pt.length p7,.slice p3 pu.length p8,.slice p4 pn.length p9] 56)).alloc (.cells #[.slice none 0 0,.slice none 0 0,.slice none 0 0,.slice none 0 0] 149)).heap.size ((w.alloc (.cells #[.slice p0 pd.length p5,.slice p1 pb.length p6,.slice p2 pt.length p7,.slice p3 pu.length p8,.slice p4 pn.length p9] 56)).alloc (.cells #[.slice none 0 0,.slice none 0 0,.slice none 0 0,.slice none 0 0] 149)) (((w.alloc (.cells #[.slice p0 pd.length p5,.slice p1 pb.length p6,.slice p2 pt.length p7,.slice p3 pu.length p8,.slice p4 pn.length p9] 56)).alloc (.cells #[.slice none 0 0,.slice none 0 0,.slice none 0 0,.slice none 0 0] 149)).alloc (.cells #[.slice p0 pd.length p5,.slice p2 pt.length p7] 52)):=by go_grown
 have BC:=Blk.new ((w.alloc (.cells #[.slice p0 pd.length p5,.slice p1 pb.length p6,.slice p2 pt.length p7,.slice p3 pu.length p8,.slice p4 pn.length p9] 56)).alloc (.cells #[.slice none 0 0,.slice none 0 0,.slice none 0 0,.slice none 0 0] 149)) 52 #[.slice p0 pd.length p5,.slice p2 pt.length p7]
 simp only [World.size_alloc] at BC
 have hcc:=concat9_any (w.heap.size + 1 + 1) 2 (.slice p0 pd.length p5) (.slice p2 pt.length p7) pd pt (((w.alloc (.cells #[.slice p0 pd.length p5,.slice p1 pb.length p6,.slice p2 pt.length p7,.slice p3 pu.length p8,.slice p4 pn.length p9] 56)).alloc (.cells #[.slice none 0 0,.slice none 0 0,.slice none 0 0,.slice none 0 0] 149)).alloc (.cells #[.slice p0 pd.length p5,.slice p2 pt.length p7] 52)) BC.lt (BC.cell 0 _ rfl) (BC.cell 1 _ rfl) ((hr _ (hb0.trans (hbC.mono hb0.size))).1) ((hr _ (hb0.trans (hbC.mono hb0.size))).2.2.1) HND.out.1 HND.out.2 (by omega)
 have HCC:=Wrp.mk hcc
 have HR:=Wrp.mk hr
 have HM:=Wrp.mk hm'
 clear hcc hr hm hm' HND
 go_wp2_with fail
 clear q0 q2
 have hr:=HR.out
 have hm' := HM.out
 clear HR HM
 replace B:=B.below hbC
 replace Bv:=Bv.below hbC
 replace hb0:=hb0.trans (hbC.mono hb0.size)
 have hs1:w.heap.size + 2≤(((w.alloc (.cells #[.slice p0 pd.length p5,.slice p1 pb.length p6,.slice p2 pt.length p7,.slice p3 pu.length p8,.slice p4 pn.length p9] 56)).alloc (.cells #[.slice none 0 0,.slice none 0 0,.slice none 0 0,.slice none 0 0] 149)).alloc (.cells #[.slice p0 pd.length p5,.slice p2 pt.length p7] 52)).heap.size:=by have:=hbC.size;omega
 clear hbC BC hs0
 generalize ((w.alloc (.cells #[.slice p0 pd.length p5,.slice p1 pb.length p6,.slice p2 pt.length p7,.slice p3 pu.length p8,.slice p4 pn.length p9] 56)).alloc (.cells #[.slice none 0 0,.slice none 0 0,.slice none 0 0,.slice none 0 0] 149)).alloc (.cells #[.slice p0 pd.length p5,.slice p2 pt.length p7] 52)=X at *
 generalize hH:w.heap.size=H at *
 refine HCC.out.mono ?_
 rintro e w2 ⟨vc,rfl,oc,hb2⟩
 clear HCC
 replace B:=B.below hb2
 replace Bv:=Bv.below hb2
 replace hb0:=hb0.trans (hb2.mono (by omega))
 have hs2:=hb2.size
 have hA2:txnK.At w2 vc (pd ++ pt):=Kind.at_of_row oc (fun q hq=>by
  have h2:=hr w2 hb0
  rcases List.mem_append.1 hq with hq | hq
  ·exact h2.1.rdm hq
  ·exact h2.2.2.1.rdm hq)
 have hlf:=implListFault_any vc (pd ++ pt) w2 hA2 (by
  have e:nmL TxnQ.n (pd ++ pt)=nmL TxnQ.n pd + nmL TxnQ.n pt:=by simp [nmL]
  rw [List.length_append,e]
  omega)
 obtain ⟨ca,ck,rfl⟩:=hA2.shape
 clear hA2 oc hb2
 rw [List.map_append,List.length_append] at hlf
 by_cases hL:lstF (pd.map TxnQ.e ++ pt.map TxnQ.e)=0
 case neg=>
  have hne:=hL
  have HC:Hid (repF (RepQ.e (⟨.slice p0 pd.length p5,pd,.slice p1 pb.length p6,pb,.slice p2 pt.length p7,pt,.slice p3 pu.length p8,pu,.slice p4 pn.length p9,pn⟩:RepQ))=lstF (pd.map TxnQ.e ++ pt.map TxnQ.e)):=show _=_ from rep_list (r:=⟨pd.map TxnQ.e,pb,pt.map TxnQ.e,pu.map USQ.e,pn⟩) hm' hL
  clear hr hm'
  generalize lstF (pd.map TxnQ.e ++ pt.map TxnQ.e)=c at *
  have hcb:(c != 0)=true:=by simpa using hne
  go_wp2_with fail
  refine hlf.mono ?_
  rintro e w3 ⟨rfl,hb3⟩
  replace Bv:=Bv.below hb3
  replace hb0:=hb0.trans (hb3.mono (by omega))
  obtain ⟨z0,z1,z2,z3⟩:=Bv.cel4
  obtain ⟨y0,y1,y2,y3⟩:=Bv.frz4
  have HB:Hid (∀ u0 u1 u2 u3:Value,Below H w ((((w3.setCell ⟨H + 1,0,none⟩ u0).setCell ⟨H + 1,1,none⟩ u1).setCell ⟨H + 1,2,none⟩ u2).setCell ⟨H + 1,3,none⟩ u3)):=fun u0 u1 u2 u3=>(((hb0.setCell (p:=⟨H + 1,0,none⟩) (by show H≤H + 1;omega) u0).setCell (p:=⟨H + 1,1,none⟩) (by show H≤H + 1;omega) u1).setCell (p:=⟨H + 1,2,none⟩) (by show H≤H + 1;omega) u2).setCell (p:=⟨H + 1,3,none⟩) (by show H≤H + 1;omega) u3
  go_wp2
  exact bodyPost_ret (v:=.tuple #[.agg #[.slice none 0 0,.slice none 0 0,.slice none 0 0,.slice none 0 0],.iface 202 (.agg #[.int .i64 c])]) (by simp [results,Tryz.results82,go_sem,z0,z1,z2,z3]) rfl (ck_bad HC.out (by first | decide | exact hne) (by rw [hH];exact HB.out _ _ _ _))
 have hFall:=lst_F hL
 have hFD:∀ t∈pd.map TxnQ.e,t.F=0:=fun t ht=>hFall t (List.mem_append_left _ ht)
 have hFE:∀ t∈pt.map TxnQ.e,t.F=0:=fun t ht=>hFall t (List.mem_append_right _ ht)
 have gD:=allI_good (xs:=[]) (by simp) nil_good hFD
 have gE:=allI_good gD.1 gD.2 hFE
 have hrs:=rep_same (r:=⟨pd.map TxnQ.e,pb,pt.map TxnQ.e,pu.map USQ.e,pn⟩) hm' hL
 dsimp only at hrs
 rw [hL] at hlf
 clear hL hFall hm'
 go_wp2_with fail
 refine hlf.mono ?_
 rintro e w3 ⟨rfl,hb3⟩
 replace B:=B.below hb3
 replace Bv:=Bv.below hb3
 replace hb0:=hb0.trans (hb3.mono (by omega))
 have hs3:=hb3.size
 have hb03:=hb0
 clear hb3 hlf
 have hr3:=hr w3 hb0
 have hrec:=recordOf_any (.slice p0 pd.length p5) (.slice p2 pt.length p7) pd pt w3 hr3.1 hr3.2.2.1 (fun q hq=>hFD _ (List.mem_map_of_mem hq)) (fun q hq=>hFE _ (List.mem_map_of_mem hq)) (by omega) (by omega)
 have q0:=B.cell 0 _ rfl
 have q2:=B.cell 2 _ rfl
 go_wp2_with fail
 clear q0 q2
 refine hrec.mono ?_
 rintro e w4 ⟨vN,iN,vU,iU,rfl,hP,hb4⟩
 clear hrec
 replace B:=B.below hb4
 replace Bv:=Bv.below hb4
 have hb43:=hb4
 replace hb0:=hb0.trans (hb4.mono (by omega))
 have hs4:=hb4.size
 obtain ⟨ds,us,rb,B0,R,eD,eE,hrb1,hrb2⟩:=hP
 obtain ⟨na,nc,rfl⟩:=own_shape R.oN
 obtain ⟨ua,uc,rfl⟩:=own_shape R.oU
 obtain ⟨ia,ic,rfl⟩:=R.jN.shape
 obtain ⟨ja,jc,rfl⟩:=R.jU.shape
 generalize hxs:allI [] (pd.map TxnQ.e)=xs at *
 generalize hys:allI xs (pt.map TxnQ.e)=ys at *
 have hbR:Below w4.heap.size w4 (w4.alloc (.cells #[.slice na ds.length nc,.slice ia xs.length ic,.slice ua us.length uc,.slice ja ys.length jc] 149)):=by go_grown
 have BR:=Blk.new w4 149 #[.slice na ds.length nc,.slice ia xs.length ic,.slice ua us.length uc,.slice ja ys.length jc]
 replace R:=R.below hbR
 replace B:=B.below hbR
 replace Bv:=Bv.below hbR
 replace hb0:=hb0.trans (hbR.mono (by omega))
 have hb3R:=hb43.trans (hbR.mono (by omega))
 have hsR:=hbR.size
 have hBRl:=BR.lt
 go_wp2_with fail
 clear hbR hb4 hb43
 generalize hY:w4.alloc (.cells #[.slice na ds.length nc,.slice ia xs.length ic,.slice ua us.length uc,.slice ja ys.length jc] 149)=Y at *
 clear hY
 generalize hrg:w4.heap.size=rg at *
 have hP2:RecPost w3 Y (.slice na ds.length nc) (.slice ia xs.length ic) (.slice ua us.length uc) (.slice ja ys.length jc) (pd.map TxnQ.e) (pt.map TxnQ.e):=⟨ds,us,rb,B0,by rw [hxs,hys];exact R,eD,by rw [hxs];exact eE,hrb1,hrb2⟩
 have hrY:=hr Y hb0
 obtain ⟨f0,f1,f2,f3⟩:=BR.lts4
 obtain ⟨k0,k1,k2,k3,k4⟩:=B.lts5
 have hW:Below Y.heap.size Y Y.drew:=(Below.refl _ _).drew
 have hnn:Nonempty (Lat Y):=⟨⟨Y,Below.refl _ _⟩⟩
 refine text_begin (S:=fun w' => ∃ u:Lat Y,w' = u.val) (by kernel_rfl) ?_
 refine sgr [(0,1),(2,1)] 3 (by kernel_rfl) ⟨⟨_,hW⟩,rfl⟩ ?_
 simp only [pkE]
 repeat go_big_quiet_step (fail)
 refine wpQuiet_nil ?_
 refine cla 1 (some 38) 134 #[.agg #[.slice na ds.length nc,.slice ia xs.length ic,.slice ua us.length uc,.slice ja ys.length jc]] 2 (by kernel_rfl) ?_
 refine (replica_any w3 _ _ _ _ (pd.map TxnQ.e) (pt.map TxnQ.e) _ (hP2.below hW) (hb3R.trans (hW.mono hb3R.size)) hFD hFE (by rw [List.length_map];omega) (by rw [List.length_map];omega) (by rw [hxs];exact gD.1) (by rw [hxs,hys];exact gE.1) (by rw [hxs];exact gD.2)).mono ?_
 rintro e w9 ⟨r,rfl,er,orr,_,_,hb9⟩
 replace hW:=hW.trans (hb9.mono hW.size)
 clear hb9
 have rr:=repK.own_rd orr
 have hrn:=mk_small er hFD hFE (by rw [List.length_map];omega) (by rw [List.length_map];omega)
 clear orr
 refine ⟨_,rfl,⟨⟨_,hW⟩,rfl⟩,?_⟩
 simp only [Act.put,pjE]
 refine cla 3 (some 40) 133 #[.agg #[r.vd,r.vb,r.vt,r.vu,r.vn],.agg #[.slice p0 pd.length p5,.slice p1 pb.length p6,.slice p2 pt.length p7,.slice p3 pu.length p8,.slice p4 pn.length p9]] 1 (by kernel_rfl) ?_
 refine (implSameReplicas_any r (⟨.slice p0 pd.length p5,pd,.slice p1 pb.length p6,pb,.slice p2 pt.length p7,pt,.slice p3 pu.length p8,pu,.slice p4 pn.length p9,pn⟩:RepQ) _ rr (repK.rd_below hrY hW) (by omega) (by dsimp only [RepQ.n];omega)).mono ?_
 rintro e w10 ⟨rfl,hb9⟩
 replace hW:=hW.trans (hb9.mono hW.size)
 clear hb9 rr
 rw [er]
 dsimp only [RepQ.e]
 refine ⟨_,rfl,⟨⟨_,hW⟩,rfl⟩,?_⟩
 simp only [Act.put,pjE]
 refine sgr [(4,1)] 0 (by kernel_rfl) ⟨⟨_,hW⟩,rfl⟩ ?_
 simp only [pkE]
 repeat go_big_quiet_step (fail)
 refine wpQuiet_nil ?_
 refine text_end (by kernel_rfl) ?_
 clear f0 f1 f2 f3 k0 k1 k2 k3 k4 hnn hrY er
 replace BR:=BR.below hW
 replace Bv:=Bv.below hW
 replace R:=R.below hW
 replace hb0:=hb0.trans (hW.mono (by omega))
 have hsW:=hW.size
 clear hP2 hb3R
 cases hS:sameRep (mkR (pd.map TxnQ.e) (pt.map TxnQ.e)) ⟨pd.map TxnQ.e,pb,pt.map TxnQ.e,pu.map USQ.e,pn⟩ with
 | false=>
  rw [hS] at hrs
  have HC:Hid (repF (RepQ.e (⟨.slice p0 pd.length p5,pd,.slice p1 pb.length p6,pb,.slice p2 pt.length p7,pt,.slice p3 pu.length p8,pu,.slice p4 pn.length p9,pn⟩:RepQ))=8):=hrs
  clear hW
  obtain ⟨z0,z1,z2,z3⟩:=Bv.cel4
  obtain ⟨y0,y1,y2,y3⟩:=Bv.frz4
  have HB:Hid (∀ u0 u1 u2 u3:Value,Below H w ((((w10.setCell ⟨H + 1,0,none⟩ u0).setCell ⟨H + 1,1,none⟩ u1).setCell ⟨H + 1,2,none⟩ u2).setCell ⟨H + 1,3,none⟩ u3)):=fun u0 u1 u2 u3=>(((hb0.setCell (p:=⟨H + 1,0,none⟩) (by show H≤H + 1;omega) u0).setCell (p:=⟨H + 1,1,none⟩) (by show H≤H + 1;omega) u1).setCell (p:=⟨H + 1,2,none⟩) (by show H≤H + 1;omega) u2).setCell (p:=⟨H + 1,3,none⟩) (by show H≤H + 1;omega) u3
  go_wp2
  exact bodyPost_ret (v:=.tuple #[.agg #[.slice none 0 0,.slice none 0 0,.slice none 0 0,.slice none 0 0],.iface 202 (.agg #[.int .i64 8])]) (by simp [results,Tryz.results82,go_sem,z0,z1,z2,z3]) rfl (ck_bad HC.out (by first | decide | exact hne) (by rw [hH];exact HB.out _ _ _ _))
 | true=>
  rw [hS] at hrs
  have HC:Hid (repF (RepQ.e (⟨.slice p0 pd.length p5,pd,.slice p1 pb.length p6,pb,.slice p2 pt.length p7,pt,.slice p3 pu.length p8,pu,.slice p4 pn.length p9,pn⟩:RepQ))=0):=hrs
  clear hW
  obtain ⟨z0,z1,z2,z3⟩:=Bv.cel4
  obtain ⟨y0,y1,y2,y3⟩:=Bv.frz4
  obtain ⟨x0,x1,x2,x3⟩:=BR.cel4
  have HB:Hid (∀ u0 u1 u2 u3:Value,Below H w ((((w10.setCell ⟨H + 1,0,none⟩ u0).setCell ⟨H + 1,1,none⟩ u1).setCell ⟨H + 1,2,none⟩ u2).setCell ⟨H + 1,3,none⟩ u3)∧RecPost w3 ((((w10.setCell ⟨H + 1,0,none⟩ u0).setCell ⟨H + 1,1,none⟩ u1).setCell ⟨H + 1,2,none⟩ u2).setCell ⟨H + 1,3,none⟩ u3) (.slice na ds.length nc) (.slice ia xs.length ic) (.slice ua us.length uc) (.slice ja ys.length jc) (pd.map TxnQ.e) (pt.map TxnQ.e)):=fun u0 u1 u2 u3=>⟨(((hb0.setCell (p:=⟨H + 1,0,none⟩) (by show H≤H + 1;omega) u0).setCell (p:=⟨H + 1,1,none⟩) (by show H≤H + 1;omega) u1).setCell (p:=⟨H + 1,2,none⟩) (by show H≤H + 1;omega) u2).setCell (p:=⟨H + 1,3,none⟩) (by show H≤H + 1;omega) u3,⟨ds,us,rb,B0,by
   rw [hxs,hys]
   exact (((R.other (by omega) (by omega) 0 u0).other (by omega) (by omega) 1 u1).other (by omega) (by omega) 2 u2).other (by omega) (by omega) 3 u3,eD,by rw [hxs];exact eE,hrb1,hrb2⟩⟩
  have hbw3:Below H w w3:=hb03
  clear R Bv BR hb0
  go_wp2
  exact bodyPost_ret (v:=.tuple #[.agg #[.slice na ds.length nc,.slice ia xs.length ic,.slice ua us.length uc,.slice ja ys.length jc],.nilIface]) (by simp [results,Tryz.results82,go_sem,z0,z1,z2,z3]) rfl (ck_ok HC.out (by rw [hH];exact hbw3) (HB.out _ _ _ _).2 (by rw [hH];exact (HB.out _ _ _ _).1))

theorem implReplicaFault_any (p:RepQ) (w:World) (hg:ErrT w) (h:repK.rd w p) (nd:NiceV p.vd) (nt:NiceV p.vt) (hl:p.n≤1048576) :
  Calls Tryz.prog 48 #[.agg #[p.vd,p.vb,p.vt,p.vu,p.vn]] w fun e w' => e=.returned (.int .i64 (repF p.e))∧Below w.heap.size w w' := by
 have hck:=fun w h=>checked_any p w h nd nt hl
 have hr:=fun (w' : World) hb=>repK.rd_below (w' := w') h hb
 obtain ⟨pvd,pd,pvb,pb,pvt,pt,pvu,pu,pvn,pn⟩:=p
 obtain ⟨p0,p5,rfl⟩:∃ a c,pvd=.slice a pd.length c:=h.1.shape
 obtain ⟨p1,p6,rfl⟩:∃ a c,pvb=.slice a pb.length c:=h.2.1.shape
 obtain ⟨p2,p7,rfl⟩:∃ a c,pvt=.slice a pt.length c:=h.2.2.1.shape
 obtain ⟨p3,p8,rfl⟩:∃ a c,pvu=.slice a pu.length c:=h.2.2.2.1.shape
 obtain ⟨p4,p9,rfl⟩:∃ a c,pvn=.slice a pn.length c:=h.2.2.2.2.shape
 dsimp only at hck hr
 have hb0:Below w.heap.size w (w.alloc (.cells #[.slice p0 pd.length p5,.slice p1 pb.length p6,.slice p2 pt.length p7,.slice p3 pu.length p8,.slice p4 pn.length p9] 56)):=by go_grown
 have B:=Blk.new w 56 #[.slice p0 pd.length p5,.slice p1 pb.length p6,.slice p2 pt.length p7,.slice p3 pu.length p8,.slice p4 pn.length p9]
 obtain ⟨q0,q1,q2,q3,q4⟩:=B.cel5
 go_enter Tryz.func48,Tryz.ntmps48
 go_wp2_with fail
 clear q0 q1 q2 q3 q4 B
 have hg0:=hg.below hb0
 have hr0:=hr _ hb0
 generalize w.alloc (.cells #[.slice p0 pd.length p5,.slice p1 pb.length p6,.slice p2 pt.length p7,.slice p3 pu.length p8,.slice p4 pn.length p9] 56)=W at *
 refine (hck W hr0).mono ?_
 rintro e w2 ⟨a0,a1,a2,a3,l0,c0,l1,c1,l2,c2,l3,c3,rfl,_,hb2⟩
 replace hb0:=hb0.trans (hb2.mono hb0.size)
 have hg2:=hg0.below hb2
 have hbA:Below w2.heap.size w2 (w2.alloc (.cells #[.slice a0 l0 c0,.slice a1 l1 c1,.slice a2 l2 c2,.slice a3 l3 c3] 149)):=by go_grown
 have hco:=codeOf_any (repF (RepQ.e (⟨.slice p0 pd.length p5,pd,.slice p1 pb.length p6,pb,.slice p2 pt.length p7,pt,.slice p3 pu.length p8,pu,.slice p4 pn.length p9,pn⟩:RepQ))) _ (hg2.below hbA)
 replace hb0:=hb0.trans (hbA.mono hb0.size)
 dsimp only [RepQ.e] at hco ⊢
 generalize repF _=c at *
 generalize misC c=m at *
 go_wp2_with fail
 refine hco.mono ?_
 rintro e w4 ⟨rfl,hb4⟩
 replace hb0:=hb0.trans (hb4.mono hb0.size)
 go_wp2
 go_ret
 exact ⟨rfl,hb0⟩

end Go.Proofs.YtjjoahhnkpjolaaGreatDoor
namespace Go.Proofs.YtjjoahhnkpjolaaGreatDoor
open Go.RowKit
open Go.BigFrame
set_option maxRecDepth 100000
theorem undL_snoc (ds:List TxnD) (xs:List ItemD) (t:TxnD):undL xs (ds ++ [t])=undL xs ds ++ [runU (allI xs ds) t.acts]:=by
 unfold undL
 rw [deeds_snoc,List.map_append]
 rfl

set_option maxRecDepth 100000 in
set_option maxHeartbeats 8000000 in
theorem l9Tent_any (ia:Option Addr) (ic:Nat) (xs:List ItemD) (v:Value) (ts:List TxnQ) (w:World) (h:itemK.At w (.slice ia xs.length ic) xs) (hN:Nice ia xs.length ic) (ht:txnK.At w v ts) (hF:∀ p∈ts,(TxnQ.e p).F=0) (hl:ts.length≤40) (h8:xs.length≤8) (g:Good xs) :
  Calls Tryz.prog 161 #[.slice ia xs.length ic,v] w fun e w' => ∃ (ua:Option Addr) (uc:Nat) (na:Option Addr) (nc:Nat) (us:List USQ) (ys:List ItemD),e=.returned (.tuple #[.slice ua us.length uc,.slice na ys.length nc])∧us.map USQ.e=undL xs (ts.map TxnQ.e)∧ys=allI xs (ts.map TxnQ.e)∧ussK.Own w' (.slice ua us.length uc) us∧itemK.Own w' (.slice na ys.length nc) ys∧(ussK.fp (.slice ua us.length uc) us).Nodup∧(∀ k∈ussK.fp (.slice ua us.length uc) us,w.heap.size≤k∧k ∉ blk (.slice na ys.length nc))∧(∀ k∈blk (.slice na ys.length nc),w.heap.size≤k)∧Below w.heap.size w w' := by
 obtain ⟨a,cap,rfl⟩:=ht.shape
 obtain ⟨i0,hi,hz0,hz1,hz2⟩:=info_parts infoItem
 obtain ⟨j0,hj,hy0,hy1,hy2⟩:=info_parts infoUndos9
 have hbA:Below w.heap.size w ((w.alloc (.cells #[] 175)).alloc (.cells #[] 173)):=by go_grown
 have oU:=World.ownsRow_lit (e:=175) (size:=1) w #[] 0 (Nat.le_refl _) (by decide) rfl
 have hbU:Below (w.alloc (.cells #[] 175)).heap.size (w.alloc (.cells #[] 175)) ((w.alloc (.cells #[] 175)).alloc (.cells #[] 173)):=by go_grown
 have oU2:=own_below oU hbU
 have oI:=World.ownsRow_lit (e:=173) (size:=2) (w.alloc (.cells #[] 175)) #[] 0 (Nat.le_refl _) (by decide) rfl
 simp only [World.size_alloc] at oI
 obtain ⟨_,_,e1,l1,_⟩:=h.below hbA
 simp only [Value.slice.injEq,true_and] at e1
 obtain ⟨rfl,rfl⟩:=e1
 have x1:([]:List ItemD).length + xs.length≤maxLen:=by unfold maxLen;rw [List.length_nil];omega
 have x2:(([]:List ItemD).length + xs.length) * 16≤140737488355328:=by rw [List.length_nil];omega
 have hsz:w.heap.size + 1≤((w.alloc (.cells #[] 175)).alloc (.cells #[] 173)).heap.size:=by simp only [World.size_alloc];omega
 have hli:(ts.length:Int)≤40:=by omega
 have h8i:(xs.length:Int)≤8:=by omega
 go_enter Tryz.func161,Tryz.ntmps161
 go_wp2_with (at_builtin;refine wpList_app_k (K:=itemK) _ rfl _ _ 53 rfl i0 (.agg #[.int .i64 0,.int .i64 0]) 16 Tryz.underlying53 hi hz0 hz1 hz2 rfl (by decide) (w.heap.size + 1) _ [] rfl oI _ xs _ rfl l1 (items_oneCell xs) hN x1 x2 hsz ?_)
 intro v' w2 hown hgrow
 try simp only [List.nil_append] at hown
 have hb2:Below w.heap.size w w2:=hbA.grown hgrow (by omega) (fun k hk=>by have:=(oI.lt k hk).1;omega)
 have oU3:=oU2.kept hgrow (Or.inr (by simp [Value.ownBlock]))
 obtain ⟨a2,c2,rfl⟩:=own_shape hown
 obtain ⟨o2,k2⟩:=own_zero hown
 obtain ⟨u2,m2⟩:=own_zero oU3
 clear hgrow oI l1 hown oU oU2 oU3 hbA hbU x1 x2 hsz
 have hO0:ussK.Own w2 (.slice (some ⟨w.heap.size,0,none⟩) 0 0) ([]:List USQ):=⟨u2,fun p hp=>by simp at hp⟩
 have hI0:itemK.Own w2 (.slice a2 xs.length c2) xs:=⟨o2,fun _ _=>trivial⟩
 have hF0:ussK.fp (.slice (some ⟨w.heap.size,0,none⟩) 0 0) ([]:List USQ)=[w.heap.size]:=by simp [Kind.fp,blk,Value.ownBlock]
 have HN0:Hid ((ussK.fp (.slice (some ⟨w.heap.size,0,none⟩) 0 0) ([]:List USQ)).Nodup∧(∀ k∈ussK.fp (.slice (some ⟨w.heap.size,0,none⟩) 0 0) ([]:List USQ),w.heap.size≤k∧k ∉ blk (.slice a2 xs.length c2))∧∀ k∈blk (.slice a2 xs.length c2),w.heap.size≤k):=by
  rw [hF0]
  refine ⟨by simp,fun k hk=>?_,fun k hk=>by have:=k2 k hk;omega⟩
  simp only [List.mem_singleton] at hk
  subst hk
  exact ⟨Nat.le_refl _,fun e=>by have:=k2 _ e;omega⟩
 have HD0:Hid (([]:List USQ).map USQ.e=undL xs ((ts.map TxnQ.e).take 0)∧xs=allI xs ((ts.map TxnQ.e).take 0)∧xs.length≤8∧Good xs):=⟨rfl,rfl,h8,g⟩
 clear o2 k2 u2 m2 hF0 h8 g
 go_wp2
 go_loopw [6,7,8] (fun vu vn j wr=>∃ (k:Nat) (us:List USQ) (ys:List ItemD),k≤ts.length∧j=.int .i64 k∧ussK.Own wr vu us∧itemK.Own wr vn ys∧Hid (us.map USQ.e=undL xs ((ts.map TxnQ.e).take k)∧ys=allI xs ((ts.map TxnQ.e).take k)∧ys.length≤8∧Good ys)∧Hid ((ussK.fp vu us).Nodup∧(∀ x∈ussK.fp vu us,w.heap.size≤x∧x ∉ blk vn)∧∀ x∈blk vn,w.heap.size≤x)∧Below w.heap.size w wr) (fun _ _ j _=>ts.length - (intOf j).toNat)
 case atStart=>exact ⟨0,[],xs,Nat.zero_le _,rfl,hO0,hI0,HD0,HN0,hb2⟩
 case round=>
  clear hO0 hI0 HD0 HN0 hb2
  obtain ⟨k,us,ys,hk,rfl,hO,hI,HD,HN,hb⟩:=hrel
  obtain ⟨sa,sc,rfl⟩:=hO.shape
  obtain ⟨ya,yc,rfl⟩:=hI.shape
  have HQL:Hid (us.length≤40):=by
   have:=congrArg List.length HD.out.1
   rw [List.length_map,undL,List.length_map,deeds_len,List.length_take] at this
   show us.length≤40
   omega
  by_cases hlt:k < ts.length
  ·obtain ⟨b,off,rfl,hbs,hcm,hrd⟩:=(ht.below hb).cell (by decide) k hlt
   have hc' : ∀ j x,(txnK.cells ts[k])[j]? = some x→wr.cell? ⟨b,off + k * 4 + j,none⟩=some x:=hcm
   have c0:=hc' 0 (.int .i64 ts[k].i) rfl
   have c1:=hc' 1 (.int .i64 ts[k].s) rfl
   have c2' := hc' 2 (.int .i64 ts[k].q) rfl
   have c3:=hc' 3 (ts[k].va) rfl
   rw [Nat.add_zero] at c0
   have hF1:=hF ts[k] (List.getElem_mem hlt)
   have HTK:=take_e ts k hlt
   have hlti:(k:Int) < (ts.length:Int):=by omega
   clear hcm hc'
   generalize ts[k]=p at *
   obtain ⟨i,s,q,va,acts⟩:=p
   replace hrd:actK.At wr va acts:=hrd
   obtain ⟨ta,tc,rfl⟩:=hrd.shape
   dsimp only [TxnQ.e] at c0 c1 c2' c3 hF1 HTK
   have hB4:Box4 wr b (off + k * 4) (.int .i64 i) (.int .i64 s) (.int .i64 q) (.slice ta acts.length tc):=⟨c0,c1,c2',c3⟩
   have hdo:=l4Do_any ya yc ys b (off + k * 4) i s q ta tc acts wr (itemK_at hI.at).2 (hI.niceV _ _ _ rfl) hB4 (actK_at hrd).2 HD.out.2.2.1 HD.out.2.2.2 hF1
   have HNX:Hid (∀ p' : USQ,p'.us=runU ys acts→(us ++ [p']).map USQ.e=undL xs ((ts.map TxnQ.e).take (k + 1))∧nextI ys ⟨i,s,q,acts⟩=allI xs ((ts.map TxnQ.e).take (k + 1))∧(nextI ys ⟨i,s,q,acts⟩).length≤8∧Good (nextI ys ⟨i,s,q,acts⟩)):=fun p' hp' => by
    obtain ⟨d1,d2,d3,d4⟩:=HD.out
    have g:=nextI_good d3 d4 hF1
    rw [HTK,undL_snoc,allI_snoc,← d2,List.map_append,d1]
    exact ⟨by rw [← hp'];rfl,rfl,g.1,g.2⟩
   have hnx:=step9 (xs:=ys) (t:=⟨i,s,q,acts⟩)
   dsimp only at hnx
   clear c0 c1 c2' c3 hB4 hrd HTK
   go_wp2_with fail
   refine hdo.mono ?_
   rintro e w5 ⟨ub,uc,jb,jc,rfl,hU,hb5⟩
   clear hdo
   obtain ⟨ou,lu⟩:=ownS_kind hU.o1
   obtain ⟨oi,li⟩:=ownS_kind hU.o2
   have hap:=hU.ap
   have OIL:∀ x∈blk (.slice jb (runR ys acts).length jc),x < w5.heap.size:=own_blk oi
   clear hU
   have HLT:=hO.lt
   have HIT:∀ x∈blk (.slice ya ys.length yc),x < wr.heap.size:=own_blk hI.1
   have hsr:=hb.size
   replace hO:=hO.below hb5
   replace hI:=hI.below hb5
   replace hb:=hb.trans (hb5.mono hb.size)
   have hs5:=hb5.size
   have hbR:Below w5.heap.size w5 (w5.alloc (.cells #[.int .i64 (runA ys acts).1,.int .i64 (runV ys acts),.slice ub (runU ys acts).length uc,.slice jb (runR ys acts).length jc] 251)):=by go_grown
   have BR:=Blk.new w5 251 #[.int .i64 (runA ys acts).1,.int .i64 (runV ys acts),.slice ub (runU ys acts).length uc,.slice jb (runR ys acts).length jc]
   have r2:=BR.cell 2 _ rfl
   have hbS:Below (w5.alloc (.cells #[.int .i64 (runA ys acts).1,.int .i64 (runV ys acts),.slice ub (runU ys acts).length uc,.slice jb (runR ys acts).length jc] 251)).heap.size (w5.alloc (.cells #[.int .i64 (runA ys acts).1,.int .i64 (runV ys acts),.slice ub (runU ys acts).length uc,.slice jb (runR ys acts).length jc] 251)) ((w5.alloc (.cells #[.int .i64 (runA ys acts).1,.int .i64 (runV ys acts),.slice ub (runU ys acts).length uc,.slice jb (runR ys acts).length jc] 251)).alloc (.cells #[.slice ub (runU ys acts).length uc] 175)):=by go_grown
   have BR2:=BR.below hbS
   have hBRl:=BR.lt
   have hOA:=(hO.below hbR).below hbS
   have hIA:=(hI.below hbR).below hbS
   have ou5:undoK.Own w5 (.slice ub (runU ys acts).length uc) (runU ys acts):=⟨ou,fun _ _=>trivial⟩
   have oi5:itemK.Own w5 (.slice jb (runR ys acts).length jc) (runR ys acts):=⟨oi,fun _ _=>trivial⟩
   have hPA:ussK.own _ (⟨.slice ub (runU ys acts).length uc,runU ys acts⟩:USQ):=(Kind.Own.below (Kind.Own.below ou5 hbR) hbS)
   have oiA:=Kind.Own.below (Kind.Own.below oi5 hbR) hbS
   clear ou5 oi5
   have hbB:=(hb.trans (hbR.mono (by omega))).trans (hbS.mono (by have:=hbR.size;omega))
   have hsA:w5.heap.size + 2≤((w5.alloc (.cells #[.int .i64 (runA ys acts).1,.int .i64 (runV ys acts),.slice ub (runU ys acts).length uc,.slice jb (runR ys acts).length jc] 251)).alloc (.cells #[.slice ub (runU ys acts).length uc] 175)).heap.size:=by simp only [World.size_alloc];omega
   have hrow0:=hOA.1
   clear hO hI ou oi hbS hb
   go_wp2_with (at_builtin;refine wpList_append_own_at _ rfl _ _ 54 rfl 0 175 j0 (.slice none 0 0) 1 24 Tryz.underlying54 hj hy0 hy1 hy2 rfl (by decide) _ us.length (ussK.row us) rfl hrow0 ⟨w5.heap.size + 1,0,none⟩ 1 1 [.slice ub (runU ys acts).length uc] rfl rfl ?c1 ?c2 ?c3 ?c4 ?c5 ?_)
   all_goals try (case c1=>intro j u hj;match j,hj with | 0,hj=>simp at hj;subst hj;simp [Addr.add])
   all_goals try (case c2=>intro u hu;simp at hu;subst hu;rfl)
   all_goals try (case c3=>have:=HQL.out;unfold maxLen;omega)
   all_goals try (case c4=>have:=HQL.out;omega)
   all_goals try (case c5=>first | omega | simp)
   intro v' w6 hown hgrow hnil hat
   clear hnil hrow0 r2
   rw [show w5.heap.size + 1 + 1=((w5.alloc (.cells #[.int .i64 (runA ys acts).1,.int .i64 (runV ys acts),.slice ub (runU ys acts).length uc,.slice jb (runR ys acts).length jc] 251)).alloc (.cells #[.slice ub (runU ys acts).length uc] 175)).heap.size from by simp only [World.size_alloc]] at hat
   generalize hwA:(w5.alloc (.cells #[.int .i64 (runA ys acts).1,.int .i64 (runV ys acts),.slice ub (runU ys acts).length uc,.slice jb (runR ys acts).length jc] 251)).alloc (.cells #[.slice ub (runU ys acts).length uc] 175)=WA at *
   clear hwA
   have hfoot:∀ x∈ussK.foot (⟨.slice ub (runU ys acts).length uc,runU ys acts⟩:USQ),wr.heap.size≤x:=fun x hx=>by
    have hx' : x∈undoK.fp (.slice ub (runU ys acts).length uc) (runU ys acts):=hx
    rw [undoK_fp] at hx'
    exact lu x hx'
   obtain ⟨hO5,hn5,hlo5,hou⟩:=hOA.snoc HN.out.1 (fun x hx=>(HN.out.2.1 x hx).1) hPA (by show (undoK.fp _ _).Nodup;rw [undoK_fp];exact blk_nodup _) (fun x hx hx' => by have:=HLT x hx';have:=hfoot x hx;omega) (fun x hx=>by have:=hfoot x hx;omega) hbB.size hown hgrow hat
   have hb6:Below w.heap.size w w6:=Out.keep hbB hou hbB.size (fun x hx=>(HN.out.2.1 x (by simp only [Kind.fp,List.mem_append];exact Or.inl hx)).1)
   obtain ⟨a6,c6,rfl⟩:=hO5.shape
   have hblk:∀ x∈ussK.fp (.slice a6 (us ++ [(⟨.slice ub (runU ys acts).length uc,runU ys acts⟩:USQ)]).length c6) (us ++ [(⟨.slice ub (runU ys acts).length uc,runU ys acts⟩:USQ)]),x∈ussK.fp (.slice sa us.length sc) us∨x∈blk (.slice ub (runU ys acts).length uc)∨w5.heap.size + 1 < x:=fun x hx=>by
    simp only [Kind.fp,List.mem_append,List.flatMap_append,List.flatMap_cons,List.flatMap_nil,List.append_nil] at hx
    rcases hx with hx | hx | hx
    ·rcases blk_new (B0:=0) (H:=WA.heap.size) (v:=.slice sa us.length sc) (by rcases hat with h | h;exact Or.inl h;exact Or.inr ⟨_,h,Nat.le_refl _⟩) hx with e | e
     ·exact Or.inl (by simp only [Kind.fp,List.mem_append];exact Or.inl e)
     ·exact Or.inr (Or.inr (by omega))
    ·exact Or.inl (by simp only [Kind.fp,List.mem_append];exact Or.inr hx)
    ·refine Or.inr (Or.inl ?_)
     have hx' : x∈undoK.fp (.slice ub (runU ys acts).length uc) (runU ys acts):=hx
     rwa [undoK_fp] at hx'
   have hoi6:=oiA.out hou (fun x hx e=>by
    rw [itemK_fp] at hx
    have:=li x hx
    have:=HLT x (by simp only [Kind.fp,List.mem_append];exact Or.inl e)
    omega)
   have hI6:=hIA.out hou (fun x hx e=>by
    rw [itemK_fp] at hx
    exact (HN.out.2.1 x (by simp only [Kind.fp,List.mem_append];exact Or.inl e)).2 hx)
   have BR6:=BR2.outs8 hou (fun e=>by have:=HLT _ (show w5.heap.size∈ussK.fp (.slice sa us.length sc) us by simp only [Kind.fp,List.mem_append];exact Or.inl e);omega)
   have n0:=BR6.cell 0 _ rfl
   have n3:=BR6.cell 3 _ rfl
   have HE6:=HNX.out ⟨.slice ub (runU ys acts).length uc,runU ys acts⟩ rfl
   have oil:∀ x∈blk (.slice jb (runR ys acts).length jc),x < w5.heap.size:=fun x hx=>OIL x hx
   have hnw:∀ x∈blk (.slice jb (runR ys acts).length jc),x ∉ ussK.fp (.slice a6 (us ++ [(⟨.slice ub (runU ys acts).length uc,runU ys acts⟩:USQ)]).length c6) (us ++ [(⟨.slice ub (runU ys acts).length uc,runU ys acts⟩:USQ)]):=fun x hx hm=>by
    rcases hblk x hm with e | e | e
    ·have:=HLT x e;have:=li x hx;omega
    ·rcases hap with h0 | h0
     ·unfold blk at e;rw [h0] at e;simp at e
     ·unfold blk at e hx
      apply h0
      cases hu:(Value.slice ub (runU ys acts).length uc).ownBlock with
      | none=>rw [hu] at e;simp at e
      | some y=>
       cases hv:(Value.slice jb (runR ys acts).length jc).ownBlock with
       | none=>rw [hv] at hx;simp at hx
       | some z=>
        rw [hu] at e
        rw [hv] at hx
        simp only [Option.toList,List.mem_singleton] at e hx
        rw [← e,← hx]
    ·have:=oil x hx;omega
   have hold:∀ x∈blk (.slice ya ys.length yc),x ∉ ussK.fp (.slice a6 (us ++ [(⟨.slice ub (runU ys acts).length uc,runU ys acts⟩:USQ)]).length c6) (us ++ [(⟨.slice ub (runU ys acts).length uc,runU ys acts⟩:USQ)]):=fun x hx hm=>by
    have hxl:=HIT x hx
    rcases hblk x hm with e | e | e
    ·exact (HN.out.2.1 x e).2 hx
    ·have:=lu x e;omega
    ·omega
   have hlen:(us ++ [(⟨.slice ub (runU ys acts).length uc,runU ys acts⟩:USQ)]).length=us.length + 1:=by simp
   rw [hlen] at hO5 hn5 hlo5 hnw hold ⊢
   by_cases hc:(runA ys acts).1=0
   ·rw [if_pos hc] at hnx
    have HD6:Hid ((us ++ [(⟨.slice ub (runU ys acts).length uc,runU ys acts⟩:USQ)]).map USQ.e=undL xs ((ts.map TxnQ.e).take (k + 1))∧runR ys acts=allI xs ((ts.map TxnQ.e).take (k + 1))∧(runR ys acts).length≤8∧Good (runR ys acts)):=by rw [← hnx];exact HE6
    have HN6:Hid ((ussK.fp (.slice a6 (us.length + 1) c6) (us ++ [(⟨.slice ub (runU ys acts).length uc,runU ys acts⟩:USQ)])).Nodup∧(∀ x∈ussK.fp (.slice a6 (us.length + 1) c6) (us ++ [(⟨.slice ub (runU ys acts).length uc,runU ys acts⟩:USQ)]),w.heap.size≤x∧x ∉ blk (.slice jb (runR ys acts).length jc))∧∀ x∈blk (.slice jb (runR ys acts).length jc),w.heap.size≤x):=⟨hn5,fun x hx=>⟨hlo5 x hx,fun e=>hnw x e hx⟩,fun x hx=>by have:=li x hx;omega⟩
    have HR:Hid (_∧_∧_):=⟨hO5,hoi6,hb6⟩
    have hcb:((runA ys acts).1 == 0)=true:=by simpa using hc
    clear hO5 hoi6 hb6 hI6 hIA oiA hPA hOA hown hgrow hat hou HN HD HNX HE6 hnw hold hblk hfoot BR BR2 BR6 hbB hb5 HLT HIT li lu hn5 hlo5 oil hap hnx hbR
    go_wp2
    go_roundw
    case rel=>exact ⟨k + 1,_,_,by omega,by go_num,HR.out.1,HR.out.2.1,HD6,HN6,HR.out.2.2⟩
    case measure=>simp [intOf];omega
   ·rw [if_neg hc] at hnx
    have HD6:Hid ((us ++ [(⟨.slice ub (runU ys acts).length uc,runU ys acts⟩:USQ)]).map USQ.e=undL xs ((ts.map TxnQ.e).take (k + 1))∧ys=allI xs ((ts.map TxnQ.e).take (k + 1))∧ys.length≤8∧Good ys):=by
     have:=HE6
     rw [hnx] at this
     exact this
    have HN6:Hid ((ussK.fp (.slice a6 (us.length + 1) c6) (us ++ [(⟨.slice ub (runU ys acts).length uc,runU ys acts⟩:USQ)])).Nodup∧(∀ x∈ussK.fp (.slice a6 (us.length + 1) c6) (us ++ [(⟨.slice ub (runU ys acts).length uc,runU ys acts⟩:USQ)]),w.heap.size≤x∧x ∉ blk (.slice ya ys.length yc))∧∀ x∈blk (.slice ya ys.length yc),w.heap.size≤x):=⟨hn5,fun x hx=>⟨hlo5 x hx,fun e=>hold x e hx⟩,HN.out.2.2⟩
    have HR:Hid (_∧_∧_):=⟨hO5,hI6,hb6⟩
    have hcb:((runA ys acts).1 == 0)=false:=by simpa using hc
    clear hO5 hoi6 hb6 hI6 hIA oiA hPA hOA hown hgrow hat hou HN HD HNX HE6 hnw hold hblk hfoot BR BR2 BR6 hbB hb5 HLT HIT li lu hn5 hlo5 oil hap hnx hbR
    go_wp2
    go_roundw
    case rel=>exact ⟨k + 1,_,_,by omega,by go_num,HR.out.1,HR.out.2.1,HD6,HN6,HR.out.2.2⟩
    case measure=>simp [intOf];omega
  ·have hkl:k=ts.length:=by omega
   subst hkl
   have hlti:¬ ((ts.length:Int) < (ts.length:Int)):=by omega
   obtain ⟨d1,d2,_,_⟩:=HD.out
   rw [List.take_of_length_le (by simp)] at d1 d2
   have HP:Hid (_∧_):=⟨d1,d2⟩
   clear HD d1 d2
   go_wp2
   exact bodyPost_ret (v:=.tuple #[.slice sa us.length sc,.slice ya ys.length yc]) (by simp [results,Tryz.results161,go_sem]) rfl ⟨sa,sc,ya,yc,us,ys,rfl,HP.out.1,HP.out.2,hO,hI,HN.out.1,HN.out.2.1,HN.out.2.2,hb⟩

end Go.Proofs.YtjjoahhnkpjolaaGreatDoor
namespace Go.Proofs.YtjjoahhnkpjolaaGreatDoor
open Go.RowKit Go.Maps
open Go.BigFrame
set_option maxRecDepth 100000
theorem apartG {s t:Value} (h:∀ g,s.ownBlock=some g→t.ownBlock=some g→False):s.ownBlock=none∨s.ownBlock≠t.ownBlock:=by
 cases e:s.ownBlock with
 | none=>exact Or.inl rfl
 | some g=>right;intro k;exact h g e k.symm

theorem Blk.otherG {w:World} {b g j:Nat} {t:TypeId} {cs:Array Value} {u:Value} (h:Blk w b t cs) (hne:b≠g):Blk (w.setCell ⟨g,j,none⟩ u) b t cs:=by
 unfold Blk at h ⊢
 rw [Below.heap_setCell _ _ _ _ (by dsimp only;omega)]
 exact h

end Go.Proofs.YtjjoahhnkpjolaaGreatDoor
