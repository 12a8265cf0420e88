/- Texts joined, with what the laws reach alone. -/
import Derived.Test.YtfdkcbafpiojkaaGreatDoorSGBV
import Derived.Test.YtfdkcbafpiojkaaGreatDoorSGBH
import Derived.Test.YtfdkcbafpiojkaaGreatDoorSGBA
set_option linter.unusedVariables false
set_option linter.unusedSimpArgs false
namespace Go.Proofs.YtfdkcbafpiojkaaGreatDoor
open Go.RowKit
open Go.BigFrame
set_option maxRecDepth 100000
theorem ten_at:∀ (D:List TxnD) (xs:List ItemD) (x:Int),repL (askI x) (deedsE xs D)=if idxN (D.map TxnD.id) x < D.length then (0,(allCd xs D).getD (idxN (D.map TxnD.id) x) 0,(allVl xs D).getD (idxN (D.map TxnD.id) x) 0) else (4,0,0)
 | [],xs,x=>by simp [deedsE,repL]
 | t :: r,xs,x=>by
  by_cases h:t.id=x
  ·simp [deedsE,repL,askI,h,idxN,allCd,allVl]
  ·simp [deedsE,repL,askI,h,idxN,allCd,allVl,ten_at r]

theorem tent_F {r:RepE} (h:repF r=0):(∀ t∈r.tent,t.F=0)∧r.tent.length≤8∧r.base=allI [] r.done∧itemsF r.base=0:=by
 have a:=((lst_iff _).1 (rep_zero h).2.1).2.1
 have b:=(rep_zero h).2.2
 unfold sameRep at b
 simp only [Bool.and_eq_true] at b
 have c:=(sameIs_eq b.2.1).symm
 have g:=allI_good (xs:=[]) (by simp) nil_good (fun t ht=>a t (List.mem_append_left _ ht))
 refine ⟨fun t ht=>a t (List.mem_append_right _ ht),(rep_zero h).1.2,c,?_⟩
 rw [c]
 exact F_of_good g.1 g.2

set_option maxRecDepth 100000 in
set_option maxHeartbeats 8000000 in
theorem specTentOf_any (p:RepQ) (x:Int) (w:World) (h:repK.own w p) (hl:p.n≤1048576) :
  Calls Tryz.prog 49 #[.agg #[p.vd,p.vb,p.vt,p.vu,p.vn],.int .i64 x] w fun e w' => e=.returned (.agg #[.int .i64 (tenR p.e x).1,.int .i64 (tenR p.e x).2.1,.int .i64 (tenR p.e x).2.2])∧Below w.heap.size w w' := by
 have hf:=fun b w hB h=>l9Fault_any b p w hB h hl
 have hr:=fun (w' : World) (hb:Below w.heap.size w w')=>repK.own_out (F:=[]) (w' := w') h (Out.of_below hb) (fun _ _=>by simp)
 have HE:Hid ((repF p.e=0→tenR p.e x=repL (askI x) (deedsE p.e.base p.e.tent)∧(∀ t∈p.e.tent,t.F=0)∧p.e.tent.length≤8∧itemsF p.e.base=0)∧(repF p.e≠0→tenR p.e x=(repF p.e,0,0))):=⟨fun h0=>⟨(if_pos h0).trans (by rw [(tent_F h0).2.2.1]),(tent_F h0).1,(tent_F h0).2.1,(tent_F h0).2.2.2⟩,fun h0=>if_neg h0⟩
 generalize tenR p.e x=E at *
 generalize repF p.e=c at *
 obtain ⟨pvd,pd,pvb,pb,pvt,pt,pvu,pu,pvn,pn⟩:=p
 obtain ⟨p0,p5,rfl⟩:∃ a c,pvd=.slice a pd.length c:=h.1.shape
 obtain ⟨p1,p6,rfl⟩:∃ a c,pvb=.slice a pb.length c:=h.2.1.shape
 obtain ⟨p2,p7,rfl⟩:∃ a c,pvt=.slice a pt.length c:=h.2.2.1.shape
 obtain ⟨p3,p8,rfl⟩:∃ a c,pvu=.slice a pu.length c:=h.2.2.2.1.shape
 obtain ⟨p4,p9,rfl⟩:∃ a c,pvn=.slice a pn.length c:=h.2.2.2.2.shape
 replace HE:Hid ((c=0→E=repL (askI x) (deedsE pb (pt.map TxnQ.e))∧(∀ t∈pt.map TxnQ.e,t.F=0)∧(pt.map TxnQ.e).length≤8∧itemsF pb=0)∧(c≠0→E=(c,0,0))):=HE
 dsimp only at hf
 have hr:∀ w' : World,Below w.heap.size w w' → repK.own w' (⟨.slice p0 pd.length p5,pd,.slice p1 pb.length p6,pb,.slice p2 pt.length p7,pt,.slice p3 pu.length p8,pu,.slice p4 pn.length p9,pn⟩:RepQ):=hr
 have hr1:∀ w' : World,Below w.heap.size w w' → txnK.At w' (.slice p2 pt.length p7) pt:=fun w' hb=>(hr w' hb).2.2.1.at
 have hr2:∀ w' : World,Below w.heap.size w w' → ItemRow w' p1 pb:=fun w' hb=>(itemK_at (hr w' hb).2.1.at).2
 have hN1:Nice p1 pb.length p6:=h.2.1.niceV _ _ _ rfl
 have hb0:Below w.heap.size w ((w.alloc (.cells #[.slice p0 pd.length p5,.slice p1 pb.length p6,.slice p2 pt.length p7,.slice p3 pu.length p8,.slice p4 pn.length p9] 32)).alloc (.cells #[.int .i64 0,.int .i64 0,.int .i64 0] 83)):=by go_grown
 have B:=(Blk.new w 32 #[.slice p0 pd.length p5,.slice p1 pb.length p6,.slice p2 pt.length p7,.slice p3 pu.length p8,.slice p4 pn.length p9]).below (show Below (w.alloc (.cells #[.slice p0 pd.length p5,.slice p1 pb.length p6,.slice p2 pt.length p7,.slice p3 pu.length p8,.slice p4 pn.length p9] 32)).heap.size (w.alloc (.cells #[.slice p0 pd.length p5,.slice p1 pb.length p6,.slice p2 pt.length p7,.slice p3 pu.length p8,.slice p4 pn.length p9] 32)) ((w.alloc (.cells #[.slice p0 pd.length p5,.slice p1 pb.length p6,.slice p2 pt.length p7,.slice p3 pu.length p8,.slice p4 pn.length p9] 32)).alloc (.cells #[.int .i64 0,.int .i64 0,.int .i64 0] 83)) by go_grown)
 have RB:=Blk.new (w.alloc (.cells #[.slice p0 pd.length p5,.slice p1 pb.length p6,.slice p2 pt.length p7,.slice p3 pu.length p8,.slice p4 pn.length p9] 32)) 83 #[.int .i64 0,.int .i64 0,.int .i64 0]
 simp only [World.size_alloc] at RB
 have hg9:w.heap.size≤w.heap.size + 1:=by omega
 go_enter Tryz.func49,Tryz.ntmps49
 go_wp2_with fail
 have hr0:=hr _ hb0
 generalize ((w.alloc (.cells #[.slice p0 pd.length p5,.slice p1 pb.length p6,.slice p2 pt.length p7,.slice p3 pu.length p8,.slice p4 pn.length p9] 32)).alloc (.cells #[.int .i64 0,.int .i64 0,.int .i64 0] 83))=W at *
 generalize hgg:w.heap.size + 1=g at *
 clear hgg
 refine (hf _ W B hr0).mono ?_
 rintro e w2 ⟨rfl,hb⟩
 replace B:=B.below hb
 replace RB:=RB.below hb
 replace hb0:=hb0.trans (hb.mono hb0.size)
 clear hb hf hr0
 by_cases hc:c=0
 ·obtain ⟨hE,hF,hl8,hi0⟩:=HE.out.1 hc
  subst hc
  rw [List.length_map] at hl8
  have hids:=ids_of hF (by rw [List.length_map];omega)
  obtain ⟨z1,z2,z3,z4⟩:=ea_ok (xs:=pb) hi0 hids
  have hc3:=fun w h h' => l3All_any p1 p6 pb (.slice p2 pt.length p7) (pt.map TxnQ.e) w h hN1 (txnsAt_of' h') hi0 hids
  rw [z1,z2,z3,z4] at hc3
  have hci:=fun w h=>l2Ids_any (.slice p2 pt.length p7) (pt.map TxnQ.e) w (txnsAt_of' h) (by rw [List.length_map];omega)
  rw [ten_at,List.length_map] at hE
  have HLC:Hid ((allCd pb (pt.map TxnQ.e)).length=pt.length):=show _=_ by rw [allCd_length,List.length_map]
  have HLV:Hid ((allVl pb (pt.map TxnQ.e)).length=pt.length):=show _=_ by rw [allVl_length,List.length_map]
  have HLI:Hid (((pt.map TxnQ.e).map TxnD.id).length=pt.length):=show _=_ by rw [List.length_map,List.length_map]
  generalize allCd pb (pt.map TxnQ.e)=CD at *
  generalize allVl pb (pt.map TxnQ.e)=VL at *
  generalize allI pb (pt.map TxnQ.e)=YS at *
  generalize (pt.map TxnQ.e).map TxnD.id=LI at *
  have HEE:Hid _:=hE
  clear HE hE hF hids z1 z2 z3 z4 hi0
  have q1:=B.cell 1 _ rfl
  have q2:=B.cell 2 _ rfl
  go_wp2_with fail
  clear q1 q2
  refine (hc3 w2 (hr2 w2 hb0) (hr1 w2 hb0)).mono ?_
  rintro e w3 ⟨b1,c1,b2,c2,b3,c3,rfl,hA,hb⟩
  replace B:=B.below hb
  replace RB:=RB.below hb
  replace hb0:=hb0.trans (hb.mono hb0.size)
  have RA:=hA.row
  clear hb hc3 hA
  have hbA:Below w3.heap.size w3 (w3.alloc (.cells #[.int .i64 0,.slice b1 CD.length c1,.slice b2 VL.length c2,.slice b3 YS.length c3] 75)):=by go_grown
  have AB:=Blk.new w3 75 #[.int .i64 0,.slice b1 CD.length c1,.slice b2 VL.length c2,.slice b3 YS.length c3]
  replace B:=B.below hbA
  replace RB:=RB.below hbA
  replace RA:=RA.below hbA
  replace hb0:=hb0.trans (hbA.mono hb0.size)
  clear hbA
  have q2:=B.cell 2 _ rfl
  go_wp2_with fail
  generalize w3.alloc (.cells #[.int .i64 0,.slice b1 CD.length c1,.slice b2 VL.length c2,.slice b3 YS.length c3] 75)=w4 at *
  generalize w3.heap.size=ga at *
  clear q2
  refine (hci w4 (hr1 w4 hb0)).mono ?_
  rintro e w5 ⟨ib,ic,rfl,oi,hb⟩
  replace RB:=RB.below hb
  replace AB:=AB.below hb
  replace RA:=RA.below hb
  replace hb0:=hb0.trans (hb.mono hb0.size)
  have hfi:=l1Find_any ib ic LI x w5 (Row.own oi) (by rw [HLI.out];omega)
  clear hb hci oi B hr hr1 hr2
  go_wp2_with fail
  refine hfi.mono ?_
  rintro e w6 ⟨rfl,rfl⟩
  clear hfi
  by_cases hk:idxN LI x < pt.length
  ·have E1:Hid (E=(0,CD.getD (idxN LI x) 0,VL.getD (idxN LI x) 0)):=by
    show E=_
    rw [HEE.out,if_pos hk]
   have hix:idxI LI x=(idxN LI x:Int):=if_pos (by rw [HLI.out];exact hk)
   rw [hix]
   clear HEE hix
   generalize idxN LI x=k at *
   obtain ⟨d1,o1,rfl,_,cc1⟩:=RA.r1 k (by rw [HLC.out];exact hk)
   obtain ⟨d2,o2,rfl,_,cc2⟩:=RA.r2 k (by rw [HLV.out];exact hk)
   have hk1:(k:Int) < (CD.length:Int):=by rw [HLC.out];omega
   have hk2:(k:Int) < (VL.length:Int):=by rw [HLV.out];omega
   clear HLC HLV RA HLI
   generalize CD.getD k 0=cd at *
   generalize VL.getD k 0=vl at *
   generalize CD.length=n1 at *
   generalize VL.length=n2 at *
   have g1:=AB.cell 1 _ rfl
   have g2:=AB.cell 2 _ rfl
   have r0:=RB.cell 0 _ rfl
   have r1:=RB.cell 1 _ rfl
   have r2:=RB.cell 2 _ rfl
   have f0:=RB.frozen 0
   have f1:=RB.frozen 1
   have f2:=RB.frozen 2
   go_wp2
   go_region
   go_wp2
   exact bodyPost_ret (v:=.agg #[.int .i64 0,.int .i64 cd,.int .i64 vl]) (by simp [results,Tryz.results49,go_sem,r0,r1,r2]) rfl ⟨by rw [E1.out],((((hb0.drew.setCell (p:=⟨g,0,none⟩) hg9 _).setCell (p:=⟨g,1,none⟩) hg9 _).setCell (p:=⟨g,2,none⟩) hg9 _))⟩
  ·have E1:Hid (E=(4,0,0)):=by
    show E=_
    rw [HEE.out,if_neg hk]
   have hix:idxI LI x=-1:=if_neg (by rw [HLI.out];exact hk)
   rw [hix]
   clear HEE hix HLC HLV RA HLI
   have r0:=RB.cell 0 _ rfl
   have r1:=RB.cell 1 _ rfl
   have r2:=RB.cell 2 _ rfl
   have f0:=RB.frozen 0
   have f1:=RB.frozen 1
   have f2:=RB.frozen 2
   go_wp2
   exact bodyPost_ret (v:=.agg #[.int .i64 4,.int .i64 0,.int .i64 0]) (by simp [results,Tryz.results49,go_sem,r0,r1,r2]) rfl ⟨by rw [E1.out],((hb0.setCell (p:=⟨g,0,none⟩) hg9 _).setCell (p:=⟨g,1,none⟩) hg9 _).setCell (p:=⟨g,2,none⟩) hg9 _⟩
 ·have E1:Hid (E=(c,0,0)):=HE.out.2 hc
  have hC' : (c != 0)=true:=by simpa using hc
  clear HE
  have r0:=RB.cell 0 _ rfl
  have r1:=RB.cell 1 _ rfl
  have r2:=RB.cell 2 _ rfl
  have f0:=RB.frozen 0
  have f1:=RB.frozen 1
  have f2:=RB.frozen 2
  go_wp2
  exact bodyPost_ret (v:=.agg #[.int .i64 c,.int .i64 0,.int .i64 0]) (by simp [results,Tryz.results49,go_sem,r0,r1,r2]) rfl ⟨by rw [E1.out],((hb0.setCell (p:=⟨g,0,none⟩) hg9 _).setCell (p:=⟨g,1,none⟩) hg9 _).setCell (p:=⟨g,2,none⟩) hg9 _⟩

end Go.Proofs.YtfdkcbafpiojkaaGreatDoor
namespace Go.Proofs.YtfdkcbafpiojkaaGreatDoor
open Go.RowKit
open Go.BigFrame
set_option maxRecDepth 100000
theorem deeds_at:∀ (D:List TxnD) (xs:List ItemD) (k:Nat) (h:k < D.length),∃ u,(deedsE xs D).drop k=(D[k],(allCd xs D).getD k 0,(allVl xs D).getD k 0,u) :: (deedsE xs D).drop (k + 1)
 | [],_,k,h=>absurd h (by simp)
 | t :: r,xs,0,h=>⟨runU xs t.acts,by simp [deedsE,allCd,allVl]⟩
 | t :: r,xs,k + 1,h=>by
  obtain ⟨u,e⟩:=deeds_at r (nextI xs t) k (by simpa using h)
  exact ⟨u,by simpa [deedsE,allCd,allVl] using e⟩

theorem done_F {r:RepE} (h:repF r=0):(∀ t∈r.done,t.F=0)∧(∀ t∈r.tent,t.F=0):=by
 have:=((lst_iff _).1 (rep_zero h).2.1).2.1
 exact ⟨fun t ht=>this t (List.mem_append_left _ ht),fun t ht=>this t (List.mem_append_right _ ht)⟩

set_option maxRecDepth 100000 in
set_option maxHeartbeats 8000000 in
theorem specFinalOf_any (p:RepQ) (x y:Int) (w:World) (h:repK.own w p) (hl:p.n≤1048576) :
  Calls Tryz.prog 48 #[.agg #[p.vd,p.vb,p.vt,p.vu,p.vn],.int .i64 x,.int .i64 y] w fun e w' => e=.returned (.agg #[.int .i64 (finR p.e x y).1,.int .i64 (finR p.e x y).2.1,.int .i64 (finR p.e x y).2.2])∧Below w.heap.size w w' := by
 have hf:=fun b w hB h=>l9Fault_any b p w hB h hl
 have hr:=fun (w' : World) (hb:Below w.heap.size w w')=>repK.own_out (F:=[]) (w' := w') h (Out.of_below hb) (fun _ _=>by simp)
 have HE:Hid ((repF p.e=0→finR p.e x y=repL (askS x y) (deedsE [] p.e.done)∧(∀ t∈p.e.done,t.F=0)∧p.e.done.length≤16)∧(repF p.e≠0→finR p.e x y=(repF p.e,0,0))):=⟨fun h0=>⟨if_pos h0,(done_F h0).1,(rep_zero h0).1.1⟩,fun h0=>if_neg h0⟩
 generalize finR p.e x y=E at *
 generalize repF p.e=c at *
 obtain ⟨pvd,pd,pvb,pb,pvt,pt,pvu,pu,pvn,pn⟩:=p
 obtain ⟨p0,p5,rfl⟩:∃ a c,pvd=.slice a pd.length c:=h.1.shape
 obtain ⟨p1,p6,rfl⟩:∃ a c,pvb=.slice a pb.length c:=h.2.1.shape
 obtain ⟨p2,p7,rfl⟩:∃ a c,pvt=.slice a pt.length c:=h.2.2.1.shape
 obtain ⟨p3,p8,rfl⟩:∃ a c,pvu=.slice a pu.length c:=h.2.2.2.1.shape
 obtain ⟨p4,p9,rfl⟩:∃ a c,pvn=.slice a pn.length c:=h.2.2.2.2.shape
 replace HE:Hid ((c=0→E=repL (askS x y) (deedsE [] (pd.map TxnQ.e))∧(∀ t∈pd.map TxnQ.e,t.F=0)∧(pd.map TxnQ.e).length≤16)∧(c≠0→E=(c,0,0))):=HE
 dsimp only at hf
 have hr:∀ w' : World,Below w.heap.size w w' → repK.own w' (⟨.slice p0 pd.length p5,pd,.slice p1 pb.length p6,pb,.slice p2 pt.length p7,pt,.slice p3 pu.length p8,pu,.slice p4 pn.length p9,pn⟩:RepQ):=hr
 have hr1:∀ w' : World,Below w.heap.size w w' → txnK.At w' (.slice p0 pd.length p5) pd:=fun w' hb=>(hr w' hb).1.at
 have hb0:Below w.heap.size w ((w.alloc (.cells #[.slice p0 pd.length p5,.slice p1 pb.length p6,.slice p2 pt.length p7,.slice p3 pu.length p8,.slice p4 pn.length p9] 32)).alloc (.cells #[.int .i64 0,.int .i64 0,.int .i64 0] 83)):=by go_grown
 have B:=(Blk.new w 32 #[.slice p0 pd.length p5,.slice p1 pb.length p6,.slice p2 pt.length p7,.slice p3 pu.length p8,.slice p4 pn.length p9]).below (show Below (w.alloc (.cells #[.slice p0 pd.length p5,.slice p1 pb.length p6,.slice p2 pt.length p7,.slice p3 pu.length p8,.slice p4 pn.length p9] 32)).heap.size (w.alloc (.cells #[.slice p0 pd.length p5,.slice p1 pb.length p6,.slice p2 pt.length p7,.slice p3 pu.length p8,.slice p4 pn.length p9] 32)) ((w.alloc (.cells #[.slice p0 pd.length p5,.slice p1 pb.length p6,.slice p2 pt.length p7,.slice p3 pu.length p8,.slice p4 pn.length p9] 32)).alloc (.cells #[.int .i64 0,.int .i64 0,.int .i64 0] 83)) by go_grown)
 have RB:=Blk.new (w.alloc (.cells #[.slice p0 pd.length p5,.slice p1 pb.length p6,.slice p2 pt.length p7,.slice p3 pu.length p8,.slice p4 pn.length p9] 32)) 83 #[.int .i64 0,.int .i64 0,.int .i64 0]
 simp only [World.size_alloc] at RB
 have hg9:w.heap.size≤w.heap.size + 1:=by omega
 go_enter Tryz.func48,Tryz.ntmps48
 go_wp2_with fail
 have hr0:=hr _ hb0
 generalize ((w.alloc (.cells #[.slice p0 pd.length p5,.slice p1 pb.length p6,.slice p2 pt.length p7,.slice p3 pu.length p8,.slice p4 pn.length p9] 32)).alloc (.cells #[.int .i64 0,.int .i64 0,.int .i64 0] 83))=W at *
 generalize hgg:w.heap.size + 1=g at *
 clear hgg
 refine (hf _ W B hr0).mono ?_
 rintro e w2 ⟨rfl,hb⟩
 replace B:=B.below hb
 replace RB:=RB.below hb
 replace hb0:=hb0.trans (hb.mono hb0.size)
 clear hb hf hr0
 by_cases hc:c=0
 ·obtain ⟨hE,hF,hl16⟩:=HE.out.1 hc
  subst hc
  rw [List.length_map] at hl16
  have hids:=ids_of hF (by rw [List.length_map];omega)
  obtain ⟨z1,z2,z3,z4⟩:=ea_ok (xs:=[]) nil_items hids
  have hc3:=fun w h=>l3All_any none 0 [] (.slice p0 pd.length p5) (pd.map TxnQ.e) w (Or.inl rfl) (Or.inr ⟨rfl,rfl,rfl⟩) (txnsAt_of' h) nil_items hids
  rw [z1,z2,z3,z4] at hc3
  simp only [List.length_nil] at hc3
  have HD:Hid (∀ (k:Nat) (h:k < pd.length),∃ u,(deedsE [] (pd.map TxnQ.e)).drop k=(TxnQ.e pd[k],(allCd [] (pd.map TxnQ.e)).getD k 0,(allVl [] (pd.map TxnQ.e)).getD k 0,u) :: (deedsE [] (pd.map TxnQ.e)).drop (k + 1)):=fun k h=>by
   obtain ⟨u,e⟩:=deeds_at (pd.map TxnQ.e) [] k (by rw [List.length_map];exact h)
   exact ⟨u,by rw [e];simp⟩
  have HLC:Hid ((allCd [] (pd.map TxnQ.e)).length=pd.length):=show _=_ by rw [allCd_length,List.length_map]
  have HLV:Hid ((allVl [] (pd.map TxnQ.e)).length=pd.length):=show _=_ by rw [allVl_length,List.length_map]
  have HDL:Hid ((deedsE [] (pd.map TxnQ.e)).length=pd.length):=show _=_ by rw [deeds_len,List.length_map]
  generalize allCd [] (pd.map TxnQ.e)=CD at *
  generalize allVl [] (pd.map TxnQ.e)=VL at *
  generalize allI [] (pd.map TxnQ.e)=YS at *
  generalize deedsE [] (pd.map TxnQ.e)=DE at *
  have HZ:Hid (repL (askS x y) (DE.drop 0)=E):=show _=_ by rw [List.drop_zero];exact hE.symm
  clear HE hE hF hids z1 z2 z3 z4
  have q0:=B.cell 0 _ rfl
  go_wp2_with fail
  clear q0
  refine (hc3 w2 (hr1 w2 hb0)).mono ?_
  rintro e w3 ⟨b1,c1,b2,c2,b3,c3,rfl,hA,hb⟩
  replace B:=B.below hb
  replace RB:=RB.below hb
  replace hb0:=hb0.trans (hb.mono hb0.size)
  have RA:=hA.row
  clear hb hc3 hA
  have hbA:Below w3.heap.size w3 (w3.alloc (.cells #[.int .i64 0,.slice b1 CD.length c1,.slice b2 VL.length c2,.slice b3 YS.length c3] 75)):=by go_grown
  have AB:=Blk.new w3 75 #[.int .i64 0,.slice b1 CD.length c1,.slice b2 VL.length c2,.slice b3 YS.length c3]
  replace B:=B.below hbA
  replace RB:=RB.below hbA
  replace RA:=RA.below hbA
  replace hb0:=hb0.trans (hbA.mono hb0.size)
  clear hbA
  go_wp2_with fail
  generalize w3.alloc (.cells #[.int .i64 0,.slice b1 CD.length c1,.slice b2 VL.length c2,.slice b3 YS.length c3] 75)=w4 at *
  generalize w3.heap.size=ga at *
  go_loopw [9] (fun j wr=>∃ k:Nat,k≤pd.length∧j=.int .i64 k∧wr=w4∧Hid (repL (askS x y) (DE.drop k)=E)) (fun j _=>pd.length - (intOf j).toNat)
  case atStart=>exact ⟨0,Nat.zero_le _,rfl,by first | rfl | trivial,HZ⟩
  case round=>
   clear HZ
   obtain ⟨k,hk,rfl,rfl,HA⟩:=hrel
   have q0:=B.cell 0 _ rfl
   by_cases hlt:k < pd.length
   ·obtain ⟨u,hdr⟩:=HD.out k hlt
    obtain ⟨b,off,rfl,hbs,hc,hrd⟩:=(hr1 wr hb0).cell (by decide) k hlt
    have hc' : ∀ j x,(txnK.cells pd[k])[j]? = some x→wr.cell? ⟨b,off + k * 4 + j,none⟩=some x:=hc
    have t1:=hc' 1 (.int .i64 pd[k].s) rfl
    have t2:=hc' 2 (.int .i64 pd[k].q) rfl
    have HY:Hid (askS x y (TxnQ.e pd[k])=true→E=(0,CD.getD k 0,VL.getD k 0)):=fun hx=>by rw [← HA.out,hdr,repL,if_pos hx]
    have HN:Hid (askS x y (TxnQ.e pd[k])=false→repL (askS x y) (DE.drop (k + 1))=E):=fun hx=>by rw [← HA.out,hdr,repL,if_neg (by simp [hx])]
    clear HA hc hc' hdr hrd HD HDL hbs
    obtain ⟨d1,o1,rfl,_,cc1⟩:=RA.r1 k (by rw [HLC.out];exact hlt)
    obtain ⟨d2,o2,rfl,_,cc2⟩:=RA.r2 k (by rw [HLV.out];exact hlt)
    have hk1:(k:Int) < (CD.length:Int):=by rw [HLC.out];omega
    have hk2:(k:Int) < (VL.length:Int):=by rw [HLV.out];omega
    clear HLC HLV RA
    generalize CD.getD k 0=cd at *
    generalize VL.getD k 0=vl at *
    generalize CD.length=n1 at *
    generalize VL.length=n2 at *
    generalize pd[k]=p at *
    obtain ⟨i,s,q,va,acts⟩:=p
    dsimp only [TxnQ.e,askS] at t1 t2 HY HN
    have hlti:(k:Int) < (pd.length:Int):=by omega
    have hli:(pd.length:Int)≤16:=by omega
    cases e1:(s == x)
    ·have HR' : Hid (repL (askS x y) (DE.drop (k + 1))=E):=HN.out (by rw [e1];rfl)
     clear HY HN cc1 cc2
     go_wp2
     go_roundw
     case rel=>exact ⟨k + 1,by omega,by go_num,trivial,HR'⟩
     case measure=>simp [intOf];omega
    ·cases e2:(q == y)
     ·have HR' : Hid (repL (askS x y) (DE.drop (k + 1))=E):=HN.out (by rw [e1,e2];rfl)
      clear HY HN cc1 cc2
      go_wp2
      go_roundw
      case rel=>exact ⟨k + 1,by omega,by go_num,trivial,HR'⟩
      case measure=>simp [intOf];omega
     ·have E1:Hid (E=(0,cd,vl)):=HY.out (by rw [e1,e2];rfl)
      clear HY HN
      have g1:=AB.cell 1 _ rfl
      have g2:=AB.cell 2 _ rfl
      have r0:=RB.cell 0 _ rfl
      have r1:=RB.cell 1 _ rfl
      have r2:=RB.cell 2 _ rfl
      have f0:=RB.frozen 0
      have f1:=RB.frozen 1
      have f2:=RB.frozen 2
      go_wp2
      go_region
      go_wp2
      exact bodyPost_ret (v:=.agg #[.int .i64 0,.int .i64 cd,.int .i64 vl]) (by simp [results,Tryz.results48,go_sem,r0,r1,r2]) rfl ⟨by rw [E1.out],((((hb0.drew.setCell (p:=⟨g,0,none⟩) hg9 _).setCell (p:=⟨g,1,none⟩) hg9 _).setCell (p:=⟨g,2,none⟩) hg9 _))⟩
   ·have E1:Hid (E=(4,0,0)):=by
     show E=_
     rw [← HA.out,List.drop_eq_nil_of_le (by rw [HDL.out];omega)]
     rfl
    have hlti:¬ (k:Int) < (pd.length:Int):=by omega
    have hli:(pd.length:Int)≤16:=by omega
    clear HA HD HDL
    have r0:=RB.cell 0 _ rfl
    have r1:=RB.cell 1 _ rfl
    have r2:=RB.cell 2 _ rfl
    have f0:=RB.frozen 0
    have f1:=RB.frozen 1
    have f2:=RB.frozen 2
    go_wp2
    exact bodyPost_ret (v:=.agg #[.int .i64 4,.int .i64 0,.int .i64 0]) (by simp [results,Tryz.results48,go_sem,r0,r1,r2]) rfl ⟨by rw [E1.out],((hb0.setCell (p:=⟨g,0,none⟩) hg9 _).setCell (p:=⟨g,1,none⟩) hg9 _).setCell (p:=⟨g,2,none⟩) hg9 _⟩
 ·have E1:Hid (E=(c,0,0)):=HE.out.2 hc
  have hC' : (c != 0)=true:=by simpa using hc
  clear HE
  have r0:=RB.cell 0 _ rfl
  have r1:=RB.cell 1 _ rfl
  have r2:=RB.cell 2 _ rfl
  have f0:=RB.frozen 0
  have f1:=RB.frozen 1
  have f2:=RB.frozen 2
  go_wp2
  exact bodyPost_ret (v:=.agg #[.int .i64 c,.int .i64 0,.int .i64 0]) (by simp [results,Tryz.results48,go_sem,r0,r1,r2]) rfl ⟨by rw [E1.out],((hb0.setCell (p:=⟨g,0,none⟩) hg9 _).setCell (p:=⟨g,1,none⟩) hg9 _).setCell (p:=⟨g,2,none⟩) hg9 _⟩

end Go.Proofs.YtfdkcbafpiojkaaGreatDoor
namespace Go.Proofs.YtfdkcbafpiojkaaGreatDoor
open Go.RowKit
open Go.BigFrame
set_option maxRecDepth 100000
theorem iFO (p:RepQ) (x y:Int) (w:World) (hg:ErrT w) (h:repK.own w p) (hl:p.n≤1048576):Calls Tryz.prog 47 #[.agg #[p.vd,p.vb,p.vt,p.vu,p.vn],.int .i64 x,.int .i64 y] w fun e w' => e=.returned (.agg #[.int .i64 (finR p.e x y).1,.int .i64 (finR p.e x y).2.1,.int .i64 (finR p.e x y).2.2])∧Below w.heap.size w w' :=
 implFinalOf_any p x y w hg (repK.own_rd h) h.1.niceV h.2.2.1.niceV hl

theorem iTO (p:RepQ) (x:Int) (w:World) (hg:ErrT w) (h:repK.own w p) (hl:p.n≤1048576):Calls Tryz.prog 45 #[.agg #[p.vd,p.vb,p.vt,p.vu,p.vn],.int .i64 x] w fun e w' => e=.returned (.agg #[.int .i64 (tenR p.e x).1,.int .i64 (tenR p.e x).2.1,.int .i64 (tenR p.e x).2.2])∧Below w.heap.size w w' :=
 implTentOf_any p x w hg (repK.own_rd h) h.1.niceV h.2.2.1.niceV hl

end Go.Proofs.YtfdkcbafpiojkaaGreatDoor
namespace Go.Proofs.YtfdkcbafpiojkaaGreatDoor
open Go.RowKit Go.Maps
open Go.BigFrame
set_option maxRecDepth 100000
set_option maxRecDepth 100000 in
set_option maxHeartbeats 8000000 in
theorem drawTentOf_any (a0:Option Addr) (cap0:Nat) (zs:List Int) (w:World) (h:Row .u8 w a0 zs) (hu:∀ i,0≤zs.getD i 0∧zs.getD i 0≤255) (hl:zs.length≤1048576) :
  Calls Tryz.prog 44 #[.slice a0 zs.length cap0] w fun e w' => ∃ (q:RepQ) (y0:Int),e=.returned (.tuple #[.agg #[q.vd,q.vb,q.vt,q.vu,q.vn],.int .i64 y0])∧q.n≤3000∧repK.own w' q∧Below w.heap.size w w' := by
 have hB:Below w.heap.size w (w.alloc (.cells #[.slice none 0 0,.slice none 0 0,.slice none 0 0,.slice none 0 0,.slice none 0 0] 32)):=by go_grown
 have R0:=(Blk.new w 32 #[.slice none 0 0,.slice none 0 0,.slice none 0 0,.slice none 0 0,.slice none 0 0])
 have hs0:w.heap.size + 0 < (w.alloc (.cells #[.slice none 0 0,.slice none 0 0,.slice none 0 0,.slice none 0 0,.slice none 0 0] 32)).heap.size:=by simp only [World.size_alloc];omega
 have hrow:=h.below hB
 go_enter Tryz.func44,Tryz.ntmps44
 go_wp2_with fail
 generalize (w.alloc (.cells #[.slice none 0 0,.slice none 0 0,.slice none 0 0,.slice none 0 0,.slice none 0 0] 32))=W at *
 refine (source_any W.heap.size a0 cap0 zs W (Nat.le_refl _) hl hu hrow).mono ?_
 rintro e w1 ⟨rfl,hS,hb1⟩
 replace R0:=R0.below hb1
 replace hB:=hB.trans (hb1.mono hB.size)
 generalize hSB:W.heap.size=b at *
 have hlt:=hS.lt
 clear hb1 hrow
 go_wp2_with fail
 refine (l9Bent_any b b 0 w1 hS (by omega)).mono ?_
 rintro e w2 ⟨q,rfl,hqn,oq,gq,hSn,hgn⟩
 replace hS:=hSn
 replace R0:=R0.grown hgn (by simp only [ne_eq,Option.some.injEq];omega)
 replace hB:=hB.grown hgn hB.size (fun k hk=>by simp at hk;omega)
 have low:∀ k∈repK.foot q,b < k∧k < w2.heap.size:=fun k hk=>⟨by have:=gq k hk;omega,repK.own_lt oq k hk⟩
 have HN:Hid (q.n≤3000):=hqn
 have hs1:b < w2.heap.size:=by have:=hgn.size;omega
 clear hSn hgn gq hqn
 obtain ⟨qvd,qd,qvb,qb,qvt,qt,qvu,qu,qvn,qn⟩:=q
 obtain ⟨s0,t0,rfl⟩:∃ a c,qvd=.slice a qd.length c:=oq.1.shape
 obtain ⟨s1,t1,rfl⟩:∃ a c,qvb=.slice a qb.length c:=oq.2.1.shape
 obtain ⟨s2,t2,rfl⟩:∃ a c,qvt=.slice a qt.length c:=oq.2.2.1.shape
 obtain ⟨s3,t3,rfl⟩:∃ a c,qvu=.slice a qu.length c:=oq.2.2.2.1.shape
 obtain ⟨s4,t4,rfl⟩:∃ a c,qvn=.slice a qn.length c:=oq.2.2.2.2.shape
 have Bx:=Blk.new w2 32 #[.slice s0 qd.length t0,.slice s1 qb.length t1,.slice s2 qt.length t2,.slice s3 qu.length t3,.slice s4 qn.length t4]
 have hbx:Below w2.heap.size w2 (w2.alloc (.cells #[.slice s0 qd.length t0,.slice s1 qb.length t1,.slice s2 qt.length t2,.slice s3 qu.length t3,.slice s4 qn.length t4] 32)):=by go_grown
 replace oq:=repK.own_out (F:=[]) oq (Out.of_below hbx) (fun _ _=>by simp)
 replace R0:=R0.below hbx
 replace hS:=hS.below hbx
 have hs2:w.heap.size≤w2.heap.size:=hB.size
 replace hB:=hB.trans (hbx.mono hs2)
 clear hbx
 go_wp2_with fail
 generalize w2.alloc (.cells #[.slice s0 qd.length t0,.slice s1 qb.length t1,.slice s2 qt.length t2,.slice s3 qu.length t3,.slice s4 qn.length t4] 32)=X at *
 generalize hgg:w2.heap.size=g at *
 have p0:=keep_cell (F:=[b,w.heap.size]) (Bx.cell 0 _ rfl) (by simp only [List.mem_cons,List.not_mem_nil,or_false];omega)
 have p1:=keep_cell (F:=[b,w.heap.size]) (Bx.cell 1 _ rfl) (by simp only [List.mem_cons,List.not_mem_nil,or_false];omega)
 have p2:=keep_cell (F:=[b,w.heap.size]) (Bx.cell 2 _ rfl) (by simp only [List.mem_cons,List.not_mem_nil,or_false];omega)
 have p3:=keep_cell (F:=[b,w.heap.size]) (Bx.cell 3 _ rfl) (by simp only [List.mem_cons,List.not_mem_nil,or_false];omega)
 have p4:=keep_cell (F:=[b,w.heap.size]) (Bx.cell 4 _ rfl) (by simp only [List.mem_cons,List.not_mem_nil,or_false];omega)
 have hne:Nonempty (KeepP (Out [b,w.heap.size] X)):=⟨⟨X,Out.refl _ _⟩⟩
 have hbd:Below X.heap.size X X.drew:=(Below.refl _ _).drew
 have hO:Out [b,w.heap.size] X X.drew:=Out.of_below hbd
 refine text_begin (S:=fun w' => ∃ u:KeepP (Out [b,w.heap.size] X),w' = u.val) (by kernel_rfl) ?_
 refine seg_range [(0,2)] 4 (by kernel_rfl) (by kernel_rfl) (by kernel_rfl) (by kernel_rfl) (by kernel_rfl) ⟨⟨_,hO⟩,rfl⟩ ?_
 simp only [pickR,List.toList_toArray,List.flatMap_cons,List.flatMap_nil,List.drop_succ_cons,List.drop_zero,List.take_succ_cons,List.take_zero,List.cons_append,List.nil_append,List.append_nil]
 repeat go_big_quiet_step (fail)
 refine wpQuiet_nil ?_
 clear p0 p1 p2 p3 p4
 replace oq:=repK.own_out (F:=[]) oq (Out.of_below hbd) (fun _ _=>by simp)
 replace hS:=hS.below hbd
 replace R0:=R0.below hbd
 replace hB:=hB.trans (hbd.mono hB.size)
 clear hbd
 generalize X.drew=Y0 at *
 refine call_at 2 (some 12) 93 #[.pointer (some ⟨b,0,none⟩),.int .i64 12] 3 (by kernel_rfl) (by kernel_rfl) (by kernel_rfl) (by kernel_rfl) (by kernel_rfl) ?_
 refine (next_any b b (0 + 400 + 0) 12 Y0 hS (by omega) (by omega)).mono ?_
 rintro e Y1 ⟨x0,rfl,hx0,hSn,hgn⟩
 have hx0a:0≤x0:=hx0.1
 have hx0b:x0≤12:=by have:=hx0.2.1 (by omega);omega
 have hUg:Out [b,w.heap.size] Y0 Y1:=(Out.of_grown hgn).mono (fun k hk=>by simp only [Option.toList,List.mem_singleton] at hk;simp [hk])
 replace hO:=hO.trans hUg
 replace R0:=R0.grown hgn (by simp only [ne_eq,Option.some.injEq];omega)
 replace oq:=repK.own_out oq (Out.of_grown hgn) (fun k hk hk' => by simp only [Option.toList,List.mem_singleton] at hk';have:=low k hk;omega)
 replace hB:=hB.grown hgn hB.size (fun k hk=>by simp at hk;omega)
 replace hS:=hSn
 clear hgn hSn hUg hx0
 refine ⟨_,rfl,⟨⟨_,hO⟩,rfl⟩,?_⟩
 simp only [Act.put,List.setIfInBounds_toArray,List.set_cons_zero,List.set_cons_succ]
 refine seg_range [(3,1)] 2 (by kernel_rfl) (by kernel_rfl) (by kernel_rfl) (by kernel_rfl) (by kernel_rfl) ⟨⟨_,hO⟩,rfl⟩ ?_
 simp only [pickR,List.toList_toArray,List.flatMap_cons,List.flatMap_nil,List.drop_succ_cons,List.drop_zero,List.take_succ_cons,List.take_zero,List.cons_append,List.nil_append,List.append_nil]
 repeat go_big_quiet_step (fail)
 refine wpQuiet_nil ?_
 refine one_at 4 _ 1 (by kernel_rfl) rfl (by kernel_rfl) ?_
 have Rr:=R0.row #[.slice s0 qd.length t0,.slice s1 qb.length t1,.slice s2 qt.length t2,.slice s3 qu.length t3,.slice s4 qn.length t4]
 replace oq:=repK.own_out oq (out_row Y1 w.heap.size #[.slice s0 qd.length t0,.slice s1 qb.length t1,.slice s2 qt.length t2,.slice s3 qu.length t3,.slice s4 qn.length t4]) (fun k hk hk' => by simp only [List.mem_singleton] at hk';have:=low k hk;omega)
 replace hB:=below_row (g:=w.heap.size) hB (Nat.le_refl _) #[.slice s0 qd.length t0,.slice s1 qb.length t1,.slice s2 qt.length t2,.slice s3 qu.length t3,.slice s4 qn.length t4]
 replace hO:Out [b,w.heap.size] X (Y1.setRow w.heap.size #[.slice s0 qd.length t0,.slice s1 qb.length t1,.slice s2 qt.length t2,.slice s3 qu.length t3,.slice s4 qn.length t4]):=hO.trans ((out_row Y1 w.heap.size #[.slice s0 qd.length t0,.slice s1 qb.length t1,.slice s2 qt.length t2,.slice s3 qu.length t3,.slice s4 qn.length t4]).mono (fun k hk=>by simp only [List.mem_singleton] at hk;simp [hk]))
 have HZ:Hid (repK.own (Y1.setRow w.heap.size #[.slice s0 qd.length t0,.slice s1 qb.length t1,.slice s2 qt.length t2,.slice s3 qu.length t3,.slice s4 qn.length t4]) (⟨.slice s0 qd.length t0,qd,.slice s1 qb.length t1,qb,.slice s2 qt.length t2,qt,.slice s3 qu.length t3,qu,.slice s4 qn.length t4,qn⟩:RepQ)∧Below w.heap.size w (Y1.setRow w.heap.size #[.slice s0 qd.length t0,.slice s1 qb.length t1,.slice s2 qt.length t2,.slice s3 qu.length t3,.slice s4 qn.length t4])):=⟨oq,hB⟩
 refine st_row (by kernel_rfl) 32 _ _ rfl _ #[.slice s0 qd.length t0,.slice s1 qb.length t1,.slice s2 qt.length t2,.slice s3 qu.length t3,.slice s4 qn.length t4] rfl rfl 32 _ R0 sz_rep9 rfl (by simp [Value.oneCell']) ?_
 refine ThenGo.to ⟨⟨⟨_,hO⟩,rfl⟩,?_⟩
 try simp only [Act.put,List.getElem_toArray,List.getElem_cons_succ,List.getElem_cons_zero,List.setIfInBounds_toArray,List.set_cons_zero,List.set_cons_succ]
 clear oq hB
 refine seg_range [(5,1)] 0 (by kernel_rfl) (by kernel_rfl) (by kernel_rfl) (by kernel_rfl) (by kernel_rfl) ⟨⟨_,hO⟩,rfl⟩ ?_
 simp only [pickR,List.toList_toArray,List.flatMap_cons,List.flatMap_nil,List.drop_succ_cons,List.drop_zero,List.take_succ_cons,List.take_zero,List.cons_append,List.nil_append,List.append_nil]
 repeat go_big_quiet_step (fail)
 refine wpQuiet_nil ?_
 refine text_end (by kernel_rfl) ?_
 have q0:=Rr.cell 0 _ rfl
 have q1:=Rr.cell 1 _ rfl
 have q2:=Rr.cell 2 _ rfl
 have q3:=Rr.cell 3 _ rfl
 have q4:=Rr.cell 4 _ rfl
 go_wp2
 exact bodyPost_ret (v:=.tuple #[.agg #[.slice s0 qd.length t0,.slice s1 qb.length t1,.slice s2 qt.length t2,.slice s3 qu.length t3,.slice s4 qn.length t4],.int .i64 (1 + x0)]) (by simp [results,Tryz.results44,go_sem,q0,q1,q2,q3,q4]) rfl ⟨(⟨.slice s0 qd.length t0,qd,.slice s1 qb.length t1,qb,.slice s2 qt.length t2,qt,.slice s3 qu.length t3,qu,.slice s4 qn.length t4,qn⟩:RepQ),1 + x0,rfl,HN.out,HZ.out.1,HZ.out.2⟩

set_option maxRecDepth 100000 in
set_option maxHeartbeats 8000000 in
theorem drawFinalOf_any (a0:Option Addr) (cap0:Nat) (zs:List Int) (w:World) (h:Row .u8 w a0 zs) (hu:∀ i,0≤zs.getD i 0∧zs.getD i 0≤255) (hl:zs.length≤1048576) :
  Calls Tryz.prog 46 #[.slice a0 zs.length cap0] w fun e w' => ∃ (q:RepQ) (y0 y1:Int),e=.returned (.tuple #[.agg #[q.vd,q.vb,q.vt,q.vu,q.vn],.int .i64 y0,.int .i64 y1])∧q.n≤3000∧repK.own w' q∧Below w.heap.size w w' := by
 have hB:Below w.heap.size w (w.alloc (.cells #[.slice none 0 0,.slice none 0 0,.slice none 0 0,.slice none 0 0,.slice none 0 0] 32)):=by go_grown
 have R0:=(Blk.new w 32 #[.slice none 0 0,.slice none 0 0,.slice none 0 0,.slice none 0 0,.slice none 0 0])
 have hs0:w.heap.size + 0 < (w.alloc (.cells #[.slice none 0 0,.slice none 0 0,.slice none 0 0,.slice none 0 0,.slice none 0 0] 32)).heap.size:=by simp only [World.size_alloc];omega
 have hrow:=h.below hB
 go_enter Tryz.func46,Tryz.ntmps46
 go_wp2_with fail
 generalize (w.alloc (.cells #[.slice none 0 0,.slice none 0 0,.slice none 0 0,.slice none 0 0,.slice none 0 0] 32))=W at *
 refine (source_any W.heap.size a0 cap0 zs W (Nat.le_refl _) hl hu hrow).mono ?_
 rintro e w1 ⟨rfl,hS,hb1⟩
 replace R0:=R0.below hb1
 replace hB:=hB.trans (hb1.mono hB.size)
 generalize hSB:W.heap.size=b at *
 have hlt:=hS.lt
 clear hb1 hrow
 go_wp2_with fail
 refine (l9Bent_any b b 0 w1 hS (by omega)).mono ?_
 rintro e w2 ⟨q,rfl,hqn,oq,gq,hSn,hgn⟩
 replace hS:=hSn
 replace R0:=R0.grown hgn (by simp only [ne_eq,Option.some.injEq];omega)
 replace hB:=hB.grown hgn hB.size (fun k hk=>by simp at hk;omega)
 have low:∀ k∈repK.foot q,b < k∧k < w2.heap.size:=fun k hk=>⟨by have:=gq k hk;omega,repK.own_lt oq k hk⟩
 have HN:Hid (q.n≤3000):=hqn
 have hs1:b < w2.heap.size:=by have:=hgn.size;omega
 clear hSn hgn gq hqn
 obtain ⟨qvd,qd,qvb,qb,qvt,qt,qvu,qu,qvn,qn⟩:=q
 obtain ⟨s0,t0,rfl⟩:∃ a c,qvd=.slice a qd.length c:=oq.1.shape
 obtain ⟨s1,t1,rfl⟩:∃ a c,qvb=.slice a qb.length c:=oq.2.1.shape
 obtain ⟨s2,t2,rfl⟩:∃ a c,qvt=.slice a qt.length c:=oq.2.2.1.shape
 obtain ⟨s3,t3,rfl⟩:∃ a c,qvu=.slice a qu.length c:=oq.2.2.2.1.shape
 obtain ⟨s4,t4,rfl⟩:∃ a c,qvn=.slice a qn.length c:=oq.2.2.2.2.shape
 have Bx:=Blk.new w2 32 #[.slice s0 qd.length t0,.slice s1 qb.length t1,.slice s2 qt.length t2,.slice s3 qu.length t3,.slice s4 qn.length t4]
 have hbx:Below w2.heap.size w2 (w2.alloc (.cells #[.slice s0 qd.length t0,.slice s1 qb.length t1,.slice s2 qt.length t2,.slice s3 qu.length t3,.slice s4 qn.length t4] 32)):=by go_grown
 replace oq:=repK.own_out (F:=[]) oq (Out.of_below hbx) (fun _ _=>by simp)
 replace R0:=R0.below hbx
 replace hS:=hS.below hbx
 have hs2:w.heap.size≤w2.heap.size:=hB.size
 replace hB:=hB.trans (hbx.mono hs2)
 clear hbx
 go_wp2_with fail
 generalize w2.alloc (.cells #[.slice s0 qd.length t0,.slice s1 qb.length t1,.slice s2 qt.length t2,.slice s3 qu.length t3,.slice s4 qn.length t4] 32)=X at *
 generalize hgg:w2.heap.size=g at *
 have p0:=keep_cell (F:=[b,w.heap.size]) (Bx.cell 0 _ rfl) (by simp only [List.mem_cons,List.not_mem_nil,or_false];omega)
 have p1:=keep_cell (F:=[b,w.heap.size]) (Bx.cell 1 _ rfl) (by simp only [List.mem_cons,List.not_mem_nil,or_false];omega)
 have p2:=keep_cell (F:=[b,w.heap.size]) (Bx.cell 2 _ rfl) (by simp only [List.mem_cons,List.not_mem_nil,or_false];omega)
 have p3:=keep_cell (F:=[b,w.heap.size]) (Bx.cell 3 _ rfl) (by simp only [List.mem_cons,List.not_mem_nil,or_false];omega)
 have p4:=keep_cell (F:=[b,w.heap.size]) (Bx.cell 4 _ rfl) (by simp only [List.mem_cons,List.not_mem_nil,or_false];omega)
 have hne:Nonempty (KeepP (Out [b,w.heap.size] X)):=⟨⟨X,Out.refl _ _⟩⟩
 have hbd:Below X.heap.size X X.drew:=(Below.refl _ _).drew
 have hO:Out [b,w.heap.size] X X.drew:=Out.of_below hbd
 refine text_begin (S:=fun w' => ∃ u:KeepP (Out [b,w.heap.size] X),w' = u.val) (by kernel_rfl) ?_
 refine seg_range [(0,2),(4,1)] 7 (by kernel_rfl) (by kernel_rfl) (by kernel_rfl) (by kernel_rfl) (by kernel_rfl) ⟨⟨_,hO⟩,rfl⟩ ?_
 simp only [pickR,List.toList_toArray,List.flatMap_cons,List.flatMap_nil,List.drop_succ_cons,List.drop_zero,List.take_succ_cons,List.take_zero,List.cons_append,List.nil_append,List.append_nil]
 repeat go_big_quiet_step (fail)
 refine wpQuiet_nil ?_
 clear p0 p1 p2 p3 p4
 replace oq:=repK.own_out (F:=[]) oq (Out.of_below hbd) (fun _ _=>by simp)
 replace hS:=hS.below hbd
 replace R0:=R0.below hbd
 replace hB:=hB.trans (hbd.mono hB.size)
 clear hbd
 generalize X.drew=Y0 at *
 refine call_at 2 (some 13) 93 #[.pointer (some ⟨b,0,none⟩),.int .i64 3] 6 (by kernel_rfl) (by kernel_rfl) (by kernel_rfl) (by kernel_rfl) (by kernel_rfl) ?_
 refine (next_any b b (0 + 400 + 0) 3 Y0 hS (by omega) (by omega)).mono ?_
 rintro e Y1 ⟨x0,rfl,hx0,hSn,hgn⟩
 have hx0a:0≤x0:=hx0.1
 have hx0b:x0≤3:=by have:=hx0.2.1 (by omega);omega
 have hUg:Out [b,w.heap.size] Y0 Y1:=(Out.of_grown hgn).mono (fun k hk=>by simp only [Option.toList,List.mem_singleton] at hk;simp [hk])
 replace hO:=hO.trans hUg
 replace R0:=R0.grown hgn (by simp only [ne_eq,Option.some.injEq];omega)
 replace oq:=repK.own_out oq (Out.of_grown hgn) (fun k hk hk' => by simp only [Option.toList,List.mem_singleton] at hk';have:=low k hk;omega)
 replace hB:=hB.grown hgn hB.size (fun k hk=>by simp at hk;omega)
 replace hS:=hSn
 clear hgn hSn hUg hx0
 refine ⟨_,rfl,⟨⟨_,hO⟩,rfl⟩,?_⟩
 simp only [Act.put,List.setIfInBounds_toArray,List.set_cons_zero,List.set_cons_succ]
 refine seg_range [(3,1)] 5 (by kernel_rfl) (by kernel_rfl) (by kernel_rfl) (by kernel_rfl) (by kernel_rfl) ⟨⟨_,hO⟩,rfl⟩ ?_
 simp only [pickR,List.toList_toArray,List.flatMap_cons,List.flatMap_nil,List.drop_succ_cons,List.drop_zero,List.take_succ_cons,List.take_zero,List.cons_append,List.nil_append,List.append_nil]
 repeat go_big_quiet_step (fail)
 refine wpQuiet_nil ?_
 refine call_at 5 (some 16) 93 #[.pointer (some ⟨b,0,none⟩),.int .i64 4] 4 (by kernel_rfl) (by kernel_rfl) (by kernel_rfl) (by kernel_rfl) (by kernel_rfl) ?_
 refine (next_any b b (0 + 400 + 1) 4 Y1 hS (by omega) (by omega)).mono ?_
 rintro e Y2 ⟨x1,rfl,hx1,hSn,hgn⟩
 have hx1a:0≤x1:=hx1.1
 have hx1b:x1≤4:=by have:=hx1.2.1 (by omega);omega
 have hUg:Out [b,w.heap.size] Y1 Y2:=(Out.of_grown hgn).mono (fun k hk=>by simp only [Option.toList,List.mem_singleton] at hk;simp [hk])
 replace hO:=hO.trans hUg
 replace R0:=R0.grown hgn (by simp only [ne_eq,Option.some.injEq];omega)
 replace oq:=repK.own_out oq (Out.of_grown hgn) (fun k hk hk' => by simp only [Option.toList,List.mem_singleton] at hk';have:=low k hk;omega)
 replace hB:=hB.grown hgn hB.size (fun k hk=>by simp at hk;omega)
 replace hS:=hSn
 clear hgn hSn hUg hx1
 refine ⟨_,rfl,⟨⟨_,hO⟩,rfl⟩,?_⟩
 simp only [Act.put,List.setIfInBounds_toArray,List.set_cons_zero,List.set_cons_succ]
 refine seg_range [(6,1)] 3 (by kernel_rfl) (by kernel_rfl) (by kernel_rfl) (by kernel_rfl) (by kernel_rfl) ⟨⟨_,hO⟩,rfl⟩ ?_
 simp only [pickR,List.toList_toArray,List.flatMap_cons,List.flatMap_nil,List.drop_succ_cons,List.drop_zero,List.take_succ_cons,List.take_zero,List.cons_append,List.nil_append,List.append_nil]
 repeat go_big_quiet_step (fail)
 refine wpQuiet_nil ?_
 refine one_at 7 _ 2 (by kernel_rfl) rfl (by kernel_rfl) ?_
 have Rr:=R0.row #[.slice s0 qd.length t0,.slice s1 qb.length t1,.slice s2 qt.length t2,.slice s3 qu.length t3,.slice s4 qn.length t4]
 replace oq:=repK.own_out oq (out_row Y2 w.heap.size #[.slice s0 qd.length t0,.slice s1 qb.length t1,.slice s2 qt.length t2,.slice s3 qu.length t3,.slice s4 qn.length t4]) (fun k hk hk' => by simp only [List.mem_singleton] at hk';have:=low k hk;omega)
 replace hB:=below_row (g:=w.heap.size) hB (Nat.le_refl _) #[.slice s0 qd.length t0,.slice s1 qb.length t1,.slice s2 qt.length t2,.slice s3 qu.length t3,.slice s4 qn.length t4]
 replace hO:Out [b,w.heap.size] X (Y2.setRow w.heap.size #[.slice s0 qd.length t0,.slice s1 qb.length t1,.slice s2 qt.length t2,.slice s3 qu.length t3,.slice s4 qn.length t4]):=hO.trans ((out_row Y2 w.heap.size #[.slice s0 qd.length t0,.slice s1 qb.length t1,.slice s2 qt.length t2,.slice s3 qu.length t3,.slice s4 qn.length t4]).mono (fun k hk=>by simp only [List.mem_singleton] at hk;simp [hk]))
 have HZ:Hid (repK.own (Y2.setRow w.heap.size #[.slice s0 qd.length t0,.slice s1 qb.length t1,.slice s2 qt.length t2,.slice s3 qu.length t3,.slice s4 qn.length t4]) (⟨.slice s0 qd.length t0,qd,.slice s1 qb.length t1,qb,.slice s2 qt.length t2,qt,.slice s3 qu.length t3,qu,.slice s4 qn.length t4,qn⟩:RepQ)∧Below w.heap.size w (Y2.setRow w.heap.size #[.slice s0 qd.length t0,.slice s1 qb.length t1,.slice s2 qt.length t2,.slice s3 qu.length t3,.slice s4 qn.length t4])):=⟨oq,hB⟩
 refine st_row (by kernel_rfl) 32 _ _ rfl _ #[.slice s0 qd.length t0,.slice s1 qb.length t1,.slice s2 qt.length t2,.slice s3 qu.length t3,.slice s4 qn.length t4] rfl rfl 32 _ R0 sz_rep9 rfl (by simp [Value.oneCell']) ?_
 refine ThenGo.to ⟨⟨⟨_,hO⟩,rfl⟩,?_⟩
 try simp only [Act.put,List.getElem_toArray,List.getElem_cons_succ,List.getElem_cons_zero,List.setIfInBounds_toArray,List.set_cons_zero,List.set_cons_succ]
 clear oq hB
 refine seg_range [(8,2)] 0 (by kernel_rfl) (by kernel_rfl) (by kernel_rfl) (by kernel_rfl) (by kernel_rfl) ⟨⟨_,hO⟩,rfl⟩ ?_
 simp only [pickR,List.toList_toArray,List.flatMap_cons,List.flatMap_nil,List.drop_succ_cons,List.drop_zero,List.take_succ_cons,List.take_zero,List.cons_append,List.nil_append,List.append_nil]
 repeat go_big_quiet_step (fail)
 refine wpQuiet_nil ?_
 refine text_end (by kernel_rfl) ?_
 have q0:=Rr.cell 0 _ rfl
 have q1:=Rr.cell 1 _ rfl
 have q2:=Rr.cell 2 _ rfl
 have q3:=Rr.cell 3 _ rfl
 have q4:=Rr.cell 4 _ rfl
 go_wp2
 exact bodyPost_ret (v:=.tuple #[.agg #[.slice s0 qd.length t0,.slice s1 qb.length t1,.slice s2 qt.length t2,.slice s3 qu.length t3,.slice s4 qn.length t4],.int .i64 (1 + x0),.int .i64 (1 + x1)]) (by simp [results,Tryz.results46,go_sem,q0,q1,q2,q3,q4]) rfl ⟨(⟨.slice s0 qd.length t0,qd,.slice s1 qb.length t1,qb,.slice s2 qt.length t2,qt,.slice s3 qu.length t3,qu,.slice s4 qn.length t4,qn⟩:RepQ),1 + x0,1 + x1,rfl,HN.out,HZ.out.1,HZ.out.2⟩

end Go.Proofs.YtfdkcbafpiojkaaGreatDoor
