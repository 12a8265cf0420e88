/- Texts joined, with what the laws reach alone. -/
import Derived.Test.YtfdkcbafpiojkaaGreatDoorSGBG
set_option linter.unusedVariables false
set_option linter.unusedSimpArgs false
namespace Go.Proofs.YtfdkcbafpiojkaaGreatDoor
open Go.RowKit
open Go.BigFrame
set_option maxRecDepth 100000
set_option maxRecDepth 100000 in
set_option maxHeartbeats 16000000 in
theorem implDeliver_any (p:RepQ) (vf:Value) (fs:List TxnQ) (w:World) (hg:ErrT w) (h9:repK.own w p) (hT9:txnK.Own w vf fs) (hl:p.n≤1048576) (hl' : fs.length + nmL TxnQ.n fs≤1048576) :
  Calls Tryz.prog 27 #[.agg #[p.vd,p.vb,p.vt,p.vu,p.vn],vf] w fun e w' => ∃ q:RepQ,e=.returned (.agg #[.int .i64 (dlC p.e (fs.map TxnQ.e)),.int .i64 (dlA p.e (fs.map TxnQ.e)),.int .i64 0,q.vd,q.vb,q.vt,q.vu,q.vn])∧q.e=dlE p.e (fs.map TxnQ.e)∧repK.own w' q∧(repK.foot q).Nodup∧(∀ k∈repK.foot q,w.heap.size≤k)∧Below w.heap.size w w' := by
 have hcf:=fun w h hT=>checkFresh_any p vf fs w h h9.1.niceV h9.2.2.1.niceV hl hT hl'
 have h:=repK.own_rd h9
 have hr:=fun (w' : World) hb=>repK.rd_below (w' := w') h hb
 have hrF:=fun (w' : World) (hb:Below w.heap.size w w')=>hT9.at.below hb
 have HNT:Hid (NiceV p.vd∧NiceV vf):=⟨h9.1.niceV,hT9.niceV⟩
 have HCP:Hid (CapOk p.vt∧CapOk vf):=⟨h9.2.2.1.capOk,hT9.capOk⟩
 have HE:Hid ((dlC p.e (fs.map TxnQ.e)=0→dlA p.e (fs.map TxnQ.e)=plB (p.tent.map TxnQ.e) (fs.map TxnQ.e)∧dlE p.e (fs.map TxnQ.e)=mkR ((p.done ++ fs).map TxnQ.e) (plK (p.tent.map TxnQ.e) (fs.map TxnQ.e))∧bthF (p.tent.map TxnQ.e) (fs.map TxnQ.e)=0∧(∀ q∈p.done ++ fs,(TxnQ.e q).F=0)∧(∀ t∈plK (p.tent.map TxnQ.e) (fs.map TxnQ.e),t.F=0)∧(plK (p.tent.map TxnQ.e) (fs.map TxnQ.e)).length≤8∧p.done.length + fs.length≤16)∧(dlC p.e (fs.map TxnQ.e)≠0→dlA p.e (fs.map TxnQ.e)=0∧dlE p.e (fs.map TxnQ.e)=⟨[],[],[],[],[]⟩)):=by
  refine ⟨fun h0=>?_,fun h0=>⟨if_neg h0,if_neg h0⟩⟩
  obtain ⟨z0,z1,z2,z3,z4,z5,z6,z7⟩:=dlC_zero h0
  refine ⟨if_pos h0,?_,z4,fun q hq=>z5 _ ?_,z6,z7,?_⟩
  ·rw [dlE,if_pos h0,List.map_append];rfl
  ·rcases List.mem_append.1 hq with hq | hq
   ·exact List.mem_append_left _ (List.mem_map.2 ⟨q,hq,rfl⟩)
   ·exact List.mem_append_right _ (List.mem_map.2 ⟨q,hq,rfl⟩)
  ·simpa [RepQ.e] using z3
 have hlt:p.tent.length + nmL TxnQ.n p.tent≤1048576:=by dsimp only [RepQ.n] at hl;omega
 have hpl:=fun w' hA hB=>implPlanOf_any p.vt vf p.tent fs w' hA hB HCP.out.1 HCP.out.2 hlt hl'
 obtain ⟨fa,fk,rfl⟩:=hT9.shape
 generalize dlA p.e (fs.map TxnQ.e)=AA at *
 generalize dlE p.e (fs.map TxnQ.e)=RE at *
 generalize dlC p.e (fs.map TxnQ.e)=c at *
 obtain ⟨pvd,pd,pvb,pb,pvt,pt,pvu,pu,pvn,pn⟩:=p
 obtain ⟨p0,p5,rfl⟩:∃ a c,pvd=.slice a pd.length c:=h.1.shape
 obtain ⟨p1,p6,rfl⟩:∃ a c,pvb=.slice a pb.length c:=h.2.1.shape
 obtain ⟨p2,p7,rfl⟩:∃ a c,pvt=.slice a pt.length c:=h.2.2.1.shape
 obtain ⟨p3,p8,rfl⟩:∃ a c,pvu=.slice a pu.length c:=h.2.2.2.1.shape
 obtain ⟨p4,p9,rfl⟩:∃ a c,pvn=.slice a pn.length c:=h.2.2.2.2.shape
 dsimp only at hcf HE hpl HNT
 have hr1:∀ w' : World,Below w.heap.size w w' → txnK.At w' (.slice p0 pd.length p5) pd:=fun w' hb=>(hr w' hb).1
 have hr3:∀ w' : World,Below w.heap.size w w' → txnK.At w' (.slice p2 pt.length p7) pt:=fun w' hb=>(hr w' hb).2.2.1
 have b0:Below w.heap.size w ((w.alloc (.cells #[.slice p0 pd.length p5,.slice p1 pb.length p6,.slice p2 pt.length p7,.slice p3 pu.length p8,.slice p4 pn.length p9] 32)).alloc (.cells #[.int .i64 0,.int .i64 0,.int .i64 0,.slice none 0 0,.slice none 0 0,.slice none 0 0,.slice none 0 0,.slice none 0 0] 34)):=by go_grown
 have BA:=(Blk.new w 32 #[.slice p0 pd.length p5,.slice p1 pb.length p6,.slice p2 pt.length p7,.slice p3 pu.length p8,.slice p4 pn.length p9]).below (w' := ((w.alloc (.cells #[.slice p0 pd.length p5,.slice p1 pb.length p6,.slice p2 pt.length p7,.slice p3 pu.length p8,.slice p4 pn.length p9] 32)).alloc (.cells #[.int .i64 0,.int .i64 0,.int .i64 0,.slice none 0 0,.slice none 0 0,.slice none 0 0,.slice none 0 0,.slice none 0 0] 34))) (by go_grown)
 have RB:=Blk.new (w.alloc (.cells #[.slice p0 pd.length p5,.slice p1 pb.length p6,.slice p2 pt.length p7,.slice p3 pu.length p8,.slice p4 pn.length p9] 32)) 34 #[.int .i64 0,.int .i64 0,.int .i64 0,.slice none 0 0,.slice none 0 0,.slice none 0 0,.slice none 0 0,.slice none 0 0]
 simp only [World.size_alloc] at RB
 have hr0:=hr _ b0
 have hg0:=hg.below b0
 have hrF0:=hrF _ b0
 clear h9 hT9 HCP
 go_enter Tryz.func27,Tryz.ntmps27
 go_wp2_with fail
 generalize ((w.alloc (.cells #[.slice p0 pd.length p5,.slice p1 pb.length p6,.slice p2 pt.length p7,.slice p3 pu.length p8,.slice p4 pn.length p9] 32)).alloc (.cells #[.int .i64 0,.int .i64 0,.int .i64 0,.slice none 0 0,.slice none 0 0,.slice none 0 0,.slice none 0 0,.slice none 0 0] 34))=W at *
 refine (hcf W hr0 hrF0).mono ?_
 rintro e w2 ⟨rfl,hb⟩
 replace BA:=BA.below hb
 replace RB:=RB.below hb
 replace hg0:=hg0.below hb
 replace b0:=below_from b0 hb
 clear hb hcf hr0 hrF0
 go_wp2_with fail
 refine (codeOf_any c w2 hg0).mono ?_
 rintro e w3 ⟨rfl,hb⟩
 replace BA:=BA.below hb
 replace RB:=RB.below hb
 replace b0:=below_from b0 hb
 clear hb hg0
 by_cases hc:c=0
 ·obtain ⟨eA,eE,hBT,hFD,hFK,hK8,hl16⟩:=HE.out.1 hc
  subst hc
  clear HE
  have a2:=BA.cell 2 _ rfl
  rw [hBT] at hpl
  have HFD:Hid _:=hFD
  clear hFD
  go_wp2_with fail
  clear a2
  refine (hpl w3 (hr3 _ b0) (hrF _ b0)).mono ?_
  rintro e w4 ⟨v1,v2,q1,kq,rfl,e1,e2,o1,OK0,n12,g12,hb⟩
  obtain ⟨g1a,g1c,hg1⟩:=o1.shape
  generalize hg1n:q1.length=g1n at hg1
  subst hg1
  obtain ⟨ka,kc,rfl⟩:=OK0.shape
  replace BA:=BA.below hb
  replace RB:=RB.below hb
  replace b0:=below_from b0 hb
  clear hb hpl n12 g12 o1 e1 hg1n
  have HFE:Hid (∀ q∈kq,(TxnQ.e q).F=0):=fun q hq=>hFK _ (by rw [← e2];exact List.mem_map.2 ⟨q,hq,rfl⟩)
  have hk8:kq.length≤8:=by rw [← e2,List.length_map] at hK8;exact hK8
  have HRES:Hid (AA=_∧RE=mkR ((pd ++ fs).map TxnQ.e) (kq.map TxnQ.e)):=⟨eA,by rw [e2];exact eE⟩
  clear hFK hK8 eA eE e2 hBT
  generalize plN (pt.map TxnQ.e) (fs.map TxnQ.e)=PN at *
  generalize plB (pt.map TxnQ.e) (fs.map TxnQ.e)=PB at *
  have hbx:Below w4.heap.size w4 (w4.alloc (.cells #[.int .i64 0,.int .i64 PN,.int .i64 PB,.slice g1a g1n g1c,.slice ka kq.length kc] 78)):=by go_grown
  have BP:=Blk.new w4 78 #[.int .i64 0,.int .i64 PN,.int .i64 PB,.slice g1a g1n g1c,.slice ka kq.length kc]
  have hw4g:w4.heap.size≠w.heap.size + 1:=by have:=RB.lt;omega
  replace BA:=BA.below hbx
  replace RB:=RB.below hbx
  replace b0:=below_from b0 hbx
  replace OK0:=OK0.below hbx
  clear hbx
  go_wp2_with fail
  generalize w4.alloc (.cells #[.int .i64 0,.int .i64 PN,.int .i64 PB,.slice g1a g1n g1c,.slice ka kq.length kc] 78)=X at *
  generalize w4.heap.size=gp at *
  have bX:=b0
  have hXR:=RB.lt
  refine region_vals [some 20,some 21,some 22,some 23,some 24,some 25,some 26,some 27,some 7] (fun vs w' => ∃ (v23 v24:Value) (k1:Option Addr) (k2 k3:Nat) (k4:Option Addr) (k5 k6:Nat) (k7:Option Addr) (k8 k9:Nat) (m1:Option Addr) (m2 m3:Nat) (w0:World) (g:Nat),vs=[.pointer (some ⟨w.heap.size,0,none⟩),.slice p0 pd.length p5,.slice fa fs.length fk,v23,v24,.pointer (some ⟨gp,4,none⟩),.slice ka kq.length kc,.agg #[.slice k1 k2 k3,.slice k4 k5 k6,.slice k7 k8 k9,.slice m1 m2 m3],.pointer (some ⟨g,0,none⟩)]∧X.heap.size≤g∧Blk w' g 103 #[.slice k1 k2 k3,.slice k4 k5 k6,.slice k7 k8 k9,.slice m1 m2 m3]∧RecPost w0 w' (.slice k1 k2 k3) (.slice k4 k5 k6) (.slice k7 k8 k9) (.slice m1 m2 m3) ((pd ++ fs).map TxnQ.e) (kq.map TxnQ.e)∧Below w0.heap.size w0 w' ∧ X.heap.size≤w0.heap.size∧Below X.heap.size X w') ?_ ?_
  ·have hW:Below X.heap.size X X.drew:=(Below.refl _ _).drew
   have hnn:Nonempty (Lat X):=⟨⟨X,Below.refl _ _⟩⟩
   have f0:=BA.lat 0 _ rfl
   have f4:=BP.lat 4 _ rfl
   refine text_begin (S:=fun w' => ∃ u:Lat X,w' = u.val) (by kernel_rfl) ?_
   refine seg_range [(0,3),(5,2)] 5 (by kernel_rfl) (by kernel_rfl) (by kernel_rfl) (by kernel_rfl) (by kernel_rfl) ⟨⟨_,hW⟩,rfl⟩ ?_
   simp only [pickR,List.toList_toArray,List.flatMap_cons,List.flatMap_nil,List.drop_succ_cons,List.drop_zero,List.take_succ_cons,List.take_zero,List.cons_append,List.nil_append,List.append_nil]
   repeat go_big_quiet_step (fail)
   refine wpQuiet_nil ?_
   clear f0 f4
   generalize X.drew=wd at hW ⊢
   refine two_at 3 8 4 (by kernel_rfl) (by kernel_rfl) ?_ ?_
   ·skip
    refine op_one 3 _ rfl ?_
    have B6:=Blk.new wd 28 #[.slice p0 pd.length p5,.slice fa fs.length fk]
    have hba:Below wd.heap.size wd (wd.alloc (.cells #[.slice p0 pd.length p5,.slice fa fs.length fk] 28)):=by go_grown
    replace hW:=hW.trans (hba.mono hW.size)
    clear hba
    go_wp2
    refine ThenGo.to ⟨⟨⟨_,hW⟩,rfl⟩,?_⟩
    generalize hGx1:wd.heap.size=g6 at *
    clear hGx1
    generalize wd.alloc (.cells #[.slice p0 pd.length p5,.slice fa fs.length fk] 28)=x1 at *
    refine two_at 4 8 3 (by kernel_rfl) (by kernel_rfl) ?_ ?_
    ·skip
     refine op_call 4 (some 24) 69 #[.slice (some ⟨g6,0,none⟩) 2 2] (by kernel_rfl) (by kernel_rfl) (by kernel_rfl) ?_
     have hcc:=concat9_any g6 2 (.slice p0 pd.length p5) (.slice fa fs.length fk) pd fs x1 B6.lt (B6.cell 0 _ rfl) (B6.cell 1 _ rfl) (hr1 _ (bX.trans (hW.mono bX.size))) (hrF _ (bX.trans (hW.mono bX.size))) HNT.out.1 HNT.out.2 (by omega)
     refine hcc.mono ?_
     rintro e x2 ⟨vc,rfl,oc,hb⟩
     clear hcc B6
     replace hW:=hW.trans (hb.mono hW.size)
     clear hb
     refine ⟨_,rfl,⟨⟨_,hW⟩,rfl⟩,?_⟩
     simp only [Act.put,List.getElem_toArray,List.getElem_cons_succ,List.getElem_cons_zero,List.setIfInBounds_toArray,List.set_cons_zero,List.set_cons_succ]
     refine two_at 7 8 2 (by kernel_rfl) (by kernel_rfl) ?_ ?_
     ·skip
      refine op_call 7 (some 27) 57 #[vc,.slice ka kq.length kc] (by kernel_rfl) (by kernel_rfl) (by kernel_rfl) ?_
      have hbw:=bX.trans (hW.mono bX.size)
      have hat:=at_cat9 oc (At.rds (hr1 _ hbw)) (At.rds (hrF _ hbw))
      refine (recordOf_any vc (.slice ka kq.length kc) (pd ++ fs) kq x2 hat (OK0.at.below hW) HFD.out HFE.out (by simp;omega) (by omega)).mono ?_
      rintro e x3 ⟨nN,iN,uU,iU,rfl,RP,hb⟩
      obtain ⟨⟨k1,k2,k3,rfl⟩,⟨k4,k5,k6,rfl⟩,⟨k7,k8,k9,rfl⟩,⟨m1,m2,m3,rfl⟩⟩:=RP.shapes
      have hw0:=hb
      have hX0:X.heap.size≤x2.heap.size:=hW.size
      clear hat hbw oc
      replace hW:=hW.trans (hb.mono hW.size)
      clear hb
      refine ⟨_,rfl,⟨⟨_,hW⟩,rfl⟩,?_⟩
      simp only [Act.put,List.getElem_toArray,List.getElem_cons_succ,List.getElem_cons_zero,List.setIfInBounds_toArray,List.set_cons_zero,List.set_cons_succ]
      refine one_at 8 _ 1 (by kernel_rfl) rfl (by kernel_rfl) ?_
      have Bz:=Blk.new x3 103 #[.slice none 0 0,.slice none 0 0,.slice none 0 0,.slice none 0 0]
      have hzz:X.heap.size≤x3.heap.size:=hW.size
      have hba:Below x3.heap.size x3 (x3.alloc (.cells #[.slice none 0 0,.slice none 0 0,.slice none 0 0,.slice none 0 0] 103)):=by go_grown
      replace hW:=hW.trans (hba.mono hW.size)
      go_wp2
      refine ThenGo.to ⟨⟨⟨_,hW⟩,rfl⟩,?_⟩
      refine one_at 9 _ 0 (by kernel_rfl) rfl (by kernel_rfl) ?_
      have hgW:X.heap.size≤x3.heap.size:=hzz
      have Rz:=Bz.row #[.slice k1 k2 k3,.slice k4 k5 k6,.slice k7 k8 k9,.slice m1 m2 m3]
      have hbz:Below x3.heap.size x3 ((x3.alloc (.cells #[.slice none 0 0,.slice none 0 0,.slice none 0 0,.slice none 0 0] 103)).setRow x3.heap.size #[.slice k1 k2 k3,.slice k4 k5 k6,.slice k7 k8 k9,.slice m1 m2 m3]):=below_row hba (Nat.le_refl _) #[.slice k1 k2 k3,.slice k4 k5 k6,.slice k7 k8 k9,.slice m1 m2 m3]
      replace RP:=RP.below hbz
      have hww:=hw0.trans (hbz.mono hw0.size)
      replace hW:=below_row hW hgW #[.slice k1 k2 k3,.slice k4 k5 k6,.slice k7 k8 k9,.slice m1 m2 m3]
      refine st_row (by kernel_rfl) 103 _ _ rfl _ #[.slice k1 k2 k3,.slice k4 k5 k6,.slice k7 k8 k9,.slice m1 m2 m3] rfl rfl 103 _ Bz sz_rec9 rfl (by simp [Value.oneCell']) ?_
      refine ThenGo.to ⟨⟨⟨_,hW⟩,rfl⟩,?_⟩
      refine text_end (by kernel_rfl) ?_
      refine ⟨rfl,_,⟨.slice (some ⟨g6,0,none⟩) 2 2,vc,k1,k2,k3,k4,k5,k6,k7,k8,k9,m1,m2,m3,x2,x3.heap.size,rfl,hgW,Rz,RP,hww,hX0,hW⟩,?_⟩
      simp only [putAll,Act.put,List.getElem_toArray,List.getElem_cons_succ,List.getElem_cons_zero,List.setIfInBounds_toArray,List.set_cons_zero,List.set_cons_succ]
      try rfl
     ·skip
      refine op_one 8 _ rfl ?_
      have Bz:=Blk.new x2 103 #[.slice none 0 0,.slice none 0 0,.slice none 0 0,.slice none 0 0]
      have hzz:X.heap.size≤x2.heap.size:=hW.size
      have hba:Below x2.heap.size x2 (x2.alloc (.cells #[.slice none 0 0,.slice none 0 0,.slice none 0 0,.slice none 0 0] 103)):=by go_grown
      replace oc:=own_below oc hba
      replace hW:=hW.trans (hba.mono hW.size)
      clear hba
      go_wp2
      refine ThenGo.to ⟨⟨⟨_,hW⟩,rfl⟩,?_⟩
      generalize hGy5:x2.heap.size=g at *
      clear hGy5
      generalize x2.alloc (.cells #[.slice none 0 0,.slice none 0 0,.slice none 0 0,.slice none 0 0] 103)=y5 at *
      refine call_at 7 (some 27) 57 #[vc,.slice ka kq.length kc] 1 (by kernel_rfl) (by kernel_rfl) (by kernel_rfl) (by kernel_rfl) (by kernel_rfl) ?_
      have hbw:=bX.trans (hW.mono bX.size)
      have hat:=at_cat9 oc (At.rds (hr1 _ hbw)) (At.rds (hrF _ hbw))
      refine (recordOf_any vc (.slice ka kq.length kc) (pd ++ fs) kq y5 hat (OK0.at.below hW) HFD.out HFE.out (by simp;omega) (by omega)).mono ?_
      rintro e x6 ⟨nN,iN,uU,iU,rfl,RP,hb⟩
      obtain ⟨⟨k1,k2,k3,rfl⟩,⟨k4,k5,k6,rfl⟩,⟨k7,k8,k9,rfl⟩,⟨m1,m2,m3,rfl⟩⟩:=RP.shapes
      have hw0:=hb
      have hX0:X.heap.size≤y5.heap.size:=hW.size
      clear hat hbw oc
      have BzW:=Bz
      replace Bz:=Bz.below hb
      replace hW:=hW.trans (hb.mono hW.size)
      clear hb
      refine ⟨_,rfl,⟨⟨_,hW⟩,rfl⟩,?_⟩
      simp only [Act.put,List.getElem_toArray,List.getElem_cons_succ,List.getElem_cons_zero,List.setIfInBounds_toArray,List.set_cons_zero,List.set_cons_succ]
      refine one_at 9 _ 0 (by kernel_rfl) rfl (by kernel_rfl) ?_
      have hgW:X.heap.size≤g:=by omega
      have Rz:=Bz.row #[.slice k1 k2 k3,.slice k4 k5 k6,.slice k7 k8 k9,.slice m1 m2 m3]
      have hrb9:=RP.rebase hw0 BzW #[.slice k1 k2 k3,.slice k4 k5 k6,.slice k7 k8 k9,.slice m1 m2 m3]
      replace RP:=hrb9.1
      have hww:=hrb9.2
      have hX0' : X.heap.size≤(y5.setRow g #[.slice k1 k2 k3,.slice k4 k5 k6,.slice k7 k8 k9,.slice m1 m2 m3]).heap.size:=by rw [size_setRow];exact hX0
      clear hrb9
      replace hW:=below_row hW hgW #[.slice k1 k2 k3,.slice k4 k5 k6,.slice k7 k8 k9,.slice m1 m2 m3]
      refine st_row (by kernel_rfl) 103 _ _ rfl _ #[.slice k1 k2 k3,.slice k4 k5 k6,.slice k7 k8 k9,.slice m1 m2 m3] rfl rfl 103 _ Bz sz_rec9 rfl (by simp [Value.oneCell']) ?_
      refine ThenGo.to ⟨⟨⟨_,hW⟩,rfl⟩,?_⟩
      refine text_end (by kernel_rfl) ?_
      refine ⟨rfl,_,⟨.slice (some ⟨g6,0,none⟩) 2 2,vc,k1,k2,k3,k4,k5,k6,k7,k8,k9,m1,m2,m3,y5.setRow g #[.slice k1 k2 k3,.slice k4 k5 k6,.slice k7 k8 k9,.slice m1 m2 m3],g,rfl,hgW,Rz,RP,hww,hX0',hW⟩,?_⟩
      simp only [putAll,Act.put,List.getElem_toArray,List.getElem_cons_succ,List.getElem_cons_zero,List.setIfInBounds_toArray,List.set_cons_zero,List.set_cons_succ]
      try rfl
    ·skip
     refine op_one 8 _ rfl ?_
     have Bz:=Blk.new x1 103 #[.slice none 0 0,.slice none 0 0,.slice none 0 0,.slice none 0 0]
     have hzz:X.heap.size≤x1.heap.size:=hW.size
     have hba:Below x1.heap.size x1 (x1.alloc (.cells #[.slice none 0 0,.slice none 0 0,.slice none 0 0,.slice none 0 0] 103)):=by go_grown
     replace B6:=B6.below hba
     replace hW:=hW.trans (hba.mono hW.size)
     clear hba
     go_wp2
     refine ThenGo.to ⟨⟨⟨_,hW⟩,rfl⟩,?_⟩
     generalize hGy7:x1.heap.size=g at *
     clear hGy7
     generalize x1.alloc (.cells #[.slice none 0 0,.slice none 0 0,.slice none 0 0,.slice none 0 0] 103)=y7 at *
     refine call_at 4 (some 24) 69 #[.slice (some ⟨g6,0,none⟩) 2 2] 2 (by kernel_rfl) (by kernel_rfl) (by kernel_rfl) (by kernel_rfl) (by kernel_rfl) ?_
     have hcc:=concat9_any g6 2 (.slice p0 pd.length p5) (.slice fa fs.length fk) pd fs y7 B6.lt (B6.cell 0 _ rfl) (B6.cell 1 _ rfl) (hr1 _ (bX.trans (hW.mono bX.size))) (hrF _ (bX.trans (hW.mono bX.size))) HNT.out.1 HNT.out.2 (by omega)
     refine hcc.mono ?_
     rintro e x8 ⟨vc,rfl,oc,hb⟩
     clear hcc B6
     replace Bz:=Bz.below hb
     replace hW:=hW.trans (hb.mono hW.size)
     clear hb
     refine ⟨_,rfl,⟨⟨_,hW⟩,rfl⟩,?_⟩
     simp only [Act.put,List.getElem_toArray,List.getElem_cons_succ,List.getElem_cons_zero,List.setIfInBounds_toArray,List.set_cons_zero,List.set_cons_succ]
     refine call_at 7 (some 27) 57 #[vc,.slice ka kq.length kc] 1 (by kernel_rfl) (by kernel_rfl) (by kernel_rfl) (by kernel_rfl) (by kernel_rfl) ?_
     have hbw:=bX.trans (hW.mono bX.size)
     have hat:=at_cat9 oc (At.rds (hr1 _ hbw)) (At.rds (hrF _ hbw))
     refine (recordOf_any vc (.slice ka kq.length kc) (pd ++ fs) kq x8 hat (OK0.at.below hW) HFD.out HFE.out (by simp;omega) (by omega)).mono ?_
     rintro e x9 ⟨nN,iN,uU,iU,rfl,RP,hb⟩
     obtain ⟨⟨k1,k2,k3,rfl⟩,⟨k4,k5,k6,rfl⟩,⟨k7,k8,k9,rfl⟩,⟨m1,m2,m3,rfl⟩⟩:=RP.shapes
     have hw0:=hb
     have hX0:X.heap.size≤x8.heap.size:=hW.size
     clear hat hbw oc
     have BzW:=Bz
     replace Bz:=Bz.below hb
     replace hW:=hW.trans (hb.mono hW.size)
     clear hb
     refine ⟨_,rfl,⟨⟨_,hW⟩,rfl⟩,?_⟩
     simp only [Act.put,List.getElem_toArray,List.getElem_cons_succ,List.getElem_cons_zero,List.setIfInBounds_toArray,List.set_cons_zero,List.set_cons_succ]
     refine one_at 9 _ 0 (by kernel_rfl) rfl (by kernel_rfl) ?_
     have hgW:X.heap.size≤g:=by omega
     have Rz:=Bz.row #[.slice k1 k2 k3,.slice k4 k5 k6,.slice k7 k8 k9,.slice m1 m2 m3]
     have hrb9:=RP.rebase hw0 BzW #[.slice k1 k2 k3,.slice k4 k5 k6,.slice k7 k8 k9,.slice m1 m2 m3]
     replace RP:=hrb9.1
     have hww:=hrb9.2
     have hX0' : X.heap.size≤(x8.setRow g #[.slice k1 k2 k3,.slice k4 k5 k6,.slice k7 k8 k9,.slice m1 m2 m3]).heap.size:=by rw [size_setRow];exact hX0
     clear hrb9
     replace hW:=below_row hW hgW #[.slice k1 k2 k3,.slice k4 k5 k6,.slice k7 k8 k9,.slice m1 m2 m3]
     refine st_row (by kernel_rfl) 103 _ _ rfl _ #[.slice k1 k2 k3,.slice k4 k5 k6,.slice k7 k8 k9,.slice m1 m2 m3] rfl rfl 103 _ Bz sz_rec9 rfl (by simp [Value.oneCell']) ?_
     refine ThenGo.to ⟨⟨⟨_,hW⟩,rfl⟩,?_⟩
     refine text_end (by kernel_rfl) ?_
     refine ⟨rfl,_,⟨.slice (some ⟨g6,0,none⟩) 2 2,vc,k1,k2,k3,k4,k5,k6,k7,k8,k9,m1,m2,m3,x8.setRow g #[.slice k1 k2 k3,.slice k4 k5 k6,.slice k7 k8 k9,.slice m1 m2 m3],g,rfl,hgW,Rz,RP,hww,hX0',hW⟩,?_⟩
     simp only [putAll,Act.put,List.getElem_toArray,List.getElem_cons_succ,List.getElem_cons_zero,List.setIfInBounds_toArray,List.set_cons_zero,List.set_cons_succ]
     try rfl
   ·skip
    refine op_one 8 _ rfl ?_
    have Bz:=Blk.new wd 103 #[.slice none 0 0,.slice none 0 0,.slice none 0 0,.slice none 0 0]
    have hzz:X.heap.size≤wd.heap.size:=hW.size
    have hba:Below wd.heap.size wd (wd.alloc (.cells #[.slice none 0 0,.slice none 0 0,.slice none 0 0,.slice none 0 0] 103)):=by go_grown
    replace hW:=hW.trans (hba.mono hW.size)
    clear hba
    go_wp2
    refine ThenGo.to ⟨⟨⟨_,hW⟩,rfl⟩,?_⟩
    generalize hGy10:wd.heap.size=g at *
    clear hGy10
    generalize wd.alloc (.cells #[.slice none 0 0,.slice none 0 0,.slice none 0 0,.slice none 0 0] 103)=y10 at *
    refine one_at 3 _ 3 (by kernel_rfl) rfl (by kernel_rfl) ?_
    have B6:=Blk.new y10 28 #[.slice p0 pd.length p5,.slice fa fs.length fk]
    have hba:Below y10.heap.size y10 (y10.alloc (.cells #[.slice p0 pd.length p5,.slice fa fs.length fk] 28)):=by go_grown
    replace Bz:=Bz.below hba
    replace hW:=hW.trans (hba.mono hW.size)
    clear hba
    go_wp2
    refine ThenGo.to ⟨⟨⟨_,hW⟩,rfl⟩,?_⟩
    generalize hGx11:y10.heap.size=g6 at *
    clear hGx11
    generalize y10.alloc (.cells #[.slice p0 pd.length p5,.slice fa fs.length fk] 28)=x11 at *
    refine call_at 4 (some 24) 69 #[.slice (some ⟨g6,0,none⟩) 2 2] 2 (by kernel_rfl) (by kernel_rfl) (by kernel_rfl) (by kernel_rfl) (by kernel_rfl) ?_
    have hcc:=concat9_any g6 2 (.slice p0 pd.length p5) (.slice fa fs.length fk) pd fs x11 B6.lt (B6.cell 0 _ rfl) (B6.cell 1 _ rfl) (hr1 _ (bX.trans (hW.mono bX.size))) (hrF _ (bX.trans (hW.mono bX.size))) HNT.out.1 HNT.out.2 (by omega)
    refine hcc.mono ?_
    rintro e x12 ⟨vc,rfl,oc,hb⟩
    clear hcc B6
    replace Bz:=Bz.below hb
    replace hW:=hW.trans (hb.mono hW.size)
    clear hb
    refine ⟨_,rfl,⟨⟨_,hW⟩,rfl⟩,?_⟩
    simp only [Act.put,List.getElem_toArray,List.getElem_cons_succ,List.getElem_cons_zero,List.setIfInBounds_toArray,List.set_cons_zero,List.set_cons_succ]
    refine call_at 7 (some 27) 57 #[vc,.slice ka kq.length kc] 1 (by kernel_rfl) (by kernel_rfl) (by kernel_rfl) (by kernel_rfl) (by kernel_rfl) ?_
    have hbw:=bX.trans (hW.mono bX.size)
    have hat:=at_cat9 oc (At.rds (hr1 _ hbw)) (At.rds (hrF _ hbw))
    refine (recordOf_any vc (.slice ka kq.length kc) (pd ++ fs) kq x12 hat (OK0.at.below hW) HFD.out HFE.out (by simp;omega) (by omega)).mono ?_
    rintro e x13 ⟨nN,iN,uU,iU,rfl,RP,hb⟩
    obtain ⟨⟨k1,k2,k3,rfl⟩,⟨k4,k5,k6,rfl⟩,⟨k7,k8,k9,rfl⟩,⟨m1,m2,m3,rfl⟩⟩:=RP.shapes
    have hw0:=hb
    have hX0:X.heap.size≤x12.heap.size:=hW.size
    clear hat hbw oc
    have BzW:=Bz
    replace Bz:=Bz.below hb
    replace hW:=hW.trans (hb.mono hW.size)
    clear hb
    refine ⟨_,rfl,⟨⟨_,hW⟩,rfl⟩,?_⟩
    simp only [Act.put,List.getElem_toArray,List.getElem_cons_succ,List.getElem_cons_zero,List.setIfInBounds_toArray,List.set_cons_zero,List.set_cons_succ]
    refine one_at 9 _ 0 (by kernel_rfl) rfl (by kernel_rfl) ?_
    have hgW:X.heap.size≤g:=by omega
    have Rz:=Bz.row #[.slice k1 k2 k3,.slice k4 k5 k6,.slice k7 k8 k9,.slice m1 m2 m3]
    have hrb9:=RP.rebase hw0 BzW #[.slice k1 k2 k3,.slice k4 k5 k6,.slice k7 k8 k9,.slice m1 m2 m3]
    replace RP:=hrb9.1
    have hww:=hrb9.2
    have hX0' : X.heap.size≤(x12.setRow g #[.slice k1 k2 k3,.slice k4 k5 k6,.slice k7 k8 k9,.slice m1 m2 m3]).heap.size:=by rw [size_setRow];exact hX0
    clear hrb9
    replace hW:=below_row hW hgW #[.slice k1 k2 k3,.slice k4 k5 k6,.slice k7 k8 k9,.slice m1 m2 m3]
    refine st_row (by kernel_rfl) 103 _ _ rfl _ #[.slice k1 k2 k3,.slice k4 k5 k6,.slice k7 k8 k9,.slice m1 m2 m3] rfl rfl 103 _ Bz sz_rec9 rfl (by simp [Value.oneCell']) ?_
    refine ThenGo.to ⟨⟨⟨_,hW⟩,rfl⟩,?_⟩
    refine text_end (by kernel_rfl) ?_
    refine ⟨rfl,_,⟨.slice (some ⟨g6,0,none⟩) 2 2,vc,k1,k2,k3,k4,k5,k6,k7,k8,k9,m1,m2,m3,x12.setRow g #[.slice k1 k2 k3,.slice k4 k5 k6,.slice k7 k8 k9,.slice m1 m2 m3],g,rfl,hgW,Rz,RP,hww,hX0',hW⟩,?_⟩
    simp only [putAll,Act.put,List.getElem_toArray,List.getElem_cons_succ,List.getElem_cons_zero,List.setIfInBounds_toArray,List.set_cons_zero,List.set_cons_succ]
    try rfl
  rintro vs w5 ⟨v23,v24,k1,k2,k3,k4,k5,k6,k7,k8,k9,m1,m2,m3,w0,g,rfl,hgX,RG,RP,hw0,hX0,hX5⟩
  simp only [putAll,Act.put,List.setIfInBounds_toArray,List.set_cons_zero,List.set_cons_succ]
  replace BA:=BA.below hX5
  replace BP:=BP.below hX5
  replace RB:=RB.below hX5
  replace b0:=below_from b0 hX5
  have hgR:g≠w.heap.size + 1:=by omega
  have hFD' : ∀ t∈(pd ++ fs).map TxnQ.e,t.F=0:=fun t ht=>by obtain ⟨q,hq,rfl⟩:=List.mem_map.1 ht;exact HFD.out q hq
  have hFE' : ∀ t∈kq.map TxnQ.e,t.F=0:=fun t ht=>by obtain ⟨q,hq,rfl⟩:=List.mem_map.1 ht;exact HFE.out q hq
  have ga:=allI_good (xs:=[]) (by simp) nil_good hFD'
  have gb:=allI_good ga.1 ga.2 hFE'
  have hD40:((pd ++ fs).map TxnQ.e).length≤40:=by rw [List.length_map,List.length_append];omega
  have hE40:(kq.map TxnQ.e).length≤40:=by rw [List.length_map];omega
  have hW:Below w5.heap.size w5 w5.drew:=(Below.refl _ _).drew
  have hrp:=replica_any w0 (.slice k1 k2 k3) (.slice k4 k5 k6) (.slice k7 k8 k9) (.slice m1 m2 m3) ((pd ++ fs).map TxnQ.e) (kq.map TxnQ.e) w5.drew (RP.below hW) (hw0.trans (hW.mono hw0.size)) hFD' hFE' hD40 hE40 ga.1 gb.1 ga.2
  clear RP hFD' hFE' ga gb hD40 hE40
  go_wp2_with fail
  have c2:=keep_cell (F:=[w.heap.size + 1]) (BP.cell 2 _ rfl) (by simp;omega)
  have e0:=keep_cell (F:=[w.heap.size + 1]) (RG.cell 0 _ rfl) (by simp;omega)
  have e1:=keep_cell (F:=[w.heap.size + 1]) (RG.cell 1 _ rfl) (by simp;omega)
  have e2:=keep_cell (F:=[w.heap.size + 1]) (RG.cell 2 _ rfl) (by simp;omega)
  have e3:=keep_cell (F:=[w.heap.size + 1]) (RG.cell 3 _ rfl) (by simp;omega)
  have hne:Nonempty (KeepP (Out [w.heap.size + 1] w5)):=⟨⟨w5,Out.refl _ _⟩⟩
  have hO:Out [w.heap.size + 1] w5 w5.drew:=Out.of_below hW
  refine text_begin (S:=fun w' => ∃ u:KeepP (Out [w.heap.size + 1] w5),w' = u.val) (by kernel_rfl) ?_
  refine seg_range [(0,3)] 3 (by kernel_rfl) (by kernel_rfl) (by kernel_rfl) (by kernel_rfl) (by kernel_rfl) ⟨⟨_,hO⟩,rfl⟩ ?_
  simp only [pickR,List.toList_toArray,List.flatMap_cons,List.flatMap_nil,List.drop_succ_cons,List.drop_zero,List.take_succ_cons,List.take_zero,List.cons_append,List.nil_append,List.append_nil]
  repeat go_big_quiet_step (fail)
  refine wpQuiet_nil ?_
  clear c2 e0 e1 e2 e3
  refine call_at 3 (some 31) 58 #[.agg #[.slice k1 k2 k3,.slice k4 k5 k6,.slice k7 k8 k9,.slice m1 m2 m3]] 2 (by kernel_rfl) (by kernel_rfl) (by kernel_rfl) (by kernel_rfl) (by kernel_rfl) ?_
  refine hrp.mono ?_
  rintro e w7 ⟨q,rfl,eq,oq,nq,gq,hb⟩
  have hbY:Below w5.heap.size w5 w7:=hW.trans (hb.mono hW.size)
  have RB0:=RB.lt
  have hY0:w5.heap.size≤w5.drew.heap.size:=hW.size
  replace RB:=RB.below hbY
  have hsz:=b0.size
  replace hO:Out [w.heap.size + 1] w5 w7:=Out.of_below hbY
  replace b0:=b0.trans (hbY.mono b0.size)
  have gne:∀ k∈repK.foot q,k≠w.heap.size + 1:=fun k hk=>by have:=gq k hk;omega
  have gw:∀ k∈repK.foot q,w.heap.size≤k:=fun k hk=>by have:=gq k hk;omega
  clear hb gq hrp
  refine ⟨_,rfl,⟨⟨_,hO⟩,rfl⟩,?_⟩
  simp only [Act.put,List.getElem_toArray,List.getElem_cons_succ,List.getElem_cons_zero,List.setIfInBounds_toArray,List.set_cons_zero,List.set_cons_succ]
  obtain ⟨qvd,qd,qvb,qb,qvt,qt,qvu,qu,qvn,qn⟩:=q
  obtain ⟨s0,t0,rfl⟩:∃ a c,qvd=.slice a qd.length c:=oq.1.shape
  obtain ⟨s1,t1,rfl⟩:∃ a c,qvb=.slice a qb.length c:=oq.2.1.shape
  obtain ⟨s2,t2,rfl⟩:∃ a c,qvt=.slice a qt.length c:=oq.2.2.1.shape
  obtain ⟨s3,t3,rfl⟩:∃ a c,qvu=.slice a qu.length c:=oq.2.2.2.1.shape
  obtain ⟨s4,t4,rfl⟩:∃ a c,qvn=.slice a qn.length c:=oq.2.2.2.2.shape
  have HEQ:Hid _:=eq
  clear eq
  refine seg_range [(4,1)] 1 (by kernel_rfl) (by kernel_rfl) (by kernel_rfl) (by kernel_rfl) (by kernel_rfl) ⟨⟨_,hO⟩,rfl⟩ ?_
  simp only [pickR,List.toList_toArray,List.flatMap_cons,List.flatMap_nil,List.drop_succ_cons,List.drop_zero,List.take_succ_cons,List.take_zero,List.cons_append,List.nil_append,List.append_nil]
  repeat go_big_quiet_step (fail)
  refine wpQuiet_nil ?_
  refine one_at 5 _ 0 (by kernel_rfl) rfl (by kernel_rfl) ?_
  have Rz:=RB.row #[.int .i64 0,.int .i64 PB,.int .i64 0,.slice s0 qd.length t0,.slice s1 qb.length t1,.slice s2 qt.length t2,.slice s3 qu.length t3,.slice s4 qn.length t4]
  have oz:=repK.own_out oq (out_row _ (w.heap.size + 1) #[.int .i64 0,.int .i64 PB,.int .i64 0,.slice s0 qd.length t0,.slice s1 qb.length t1,.slice s2 qt.length t2,.slice s3 qu.length t3,.slice s4 qn.length t4]) (fun k hk=>by simp only [List.mem_singleton];exact gne k hk)
  replace hO:Out [w.heap.size + 1] w5 _:=hO.trans (out_row w7 (w.heap.size + 1) #[.int .i64 0,.int .i64 PB,.int .i64 0,.slice s0 qd.length t0,.slice s1 qb.length t1,.slice s2 qt.length t2,.slice s3 qu.length t3,.slice s4 qn.length t4])
  replace b0:=below_row (g:=w.heap.size + 1) b0 (by omega) #[.int .i64 0,.int .i64 PB,.int .i64 0,.slice s0 qd.length t0,.slice s1 qb.length t1,.slice s2 qt.length t2,.slice s3 qu.length t3,.slice s4 qn.length t4]
  refine st_row (by kernel_rfl) 34 _ _ rfl _ #[.int .i64 0,.int .i64 PB,.int .i64 0,.slice s0 qd.length t0,.slice s1 qb.length t1,.slice s2 qt.length t2,.slice s3 qu.length t3,.slice s4 qn.length t4] rfl rfl 34 _ RB sz_rr rfl (by simp [Value.oneCell']) ?_
  refine ThenGo.to ⟨⟨⟨_,hO⟩,rfl⟩,?_⟩
  refine text_end (by kernel_rfl) ?_
  have z0:=Rz.cell 0 _ rfl
  have z1:=Rz.cell 1 _ rfl
  have z2:=Rz.cell 2 _ rfl
  have z3:=Rz.cell 3 _ rfl
  have z4:=Rz.cell 4 _ rfl
  have z5:=Rz.cell 5 _ rfl
  have z6:=Rz.cell 6 _ rfl
  have z7:=Rz.cell 7 _ rfl
  go_wp2
  exact bodyPost_ret (v:=.agg #[.int .i64 0,.int .i64 PB,.int .i64 0,.slice s0 qd.length t0,.slice s1 qb.length t1,.slice s2 qt.length t2,.slice s3 qu.length t3,.slice s4 qn.length t4]) (by simp [results,Tryz.results27,go_sem,z0,z1,z2,z3,z4,z5,z6,z7]) rfl ⟨(⟨.slice s0 qd.length t0,qd,.slice s1 qb.length t1,qb,.slice s2 qt.length t2,qt,.slice s3 qu.length t3,qu,.slice s4 qn.length t4,qn⟩:RepQ),by rw [HRES.out.1],HEQ.out.trans HRES.out.2.symm,oz,nq,gw,b0⟩
 ·obtain ⟨hA,hR⟩:=HE.out.2 hc
  have hC' : (c != 0)=true:=by simpa using hc
  clear HE
  have Rr:=RB.row #[.int .i64 c,.int .i64 0,.int .i64 0,.slice none 0 0,.slice none 0 0,.slice none 0 0,.slice none 0 0,.slice none 0 0]
  have hBr:=below_row (g:=w.heap.size + 1) b0 (by omega) #[.int .i64 c,.int .i64 0,.int .i64 0,.slice none 0 0,.slice none 0 0,.slice none 0 0,.slice none 0 0,.slice none 0 0]
  go_wp2_with (first | (refine st_row (by kernel_rfl) 34 _ _ rfl _ #[.int .i64 c,.int .i64 0,.int .i64 0,.slice none 0 0,.slice none 0 0,.slice none 0 0,.slice none 0 0,.slice none 0 0] rfl rfl 34 _ RB sz_rr rfl (by simp [Value.oneCell']) ?_))
  have z0:=Rr.cell 0 _ rfl
  have z1:=Rr.cell 1 _ rfl
  have z2:=Rr.cell 2 _ rfl
  have z3:=Rr.cell 3 _ rfl
  have z4:=Rr.cell 4 _ rfl
  have z5:=Rr.cell 5 _ rfl
  have z6:=Rr.cell 6 _ rfl
  have z7:=Rr.cell 7 _ rfl
  first | done | skip
  exact bodyPost_ret (v:=.agg #[.int .i64 c,.int .i64 0,.int .i64 0,.slice none 0 0,.slice none 0 0,.slice none 0 0,.slice none 0 0,.slice none 0 0]) (by simp [results,Tryz.results27,go_sem,z0,z1,z2,z3,z4,z5,z6,z7]) rfl ⟨rep0,by rw [hA];rfl,hR.symm,(rep0_own _).1,by rw [(rep0_own w).2];simp,by rw [(rep0_own w).2];simp,hBr⟩

end Go.Proofs.YtfdkcbafpiojkaaGreatDoor
