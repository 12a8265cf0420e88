/- Texts joined, with what the laws reach alone. -/
import Derived.Test.YtfdkcbafpiojkaaGreatDoorSGBK
set_option linter.unusedVariables false
set_option linter.unusedSimpArgs false
namespace Go.Proofs.YtfdkcbafpiojkaaGreatDoor
open Go.RowKit
open Go.BigFrame
set_option maxRecDepth 100000
theorem at_one9 {w:World} {g:Nat} {i s q:Int} {va:Value} {acts:List ActD} (h:Blk w g 49 #[.int .i64 i,.int .i64 s,.int .i64 q,va]) (ht:actK.At w va acts):txnK.At w (.slice (some ⟨g,0,none⟩) 1 1) [⟨i,s,q,va,acts⟩]:=by
 refine ⟨some ⟨g,0,none⟩,1,rfl,Or.inr ⟨g,0,rfl,h.lt,?_⟩,fun p hp=>by simp only [List.mem_singleton] at hp;subst hp;exact ht⟩
 intro j x hj
 rw [Nat.zero_add]
 refine h.cell j x ?_
 have e:txnK.row [(⟨i,s,q,va,acts⟩:TxnQ)]=[.int .i64 i,.int .i64 s,.int .i64 q,va]:=rfl
 rw [e] at hj
 simpa using hj

theorem nice_one9 (g:Nat):NiceV (.slice (some ⟨g,0,none⟩) 1 1):=by
 intro a n c e
 simp only [Value.slice.injEq] at e
 exact Or.inl ⟨_,e.1.symm⟩

/-- The last deed of a record. -/
theorem last_deed9 {w w' : World} {vN iN vU iU:Value} {D E:List TxnD} {t:TxnD} (h:RecPost w w' vN iN vU iU D (E ++ [t])) :
  ∃ (bu ou cu:Nat) (i s q:Int) (va lv:Value),vU=.slice (some ⟨bu,ou,none⟩) (E.length + 1) cu∧bu < w'.heap.size ∧
   w'.cell? ⟨bu,ou + E.length * 7,none⟩=some (.int .i64 i)∧w'.cell? ⟨bu,ou + E.length * 7 + 1,none⟩=some (.int .i64 s)∧w'.cell? ⟨bu,ou + E.length * 7 + 2,none⟩=some (.int .i64 q)∧w'.cell? ⟨bu,ou + E.length * 7 + 3,none⟩=some va ∧
   w'.cell? ⟨bu,ou + E.length * 7 + 4,none⟩=some (.int .i64 (runA (allI (allI [] D) E) t.acts).1)∧w'.cell? ⟨bu,ou + E.length * 7 + 5,none⟩=some (.int .i64 (runV (allI (allI [] D) E) t.acts))∧w'.cell? ⟨bu,ou + E.length * 7 + 6,none⟩=some lv∧(∃ a l c,va=.slice a l c)∧(∃ a l c,lv=.slice a l c):=by
 obtain ⟨ds,us,rb,B0,R,e1,e2,h1,h2⟩:=h
 rw [deeds_snoc] at e2
 have hlen:us.length=E.length + 1:=by
  have:=congrArg List.length e2
  simpa [deeds_len] using this
 have hlt:E.length < us.length:=by omega
 have he:us[E.length].e4=(t,(runA (allI (allI [] D) E) t.acts).1,runV (allI (allI [] D) E) t.acts,runU (allI (allI [] D) E) t.acts):=by
  have hg:(us.map DeedQ.e4)[E.length]? = some (us[E.length].e4):=by simp [hlt]
  rw [e2,List.getElem?_append_right (by rw [deeds_len];exact Nat.le_refl _),deeds_len,Nat.sub_self] at hg
  simpa using hg.symm
 obtain ⟨a,c,rfl⟩:=own_shape R.oU
 have hL:=Lies.own R.oU
 have hat:(deedUK w).At w' (.slice a us.length c) us:=⟨a,c,rfl,hL,fun p hp=>⟨(R.aU p hp).1,(R.aU p hp).2.at⟩⟩
 obtain ⟨b,off,rfl,hbs,hcm,_⟩:=hat.cell (show 0 < 7 by decide) E.length hlt
 have hc' : ∀ j x,((deedUK w).cells us[E.length])[j]? = some x→w'.cell? ⟨b,off + E.length * 7 + j,none⟩=some x:=hcm
 have hp:=R.aU us[E.length] (List.getElem_mem hlt)
 have hve:us[E.length].code=(runA (allI (allI [] D) E) t.acts).1∧us[E.length].val=runV (allI (allI [] D) E) t.acts:=by
  simp only [DeedQ.e4,Prod.mk.injEq] at he
  exact ⟨he.2.1,he.2.2.1⟩
 obtain ⟨a1,c1,s1⟩:=hp.1.shape
 obtain ⟨a2,c2,s2⟩:=hp.2.at.shape
 refine ⟨b,off,c,_,_,_,_,_,by rw [hlen],hbs,by simpa using hc' 0 _ rfl,hc' 1 _ rfl,hc' 2 _ rfl,hc' 3 _ rfl,by rw [← hve.1];exact hc' 4 _ rfl,by rw [← hve.2];exact hc' 5 _ rfl,hc' 6 _ rfl,⟨_,_,_,s1⟩,⟨_,_,_,s2⟩⟩

set_option maxRecDepth 100000 in
set_option maxHeartbeats 16000000 in
theorem implOptDeliver_any (p:RepQ) (t:TxnQ) (w:World) (hg:ErrT w) (h:repK.rd w p) (nd:NiceV p.vd) (nt:NiceV p.vt) (hT:txnK.rd w t) (hl:p.n≤1048576) (hl' : TxnQ.n t≤1048576) :
  Calls Tryz.prog 21 #[.agg #[p.vd,p.vb,p.vt,p.vu,p.vn],.agg #[.int .i64 t.i,.int .i64 t.s,.int .i64 t.q,t.va]] w fun e w' => ∃ q:RepQ,e=.returned (.agg #[.int .i64 (opC p.e t.e),.int .i64 (opA p.e t.e),.int .i64 (opV p.e t.e),q.vd,q.vb,q.vt,q.vu,q.vn])∧q.e=opE p.e t.e∧repK.own w' q∧(repK.foot q).Nodup∧(∀ k∈repK.foot q,w.heap.size≤k)∧Below w.heap.size w w' := by
 have hce:=fun w h hT=>checkEarly_any p t w h nd nt hl hT hl'
 have hr:=fun (w' : World) hb=>repK.rd_below (w' := w') h hb
 have hrT:=fun (w' : World) (hb:Below w.heap.size w w')=>txnK.rd_below (w' := w') hT hb
 have HE:Hid ((opC p.e t.e=0→opA p.e t.e=(runA (allI (allI [] (p.done.map TxnQ.e)) (p.tent.map TxnQ.e)) t.e.acts).1∧opV p.e t.e=runV (allI (allI [] (p.done.map TxnQ.e)) (p.tent.map TxnQ.e)) t.e.acts∧opE p.e t.e=mkR (p.done.map TxnQ.e) ((p.tent ++ [t]).map TxnQ.e)∧(∀ q∈p.done,(TxnQ.e q).F=0)∧(∀ q∈p.tent ++ [t],(TxnQ.e q).F=0)∧p.done.length≤16∧p.tent.length < 8)∧(opC p.e t.e≠0→opA p.e t.e=0∧opV p.e t.e=0∧opE p.e t.e=⟨[],[],[],[],[]⟩)):=by
  refine ⟨fun h0=>?_,fun h0=>⟨if_neg h0,if_neg h0,if_neg h0⟩⟩
  obtain ⟨z0,z1,_,_,z4⟩:=opC_zero h0
  have hz:=rep_zero z0
  have ha:=((lst_iff _).1 hz.2.1).2.1
  have hn:(RepQ.e p).now=allI (allI [] (p.done.map TxnQ.e)) (p.tent.map TxnQ.e):=by
   have:=congrArg RepE.now (mkR_now z0)
   exact this
  refine ⟨by rw [opA,if_pos h0,hn],by rw [opV,if_pos h0,hn],?_,fun q hq=>ha _ (List.mem_append_left _ (List.mem_map.2 ⟨q,hq,rfl⟩)),fun q hq=>?_,?_,?_⟩
  ·rw [opE,if_pos h0,List.map_append];rfl
  ·rcases List.mem_append.1 hq with hq | hq
   ·exact ha _ (List.mem_append_right _ (List.mem_map.2 ⟨q,hq,rfl⟩))
   ·simp only [List.mem_singleton] at hq;subst hq;exact z1
  ·have:=hz.1.1;simpa [RepQ.e] using this
  ·simpa [RepQ.e] using z4
 generalize opA p.e t.e=AA at *
 generalize opV p.e t.e=VV at *
 generalize opE p.e t.e=RE at *
 generalize opC p.e t.e=c at *
 obtain ⟨pvd,pd,pvb,pb,pvt,pt,pvu,pu,pvn,pn⟩:=p
 obtain ⟨p0,p5,rfl⟩:∃ a c,pvd=.slice a pd.length c:=h.1.shape
 obtain ⟨p1,p6,rfl⟩:∃ a c,pvb=.slice a pb.length c:=h.2.1.shape
 obtain ⟨p2,p7,rfl⟩:∃ a c,pvt=.slice a pt.length c:=h.2.2.1.shape
 obtain ⟨p3,p8,rfl⟩:∃ a c,pvu=.slice a pu.length c:=h.2.2.2.1.shape
 obtain ⟨p4,p9,rfl⟩:∃ a c,pvn=.slice a pn.length c:=h.2.2.2.2.shape
 obtain ⟨ti,ts,tq,va,acts⟩:=t
 obtain ⟨xa,xk,rfl⟩:∃ a c,va=.slice a acts.length c:=(show actK.At w va acts from hT).shape
 dsimp only at hce HE
 have hr1:∀ w' : World,Below w.heap.size w w' → txnK.At w' (.slice p0 pd.length p5) pd:=fun w' hb=>(hr w' hb).1
 have hr3:∀ w' : World,Below w.heap.size w w' → txnK.At w' (.slice p2 pt.length p7) pt:=fun w' hb=>(hr w' hb).2.2.1
 have hrA:∀ w' : World,Below w.heap.size w w' → actK.At w' (.slice xa acts.length xk) acts:=fun w' hb=>hrT w' hb
 have HNT:Hid (NiceV (.slice p2 pt.length p7)):=nt
 have b0:Below w.heap.size w (((w.alloc (.cells #[.slice p0 pd.length p5,.slice p1 pb.length p6,.slice p2 pt.length p7,.slice p3 pu.length p8,.slice p4 pn.length p9] 32)).alloc (.cells #[.int .i64 ti,.int .i64 ts,.int .i64 tq,.slice xa acts.length xk] 49)).alloc (.cells #[.int .i64 0,.int .i64 0,.int .i64 0,.slice none 0 0,.slice none 0 0,.slice none 0 0,.slice none 0 0,.slice none 0 0] 34)):=by go_grown
 have BA:=(Blk.new w 32 #[.slice p0 pd.length p5,.slice p1 pb.length p6,.slice p2 pt.length p7,.slice p3 pu.length p8,.slice p4 pn.length p9]).below (w' := (((w.alloc (.cells #[.slice p0 pd.length p5,.slice p1 pb.length p6,.slice p2 pt.length p7,.slice p3 pu.length p8,.slice p4 pn.length p9] 32)).alloc (.cells #[.int .i64 ti,.int .i64 ts,.int .i64 tq,.slice xa acts.length xk] 49)).alloc (.cells #[.int .i64 0,.int .i64 0,.int .i64 0,.slice none 0 0,.slice none 0 0,.slice none 0 0,.slice none 0 0,.slice none 0 0] 34))) (by go_grown)
 have BT:=(Blk.new (w.alloc (.cells #[.slice p0 pd.length p5,.slice p1 pb.length p6,.slice p2 pt.length p7,.slice p3 pu.length p8,.slice p4 pn.length p9] 32)) 49 #[.int .i64 ti,.int .i64 ts,.int .i64 tq,.slice xa acts.length xk]).below (w' := (((w.alloc (.cells #[.slice p0 pd.length p5,.slice p1 pb.length p6,.slice p2 pt.length p7,.slice p3 pu.length p8,.slice p4 pn.length p9] 32)).alloc (.cells #[.int .i64 ti,.int .i64 ts,.int .i64 tq,.slice xa acts.length xk] 49)).alloc (.cells #[.int .i64 0,.int .i64 0,.int .i64 0,.slice none 0 0,.slice none 0 0,.slice none 0 0,.slice none 0 0,.slice none 0 0] 34))) (by go_grown)
 have RB:=Blk.new ((w.alloc (.cells #[.slice p0 pd.length p5,.slice p1 pb.length p6,.slice p2 pt.length p7,.slice p3 pu.length p8,.slice p4 pn.length p9] 32)).alloc (.cells #[.int .i64 ti,.int .i64 ts,.int .i64 tq,.slice xa acts.length xk] 49)) 34 #[.int .i64 0,.int .i64 0,.int .i64 0,.slice none 0 0,.slice none 0 0,.slice none 0 0,.slice none 0 0,.slice none 0 0]
 simp only [World.size_alloc] at BT RB
 have hr0:=hr _ b0
 have hg0:=hg.below b0
 have hrT0:=hrT _ b0
 clear nd nt
 go_enter Tryz.func21,Tryz.ntmps21
 go_wp2_with fail
 generalize (((w.alloc (.cells #[.slice p0 pd.length p5,.slice p1 pb.length p6,.slice p2 pt.length p7,.slice p3 pu.length p8,.slice p4 pn.length p9] 32)).alloc (.cells #[.int .i64 ti,.int .i64 ts,.int .i64 tq,.slice xa acts.length xk] 49)).alloc (.cells #[.int .i64 0,.int .i64 0,.int .i64 0,.slice none 0 0,.slice none 0 0,.slice none 0 0,.slice none 0 0,.slice none 0 0] 34))=W at *
 refine (hce W hr0 hrT0).mono ?_
 rintro e w2 ⟨rfl,hb⟩
 replace BA:=BA.below hb
 replace BT:=BT.below hb
 replace RB:=RB.below hb
 replace hg0:=hg0.below hb
 replace b0:=below_from b0 hb
 clear hb hce hr0 hrT0
 go_wp2_with fail
 refine (codeOf_any c w2 hg0).mono ?_
 rintro e X ⟨rfl,hb⟩
 replace BA:=BA.below hb
 replace BT:=BT.below hb
 replace RB:=RB.below hb
 replace b0:=below_from b0 hb
 clear hb hg0
 by_cases hc:c=0
 ·obtain ⟨eA,eV,eE,hFD,hFE,hl16,hl8⟩:=HE.out.1 hc
  subst hc
  clear HE
  have HFD:Hid _:=hFD
  have HFE:Hid _:=hFE
  have HRES:Hid (AA=_∧VV=_∧RE=_):=⟨eA,eV,eE⟩
  clear hFD hFE eA eV eE
  have bX:=b0
  have hXR:=RB.lt
  go_wp2_with fail
  refine region_vals [some 16,some 17,some 18,some 19,some 20,some 21,some 22,some 23,some 24,some 6] (fun vs w' => ∃ (v21 v22 v23:Value) (k1:Option Addr) (k2 k3:Nat) (k4:Option Addr) (k5 k6:Nat) (k7:Option Addr) (k8 k9:Nat) (m1:Option Addr) (m2 m3:Nat) (w0:World) (g:Nat),vs=[.pointer (some ⟨w.heap.size,0,none⟩),.slice p0 pd.length p5,.pointer (some ⟨w.heap.size,2,none⟩),.slice p2 pt.length p7,.agg #[.int .i64 ti,.int .i64 ts,.int .i64 tq,.slice xa acts.length xk],v21,v22,v23,.agg #[.slice k1 k2 k3,.slice k4 k5 k6,.slice k7 k8 k9,.slice m1 m2 m3],.pointer (some ⟨g,0,none⟩)]∧X.heap.size≤g∧Blk w' g 103 #[.slice k1 k2 k3,.slice k4 k5 k6,.slice k7 k8 k9,.slice m1 m2 m3]∧RecPost w0 w' (.slice k1 k2 k3) (.slice k4 k5 k6) (.slice k7 k8 k9) (.slice m1 m2 m3) (pd.map TxnQ.e) ((pt ++ [(⟨ti,ts,tq,.slice xa acts.length xk,acts⟩:TxnQ)]).map TxnQ.e)∧Below w0.heap.size w0 w' ∧ X.heap.size≤w0.heap.size∧Below X.heap.size X w') ?_ ?_
  ·have hW:Below X.heap.size X X.drew:=(Below.refl _ _).drew
   have hnn:Nonempty (Lat X):=⟨⟨X,Below.refl _ _⟩⟩
   have f0:=BA.lat 0 _ rfl
   have f2:=BA.lat 2 _ rfl
   have t0:=BT.lat 0 _ rfl
   have t1:=BT.lat 1 _ rfl
   have t2:=BT.lat 2 _ rfl
   have t3:=BT.lat 3 _ rfl
   refine text_begin (S:=fun w' => ∃ u:Lat X,w' = u.val) (by kernel_rfl) ?_
   refine seg_range [(0,5)] 6 (by kernel_rfl) (by kernel_rfl) (by kernel_rfl) (by kernel_rfl) (by kernel_rfl) ⟨⟨_,hW⟩,rfl⟩ ?_
   simp only [pickR,List.toList_toArray,List.flatMap_cons,List.flatMap_nil,List.drop_succ_cons,List.drop_zero,List.take_succ_cons,List.take_zero,List.cons_append,List.nil_append,List.append_nil]
   repeat go_big_quiet_step (fail)
   refine wpQuiet_nil ?_
   clear f0 f2 t0 t1 t2 t3
   generalize X.drew=wd at hW ⊢
   refine two_at 5 9 5 (by kernel_rfl) (by kernel_rfl) ?_ ?_
   ·skip
    refine op_one 5 _ rfl ?_
    have B5:=Blk.new wd 49 #[.int .i64 ti,.int .i64 ts,.int .i64 tq,.slice xa acts.length xk]
    have hba:Below wd.heap.size wd (wd.alloc (.cells #[.int .i64 ti,.int .i64 ts,.int .i64 tq,.slice xa acts.length xk] 49)):=by go_grown
    replace hW:=hW.trans (hba.mono hW.size)
    clear hba
    go_wp2
    refine ThenGo.to ⟨⟨⟨_,hW⟩,rfl⟩,?_⟩
    generalize hGx1:wd.heap.size=g5 at *
    clear hGx1
    generalize wd.alloc (.cells #[.int .i64 ti,.int .i64 ts,.int .i64 tq,.slice xa acts.length xk] 49)=x1 at *
    refine two_at 6 9 4 (by kernel_rfl) (by kernel_rfl) ?_ ?_
    ·skip
     refine op_one 6 _ rfl ?_
     have B6:=Blk.new x1 28 #[.slice p2 pt.length p7,.slice (some ⟨g5,0,none⟩) 1 1]
     have hba:Below x1.heap.size x1 (x1.alloc (.cells #[.slice p2 pt.length p7,.slice (some ⟨g5,0,none⟩) 1 1] 28)):=by go_grown
     replace B5:=B5.below hba
     replace hW:=hW.trans (hba.mono hW.size)
     clear hba
     go_wp2
     refine ThenGo.to ⟨⟨⟨_,hW⟩,rfl⟩,?_⟩
     generalize hGx2:x1.heap.size=g6 at *
     clear hGx2
     generalize x1.alloc (.cells #[.slice p2 pt.length p7,.slice (some ⟨g5,0,none⟩) 1 1] 28)=x2 at *
     refine two_at 7 9 3 (by kernel_rfl) (by kernel_rfl) ?_ ?_
     ·skip
      refine op_call 7 (some 23) 69 #[.slice (some ⟨g6,0,none⟩) 2 2] (by kernel_rfl) (by kernel_rfl) (by kernel_rfl) ?_
      have hcc:=concat9_any g6 2 (.slice p2 pt.length p7) (.slice (some ⟨g5,0,none⟩) 1 1) pt [(⟨ti,ts,tq,.slice xa acts.length xk,acts⟩:TxnQ)] x2 B6.lt (B6.cell 0 _ rfl) (B6.cell 1 _ rfl) (hr3 _ (bX.trans (hW.mono bX.size))) (at_one9 B5 (hrA _ (bX.trans (hW.mono bX.size)))) HNT.out (nice_one9 g5) (by simp;omega)
      refine hcc.mono ?_
      rintro e x3 ⟨vc,rfl,oc,hb⟩
      clear hcc B5 B6
      replace hW:=hW.trans (hb.mono hW.size)
      clear hb
      refine ⟨_,rfl,⟨⟨_,hW⟩,rfl⟩,?_⟩
      simp only [Act.put,List.getElem_toArray,List.getElem_cons_succ,List.getElem_cons_zero,List.setIfInBounds_toArray,List.set_cons_zero,List.set_cons_succ]
      refine two_at 8 9 2 (by kernel_rfl) (by kernel_rfl) ?_ ?_
      ·skip
       refine op_call 8 (some 24) 57 #[.slice p0 pd.length p5,vc] (by kernel_rfl) (by kernel_rfl) (by kernel_rfl) ?_
       have hbw:=bX.trans (hW.mono bX.size)
       have hat:=at_cat9 oc (At.rds (hr3 _ hbw)) (fun p hp=>by simp only [List.mem_singleton] at hp;subst hp;exact hrA _ hbw)
       refine (recordOf_any (.slice p0 pd.length p5) vc pd (pt ++ [(⟨ti,ts,tq,.slice xa acts.length xk,acts⟩:TxnQ)]) x3 (hr1 _ hbw) hat HFD.out HFE.out (by omega) (by simp;omega)).mono ?_
       rintro e x4 ⟨nN,iN,uU,iU,rfl,RP,hb⟩
       obtain ⟨⟨k1,k2,k3,rfl⟩,⟨k4,k5,k6,rfl⟩,⟨k7,k8,k9,rfl⟩,⟨m1,m2,m3,rfl⟩⟩:=RP.shapes
       have hw0:=hb
       have hX0:X.heap.size≤x3.heap.size:=hW.size
       clear hat hbw oc
       replace hW:=hW.trans (hb.mono hW.size)
       clear hb
       refine ⟨_,rfl,⟨⟨_,hW⟩,rfl⟩,?_⟩
       simp only [Act.put,List.getElem_toArray,List.getElem_cons_succ,List.getElem_cons_zero,List.setIfInBounds_toArray,List.set_cons_zero,List.set_cons_succ]
       refine one_at 9 _ 1 (by kernel_rfl) rfl (by kernel_rfl) ?_
       have Bz:=Blk.new x4 103 #[.slice none 0 0,.slice none 0 0,.slice none 0 0,.slice none 0 0]
       have hzz:X.heap.size≤x4.heap.size:=hW.size
       have hba:Below x4.heap.size x4 (x4.alloc (.cells #[.slice none 0 0,.slice none 0 0,.slice none 0 0,.slice none 0 0] 103)):=by go_grown
       have hcurA:=hba
       replace hW:=hW.trans (hba.mono hW.size)
       go_wp2
       refine ThenGo.to ⟨⟨⟨_,hW⟩,rfl⟩,?_⟩
       refine one_at 10 _ 0 (by kernel_rfl) rfl (by kernel_rfl) ?_
       have hgW:X.heap.size≤x4.heap.size:=hzz
       have Rz:=Bz.row #[.slice k1 k2 k3,.slice k4 k5 k6,.slice k7 k8 k9,.slice m1 m2 m3]
       have hbz:Below x4.heap.size x4 ((x4.alloc (.cells #[.slice none 0 0,.slice none 0 0,.slice none 0 0,.slice none 0 0] 103)).setRow x4.heap.size #[.slice k1 k2 k3,.slice k4 k5 k6,.slice k7 k8 k9,.slice m1 m2 m3]):=below_row hba (Nat.le_refl _) #[.slice k1 k2 k3,.slice k4 k5 k6,.slice k7 k8 k9,.slice m1 m2 m3]
       replace RP:=RP.below hbz
       have hww:=hw0.trans (hbz.mono hw0.size)
       replace hW:=below_row hW hgW #[.slice k1 k2 k3,.slice k4 k5 k6,.slice k7 k8 k9,.slice m1 m2 m3]
       refine st_row (by kernel_rfl) 103 _ _ rfl _ #[.slice k1 k2 k3,.slice k4 k5 k6,.slice k7 k8 k9,.slice m1 m2 m3] rfl rfl 103 _ Bz sz_rec9 rfl (by simp [Value.oneCell']) ?_
       refine ThenGo.to ⟨⟨⟨_,hW⟩,rfl⟩,?_⟩
       refine text_end (by kernel_rfl) ?_
       refine ⟨rfl,_,⟨.slice (some ⟨g5,0,none⟩) 1 1,.slice (some ⟨g6,0,none⟩) 2 2,vc,k1,k2,k3,k4,k5,k6,k7,k8,k9,m1,m2,m3,x3,x4.heap.size,rfl,hgW,Rz,RP,hww,hX0,hW⟩,?_⟩
       simp only [putAll,Act.put,List.getElem_toArray,List.getElem_cons_succ,List.getElem_cons_zero,List.setIfInBounds_toArray,List.set_cons_zero,List.set_cons_succ]
       try rfl
      ·skip
       refine op_one 9 _ rfl ?_
       have Bz:=Blk.new x3 103 #[.slice none 0 0,.slice none 0 0,.slice none 0 0,.slice none 0 0]
       have hzz:X.heap.size≤x3.heap.size:=hW.size
       have hba:Below x3.heap.size x3 (x3.alloc (.cells #[.slice none 0 0,.slice none 0 0,.slice none 0 0,.slice none 0 0] 103)):=by go_grown
       replace oc:=own_below oc hba
       replace hW:=hW.trans (hba.mono hW.size)
       clear hba
       go_wp2
       refine ThenGo.to ⟨⟨⟨_,hW⟩,rfl⟩,?_⟩
       generalize hGy6:x3.heap.size=g at *
       clear hGy6
       generalize x3.alloc (.cells #[.slice none 0 0,.slice none 0 0,.slice none 0 0,.slice none 0 0] 103)=y6 at *
       refine call_at 8 (some 24) 57 #[.slice p0 pd.length p5,vc] 1 (by kernel_rfl) (by kernel_rfl) (by kernel_rfl) (by kernel_rfl) (by kernel_rfl) ?_
       have hbw:=bX.trans (hW.mono bX.size)
       have hat:=at_cat9 oc (At.rds (hr3 _ hbw)) (fun p hp=>by simp only [List.mem_singleton] at hp;subst hp;exact hrA _ hbw)
       refine (recordOf_any (.slice p0 pd.length p5) vc pd (pt ++ [(⟨ti,ts,tq,.slice xa acts.length xk,acts⟩:TxnQ)]) y6 (hr1 _ hbw) hat HFD.out HFE.out (by omega) (by simp;omega)).mono ?_
       rintro e x7 ⟨nN,iN,uU,iU,rfl,RP,hb⟩
       obtain ⟨⟨k1,k2,k3,rfl⟩,⟨k4,k5,k6,rfl⟩,⟨k7,k8,k9,rfl⟩,⟨m1,m2,m3,rfl⟩⟩:=RP.shapes
       have hw0:=hb
       have hX0:X.heap.size≤y6.heap.size:=hW.size
       clear hat hbw oc
       have BzW:=Bz
       replace Bz:=Bz.below hb
       replace hW:=hW.trans (hb.mono hW.size)
       clear hb
       refine ⟨_,rfl,⟨⟨_,hW⟩,rfl⟩,?_⟩
       simp only [Act.put,List.getElem_toArray,List.getElem_cons_succ,List.getElem_cons_zero,List.setIfInBounds_toArray,List.set_cons_zero,List.set_cons_succ]
       refine one_at 10 _ 0 (by kernel_rfl) rfl (by kernel_rfl) ?_
       have hgW:X.heap.size≤g:=by omega
       have Rz:=Bz.row #[.slice k1 k2 k3,.slice k4 k5 k6,.slice k7 k8 k9,.slice m1 m2 m3]
       have hrb9:=RP.rebase hw0 BzW #[.slice k1 k2 k3,.slice k4 k5 k6,.slice k7 k8 k9,.slice m1 m2 m3]
       replace RP:=hrb9.1
       have hww:=hrb9.2
       have hX0' : X.heap.size≤(y6.setRow g #[.slice k1 k2 k3,.slice k4 k5 k6,.slice k7 k8 k9,.slice m1 m2 m3]).heap.size:=by rw [size_setRow];exact hX0
       clear hrb9
       replace hW:=below_row hW hgW #[.slice k1 k2 k3,.slice k4 k5 k6,.slice k7 k8 k9,.slice m1 m2 m3]
       refine st_row (by kernel_rfl) 103 _ _ rfl _ #[.slice k1 k2 k3,.slice k4 k5 k6,.slice k7 k8 k9,.slice m1 m2 m3] rfl rfl 103 _ Bz sz_rec9 rfl (by simp [Value.oneCell']) ?_
       refine ThenGo.to ⟨⟨⟨_,hW⟩,rfl⟩,?_⟩
       refine text_end (by kernel_rfl) ?_
       refine ⟨rfl,_,⟨.slice (some ⟨g5,0,none⟩) 1 1,.slice (some ⟨g6,0,none⟩) 2 2,vc,k1,k2,k3,k4,k5,k6,k7,k8,k9,m1,m2,m3,y6.setRow g #[.slice k1 k2 k3,.slice k4 k5 k6,.slice k7 k8 k9,.slice m1 m2 m3],g,rfl,hgW,Rz,RP,hww,hX0',hW⟩,?_⟩
       simp only [putAll,Act.put,List.getElem_toArray,List.getElem_cons_succ,List.getElem_cons_zero,List.setIfInBounds_toArray,List.set_cons_zero,List.set_cons_succ]
       try rfl
     ·skip
      refine op_one 9 _ rfl ?_
      have Bz:=Blk.new x2 103 #[.slice none 0 0,.slice none 0 0,.slice none 0 0,.slice none 0 0]
      have hzz:X.heap.size≤x2.heap.size:=hW.size
      have hba:Below x2.heap.size x2 (x2.alloc (.cells #[.slice none 0 0,.slice none 0 0,.slice none 0 0,.slice none 0 0] 103)):=by go_grown
      replace B5:=B5.below hba
      replace B6:=B6.below hba
      replace hW:=hW.trans (hba.mono hW.size)
      clear hba
      go_wp2
      refine ThenGo.to ⟨⟨⟨_,hW⟩,rfl⟩,?_⟩
      generalize hGy8:x2.heap.size=g at *
      clear hGy8
      generalize x2.alloc (.cells #[.slice none 0 0,.slice none 0 0,.slice none 0 0,.slice none 0 0] 103)=y8 at *
      refine call_at 7 (some 23) 69 #[.slice (some ⟨g6,0,none⟩) 2 2] 2 (by kernel_rfl) (by kernel_rfl) (by kernel_rfl) (by kernel_rfl) (by kernel_rfl) ?_
      have hcc:=concat9_any g6 2 (.slice p2 pt.length p7) (.slice (some ⟨g5,0,none⟩) 1 1) pt [(⟨ti,ts,tq,.slice xa acts.length xk,acts⟩:TxnQ)] y8 B6.lt (B6.cell 0 _ rfl) (B6.cell 1 _ rfl) (hr3 _ (bX.trans (hW.mono bX.size))) (at_one9 B5 (hrA _ (bX.trans (hW.mono bX.size)))) HNT.out (nice_one9 g5) (by simp;omega)
      refine hcc.mono ?_
      rintro e x9 ⟨vc,rfl,oc,hb⟩
      clear hcc B5 B6
      replace Bz:=Bz.below hb
      replace hW:=hW.trans (hb.mono hW.size)
      clear hb
      refine ⟨_,rfl,⟨⟨_,hW⟩,rfl⟩,?_⟩
      simp only [Act.put,List.getElem_toArray,List.getElem_cons_succ,List.getElem_cons_zero,List.setIfInBounds_toArray,List.set_cons_zero,List.set_cons_succ]
      refine call_at 8 (some 24) 57 #[.slice p0 pd.length p5,vc] 1 (by kernel_rfl) (by kernel_rfl) (by kernel_rfl) (by kernel_rfl) (by kernel_rfl) ?_
      have hbw:=bX.trans (hW.mono bX.size)
      have hat:=at_cat9 oc (At.rds (hr3 _ hbw)) (fun p hp=>by simp only [List.mem_singleton] at hp;subst hp;exact hrA _ hbw)
      refine (recordOf_any (.slice p0 pd.length p5) vc pd (pt ++ [(⟨ti,ts,tq,.slice xa acts.length xk,acts⟩:TxnQ)]) x9 (hr1 _ hbw) hat HFD.out HFE.out (by omega) (by simp;omega)).mono ?_
      rintro e x10 ⟨nN,iN,uU,iU,rfl,RP,hb⟩
      obtain ⟨⟨k1,k2,k3,rfl⟩,⟨k4,k5,k6,rfl⟩,⟨k7,k8,k9,rfl⟩,⟨m1,m2,m3,rfl⟩⟩:=RP.shapes
      have hw0:=hb
      have hX0:X.heap.size≤x9.heap.size:=hW.size
      clear hat hbw oc
      have BzW:=Bz
      replace Bz:=Bz.below hb
      replace hW:=hW.trans (hb.mono hW.size)
      clear hb
      refine ⟨_,rfl,⟨⟨_,hW⟩,rfl⟩,?_⟩
      simp only [Act.put,List.getElem_toArray,List.getElem_cons_succ,List.getElem_cons_zero,List.setIfInBounds_toArray,List.set_cons_zero,List.set_cons_succ]
      refine one_at 10 _ 0 (by kernel_rfl) rfl (by kernel_rfl) ?_
      have hgW:X.heap.size≤g:=by omega
      have Rz:=Bz.row #[.slice k1 k2 k3,.slice k4 k5 k6,.slice k7 k8 k9,.slice m1 m2 m3]
      have hrb9:=RP.rebase hw0 BzW #[.slice k1 k2 k3,.slice k4 k5 k6,.slice k7 k8 k9,.slice m1 m2 m3]
      replace RP:=hrb9.1
      have hww:=hrb9.2
      have hX0' : X.heap.size≤(x9.setRow g #[.slice k1 k2 k3,.slice k4 k5 k6,.slice k7 k8 k9,.slice m1 m2 m3]).heap.size:=by rw [size_setRow];exact hX0
      clear hrb9
      replace hW:=below_row hW hgW #[.slice k1 k2 k3,.slice k4 k5 k6,.slice k7 k8 k9,.slice m1 m2 m3]
      refine st_row (by kernel_rfl) 103 _ _ rfl _ #[.slice k1 k2 k3,.slice k4 k5 k6,.slice k7 k8 k9,.slice m1 m2 m3] rfl rfl 103 _ Bz sz_rec9 rfl (by simp [Value.oneCell']) ?_
      refine ThenGo.to ⟨⟨⟨_,hW⟩,rfl⟩,?_⟩
      refine text_end (by kernel_rfl) ?_
      refine ⟨rfl,_,⟨.slice (some ⟨g5,0,none⟩) 1 1,.slice (some ⟨g6,0,none⟩) 2 2,vc,k1,k2,k3,k4,k5,k6,k7,k8,k9,m1,m2,m3,x9.setRow g #[.slice k1 k2 k3,.slice k4 k5 k6,.slice k7 k8 k9,.slice m1 m2 m3],g,rfl,hgW,Rz,RP,hww,hX0',hW⟩,?_⟩
      simp only [putAll,Act.put,List.getElem_toArray,List.getElem_cons_succ,List.getElem_cons_zero,List.setIfInBounds_toArray,List.set_cons_zero,List.set_cons_succ]
      try rfl
    ·skip
     refine op_one 9 _ rfl ?_
     have Bz:=Blk.new x1 103 #[.slice none 0 0,.slice none 0 0,.slice none 0 0,.slice none 0 0]
     have hzz:X.heap.size≤x1.heap.size:=hW.size
     have hba:Below x1.heap.size x1 (x1.alloc (.cells #[.slice none 0 0,.slice none 0 0,.slice none 0 0,.slice none 0 0] 103)):=by go_grown
     replace B5:=B5.below hba
     replace hW:=hW.trans (hba.mono hW.size)
     clear hba
     go_wp2
     refine ThenGo.to ⟨⟨⟨_,hW⟩,rfl⟩,?_⟩
     generalize hGy11:x1.heap.size=g at *
     clear hGy11
     generalize x1.alloc (.cells #[.slice none 0 0,.slice none 0 0,.slice none 0 0,.slice none 0 0] 103)=y11 at *
     refine one_at 6 _ 3 (by kernel_rfl) rfl (by kernel_rfl) ?_
     have B6:=Blk.new y11 28 #[.slice p2 pt.length p7,.slice (some ⟨g5,0,none⟩) 1 1]
     have hba:Below y11.heap.size y11 (y11.alloc (.cells #[.slice p2 pt.length p7,.slice (some ⟨g5,0,none⟩) 1 1] 28)):=by go_grown
     replace B5:=B5.below hba
     replace Bz:=Bz.below hba
     replace hW:=hW.trans (hba.mono hW.size)
     clear hba
     go_wp2
     refine ThenGo.to ⟨⟨⟨_,hW⟩,rfl⟩,?_⟩
     generalize hGx12:y11.heap.size=g6 at *
     clear hGx12
     generalize y11.alloc (.cells #[.slice p2 pt.length p7,.slice (some ⟨g5,0,none⟩) 1 1] 28)=x12 at *
     refine call_at 7 (some 23) 69 #[.slice (some ⟨g6,0,none⟩) 2 2] 2 (by kernel_rfl) (by kernel_rfl) (by kernel_rfl) (by kernel_rfl) (by kernel_rfl) ?_
     have hcc:=concat9_any g6 2 (.slice p2 pt.length p7) (.slice (some ⟨g5,0,none⟩) 1 1) pt [(⟨ti,ts,tq,.slice xa acts.length xk,acts⟩:TxnQ)] x12 B6.lt (B6.cell 0 _ rfl) (B6.cell 1 _ rfl) (hr3 _ (bX.trans (hW.mono bX.size))) (at_one9 B5 (hrA _ (bX.trans (hW.mono bX.size)))) HNT.out (nice_one9 g5) (by simp;omega)
     refine hcc.mono ?_
     rintro e x13 ⟨vc,rfl,oc,hb⟩
     clear hcc B5 B6
     replace Bz:=Bz.below hb
     replace hW:=hW.trans (hb.mono hW.size)
     clear hb
     refine ⟨_,rfl,⟨⟨_,hW⟩,rfl⟩,?_⟩
     simp only [Act.put,List.getElem_toArray,List.getElem_cons_succ,List.getElem_cons_zero,List.setIfInBounds_toArray,List.set_cons_zero,List.set_cons_succ]
     refine call_at 8 (some 24) 57 #[.slice p0 pd.length p5,vc] 1 (by kernel_rfl) (by kernel_rfl) (by kernel_rfl) (by kernel_rfl) (by kernel_rfl) ?_
     have hbw:=bX.trans (hW.mono bX.size)
     have hat:=at_cat9 oc (At.rds (hr3 _ hbw)) (fun p hp=>by simp only [List.mem_singleton] at hp;subst hp;exact hrA _ hbw)
     refine (recordOf_any (.slice p0 pd.length p5) vc pd (pt ++ [(⟨ti,ts,tq,.slice xa acts.length xk,acts⟩:TxnQ)]) x13 (hr1 _ hbw) hat HFD.out HFE.out (by omega) (by simp;omega)).mono ?_
     rintro e x14 ⟨nN,iN,uU,iU,rfl,RP,hb⟩
     obtain ⟨⟨k1,k2,k3,rfl⟩,⟨k4,k5,k6,rfl⟩,⟨k7,k8,k9,rfl⟩,⟨m1,m2,m3,rfl⟩⟩:=RP.shapes
     have hw0:=hb
     have hX0:X.heap.size≤x13.heap.size:=hW.size
     clear hat hbw oc
     have BzW:=Bz
     replace Bz:=Bz.below hb
     replace hW:=hW.trans (hb.mono hW.size)
     clear hb
     refine ⟨_,rfl,⟨⟨_,hW⟩,rfl⟩,?_⟩
     simp only [Act.put,List.getElem_toArray,List.getElem_cons_succ,List.getElem_cons_zero,List.setIfInBounds_toArray,List.set_cons_zero,List.set_cons_succ]
     refine one_at 10 _ 0 (by kernel_rfl) rfl (by kernel_rfl) ?_
     have hgW:X.heap.size≤g:=by omega
     have Rz:=Bz.row #[.slice k1 k2 k3,.slice k4 k5 k6,.slice k7 k8 k9,.slice m1 m2 m3]
     have hrb9:=RP.rebase hw0 BzW #[.slice k1 k2 k3,.slice k4 k5 k6,.slice k7 k8 k9,.slice m1 m2 m3]
     replace RP:=hrb9.1
     have hww:=hrb9.2
     have hX0' : X.heap.size≤(x13.setRow g #[.slice k1 k2 k3,.slice k4 k5 k6,.slice k7 k8 k9,.slice m1 m2 m3]).heap.size:=by rw [size_setRow];exact hX0
     clear hrb9
     replace hW:=below_row hW hgW #[.slice k1 k2 k3,.slice k4 k5 k6,.slice k7 k8 k9,.slice m1 m2 m3]
     refine st_row (by kernel_rfl) 103 _ _ rfl _ #[.slice k1 k2 k3,.slice k4 k5 k6,.slice k7 k8 k9,.slice m1 m2 m3] rfl rfl 103 _ Bz sz_rec9 rfl (by simp [Value.oneCell']) ?_
     refine ThenGo.to ⟨⟨⟨_,hW⟩,rfl⟩,?_⟩
     refine text_end (by kernel_rfl) ?_
     refine ⟨rfl,_,⟨.slice (some ⟨g5,0,none⟩) 1 1,.slice (some ⟨g6,0,none⟩) 2 2,vc,k1,k2,k3,k4,k5,k6,k7,k8,k9,m1,m2,m3,x13.setRow g #[.slice k1 k2 k3,.slice k4 k5 k6,.slice k7 k8 k9,.slice m1 m2 m3],g,rfl,hgW,Rz,RP,hww,hX0',hW⟩,?_⟩
     simp only [putAll,Act.put,List.getElem_toArray,List.getElem_cons_succ,List.getElem_cons_zero,List.setIfInBounds_toArray,List.set_cons_zero,List.set_cons_succ]
     try rfl
   ·skip
    refine op_one 9 _ rfl ?_
    have Bz:=Blk.new wd 103 #[.slice none 0 0,.slice none 0 0,.slice none 0 0,.slice none 0 0]
    have hzz:X.heap.size≤wd.heap.size:=hW.size
    have hba:Below wd.heap.size wd (wd.alloc (.cells #[.slice none 0 0,.slice none 0 0,.slice none 0 0,.slice none 0 0] 103)):=by go_grown
    replace hW:=hW.trans (hba.mono hW.size)
    clear hba
    go_wp2
    refine ThenGo.to ⟨⟨⟨_,hW⟩,rfl⟩,?_⟩
    generalize hGy15:wd.heap.size=g at *
    clear hGy15
    generalize wd.alloc (.cells #[.slice none 0 0,.slice none 0 0,.slice none 0 0,.slice none 0 0] 103)=y15 at *
    refine one_at 5 _ 4 (by kernel_rfl) rfl (by kernel_rfl) ?_
    have B5:=Blk.new y15 49 #[.int .i64 ti,.int .i64 ts,.int .i64 tq,.slice xa acts.length xk]
    have hba:Below y15.heap.size y15 (y15.alloc (.cells #[.int .i64 ti,.int .i64 ts,.int .i64 tq,.slice xa acts.length xk] 49)):=by go_grown
    replace Bz:=Bz.below hba
    replace hW:=hW.trans (hba.mono hW.size)
    clear hba
    go_wp2
    refine ThenGo.to ⟨⟨⟨_,hW⟩,rfl⟩,?_⟩
    generalize hGx16:y15.heap.size=g5 at *
    clear hGx16
    generalize y15.alloc (.cells #[.int .i64 ti,.int .i64 ts,.int .i64 tq,.slice xa acts.length xk] 49)=x16 at *
    refine one_at 6 _ 3 (by kernel_rfl) rfl (by kernel_rfl) ?_
    have B6:=Blk.new x16 28 #[.slice p2 pt.length p7,.slice (some ⟨g5,0,none⟩) 1 1]
    have hba:Below x16.heap.size x16 (x16.alloc (.cells #[.slice p2 pt.length p7,.slice (some ⟨g5,0,none⟩) 1 1] 28)):=by go_grown
    replace B5:=B5.below hba
    replace Bz:=Bz.below hba
    replace hW:=hW.trans (hba.mono hW.size)
    clear hba
    go_wp2
    refine ThenGo.to ⟨⟨⟨_,hW⟩,rfl⟩,?_⟩
    generalize hGx17:x16.heap.size=g6 at *
    clear hGx17
    generalize x16.alloc (.cells #[.slice p2 pt.length p7,.slice (some ⟨g5,0,none⟩) 1 1] 28)=x17 at *
    refine call_at 7 (some 23) 69 #[.slice (some ⟨g6,0,none⟩) 2 2] 2 (by kernel_rfl) (by kernel_rfl) (by kernel_rfl) (by kernel_rfl) (by kernel_rfl) ?_
    have hcc:=concat9_any g6 2 (.slice p2 pt.length p7) (.slice (some ⟨g5,0,none⟩) 1 1) pt [(⟨ti,ts,tq,.slice xa acts.length xk,acts⟩:TxnQ)] x17 B6.lt (B6.cell 0 _ rfl) (B6.cell 1 _ rfl) (hr3 _ (bX.trans (hW.mono bX.size))) (at_one9 B5 (hrA _ (bX.trans (hW.mono bX.size)))) HNT.out (nice_one9 g5) (by simp;omega)
    refine hcc.mono ?_
    rintro e x18 ⟨vc,rfl,oc,hb⟩
    clear hcc B5 B6
    replace Bz:=Bz.below hb
    replace hW:=hW.trans (hb.mono hW.size)
    clear hb
    refine ⟨_,rfl,⟨⟨_,hW⟩,rfl⟩,?_⟩
    simp only [Act.put,List.getElem_toArray,List.getElem_cons_succ,List.getElem_cons_zero,List.setIfInBounds_toArray,List.set_cons_zero,List.set_cons_succ]
    refine call_at 8 (some 24) 57 #[.slice p0 pd.length p5,vc] 1 (by kernel_rfl) (by kernel_rfl) (by kernel_rfl) (by kernel_rfl) (by kernel_rfl) ?_
    have hbw:=bX.trans (hW.mono bX.size)
    have hat:=at_cat9 oc (At.rds (hr3 _ hbw)) (fun p hp=>by simp only [List.mem_singleton] at hp;subst hp;exact hrA _ hbw)
    refine (recordOf_any (.slice p0 pd.length p5) vc pd (pt ++ [(⟨ti,ts,tq,.slice xa acts.length xk,acts⟩:TxnQ)]) x18 (hr1 _ hbw) hat HFD.out HFE.out (by omega) (by simp;omega)).mono ?_
    rintro e x19 ⟨nN,iN,uU,iU,rfl,RP,hb⟩
    obtain ⟨⟨k1,k2,k3,rfl⟩,⟨k4,k5,k6,rfl⟩,⟨k7,k8,k9,rfl⟩,⟨m1,m2,m3,rfl⟩⟩:=RP.shapes
    have hw0:=hb
    have hX0:X.heap.size≤x18.heap.size:=hW.size
    clear hat hbw oc
    have BzW:=Bz
    replace Bz:=Bz.below hb
    replace hW:=hW.trans (hb.mono hW.size)
    clear hb
    refine ⟨_,rfl,⟨⟨_,hW⟩,rfl⟩,?_⟩
    simp only [Act.put,List.getElem_toArray,List.getElem_cons_succ,List.getElem_cons_zero,List.setIfInBounds_toArray,List.set_cons_zero,List.set_cons_succ]
    refine one_at 10 _ 0 (by kernel_rfl) rfl (by kernel_rfl) ?_
    have hgW:X.heap.size≤g:=by omega
    have Rz:=Bz.row #[.slice k1 k2 k3,.slice k4 k5 k6,.slice k7 k8 k9,.slice m1 m2 m3]
    have hrb9:=RP.rebase hw0 BzW #[.slice k1 k2 k3,.slice k4 k5 k6,.slice k7 k8 k9,.slice m1 m2 m3]
    replace RP:=hrb9.1
    have hww:=hrb9.2
    have hX0' : X.heap.size≤(x18.setRow g #[.slice k1 k2 k3,.slice k4 k5 k6,.slice k7 k8 k9,.slice m1 m2 m3]).heap.size:=by rw [size_setRow];exact hX0
    clear hrb9
    replace hW:=below_row hW hgW #[.slice k1 k2 k3,.slice k4 k5 k6,.slice k7 k8 k9,.slice m1 m2 m3]
    refine st_row (by kernel_rfl) 103 _ _ rfl _ #[.slice k1 k2 k3,.slice k4 k5 k6,.slice k7 k8 k9,.slice m1 m2 m3] rfl rfl 103 _ Bz sz_rec9 rfl (by simp [Value.oneCell']) ?_
    refine ThenGo.to ⟨⟨⟨_,hW⟩,rfl⟩,?_⟩
    refine text_end (by kernel_rfl) ?_
    refine ⟨rfl,_,⟨.slice (some ⟨g5,0,none⟩) 1 1,.slice (some ⟨g6,0,none⟩) 2 2,vc,k1,k2,k3,k4,k5,k6,k7,k8,k9,m1,m2,m3,x18.setRow g #[.slice k1 k2 k3,.slice k4 k5 k6,.slice k7 k8 k9,.slice m1 m2 m3],g,rfl,hgW,Rz,RP,hww,hX0',hW⟩,?_⟩
    simp only [putAll,Act.put,List.getElem_toArray,List.getElem_cons_succ,List.getElem_cons_zero,List.setIfInBounds_toArray,List.set_cons_zero,List.set_cons_succ]
    try rfl
  rintro vs w5 ⟨v21,v22,v23,k1,k2,k3,k4,k5,k6,k7,k8,k9,m1,m2,m3,w0,g,rfl,hgX,RG,RP,hw0,hX0,hX5⟩
  simp only [putAll,Act.put,List.setIfInBounds_toArray,List.set_cons_zero,List.set_cons_succ]
  replace BA:=BA.below hX5
  replace RB:=RB.below hX5
  replace b0:=below_from b0 hX5
  have hRBl:=RB.lt
  have hgR:g≠w.heap.size + 1 + 1:=by omega
  rw [List.map_append] at RP
  obtain ⟨bu,ou,cu,d0,d1,d2,d3,d6,hvU,hbu,y0,y1,y2,y3,y4,y5,y6,⟨da,dl,dc,rfl⟩,⟨ea,el,ec,rfl⟩⟩:=last_deed9 (E:=pt.map TxnQ.e) (t:=TxnQ.e (⟨ti,ts,tq,.slice xa acts.length xk,acts⟩:TxnQ)) RP
  rw [List.length_map] at hvU y0 y1 y2 y3 y4 y5 y6
  have HM:=HRES.out
  rw [show (TxnQ.e (⟨ti,ts,tq,.slice xa acts.length xk,acts⟩:TxnQ)).acts=acts from rfl] at y4 y5
  generalize hCA:(runA (allI (allI [] (pd.map TxnQ.e)) (pt.map TxnQ.e)) acts).1=CA at y4
  generalize hCV:runV (allI (allI [] (pd.map TxnQ.e)) (pt.map TxnQ.e)) acts=CV at y5
  have HAV:Hid (AA=CA∧VV=CV∧RE=mkR (pd.map TxnQ.e) (pt.map TxnQ.e ++ [TxnQ.e (⟨ti,ts,tq,.slice xa acts.length xk,acts⟩:TxnQ)])):=⟨by rw [← hCA];exact HM.1,by rw [← hCV];exact HM.2.1,HM.2.2.trans (by rw [List.map_append];rfl)⟩
  clear HM HRES hCA hCV
  simp only [Value.slice.injEq] at hvU
  obtain ⟨rfl,rfl,rfl⟩:=hvU
  have r2:=RG.cell 2 _ rfl
  have a2:=BA.cell 2 _ rfl
  have hk1:(0:Int)≤(pt.length:Int):=by omega
  have hk2:(pt.length:Int) < ((pt.length + 1:Nat):Int):=by omega
  go_wp2_with fail
  clear r2 a2 y0 y1 y2 y3 y4 y5 y6 BA BT
  have hbx:Below w5.heap.size w5 (w5.alloc (.cells #[.int .i64 d0,.int .i64 d1,.int .i64 d2,.slice da dl dc,.int .i64 CA,.int .i64 CV,.slice ea el ec] 120)):=by go_grown
  have BD:=Blk.new w5 120 #[.int .i64 d0,.int .i64 d1,.int .i64 d2,.slice da dl dc,.int .i64 CA,.int .i64 CV,.slice ea el ec]
  have hw5g:w5.heap.size≠w.heap.size + 1 + 1:=by omega
  replace RG:=RG.below hbx
  replace RB:=RB.below hbx
  replace RP:=RP.below hbx
  replace b0:=below_from b0 hbx
  replace hw0:=hw0.trans (hbx.mono hw0.size)
  clear hbx
  generalize w5.alloc (.cells #[.int .i64 d0,.int .i64 d1,.int .i64 d2,.slice da dl dc,.int .i64 CA,.int .i64 CV,.slice ea el ec] 120)=Y at *
  have hFD' : ∀ t∈pd.map TxnQ.e,t.F=0:=fun t ht=>by obtain ⟨q,hq,rfl⟩:=List.mem_map.1 ht;exact HFD.out q hq
  have hFE' : ∀ t∈(pt.map TxnQ.e ++ [TxnQ.e (⟨ti,ts,tq,.slice xa acts.length xk,acts⟩:TxnQ)]),t.F=0:=fun t ht=>by
   rcases List.mem_append.1 ht with ht | ht
   ·obtain ⟨q,hq,rfl⟩:=List.mem_map.1 ht;exact HFE.out q (List.mem_append_left _ hq)
   ·simp only [List.mem_singleton] at ht;subst ht;exact HFE.out _ (List.mem_append_right _ (by simp))
  have ga:=allI_good (xs:=[]) (by simp) nil_good hFD'
  have gb:=allI_good ga.1 ga.2 hFE'
  have hD40:(pd.map TxnQ.e).length≤40:=by rw [List.length_map];omega
  have hE40:(pt.map TxnQ.e ++ [TxnQ.e (⟨ti,ts,tq,.slice xa acts.length xk,acts⟩:TxnQ)]).length≤40:=by simp;omega
  have hW:Below Y.heap.size Y Y.drew:=(Below.refl _ _).drew
  have hrp:=replica_any w0 (.slice k1 k2 k3) (.slice k4 k5 k6) (.slice (some ⟨bu,ou,none⟩) (pt.length + 1) k9) (.slice m1 m2 m3) (pd.map TxnQ.e) (pt.map TxnQ.e ++ [TxnQ.e (⟨ti,ts,tq,.slice xa acts.length xk,acts⟩:TxnQ)]) Y.drew (RP.below hW) (hw0.trans (hW.mono hw0.size)) hFD' hFE' hD40 hE40 ga.1 gb.1 ga.2
  clear RP hFD' hFE' ga gb hD40 hE40
  have c4:=keep_cell (F:=[w.heap.size + 1 + 1]) (BD.cell 4 _ rfl) (by simp;omega)
  have c5:=keep_cell (F:=[w.heap.size + 1 + 1]) (BD.cell 5 _ rfl) (by simp;omega)
  have e0:=keep_cell (F:=[w.heap.size + 1 + 1]) (RG.cell 0 _ rfl) (by simp;omega)
  have e1:=keep_cell (F:=[w.heap.size + 1 + 1]) (RG.cell 1 _ rfl) (by simp;omega)
  have e2:=keep_cell (F:=[w.heap.size + 1 + 1]) (RG.cell 2 _ rfl) (by simp;omega)
  have e3:=keep_cell (F:=[w.heap.size + 1 + 1]) (RG.cell 3 _ rfl) (by simp;omega)
  have hne:Nonempty (KeepP (Out [w.heap.size + 1 + 1] Y)):=⟨⟨Y,Out.refl _ _⟩⟩
  have hO:Out [w.heap.size + 1 + 1] Y Y.drew:=Out.of_below hW
  refine text_begin (S:=fun w' => ∃ u:KeepP (Out [w.heap.size + 1 + 1] Y),w' = u.val) (by kernel_rfl) ?_
  refine seg_range [(0,5)] 3 (by kernel_rfl) (by kernel_rfl) (by kernel_rfl) (by kernel_rfl) (by kernel_rfl) ⟨⟨_,hO⟩,rfl⟩ ?_
  simp only [pickR,List.toList_toArray,List.flatMap_cons,List.flatMap_nil,List.drop_succ_cons,List.drop_zero,List.take_succ_cons,List.take_zero,List.cons_append,List.nil_append,List.append_nil]
  repeat go_big_quiet_step (fail)
  refine wpQuiet_nil ?_
  clear c4 c5 e0 e1 e2 e3
  refine call_at 5 (some 38) 58 #[.agg #[.slice k1 k2 k3,.slice k4 k5 k6,.slice (some ⟨bu,ou,none⟩) (pt.length + 1) k9,.slice m1 m2 m3]] 2 (by kernel_rfl) (by kernel_rfl) (by kernel_rfl) (by kernel_rfl) (by kernel_rfl) ?_
  refine hrp.mono ?_
  rintro e w7 ⟨q,rfl,eq,oq,nq,gq,hb⟩
  have hbY:Below Y.heap.size Y w7:=hW.trans (hb.mono hW.size)
  have RB0:=RB.lt
  have hY0:Y.heap.size≤Y.drew.heap.size:=hW.size
  replace RB:=RB.below hbY
  have hsz:=b0.size
  replace hO:Out [w.heap.size + 1 + 1] Y w7:=Out.of_below hbY
  replace b0:=b0.trans (hbY.mono b0.size)
  have gne:∀ k∈repK.foot q,k≠w.heap.size + 1 + 1:=fun k hk=>by have:=gq k hk;omega
  have gw:∀ k∈repK.foot q,w.heap.size≤k:=fun k hk=>by have:=gq k hk;omega
  clear hb gq hrp
  refine ⟨_,rfl,⟨⟨_,hO⟩,rfl⟩,?_⟩
  simp only [Act.put,List.getElem_toArray,List.getElem_cons_succ,List.getElem_cons_zero,List.setIfInBounds_toArray,List.set_cons_zero,List.set_cons_succ]
  obtain ⟨qvd,qd,qvb,qb,qvt,qt,qvu,qu,qvn,qn⟩:=q
  obtain ⟨s0,t0,rfl⟩:∃ a c,qvd=.slice a qd.length c:=oq.1.shape
  obtain ⟨s1,t1,rfl⟩:∃ a c,qvb=.slice a qb.length c:=oq.2.1.shape
  obtain ⟨s2,t2,rfl⟩:∃ a c,qvt=.slice a qt.length c:=oq.2.2.1.shape
  obtain ⟨s3,t3,rfl⟩:∃ a c,qvu=.slice a qu.length c:=oq.2.2.2.1.shape
  obtain ⟨s4,t4,rfl⟩:∃ a c,qvn=.slice a qn.length c:=oq.2.2.2.2.shape
  have HEQ:Hid _:=eq
  clear eq
  refine seg_range [(6,1)] 1 (by kernel_rfl) (by kernel_rfl) (by kernel_rfl) (by kernel_rfl) (by kernel_rfl) ⟨⟨_,hO⟩,rfl⟩ ?_
  simp only [pickR,List.toList_toArray,List.flatMap_cons,List.flatMap_nil,List.drop_succ_cons,List.drop_zero,List.take_succ_cons,List.take_zero,List.cons_append,List.nil_append,List.append_nil]
  repeat go_big_quiet_step (fail)
  refine wpQuiet_nil ?_
  refine one_at 7 _ 0 (by kernel_rfl) rfl (by kernel_rfl) ?_
  have Rz:=RB.row #[.int .i64 0,.int .i64 CA,.int .i64 CV,.slice s0 qd.length t0,.slice s1 qb.length t1,.slice s2 qt.length t2,.slice s3 qu.length t3,.slice s4 qn.length t4]
  have oz:=repK.own_out oq (out_row _ (w.heap.size + 1 + 1) #[.int .i64 0,.int .i64 CA,.int .i64 CV,.slice s0 qd.length t0,.slice s1 qb.length t1,.slice s2 qt.length t2,.slice s3 qu.length t3,.slice s4 qn.length t4]) (fun k hk=>by simp only [List.mem_singleton];exact gne k hk)
  replace hO:Out [w.heap.size + 1 + 1] Y _:=hO.trans (out_row w7 (w.heap.size + 1 + 1) #[.int .i64 0,.int .i64 CA,.int .i64 CV,.slice s0 qd.length t0,.slice s1 qb.length t1,.slice s2 qt.length t2,.slice s3 qu.length t3,.slice s4 qn.length t4])
  replace b0:=below_row (g:=w.heap.size + 1 + 1) b0 (by omega) #[.int .i64 0,.int .i64 CA,.int .i64 CV,.slice s0 qd.length t0,.slice s1 qb.length t1,.slice s2 qt.length t2,.slice s3 qu.length t3,.slice s4 qn.length t4]
  refine st_row (by kernel_rfl) 34 _ _ rfl _ #[.int .i64 0,.int .i64 CA,.int .i64 CV,.slice s0 qd.length t0,.slice s1 qb.length t1,.slice s2 qt.length t2,.slice s3 qu.length t3,.slice s4 qn.length t4] rfl rfl 34 _ RB sz_rr rfl (by simp [Value.oneCell']) ?_
  refine ThenGo.to ⟨⟨⟨_,hO⟩,rfl⟩,?_⟩
  refine text_end (by kernel_rfl) ?_
  have z0:=Rz.cell 0 _ rfl
  have z1:=Rz.cell 1 _ rfl
  have z2:=Rz.cell 2 _ rfl
  have z3:=Rz.cell 3 _ rfl
  have z4:=Rz.cell 4 _ rfl
  have z5:=Rz.cell 5 _ rfl
  have z6:=Rz.cell 6 _ rfl
  have z7:=Rz.cell 7 _ rfl
  go_wp2
  exact bodyPost_ret (v:=.agg #[.int .i64 0,.int .i64 CA,.int .i64 CV,.slice s0 qd.length t0,.slice s1 qb.length t1,.slice s2 qt.length t2,.slice s3 qu.length t3,.slice s4 qn.length t4]) (by simp [results,Tryz.results21,go_sem,z0,z1,z2,z3,z4,z5,z6,z7]) rfl ⟨(⟨.slice s0 qd.length t0,qd,.slice s1 qb.length t1,qb,.slice s2 qt.length t2,qt,.slice s3 qu.length t3,qu,.slice s4 qn.length t4,qn⟩:RepQ),by rw [HAV.out.1,HAV.out.2.1],HEQ.out.trans HAV.out.2.2.symm,oz,nq,gw,b0⟩
 ·obtain ⟨hA,hV,hR⟩:=HE.out.2 hc
  have hC' : (c != 0)=true:=by simpa using hc
  clear HE
  have Rr:=RB.row #[.int .i64 c,.int .i64 0,.int .i64 0,.slice none 0 0,.slice none 0 0,.slice none 0 0,.slice none 0 0,.slice none 0 0]
  have hBr:=below_row (g:=w.heap.size + 1 + 1) b0 (by omega) #[.int .i64 c,.int .i64 0,.int .i64 0,.slice none 0 0,.slice none 0 0,.slice none 0 0,.slice none 0 0,.slice none 0 0]
  go_wp2_with (first | (refine st_row (by kernel_rfl) 34 _ _ rfl _ #[.int .i64 c,.int .i64 0,.int .i64 0,.slice none 0 0,.slice none 0 0,.slice none 0 0,.slice none 0 0,.slice none 0 0] rfl rfl 34 _ RB sz_rr rfl (by simp [Value.oneCell']) ?_))
  have z0:=Rr.cell 0 _ rfl
  have z1:=Rr.cell 1 _ rfl
  have z2:=Rr.cell 2 _ rfl
  have z3:=Rr.cell 3 _ rfl
  have z4:=Rr.cell 4 _ rfl
  have z5:=Rr.cell 5 _ rfl
  have z6:=Rr.cell 6 _ rfl
  have z7:=Rr.cell 7 _ rfl
  first | done | skip
  exact bodyPost_ret (v:=.agg #[.int .i64 c,.int .i64 0,.int .i64 0,.slice none 0 0,.slice none 0 0,.slice none 0 0,.slice none 0 0,.slice none 0 0]) (by simp [results,Tryz.results21,go_sem,z0,z1,z2,z3,z4,z5,z6,z7]) rfl ⟨rep0,by rw [hA,hV];rfl,hR.symm,(rep0_own _).1,by rw [(rep0_own w).2];simp,by rw [(rep0_own w).2];simp,hBr⟩

end Go.Proofs.YtfdkcbafpiojkaaGreatDoor
