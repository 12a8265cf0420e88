/- Texts joined, with what the laws reach alone. -/
import Derived.Test.YtjjoahhnkpjolaaGreatDoorCFAZ
import Derived.Test.YtjjoahhnkpjolaaGreatDoorCFAS
set_option linter.unusedVariables false
set_option linter.unusedSimpArgs false
namespace Go.Proofs.YtjjoahhnkpjolaaGreatDoor
open Go.RowKit
open Go.BigFrame
set_option maxRecDepth 100000
/-- What undoes each one. -/
def undL (xs:List ItemD) (E:List TxnD):List (List UndoD):=(deedsE xs E).map (fun x=>x.2.2.2)

/-- The replica of D for good and E ahead of its time. -/
def mkR (D E:List TxnD):RepE:=⟨D,allI [] D,E,undL (allI [] D) E,allI (allI [] D) E⟩

theorem deeds_t (E:List TxnD) (xs:List ItemD):(deedsE xs E).map (fun x=>x.1)=E:=by
 induction E generalizing xs with
 | nil=>rfl
 | cons t r ih=>simp [deedsE,ih]

theorem deeds_len (E:List TxnD) (xs:List ItemD):(deedsE xs E).length=E.length:=by
 induction E generalizing xs with
 | nil=>rfl
 | cons t r ih=>simp [deedsE,ih]

theorem dq_t {us:List DeedQ} {xs:List ItemD} {E:List TxnD} (h:us.map DeedQ.e4=deedsE xs E):us.map DeedQ.t=E:=by
 have:=congrArg (List.map (fun x=>x.1)) h
 rw [deeds_t,List.map_map] at this
 exact this

theorem dq_u {us:List DeedQ} {xs:List ItemD} {E:List TxnD} (h:us.map DeedQ.e4=deedsE xs E):us.map DeedQ.us=undL xs E:=by
 have:=congrArg (List.map (fun x=>x.2.2.2)) h
 rw [List.map_map] at this
 exact this

theorem sz_rep:(Tryz.prog.info? 56).map (·.size)=some 5:=by kernel_rfl

/-- Four lists of their own, apart from block g. -/
structure Four (X w' : World) (g:Nat) (vd vb vt vn:Value) (d t:List TxnQ) (b n:List ItemD):Prop where
 od:txnK.Own w' vd d
 ob:itemK.Own w' vb b
 ot:txnK.Own w' vt t
 on:itemK.Own w' vn n
 nd:(txnK.fp vd d ++ (blk vb ++ (txnK.fp vt t ++ blk vn))).Nodup
 lo:∀ k∈txnK.fp vd d ++ (blk vb ++ (txnK.fp vt t ++ blk vn)),X.heap.size≤k∧k≠g

theorem HU4 {us:List DeedQ} {xs:List ItemD} {E:List TxnD} (hl:xs.length≤8) (g:Good xs) (hF:∀ t∈E,t.F=0) (h:us.map DeedQ.e4=deedsE xs E):∀ p∈us,p.us.length≤1048576:=by
 induction E generalizing us xs with
 | nil=>
  intro p hp
  have:us=[]:=by simpa [deedsE] using h
  rw [this] at hp
  simp at hp
 | cons t r ih=>
  intro p hp
  cases us with
  | nil=>simp at hp
  | cons u us=>
   simp only [List.map_cons,deedsE,List.cons.injEq] at h
   have ht:=hF t (by simp)
   rcases List.mem_cons.1 hp with rfl | hp
   ·have e:p.us=runU xs t.acts:=congrArg (fun x=>x.2.2.2) h.1
    have hz:=acts_of_F (show txnF t.id t.session t.seq t.acts=0 from ht)
    rw [e]
    unfold runU
    split
    ·have:=(unR_parts hl g hz.2 (by assumption)).1
     omega
    ·simp
   ·have g2:=nextI_good hl g ht
    exact ih g2.1 g2.2 (fun t' h' => hF t' (List.mem_cons_of_mem _ h')) h.2 p hp

set_option maxRecDepth 100000 in
set_option maxHeartbeats 16000000 in
theorem replica_any (w0:World) (vN iN vU iU:Value) (D E:List TxnD) (w:World) (h:RecPost w0 w vN iN vU iU D E) (h00:Below w0.heap.size w0 w) (hFD:∀ t∈D,t.F=0) (hFE:∀ t∈E,t.F=0) (hlD:D.length≤40) (hlE:E.length≤40) (hx8:(allI [] D).length≤8) (hy8:(allI (allI [] D) E).length≤8) (hgx:Good (allI [] D)) :
  Calls Tryz.prog 134 #[.agg #[vN,iN,vU,iU]] w fun e w' => ∃ p:RepQ,e=.returned (.agg #[p.vd,p.vb,p.vt,p.vu,p.vn])∧p.e=mkR D E∧repK.own w' p∧(repK.foot p).Nodup∧(∀ k∈repK.foot p,w.heap.size≤k)∧Below w.heap.size w w' := by
 obtain ⟨ds,us,rb,B0,R,eD,eE,hB0⟩:=h
 obtain ⟨na,nc,rfl⟩:=own_shape R.oN
 obtain ⟨ua,uc,rfl⟩:=own_shape R.oU
 obtain ⟨ia,ic,rfl⟩:=R.jN.shape
 obtain ⟨ja,jc,rfl⟩:=R.jU.shape
 have nI:=R.jN.niceV _ _ _ rfl
 have nJ:=R.jU.niceV _ _ _ rfl
 have dN:(deedNK w0).At w (.slice na ds.length nc) ds:=Kind.at_of_row (K:=deedNK w0) R.oN R.aN
 have dU:(deedUK w0).At w (.slice ua us.length uc) us:=Kind.at_of_row (K:=deedUK w0) R.oU (fun p hp=>⟨(R.aU p hp).1,(R.aU p hp).2.at⟩)
 have dUn:∀ p∈us,NiceV p.lv:=fun p hp=>(R.aU p hp).2.niceV
 have jN:=R.jN.at
 have jU:=R.jU.at
 have tD:=dq_t eD
 have tE:=dq_t eE
 have uE:=dq_u eE
 have hlds:ds.length≤40:=by
  have:=congrArg List.length tD
  rw [List.length_map] at this
  omega
 have hlus:us.length≤40:=by
  have:=congrArg List.length tE
  rw [List.length_map] at this
  omega
 have hneN:∀ p∈ds,p.t.F=0:=fun p hp=>hFD _ (by rw [← tD];exact List.mem_map_of_mem hp)
 have hneU:∀ p∈us,p.t.F=0:=fun p hp=>hFE _ (by rw [← tE];exact List.mem_map_of_mem hp)
 have HU:Hid (us.map DeedQ.us=undL (allI [] D) E∧ds.map DeedQ.t=D∧us.map DeedQ.t=E):=⟨uE,tD,tE⟩
 have hu4:∀ p∈us,p.us.length≤1048576:=HU4 hx8 hgx hFE eE
 clear R eD eE tD tE uE hB0
 have HMK:Hid (mkR D E=⟨D,allI [] D,E,undL (allI [] D) E,allI (allI [] D) E⟩):=show _=_ from rfl
 generalize allI (allI [] D) E=ys at *
 generalize allI [] D=xs at *
 have hb0:Below w.heap.size w ((w.alloc (.cells #[.slice na ds.length nc,.slice ia xs.length ic,.slice ua us.length uc,.slice ja ys.length jc] 149)).alloc (.cells #[.slice none 0 0,.slice none 0 0,.slice none 0 0,.slice none 0 0,.slice none 0 0] 56)):=by go_grown
 have B:=(Blk.new w 149 #[.slice na ds.length nc,.slice ia xs.length ic,.slice ua us.length uc,.slice ja ys.length jc]).below (w' := (w.alloc (.cells #[.slice na ds.length nc,.slice ia xs.length ic,.slice ua us.length uc,.slice ja ys.length jc] 149)).alloc (.cells #[.slice none 0 0,.slice none 0 0,.slice none 0 0,.slice none 0 0,.slice none 0 0] 56)) (by go_grown)
 have Bv:=Blk.new (w.alloc (.cells #[.slice na ds.length nc,.slice ia xs.length ic,.slice ua us.length uc,.slice ja ys.length jc] 149)) 56 #[.slice none 0 0,.slice none 0 0,.slice none 0 0,.slice none 0 0,.slice none 0 0]
 rw [World.size_alloc] at Bv
 replace dN:=dN.below hb0
 replace dU:=dU.below hb0
 replace jN:=jN.below hb0
 replace jU:=jU.below hb0
 have h0X:=h00.trans (hb0.mono h00.size)
 have hsX:w.heap.size + 2≤((w.alloc (.cells #[.slice na ds.length nc,.slice ia xs.length ic,.slice ua us.length uc,.slice ja ys.length jc] 149)).alloc (.cells #[.slice none 0 0,.slice none 0 0,.slice none 0 0,.slice none 0 0,.slice none 0 0] 56)).heap.size:=by simp only [World.size_alloc];omega
 go_enter Tryz.func134,Tryz.ntmps134
 go_wp2_with fail
 generalize (w.alloc (.cells #[.slice na ds.length nc,.slice ia xs.length ic,.slice ua us.length uc,.slice ja ys.length jc] 149)).alloc (.cells #[.slice none 0 0,.slice none 0 0,.slice none 0 0,.slice none 0 0,.slice none 0 0] 56)=X at *
 generalize hrc:w.heap.size=rc at *
 obtain ⟨f0,f1,f2,f3⟩:=B.lts4
 have hc1:=fun (w' : World) (hb:Below X.heap.size X w')=>txnsN_any w0 (.slice na ds.length nc) (.slice ia xs.length ic) ds w' (dN.below hb) (h0X.trans (hb.mono h0X.size)) hneN (by omega)
 have hc2:=fun (w' : World) (hb:Below X.heap.size X w')=>clone9Item_any ia ic xs w' (jN.below hb) nI (by omega)
 have hc3:=fun (w' : World) (hb:Below X.heap.size X w')=>txnsU_any w0 (.slice ua us.length uc) (.slice ja ys.length jc) us w' (dU.below hb) (h0X.trans (hb.mono h0X.size)) hneU (by omega)
 have hc4:=fun (w' : World) (hb:Below X.heap.size X w')=>clone9Item_any ja jc ys w' (jU.below hb) nJ (by omega)
 refine region_vals [some 6,some 7,some 8,some 9,some 10,some 11,some 12,some 13,some 14,some 15,some 16,some 17,some 18,some 19,some 20,some 3] (fun vs w' => ∃ (a1:Option Addr) (k1:Nat) (b1:Option Addr) (c1:Nat) (a3:Option Addr) (k3:Nat) (b2:Option Addr) (c2 g:Nat) (q1 q3:List TxnQ),vs=[.pointer (some ⟨rc,0,none⟩),.agg #[.slice na ds.length nc,.slice ia xs.length ic],.slice a1 q1.length k1,.pointer (some ⟨rc,0,none⟩),.pointer (some ⟨rc,1,none⟩),.slice ia xs.length ic,.slice b1 xs.length c1,.pointer (some ⟨rc,2,none⟩),.agg #[.slice ua us.length uc,.slice ja ys.length jc],.slice a3 q3.length k3,.pointer (some ⟨rc,2,none⟩),.pointer (some ⟨rc,3,none⟩),.slice ja ys.length jc,.slice b2 ys.length c2,.agg #[.slice a1 q1.length k1,.slice b1 xs.length c1,.slice a3 q3.length k3,.slice none 0 0,.slice b2 ys.length c2],.pointer (some ⟨g,0,none⟩)]∧X.heap.size≤g∧Blk w' g 56 #[.slice a1 q1.length k1,.slice b1 xs.length c1,.slice a3 q3.length k3,.slice none 0 0,.slice b2 ys.length c2]∧q1.map TxnQ.e=ds.map DeedQ.t∧q3.map TxnQ.e=us.map DeedQ.t∧Four X w' g (.slice a1 q1.length k1) (.slice b1 xs.length c1) (.slice a3 q3.length k3) (.slice b2 ys.length c2) q1 q3 xs ys∧Below X.heap.size X w') ?_ ?_
 ·have hW:Below X.heap.size X X.drew:=(Below.refl _ _).drew
  have hnn:Nonempty (Lat X):=⟨⟨X,Below.refl _ _⟩⟩
  refine text_begin (S:=fun w' => ∃ u:Lat X,w' = u.val) (by kernel_rfl) ?_
  refine sgr [(0,2),(3,3),(7,2),(10,3)] 7 (by kernel_rfl) ⟨⟨_,hW⟩,rfl⟩ ?_
  simp only [pkE]
  repeat go_big_quiet_step (fail)
  refine wpQuiet_nil ?_
  clear f0 f1 f2 f3 HU HMK
  generalize X.drew=x at hW ⊢
  refine twa 2 15 6 (by kernel_rfl) ?_ ?_
  rotate_left
  focus
   refine op_one 15 _ rfl ?_
   have Bz:=Blk.new x 56 #[.slice none 0 0,.slice none 0 0,.slice none 0 0,.slice none 0 0,.slice none 0 0]
   have hzz:X.heap.size≤x.heap.size:=hW.size
   have hba:Below x.heap.size x (x.alloc (.cells #[.slice none 0 0,.slice none 0 0,.slice none 0 0,.slice none 0 0,.slice none 0 0] 56)):=by go_grown
   replace hW:=hW.trans (hba.mono hW.size)
   clear hba
   go_wp2
   refine ThenGo.to ⟨⟨⟨_,hW⟩,rfl⟩,?_⟩
   generalize hGy:x.heap.size=g at *
   generalize x.alloc (.cells #[.slice none 0 0,.slice none 0 0,.slice none 0 0,.slice none 0 0,.slice none 0 0] 56)=x at *
   clear hGy
  all_goals first | refine cla 2 (some 8) 180 #[.agg #[.slice na ds.length nc,.slice ia xs.length ic]] 5 (by kernel_rfl) ?_ | refine opc 2 (some 8) 180 #[.agg #[.slice na ds.length nc,.slice ia xs.length ic]] (by kernel_rfl) ?_
  all_goals
   refine (hc1 _ hW).mono ?_
   rintro e x ⟨v1,q1,rfl,e1,o1,n1,g1,hb⟩
   obtain ⟨a1,k1,rfl⟩:=o1.shape
   try have gne1:∀ k∈txnK.fp (.slice a1 q1.length k1) q1,k≠g:=fun k hk=>by have:=g1 k hk;have:=Bz.lt;omega
   try replace Bz:=Bz.below hb
   obtain ⟨m1,M1,lo1,hXm1,hmM1,hi1,hMc⟩:∃ m M,(∀ k∈txnK.fp (.slice a1 q1.length k1) q1,m≤k)∧X.heap.size≤m∧m≤M∧(∀ k∈txnK.fp (.slice a1 q1.length k1) q1,k < M)∧M≤x.heap.size:=⟨_,x.heap.size,g1,hW.size,hb.size,fun k hk=>o1.lt k hk,Nat.le_refl _⟩
   replace hW:=hW.trans (hb.mono hW.size)
   clear hb g1
   refine ⟨_,rfl,⟨⟨_,hW⟩,rfl⟩,?_⟩
   simp only [Act.put,pgE,pjE]
  rotate_right
  refine twa 6 15 5 (by kernel_rfl) ?_ ?_
  rotate_left
  focus
   refine op_one 15 _ rfl ?_
   have Bz:=Blk.new x 56 #[.slice none 0 0,.slice none 0 0,.slice none 0 0,.slice none 0 0,.slice none 0 0]
   have hzz:X.heap.size≤x.heap.size:=hW.size
   have hba:Below x.heap.size x (x.alloc (.cells #[.slice none 0 0,.slice none 0 0,.slice none 0 0,.slice none 0 0,.slice none 0 0] 56)):=by go_grown
   have gne1:∀ k∈txnK.fp (.slice a1 q1.length k1) q1,k≠x.heap.size:=fun k hk=>by have:=hi1 k hk;omega
   replace o1:=o1.below hba
   replace hMc:=Nat.le_trans hMc hba.size
   replace hW:=hW.trans (hba.mono hW.size)
   clear hba
   go_wp2
   refine ThenGo.to ⟨⟨⟨_,hW⟩,rfl⟩,?_⟩
   generalize hGy:x.heap.size=g at *
   generalize x.alloc (.cells #[.slice none 0 0,.slice none 0 0,.slice none 0 0,.slice none 0 0,.slice none 0 0] 56)=x at *
   clear hGy
  all_goals first | refine cla 6 (some 12) 146 #[.slice ia xs.length ic] 4 (by kernel_rfl) ?_ | refine opc 6 (some 12) 146 #[.slice ia xs.length ic] (by kernel_rfl) ?_
  all_goals
   refine (hc2 _ hW).mono ?_
   rintro e x ⟨b1,c1,rfl,o2,g2,hb⟩
   try have gne2:∀ k∈blk (.slice b1 xs.length c1),k≠g:=fun k hk=>by have:=g2 k hk;have:=Bz.lt;omega
   try replace Bz:=Bz.below hb
   obtain ⟨m2,M2,lo2,hXm2,hch2,hmM2,hi2,hMc⟩:∃ m M,(∀ k∈blk (.slice b1 xs.length c1),m≤k)∧X.heap.size≤m∧M1≤m∧m≤M∧(∀ k∈blk (.slice b1 xs.length c1),k < M)∧M≤x.heap.size:=⟨_,x.heap.size,g2,hW.size,hMc,hb.size,fun k hk=>own_blk o2.1 k hk,Nat.le_refl _⟩
   replace o1:=o1.below hb
   replace hW:=hW.trans (hb.mono hW.size)
   clear hb g2
   refine ⟨_,rfl,⟨⟨_,hW⟩,rfl⟩,?_⟩
   simp only [Act.put,pgE,pjE]
  rotate_right
  refine twa 9 15 4 (by kernel_rfl) ?_ ?_
  rotate_left
  focus
   refine op_one 15 _ rfl ?_
   have Bz:=Blk.new x 56 #[.slice none 0 0,.slice none 0 0,.slice none 0 0,.slice none 0 0,.slice none 0 0]
   have hzz:X.heap.size≤x.heap.size:=hW.size
   have hba:Below x.heap.size x (x.alloc (.cells #[.slice none 0 0,.slice none 0 0,.slice none 0 0,.slice none 0 0,.slice none 0 0] 56)):=by go_grown
   have gne1:∀ k∈txnK.fp (.slice a1 q1.length k1) q1,k≠x.heap.size:=fun k hk=>by have:=hi1 k hk;omega
   replace o1:=o1.below hba
   have gne2:∀ k∈blk (.slice b1 xs.length c1),k≠x.heap.size:=fun k hk=>by have:=hi2 k hk;omega
   replace o2:=o2.below hba
   replace hMc:=Nat.le_trans hMc hba.size
   replace hW:=hW.trans (hba.mono hW.size)
   clear hba
   go_wp2
   refine ThenGo.to ⟨⟨⟨_,hW⟩,rfl⟩,?_⟩
   generalize hGy:x.heap.size=g at *
   generalize x.alloc (.cells #[.slice none 0 0,.slice none 0 0,.slice none 0 0,.slice none 0 0,.slice none 0 0] 56)=x at *
   clear hGy
  all_goals first | refine cla 9 (some 15) 181 #[.agg #[.slice ua us.length uc,.slice ja ys.length jc]] 3 (by kernel_rfl) ?_ | refine opc 9 (some 15) 181 #[.agg #[.slice ua us.length uc,.slice ja ys.length jc]] (by kernel_rfl) ?_
  all_goals
   refine (hc3 _ hW).mono ?_
   rintro e x ⟨v3,q3,rfl,e3,o3,n3,g3,hb⟩
   obtain ⟨a3,k3,rfl⟩:=o3.shape
   try have gne3:∀ k∈txnK.fp (.slice a3 q3.length k3) q3,k≠g:=fun k hk=>by have:=g3 k hk;have:=Bz.lt;omega
   try replace Bz:=Bz.below hb
   obtain ⟨m3,M3,lo3,hXm3,hch3,hmM3,hi3,hMc⟩:∃ m M,(∀ k∈txnK.fp (.slice a3 q3.length k3) q3,m≤k)∧X.heap.size≤m∧M2≤m∧m≤M∧(∀ k∈txnK.fp (.slice a3 q3.length k3) q3,k < M)∧M≤x.heap.size:=⟨_,x.heap.size,g3,hW.size,hMc,hb.size,fun k hk=>o3.lt k hk,Nat.le_refl _⟩
   replace o1:=o1.below hb
   replace o2:=o2.below hb
   replace hW:=hW.trans (hb.mono hW.size)
   clear hb g3
   refine ⟨_,rfl,⟨⟨_,hW⟩,rfl⟩,?_⟩
   simp only [Act.put,pgE,pjE]
  rotate_right
  refine twa 13 15 3 (by kernel_rfl) ?_ ?_
  rotate_left
  focus
   refine op_one 15 _ rfl ?_
   have Bz:=Blk.new x 56 #[.slice none 0 0,.slice none 0 0,.slice none 0 0,.slice none 0 0,.slice none 0 0]
   have hzz:X.heap.size≤x.heap.size:=hW.size
   have hba:Below x.heap.size x (x.alloc (.cells #[.slice none 0 0,.slice none 0 0,.slice none 0 0,.slice none 0 0,.slice none 0 0] 56)):=by go_grown
   have gne1:∀ k∈txnK.fp (.slice a1 q1.length k1) q1,k≠x.heap.size:=fun k hk=>by have:=hi1 k hk;omega
   replace o1:=o1.below hba
   have gne2:∀ k∈blk (.slice b1 xs.length c1),k≠x.heap.size:=fun k hk=>by have:=hi2 k hk;omega
   replace o2:=o2.below hba
   have gne3:∀ k∈txnK.fp (.slice a3 q3.length k3) q3,k≠x.heap.size:=fun k hk=>by have:=hi3 k hk;omega
   replace o3:=o3.below hba
   replace hMc:=Nat.le_trans hMc hba.size
   replace hW:=hW.trans (hba.mono hW.size)
   clear hba
   go_wp2
   refine ThenGo.to ⟨⟨⟨_,hW⟩,rfl⟩,?_⟩
   generalize hGy:x.heap.size=g at *
   generalize x.alloc (.cells #[.slice none 0 0,.slice none 0 0,.slice none 0 0,.slice none 0 0,.slice none 0 0] 56)=x at *
   clear hGy
  all_goals first | refine cla 13 (some 19) 146 #[.slice ja ys.length jc] 2 (by kernel_rfl) ?_ | refine opc 13 (some 19) 146 #[.slice ja ys.length jc] (by kernel_rfl) ?_
  all_goals
   refine (hc4 _ hW).mono ?_
   rintro e x ⟨b2,c2,rfl,o4,g4,hb⟩
   try have gne4:∀ k∈blk (.slice b2 ys.length c2),k≠g:=fun k hk=>by have:=g4 k hk;have:=Bz.lt;omega
   try replace Bz:=Bz.below hb
   obtain ⟨m4,M4,lo4,hXm4,hch4,hmM4,hi4,hMc⟩:∃ m M,(∀ k∈blk (.slice b2 ys.length c2),m≤k)∧X.heap.size≤m∧M3≤m∧m≤M∧(∀ k∈blk (.slice b2 ys.length c2),k < M)∧M≤x.heap.size:=⟨_,x.heap.size,g4,hW.size,hMc,hb.size,fun k hk=>own_blk o4.1 k hk,Nat.le_refl _⟩
   replace o1:=o1.below hb
   replace o2:=o2.below hb
   replace o3:=o3.below hb
   replace hW:=hW.trans (hb.mono hW.size)
   clear hb g4
   refine ⟨_,rfl,⟨⟨_,hW⟩,rfl⟩,?_⟩
   simp only [Act.put,pgE,pjE]
  rotate_right
  focus
   refine sgr [(14,1)] 2 (by kernel_rfl) ⟨⟨_,hW⟩,rfl⟩ ?_
   simp only [pkE]
   repeat go_big_quiet_step (fail)
   refine wpQuiet_nil ?_
   refine ona 15 1 rfl (by kernel_rfl) ?_
   have Bz:=Blk.new x 56 #[.slice none 0 0,.slice none 0 0,.slice none 0 0,.slice none 0 0,.slice none 0 0]
   have hzz:X.heap.size≤x.heap.size:=hW.size
   have hba:Below x.heap.size x (x.alloc (.cells #[.slice none 0 0,.slice none 0 0,.slice none 0 0,.slice none 0 0,.slice none 0 0] 56)):=by go_grown
   have gne1:∀ k∈txnK.fp (.slice a1 q1.length k1) q1,k≠x.heap.size:=fun k hk=>by have:=hi1 k hk;omega
   replace o1:=o1.below hba
   have gne2:∀ k∈blk (.slice b1 xs.length c1),k≠x.heap.size:=fun k hk=>by have:=hi2 k hk;omega
   replace o2:=o2.below hba
   have gne3:∀ k∈txnK.fp (.slice a3 q3.length k3) q3,k≠x.heap.size:=fun k hk=>by have:=hi3 k hk;omega
   replace o3:=o3.below hba
   have gne4:∀ k∈blk (.slice b2 ys.length c2),k≠x.heap.size:=fun k hk=>by have:=hi4 k hk;omega
   replace o4:=o4.below hba
   replace hMc:=Nat.le_trans hMc hba.size
   replace hW:=hW.trans (hba.mono hW.size)
   clear hba
   go_wp2
   refine ThenGo.to ⟨⟨⟨_,hW⟩,rfl⟩,?_⟩
   generalize hGy:x.heap.size=g at *
   generalize x.alloc (.cells #[.slice none 0 0,.slice none 0 0,.slice none 0 0,.slice none 0 0,.slice none 0 0] 56)=x at *
   clear hGy
  iterate 4
   rotate_left
   focus
    refine sgr [(14,1)] 1 (by kernel_rfl) ⟨⟨_,hW⟩,rfl⟩ ?_
    simp only [pkE]
    repeat go_big_quiet_step (fail)
    refine wpQuiet_nil ?_
  all_goals
   refine ona 16 0 rfl (by kernel_rfl) ?_
   have hgW:X.heap.size≤g:=by omega
   have Rz:=Bz.row #[.slice a1 q1.length k1,.slice b1 xs.length c1,.slice a3 q3.length k3,.slice none 0 0,.slice b2 ys.length c2]
   have z1:=o1.out (out_row _ g #[.slice a1 q1.length k1,.slice b1 xs.length c1,.slice a3 q3.length k3,.slice none 0 0,.slice b2 ys.length c2]) (fun k hk=>by simp only [List.mem_singleton];exact gne1 k hk)
   have z2:=o2.out (out_row _ g #[.slice a1 q1.length k1,.slice b1 xs.length c1,.slice a3 q3.length k3,.slice none 0 0,.slice b2 ys.length c2]) (fun k hk=>by rw [itemK_fp] at hk;simp only [List.mem_singleton];exact gne2 k hk)
   have z3:=o3.out (out_row _ g #[.slice a1 q1.length k1,.slice b1 xs.length c1,.slice a3 q3.length k3,.slice none 0 0,.slice b2 ys.length c2]) (fun k hk=>by simp only [List.mem_singleton];exact gne3 k hk)
   have z4:=o4.out (out_row _ g #[.slice a1 q1.length k1,.slice b1 xs.length c1,.slice a3 q3.length k3,.slice none 0 0,.slice b2 ys.length c2]) (fun k hk=>by rw [itemK_fp] at hk;simp only [List.mem_singleton];exact gne4 k hk)
   replace hW:=below_row hW hgW #[.slice a1 q1.length k1,.slice b1 xs.length c1,.slice a3 q3.length k3,.slice none 0 0,.slice b2 ys.length c2]
   have hi1' : ∀ k∈txnK.fp (.slice a1 q1.length k1) q1,k < m2:=fun k hk=>by have:=hi1 k hk;omega
   have hi2' : ∀ k∈blk (.slice b1 xs.length c1),k < m3:=fun k hk=>by have:=hi2 k hk;omega
   have hi3' : ∀ k∈txnK.fp (.slice a3 q3.length k3) q3,k < m4:=fun k hk=>by have:=hi3 k hk;omega
   have FO:Four X _ g (.slice a1 q1.length k1) (.slice b1 xs.length c1) (.slice a3 q3.length k3) (.slice b2 ys.length c2) q1 q3 xs ys:=⟨z1,z2,z3,z4,List.nodup_append.2 ⟨n1,List.nodup_append.2 ⟨blk_nodup _,List.nodup_append.2 ⟨n3,blk_nodup _,apart9 (m:=m4) hi3' lo4⟩,apart9 (m:=m3) hi2' (fun k hk=>by rcases List.mem_append.1 hk with hk | hk <;> first | (have:=lo3 k hk;omega) | (have:=lo4 k hk;omega))⟩,apart9 (m:=m2) hi1' (fun k hk=>by rcases List.mem_append.1 hk with hk | hk <;> first | (have:=lo2 k hk;omega) | (rcases List.mem_append.1 hk with hk | hk <;> first | (have:=lo3 k hk;omega) | (have:=lo4 k hk;omega)))⟩,fun k hk=>by
    rcases List.mem_append.1 hk with hk | hk
    ·exact ⟨by have:=lo1 k hk;omega,gne1 k hk⟩
    rcases List.mem_append.1 hk with hk | hk
    ·exact ⟨by have:=lo2 k hk;omega,gne2 k hk⟩
    rcases List.mem_append.1 hk with hk | hk
    ·exact ⟨by have:=lo3 k hk;omega,gne3 k hk⟩
    ·exact ⟨by have:=lo4 k hk;omega,gne4 k hk⟩⟩
   refine st_row (by kernel_rfl) 56 _ _ rfl _ #[.slice a1 q1.length k1,.slice b1 xs.length c1,.slice a3 q3.length k3,.slice none 0 0,.slice b2 ys.length c2] rfl rfl 56 _ Bz sz_rep rfl (by simp [Value.oneCell']) ?_
   refine ThenGo.to ⟨⟨⟨_,hW⟩,rfl⟩,?_⟩
   refine text_end (by kernel_rfl) ?_
   refine ⟨rfl,_,⟨a1,k1,b1,c1,a3,k3,b2,c2,g,q1,q3,rfl,hgW,Rz,e1,e3,FO,hW⟩,?_⟩
   simp only [putAll,Act.put,pgE,pjE]
   try rfl
 rintro vs w5 ⟨a1,k1,b1,c1,a3,k3,b2,c2,g,q1,q3,rfl,hgX,Bg,e1,e3,FO,hX5⟩
 simp only [putAll,Act.put,pjE]
 clear f0 f1 f2 f3 hc1 hc2 hc3 hc4 dN jN jU nI nJ
 have hgl:=Bg.lt
 have hBr:=(B.below hX5)
 have x2:=hBr.cell 2 _ rfl
 have hli:(us.length:Int)≤40:=by omega
 obtain ⟨hn1,hn2⟩:=Kind.own_nil (K:=ussK) w5
 have HN0:Hid ((ussK.fp (.slice none 0 0) ([]:List USQ)).Nodup∧∀ k∈ussK.fp (.slice none 0 0) ([]:List USQ),w5.heap.size≤k):=by
  rw [hn2]
  exact ⟨by simp,by simp⟩
 clear hn2
 go_wp2
 clear x2 hBr
 go_loopw [25] (fun j wr=>∃ (k:Nat) (vu:Value) (qs:List USQ),k≤us.length∧j=.int .i64 k∧Blk wr g 56 #[.slice a1 q1.length k1,.slice b1 xs.length c1,.slice a3 q3.length k3,vu,.slice b2 ys.length c2]∧ussK.Own wr vu qs∧Hid (qs.map USQ.e=(us.take k).map DeedQ.us)∧Hid ((ussK.fp vu qs).Nodup∧∀ x∈ussK.fp vu qs,w5.heap.size≤x)∧Out [g] w5 wr) (fun j _=>us.length - (intOf j).toNat)
 case atStart=>exact ⟨0,_,[],Nat.zero_le _,rfl,Bg,hn1,(rfl:_=_),HN0,Out.refl _ _⟩
 case round=>
  clear HN0 hn1 Bg
  obtain ⟨k,vu,qs,hk,rfl,Bg,hO,HE,HN,hU⟩:=hrel
  obtain ⟨sa,sc,rfl⟩:=hO.shape
  have hXw:Below X.heap.size X wr:=Out.keep hX5 hU hX5.size (fun x hx=>by simp only [List.mem_singleton] at hx;omega)
  have hs5:=hU.size
  have HQL:Hid (qs.length=k):=by
   have:=congrArg List.length HE.out
   rw [List.length_map,List.length_map,List.length_take] at this
   show qs.length=k
   omega
  by_cases hlt:k < us.length
  ·obtain ⟨b,off,rfl,hbs,hcm,hrd⟩:=(dU.below hXw).cell (by show 0 < 7;decide) k hlt
   have hc' : ∀ j x,((deedUK w0).cells us[k])[j]? = some x→wr.cell? ⟨b,off + k * 7 + j,none⟩=some x:=hcm
   have c0:=hc' 0 (.int .i64 us[k].i) rfl
   have c1' := hc' 1 (.int .i64 us[k].s) rfl
   have c2' := hc' 2 (.int .i64 us[k].q) rfl
   have c3:=hc' 3 (us[k].va) rfl
   have c4:=hc' 4 (.int .i64 us[k].code) rfl
   have c5:=hc' 5 (.int .i64 us[k].val) rfl
   have c6:=hc' 6 (us[k].lv) rfl
   rw [Nat.add_zero] at c0
   have hul:=hu4 _ (List.getElem_mem hlt)
   have hun:=dUn _ (List.getElem_mem hlt)
   have HPE:Hid (∀ p' : USQ,p'.us=DeedQ.us us[k]→(qs ++ [p']).map USQ.e=(us.take (k + 1)).map DeedQ.us):=fun p' hp' => by
    rw [List.take_succ_eq_append_getElem hlt,List.map_append,List.map_append,HE.out,List.map_singleton,List.map_singleton]
    show _ ++ [p'.us]=_
    rw [hp']
   have hlti:(k:Int) < (us.length:Int):=by omega
   clear hcm hc' HE
   generalize us[k]=p at *
   obtain ⟨i,s,q,va,acts,code,val,lv,lus⟩:=p
   obtain ⟨hra,hrl⟩:actK.At w0 va acts∧undoK.At wr lv lus:=hrd
   obtain ⟨ta,tc,rfl⟩:=hra.shape
   obtain ⟨la,lc,rfl⟩:=hrl.shape
   have hnl:=hun _ _ _ rfl
   dsimp only at c0 c1' c2' c3 c4 c5 c6 HPE hul
   have hbY:Below wr.heap.size wr (wr.alloc (.cells #[.int .i64 i,.int .i64 s,.int .i64 q,.slice ta acts.length tc,.int .i64 code,.int .i64 val,.slice la lus.length lc] 258)):=by go_grown
   have BY:=Blk.new wr 258 #[.int .i64 i,.int .i64 s,.int .i64 q,.slice ta acts.length tc,.int .i64 code,.int .i64 val,.slice la lus.length lc]
   replace Bg:=Bg.below hbY
   replace hrl:=hrl.below hbY
   have HLX:=hO.lt
   replace hO:=hO.below hbY
   have hU1:=hU.trans (Out.of_below (F:=[g]) hbY)
   have hsY:=hbY.size
   have hgy:g < wr.heap.size:=by omega
   go_wp2_with fail
   clear c0 c1' c2' c3 c4 c5 c6 hbY
   generalize wr.alloc (.cells #[.int .i64 i,.int .i64 s,.int .i64 q,.slice ta acts.length tc,.int .i64 code,.int .i64 val,.slice la lus.length lc] 258)=Y at *
   generalize hdb:wr.heap.size=db at *
   have hPY:Blk Y g 56 #[.slice a1 q1.length k1,.slice b1 xs.length c1,.slice a3 q3.length k3,.slice sa qs.length sc,.slice b2 ys.length c2]∧Blk Y db 258 #[.int .i64 i,.int .i64 s,.int .i64 q,.slice ta acts.length tc,.int .i64 code,.int .i64 val,.slice la lus.length lc]:=⟨Bg,BY⟩
   generalize hP:(fun u:World=>Blk u g 56 #[.slice a1 q1.length k1,.slice b1 xs.length c1,.slice a3 q3.length k3,.slice sa qs.length sc,.slice b2 ys.length c2]∧Blk u db 258 #[.int .i64 i,.int .i64 s,.int .i64 q,.slice ta acts.length tc,.int .i64 code,.int .i64 val,.slice la lus.length lc])=PP
   have hP0:PP Y:=by subst hP;exact hPY
   have cc0:∀ u:KeepP PP,u.val.cell? ⟨g,3,none⟩=some (.slice sa qs.length sc):=fun u=>by have:=u.isP;subst hP;exact this.1.cell 3 _ rfl
   have cc1:∀ u:KeepP PP,u.val.cell? ⟨db,6,none⟩=some (.slice la lus.length lc):=fun u=>by have:=u.isP;subst hP;exact this.2.cell 6 _ rfl
   have hne:Nonempty (KeepP PP):=⟨⟨Y,hP0⟩⟩
   refine beginX (S:=fun w' => ∃ u:KeepP PP,w' = u.val) (R:=fun _ _=>False) 8 (by kernel_rfl) (fun _ _ _ _ h=>h.elim) ?_
   have hPd:PP Y.drew:=by subst hP;exact hPY
   refine sgX [(0,4)] 5 (by kernel_rfl) ⟨⟨Y.drew,hPd⟩,rfl⟩ ?_
   simp only [pkE]
   repeat go_big_quiet_step (fail)
   refine wpQuiet_nil ?_
   clear cc0 cc1 hne hP0
   have hW:Below Y.heap.size Y Y.drew:=(Below.refl _ _).drew
   refine clX 4 (some 33) 147 #[.slice la lus.length lc] 4 (by kernel_rfl) rfl ?_
   refine (clone9Undo_any la lc lus _ (hrl.below hW) hnl hul).mono ?_
   rintro e w7 ⟨a7,c7,rfl,o7,l7,hb7⟩
   have hD:=hW.size
   replace hW:=hW.trans (hb7.mono hW.size)
   replace Bg:=Bg.below hW
   replace BY:=BY.below hW
   have HLT:=hO.lt
   replace hO:=hO.below hW
   have hU7:=hU1.trans (Out.of_below (F:=[g]) hW)
   have hs7:=hW.size
   clear hb7 hPY hPd
   refine Or.inl ⟨_,rfl,⟨⟨_,by subst hP;exact ⟨Bg,BY⟩⟩,rfl⟩,?_⟩
   simp only [Act.put,pgE,pjE]
   refine onX 5 3 rfl (by kernel_rfl) ?_
   have hbA:Below w7.heap.size w7 (w7.alloc (.cells #[.slice a7 lus.length c7] 175)):=by go_grown
   have hsrc:∀ j u,[Value.slice a7 lus.length c7][j]? = some u→(w7.alloc (.cells #[.slice a7 lus.length c7] 175)).cell? ((⟨w7.heap.size,0,none⟩:Addr).add j)=some u:=by
    intro j u hj;match j,hj with | 0,hj=>simp at hj;subst hj;simp [Addr.add]
   go_wp2
   replace Bg:=Bg.below hbA
   replace BY:=BY.below hbA
   have hOA:=hO.below hbA
   have hPA:ussK.own (w7.alloc (.cells #[.slice a7 lus.length c7] 175)) (⟨.slice a7 lus.length c7,lus⟩:USQ):=o7.below hbA
   have hUA:=hU7.trans (Out.of_below (F:=[g]) hbA)
   have hsA:=hbA.size
   refine ThenX.to ⟨Or.inr ⟨⟨_,by subst hP;exact ⟨Bg,BY⟩⟩,rfl⟩,?_⟩
   generalize w7.alloc (.cells #[.slice a7 lus.length c7] 175)=WA at *
   have hrow0:=hOA.1
   obtain ⟨i0,hi,hz0,hz1,hz2⟩:=info_parts infoUndos9
   refine onX 6 2 rfl (by kernel_rfl) ?_
   refine wpList_append_own_at _ rfl _ _ 54 rfl 0 175 i0 (.slice none 0 0) 1 24 Tryz.underlying54 hi hz0 hz1 hz2 rfl (by decide) _ qs.length (ussK.row qs) rfl hrow0 ⟨w7.heap.size,0,none⟩ 1 1 [.slice a7 lus.length c7] rfl rfl hsrc ?c2 ?c3 ?c4 ?c5 ?_
   case c2=>intro u hu;simp at hu;subst hu;rfl
   case c3=>have:=HQL.out;unfold maxLen;omega
   case c4=>have:=HQL.out;omega
   case c5=>omega
   intro v' wc hown hgrow _ hat
   have hfoot:∀ x∈ussK.foot (⟨.slice a7 lus.length c7,lus⟩:USQ),Y.heap.size≤x:=fun x hx=>by
    have hx' : x∈undoK.fp (.slice a7 lus.length c7) lus:=hx
    rw [undoK_fp] at hx'
    have:=l7 x hx'
    omega
   obtain ⟨hO5,hn5,hlo5,hou⟩:=hOA.snoc HN.out.1 HN.out.2 hPA (by show (undoK.fp _ _).Nodup;rw [undoK_fp];exact blk_nodup _) (fun x hx hx' => by have:=HLT x hx';have:=hfoot x hx;omega) (fun x hx=>by have:=hfoot x hx;omega) (by omega) hown hgrow hat
   obtain ⟨a9,c9,rfl⟩:=hO5.shape
   have hle:(qs ++ [(⟨.slice a7 lus.length c7,lus⟩:USQ)]).length=qs.length + 1:=by simp
   rw [hle] at hO5 hn5 hlo5
   have hnb:∀ x∈blk (.slice sa qs.length sc),w5.heap.size≤x:=fun x hx=>HN.out.2 x (by simp only [Kind.fp,List.mem_append];exact Or.inl hx)
   have hgn:g ∉ blk (.slice sa qs.length sc):=fun hx=>by have:=hnb g hx;omega
   have hdn:db ∉ blk (.slice sa qs.length sc):=fun hx=>by have:=HLX db (by simp only [Kind.fp,List.mem_append];exact Or.inl hx);omega
   replace Bg:=Bg.outs8 hou hgn
   replace BY:=BY.outs8 hou hdn
   have hUc:Out [g] w5 wc:=⟨hou.os.trans hUA.os,hou.tape.trans hUA.tape,hou.output.trans hUA.output,Nat.le_trans hUA.size hou.size,fun x hx hn=>(hou.block x (by omega) (fun e=>by have:=hnb x e;omega)).trans (hUA.block x hx hn)⟩
   go_wp2
   refine ThenX.to ⟨Or.inr ⟨⟨_,by subst hP;exact ⟨Bg,BY⟩⟩,rfl⟩,?_⟩
   clear hown hgrow hat hrow0 hsrc hOA hPA hbA
   refine onX 7 1 rfl (by kernel_rfl) ?_
   go_wp2
   refine ThenX.to ⟨Or.inr ⟨⟨_,by subst hP;exact ⟨Bg,BY⟩⟩,rfl⟩,?_⟩
   refine onX 8 0 rfl (by kernel_rfl) ?_
   have k1' := Bg.cell 3 _ rfl
   have k2' := Bg.frozen 3
   go_wp2
   clear k1' k2'
   refine ThenX.to ⟨Or.inl (by kernel_rfl),?_⟩
   refine endX (by kernel_rfl) ?_
   have B9:Blk (wc.setCell ⟨g,3,none⟩ (.slice a9 (qs.length + 1) c9)) g 56 #[.slice a1 q1.length k1,.slice b1 xs.length c1,.slice a3 q3.length k3,.slice a9 (qs.length + 1) c9,.slice b2 ys.length c2]:=by
    have:=Bg.set 3 (.slice a9 (qs.length + 1) c9)
    simpa using this
   have O9:=hO5.out (Out.setCell wc g 3 (.slice a9 (qs.length + 1) c9)) (fun x hx e=>by simp only [List.mem_singleton] at e;have:=hlo5 x hx;omega)
   have U9:=hUc.trans (Out.setCell wc g 3 (.slice a9 (qs.length + 1) c9))
   have HE9:Hid ((qs ++ [(⟨.slice a7 lus.length c7,lus⟩:USQ)]).map USQ.e=(us.take (k + 1)).map DeedQ.us):=HPE.out _ rfl
   have HN9:Hid ((ussK.fp (.slice a9 (qs.length + 1) c9) (qs ++ [(⟨.slice a7 lus.length c7,lus⟩:USQ)])).Nodup∧∀ x∈ussK.fp (.slice a9 (qs.length + 1) c9) (qs ++ [(⟨.slice a7 lus.length c7,lus⟩:USQ)]),w5.heap.size≤x):=⟨hn5,hlo5⟩
   have HR:Hid (_∧_∧_):=⟨B9,O9,U9⟩
   clear B9 O9 U9 Bg BY hO5 hO hUc hUA hU7 hU1 hU HPE HN hn5 hlo5 hou HLT hnb hrl hra o7 l7
   go_wp2
   go_roundw
   case rel=>exact ⟨k + 1,_,_,by omega,by go_num,HR.out.1,HR.out.2.1,HE9,HN9,HR.out.2.2⟩
   case measure=>simp [intOf];omega
  ·have hkl:k=us.length:=by omega
   subst hkl
   have hE:=HE.out
   rw [List.take_length] at hE
   have hlti:¬ ((us.length:Int) < (us.length:Int)):=by omega
   have Bv5:=(Bv.below hX5).outs8 hU (fun hx=>by simp only [List.mem_singleton] at hx;omega)
   have hnd:=HN.out.1
   have hlo:=HN.out.2
   have RF:Hid (∀ u0 u1 u2 u3 u4:Value,repK.own (((((wr.setCell ⟨rc + 1,0,none⟩ u0).setCell ⟨rc + 1,1,none⟩ u1).setCell ⟨rc + 1,2,none⟩ u2).setCell ⟨rc + 1,3,none⟩ u3).setCell ⟨rc + 1,4,none⟩ u4) (⟨.slice a1 q1.length k1,q1,.slice b1 xs.length c1,xs,.slice a3 q3.length k3,q3,.slice sa qs.length sc,qs,.slice b2 ys.length c2,ys⟩:RepQ)∧Below rc w (((((wr.setCell ⟨rc + 1,0,none⟩ u0).setCell ⟨rc + 1,1,none⟩ u1).setCell ⟨rc + 1,2,none⟩ u2).setCell ⟨rc + 1,3,none⟩ u3).setCell ⟨rc + 1,4,none⟩ u4)):=fun u0 u1 u2 u3 u4=>by
    have hS:Out [rc + 1] wr (((((wr.setCell ⟨rc + 1,0,none⟩ u0).setCell ⟨rc + 1,1,none⟩ u1).setCell ⟨rc + 1,2,none⟩ u2).setCell ⟨rc + 1,3,none⟩ u3).setCell ⟨rc + 1,4,none⟩ u4):=((((Out.setCell wr (rc + 1) 0 u0).trans (Out.setCell _ (rc + 1) 1 u1)).trans (Out.setCell _ (rc + 1) 2 u2)).trans (Out.setCell _ (rc + 1) 3 u3)).trans (Out.setCell _ (rc + 1) 4 u4)
    have hA:Out [g,rc + 1] w5 (((((wr.setCell ⟨rc + 1,0,none⟩ u0).setCell ⟨rc + 1,1,none⟩ u1).setCell ⟨rc + 1,2,none⟩ u2).setCell ⟨rc + 1,3,none⟩ u3).setCell ⟨rc + 1,4,none⟩ u4):=(hU.mono (fun x hx=>by simp only [List.mem_singleton] at hx;simp [hx])).trans (hS.mono (fun x hx=>by simp only [List.mem_singleton] at hx;simp [hx]))
    have nn:∀ x,X.heap.size≤x∧x≠g→x ∉ [g,rc + 1]:=fun x hx hm=>by
     simp only [List.mem_cons,List.not_mem_nil,or_false] at hm
     omega
    refine ⟨⟨FO.od.out hA (fun x hx=>nn x (FO.lo x (List.mem_append_left _ hx))),FO.ob.out hA (fun x hx=>by rw [itemK_fp] at hx;exact nn x (FO.lo x (List.mem_append_right _ (List.mem_append_left _ hx)))),FO.ot.out hA (fun x hx=>nn x (FO.lo x (List.mem_append_right _ (List.mem_append_right _ (List.mem_append_left _ hx))))),hO.out hS (fun x hx e=>by simp only [List.mem_singleton] at e;have:=hlo x hx;have:=hX5.size;omega),FO.on.out hA (fun x hx=>by rw [itemK_fp] at hx;exact nn x (FO.lo x (List.mem_append_right _ (List.mem_append_right _ (List.mem_append_right _ hx)))))⟩,?_⟩
    have h1:=hb0.trans (hXw.mono (by omega))
    exact Out.keep h1 hS (by omega) (fun x hx=>by simp only [List.mem_singleton] at hx;omega)
   have R1:Hid ((repK.foot (⟨.slice a1 q1.length k1,q1,.slice b1 xs.length c1,xs,.slice a3 q3.length k3,q3,.slice sa qs.length sc,qs,.slice b2 ys.length c2,ys⟩:RepQ)).Nodup∧∀ x∈repK.foot (⟨.slice a1 q1.length k1,q1,.slice b1 xs.length c1,xs,.slice a3 q3.length k3,q3,.slice sa qs.length sc,qs,.slice b2 ys.length c2,ys⟩:RepQ),rc≤x):=by
    have hA:=List.nodup_append.1 FO.nd
    have hB:=List.nodup_append.1 hA.2.1
    have hC:=List.nodup_append.1 hB.2.1
    have lA:=FO.od.lt
    have lB:∀ x∈blk (.slice b1 xs.length c1),x < w5.heap.size:=own_blk FO.ob.1
    have lC:=FO.ot.lt
    have lD:∀ x∈blk (.slice b2 ys.length c2),x < w5.heap.size:=own_blk FO.on.1
    have e1:itemK.fp (.slice b1 xs.length c1) xs=blk (.slice b1 xs.length c1):=itemK_fp _ _
    have e2:itemK.fp (.slice b2 ys.length c2) ys=blk (.slice b2 ys.length c2):=itemK_fp _ _
    show List.Nodup (txnK.fp (.slice a1 q1.length k1) q1 ++ (itemK.fp (.slice b1 xs.length c1) xs ++ (txnK.fp (.slice a3 q3.length k3) q3 ++ (ussK.fp (.slice sa qs.length sc) qs ++ itemK.fp (.slice b2 ys.length c2) ys))))∧∀ x∈txnK.fp (.slice a1 q1.length k1) q1 ++ (itemK.fp (.slice b1 xs.length c1) xs ++ (txnK.fp (.slice a3 q3.length k3) q3 ++ (ussK.fp (.slice sa qs.length sc) qs ++ itemK.fp (.slice b2 ys.length c2) ys))),rc≤x
    rw [e1,e2]
    refine ⟨List.nodup_append.2 ⟨hA.1,List.nodup_append.2 ⟨hB.1,List.nodup_append.2 ⟨hC.1,List.nodup_append.2 ⟨hnd,hC.2.1,?_⟩,?_⟩,?_⟩,?_⟩,?_⟩
    ·intro a ha b hb e
     have:=hlo a ha
     have:=lD b hb
     omega
    ·intro a ha b hb e
     rcases List.mem_append.1 hb with hb | hb
     ·have:=hlo b hb
      have:=lC a ha
      omega
     ·exact hC.2.2 a ha b hb e
    ·intro a ha b hb e
     rcases List.mem_append.1 hb with hb | hb
     ·exact hB.2.2 a ha b (List.mem_append_left _ hb) e
     rcases List.mem_append.1 hb with hb | hb
     ·have:=hlo b hb
      have:=lB a ha
      omega
     ·exact hB.2.2 a ha b (List.mem_append_right _ hb) e
    ·intro a ha b hb e
     rcases List.mem_append.1 hb with hb | hb
     ·exact hA.2.2 a ha b (List.mem_append_left _ hb) e
     rcases List.mem_append.1 hb with hb | hb
     ·exact hA.2.2 a ha b (List.mem_append_right _ (List.mem_append_left _ hb)) e
     rcases List.mem_append.1 hb with hb | hb
     ·have:=hlo b hb
      have:=lA a ha
      omega
     ·exact hA.2.2 a ha b (List.mem_append_right _ (List.mem_append_right _ hb)) e
    ·intro x hx
     have hXs:=hX5.size
     rcases List.mem_append.1 hx with hx | hx
     ·have:=(FO.lo x (List.mem_append_left _ hx)).1;omega
     rcases List.mem_append.1 hx with hx | hx
     ·have:=(FO.lo x (List.mem_append_right _ (List.mem_append_left _ hx))).1;omega
     rcases List.mem_append.1 hx with hx | hx
     ·have:=(FO.lo x (List.mem_append_right _ (List.mem_append_right _ (List.mem_append_left _ hx)))).1;omega
     rcases List.mem_append.1 hx with hx | hx
     ·have:=hlo x hx;omega
     ·have:=(FO.lo x (List.mem_append_right _ (List.mem_append_right _ (List.mem_append_right _ hx)))).1;omega
   have R2:Hid (RepQ.e (⟨.slice a1 q1.length k1,q1,.slice b1 xs.length c1,xs,.slice a3 q3.length k3,q3,.slice sa qs.length sc,qs,.slice b2 ys.length c2,ys⟩:RepQ)=mkR D E):=show _=_ by
    rw [HMK.out]
    obtain ⟨h1,h2,h3⟩:=HU.out
    simp only [RepQ.e,e1,e3,h2,h3,hE,h1]
   clear HN HE hnd hlo HU HMK FO dU
   obtain ⟨r0,r1,r2,r3,r4⟩:=Bg.cel5
   obtain ⟨z0,z1,z2,z3,z4⟩:=Bv5.cel5
   obtain ⟨g0,g1,g2,g3,g4⟩:=Bv5.frz5
   clear Bg Bv5 hO hU
   go_wp2
   exact bodyPost_ret (v:=.agg #[.slice a1 q1.length k1,.slice b1 xs.length c1,.slice a3 q3.length k3,.slice sa qs.length sc,.slice b2 ys.length c2]) (by simp [results,Tryz.results134,go_sem,z0,z1,z2,z3,z4]) rfl ⟨(⟨.slice a1 q1.length k1,q1,.slice b1 xs.length c1,xs,.slice a3 q3.length k3,q3,.slice sa qs.length sc,qs,.slice b2 ys.length c2,ys⟩:RepQ),rfl,R2.out,(RF.out _ _ _ _ _).1,R1.out.1,R1.out.2,(RF.out _ _ _ _ _).2⟩

end Go.Proofs.YtjjoahhnkpjolaaGreatDoor
namespace Go.Proofs.YtjjoahhnkpjolaaGreatDoor
open Go.RowKit
set_option maxRecDepth 100000
theorem stp_zero {acc:List TxnD} {t:TxnD} (h:stpF acc t=0):t.F=0∧knw acc t=false:=by
 unfold stpF at h
 by_cases h0:t.F=0
 ·rw [if_pos h0] at h
  refine ⟨h0,?_⟩
  cases hk:knw acc t with
  | false=>rfl
  | true=>rw [hk] at h;exact absurd h (by decide)
 ·rw [if_neg h0] at h
  exact absurd h h0

theorem knw_false {acc:List TxnD} {t:TxnD}:knw acc t=false↔∀ a∈acc,stF a t=false:=by
 unfold knw
 rw [List.any_eq_false]
 simp

theorem lstGo_iff:∀ (r acc:List TxnD),lstGo acc r=0↔(∀ t∈r,t.F=0)∧r.Pairwise (fun a b=>stF a b=false)∧∀ a∈acc,∀ t∈r,stF a t=false
 | [],acc=>by simp [lstGo]
 | x :: r,acc=>by
  rw [lstGo]
  constructor
  ·intro h
   by_cases h0:stpF acc x=0
   ·rw [if_pos h0] at h
    obtain ⟨h1,h2⟩:=stp_zero h0
    obtain ⟨i1,i2,i3⟩:=(lstGo_iff r (acc ++ [x])).1 h
    refine ⟨fun t ht=>?_,List.pairwise_cons.2 ⟨fun t ht=>i3 x (by simp) t ht,i2⟩,fun a ha t ht=>?_⟩
    ·rcases List.mem_cons.1 ht with rfl | ht
     ·exact h1
     ·exact i1 t ht
    ·rcases List.mem_cons.1 ht with rfl | ht
     ·exact knw_false.1 h2 a ha
     ·exact i3 a (by simp [ha]) t ht
   ·rw [if_neg h0] at h
    exact absurd h h0
  ·rintro ⟨h1,h2,h3⟩
   have hx:stpF acc x=0:=by
    unfold stpF
    rw [if_pos (h1 x (by simp)),knw_false.2 (fun a ha=>h3 a ha x (by simp))]
    rfl
   rw [if_pos hx]
   obtain ⟨p1,p2⟩:=List.pairwise_cons.1 h2
   refine (lstGo_iff r (acc ++ [x])).2 ⟨fun t ht=>h1 t (List.mem_cons_of_mem _ ht),p2,fun a ha t ht=>?_⟩
   rcases List.mem_append.1 ha with ha | ha
   ·exact h3 a ha t (List.mem_cons_of_mem _ ht)
   ·rw [List.mem_singleton.1 ha]
    exact p1 t ht

theorem lst_iff (ds:List TxnD):lstF ds=0↔ds.length≤40∧(∀ t∈ds,t.F=0)∧ds.Pairwise (fun a b=>stF a b=false):=by
 unfold lstF
 by_cases h:40 < ds.length
 ·rw [if_pos h]
  constructor
  ·intro h;exact absurd h (by decide)
  ·intro h1;omega
 ·rw [if_neg h,lstGo_iff]
  constructor
  ·rintro ⟨h1,h2,_⟩;exact ⟨by omega,h1,h2⟩
  ·rintro ⟨_,h1,h2⟩;exact ⟨h1,h2,fun a ha=>by simp at ha⟩

theorem few_n {qs:List TxnQ} (h:∀ t∈qs.map TxnQ.e,t.F=0):nmL TxnQ.n qs≤4 * qs.length:=by
 induction qs with
 | nil=>simp [nmL]
 | cons q r ih=>
  have h1:(TxnQ.e q).F=0:=h _ (by simp)
  have h2:=(txnF_zero h1).2.2.2.1.2
  have h3:q.acts.length≤4:=h2
  have:=ih (fun t ht=>h t (by simp only [List.map_cons,List.mem_cons];exact Or.inr ht))
  simp only [nmL,List.map_cons,List.sum_cons,List.length_cons,TxnQ.n] at this ⊢
  omega

/-- The fault of a replica. -/
def repF (r:RepE):Int:=if 16 < r.done.length∨8 < r.tent.length then 2 else if lstF (r.done ++ r.tent)=0 then (if sameRep (mkR r.done r.tent) r=true then 0 else 8) else lstF (r.done ++ r.tent)

theorem rep_many {r:RepE} (h:16 < r.done.length∨8 < r.tent.length):repF r=2:=by unfold repF;rw [if_pos h]

theorem rep_list {r:RepE} (h:¬ (16 < r.done.length∨8 < r.tent.length)) (h2:lstF (r.done ++ r.tent)≠0):repF r=lstF (r.done ++ r.tent):=by unfold repF;rw [if_neg h,if_neg h2]

theorem rep_same {r:RepE} (h:¬ (16 < r.done.length∨8 < r.tent.length)) (h2:lstF (r.done ++ r.tent)=0):repF r=if sameRep (mkR r.done r.tent) r=true then 0 else 8:=by unfold repF;rw [if_neg h,if_pos h2]

theorem lst_F {ds:List TxnD} (h:lstF ds=0):∀ t∈ds,t.F=0:=((lst_iff ds).1 h).2.1

theorem und_four {xs:List ItemD} {E:List TxnD} (hl:xs.length≤8) (g:Good xs) (hF:∀ t∈E,t.F=0):∀ u∈undL xs E,u.length≤4:=by
 induction E generalizing xs with
 | nil=>intro u hu;simp [undL,deedsE] at hu
 | cons t r ih=>
  intro u hu
  have ht:=hF t (by simp)
  simp only [undL,deedsE,List.map_cons,List.mem_cons] at hu
  rcases hu with rfl | hu
  ·have hz:=acts_of_F (show txnF t.id t.session t.seq t.acts=0 from ht)
   unfold runU
   split
   ·have:=(unR_parts hl g hz.2 (by assumption)).1
    omega
   ·simp
  ·have g2:=nextI_good hl g ht
   exact ih g2.1 g2.2 (fun t' h' => hF t' (List.mem_cons_of_mem _ h')) u hu

/-- What the model of a replica holds is small. -/
theorem mk_small {p:RepQ} {D E:List TxnD} (h:p.e=mkR D E) (hD:∀ t∈D,t.F=0) (hE:∀ t∈E,t.F=0) (lD:D.length≤40) (lE:E.length≤40):p.n≤1000:=by
 simp only [RepQ.e,mkR,RepE.mk.injEq] at h
 obtain ⟨h0,h1,h2,h3,h4⟩:=h
 have g0:=allI_good (xs:=[]) (by simp) nil_good hD
 have g1:=allI_good g0.1 g0.2 hE
 have n0:=few_n (qs:=p.done) (by rw [h0];exact hD)
 have n2:=few_n (qs:=p.tent) (by rw [h2];exact hE)
 have l0:p.done.length=D.length:=by simpa using congrArg List.length h0
 have l2:p.tent.length=E.length:=by simpa using congrArg List.length h2
 have l3:p.undos.length=E.length:=by
  have:=congrArg List.length h3
  simpa [undL,deeds_len] using this
 have n3:nmL USQ.n p.undos≤4 * p.undos.length:=by
  have hu:∀ u∈p.undos,u.us.length≤4:=fun u hu=>by
   have:u.us∈undL (allI [] D) E:=by rw [← h3];exact List.mem_map.2 ⟨u,hu,rfl⟩
   exact und_four g0.1 g0.2 hE _ this
  clear h3 l3
  revert hu
  generalize p.undos=U
  intro hu
  induction U with
  | nil=>simp [nmL]
  | cons u r ih=>
   have:=ih (fun v hv=>hu v (List.mem_cons_of_mem _ hv))
   have h4:=hu u (by simp)
   simp only [nmL,List.map_cons,List.sum_cons,List.length_cons,USQ.n] at this ⊢
   omega
 unfold RepQ.n
 rw [h1,h4,l0,l2,l3]
 rw [l0] at n0
 rw [l2] at n2
 rw [l3] at n3
 have:=g0.1
 have:=g1.1
 omega

end Go.Proofs.YtjjoahhnkpjolaaGreatDoor
