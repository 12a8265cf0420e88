/- Texts joined, with what the law reaches alone. -/
import Derived.Test.YthmcgflmejofbaaGreatDoorSRBD
import Derived.Test.YthmcgflmejofbaaGreatDoorSRBE
import Derived.Test.YthmcgflmejofbaaGreatDoorSRAV
import Derived.Test.YthmcgflmejofbaaGreatDoorSRBA
set_option linter.unusedVariables false
set_option linter.unusedSimpArgs false
namespace Go.Proofs.YthmcgflmejofbaaGreatDoor
open Go.RowKit
open Go.BigFrame
set_option maxRecDepth 100000
theorem row_capL {w:World} {base e size n:Nat} {v:Value} {xs:List Value} (h:w.ownsRow base e size v n xs):CapOk v:=by
 rcases h.2 with ⟨rfl,_⟩ | ⟨g,cap,cur,rfl,_,_,h1,h2,_⟩
 ·exact ⟨Nat.zero_le _,Nat.zero_le _⟩
 ·exact ⟨h1,h2⟩

theorem txq_n9 {ps qs:List TxnQ} (h:ps.map TxnQ.e=qs.map TxnQ.e):ps.length + nmL TxnQ.n ps=qs.length + nmL TxnQ.n qs:=by
 have e:∀ l:List TxnQ,nmL TxnQ.n l=nmL TxnD.n (l.map TxnQ.e):=fun l=>by simp only [nmL,List.map_map];rfl
 have hl:ps.length=qs.length:=by simpa using congrArg List.length h
 rw [e,e,h,hl]

set_option maxRecDepth 100000 in
set_option maxHeartbeats 16000000 in
theorem l9Fault_any (b:Nat) (p:RepQ) (w:World) (hB:Blk w b 28 #[p.vd,p.vb,p.vt,p.vu,p.vn]) (h:repK.own w p) (hl:p.n≤1048576) :
  Calls Tryz.prog 64 #[.pointer (some ⟨b,0,none⟩)] w fun e w' => e=.returned (.int .i64 (repF p.e))∧Below w.heap.size w w' := by
 obtain ⟨pvd,pd,pvb,pb,pvt,pt,pvu,pu,pvn,pn⟩:=p
 obtain ⟨p0,p5,rfl⟩:∃ a c,pvd=.slice a pd.length c:=h.1.shape
 obtain ⟨p1,p6,rfl⟩:∃ a c,pvb=.slice a pb.length c:=h.2.1.shape
 obtain ⟨p2,p7,rfl⟩:∃ a c,pvt=.slice a pt.length c:=h.2.2.1.shape
 obtain ⟨p3,p8,rfl⟩:∃ a c,pvu=.slice a pu.length c:=h.2.2.2.1.shape
 obtain ⟨p4,p9,rfl⟩:∃ a c,pvn=.slice a pn.length c:=h.2.2.2.2.shape
 dsimp only [RepQ.n] at hl
 have h0:=repK.own_rd h
 have HN1:∀ q∈pd,NiceQ9 q:=fun q hq=>niceQ_of (h.1.2 q hq)
 have HN2:∀ q∈pt,NiceQ9 q:=fun q hq=>niceQ_of (h.2.2.1.2 q hq)
 have nd:=h.1.niceV
 have nt:=h.2.2.1.niceV
 have hr:=fun (w' : World) hb=>repK.rd_below (w' := w') h0 hb
 have hpd:(pd.length:Int)≤1048576:=by omega
 have hpt:(pt.length:Int)≤1048576:=by omega
 have q0:=hB.cell 0 _ rfl
 have q2:=hB.cell 2 _ rfl
 clear h h0
 by_cases hm:16 < pd.length∨8 < pt.length
 ·have HC:Hid (repF (RepQ.e (⟨.slice p0 pd.length p5,pd,.slice p1 pb.length p6,pb,.slice p2 pt.length p7,pt,.slice p3 pu.length p8,pu,.slice p4 pn.length p9,pn⟩:RepQ))=2):=show _=_ from rep_many (by simpa [RepQ.e] using hm)
  generalize repF (RepQ.e (⟨.slice p0 pd.length p5,pd,.slice p1 pb.length p6,pb,.slice p2 pt.length p7,pt,.slice p3 pu.length p8,pu,.slice p4 pn.length p9,pn⟩:RepQ))=c at *
  clear hr HN1 HN2 nd nt
  by_cases h16:16 < pd.length
  ·have i16:(16:Int) < (pd.length:Int):=by omega
   go_enter Tryz.func64,Tryz.ntmps64
   go_wp2
   go_ret
   exact ⟨by first | (rw [HC.out];done) | (rw [HC.out];rfl) | (simp [HC.out]),Below.refl _ _⟩
  ·have i16:¬ (16:Int) < (pd.length:Int):=by omega
   have i8:(8:Int) < (pt.length:Int):=by omega
   go_enter Tryz.func64,Tryz.ntmps64
   go_wp2
   go_ret
   exact ⟨by first | (rw [HC.out];done) | (rw [HC.out];rfl) | (simp [HC.out]),Below.refl _ _⟩
 have i16:¬ (16:Int) < (pd.length:Int):=by omega
 have i8:¬ (8:Int) < (pt.length:Int):=by omega
 have hl16:pd.length≤16:=by omega
 have hl8:pt.length≤8:=by omega
 have hm' : ¬ (16 < (pd.map TxnQ.e).length∨8 < (pt.map TxnQ.e).length):=by simpa using hm
 have HREP:=Wrp.mk (rep_list (r:=RepQ.e (⟨.slice p0 pd.length p5,pd,.slice p1 pb.length p6,pb,.slice p2 pt.length p7,pt,.slice p3 pu.length p8,pu,.slice p4 pn.length p9,pn⟩:RepQ)) hm')
 have HRES:=Wrp.mk (rep_same (r:=RepQ.e (⟨.slice p0 pd.length p5,pd,.slice p1 pb.length p6,pb,.slice p2 pt.length p7,pt,.slice p3 pu.length p8,pu,.slice p4 pn.length p9,pn⟩:RepQ)) hm')
 dsimp only [RepQ.e] at HREP HRES ⊢
 clear hm hm'
 generalize repF _=CC at *
 have hcd:=fun (w' : World) (hb:Below w.heap.size w w')=>l2CopyAll9_any (.slice p0 pd.length p5) pd w' (hr w' hb).1 HN1 (by omega)
 have hct:=fun (w' : World) (hb:Below w.heap.size w w')=>l2CopyAll9_any (.slice p2 pt.length p7) pt w' (hr w' hb).2.2.1 HN2 (by omega)
 go_enter Tryz.func64,Tryz.ntmps64
 go_wp2_with fail
 clear q0 q2
 have f0:=hB.lat 0 _ rfl
 have f2:=hB.lat 2 _ rfl
 have hW:Below w.heap.size w w.drew:=(Below.refl _ _).drew
 have hnn:Nonempty (Lat w):=⟨⟨w,Below.refl _ _⟩⟩
 refine text_begin (S:=fun w' => ∃ u:Lat w,w' = u.val) (by kernel_rfl) ?_
 refine seg_range [(0,4),(5,4)] 5 (by kernel_rfl) (by kernel_rfl) (by kernel_rfl) (by kernel_rfl) (by kernel_rfl) ⟨⟨_,hW⟩,rfl⟩ ?_
 simp only [pickR,List.toList_toArray,List.flatMap_cons,List.flatMap_nil,List.drop_succ_cons,List.drop_zero,List.take_succ_cons,List.take_zero,List.cons_append,List.nil_append,List.append_nil]
 repeat go_big_quiet_step (fail)
 refine wpQuiet_nil ?_
 refine call_at 4 (some 23) 80 #[.slice p0 pd.length p5] 4 (by kernel_rfl) (by kernel_rfl) (by kernel_rfl) (by kernel_rfl) (by kernel_rfl) ?_
 refine (hcd _ hW).mono ?_
 rintro e x1 ⟨v1,q1,rfl,e1,o1,n1,g1,hb9⟩
 have ND:Hid (∀ k,∀ q∈q1,k∈txnK.foot q→k ∉ blk v1):=fun k q hq hk hb=>(List.nodup_append.1 n1).2.2 k hb k (List.mem_flatMap.2 ⟨q,hq,hk⟩) rfl
 clear n1
 obtain ⟨a1,k1,rfl⟩:=o1.shape
 have hx0:=hW.size
 replace hW:=hW.trans (hb9.mono hW.size)
 clear hb9
 refine ⟨_,rfl,⟨⟨_,hW⟩,rfl⟩,?_⟩
 simp only [Act.put,List.setIfInBounds_toArray,List.set_cons_zero,List.set_cons_succ]
 refine call_at 9 (some 28) 80 #[.slice p2 pt.length p7] 3 (by kernel_rfl) (by kernel_rfl) (by kernel_rfl) (by kernel_rfl) (by kernel_rfl) ?_
 refine (hct _ hW).mono ?_
 rintro e x2 ⟨v2,q2,rfl,e2,o2,_,g2,hb9⟩
 obtain ⟨a2,k2,rfl⟩:=o2.shape
 have hx1:=hW.size
 have i1:=o1.lt
 replace o1:=o1.below hb9
 replace hW:=hW.trans (hb9.mono hW.size)
 clear hb9
 refine ⟨_,rfl,⟨⟨_,hW⟩,rfl⟩,?_⟩
 simp only [Act.put,List.setIfInBounds_toArray,List.set_cons_zero,List.set_cons_succ]
 have hx2:=hW.size
 obtain ⟨i0,hi,hz0,hz1,hz2⟩:=info_parts infoTxn
 have l1:q1.length=pd.length:=by simpa using congrArg List.length e1
 have l2:q2.length=pt.length:=by simpa using congrArg List.length e2
 obtain ⟨_,_,ee,lies2,rd2⟩:=o2.at
 simp only [Value.slice.injEq,true_and] at ee
 obtain ⟨rfl,rfl⟩:=ee
 have w1:q1.length + q2.length≤maxLen:=by unfold maxLen;omega
 have w2:(q1.length + q2.length) * 48≤140737488355328:=by omega
 clear l1 l2
 refine one_at 10 _ 2 (by kernel_rfl) rfl (by kernel_rfl) ?_
 refine wpList_app_k (K:=txnK) _ rfl _ _ 24 rfl i0 (.agg #[.int .i64 0,.int .i64 0,.int .i64 0,.slice none 0 0]) 48 Tryz.underlying24 hi hz0 hz1 hz2 rfl (by decide) 0 _ q1 rfl o1.1 _ q2 _ rfl lies2 (txns_one rd2) (o2.niceV _ _ _ rfl) w1 w2 (by omega) ?_
 intro v3 x3 ho3 hg3
 have hU3:Out (blk (.slice a1 q1.length k1)) x2 x3:=Out.of_grown hg3
 have bl1:∀ x∈blk (.slice a1 q1.length k1),w.heap.size≤x∧x < x1.heap.size:=fun x hx=>⟨by have:=g1 x (by simp only [Kind.fp,List.mem_append];exact Or.inl hx);omega,i1 x (by simp only [Kind.fp,List.mem_append];exact Or.inl hx)⟩
 have hA3:txnK.At x3 v3 (q1 ++ q2):=Kind.at_of_row ho3 (fun q hq=>by
  rcases List.mem_append.1 hq with hq | hq
  ·exact txnK.own_rd (txnK.own_out (o1.2 q hq) hU3 (fun k hk e=>ND.out k q hq hk e))
  ·exact txnK.own_rd (txnK.own_out (o2.2 q hq) hU3 (fun k hk e=>by
    have:=g2 k (by simp only [Kind.fp,List.mem_append,List.mem_flatMap];exact Or.inr ⟨q,hq,hk⟩)
    have:=(bl1 k e).2
    omega)))
 replace hW:=Out.keep hW hU3 (by omega) (fun x hx=>(bl1 x hx).1)
 have cp3:=row_capL ho3
 obtain ⟨a3,k3,rfl⟩:=hA3.shape
 go_wp2
 refine ThenGo.to ⟨⟨⟨_,hW⟩,rfl⟩,?_⟩
 have hn3:(q1 ++ q2).length + nmL TxnQ.n (q1 ++ q2)≤1048576:=by
  have e:nmL TxnQ.n (q1 ++ q2)=nmL TxnQ.n q1 + nmL TxnQ.n q2:=by simp [nmL]
  have s1:=txq_n9 e1
  have s2:=txq_n9 e2
  rw [List.length_append,e]
  omega
 have hlf:=fun w h=>l8Fault_any (.slice a3 (q1 ++ q2).length k3) (q1 ++ q2) w h cp3 hn3
 rw [List.map_append,e1,e2] at hlf
 simp only [Act.put,List.getElem_toArray,List.getElem_cons_succ,List.getElem_cons_zero,List.setIfInBounds_toArray,List.set_cons_zero,List.set_cons_succ]
 refine call_at 11 (some 30) 86 #[.slice a3 (q1 ++ q2).length k3] 1 (by kernel_rfl) (by kernel_rfl) (by kernel_rfl) (by kernel_rfl) (by kernel_rfl) ?_
 refine (hlf _ hA3).mono ?_
 rintro e x4 ⟨rfl,hb9⟩
 replace hW:=hW.trans (hb9.mono hW.size)
 clear hb9 hlf hA3 ho3 hg3 hU3 o1 o2 g1 g2 i1 bl1 lies2 rd2 ND
 refine ⟨_,rfl,⟨⟨_,hW⟩,rfl⟩,?_⟩
 simp only [Act.put,List.setIfInBounds_toArray,List.set_cons_zero,List.set_cons_succ]
 refine seg_range [(12,1)] 0 (by kernel_rfl) (by kernel_rfl) (by kernel_rfl) (by kernel_rfl) (by kernel_rfl) ⟨⟨_,hW⟩,rfl⟩ ?_
 simp only [pickR,List.toList_toArray,List.flatMap_cons,List.flatMap_nil,List.drop_succ_cons,List.drop_zero,List.take_succ_cons,List.take_zero,List.cons_append,List.nil_append,List.append_nil]
 repeat go_big_quiet_step (fail)
 refine wpQuiet_nil ?_
 refine text_end (by kernel_rfl) ?_
 clear f0 f2 hnn hcd hct HN1 HN2 nd nt e1 e2 w1 w2
 by_cases hL:lstF (pd.map TxnQ.e ++ pt.map TxnQ.e)=0
 case neg=>
  have HC:Hid (CC=lstF (pd.map TxnQ.e ++ pt.map TxnQ.e)):=HREP.out hL
  clear HREP HRES
  generalize lstF (pd.map TxnQ.e ++ pt.map TxnQ.e)=c at *
  have hcb:(c != 0)=true:=by simpa using hL
  go_wp2
  go_ret
  exact ⟨by first | (rw [HC.out];done) | (rw [HC.out];rfl) | (simp [HC.out]),hW⟩
 have hFall:=lst_F hL
 have hFD:∀ q∈pd,(TxnQ.e q).F=0:=fun q hq=>hFall _ (List.mem_append_left _ (List.mem_map_of_mem hq))
 have hFE:∀ q∈pt,(TxnQ.e q).F=0:=fun q hq=>hFall _ (List.mem_append_right _ (List.mem_map_of_mem hq))
 have HC:=Wrp.mk (HRES.out hL)
 rw [hL]
 clear HREP HRES hL
 have hB4:=hB.below hW
 have hr4:=hr _ hW
 have hmk:=fun (w' : World) (hb:Below x4.heap.size x4 w')=>l9Make_any (.slice p0 pd.length p5) (.slice p2 pt.length p7) pd pt w' (hr4.1.below hb) (hr4.2.2.1.below hb) hFD hFE (by omega) (by omega)
 have hbX:=hW
 clear hW
 go_wp2_with fail
 generalize hX:x4=X at *
 clear hX
 try clear hn3
 generalize (q1 ++ q2).length=QL
 have f0:=hB4.lat 0 _ rfl
 have f2:=hB4.lat 2 _ rfl
 refine region_vals [some 34,some 35,some 36,some 37,some 38,some 39,some 40,some 41,some 42,some 4] (fun vs w' => ∃ (m:RepQ) (g:Nat),vs=[.pointer (some ⟨b,0,none⟩),.pointer (some ⟨b,0,none⟩),.pointer (some ⟨b,0,none⟩),.slice p0 pd.length p5,.pointer (some ⟨b,0,none⟩),.pointer (some ⟨b,0,none⟩),.pointer (some ⟨b,2,none⟩),.slice p2 pt.length p7,.agg #[m.vd,m.vb,m.vt,m.vu,m.vn],.pointer (some ⟨g,0,none⟩)]∧X.heap.size≤g∧Blk w' g 28 #[m.vd,m.vb,m.vt,m.vu,m.vn]∧m.e=mkR (pd.map TxnQ.e) (pt.map TxnQ.e)∧repK.own w' m∧Below X.heap.size X w') ?_ ?_
 ·have hW:Below X.heap.size X X.drew:=(Below.refl _ _).drew
  have hnn:Nonempty (Lat X):=⟨⟨X,Below.refl _ _⟩⟩
  refine text_begin (S:=fun w' => ∃ u:Lat X,w' = u.val) (by kernel_rfl) ?_
  refine seg_range [(0,8)] 3 (by kernel_rfl) (by kernel_rfl) (by kernel_rfl) (by kernel_rfl) (by kernel_rfl) ⟨⟨_,hW⟩,rfl⟩ ?_
  simp only [pickR,List.toList_toArray,List.flatMap_cons,List.flatMap_nil,List.drop_succ_cons,List.drop_zero,List.take_succ_cons,List.take_zero,List.cons_append,List.nil_append,List.append_nil]
  repeat go_big_quiet_step (fail)
  refine wpQuiet_nil ?_
  clear f0 f2
  generalize X.drew=wd at hW ⊢
  refine two_at 8 9 2 (by kernel_rfl) (by kernel_rfl) ?_ ?_
  ·skip
   refine op_call 8 (some 42) 66 #[.slice p0 pd.length p5,.slice p2 pt.length p7] (by kernel_rfl) (by kernel_rfl) (by kernel_rfl) ?_
   refine (hmk _ hW).mono ?_
   rintro e x1 ⟨m,rfl,em,om,nm,gm,hb⟩
   clear nm
   replace hW:=hW.trans (hb.mono hW.size)
   clear hb gm
   refine ⟨_,rfl,⟨⟨_,hW⟩,rfl⟩,?_⟩
   simp only [Act.put,List.getElem_toArray,List.getElem_cons_succ,List.getElem_cons_zero,List.setIfInBounds_toArray,List.set_cons_zero,List.set_cons_succ]
   refine one_at 9 _ 1 (by kernel_rfl) rfl (by kernel_rfl) ?_
   have Bz:=Blk.new x1 28 #[.slice none 0 0,.slice none 0 0,.slice none 0 0,.slice none 0 0,.slice none 0 0]
   have hzz:X.heap.size≤x1.heap.size:=hW.size
   have hba:Below x1.heap.size x1 (x1.alloc (.cells #[.slice none 0 0,.slice none 0 0,.slice none 0 0,.slice none 0 0,.slice none 0 0] 28)):=by go_grown
   have gne:∀ k∈repK.foot m,k≠x1.heap.size:=fun k hk=>by have:=repK.own_lt om k hk;omega
   replace om:=repK.own_out (F:=[]) om (Out.of_below hba) (fun _ _=>by simp)
   replace hW:=hW.trans (hba.mono hW.size)
   clear hba
   have hBzl:=Bz.lt
   go_wp2
   refine ThenGo.to ⟨⟨⟨_,hW⟩,rfl⟩,?_⟩
   generalize hGy1:x1.heap.size=g at *
   generalize x1.alloc (.cells #[.slice none 0 0,.slice none 0 0,.slice none 0 0,.slice none 0 0,.slice none 0 0] 28)=y1 at *
   clear hGy1
   obtain ⟨mvd,md,mvb,mb,mvt,mt,mvu,mu,mvn,mn⟩:=m
   obtain ⟨s0,t0,rfl⟩:∃ a c,mvd=.slice a md.length c:=om.1.shape
   obtain ⟨s1,t1,rfl⟩:∃ a c,mvb=.slice a mb.length c:=om.2.1.shape
   obtain ⟨s2,t2,rfl⟩:∃ a c,mvt=.slice a mt.length c:=om.2.2.1.shape
   obtain ⟨s3,t3,rfl⟩:∃ a c,mvu=.slice a mu.length c:=om.2.2.2.1.shape
   obtain ⟨s4,t4,rfl⟩:∃ a c,mvn=.slice a mn.length c:=om.2.2.2.2.shape
   refine one_at 10 _ 0 (by kernel_rfl) rfl (by kernel_rfl) ?_
   have hgW:X.heap.size≤g:=by omega
   have Rz:=Bz.row #[.slice s0 md.length t0,.slice s1 mb.length t1,.slice s2 mt.length t2,.slice s3 mu.length t3,.slice s4 mn.length t4]
   have oz:=repK.own_out om (out_row _ g #[.slice s0 md.length t0,.slice s1 mb.length t1,.slice s2 mt.length t2,.slice s3 mu.length t3,.slice s4 mn.length t4]) (fun k hk=>by simp only [List.mem_singleton];exact gne k hk)
   replace hW:=below_row hW hgW #[.slice s0 md.length t0,.slice s1 mb.length t1,.slice s2 mt.length t2,.slice s3 mu.length t3,.slice s4 mn.length t4]
   refine st_row (by kernel_rfl) 28 _ _ rfl _ #[.slice s0 md.length t0,.slice s1 mb.length t1,.slice s2 mt.length t2,.slice s3 mu.length t3,.slice s4 mn.length t4] rfl rfl 28 _ Bz sz_rep rfl (by simp [Value.oneCell']) ?_
   refine ThenGo.to ⟨⟨⟨_,hW⟩,rfl⟩,?_⟩
   refine text_end (by kernel_rfl) ?_
   refine ⟨rfl,_,⟨_,g,rfl,hgW,Rz,em,oz,hW⟩,?_⟩
   simp only [putAll,Act.put,List.getElem_toArray,List.getElem_cons_succ,List.getElem_cons_zero,List.setIfInBounds_toArray,List.set_cons_zero,List.set_cons_succ]
   try rfl
  ·skip
   refine op_one 9 _ rfl ?_
   have Bz:=Blk.new wd 28 #[.slice none 0 0,.slice none 0 0,.slice none 0 0,.slice none 0 0,.slice none 0 0]
   have hzz:X.heap.size≤wd.heap.size:=hW.size
   have hba:Below wd.heap.size wd (wd.alloc (.cells #[.slice none 0 0,.slice none 0 0,.slice none 0 0,.slice none 0 0,.slice none 0 0] 28)):=by go_grown
   replace hW:=hW.trans (hba.mono hW.size)
   clear hba
   have hBzl:=Bz.lt
   go_wp2
   refine ThenGo.to ⟨⟨⟨_,hW⟩,rfl⟩,?_⟩
   generalize hGy2:wd.heap.size=g at *
   generalize wd.alloc (.cells #[.slice none 0 0,.slice none 0 0,.slice none 0 0,.slice none 0 0,.slice none 0 0] 28)=y2 at *
   clear hGy2
   refine call_at 8 (some 42) 66 #[.slice p0 pd.length p5,.slice p2 pt.length p7] 1 (by kernel_rfl) (by kernel_rfl) (by kernel_rfl) (by kernel_rfl) (by kernel_rfl) ?_
   refine (hmk _ hW).mono ?_
   rintro e x2 ⟨m,rfl,em,om,nm,gm,hb⟩
   clear nm
   have gne:∀ k∈repK.foot m,k≠g:=fun k hk=>by have:=gm k hk;have:=Bz.lt;omega
   replace Bz:=Bz.below hb
   replace hW:=hW.trans (hb.mono hW.size)
   clear hb gm
   refine ⟨_,rfl,⟨⟨_,hW⟩,rfl⟩,?_⟩
   simp only [Act.put,List.getElem_toArray,List.getElem_cons_succ,List.getElem_cons_zero,List.setIfInBounds_toArray,List.set_cons_zero,List.set_cons_succ]
   obtain ⟨mvd,md,mvb,mb,mvt,mt,mvu,mu,mvn,mn⟩:=m
   obtain ⟨s0,t0,rfl⟩:∃ a c,mvd=.slice a md.length c:=om.1.shape
   obtain ⟨s1,t1,rfl⟩:∃ a c,mvb=.slice a mb.length c:=om.2.1.shape
   obtain ⟨s2,t2,rfl⟩:∃ a c,mvt=.slice a mt.length c:=om.2.2.1.shape
   obtain ⟨s3,t3,rfl⟩:∃ a c,mvu=.slice a mu.length c:=om.2.2.2.1.shape
   obtain ⟨s4,t4,rfl⟩:∃ a c,mvn=.slice a mn.length c:=om.2.2.2.2.shape
   refine one_at 10 _ 0 (by kernel_rfl) rfl (by kernel_rfl) ?_
   have hgW:X.heap.size≤g:=by omega
   have Rz:=Bz.row #[.slice s0 md.length t0,.slice s1 mb.length t1,.slice s2 mt.length t2,.slice s3 mu.length t3,.slice s4 mn.length t4]
   have oz:=repK.own_out om (out_row _ g #[.slice s0 md.length t0,.slice s1 mb.length t1,.slice s2 mt.length t2,.slice s3 mu.length t3,.slice s4 mn.length t4]) (fun k hk=>by simp only [List.mem_singleton];exact gne k hk)
   replace hW:=below_row hW hgW #[.slice s0 md.length t0,.slice s1 mb.length t1,.slice s2 mt.length t2,.slice s3 mu.length t3,.slice s4 mn.length t4]
   refine st_row (by kernel_rfl) 28 _ _ rfl _ #[.slice s0 md.length t0,.slice s1 mb.length t1,.slice s2 mt.length t2,.slice s3 mu.length t3,.slice s4 mn.length t4] rfl rfl 28 _ Bz sz_rep rfl (by simp [Value.oneCell']) ?_
   refine ThenGo.to ⟨⟨⟨_,hW⟩,rfl⟩,?_⟩
   refine text_end (by kernel_rfl) ?_
   refine ⟨rfl,_,⟨_,g,rfl,hgW,Rz,em,oz,hW⟩,?_⟩
   simp only [putAll,Act.put,List.getElem_toArray,List.getElem_cons_succ,List.getElem_cons_zero,List.setIfInBounds_toArray,List.set_cons_zero,List.set_cons_succ]
   try rfl
 rintro vs w5 ⟨m,g,rfl,hgX,Bg,em,om,hX5⟩
 simp only [putAll,Act.put,List.setIfInBounds_toArray,List.set_cons_zero,List.set_cons_succ]
 clear f0 f2 hmk
 have hFD' : ∀ t∈pd.map TxnQ.e,t.F=0:=fun t ht=>by obtain ⟨q,hq,rfl⟩:=List.mem_map.1 ht;exact hFD q hq
 have hFE' : ∀ t∈pt.map TxnQ.e,t.F=0:=fun t ht=>by obtain ⟨q,hq,rfl⟩:=List.mem_map.1 ht;exact hFE q hq
 have hsm:=l9Same_any g b m (⟨.slice p0 pd.length p5,pd,.slice p1 pb.length p6,pb,.slice p2 pt.length p7,pt,.slice p3 pu.length p8,pu,.slice p4 pn.length p9,pn⟩:RepQ) w5 Bg (hB4.below hX5) (repK.own_rd om) (repK.rd_below hr4 hX5) (by have:=mk_small em hFD' hFE' (by rw [List.length_map];omega) (by rw [List.length_map];omega);omega) (by dsimp only [RepQ.n];omega)
 rw [em] at hsm
 dsimp only [RepQ.e] at hsm
 have hb5:=hbX.trans (hX5.mono hbX.size)
 clear om Bg hB4 hr4 em hX5 hbX
 go_wp2_with fail
 refine hsm.mono ?_
 rintro e w6 ⟨rfl,hb6⟩
 replace hb5:=hb5.trans (hb6.mono hb5.size)
 clear hb6 hsm
 cases hS:sameRep (mkR (pd.map TxnQ.e) (pt.map TxnQ.e)) ⟨pd.map TxnQ.e,pb,pt.map TxnQ.e,pu.map USQ.e,pn⟩ with
 | false=>
  have h9:CC=(if sameRep (mkR (pd.map TxnQ.e) (pt.map TxnQ.e)) ⟨pd.map TxnQ.e,pb,pt.map TxnQ.e,pu.map USQ.e,pn⟩=true then 0 else 8):=HC.out
  have HC2:Hid (CC=8):=show CC=8 by simpa [hS] using h9
  clear h9
  clear HC
  go_wp2
  go_ret
  exact ⟨by first | (rw [HC2.out];done) | (rw [HC2.out];rfl) | (simp [HC2.out]),hb5⟩
 | true=>
  have h9:CC=(if sameRep (mkR (pd.map TxnQ.e) (pt.map TxnQ.e)) ⟨pd.map TxnQ.e,pb,pt.map TxnQ.e,pu.map USQ.e,pn⟩=true then 0 else 8):=HC.out
  have HC2:Hid (CC=0):=show CC=0 by simpa [hS] using h9
  clear h9
  clear HC
  go_wp2
  go_ret
  exact ⟨by first | (rw [HC2.out];done) | (rw [HC2.out];rfl) | (simp [HC2.out]),hb5⟩

theorem specReplicaFault_any (p:RepQ) (w:World) (h:repK.own w p) (hl:p.n≤1048576) :
  Calls Tryz.prog 21 #[.agg #[p.vd,p.vb,p.vt,p.vu,p.vn]] w fun e w' => e=.returned (.int .i64 (repF p.e))∧Below w.heap.size w w' := by
 have hf:=fun b w hB h=>l9Fault_any b p w hB h hl
 have hr:=fun (w' : World) (hb:Below w.heap.size w w')=>repK.own_out (F:=[]) (w' := w') h (Out.of_below hb) (fun _ _=>by simp)
 generalize repF p.e=c at *
 obtain ⟨pvd,pd,pvb,pb,pvt,pt,pvu,pu,pvn,pn⟩:=p
 obtain ⟨p0,p5,rfl⟩:∃ a c,pvd=.slice a pd.length c:=h.1.shape
 obtain ⟨p1,p6,rfl⟩:∃ a c,pvb=.slice a pb.length c:=h.2.1.shape
 obtain ⟨p2,p7,rfl⟩:∃ a c,pvt=.slice a pt.length c:=h.2.2.1.shape
 obtain ⟨p3,p8,rfl⟩:∃ a c,pvu=.slice a pu.length c:=h.2.2.2.1.shape
 obtain ⟨p4,p9,rfl⟩:∃ a c,pvn=.slice a pn.length c:=h.2.2.2.2.shape
 dsimp only at hf hr
 have hb0:Below w.heap.size w (w.alloc (.cells #[.slice p0 pd.length p5,.slice p1 pb.length p6,.slice p2 pt.length p7,.slice p3 pu.length p8,.slice p4 pn.length p9] 28)):=by go_grown
 have B:=Blk.new w 28 #[.slice p0 pd.length p5,.slice p1 pb.length p6,.slice p2 pt.length p7,.slice p3 pu.length p8,.slice p4 pn.length p9]
 go_enter Tryz.func21,Tryz.ntmps21
 go_wp2_with fail
 refine (hf _ _ B (hr _ hb0)).mono ?_
 rintro e w2 ⟨rfl,hb⟩
 replace hb0:=hb0.trans (hb.mono hb0.size)
 go_wp2
 go_ret
 exact ⟨rfl,hb0⟩

end Go.Proofs.YthmcgflmejofbaaGreatDoor
namespace Go.Proofs.YthmcgflmejofbaaGreatDoor
open Go.RowKit
open Go.BigFrame
set_option maxRecDepth 100000
theorem uss_n {ps qs:List USQ} (h:ps.map USQ.e=qs.map USQ.e):ps.length + nmL USQ.n ps=qs.length + nmL USQ.n qs:=by
 have e:∀ l:List USQ,nmL USQ.n l=nmL List.length (l.map USQ.e):=fun l=>by simp only [nmL,List.map_map];rfl
 have hl:ps.length=qs.length:=by simpa using congrArg List.length h
 rw [e,e,h,hl]

theorem txq_n {ps qs:List TxnQ} (h:ps.map TxnQ.e=qs.map TxnQ.e):ps.length + nmL TxnQ.n ps=qs.length + nmL TxnQ.n qs:=by
 have e:∀ l:List TxnQ,nmL TxnQ.n l=nmL TxnD.n (l.map TxnQ.e):=fun l=>by simp only [nmL,List.map_map];rfl
 have hl:ps.length=qs.length:=by simpa using congrArg List.length h
 rw [e,e,h,hl]

theorem rep_n {p q:RepQ} (h:p.e=q.e):p.n=q.n:=by
 simp only [RepQ.e,RepE.mk.injEq] at h
 obtain ⟨h0,h1,h2,h3,h4⟩:=h
 simp only [RepQ.n]
 have a0:=txq_n h0
 have a2:=txq_n h2
 have a3:=uss_n h3
 rw [h1,h4]
 omega

theorem specRF_e (q:RepQ) (x:RepE) (hx:q.e=x) (w:World) (h:repK.own w q) (hl:q.n≤1048576) :
  Calls Tryz.prog 21 #[.agg #[q.vd,q.vb,q.vt,q.vu,q.vn]] w fun e w' => e=.returned (.int .i64 (repF x))∧Below w.heap.size w w' := by
 rw [← hx]
 exact specReplicaFault_any q w h hl

theorem implRF_e (q:RepQ) (x:RepE) (hx:q.e=x) (w:World) (hg:ErrT w) (h:repK.rd w q) (nd:NiceV q.vd) (nt:NiceV q.vt) (hl:q.n≤1048576) :
  Calls Tryz.prog 18 #[.agg #[q.vd,q.vb,q.vt,q.vu,q.vn]] w fun e w' => e=.returned (.int .i64 (repF x))∧Below w.heap.size w w' := by
 rw [← hx]
 exact implReplicaFault_any q w hg h nd nt hl

set_option maxHeartbeats 8000000 in
theorem replicaFaultLaw (p:RepQ) (w:World) (hg:ErrT w) (h:repK.rd w p) (hn:p.wf) :
  Calls Tryz.prog 6 #[.agg #[p.vd,p.vb,p.vt,p.vu,p.vn]] w fun e w' => e=.returned (.bool true)∧Below w.heap.size w w' := by
 have hsz:=fun w h=>szReplica_k p 1048576 w h hn (by omega) (by omega)
 have hto:=fun w h hl=>toReplica_k p w h hl
 have hsp:=fun q (hq:RepQ.e q=p.e) w h hl=>specRF_e q _ hq w h hl
 have him:=fun q (hq:RepQ.e q=p.e) w hg h n1 n2 hl=>implRF_e q _ hq w hg h n1 n2 hl
 have hqn:∀ q:RepQ,q.e=p.e→q.n=p.n:=fun q hq=>rep_n hq
 have heq:=fun (q q' : RepQ) (hq:q.e=p.e) (hq' : q'.e=p.e) w h h' hl=>eqReplica_k q q' w h h' (hq.trans hq'.symm) hl
 have hrb:=fun (w' : World) hb=>repK.rd_below (w' := w') h hb
 generalize hpe:p.e=pe at *
 generalize hpn:p.n=pn at *
 generalize repF pe=E at hsp him
 obtain ⟨vd,done,vb,base,vt,tent,vu,undos,vn,now⟩:=p
 obtain ⟨da,dk,rfl⟩:∃ a c,vd=.slice a done.length c:=h.1.shape
 obtain ⟨ba,bk,rfl⟩:∃ a c,vb=.slice a base.length c:=h.2.1.shape
 obtain ⟨ta,tk,rfl⟩:∃ a c,vt=.slice a tent.length c:=h.2.2.1.shape
 obtain ⟨ua,uk,rfl⟩:∃ a c,vu=.slice a undos.length c:=h.2.2.2.1.shape
 obtain ⟨na,nk,rfl⟩:∃ a c,vn=.slice a now.length c:=h.2.2.2.2.shape
 dsimp only at hsz hto hrb
 have b0:Below w.heap.size w (w.alloc (.cells #[.slice da done.length dk,.slice ba base.length bk,.slice ta tent.length tk,.slice ua undos.length uk,.slice na now.length nk] 69)):=by go_grown
 have A0:=Blk.new w 69 #[.slice da done.length dk,.slice ba base.length bk,.slice ta tent.length tk,.slice ua undos.length uk,.slice na now.length nk]
 have hg1:=hg.below b0
 have p0:=A0.cell 0 _ rfl
 have p1:=A0.cell 1 _ rfl
 have p2:=A0.cell 2 _ rfl
 have p3:=A0.cell 3 _ rfl
 have p4:=A0.cell 4 _ rfl
 go_enter Tryz.func6,Tryz.ntmps6
 go_wp2_with fail
 generalize w.alloc (.cells #[.slice da done.length dk,.slice ba base.length bk,.slice ta tent.length tk,.slice ua undos.length uk,.slice na now.length nk] 69)=W at *
 clear p0 p1 p2 p3 p4
 refine (hsz W (hrb W b0)).mono ?_
 rintro e w1 ⟨r,rfl,hr,hb⟩
 replace A0:=A0.below hb
 replace hg1:=hg1.below hb
 replace b0:=b0.trans (hb.mono b0.size)
 clear hsz hb
 by_cases hneg:r < 0
 ·go_wp2
  go_ret
  exact ⟨rfl,b0⟩
 have hl:(pn:Int) + r=1048576:=hr (by omega)
 clear hr
 replace hl:pn≤1048576:=by omega
 have p0:=A0.cell 0 _ rfl
 have p1:=A0.cell 1 _ rfl
 have p2:=A0.cell 2 _ rfl
 have p3:=A0.cell 3 _ rfl
 have p4:=A0.cell 4 _ rfl
 go_wp2_with fail
 clear hneg
 clear p0 p1 p2 p3 p4
 refine (hto w1 (hrb w1 b0) hl).mono ?_
 rintro e w2 ⟨q1,rfl,e1,o1,n1,g1,hb⟩
 replace A0:=A0.below hb
 replace hg1:=hg1.below hb
 replace b0:=b0.trans (hb.mono b0.size)
 clear hb n1 g1
 go_wp2_with fail
 refine (hsp q1 e1 w2 o1 (by rw [hqn q1 e1];exact hl)).mono ?_
 rintro e w3 ⟨rfl,hb⟩
 replace A0:=A0.below hb
 replace hg1:=hg1.below hb
 replace b0:=b0.trans (hb.mono b0.size)
 clear hb o1 e1 hsp
 have p0:=A0.cell 0 _ rfl
 have p1:=A0.cell 1 _ rfl
 have p2:=A0.cell 2 _ rfl
 have p3:=A0.cell 3 _ rfl
 have p4:=A0.cell 4 _ rfl
 go_wp2_with fail
 clear p0 p1 p2 p3 p4
 refine (hto w3 (hrb w3 b0) hl).mono ?_
 rintro e w4 ⟨q3,rfl,e3,o3,n3,g3,hb⟩
 replace A0:=A0.below hb
 replace hg1:=hg1.below hb
 replace b0:=b0.trans (hb.mono b0.size)
 clear hb n3 g3
 have nd3:=o3.1.niceV
 have nt3:=o3.2.2.1.niceV
 have hi3:=fun w hg h=>him q3 e3 w hg h nd3 nt3 (by rw [hqn q3 e3];exact hl)
 have he3:=fun q' hq' w h h' => heq q3 q' e3 hq' w h h' (by rw [hqn q3 e3];exact hl)
 have r3:=repK.own_rd o3
 have rb3:=fun (w' : World) hb=>repK.rd_below (w' := w') r3 hb
 clear o3 heq him nd3 nt3
 obtain ⟨vd3,done3,vb3,base3,vt3,tent3,vu3,undos3,vn3,now3⟩:=q3
 obtain ⟨da3,dk3,rfl⟩:∃ a c,vd3=.slice a done3.length c:=r3.1.shape
 obtain ⟨ba3,bk3,rfl⟩:∃ a c,vb3=.slice a base3.length c:=r3.2.1.shape
 obtain ⟨ta3,tk3,rfl⟩:∃ a c,vt3=.slice a tent3.length c:=r3.2.2.1.shape
 obtain ⟨ua3,uk3,rfl⟩:∃ a c,vu3=.slice a undos3.length c:=r3.2.2.2.1.shape
 obtain ⟨na3,nk3,rfl⟩:∃ a c,vn3=.slice a now3.length c:=r3.2.2.2.2.shape
 dsimp only at hi3 he3 rb3
 have X0:=Blk.new w4 28 #[.slice da3 done3.length dk3,.slice ba3 base3.length bk3,.slice ta3 tent3.length tk3,.slice ua3 undos3.length uk3,.slice na3 now3.length nk3]
 have bx:Below w4.heap.size w4 (w4.alloc (.cells #[.slice da3 done3.length dk3,.slice ba3 base3.length bk3,.slice ta3 tent3.length tk3,.slice ua3 undos3.length uk3,.slice na3 now3.length nk3] 28)):=by go_grown
 replace r3:=rb3 _ bx
 clear rb3
 have rb3:=fun (w' : World) hb=>repK.rd_below (w' := w') r3 hb
 replace A0:=A0.below bx
 replace hg1:=hg1.below bx
 replace b0:=b0.trans (bx.mono b0.size)
 have p0:=X0.cell 0 _ rfl
 have p1:=X0.cell 1 _ rfl
 have p2:=X0.cell 2 _ rfl
 have p3:=X0.cell 3 _ rfl
 have p4:=X0.cell 4 _ rfl
 clear bx
 go_wp2_with fail
 clear p0 p1 p2 p3 p4
 generalize w4.alloc (.cells #[.slice da3 done3.length dk3,.slice ba3 base3.length bk3,.slice ta3 tent3.length tk3,.slice ua3 undos3.length uk3,.slice na3 now3.length nk3] 28)=W4 at *
 refine (hi3 W4 hg1 r3).mono ?_
 rintro e w6 ⟨rfl,hb⟩
 replace A0:=A0.below hb
 replace X0:=X0.below hb
 replace b0:=b0.trans (hb.mono b0.size)
 replace r3:=rb3 _ hb
 clear hb rb3 hi3 hg1
 have hne:(E != E)=false:=by simp
 go_wp2_with fail
 have hW:Below w6.heap.size w6 w6.drew:=(Below.refl _ _).drew
 have hnn:Nonempty (Lat w6):=⟨⟨w6,Below.refl _ _⟩⟩
 have k0:=A0.lat 0 _ rfl
 have k1:=A0.lat 1 _ rfl
 have k2:=A0.lat 2 _ rfl
 have k3:=A0.lat 3 _ rfl
 have k4:=A0.lat 4 _ rfl
 have l0:=X0.lat 0 _ rfl
 have l1:=X0.lat 1 _ rfl
 have l2:=X0.lat 2 _ rfl
 have l3:=X0.lat 3 _ rfl
 have l4:=X0.lat 4 _ rfl
 refine text_begin (S:=fun w' => ∃ u:Lat w6,w' = u.val) (by kernel_rfl) ?_
 refine seg_range [(0,2)] 3 (by kernel_rfl) (by kernel_rfl) (by kernel_rfl) (by kernel_rfl) (by kernel_rfl) ⟨⟨_,hW⟩,rfl⟩ ?_
 simp only [pickR,List.toList_toArray,List.flatMap_cons,List.flatMap_nil,List.drop_succ_cons,List.drop_zero,List.take_succ_cons,List.take_zero,List.cons_append,List.nil_append,List.append_nil]
 repeat go_big_quiet_step (fail)
 refine wpQuiet_nil ?_
 refine call_at 2 (some 24) 39 #[.agg #[.slice da done.length dk,.slice ba base.length bk,.slice ta tent.length tk,.slice ua undos.length uk,.slice na now.length nk]] 2 (by kernel_rfl) (by kernel_rfl) (by kernel_rfl) (by kernel_rfl) (by kernel_rfl) ?_
 refine (hto _ (hrb _ (b0.trans (hW.mono b0.size))) hl).mono ?_
 rintro e w9 ⟨q9,rfl,e9,o9,n9,g9,hb9⟩
 replace hW:=hW.trans (hb9.mono hW.size)
 clear n9 g9
 clear hb9
 refine ⟨_,rfl,⟨⟨_,hW⟩,rfl⟩,?_⟩
 simp only [Act.put,List.setIfInBounds_toArray,List.set_cons_zero,List.set_cons_succ]
 refine call_at 3 (some 25) 40 #[.agg #[.slice da3 done3.length dk3,.slice ba3 base3.length bk3,.slice ta3 tent3.length tk3,.slice ua3 undos3.length uk3,.slice na3 now3.length nk3],.agg #[q9.vd,q9.vb,q9.vt,q9.vu,q9.vn]] 1 (by kernel_rfl) (by kernel_rfl) (by kernel_rfl) (by kernel_rfl) (by kernel_rfl) ?_
 refine (he3 q9 e9 _ (repK.rd_below r3 hW) (repK.own_rd o9)).mono ?_
 rintro e w9 ⟨rfl,hb9⟩
 replace hW:=hW.trans (hb9.mono hW.size)
 clear hb9
 refine ⟨_,rfl,⟨⟨_,hW⟩,rfl⟩,?_⟩
 simp only [Act.put,List.setIfInBounds_toArray,List.set_cons_zero,List.set_cons_succ]
 refine seg_range [(4,1)] 0 (by kernel_rfl) (by kernel_rfl) (by kernel_rfl) (by kernel_rfl) (by kernel_rfl) ⟨⟨_,hW⟩,rfl⟩ ?_
 simp only [pickR,List.toList_toArray,List.flatMap_cons,List.flatMap_nil,List.drop_succ_cons,List.drop_zero,List.take_succ_cons,List.take_zero,List.cons_append,List.nil_append,List.append_nil]
 repeat go_big_quiet_step (fail)
 refine wpQuiet_nil ?_
 refine text_end (by kernel_rfl) ?_
 replace b0:=b0.trans (hW.mono b0.size)
 go_wp2
 go_ret
 exact ⟨rfl,b0⟩

end Go.Proofs.YthmcgflmejofbaaGreatDoor
namespace Go.Proofs.YthmcgflmejofbaaGreatDoor
open Go.RowKit Go.Deep Go.ChangeShapes Go.WideShapes
set_option maxRecDepth 100000
section
variable {H:Type} {enc:TypeId × Value→H} {w:World} {base:Nat} {spare:Nat→Bool} {held:Bool}
theorem trod_struct5 {P:Program} {t:TypeId} {f0 f1 f2 f3 f4:Field} {fuel:Nat} {cs:List Value} {x:DataW H × List MemPlace} (ht:P.underlying t=some (.struct #[f0,f1,f2,f3,f4])) (h:DataW.trod enc P w base spare held fuel t cs=some x) :
  ∃ y0 y1 y2 y3 y4 n,cs.length=P.cellsOf t∧DataW.trod enc P w base spare held n f0.type ((cs.drop f0.offset).take (P.cellsOf f0.type))=some y0 ∧
   DataW.trod enc P w base spare held n f1.type ((cs.drop f1.offset).take (P.cellsOf f1.type))=some y1∧DataW.trod enc P w base spare held n f2.type ((cs.drop f2.offset).take (P.cellsOf f2.type))=some y2 ∧
   DataW.trod enc P w base spare held n f3.type ((cs.drop f3.offset).take (P.cellsOf f3.type))=some y3∧DataW.trod enc P w base spare held n f4.type ((cs.drop f4.offset).take (P.cellsOf f4.type))=some y4:=by
 obtain ⟨xs,n,_,rfl,hl,hlen,hf⟩:=DataW.trod_struct ht h
 match xs,hlen with
 | [y0,y1,y2,y3,y4],_=>exact ⟨y0,y1,y2,y3,y4,n,hl,by simpa using hf 0 f0 rfl,by simpa using hf 1 f1 rfl,by simpa using hf 2 f2 rfl,by simpa using hf 3 f3 rfl,by simpa using hf 4 f4 rfl⟩

/-- A slice of whatever elements that are opened one by one. -/
theorem open_kind {P:Type} (K:Kind P) (q:P→Prop) {t e:TypeId} {fuel:Nat} {cs:List Value} {x:DataW H × List MemPlace} (ht:Tryz.prog.underlying t=some (.slice e)) (hc:Tryz.prog.cellsOf e=K.size) (hc0:0 < K.size)
  (hel:∀ (n:Nat) (l:List Value) y,DataW.trod enc Tryz.prog w base spare held n e l=some y→∃ p:P,l=K.cells p∧K.rd w p∧q p) (h:DataW.trod enc Tryz.prog w base spare held fuel t cs=some x) :
  ∃ (v:Value) (ps:List P),cs=[v]∧K.At w v ps∧ps.length≤9223372036854775807∧∀ p∈ps,q p:=by
 obtain ⟨a,cap,n,css,rfl,hl,hL,hcs⟩:=open_row ht hc hc0 h
 obtain ⟨ps,rfl,hq⟩:=list_pre2 K.cells (fun p=>K.rd w p∧q p) css (fun l hl=>by
  obtain ⟨_,y,hy⟩:=hcs l hl
  obtain ⟨p,h1,h2,h3⟩:=hel n l y hy
  exact ⟨p,h1,h2,h3⟩)
 rw [← List.flatMap_def] at hL
 refine ⟨.slice a (ps.map K.cells).length cap,ps,rfl,⟨a,cap,by rw [List.length_map],hL,fun p hp=>(hq p hp).1⟩,by simpa using hl,fun p hp=>(hq p hp).2⟩

set_option maxRecDepth 100000 in
theorem open_item {fuel:Nat} {cs:List Value} {x:DataW H × List MemPlace} (h:DataW.trod enc Tryz.prog w base spare held fuel 219 cs=some x):∃ z:ItemD,cs=z.cells:=by
 obtain ⟨y0,y1,n,_,hl,h0,h1⟩:=trod_struct2 Tryz.underlying219 h
 rw [show Tryz.prog.cellsOf 219=2 by kernel_rfl] at hl
 have e:Tryz.prog.cellsOf 2=1:=by kernel_rfl
 match cs,hl with
 | [c0,c1],_=>
  simp only [e,List.drop_zero,List.drop_succ_cons,List.take_succ_cons,List.take_zero] at h0 h1
  obtain ⟨k,e0,_⟩:=DataW.trod_int Tryz.underlying2 h0
  obtain ⟨y,e1,_⟩:=DataW.trod_int Tryz.underlying2 h1
  simp only [List.cons.injEq,and_true] at e0 e1
  exact ⟨⟨k,y⟩,by rw [e0,e1];rfl⟩

set_option maxRecDepth 100000 in
theorem open_undo {fuel:Nat} {cs:List Value} {x:DataW H × List MemPlace} (h:DataW.trod enc Tryz.prog w base spare held fuel 255 cs=some x):∃ z:UndoD,cs=z.cells:=by
 obtain ⟨y0,y1,y2,n,_,hl,h0,h1,h2⟩:=trod_struct3 Tryz.underlying255 h
 rw [show Tryz.prog.cellsOf 255=3 by kernel_rfl] at hl
 have e:Tryz.prog.cellsOf 2=1:=by kernel_rfl
 have e' : Tryz.prog.cellsOf 4=1:=by kernel_rfl
 match cs,hl with
 | [c0,c1,c2],_=>
  simp only [e,e',List.drop_zero,List.drop_succ_cons,List.take_succ_cons,List.take_zero] at h0 h1 h2
  obtain ⟨k,e0,_⟩:=DataW.trod_int Tryz.underlying2 h0
  obtain ⟨y,e1,_⟩:=DataW.trod_bool Tryz.underlying4 h1
  obtain ⟨v,e2,_⟩:=DataW.trod_int Tryz.underlying2 h2
  simp only [List.cons.injEq,and_true] at e0 e1 e2
  exact ⟨⟨k,y,v⟩,by rw [e0,e1,e2];rfl⟩

theorem open_txnK (n:Nat) (l:List Value) (y:DataW H × List MemPlace) (h:DataW.trod enc Tryz.prog w base spare held n 75 l=some y):∃ p:TxnQ,l=txnK.cells p∧txnK.rd w p∧TxnQ.wf p:=by
 obtain ⟨i,s,q,a,cap,zs,e,hz,hA⟩:=open_txnCells h
 exact ⟨⟨i,s,q,.slice a zs.length cap,zs⟩,e,actK_mk hA,hz⟩

theorem open_txnsK {fuel:Nat} {cs:List Value} {x:DataW H × List MemPlace} (h:DataW.trod enc Tryz.prog w base spare held fuel 65 cs=some x) :
  ∃ (v:Value) (ps:List TxnQ),cs=[v]∧txnK.At w v ps∧ps.length≤9223372036854775807∧∀ p∈ps,TxnQ.wf p:=
 open_kind txnK TxnQ.wf Tryz.underlying65 (by kernel_rfl) (by decide) open_txnK h

theorem open_itemK (n:Nat) (l:List Value) (y:DataW H × List MemPlace) (h:DataW.trod enc Tryz.prog w base spare held n 219 l=some y):∃ p:ItemD,l=itemK.cells p∧itemK.rd w p∧True:=by
 obtain ⟨z,e⟩:=open_item h
 exact ⟨z,e,trivial,trivial⟩

theorem open_itemsK {fuel:Nat} {cs:List Value} {x:DataW H × List MemPlace} (h:DataW.trod enc Tryz.prog w base spare held fuel 66 cs=some x) :
  ∃ (v:Value) (zs:List ItemD),cs=[v]∧itemK.At w v zs∧zs.length≤9223372036854775807:=by
 obtain ⟨v,ps,h1,h2,h3,_⟩:=open_kind itemK (fun _=>True) Tryz.underlying66 (by kernel_rfl) (by decide) open_itemK h
 exact ⟨v,ps,h1,h2,h3⟩

theorem open_undoK (n:Nat) (l:List Value) (y:DataW H × List MemPlace) (h:DataW.trod enc Tryz.prog w base spare held n 255 l=some y):∃ p:UndoD,l=undoK.cells p∧undoK.rd w p∧True:=by
 obtain ⟨z,e⟩:=open_undo h
 exact ⟨z,e,trivial,trivial⟩

theorem open_undosK (n:Nat) (l:List Value) (y:DataW H × List MemPlace) (h:DataW.trod enc Tryz.prog w base spare held n 217 l=some y):∃ p:USQ,l=ussK.cells p∧ussK.rd w p∧USQ.wf p:=by
 obtain ⟨v,ps,h1,h2,h3,_⟩:=open_kind undoK (fun _=>True) Tryz.underlying217 (by kernel_rfl) (by decide) open_undoK h
 exact ⟨⟨v,ps⟩,h1,h2,h3⟩

theorem open_ussK {fuel:Nat} {cs:List Value} {x:DataW H × List MemPlace} (h:DataW.trod enc Tryz.prog w base spare held fuel 67 cs=some x) :
  ∃ (v:Value) (ps:List USQ),cs=[v]∧ussK.At w v ps∧ps.length≤9223372036854775807∧∀ p∈ps,USQ.wf p:=
 open_kind ussK USQ.wf Tryz.underlying67 (by kernel_rfl) (by decide) open_undosK h

theorem open_repCells {fuel:Nat} {cs:List Value} {x:DataW H × List MemPlace} (h:DataW.trod enc Tryz.prog w base spare held fuel 69 cs=some x) :
  ∃ p:RepQ,cs=[p.vd,p.vb,p.vt,p.vu,p.vn]∧repK.rd w p∧p.wf:=by
 obtain ⟨y0,y1,y2,y3,y4,n,hl,h0,h1,h2,h3,h4⟩:=trod_struct5 Tryz.underlying69 h
 rw [show Tryz.prog.cellsOf 69=5 by kernel_rfl] at hl
 have e:Tryz.prog.cellsOf 65=1:=by kernel_rfl
 have e' : Tryz.prog.cellsOf 66=1:=by kernel_rfl
 have e2:Tryz.prog.cellsOf 67=1:=by kernel_rfl
 match cs,hl with
 | [c0,c1,c2,c3,c4],_=>
  simp only [e,e',e2,List.drop_zero,List.drop_succ_cons,List.take_succ_cons,List.take_zero] at h0 h1 h2 h3 h4
  obtain ⟨v0,z0,e0,a0,l0,w0⟩:=open_txnsK h0
  obtain ⟨v1,z1,e1,a1,l1⟩:=open_itemsK h1
  obtain ⟨v2,z2,e2,a2,l2,w2⟩:=open_txnsK h2
  obtain ⟨v3,z3,e3,a3,l3,w3⟩:=open_ussK h3
  obtain ⟨v4,z4,e4,a4,l4⟩:=open_itemsK h4
  simp only [List.cons.injEq,and_true] at e0 e1 e2 e3 e4
  exact ⟨⟨v0,z0,v1,z1,v2,z2,v3,z3,v4,z4⟩,by rw [e0,e1,e2,e3,e4],⟨a0,a1,a2,a3,a4⟩,⟨⟨l0,w0⟩,l1,⟨l2,w2⟩,⟨l3,w3⟩,l4⟩⟩

theorem open_rep {r:Reach} {b0:Nat} {v:Value} {d:DataW H} {p:List MemPlace} (hv:Value.okWide Tryz.prog w r b0 69 v) (h:DataW.Trod enc Tryz.prog w base spare held 69 v d p) :
  ∃ q:RepQ,v=.agg #[q.vd,q.vb,q.vt,q.vu,q.vn]∧repK.rd w q∧q.wf:=by
 obtain ⟨cs,rfl,hsz⟩:=okWide_struct Tryz.underlying69 hv
 obtain ⟨fuel,hf⟩:=h
 obtain ⟨q,e,h1,h2⟩:=open_repCells hf
 refine ⟨q,?_,h1,h2⟩
 congr 1
 apply Array.ext'
 simpa [Value.cells] using e

end
end Go.Proofs.YthmcgflmejofbaaGreatDoor
