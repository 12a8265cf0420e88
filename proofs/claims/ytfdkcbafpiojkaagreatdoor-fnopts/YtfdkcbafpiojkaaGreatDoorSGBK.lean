/- Texts joined, with what the laws reach alone. -/
import Derived.Test.YtfdkcbafpiojkaaGreatDoorSGBJ
import Derived.Test.YtfdkcbafpiojkaaGreatDoorSGBD
set_option linter.unusedVariables false
set_option linter.unusedSimpArgs false
namespace Go.Proofs.YtfdkcbafpiojkaaGreatDoor
open Go.RowKit
open Go.BigFrame
set_option maxRecDepth 100000
def drA (r:RepE):Int:=if repF r=0 then (r.tent.length:Int) else 0

def drE (r:RepE):RepE:=if repF r=0 then mkR r.done [] else ⟨[],[],[],[],[]⟩

theorem done_Q {p:RepQ} (h:repF p.e=0):(∀ q∈p.done,(TxnQ.e q).F=0)∧p.done.length≤16∧(allI [] (p.done.map TxnQ.e)).length≤8∧Good (allI [] (p.done.map TxnQ.e)):=by
 have a:=((lst_iff _).1 (rep_zero h).2.1).2.1
 have l:=(rep_zero h).1.1
 have a' : ∀ t∈p.done.map TxnQ.e,t.F=0:=fun t ht=>a t (List.mem_append_left _ ht)
 have g:=allI_good (xs:=[]) (by simp) nil_good a'
 refine ⟨fun q hq=>a' _ (List.mem_map.2 ⟨q,hq,rfl⟩),?_,g.1,g.2⟩
 have l' : (p.done.map TxnQ.e).length≤16:=l
 rwa [List.length_map] at l'

set_option maxRecDepth 100000 in
set_option maxHeartbeats 8000000 in
theorem implDropTent_any (p:RepQ) (w:World) (hg:ErrT w) (h:repK.rd w p) (nd:NiceV p.vd) (nt:NiceV p.vt) (hl:p.n≤1048576) :
  Calls Tryz.prog 12 #[.agg #[p.vd,p.vb,p.vt,p.vu,p.vn]] w fun e w' => ∃ q:RepQ,e=.returned (.agg #[.int .i64 (repF p.e),.int .i64 (drA p.e),.int .i64 0,q.vd,q.vb,q.vt,q.vu,q.vn])∧q.e=drE p.e∧repK.own w' q∧(repK.foot q).Nodup∧(∀ k∈repK.foot q,w.heap.size≤k)∧Below w.heap.size w w' := by
 have hf:=fun w hg h=>implReplicaFault_any p w hg h nd nt hl
 have hr:=fun (w' : World) hb=>repK.rd_below (w' := w') h hb
 have HE:Hid ((repF p.e=0→drA p.e=(p.tent.length:Int)∧drE p.e=mkR (p.done.map TxnQ.e) []∧(∀ q∈p.done,(TxnQ.e q).F=0)∧p.done.length≤16∧(allI [] (p.done.map TxnQ.e)).length≤8∧Good (allI [] (p.done.map TxnQ.e)))∧(repF p.e≠0→drA p.e=0∧drE p.e=⟨[],[],[],[],[]⟩)):=by
  refine ⟨fun h0=>⟨(if_pos h0).trans (by simp [RepQ.e]),if_pos h0,done_Q h0⟩,fun h0=>⟨if_neg h0,if_neg h0⟩⟩
 generalize drA p.e=AN at *
 generalize drE p.e=RE at *
 generalize repF p.e=c at *
 obtain ⟨pvd,pd,pvb,pb,pvt,pt,pvu,pu,pvn,pn⟩:=p
 obtain ⟨p0,p5,rfl⟩:∃ a c,pvd=.slice a pd.length c:=h.1.shape
 obtain ⟨p1,p6,rfl⟩:∃ a c,pvb=.slice a pb.length c:=h.2.1.shape
 obtain ⟨p2,p7,rfl⟩:∃ a c,pvt=.slice a pt.length c:=h.2.2.1.shape
 obtain ⟨p3,p8,rfl⟩:∃ a c,pvu=.slice a pu.length c:=h.2.2.2.1.shape
 obtain ⟨p4,p9,rfl⟩:∃ a c,pvn=.slice a pn.length c:=h.2.2.2.2.shape
 dsimp only at hf HE
 have hr1:∀ w' : World,Below w.heap.size w w' → txnK.At w' (.slice p0 pd.length p5) pd:=fun w' hb=>(hr w' hb).1
 have hpl:(pt.length:Int)≤1048576:=by dsimp only [RepQ.n] at hl;omega
 have hbX:Below w.heap.size w (w.alloc (.cells #[.slice p0 pd.length p5,.slice p1 pb.length p6,.slice p2 pt.length p7,.slice p3 pu.length p8,.slice p4 pn.length p9] 32)):=by go_grown
 have hW:Below (w.alloc (.cells #[.slice p0 pd.length p5,.slice p1 pb.length p6,.slice p2 pt.length p7,.slice p3 pu.length p8,.slice p4 pn.length p9] 32)).heap.size (w.alloc (.cells #[.slice p0 pd.length p5,.slice p1 pb.length p6,.slice p2 pt.length p7,.slice p3 pu.length p8,.slice p4 pn.length p9] 32)) ((w.alloc (.cells #[.slice p0 pd.length p5,.slice p1 pb.length p6,.slice p2 pt.length p7,.slice p3 pu.length p8,.slice p4 pn.length p9] 32)).alloc (.cells #[.int .i64 0,.int .i64 0,.int .i64 0,.slice none 0 0,.slice none 0 0,.slice none 0 0,.slice none 0 0,.slice none 0 0] 34)):=by go_grown
 have B0:=Blk.new w 32 #[.slice p0 pd.length p5,.slice p1 pb.length p6,.slice p2 pt.length p7,.slice p3 pu.length p8,.slice p4 pn.length p9]
 have hBl:w.heap.size < (w.alloc (.cells #[.slice p0 pd.length p5,.slice p1 pb.length p6,.slice p2 pt.length p7,.slice p3 pu.length p8,.slice p4 pn.length p9] 32)).heap.size:=B0.lt
 have B:=B0.below hW
 have RB:=Blk.new (w.alloc (.cells #[.slice p0 pd.length p5,.slice p1 pb.length p6,.slice p2 pt.length p7,.slice p3 pu.length p8,.slice p4 pn.length p9] 32)) 34 #[.int .i64 0,.int .i64 0,.int .i64 0,.slice none 0 0,.slice none 0 0,.slice none 0 0,.slice none 0 0,.slice none 0 0]
 simp only [World.size_alloc] at RB
 have HXS:Hid ((w.alloc (.cells #[.slice p0 pd.length p5,.slice p1 pb.length p6,.slice p2 pt.length p7,.slice p3 pu.length p8,.slice p4 pn.length p9] 32)).heap.size=w.heap.size + 1):=show _=_ by simp only [World.size_alloc]
 have hb0:Below w.heap.size w ((w.alloc (.cells #[.slice p0 pd.length p5,.slice p1 pb.length p6,.slice p2 pt.length p7,.slice p3 pu.length p8,.slice p4 pn.length p9] 32)).alloc (.cells #[.int .i64 0,.int .i64 0,.int .i64 0,.slice none 0 0,.slice none 0 0,.slice none 0 0,.slice none 0 0,.slice none 0 0] 34)):=by go_grown
 have hr0:=hr _ hb0
 have q0:=B.cell 0 _ rfl
 have q1:=B.cell 1 _ rfl
 have q2:=B.cell 2 _ rfl
 have q3:=B.cell 3 _ rfl
 have q4:=B.cell 4 _ rfl
 go_enter Tryz.func12,Tryz.ntmps12
 go_wp2_with fail
 clear q0 q1 q2 q3 q4
 have hg0:=hg.below hb0
 generalize ((w.alloc (.cells #[.slice p0 pd.length p5,.slice p1 pb.length p6,.slice p2 pt.length p7,.slice p3 pu.length p8,.slice p4 pn.length p9] 32)).alloc (.cells #[.int .i64 0,.int .i64 0,.int .i64 0,.slice none 0 0,.slice none 0 0,.slice none 0 0,.slice none 0 0,.slice none 0 0] 34))=W at *
 generalize (w.alloc (.cells #[.slice p0 pd.length p5,.slice p1 pb.length p6,.slice p2 pt.length p7,.slice p3 pu.length p8,.slice p4 pn.length p9] 32))=X at *
 refine (hf W hg0 hr0).mono ?_
 rintro e w2 ⟨rfl,hb⟩
 replace RB:=RB.below hb
 replace hb0:=hb0.trans (hb.mono hb0.size)
 replace hW:=hW.trans (hb.mono hW.size)
 clear hb hf hr0 B
 by_cases hc:c=0
 ·obtain ⟨hA,hR,hF,hl16,hx8,hgx⟩:=HE.out.1 hc
  subst hc
  clear HE
  have f0:=B0.lat 0 _ rfl
  have f2:=B0.lat 2 _ rfl
  have hnn:Nonempty (Lat X):=⟨⟨X,Below.refl _ _⟩⟩
  go_wp2_with fail
  replace RB:Blk w2.drew _ _ _:=RB
  replace hW:Below X.heap.size X w2.drew:=hW.drew
  replace hb0:Below w.heap.size w w2.drew:=hb0.drew
  refine text_begin (S:=fun w' => ∃ u:Lat X,w' = u.val) (by kernel_rfl) ?_
  refine seg_range [(0,2),(3,2)] 5 (by kernel_rfl) (by kernel_rfl) (by kernel_rfl) (by kernel_rfl) (by kernel_rfl) ⟨⟨_,hW⟩,rfl⟩ ?_
  simp only [pickR,List.toList_toArray,List.flatMap_cons,List.flatMap_nil,List.drop_succ_cons,List.drop_zero,List.take_succ_cons,List.take_zero,List.cons_append,List.nil_append,List.append_nil]
  repeat go_big_quiet_step (fail)
  refine wpQuiet_nil ?_
  refine quiet_at 2 (some 12) (.int .i64 pt.length) 4 (by kernel_rfl) (by kernel_rfl) (by kernel_rfl) (by kernel_rfl) (by kernel_rfl) (fun u _=>by kernel_rfl) ⟨⟨_,hW⟩,rfl⟩ ?_
  simp only [Act.put,List.setIfInBounds_toArray,List.set_cons_zero,List.set_cons_succ]
  generalize w2.drew=wd at *
  refine call_at 5 (some 15) 57 #[.slice p0 pd.length p5,.slice none 0 0] 3 (by kernel_rfl) (by kernel_rfl) (by kernel_rfl) (by kernel_rfl) (by kernel_rfl) ?_
  refine (recordOf_any (.slice p0 pd.length p5) (.slice none 0 0) pd [] wd (hr1 wd hb0) (Kind.own_nil (K:=txnK) wd).1.at hF (by simp) (by omega) (by simp)).mono ?_
  rintro e w9 ⟨vN,iN,vU,iU,rfl,RP,hb⟩
  have hrp:=replica_any wd vN iN vU iU (pd.map TxnQ.e) [] w9 RP hb (fun t ht=>by obtain ⟨q,hq,rfl⟩:=List.mem_map.1 ht;exact hF q hq) (by simp) (by rw [List.length_map];omega) (by simp) hx8 hx8 hgx
  clear RP
  replace RB:=RB.below hb
  replace hW:=hW.trans (hb.mono hW.size)
  replace hb0:=hb0.trans (hb.mono hb0.size)
  clear hb
  refine ⟨_,rfl,⟨⟨_,hW⟩,rfl⟩,?_⟩
  simp only [Act.put,List.setIfInBounds_toArray,List.set_cons_zero,List.set_cons_succ]
  refine call_at 6 (some 16) 58 #[.agg #[vN,iN,vU,iU]] 2 (by kernel_rfl) (by kernel_rfl) (by kernel_rfl) (by kernel_rfl) (by kernel_rfl) ?_
  refine hrp.mono ?_
  rintro e w3 ⟨q,rfl,eq,oq,nq,gq,hb⟩
  clear hrp
  have RB0:=RB.lt
  replace RB:=RB.below hb
  have hsz:=hb0.size
  replace hW:=hW.trans (hb.mono hW.size)
  replace hb0:=hb0.trans (hb.mono hb0.size)
  have gne:∀ k∈repK.foot q,k≠w.heap.size + 1:=fun k hk=>by have:=gq k hk;omega
  have gw:∀ k∈repK.foot q,w.heap.size≤k:=fun k hk=>by have:=gq k hk;omega
  clear hb gq
  refine ⟨_,rfl,⟨⟨_,hW⟩,rfl⟩,?_⟩
  simp only [Act.put,List.setIfInBounds_toArray,List.set_cons_zero,List.set_cons_succ]
  obtain ⟨qvd,qd,qvb,qb,qvt,qt,qvu,qu,qvn,qn⟩:=q
  obtain ⟨s0,t0,rfl⟩:∃ a c,qvd=.slice a qd.length c:=oq.1.shape
  obtain ⟨s1,t1,rfl⟩:∃ a c,qvb=.slice a qb.length c:=oq.2.1.shape
  obtain ⟨s2,t2,rfl⟩:∃ a c,qvt=.slice a qt.length c:=oq.2.2.1.shape
  obtain ⟨s3,t3,rfl⟩:∃ a c,qvu=.slice a qu.length c:=oq.2.2.2.1.shape
  obtain ⟨s4,t4,rfl⟩:∃ a c,qvn=.slice a qn.length c:=oq.2.2.2.2.shape
  have HEQ:Hid _:=eq
  clear eq
  refine seg_range [(7,1)] 1 (by kernel_rfl) (by kernel_rfl) (by kernel_rfl) (by kernel_rfl) (by kernel_rfl) ⟨⟨_,hW⟩,rfl⟩ ?_
  simp only [pickR,List.toList_toArray,List.flatMap_cons,List.flatMap_nil,List.drop_succ_cons,List.drop_zero,List.take_succ_cons,List.take_zero,List.cons_append,List.nil_append,List.append_nil]
  repeat go_big_quiet_step (fail)
  refine wpQuiet_nil ?_
  refine one_at 8 _ 0 (by kernel_rfl) rfl (by kernel_rfl) ?_
  have Rz:=RB.row #[.int .i64 0,.int .i64 pt.length,.int .i64 0,.slice s0 qd.length t0,.slice s1 qb.length t1,.slice s2 qt.length t2,.slice s3 qu.length t3,.slice s4 qn.length t4]
  have oz:=repK.own_out oq (out_row _ (w.heap.size + 1) #[.int .i64 0,.int .i64 pt.length,.int .i64 0,.slice s0 qd.length t0,.slice s1 qb.length t1,.slice s2 qt.length t2,.slice s3 qu.length t3,.slice s4 qn.length t4]) (fun k hk=>by simp only [List.mem_singleton];exact gne k hk)
  replace hW:=below_row (g:=w.heap.size + 1) hW (by rw [HXS.out];exact Nat.le_refl _) #[.int .i64 0,.int .i64 pt.length,.int .i64 0,.slice s0 qd.length t0,.slice s1 qb.length t1,.slice s2 qt.length t2,.slice s3 qu.length t3,.slice s4 qn.length t4]
  replace hb0:=below_row (g:=w.heap.size + 1) hb0 (by omega) #[.int .i64 0,.int .i64 pt.length,.int .i64 0,.slice s0 qd.length t0,.slice s1 qb.length t1,.slice s2 qt.length t2,.slice s3 qu.length t3,.slice s4 qn.length t4]
  refine st_row (by kernel_rfl) 34 _ _ rfl _ #[.int .i64 0,.int .i64 pt.length,.int .i64 0,.slice s0 qd.length t0,.slice s1 qb.length t1,.slice s2 qt.length t2,.slice s3 qu.length t3,.slice s4 qn.length t4] rfl rfl 34 _ RB sz_rr rfl (by simp [Value.oneCell']) ?_
  refine ThenGo.to ⟨⟨⟨_,hW⟩,rfl⟩,?_⟩
  refine text_end (by kernel_rfl) ?_
  have z0:=Rz.cell 0 _ rfl
  have z1:=Rz.cell 1 _ rfl
  have z2:=Rz.cell 2 _ rfl
  have z3:=Rz.cell 3 _ rfl
  have z4:=Rz.cell 4 _ rfl
  have z5:=Rz.cell 5 _ rfl
  have z6:=Rz.cell 6 _ rfl
  have z7:=Rz.cell 7 _ rfl
  go_wp2
  exact bodyPost_ret (v:=.agg #[.int .i64 0,.int .i64 pt.length,.int .i64 0,.slice s0 qd.length t0,.slice s1 qb.length t1,.slice s2 qt.length t2,.slice s3 qu.length t3,.slice s4 qn.length t4]) (by simp [results,Tryz.results12,go_sem,z0,z1,z2,z3,z4,z5,z6,z7]) rfl ⟨(⟨.slice s0 qd.length t0,qd,.slice s1 qb.length t1,qb,.slice s2 qt.length t2,qt,.slice s3 qu.length t3,qu,.slice s4 qn.length t4,qn⟩:RepQ),by rw [hA],HEQ.out.trans hR.symm,oz,nq,gw,hb0⟩
 ·obtain ⟨hA,hR⟩:=HE.out.2 hc
  have hC' : (c != 0)=true:=by simpa using hc
  clear HE
  have Rr:=RB.row #[.int .i64 c,.int .i64 0,.int .i64 0,.slice none 0 0,.slice none 0 0,.slice none 0 0,.slice none 0 0,.slice none 0 0]
  have hBr:=below_row (g:=w.heap.size + 1) hb0 (by omega) #[.int .i64 c,.int .i64 0,.int .i64 0,.slice none 0 0,.slice none 0 0,.slice none 0 0,.slice none 0 0,.slice none 0 0]
  go_wp2_with (first | (refine st_row (by kernel_rfl) 34 _ _ rfl _ #[.int .i64 c,.int .i64 0,.int .i64 0,.slice none 0 0,.slice none 0 0,.slice none 0 0,.slice none 0 0,.slice none 0 0] rfl rfl 34 _ RB sz_rr rfl (by simp [Value.oneCell']) ?_))
  have z0:=Rr.cell 0 _ rfl
  have z1:=Rr.cell 1 _ rfl
  have z2:=Rr.cell 2 _ rfl
  have z3:=Rr.cell 3 _ rfl
  have z4:=Rr.cell 4 _ rfl
  have z5:=Rr.cell 5 _ rfl
  have z6:=Rr.cell 6 _ rfl
  have z7:=Rr.cell 7 _ rfl
  first | done | skip
  exact bodyPost_ret (v:=.agg #[.int .i64 c,.int .i64 0,.int .i64 0,.slice none 0 0,.slice none 0 0,.slice none 0 0,.slice none 0 0,.slice none 0 0]) (by simp [results,Tryz.results12,go_sem,z0,z1,z2,z3,z4,z5,z6,z7]) rfl ⟨rep0,by rw [hA];rfl,hR.symm,(rep0_own _).1,by rw [(rep0_own w).2];simp,by rw [(rep0_own w).2];simp,hBr⟩

set_option maxRecDepth 100000 in
set_option maxHeartbeats 8000000 in
theorem specDropTent_any (p:RepQ) (w:World) (h:repK.own w p) (hl:p.n≤1048576) :
  Calls Tryz.prog 10 #[.agg #[p.vd,p.vb,p.vt,p.vu,p.vn]] w fun e w' => ∃ q:RepQ,e=.returned (.agg #[.int .i64 (repF p.e),.int .i64 (drA p.e),.int .i64 0,q.vd,q.vb,q.vt,q.vu,q.vn])∧q.e=drE p.e∧repK.own w' q∧(repK.foot q).Nodup∧(∀ k∈repK.foot q,w.heap.size≤k)∧Below w.heap.size w w' := by
 have hf:=fun b w hB h=>l9Fault_any b p w hB h hl
 have hr:=fun (w' : World) (hb:Below w.heap.size w w')=>repK.own_out (F:=[]) (w' := w') h (Out.of_below hb) (fun _ _=>by simp)
 have HE:Hid ((repF p.e=0→drA p.e=(p.tent.length:Int)∧drE p.e=mkR (p.done.map TxnQ.e) []∧(∀ q∈p.done,(TxnQ.e q).F=0)∧p.done.length≤16∧(allI [] (p.done.map TxnQ.e)).length≤8∧Good (allI [] (p.done.map TxnQ.e)))∧(repF p.e≠0→drA p.e=0∧drE p.e=⟨[],[],[],[],[]⟩)):=by
  refine ⟨fun h0=>⟨(if_pos h0).trans (by simp [RepQ.e]),if_pos h0,done_Q h0⟩,fun h0=>⟨if_neg h0,if_neg h0⟩⟩
 generalize drA p.e=AN at *
 generalize drE p.e=RE at *
 generalize repF p.e=c at *
 obtain ⟨pvd,pd,pvb,pb,pvt,pt,pvu,pu,pvn,pn⟩:=p
 obtain ⟨p0,p5,rfl⟩:∃ a c,pvd=.slice a pd.length c:=h.1.shape
 obtain ⟨p1,p6,rfl⟩:∃ a c,pvb=.slice a pb.length c:=h.2.1.shape
 obtain ⟨p2,p7,rfl⟩:∃ a c,pvt=.slice a pt.length c:=h.2.2.1.shape
 obtain ⟨p3,p8,rfl⟩:∃ a c,pvu=.slice a pu.length c:=h.2.2.2.1.shape
 obtain ⟨p4,p9,rfl⟩:∃ a c,pvn=.slice a pn.length c:=h.2.2.2.2.shape
 dsimp only at hf HE
 have hr1:∀ w' : World,Below w.heap.size w w' → txnK.At w' (.slice p0 pd.length p5) pd:=fun w' hb=>(hr w' hb).1.at
 have hpl:(pt.length:Int)≤1048576:=by dsimp only [RepQ.n] at hl;omega
 have hbX:Below w.heap.size w (w.alloc (.cells #[.slice p0 pd.length p5,.slice p1 pb.length p6,.slice p2 pt.length p7,.slice p3 pu.length p8,.slice p4 pn.length p9] 32)):=by go_grown
 have hW:Below (w.alloc (.cells #[.slice p0 pd.length p5,.slice p1 pb.length p6,.slice p2 pt.length p7,.slice p3 pu.length p8,.slice p4 pn.length p9] 32)).heap.size (w.alloc (.cells #[.slice p0 pd.length p5,.slice p1 pb.length p6,.slice p2 pt.length p7,.slice p3 pu.length p8,.slice p4 pn.length p9] 32)) ((w.alloc (.cells #[.slice p0 pd.length p5,.slice p1 pb.length p6,.slice p2 pt.length p7,.slice p3 pu.length p8,.slice p4 pn.length p9] 32)).alloc (.cells #[.int .i64 0,.int .i64 0,.int .i64 0,.slice none 0 0,.slice none 0 0,.slice none 0 0,.slice none 0 0,.slice none 0 0] 34)):=by go_grown
 have B0:=Blk.new w 32 #[.slice p0 pd.length p5,.slice p1 pb.length p6,.slice p2 pt.length p7,.slice p3 pu.length p8,.slice p4 pn.length p9]
 have hBl:w.heap.size < (w.alloc (.cells #[.slice p0 pd.length p5,.slice p1 pb.length p6,.slice p2 pt.length p7,.slice p3 pu.length p8,.slice p4 pn.length p9] 32)).heap.size:=B0.lt
 have B:=B0.below hW
 have RB:=Blk.new (w.alloc (.cells #[.slice p0 pd.length p5,.slice p1 pb.length p6,.slice p2 pt.length p7,.slice p3 pu.length p8,.slice p4 pn.length p9] 32)) 34 #[.int .i64 0,.int .i64 0,.int .i64 0,.slice none 0 0,.slice none 0 0,.slice none 0 0,.slice none 0 0,.slice none 0 0]
 simp only [World.size_alloc] at RB
 have HXS:Hid ((w.alloc (.cells #[.slice p0 pd.length p5,.slice p1 pb.length p6,.slice p2 pt.length p7,.slice p3 pu.length p8,.slice p4 pn.length p9] 32)).heap.size=w.heap.size + 1):=show _=_ by simp only [World.size_alloc]
 have hb0:Below w.heap.size w ((w.alloc (.cells #[.slice p0 pd.length p5,.slice p1 pb.length p6,.slice p2 pt.length p7,.slice p3 pu.length p8,.slice p4 pn.length p9] 32)).alloc (.cells #[.int .i64 0,.int .i64 0,.int .i64 0,.slice none 0 0,.slice none 0 0,.slice none 0 0,.slice none 0 0,.slice none 0 0] 34)):=by go_grown
 have hr0:=hr _ hb0
 go_enter Tryz.func10,Tryz.ntmps10
 go_wp2_with fail
 generalize ((w.alloc (.cells #[.slice p0 pd.length p5,.slice p1 pb.length p6,.slice p2 pt.length p7,.slice p3 pu.length p8,.slice p4 pn.length p9] 32)).alloc (.cells #[.int .i64 0,.int .i64 0,.int .i64 0,.slice none 0 0,.slice none 0 0,.slice none 0 0,.slice none 0 0,.slice none 0 0] 34))=W at *
 generalize (w.alloc (.cells #[.slice p0 pd.length p5,.slice p1 pb.length p6,.slice p2 pt.length p7,.slice p3 pu.length p8,.slice p4 pn.length p9] 32))=X at *
 refine (hf _ W B hr0).mono ?_
 rintro e w2 ⟨rfl,hb⟩
 replace RB:=RB.below hb
 replace hb0:=hb0.trans (hb.mono hb0.size)
 replace hW:=hW.trans (hb.mono hW.size)
 clear hb hf hr0 B
 by_cases hc:c=0
 ·obtain ⟨hA,hR,hF,hl16,hx8,hgx⟩:=HE.out.1 hc
  subst hc
  clear HE
  have f0:=B0.lat 0 _ rfl
  have f2:=B0.lat 2 _ rfl
  have hnn:Nonempty (Lat X):=⟨⟨X,Below.refl _ _⟩⟩
  go_wp2_with fail
  replace RB:Blk w2.drew _ _ _:=RB
  replace hW:Below X.heap.size X w2.drew:=hW.drew
  replace hb0:Below w.heap.size w w2.drew:=hb0.drew
  refine text_begin (S:=fun w' => ∃ u:Lat X,w' = u.val) (by kernel_rfl) ?_
  refine seg_range [(0,2),(3,2)] 4 (by kernel_rfl) (by kernel_rfl) (by kernel_rfl) (by kernel_rfl) (by kernel_rfl) ⟨⟨_,hW⟩,rfl⟩ ?_
  simp only [pickR,List.toList_toArray,List.flatMap_cons,List.flatMap_nil,List.drop_succ_cons,List.drop_zero,List.take_succ_cons,List.take_zero,List.cons_append,List.nil_append,List.append_nil]
  repeat go_big_quiet_step (fail)
  refine wpQuiet_nil ?_
  refine quiet_at 2 (some 11) (.int .i64 pt.length) 3 (by kernel_rfl) (by kernel_rfl) (by kernel_rfl) (by kernel_rfl) (by kernel_rfl) (fun u _=>by kernel_rfl) ⟨⟨_,hW⟩,rfl⟩ ?_
  simp only [Act.put,List.setIfInBounds_toArray,List.set_cons_zero,List.set_cons_succ]
  generalize w2.drew=wd at *
  refine call_at 5 (some 14) 54 #[.slice p0 pd.length p5,.slice none 0 0] 2 (by kernel_rfl) (by kernel_rfl) (by kernel_rfl) (by kernel_rfl) (by kernel_rfl) ?_
  refine (l9Make_any (.slice p0 pd.length p5) (.slice none 0 0) pd [] wd (hr1 wd hb0) (Kind.own_nil (K:=txnK) wd).1.at hF (by simp) (by omega) (by simp)).mono ?_
  rintro e w3 ⟨q,rfl,eq,oq,nq,gq,hb⟩
  have RB0:=RB.lt
  replace RB:=RB.below hb
  have hsz:=hb0.size
  replace hW:=hW.trans (hb.mono hW.size)
  replace hb0:=hb0.trans (hb.mono hb0.size)
  have gne:∀ k∈repK.foot q,k≠w.heap.size + 1:=fun k hk=>by have:=gq k hk;omega
  have gw:∀ k∈repK.foot q,w.heap.size≤k:=fun k hk=>by have:=gq k hk;omega
  clear hb gq
  refine ⟨_,rfl,⟨⟨_,hW⟩,rfl⟩,?_⟩
  simp only [Act.put,List.setIfInBounds_toArray,List.set_cons_zero,List.set_cons_succ]
  obtain ⟨qvd,qd,qvb,qb,qvt,qt,qvu,qu,qvn,qn⟩:=q
  obtain ⟨s0,t0,rfl⟩:∃ a c,qvd=.slice a qd.length c:=oq.1.shape
  obtain ⟨s1,t1,rfl⟩:∃ a c,qvb=.slice a qb.length c:=oq.2.1.shape
  obtain ⟨s2,t2,rfl⟩:∃ a c,qvt=.slice a qt.length c:=oq.2.2.1.shape
  obtain ⟨s3,t3,rfl⟩:∃ a c,qvu=.slice a qu.length c:=oq.2.2.2.1.shape
  obtain ⟨s4,t4,rfl⟩:∃ a c,qvn=.slice a qn.length c:=oq.2.2.2.2.shape
  have HEQ:Hid _:=eq
  clear eq
  refine seg_range [(6,1)] 1 (by kernel_rfl) (by kernel_rfl) (by kernel_rfl) (by kernel_rfl) (by kernel_rfl) ⟨⟨_,hW⟩,rfl⟩ ?_
  simp only [pickR,List.toList_toArray,List.flatMap_cons,List.flatMap_nil,List.drop_succ_cons,List.drop_zero,List.take_succ_cons,List.take_zero,List.cons_append,List.nil_append,List.append_nil]
  repeat go_big_quiet_step (fail)
  refine wpQuiet_nil ?_
  refine one_at 7 _ 0 (by kernel_rfl) rfl (by kernel_rfl) ?_
  have Rz:=RB.row #[.int .i64 0,.int .i64 pt.length,.int .i64 0,.slice s0 qd.length t0,.slice s1 qb.length t1,.slice s2 qt.length t2,.slice s3 qu.length t3,.slice s4 qn.length t4]
  have oz:=repK.own_out oq (out_row _ (w.heap.size + 1) #[.int .i64 0,.int .i64 pt.length,.int .i64 0,.slice s0 qd.length t0,.slice s1 qb.length t1,.slice s2 qt.length t2,.slice s3 qu.length t3,.slice s4 qn.length t4]) (fun k hk=>by simp only [List.mem_singleton];exact gne k hk)
  replace hW:=below_row (g:=w.heap.size + 1) hW (by rw [HXS.out];exact Nat.le_refl _) #[.int .i64 0,.int .i64 pt.length,.int .i64 0,.slice s0 qd.length t0,.slice s1 qb.length t1,.slice s2 qt.length t2,.slice s3 qu.length t3,.slice s4 qn.length t4]
  replace hb0:=below_row (g:=w.heap.size + 1) hb0 (by omega) #[.int .i64 0,.int .i64 pt.length,.int .i64 0,.slice s0 qd.length t0,.slice s1 qb.length t1,.slice s2 qt.length t2,.slice s3 qu.length t3,.slice s4 qn.length t4]
  refine st_row (by kernel_rfl) 34 _ _ rfl _ #[.int .i64 0,.int .i64 pt.length,.int .i64 0,.slice s0 qd.length t0,.slice s1 qb.length t1,.slice s2 qt.length t2,.slice s3 qu.length t3,.slice s4 qn.length t4] rfl rfl 34 _ RB sz_rr rfl (by simp [Value.oneCell']) ?_
  refine ThenGo.to ⟨⟨⟨_,hW⟩,rfl⟩,?_⟩
  refine text_end (by kernel_rfl) ?_
  have z0:=Rz.cell 0 _ rfl
  have z1:=Rz.cell 1 _ rfl
  have z2:=Rz.cell 2 _ rfl
  have z3:=Rz.cell 3 _ rfl
  have z4:=Rz.cell 4 _ rfl
  have z5:=Rz.cell 5 _ rfl
  have z6:=Rz.cell 6 _ rfl
  have z7:=Rz.cell 7 _ rfl
  go_wp2
  exact bodyPost_ret (v:=.agg #[.int .i64 0,.int .i64 pt.length,.int .i64 0,.slice s0 qd.length t0,.slice s1 qb.length t1,.slice s2 qt.length t2,.slice s3 qu.length t3,.slice s4 qn.length t4]) (by simp [results,Tryz.results10,go_sem,z0,z1,z2,z3,z4,z5,z6,z7]) rfl ⟨(⟨.slice s0 qd.length t0,qd,.slice s1 qb.length t1,qb,.slice s2 qt.length t2,qt,.slice s3 qu.length t3,qu,.slice s4 qn.length t4,qn⟩:RepQ),by rw [hA],HEQ.out.trans hR.symm,oz,nq,gw,hb0⟩
 ·obtain ⟨hA,hR⟩:=HE.out.2 hc
  have hC' : (c != 0)=true:=by simpa using hc
  clear HE
  have hlb:=fun w=>l9Bad_any c w
  go_wp2_with fail
  refine (hlb _).mono ?_
  rintro e w8 ⟨rfl,hb8⟩
  replace hb0:=hb0.trans (hb8.mono hb0.size)
  replace RB:=RB.below hb8
  clear hb8 hlb
  have Rr:=RB.row #[.int .i64 c,.int .i64 0,.int .i64 0,.slice none 0 0,.slice none 0 0,.slice none 0 0,.slice none 0 0,.slice none 0 0]
  have hBr:=below_row (g:=w.heap.size + 1) hb0 (by omega) #[.int .i64 c,.int .i64 0,.int .i64 0,.slice none 0 0,.slice none 0 0,.slice none 0 0,.slice none 0 0,.slice none 0 0]
  go_wp2_with (first | (refine st_row (by kernel_rfl) 34 _ _ rfl _ #[.int .i64 c,.int .i64 0,.int .i64 0,.slice none 0 0,.slice none 0 0,.slice none 0 0,.slice none 0 0,.slice none 0 0] rfl rfl 34 _ RB sz_rr rfl (by simp [Value.oneCell']) ?_))
  have z0:=Rr.cell 0 _ rfl
  have z1:=Rr.cell 1 _ rfl
  have z2:=Rr.cell 2 _ rfl
  have z3:=Rr.cell 3 _ rfl
  have z4:=Rr.cell 4 _ rfl
  have z5:=Rr.cell 5 _ rfl
  have z6:=Rr.cell 6 _ rfl
  have z7:=Rr.cell 7 _ rfl
  first | done | skip
  exact bodyPost_ret (v:=.agg #[.int .i64 c,.int .i64 0,.int .i64 0,.slice none 0 0,.slice none 0 0,.slice none 0 0,.slice none 0 0,.slice none 0 0]) (by simp [results,Tryz.results10,go_sem,z0,z1,z2,z3,z4,z5,z6,z7]) rfl ⟨rep0,by rw [hA];rfl,hR.symm,(rep0_own _).1,by rw [(rep0_own w).2];simp,by rw [(rep0_own w).2];simp,hBr⟩

end Go.Proofs.YtfdkcbafpiojkaaGreatDoor
namespace Go.Proofs.YtfdkcbafpiojkaaGreatDoor
open Go.RowKit
open Go.BigFrame
set_option maxRecDepth 100000
def opC (r:RepE) (t:TxnD):Int:=if repF r=0 then (if t.F=0 then (if knw r.done t=true∨knw r.tent t=true then 6 else if 8≤r.tent.length then 7 else 0) else t.F) else repF r

def opA (r:RepE) (t:TxnD):Int:=if opC r t=0 then (runA r.now t.acts).1 else 0

def opV (r:RepE) (t:TxnD):Int:=if opC r t=0 then runV r.now t.acts else 0

def opE (r:RepE) (t:TxnD):RepE:=if opC r t=0 then mkR r.done (r.tent ++ [t]) else ⟨[],[],[],[],[]⟩

/-- The ways through the tests. -/
theorem opC_ways (r:RepE) (t:TxnD):(repF r≠0∧opC r t=repF r)∨(repF r=0∧t.F≠0∧opC r t=t.F)∨(repF r=0∧t.F=0∧knw r.done t=true∧opC r t=6)∨(repF r=0∧t.F=0∧knw r.done t=false∧knw r.tent t=true∧opC r t=6) ∨
  (repF r=0∧t.F=0∧knw r.done t=false∧knw r.tent t=false∧8≤r.tent.length∧opC r t=7)∨(repF r=0∧t.F=0∧knw r.done t=false∧knw r.tent t=false∧¬ 8≤r.tent.length∧opC r t=0):=by
 unfold opC
 by_cases h0:repF r=0
 ·by_cases h1:t.F=0
  ·cases h2:knw r.done t <;> cases h3:knw r.tent t <;> by_cases h4:8≤r.tent.length <;> simp [h0,h1,h2,h3,h4]
  ·simp [h0,h1]
 ·simp [h0]

theorem opC_zero {r:RepE} {t:TxnD} (h:opC r t=0):repF r=0∧t.F=0∧knw r.done t=false∧knw r.tent t=false∧r.tent.length < 8:=by
 rcases opC_ways r t with ⟨a,b⟩ | ⟨_,a,b⟩ | ⟨_,_,_,b⟩ | ⟨_,_,_,_,b⟩ | ⟨_,_,_,_,_,b⟩ | ⟨a,b,c,d,e,_⟩
 ·exact absurd (b.symm.trans h) a
 ·exact absurd (b.symm.trans h) a
 ·rw [b] at h;exact absurd h (by decide)
 ·rw [b] at h;exact absurd h (by decide)
 ·rw [b] at h;exact absurd h (by decide)
 ·exact ⟨a,b,c,d,by omega⟩

set_option maxRecDepth 100000 in
set_option maxHeartbeats 8000000 in
theorem checkEarly_any (p:RepQ) (t:TxnQ) (w:World) (h:repK.rd w p) (nd:NiceV p.vd) (nt:NiceV p.vt) (hl:p.n≤1048576) (hT:txnK.rd w t) (hl' : TxnQ.n t≤1048576) :
  Calls Tryz.prog 68 #[.agg #[p.vd,p.vb,p.vt,p.vu,p.vn],.agg #[.int .i64 t.i,.int .i64 t.s,.int .i64 t.q,t.va]] w fun e w' => e=.returned (misC (opC p.e t.e))∧Below w.heap.size w w' := by
 have hck:=fun w h=>checked_any p w h nd nt hl
 have hr:=fun (w' : World) hb=>repK.rd_below (w' := w') h hb
 have hW0:=opC_ways p.e t.e
 have hT' : actK.At w t.va t.acts:=hT
 have hkd:=fun w' (ha:txnK.At w' p.vd p.done) a n c=>implHasTxn_any p.vd p.done t.e a n c w' ha (by dsimp only [RepQ.n] at hl;omega)
 have hkt:=fun w' (ha:txnK.At w' p.vt p.tent) a n c=>implHasTxn_any p.vt p.tent t.e a n c w' ha (by dsimp only [RepQ.n] at hl;omega)
 obtain ⟨ti,ts,tq,va,acts⟩:=t
 obtain ⟨xa,xk,rfl⟩:∃ a c,va=.slice a acts.length c:=hT'.shape
 have hA:ActRow w xa acts:=(actK_at hT').2
 have htf:=fun w h=>txnFault_any ti ts tq xa xk acts w h (by simpa [TxnQ.n] using hl')
 change ∀ w h,Calls _ _ _ w fun e w' => e=.returned (.int .i64 (TxnD.F (TxnQ.e ⟨ti,ts,tq,.slice xa acts.length xk,acts⟩)))∧_ at htf
 have hkd' : ∀ w',txnK.At w' p.vd p.done→Calls Tryz.prog 134 #[p.vd,.agg #[.int .i64 ti,.int .i64 ts,.int .i64 tq,.slice xa acts.length xk]] w' fun e w'' => e=.returned (.bool (knw p.e.done (TxnQ.e ⟨ti,ts,tq,.slice xa acts.length xk,acts⟩)))∧Below w'.heap.size w' w'' := fun w' ha=>hkd w' ha xa acts.length xk
 have hkt' : ∀ w',txnK.At w' p.vt p.tent→Calls Tryz.prog 134 #[p.vt,.agg #[.int .i64 ti,.int .i64 ts,.int .i64 tq,.slice xa acts.length xk]] w' fun e w'' => e=.returned (.bool (knw p.e.tent (TxnQ.e ⟨ti,ts,tq,.slice xa acts.length xk,acts⟩)))∧Below w'.heap.size w' w'' := fun w' ha=>hkt w' ha xa acts.length xk
 have htl:p.e.tent.length=p.tent.length:=by simp [RepQ.e]
 rw [htl] at hW0
 have h8:repF p.e=0→p.tent.length≤8:=fun h0=>by have:=(rep_zero h0).1.2;rwa [htl] at this
 have hpt:(p.tent.length:Int)≤1048576:=by dsimp only [RepQ.n] at hl;omega
 have hck' : ∀ w,repK.rd w p→Calls Tryz.prog 80 #[.agg #[p.vd,p.vb,p.vt,p.vu,p.vn]] w fun e w' => ∃ (a0 a1 a2 a3:Option Addr) (l0 c0 l1 c1 l2 c2 l3 c3:Nat),e=.returned (.tuple #[.agg #[.slice a0 l0 c0,.slice a1 l1 c1,.slice a2 l2 c2,.slice a3 l3 c3],misC (repF p.e)])∧Below w.heap.size w w' := fun w h=>(hck w h).mono fun e w' hp=>by
  obtain ⟨a0,a1,a2,a3,l0,c0,l1,c1,l2,c2,l3,c3,he,_,hb⟩:=hp
  exact ⟨a0,a1,a2,a3,l0,c0,l1,c1,l2,c2,l3,c3,he,hb⟩
 clear hck hkd hkt htl hT hT' hl hl'
 generalize opC p.e (TxnQ.e ⟨ti,ts,tq,.slice xa acts.length xk,acts⟩)=C at *
 generalize TxnD.F (TxnQ.e ⟨ti,ts,tq,.slice xa acts.length xk,acts⟩)=TF at *
 generalize knw p.e.done (TxnQ.e ⟨ti,ts,tq,.slice xa acts.length xk,acts⟩)=KD at *
 generalize knw p.e.tent (TxnQ.e ⟨ti,ts,tq,.slice xa acts.length xk,acts⟩)=KT at *
 generalize repF p.e=RF at *
 obtain ⟨pvd,pd,pvb,pb,pvt,pt,pvu,pu,pvn,pn⟩:=p
 obtain ⟨p0,p5,rfl⟩:∃ a c,pvd=.slice a pd.length c:=h.1.shape
 obtain ⟨p1,p6,rfl⟩:∃ a c,pvb=.slice a pb.length c:=h.2.1.shape
 obtain ⟨p2,p7,rfl⟩:∃ a c,pvt=.slice a pt.length c:=h.2.2.1.shape
 obtain ⟨p3,p8,rfl⟩:∃ a c,pvu=.slice a pu.length c:=h.2.2.2.1.shape
 obtain ⟨p4,p9,rfl⟩:∃ a c,pvn=.slice a pn.length c:=h.2.2.2.2.shape
 dsimp only at hr hW0 hkd' hkt' h8 hpt hck'
 have hb0:Below w.heap.size w ((w.alloc (.cells #[.slice p0 pd.length p5,.slice p1 pb.length p6,.slice p2 pt.length p7,.slice p3 pu.length p8,.slice p4 pn.length p9] 32)).alloc (.cells #[.int .i64 ti,.int .i64 ts,.int .i64 tq,.slice xa acts.length xk] 49)):=by go_grown
 have BA:=(Blk.new w 32 #[.slice p0 pd.length p5,.slice p1 pb.length p6,.slice p2 pt.length p7,.slice p3 pu.length p8,.slice p4 pn.length p9]).below (w' := ((w.alloc (.cells #[.slice p0 pd.length p5,.slice p1 pb.length p6,.slice p2 pt.length p7,.slice p3 pu.length p8,.slice p4 pn.length p9] 32)).alloc (.cells #[.int .i64 ti,.int .i64 ts,.int .i64 tq,.slice xa acts.length xk] 49))) (by go_grown)
 have BT:=Blk.new (w.alloc (.cells #[.slice p0 pd.length p5,.slice p1 pb.length p6,.slice p2 pt.length p7,.slice p3 pu.length p8,.slice p4 pn.length p9] 32)) 49 #[.int .i64 ti,.int .i64 ts,.int .i64 tq,.slice xa acts.length xk]
 simp only [World.size_alloc] at BT
 go_enter Tryz.func68,Tryz.ntmps68
 go_wp2_with fail
 generalize (w.alloc (.cells #[.slice p0 pd.length p5,.slice p1 pb.length p6,.slice p2 pt.length p7,.slice p3 pu.length p8,.slice p4 pn.length p9] 32)).alloc (.cells #[.int .i64 ti,.int .i64 ts,.int .i64 tq,.slice xa acts.length xk] 49)=W at *
 refine (hck' W (hr W hb0)).mono ?_
 rintro e w1 ⟨a0,a1,a2,a3,l0,c0,l1,c1,l2,c2,l3,c3,rfl,hb⟩
 replace BA:=BA.below hb
 replace BT:=BT.below hb
 replace hb0:=below_from hb0 hb
 clear hb hck'
 have hbx:Below w1.heap.size w1 (w1.alloc (.cells #[.slice a0 l0 c0,.slice a1 l1 c1,.slice a2 l2 c2,.slice a3 l3 c3] 103)):=by go_grown
 have BA1:=BA.below hbx
 have BT1:=BT.below hbx
 have hb1:=below_from hb0 hbx
 clear hbx BA BT
 have e1:=neq_err
 have e2:=neq_nil
 rcases hW0 with ⟨h0,hC⟩ | ⟨h0,h1,hC⟩ | ⟨h0,h1,h2,hC⟩ | ⟨h0,h1,h2,h3,hC⟩ | ⟨h0,h1,h2,h3,h4,hC⟩ | ⟨h0,h1,h2,h3,h4,hC⟩
 ·have HC:Hid (C=RF):=hC
  clear hC
  rw [show misC RF=.iface 195 (.agg #[.int .i64 RF]) from if_neg h0]
  go_wp2
  go_ret
  exact ⟨by rw [HC.out,show misC RF=.iface 195 (.agg #[.int .i64 RF]) from if_neg h0];rfl,hb1⟩
 all_goals
  rw [show misC RF=.nilIface from if_pos h0]
  have t0:=BT1.cell 0 _ rfl
  have t1:=BT1.cell 1 _ rfl
  have t2:=BT1.cell 2 _ rfl
  have t3:=BT1.cell 3 _ rfl
  go_wp2_with fail
  clear t0 t1 t2 t3
  generalize w1.alloc (.cells #[.slice a0 l0 c0,.slice a1 l1 c1,.slice a2 l2 c2,.slice a3 l3 c3] 103)=W1 at *
  refine (htf W1 (hA.below hb1)).mono ?_
  rintro e w2 ⟨rfl,hb⟩
  replace BA1:=BA1.below hb
  replace BT1:=BT1.below hb
  replace hb1:=below_from hb1 hb
  clear hb htf
 ·have HC:Hid (C=TF):=hC
  have h1' : (TF != 0)=true:=by simpa using h1
  clear hC
  go_wp2
  go_ret
  exact ⟨by rw [HC.out,show misC TF=.iface 195 (.agg #[.int .i64 TF]) from if_neg h1];rfl,hb1⟩
 all_goals
  subst h1
  have t0:=BT1.cell 0 _ rfl
  have t1:=BT1.cell 1 _ rfl
  have t2:=BT1.cell 2 _ rfl
  have t3:=BT1.cell 3 _ rfl
  have d0:=BA1.cell 0 _ rfl
  have HC:Hid (C=_):=hC
  clear hC
  go_wp2_with fail
  clear t0 t1 t2 t3 d0
  refine (hkd' w2 (hr w2 hb1).1).mono ?_
  rintro e w3 ⟨rfl,hb⟩
  replace BA1:=BA1.below hb
  replace BT1:=BT1.below hb
  replace hb1:=below_from hb1 hb
  clear hb hkd'
 ·go_wp2
  go_ret
  exact ⟨by rw [HC.out];rfl,hb1⟩
 all_goals
  have t0:=BT1.cell 0 _ rfl
  have t1:=BT1.cell 1 _ rfl
  have t2:=BT1.cell 2 _ rfl
  have t3:=BT1.cell 3 _ rfl
  have d2:=BA1.cell 2 _ rfl
  go_wp2_with fail
  clear t0 t1 t2 t3 d2
  refine (hkt' w3 (hr w3 hb1).2.2.1).mono ?_
  rintro e w4 ⟨rfl,hb⟩
  replace BA1:=BA1.below hb
  replace BT1:=BT1.below hb
  replace hb1:=below_from hb1 hb
  clear hb hkt'
 ·go_wp2
  go_ret
  exact ⟨by rw [HC.out];rfl,hb1⟩
 ·have e8:((pt.length:Int) == 8)=true:=by have:=h8 h0;simp;omega
  have d2:=BA1.cell 2 _ rfl
  go_wp2
  go_ret
  exact ⟨by rw [HC.out];rfl,hb1⟩
 ·have e8:((pt.length:Int) == 8)=false:=by simp;omega
  have d2:=BA1.cell 2 _ rfl
  go_wp2
  go_ret
  exact ⟨by rw [HC.out];rfl,hb1⟩

end Go.Proofs.YtfdkcbafpiojkaaGreatDoor
