/- Texts joined, with what the laws reach alone. -/
import Derived.Test.YtfdkcbafpiojkaaGreatDoorSGBE
set_option linter.unusedVariables false
set_option linter.unusedSimpArgs false
namespace Go.Proofs.YtfdkcbafpiojkaaGreatDoor
open Go.RowKit
open Go.BigFrame
set_option maxRecDepth 100000
def plN (ds ds' : List TxnD):Int:=if bthF ds ds' = 0 then (comN ds ds' : Int) else 0

def plB (ds ds' : List TxnD):Int:=if bthF ds ds' = 0 then (if ds'.drop (comN ds ds')=[] then 0 else ((ds.drop (comN ds ds')).length:Int)) else 0

def plA (ds ds' : List TxnD):List TxnD:=if bthF ds ds' = 0 then ds'.drop (comN ds ds') else []

def plK (ds ds' : List TxnD):List TxnD:=if bthF ds ds' = 0 then (if ds'.drop (comN ds ds')=[] then ds.drop (comN ds ds') else witL (ds.drop (comN ds ds')) ds') else []

theorem pl_bad {ds ds' : List TxnD} (h:bthF ds ds' ≠ 0):plN ds ds' = 0∧plB ds ds' = 0∧plA ds ds' = []∧plK ds ds' = []:=⟨if_neg h,if_neg h,if_neg h,if_neg h⟩

theorem pl_all {ds ds' : List TxnD} (h:bthF ds ds' = 0) (h1:ds'.drop (comN ds ds')=[]):plN ds ds' = (comN ds ds' : Int)∧plB ds ds' = 0∧plA ds ds' = []∧plK ds ds' = ds.drop (comN ds ds'):=by
 unfold plN plB plA plK
 rw [if_pos h,if_pos h,if_pos h,if_pos h,if_pos h1,if_pos h1,h1]
 exact ⟨rfl,rfl,rfl,rfl⟩

theorem pl_new {ds ds' : List TxnD} (h:bthF ds ds' = 0) (h1:ds'.drop (comN ds ds')≠[]):plN ds ds' = (comN ds ds' : Int)∧plB ds ds' = ((ds.drop (comN ds ds')).length:Int)∧plA ds ds' = ds'.drop (comN ds ds')∧plK ds ds' = witL (ds.drop (comN ds ds')) ds' := by
 unfold plN plB plA plK
 rw [if_pos h,if_pos h,if_pos h,if_pos h,if_neg h1,if_neg h1]
 exact ⟨rfl,rfl,rfl,rfl⟩

theorem drop_n (ps:List TxnQ) (n:Nat):(ps.drop n).length + nmL TxnQ.n (ps.drop n)≤ps.length + nmL TxnQ.n ps:=by
 have e:nmL TxnQ.n ps=nmL TxnQ.n (ps.take n) + nmL TxnQ.n (ps.drop n):=by
  conv=>lhs;rw [← List.take_append_drop n ps]
  simp only [nmL,List.map_append,List.sum_append]
 rw [List.length_drop]
 omega

theorem sz_plan:(Tryz.prog.info? 78).map (·.size)=some 5:=by kernel_rfl

theorem nil_fp (w:World):txnK.Own w (.slice none 0 0) ([]:List TxnQ)∧txnK.fp (.slice none 0 0) ([]:List TxnQ)=[]:=Kind.own_nil (K:=txnK) w

set_option maxRecDepth 100000 in
set_option maxHeartbeats 8000000 in
theorem implPlanOf_any (v v' : Value) (ps ps' : List TxnQ) (w:World) (h:txnK.At w v ps) (h' : txnK.At w v' ps') (hcp:CapOk v) (hcp' : CapOk v') (hl:ps.length + nmL TxnQ.n ps≤1048576) (hl' : ps'.length + nmL TxnQ.n ps' ≤ 1048576) :
  Calls Tryz.prog 41 #[v,v'] w fun e w' => ∃ (v1 v2:Value) (q1 q2:List TxnQ),e=.returned (.agg #[.int .i64 (bthF (ps.map TxnQ.e) (ps'.map TxnQ.e)),.int .i64 (plN (ps.map TxnQ.e) (ps'.map TxnQ.e)),.int .i64 (plB (ps.map TxnQ.e) (ps'.map TxnQ.e)),v1,v2])∧q1.map TxnQ.e=plA (ps.map TxnQ.e) (ps'.map TxnQ.e)∧q2.map TxnQ.e=plK (ps.map TxnQ.e) (ps'.map TxnQ.e)∧txnK.Own w' v1 q1∧txnK.Own w' v2 q2∧(txnK.fp v1 q1 ++ txnK.fp v2 q2).Nodup∧(∀ k∈txnK.fp v1 q1 ++ txnK.fp v2 q2,w.heap.size≤k)∧Below w.heap.size w w' := by
 have HV:Hid (bthF (ps.map TxnQ.e) (ps'.map TxnQ.e)≠0→plN (ps.map TxnQ.e) (ps'.map TxnQ.e)=0∧plB (ps.map TxnQ.e) (ps'.map TxnQ.e)=0∧plA (ps.map TxnQ.e) (ps'.map TxnQ.e)=[]∧plK (ps.map TxnQ.e) (ps'.map TxnQ.e)=[]):=fun h0=>pl_bad h0
 have HV1:Hid (bthF (ps.map TxnQ.e) (ps'.map TxnQ.e)=0→(ps'.map TxnQ.e).drop (comN (ps.map TxnQ.e) (ps'.map TxnQ.e))=[]→plN (ps.map TxnQ.e) (ps'.map TxnQ.e)=(comN (ps.map TxnQ.e) (ps'.map TxnQ.e):Int)∧plB (ps.map TxnQ.e) (ps'.map TxnQ.e)=0∧plA (ps.map TxnQ.e) (ps'.map TxnQ.e)=[]∧plK (ps.map TxnQ.e) (ps'.map TxnQ.e)=(ps.map TxnQ.e).drop (comN (ps.map TxnQ.e) (ps'.map TxnQ.e))):=fun h0 h1=>pl_all h0 h1
 have HV2:Hid (bthF (ps.map TxnQ.e) (ps'.map TxnQ.e)=0→(ps'.map TxnQ.e).drop (comN (ps.map TxnQ.e) (ps'.map TxnQ.e))≠[]→plN (ps.map TxnQ.e) (ps'.map TxnQ.e)=(comN (ps.map TxnQ.e) (ps'.map TxnQ.e):Int)∧plB (ps.map TxnQ.e) (ps'.map TxnQ.e)=(((ps.map TxnQ.e).drop (comN (ps.map TxnQ.e) (ps'.map TxnQ.e))).length:Int)∧plA (ps.map TxnQ.e) (ps'.map TxnQ.e)=(ps'.map TxnQ.e).drop (comN (ps.map TxnQ.e) (ps'.map TxnQ.e))∧plK (ps.map TxnQ.e) (ps'.map TxnQ.e)=witL ((ps.map TxnQ.e).drop (comN (ps.map TxnQ.e) (ps'.map TxnQ.e))) (ps'.map TxnQ.e)):=fun h0 h1=>pl_new h0 h1
 have HL:Hid (bthF (ps.map TxnQ.e) (ps'.map TxnQ.e)=0→ps.length≤40∧ps'.length≤40∧(∀ p∈ps,0 < p.acts.length)∧(∀ p∈ps',0 < p.acts.length)):=fun h0=>⟨by simpa using (lst_mem (bth_zero h0).1).1,by simpa using (lst_mem (bth_zero h0).2).1,lst_pos (bth_zero h0).1,lst_pos (bth_zero h0).2⟩
 have hn1:comN (ps.map TxnQ.e) (ps'.map TxnQ.e)≤ps.length:=by simpa using (com_le (ps.map TxnQ.e) (ps'.map TxnQ.e)).1
 have hn2:comN (ps.map TxnQ.e) (ps'.map TxnQ.e)≤ps'.length:=by simpa using (com_le (ps.map TxnQ.e) (ps'.map TxnQ.e)).2
 have HCV:Hid (bthF (ps.map TxnQ.e) (ps'.map TxnQ.e)=0→cmV (ps.map TxnQ.e) (ps'.map TxnQ.e)=(comN (ps.map TxnQ.e) (ps'.map TxnQ.e):Int)):=fun h0=>if_pos h0
 have hB:Below w.heap.size w (w.alloc (.cells #[.int .i64 0,.int .i64 0,.int .i64 0,.slice none 0 0,.slice none 0 0] 78)):=by go_grown
 have Rb:=Blk.new w 78 #[.int .i64 0,.int .i64 0,.int .i64 0,.slice none 0 0,.slice none 0 0]
 have hq:=implCommonOf_any v v' ps ps' (w.alloc (.cells #[.int .i64 0,.int .i64 0,.int .i64 0,.slice none 0 0,.slice none 0 0] 78)) (h.below hB) (h'.below hB) hl hl'
 obtain ⟨a,cap,rfl⟩:=h.shape
 obtain ⟨a',cap',rfl⟩:=h'.shape
 generalize bthF (ps.map TxnQ.e) (ps'.map TxnQ.e)=C at *
 generalize plN (ps.map TxnQ.e) (ps'.map TxnQ.e)=VN at *
 generalize plB (ps.map TxnQ.e) (ps'.map TxnQ.e)=VB at *
 generalize plA (ps.map TxnQ.e) (ps'.map TxnQ.e)=VA at *
 generalize plK (ps.map TxnQ.e) (ps'.map TxnQ.e)=VK at *
 generalize cmV (ps.map TxnQ.e) (ps'.map TxnQ.e)=CV at *
 go_enter Tryz.func41,Tryz.ntmps41
 go_wp2_with fail
 refine hq.mono ?_
 rintro e w1 ⟨rfl,hb1⟩
 replace hB:=hB.trans (hb1.mono hB.size)
 replace Rb:=Rb.below hb1
 clear hq hb1
 have hbA:Below w1.heap.size w1 (w1.alloc (.cells #[.int .i64 C,.int .i64 CV] 160)):=by go_grown
 have Cb:=Blk.new w1 160 #[.int .i64 C,.int .i64 CV]
 have hB1:=hB
 replace hB:=hB.trans (hbA.mono hB.size)
 have hr1:w.heap.size < w1.heap.size:=Rb.lt
 have Rb1:=Rb
 replace Rb:=Rb.below hbA
 clear hbA
 by_cases hC:C=0
 ·have HV1' := HV1.out hC
  have HV2' := HV2.out hC
  have HW1:Hid _:=HV1'
  have HW2:Hid _:=HV2'
  have hcv:=HCV.out hC
  obtain ⟨h40,h40',hpos,hpos'⟩:=HL.out hC
  subst hC
  subst hcv
  clear HV HV1 HV2 HV1' HV2' HCV HL
  generalize comN (ps.map TxnQ.e) (ps'.map TxnQ.e)=n at *
  have hd1:=fun w (h:txnK.At w (.slice a ps.length cap) ps) c' => h.dropS n hn1 hcp.1 c'
  have hd2:=fun w (h:txnK.At w (.slice a' ps'.length cap') ps') c' => h.dropS n hn2 hcp'.1 c'
  obtain ⟨rs,hrs⟩:∃ rs,rs=ps.drop n:=⟨_,rfl⟩
  obtain ⟨rs',hrs'⟩:∃ rs',rs' = ps'.drop n:=⟨_,rfl⟩
  have HRS:Hid (rs.map TxnQ.e=(ps.map TxnQ.e).drop n):=show _=_ by rw [hrs,List.map_drop]
  have HRS' : Hid (rs'.map TxnQ.e=(ps'.map TxnQ.e).drop n):=show _=_ by rw [hrs',List.map_drop]
  have hls:rs.length + nmL TxnQ.n rs≤1048576:=by rw [hrs];have:=drop_n ps n;omega
  have hls' : rs'.length + nmL TxnQ.n rs' ≤ 1048576:=by rw [hrs'];have:=drop_n ps' n;omega
  have hps:∀ p∈rs,0 < p.acts.length:=fun p hp=>hpos p (List.mem_of_mem_drop (by rw [← hrs];exact hp))
  have hps' : ∀ p∈rs',0 < p.acts.length:=fun p hp=>hpos' p (List.mem_of_mem_drop (by rw [← hrs'];exact hp))
  have hle1:rs.length=ps.length - n:=by rw [hrs,List.length_drop]
  have hle2:rs'.length=ps'.length - n:=by rw [hrs',List.length_drop]
  rw [← hrs] at hd1
  rw [← hrs'] at hd2
  have hn0i:(0:Int)≤(n:Int):=by omega
  have hn1i:(n:Int)≤(ps.length:Int):=by omega
  have hn2i:(n:Int)≤(ps'.length:Int):=by omega
  obtain ⟨ra,rc,hs1,hA1⟩:∃ ra rc,(∀ u:World,(Instr.sliceAt 28 (.slice a ps.length cap) (some (.int .i64 n)) none none).run Tryz.prog u=.ok (.slice ra rs.length rc) u)∧(∀ w,txnK.At w (.slice a ps.length cap) ps→txnK.At w (.slice ra rs.length rc) rs):=by
   refine ⟨_,_,fun u=>?_,fun w h=>hd1 w h (cap - n)⟩
   rw [run_sliceAt_slice u 28 _ _ _ _ (by kernel_rfl),run_slice_l u 28 a ps.length cap (by kernel_rfl) .i64 (n:Int) hn0i hn1i,hle1]
   rfl
  obtain ⟨ra',rc',hs2,hA2⟩:∃ ra rc,(∀ u:World,(Instr.sliceAt 28 (.slice a' ps'.length cap') (some (.int .i64 n)) none none).run Tryz.prog u=.ok (.slice ra rs'.length rc) u)∧(∀ w,txnK.At w (.slice a' ps'.length cap') ps' → txnK.At w (.slice ra rs'.length rc) rs'):=by
   refine ⟨_,_,fun u=>?_,fun w h=>hd2 w h (cap' - n)⟩
   rw [run_sliceAt_slice u 28 _ _ _ _ (by kernel_rfl),run_slice_l u 28 a' ps'.length cap' (by kernel_rfl) .i64 (n:Int) hn0i hn2i,hle2]
   rfl
  have hr40:rs.length≤40:=by omega
  have HLB:Hid (((ps.map TxnQ.e).drop n).length=rs.length):=show _=_ by rw [List.length_drop,List.length_map,hle1]
  clear hd1 hd2 hn0i hn1i hn2i hrs hrs' hle1 hle2
  have c0:=Cb.cell 0 _ rfl
  have c1:=Cb.cell 1 _ rfl
  go_wp2_with fail
  clear c0 c1
  have hXs:w1.heap.size < (w1.alloc (.cells #[.int .i64 0,.int .i64 n] 160)).heap.size:=by simp
  generalize w1.alloc (.cells #[.int .i64 0,.int .i64 n] 160)=X at *
  have c0:=Cb.lat 0 _ rfl
  have c1:=Cb.lat 1 _ rfl
  have hW:Below X.heap.size X X.drew:=(Below.refl _ _).drew
  have hnn:Nonempty (Lat X):=⟨⟨X,Below.refl _ _⟩⟩
  replace hs1:∀ u:Lat X,_:=fun u=>hs1 u.val
  replace hs2:∀ u:Lat X,_:=fun u=>hs2 u.val
  refine text_begin (S:=fun w' => ∃ u:Lat X,w' = u.val) (by kernel_rfl) ?_
  refine seg_range [(0,3),(4,3)] 4 (by kernel_rfl) (by kernel_rfl) (by kernel_rfl) (by kernel_rfl) (by kernel_rfl) ⟨⟨_,hW⟩,rfl⟩ ?_
  simp only [pickR,List.toList_toArray,List.flatMap_cons,List.flatMap_nil,List.drop_succ_cons,List.drop_zero,List.take_succ_cons,List.take_zero,List.cons_append,List.nil_append,List.append_nil]
  repeat go_big_quiet_step (fail)
  refine wpQuiet_nil ?_
  refine quiet_at 3 (some 21) (.slice ra rs.length rc) 3 (by kernel_rfl) (by kernel_rfl) (by kernel_rfl) (by kernel_rfl) (by kernel_rfl) (fun u hu=>?_) ⟨⟨_,hW⟩,rfl⟩ ?_
  ·obtain ⟨u,rfl⟩:=hu
   refine Eq.trans (b:=some (((Instr.sliceAt 28 (.slice a ps.length cap) (some (.int .i64 n)) none none) >>= fun x=>pure (Next.value x):Sem Next).run Tryz.prog u.val)) (by kernel_rfl) ?_
   rw [Sem.run_bind,hs1 u]
   rfl
  simp only [Act.put,List.setIfInBounds_toArray,List.set_cons_zero,List.set_cons_succ]
  refine quiet_at 7 (some 25) (.slice ra' rs'.length rc') 2 (by kernel_rfl) (by kernel_rfl) (by kernel_rfl) (by kernel_rfl) (by kernel_rfl) (fun u hu=>?_) ⟨⟨_,hW⟩,rfl⟩ ?_
  ·obtain ⟨u,rfl⟩:=hu
   refine Eq.trans (b:=some (((Instr.sliceAt 28 (.slice a' ps'.length cap') (some (.int .i64 n)) none none) >>= fun x=>pure (Next.value x):Sem Next).run Tryz.prog u.val)) (by kernel_rfl) ?_
   rw [Sem.run_bind,hs2 u]
   rfl
  simp only [Act.put,List.setIfInBounds_toArray,List.set_cons_zero,List.set_cons_succ]
  refine seg_range [(8,2)] 0 (by kernel_rfl) (by kernel_rfl) (by kernel_rfl) (by kernel_rfl) (by kernel_rfl) ⟨⟨_,hW⟩,rfl⟩ ?_
  simp only [pickR,List.toList_toArray,List.flatMap_cons,List.flatMap_nil,List.drop_succ_cons,List.drop_zero,List.take_succ_cons,List.take_zero,List.cons_append,List.nil_append,List.append_nil]
  repeat go_big_quiet_step (fail)
  refine wpQuiet_nil ?_
  refine text_end (by kernel_rfl) ?_
  clear c0 c1 hnn hs1 hs2
  replace hB:=hB.trans (hW.mono hB.size)
  replace Rb:=Rb.below hW
  replace Cb:=Cb.below hW
  have hXs2:=hW.size
  clear hW
  generalize X.drew=Y at *
  have c0:=Cb.cell 0 _ rfl
  have c1:=Cb.cell 1 _ rfl
  have Pb:=Blk.new Y 78 #[.int .i64 0,.int .i64 n,.int .i64 0,.slice none 0 0,.slice none 0 0]
  have hbP:Below Y.heap.size Y (Y.alloc (.cells #[.int .i64 0,.int .i64 n,.int .i64 0,.slice none 0 0,.slice none 0 0] 78)):=by go_grown
  have hBP:=hB.trans (hbP.mono hB.size)
  have RbP:=Rb.below hbP
  have hrY:=Rb.lt
  have hsP:Y.heap.size < (Y.alloc (.cells #[.int .i64 0,.int .i64 n,.int .i64 0,.slice none 0 0,.slice none 0 0] 78)).heap.size:=by simp
  have hBY:=hB
  have RbY:=Rb
  clear hB Rb hbP
  by_cases hz:rs' = []
  ·-- CUT1
   subst hz
   clear hBY RbY
   obtain ⟨e1,e2,e3,e4⟩:=HW1.out HRS'.out.symm
   clear HW1 HW2
   have hcl:=fun w h=>cloneTxns_any (.slice ra rs.length rc) rs w h hps hls
   go_wp2_with fail
   clear c0 c1
   generalize Y.alloc (.cells #[.int .i64 0,.int .i64 n,.int .i64 0,.slice none 0 0,.slice none 0 0] 78)=Z at *
   generalize Y.heap.size=pb at *
   refine (hcl Z (hA1 Z (h.below hBP))).mono ?_
   rintro e w3 ⟨v3,q3,rfl,eq3,o3,n3,g3,hb3⟩
   obtain ⟨a3,c3,rfl⟩:=o3.shape
   replace Pb:=Pb.below hb3
   replace RbP:=RbP.below hb3
   replace hBP:=hBP.trans (hb3.mono hBP.size)
   clear hcl hb3
   have hpr:pb≠w.heap.size:=by omega
   have hrp:w.heap.size≠pb:=by omega
   have E4:Hid (q3.map TxnQ.e=VK):=show _=_ by rw [e4,eq3,HRS.out]
   have E1:Hid (VN=(n:Int)∧VB=0∧VA=[]):=⟨e1,e2,e3⟩
   clear e1 e2 e3 e4 eq3
   have hne:∀ k∈txnK.fp (.slice a3 q3.length c3) q3,k ∉ [pb]∧k ∉ [w.heap.size]:=fun k hk=>by have:=g3 k hk;simp only [List.mem_singleton];omega
   have g4:∀ k∈txnK.fp (.slice a3 q3.length c3) q3,w.heap.size≤k:=fun k hk=>by have:=g3 k hk;omega
   have p0:=Pb.cell 0 _ rfl
   have fp0:=Pb.frozen 0
   have p1:=Pb.cell 1 _ rfl
   have fp1:=Pb.frozen 1
   have p2:=Pb.cell 2 _ rfl
   have fp2:=Pb.frozen 2
   have p3:=Pb.cell 3 _ rfl
   have fp3:=Pb.frozen 3
   have p4:=Pb.cell 4 _ rfl
   have fp4:=Pb.frozen 4
   have RbQ:=RbP.other8 (g:=pb) (j:=4) (u:=.slice a3 q3.length c3) hrp
   have KQ:=hBP.setCell (p:=⟨pb,4,none⟩) (show w.heap.size≤pb by omega) (.slice a3 q3.length c3)
   have KF:=below_row KQ (Nat.le_refl w.heap.size) #[.int .i64 0,.int .i64 n,.int .i64 0,.slice none 0 0,.slice a3 q3.length c3]
   have O5:Hid _:=(o3.out (Out.setCell w3 pb 4 (.slice a3 q3.length c3)) (fun k hk=>(hne k hk).1)).out (out_row _ w.heap.size #[.int .i64 0,.int .i64 n,.int .i64 0,.slice none 0 0,.slice a3 q3.length c3]) (fun k hk=>(hne k hk).2)
   have Rr:=RbQ.row #[.int .i64 0,.int .i64 n,.int .i64 0,.slice none 0 0,.slice a3 q3.length c3]
   go_wp2_with (first | (refine st_row (by kernel_rfl) 78 _ _ rfl _ #[.int .i64 0,.int .i64 n,.int .i64 0,.slice none 0 0,.slice a3 q3.length c3] rfl rfl 78 _ RbQ sz_plan rfl (by simp [Value.oneCell']) ?_))
   have yy0:=Rr.cell 0 _ rfl
   have yy1:=Rr.cell 1 _ rfl
   have yy2:=Rr.cell 2 _ rfl
   have yy3:=Rr.cell 3 _ rfl
   have yy4:=Rr.cell 4 _ rfl
   refine bodyPost_ret (v:=.agg #[.int .i64 0,.int .i64 n,.int .i64 0,.slice none 0 0,.slice a3 q3.length c3]) (by simp [results,Tryz.results41,go_sem,yy0,yy1,yy2,yy3,yy4]) rfl ?_
   refine ⟨.slice none 0 0,.slice a3 q3.length c3,[],q3,?_,?_,E4.out,(nil_fp _).1,O5.out,?_,?_,KF⟩
   ·rw [E1.out.1,E1.out.2.1]
   ·rw [E1.out.2.2];rfl
   ·rw [(nil_fp w).2];exact n3
   ·rw [(nil_fp w).2];exact g4
  ·obtain ⟨e1,e2,e3,e4⟩:=HW2.out (by rw [← HRS'.out];simpa using hz)
   have hz2:0 < rs'.length:=List.length_pos_iff.2 hz
   have hz3:¬ rs'.length=0:=by omega
   have hz4:((rs'.length:Int) == 0)=false:=by simp;omega
   rw [HLB.out] at e2
   have E1:Hid (VN=(n:Int)∧VB=(rs.length:Int)):=⟨e1,e2⟩
   have E3:Hid (VA=(ps'.map TxnQ.e).drop n):=e3
   have E4:Hid (VK=witL ((ps.map TxnQ.e).drop n) (ps'.map TxnQ.e)):=e4
   clear HW1 HW2 e1 e2 e3 e4 hz Pb hBP RbP hsP
   have hcl:=fun w h=>cloneTxns_any (.slice ra' rs'.length rc') rs' w h hps' hls'
   have hou:=fun w h h' => outside_any (.slice ra rs.length rc) (.slice a' ps'.length cap') rs ps' w h h' hr40 (by omega)
   have hcl2:=fun v w h=>cloneTxns_any v (witQ rs (ps'.map TxnQ.e)) w h (fun p hp=>hps p (wit_mem hp)) (by have:=wit_n rs (ps'.map TxnQ.e);omega)
   rw [wit_map] at hcl2
   have Pb:=Blk.new Y 78 #[.int .i64 0,.int .i64 n,.int .i64 rs.length,.slice none 0 0,.slice none 0 0]
   have hbP:Below Y.heap.size Y (Y.alloc (.cells #[.int .i64 0,.int .i64 n,.int .i64 rs.length,.slice none 0 0,.slice none 0 0] 78)):=by go_grown
   have hBP:=hBY.trans (hbP.mono hBY.size)
   have RbP:=RbY.below hbP
   have hsP:Y.heap.size < (Y.alloc (.cells #[.int .i64 0,.int .i64 n,.int .i64 rs.length,.slice none 0 0,.slice none 0 0] 78)).heap.size:=by simp
   clear hbP hBY RbY
   go_wp2_with fail
   clear c0 c1
   generalize Y.alloc (.cells #[.int .i64 0,.int .i64 n,.int .i64 rs.length,.slice none 0 0,.slice none 0 0] 78)=Z at *
   generalize Y.heap.size=pb at *
   refine (hcl Z (hA2 Z (h'.below hBP))).mono ?_
   rintro e w3 ⟨v3,q3,rfl,eq3,o3,n3,g3,hb3⟩
   obtain ⟨a3,c3,rfl⟩:=o3.shape
   have hpr:pb≠w.heap.size:=by omega
   have hrp:w.heap.size≠pb:=by omega
   have hs3:=hb3.size
   have l3:=o3.lt
   replace Pb:=Pb.below hb3
   replace RbP:=RbP.below hb3
   replace hBP:=hBP.trans (hb3.mono hBP.size)
   clear hcl hb3
   have E3q:Hid (q3.map TxnQ.e=VA):=show _=_ by rw [E3.out,eq3,HRS'.out]
   clear eq3 E3
   have p3:=Pb.cell 3 _ rfl
   have fp3:=Pb.frozen 3
   replace Pb:=Pb.putA 3 (.slice a3 q3.length c3)
   replace RbP:=RbP.other8 (g:=pb) (j:=3) (u:=.slice a3 q3.length c3) hrp
   replace hBP:=hBP.setCell (p:=⟨pb,3,none⟩) (show w.heap.size≤pb by omega) (.slice a3 q3.length c3)
   have hne3:∀ k∈txnK.fp (.slice a3 q3.length c3) q3,k ∉ [pb]∧k ∉ [w.heap.size]:=fun k hk=>by have:=g3 k hk;simp only [List.mem_singleton];omega
   replace o3:=o3.out (Out.setCell w3 pb 3 (.slice a3 q3.length c3)) (fun k hk=>(hne3 k hk).1)
   have hs3w:w3.heap.size=(w3.setCell ⟨pb,3,none⟩ (.slice a3 q3.length c3)).heap.size:=by simp
   go_wp2_with fail
   clear p3 fp3
   generalize w3.setCell ⟨pb,3,none⟩ (.slice a3 q3.length c3)=w4 at *
   rw [hs3w] at l3 hs3
   clear hs3w
   simp only [List.setIfInBounds_toArray,List.set_cons_zero,List.set_cons_succ] at Pb
   have hAr:=hA1 w4 (h.below hBP)
   refine (hou w4 hAr (h'.below hBP)).mono ?_
   rintro e w5 ⟨v5,rfl,hrow,hb5⟩
   replace hAr:=hAr.below hb5
   have hat5:txnK.At w5 v5 (witQ rs (ps'.map TxnQ.e)):=Kind.at_of_row hrow (fun q hq=>hAr.rdm (wit_mem hq))
   obtain ⟨a5,c5,rfl⟩:=own_shape hrow
   replace Pb:=Pb.below hb5
   replace RbP:=RbP.below hb5
   replace hBP:=hBP.trans (hb5.mono hBP.size)
   replace o3:=o3.below hb5
   have hs5:=hb5.size
   have hcl3:=hcl2 (.slice a5 (witQ rs (ps'.map TxnQ.e)).length c5) w5 hat5
   clear hou hb5 hrow hat5 hAr hcl2
   generalize witQ rs (ps'.map TxnQ.e)=wq at *
   go_wp2_with fail
   refine hcl3.mono ?_
   rintro e w6 ⟨v6,q6,rfl,eq6,o6,n6,g6,hb6⟩
   obtain ⟨a6,c6,rfl⟩:=o6.shape
   replace Pb:=Pb.below hb6
   replace RbP:=RbP.below hb6
   replace hBP:=hBP.trans (hb6.mono hBP.size)
   replace o3:=o3.below hb6
   have E4q:Hid (q6.map TxnQ.e=VK):=show _=_ by rw [E4.out,eq6,HRS.out]
   clear eq6 E4 hcl3 hb6
   have hne6:∀ k∈txnK.fp (.slice a6 q6.length c6) q6,k ∉ [pb]∧k ∉ [w.heap.size]:=fun k hk=>by have:=g6 k hk;simp only [List.mem_singleton];omega
   have gA:∀ k∈txnK.fp (.slice a3 q3.length c3) q3 ++ txnK.fp (.slice a6 q6.length c6) q6,w.heap.size≤k:=fun k hk=>by
    rcases List.mem_append.1 hk with hk | hk
    ·have:=g3 k hk;omega
    ·have:=g6 k hk;omega
   have nA:(txnK.fp (.slice a3 q3.length c3) q3 ++ txnK.fp (.slice a6 q6.length c6) q6).Nodup:=List.nodup_append.2 ⟨n3,n6,fun x hx y hy e=>by have:=l3 x hx;have:=g6 y hy;omega⟩
   have p0:=Pb.cell 0 _ rfl
   have fp0:=Pb.frozen 0
   have p1:=Pb.cell 1 _ rfl
   have fp1:=Pb.frozen 1
   have p2:=Pb.cell 2 _ rfl
   have fp2:=Pb.frozen 2
   have p3:=Pb.cell 3 _ rfl
   have fp3:=Pb.frozen 3
   have p4:=Pb.cell 4 _ rfl
   have fp4:=Pb.frozen 4
   have RbQ:=RbP.other8 (g:=pb) (j:=4) (u:=.slice a6 q6.length c6) hrp
   have KQ:=hBP.setCell (p:=⟨pb,4,none⟩) (show w.heap.size≤pb by omega) (.slice a6 q6.length c6)
   have KF:=below_row KQ (Nat.le_refl w.heap.size) #[.int .i64 0,.int .i64 n,.int .i64 rs.length,.slice a3 q3.length c3,.slice a6 q6.length c6]
   have O3:Hid _:=(o3.out (Out.setCell w6 pb 4 (.slice a6 q6.length c6)) (fun k hk=>(hne3 k hk).1)).out (out_row _ w.heap.size #[.int .i64 0,.int .i64 n,.int .i64 rs.length,.slice a3 q3.length c3,.slice a6 q6.length c6]) (fun k hk=>(hne3 k hk).2)
   have O6:Hid _:=(o6.out (Out.setCell w6 pb 4 (.slice a6 q6.length c6)) (fun k hk=>(hne6 k hk).1)).out (out_row _ w.heap.size #[.int .i64 0,.int .i64 n,.int .i64 rs.length,.slice a3 q3.length c3,.slice a6 q6.length c6]) (fun k hk=>(hne6 k hk).2)
   have Rr:=RbQ.row #[.int .i64 0,.int .i64 n,.int .i64 rs.length,.slice a3 q3.length c3,.slice a6 q6.length c6]
   go_wp2_with (first | (refine st_row (by kernel_rfl) 78 _ _ rfl _ #[.int .i64 0,.int .i64 n,.int .i64 rs.length,.slice a3 q3.length c3,.slice a6 q6.length c6] rfl rfl 78 _ RbQ sz_plan rfl (by simp [Value.oneCell']) ?_))
   have yy0:=Rr.cell 0 _ rfl
   have yy1:=Rr.cell 1 _ rfl
   have yy2:=Rr.cell 2 _ rfl
   have yy3:=Rr.cell 3 _ rfl
   have yy4:=Rr.cell 4 _ rfl
   refine bodyPost_ret (v:=.agg #[.int .i64 0,.int .i64 n,.int .i64 rs.length,.slice a3 q3.length c3,.slice a6 q6.length c6]) (by simp [results,Tryz.results41,go_sem,yy0,yy1,yy2,yy3,yy4]) rfl ?_
   refine ⟨.slice a3 q3.length c3,.slice a6 q6.length c6,q3,q6,?_,E3q.out,E4q.out,O3.out,O6.out,nA,gA,KF⟩
   rw [E1.out.1,E1.out.2]
 ·obtain ⟨e1,e2,e3,e4⟩:=HV.out hC
  have E1:Hid (VN=0∧VB=0∧VA=[]∧VK=[]):=⟨e1,e2,e3,e4⟩
  have c0:=Cb.cell 0 _ rfl
  have c1:=Cb.cell 1 _ rfl
  clear HV HV1 HV2 HCV HL e1 e2 e3 e4
  have hC' : (C != 0)=true:=by simpa using hC
  have KF:=below_row hB (Nat.le_refl w.heap.size) #[.int .i64 C,.int .i64 0,.int .i64 0,.slice none 0 0,.slice none 0 0]
  have Rr:=Rb.row #[.int .i64 C,.int .i64 0,.int .i64 0,.slice none 0 0,.slice none 0 0]
  go_wp2_with (first | (refine st_row (by kernel_rfl) 78 _ _ rfl _ #[.int .i64 C,.int .i64 0,.int .i64 0,.slice none 0 0,.slice none 0 0] rfl rfl 78 _ Rb sz_plan rfl (by simp [Value.oneCell']) ?_))
  have yy0:=Rr.cell 0 _ rfl
  have yy1:=Rr.cell 1 _ rfl
  have yy2:=Rr.cell 2 _ rfl
  have yy3:=Rr.cell 3 _ rfl
  have yy4:=Rr.cell 4 _ rfl
  refine bodyPost_ret (v:=.agg #[.int .i64 C,.int .i64 0,.int .i64 0,.slice none 0 0,.slice none 0 0]) (by simp [results,Tryz.results41,go_sem,yy0,yy1,yy2,yy3,yy4]) rfl ?_
  refine ⟨.slice none 0 0,.slice none 0 0,[],[],?_,?_,?_,(nil_fp _).1,(nil_fp _).1,?_,?_,KF⟩
  ·rw [E1.out.1,E1.out.2.1]
  ·rw [E1.out.2.2.1];rfl
  ·rw [E1.out.2.2.2];rfl
  ·rw [(nil_fp w).2];simp
  ·rw [(nil_fp w).2];simp

end Go.Proofs.YtfdkcbafpiojkaaGreatDoor
