/- Texts joined, with what the law reaches alone. -/
import Derived.Test.YtfdkcbafpiojkaaGreatDoorSXAZ
import Derived.Test.YtfdkcbafpiojkaaGreatDoorSXBA
import Derived.Test.YtfdkcbafpiojkaaGreatDoorSXAP
set_option linter.unusedVariables false
set_option linter.unusedSimpArgs false
namespace Go.Proofs.YtfdkcbafpiojkaaGreatDoor
open Go.RowKit
open Go.BigFrame
set_option maxRecDepth 100000
def plN (ds ds' : List TxnD):Int:=if bthF ds ds' = 0 then (comN ds ds' : Int) else 0

def plB (ds ds' : List TxnD):Int:=if bthF ds ds' = 0 then (if ds'.drop (comN ds ds')=[] then 0 else ((ds.drop (comN ds ds')).length:Int)) else 0

def plA (ds ds' : List TxnD):List TxnD:=if bthF ds ds' = 0 then ds'.drop (comN ds ds') else []

def plK (ds ds' : List TxnD):List TxnD:=if bthF ds ds' = 0 then (if ds'.drop (comN ds ds')=[] then ds.drop (comN ds ds') else witL (ds.drop (comN ds ds')) ds') else []

theorem pl_bad {ds ds' : List TxnD} (h:bthF ds ds' ≠ 0):plN ds ds' = 0∧plB ds ds' = 0∧plA ds ds' = []∧plK ds ds' = []:=⟨if_neg h,if_neg h,if_neg h,if_neg h⟩

theorem pl_all {ds ds' : List TxnD} (h:bthF ds ds' = 0) (h1:ds'.drop (comN ds ds')=[]):plN ds ds' = (comN ds ds' : Int)∧plB ds ds' = 0∧plA ds ds' = []∧plK ds ds' = ds.drop (comN ds ds'):=by
 unfold plN plB plA plK
 rw [if_pos h,if_pos h,if_pos h,if_pos h,if_pos h1,if_pos h1,h1]
 exact ⟨rfl,rfl,rfl,rfl⟩

theorem pl_new {ds ds' : List TxnD} (h:bthF ds ds' = 0) (h1:ds'.drop (comN ds ds')≠[]):plN ds ds' = (comN ds ds' : Int)∧plB ds ds' = ((ds.drop (comN ds ds')).length:Int)∧plA ds ds' = ds'.drop (comN ds ds')∧plK ds ds' = witL (ds.drop (comN ds ds')) ds' := by
 unfold plN plB plA plK
 rw [if_pos h,if_pos h,if_pos h,if_pos h,if_neg h1,if_neg h1]
 exact ⟨rfl,rfl,rfl,rfl⟩

theorem drop_n (ps:List TxnQ) (n:Nat):(ps.drop n).length + nmL TxnQ.n (ps.drop n)≤ps.length + nmL TxnQ.n ps:=by
 have e:nmL TxnQ.n ps=nmL TxnQ.n (ps.take n) + nmL TxnQ.n (ps.drop n):=by
  conv=>lhs;rw [← List.take_append_drop n ps]
  simp only [nmL,List.map_append,List.sum_append]
 rw [List.length_drop]
 omega

theorem sz_plan:(Tryz.prog.info? 78).map (·.size)=some 5:=by kernel_rfl

theorem nil_fp (w:World):txnK.Own w (.slice none 0 0) ([]:List TxnQ)∧txnK.fp (.slice none 0 0) ([]:List TxnQ)=[]:=Kind.own_nil (K:=txnK) w

set_option maxRecDepth 100000 in
set_option maxHeartbeats 8000000 in
theorem implPlanOf_any (v v' : Value) (ps ps' : List TxnQ) (w:World) (h:txnK.At w v ps) (h' : txnK.At w v' ps') (hcp:CapOk v) (hcp' : CapOk v') (hl:ps.length + nmL TxnQ.n ps≤1048576) (hl' : ps'.length + nmL TxnQ.n ps' ≤ 1048576) :
  Calls Tryz.prog 41 #[v,v'] w fun e w' => ∃ (v1 v2:Value) (q1 q2:List TxnQ),e=.returned (.agg #[.int .i64 (bthF (ps.map TxnQ.e) (ps'.map TxnQ.e)),.int .i64 (plN (ps.map TxnQ.e) (ps'.map TxnQ.e)),.int .i64 (plB (ps.map TxnQ.e) (ps'.map TxnQ.e)),v1,v2])∧q1.map TxnQ.e=plA (ps.map TxnQ.e) (ps'.map TxnQ.e)∧q2.map TxnQ.e=plK (ps.map TxnQ.e) (ps'.map TxnQ.e)∧txnK.Own w' v1 q1∧txnK.Own w' v2 q2∧(txnK.fp v1 q1 ++ txnK.fp v2 q2).Nodup∧(∀ k∈txnK.fp v1 q1 ++ txnK.fp v2 q2,w.heap.size≤k)∧Below w.heap.size w w' := by
 have HV:Hid (bthF (ps.map TxnQ.e) (ps'.map TxnQ.e)≠0→plN (ps.map TxnQ.e) (ps'.map TxnQ.e)=0∧plB (ps.map TxnQ.e) (ps'.map TxnQ.e)=0∧plA (ps.map TxnQ.e) (ps'.map TxnQ.e)=[]∧plK (ps.map TxnQ.e) (ps'.map TxnQ.e)=[]):=fun h0=>pl_bad h0
 have HV1:Hid (bthF (ps.map TxnQ.e) (ps'.map TxnQ.e)=0→(ps'.map TxnQ.e).drop (comN (ps.map TxnQ.e) (ps'.map TxnQ.e))=[]→plN (ps.map TxnQ.e) (ps'.map TxnQ.e)=(comN (ps.map TxnQ.e) (ps'.map TxnQ.e):Int)∧plB (ps.map TxnQ.e) (ps'.map TxnQ.e)=0∧plA (ps.map TxnQ.e) (ps'.map TxnQ.e)=[]∧plK (ps.map TxnQ.e) (ps'.map TxnQ.e)=(ps.map TxnQ.e).drop (comN (ps.map TxnQ.e) (ps'.map TxnQ.e))):=fun h0 h1=>pl_all h0 h1
 have HV2:Hid (bthF (ps.map TxnQ.e) (ps'.map TxnQ.e)=0→(ps'.map TxnQ.e).drop (comN (ps.map TxnQ.e) (ps'.map TxnQ.e))≠[]→plN (ps.map TxnQ.e) (ps'.map TxnQ.e)=(comN (ps.map TxnQ.e) (ps'.map TxnQ.e):Int)∧plB (ps.map TxnQ.e) (ps'.map TxnQ.e)=(((ps.map TxnQ.e).drop (comN (ps.map TxnQ.e) (ps'.map TxnQ.e))).length:Int)∧plA (ps.map TxnQ.e) (ps'.map TxnQ.e)=(ps'.map TxnQ.e).drop (comN (ps.map TxnQ.e) (ps'.map TxnQ.e))∧plK (ps.map TxnQ.e) (ps'.map TxnQ.e)=witL ((ps.map TxnQ.e).drop (comN (ps.map TxnQ.e) (ps'.map TxnQ.e))) (ps'.map TxnQ.e)):=fun h0 h1=>pl_new h0 h1
 have HL:Hid (bthF (ps.map TxnQ.e) (ps'.map TxnQ.e)=0→ps.length≤40∧ps'.length≤40∧(∀ p∈ps,0 < p.acts.length)∧(∀ p∈ps',0 < p.acts.length)):=fun h0=>⟨by simpa using (lst_mem (bth_zero h0).1).1,by simpa using (lst_mem (bth_zero h0).2).1,lst_pos (bth_zero h0).1,lst_pos (bth_zero h0).2⟩
 have hn1:comN (ps.map TxnQ.e) (ps'.map TxnQ.e)≤ps.length:=by simpa using (com_le (ps.map TxnQ.e) (ps'.map TxnQ.e)).1
 have hn2:comN (ps.map TxnQ.e) (ps'.map TxnQ.e)≤ps'.length:=by simpa using (com_le (ps.map TxnQ.e) (ps'.map TxnQ.e)).2
 have HCV:Hid (bthF (ps.map TxnQ.e) (ps'.map TxnQ.e)=0→cmV (ps.map TxnQ.e) (ps'.map TxnQ.e)=(comN (ps.map TxnQ.e) (ps'.map TxnQ.e):Int)):=fun h0=>if_pos h0
 have hB:Below w.heap.size w (w.alloc (.cells #[.int .i64 0,.int .i64 0,.int .i64 0,.slice none 0 0,.slice none 0 0] 78)):=by go_grown
 have Rb:=Blk.new w 78 #[.int .i64 0,.int .i64 0,.int .i64 0,.slice none 0 0,.slice none 0 0]
 have hq:=implCommonOf_any v v' ps ps' (w.alloc (.cells #[.int .i64 0,.int .i64 0,.int .i64 0,.slice none 0 0,.slice none 0 0] 78)) (h.below hB) (h'.below hB) hl hl'
 obtain ⟨a,cap,rfl⟩:=h.shape
 obtain ⟨a',cap',rfl⟩:=h'.shape
 generalize bthF (ps.map TxnQ.e) (ps'.map TxnQ.e)=C at *
 generalize plN (ps.map TxnQ.e) (ps'.map TxnQ.e)=VN at *
 generalize plB (ps.map TxnQ.e) (ps'.map TxnQ.e)=VB at *
 generalize plA (ps.map TxnQ.e) (ps'.map TxnQ.e)=VA at *
 generalize plK (ps.map TxnQ.e) (ps'.map TxnQ.e)=VK at *
 generalize cmV (ps.map TxnQ.e) (ps'.map TxnQ.e)=CV at *
 go_enter Tryz.func41,Tryz.ntmps41
 go_wp2_with fail
 refine hq.mono ?_
 rintro e w1 ⟨rfl,hb1⟩
 replace hB:=hB.trans (hb1.mono hB.size)
 replace Rb:=Rb.below hb1
 clear hq hb1
 have hbA:Below w1.heap.size w1 (w1.alloc (.cells #[.int .i64 C,.int .i64 CV] 160)):=by go_grown
 have Cb:=Blk.new w1 160 #[.int .i64 C,.int .i64 CV]
 have hB1:=hB
 replace hB:=hB.trans (hbA.mono hB.size)
 have hr1:w.heap.size < w1.heap.size:=Rb.lt
 have Rb1:=Rb
 replace Rb:=Rb.below hbA
 clear hbA
 by_cases hC:C=0
 ·have HV1' := HV1.out hC
  have HV2' := HV2.out hC
  have HW1:Hid _:=HV1'
  have HW2:Hid _:=HV2'
  have hcv:=HCV.out hC
  obtain ⟨h40,h40',hpos,hpos'⟩:=HL.out hC
  subst hC
  subst hcv
  clear HV HV1 HV2 HV1' HV2' HCV HL
  generalize comN (ps.map TxnQ.e) (ps'.map TxnQ.e)=n at *
  have hd1:=fun w (h:txnK.At w (.slice a ps.length cap) ps) c' => h.dropS n hn1 hcp.1 c'
  have hd2:=fun w (h:txnK.At w (.slice a' ps'.length cap') ps') c' => h.dropS n hn2 hcp'.1 c'
  obtain ⟨rs,hrs⟩:∃ rs,rs=ps.drop n:=⟨_,rfl⟩
  obtain ⟨rs',hrs'⟩:∃ rs',rs' = ps'.drop n:=⟨_,rfl⟩
  have HRS:Hid (rs.map TxnQ.e=(ps.map TxnQ.e).drop n):=show _=_ by rw [hrs,List.map_drop]
  have HRS' : Hid (rs'.map TxnQ.e=(ps'.map TxnQ.e).drop n):=show _=_ by rw [hrs',List.map_drop]
  have hls:rs.length + nmL TxnQ.n rs≤1048576:=by rw [hrs];have:=drop_n ps n;omega
  have hls' : rs'.length + nmL TxnQ.n rs' ≤ 1048576:=by rw [hrs'];have:=drop_n ps' n;omega
  have hps:∀ p∈rs,0 < p.acts.length:=fun p hp=>hpos p (List.mem_of_mem_drop (by rw [← hrs];exact hp))
  have hps' : ∀ p∈rs',0 < p.acts.length:=fun p hp=>hpos' p (List.mem_of_mem_drop (by rw [← hrs'];exact hp))
  have hle1:rs.length=ps.length - n:=by rw [hrs,List.length_drop]
  have hle2:rs'.length=ps'.length - n:=by rw [hrs',List.length_drop]
  rw [← hrs] at hd1
  rw [← hrs'] at hd2
  have hn0i:(0:Int)≤(n:Int):=by omega
  have hn1i:(n:Int)≤(ps.length:Int):=by omega
  have hn2i:(n:Int)≤(ps'.length:Int):=by omega
  obtain ⟨ra,rc,hs1,hA1⟩:∃ ra rc,(∀ u:World,(Instr.sliceAt 28 (.slice a ps.length cap) (some (.int .i64 n)) none none).run Tryz.prog u=.ok (.slice ra rs.length rc) u)∧(∀ w,txnK.At w (.slice a ps.length cap) ps→txnK.At w (.slice ra rs.length rc) rs):=by
   refine ⟨_,_,fun u=>?_,fun w h=>hd1 w h (cap - n)⟩
   rw [run_sliceAt_slice u 28 _ _ _ _ (by kernel_rfl),run_slice_l u 28 a ps.length cap (by kernel_rfl) .i64 (n:Int) hn0i hn1i,hle1]
   rfl
  obtain ⟨ra',rc',hs2,hA2⟩:∃ ra rc,(∀ u:World,(Instr.sliceAt 28 (.slice a' ps'.length cap') (some (.int .i64 n)) none none).run Tryz.prog u=.ok (.slice ra rs'.length rc) u)∧(∀ w,txnK.At w (.slice a' ps'.length cap') ps' → txnK.At w (.slice ra rs'.length rc) rs'):=by
   refine ⟨_,_,fun u=>?_,fun w h=>hd2 w h (cap' - n)⟩
   rw [run_sliceAt_slice u 28 _ _ _ _ (by kernel_rfl),run_slice_l u 28 a' ps'.length cap' (by kernel_rfl) .i64 (n:Int) hn0i hn2i,hle2]
   rfl
  have hr40:rs.length≤40:=by omega
  have HLB:Hid (((ps.map TxnQ.e).drop n).length=rs.length):=show _=_ by rw [List.length_drop,List.length_map,hle1]
  clear hd1 hd2 hn0i hn1i hn2i hrs hrs' hle1 hle2
  have c0:=Cb.cell 0 _ rfl
  have c1:=Cb.cell 1 _ rfl
  go_wp2_with fail
  clear c0 c1
  have hXs:w1.heap.size < (w1.alloc (.cells #[.int .i64 0,.int .i64 n] 160)).heap.size:=by simp
  generalize w1.alloc (.cells #[.int .i64 0,.int .i64 n] 160)=X at *
  have c0:=Cb.lat 0 _ rfl
  have c1:=Cb.lat 1 _ rfl
  have hW:Below X.heap.size X X.drew:=(Below.refl _ _).drew
  have hnn:Nonempty (Lat X):=⟨⟨X,Below.refl _ _⟩⟩
  replace hs1:∀ u:Lat X,_:=fun u=>hs1 u.val
  replace hs2:∀ u:Lat X,_:=fun u=>hs2 u.val
  refine text_begin (S:=fun w' => ∃ u:Lat X,w' = u.val) (by kernel_rfl) ?_
  refine seg_range [(0,3),(4,3)] 4 (by kernel_rfl) (by kernel_rfl) (by kernel_rfl) (by kernel_rfl) (by kernel_rfl) ⟨⟨_,hW⟩,rfl⟩ ?_
  simp only [pickR,List.toList_toArray,List.flatMap_cons,List.flatMap_nil,List.drop_succ_cons,List.drop_zero,List.take_succ_cons,List.take_zero,List.cons_append,List.nil_append,List.append_nil]
  repeat go_big_quiet_step (fail)
  refine wpQuiet_nil ?_
  refine quiet_at 3 (some 21) (.slice ra rs.length rc) 3 (by kernel_rfl) (by kernel_rfl) (by kernel_rfl) (by kernel_rfl) (by kernel_rfl) (fun u hu=>?_) ⟨⟨_,hW⟩,rfl⟩ ?_
  ·obtain ⟨u,rfl⟩:=hu
   refine Eq.trans (b:=some (((Instr.sliceAt 28 (.slice a ps.length cap) (some (.int .i64 n)) none none) >>= fun x=>pure (Next.value x):Sem Next).run Tryz.prog u.val)) (by kernel_rfl) ?_
   rw [Sem.run_bind,hs1 u]
   rfl
  simp only [Act.put,List.setIfInBounds_toArray,List.set_cons_zero,List.set_cons_succ]
  refine quiet_at 7 (some 25) (.slice ra' rs'.length rc') 2 (by kernel_rfl) (by kernel_rfl) (by kernel_rfl) (by kernel_rfl) (by kernel_rfl) (fun u hu=>?_) ⟨⟨_,hW⟩,rfl⟩ ?_
  ·obtain ⟨u,rfl⟩:=hu
   refine Eq.trans (b:=some (((Instr.sliceAt 28 (.slice a' ps'.length cap') (some (.int .i64 n)) none none) >>= fun x=>pure (Next.value x):Sem Next).run Tryz.prog u.val)) (by kernel_rfl) ?_
   rw [Sem.run_bind,hs2 u]
   rfl
  simp only [Act.put,List.setIfInBounds_toArray,List.set_cons_zero,List.set_cons_succ]
  refine seg_range [(8,2)] 0 (by kernel_rfl) (by kernel_rfl) (by kernel_rfl) (by kernel_rfl) (by kernel_rfl) ⟨⟨_,hW⟩,rfl⟩ ?_
  simp only [pickR,List.toList_toArray,List.flatMap_cons,List.flatMap_nil,List.drop_succ_cons,List.drop_zero,List.take_succ_cons,List.take_zero,List.cons_append,List.nil_append,List.append_nil]
  repeat go_big_quiet_step (fail)
  refine wpQuiet_nil ?_
  refine text_end (by kernel_rfl) ?_
  clear c0 c1 hnn hs1 hs2
  replace hB:=hB.trans (hW.mono hB.size)
  replace Rb:=Rb.below hW
  replace Cb:=Cb.below hW
  have hXs2:=hW.size
  clear hW
  generalize X.drew=Y at *
  have c0:=Cb.cell 0 _ rfl
  have c1:=Cb.cell 1 _ rfl
  have Pb:=Blk.new Y 78 #[.int .i64 0,.int .i64 n,.int .i64 0,.slice none 0 0,.slice none 0 0]
  have hbP:Below Y.heap.size Y (Y.alloc (.cells #[.int .i64 0,.int .i64 n,.int .i64 0,.slice none 0 0,.slice none 0 0] 78)):=by go_grown
  have hBP:=hB.trans (hbP.mono hB.size)
  have RbP:=Rb.below hbP
  have hrY:=Rb.lt
  have hsP:Y.heap.size < (Y.alloc (.cells #[.int .i64 0,.int .i64 n,.int .i64 0,.slice none 0 0,.slice none 0 0] 78)).heap.size:=by simp
  have hBY:=hB
  have RbY:=Rb
  clear hB Rb hbP
  by_cases hz:rs' = []
  ·-- CUT1
   subst hz
   clear hBY RbY
   obtain ⟨e1,e2,e3,e4⟩:=HW1.out HRS'.out.symm
   clear HW1 HW2
   have hcl:=fun w h=>cloneTxns_any (.slice ra rs.length rc) rs w h hps hls
   go_wp2_with fail
   clear c0 c1
   generalize Y.alloc (.cells #[.int .i64 0,.int .i64 n,.int .i64 0,.slice none 0 0,.slice none 0 0] 78)=Z at *
   generalize Y.heap.size=pb at *
   refine (hcl Z (hA1 Z (h.below hBP))).mono ?_
   rintro e w3 ⟨v3,q3,rfl,eq3,o3,n3,g3,hb3⟩
   obtain ⟨a3,c3,rfl⟩:=o3.shape
   replace Pb:=Pb.below hb3
   replace RbP:=RbP.below hb3
   replace hBP:=hBP.trans (hb3.mono hBP.size)
   clear hcl hb3
   have hpr:pb≠w.heap.size:=by omega
   have hrp:w.heap.size≠pb:=by omega
   have E4:Hid (q3.map TxnQ.e=VK):=show _=_ by rw [e4,eq3,HRS.out]
   have E1:Hid (VN=(n:Int)∧VB=0∧VA=[]):=⟨e1,e2,e3⟩
   clear e1 e2 e3 e4 eq3
   have hne:∀ k∈txnK.fp (.slice a3 q3.length c3) q3,k ∉ [pb]∧k ∉ [w.heap.size]:=fun k hk=>by have:=g3 k hk;simp only [List.mem_singleton];omega
   have g4:∀ k∈txnK.fp (.slice a3 q3.length c3) q3,w.heap.size≤k:=fun k hk=>by have:=g3 k hk;omega
   have p0:=Pb.cell 0 _ rfl
   have fp0:=Pb.frozen 0
   have p1:=Pb.cell 1 _ rfl
   have fp1:=Pb.frozen 1
   have p2:=Pb.cell 2 _ rfl
   have fp2:=Pb.frozen 2
   have p3:=Pb.cell 3 _ rfl
   have fp3:=Pb.frozen 3
   have p4:=Pb.cell 4 _ rfl
   have fp4:=Pb.frozen 4
   have RbQ:=RbP.other8 (g:=pb) (j:=4) (u:=.slice a3 q3.length c3) hrp
   have KQ:=hBP.setCell (p:=⟨pb,4,none⟩) (show w.heap.size≤pb by omega) (.slice a3 q3.length c3)
   have KF:=below_row KQ (Nat.le_refl w.heap.size) #[.int .i64 0,.int .i64 n,.int .i64 0,.slice none 0 0,.slice a3 q3.length c3]
   have O5:Hid _:=(o3.out (Out.setCell w3 pb 4 (.slice a3 q3.length c3)) (fun k hk=>(hne k hk).1)).out (out_row _ w.heap.size #[.int .i64 0,.int .i64 n,.int .i64 0,.slice none 0 0,.slice a3 q3.length c3]) (fun k hk=>(hne k hk).2)
   have Rr:=RbQ.row #[.int .i64 0,.int .i64 n,.int .i64 0,.slice none 0 0,.slice a3 q3.length c3]
   go_wp2_with (first | (refine st_row (by kernel_rfl) 78 _ _ rfl _ #[.int .i64 0,.int .i64 n,.int .i64 0,.slice none 0 0,.slice a3 q3.length c3] rfl rfl 78 _ RbQ sz_plan rfl (by simp [Value.oneCell']) ?_))
   have yy0:=Rr.cell 0 _ rfl
   have yy1:=Rr.cell 1 _ rfl
   have yy2:=Rr.cell 2 _ rfl
   have yy3:=Rr.cell 3 _ rfl
   have yy4:=Rr.cell 4 _ rfl
   refine bodyPost_ret (v:=.agg #[.int .i64 0,.int .i64 n,.int .i64 0,.slice none 0 0,.slice a3 q3.length c3]) (by simp [results,Tryz.results41,go_sem,yy0,yy1,yy2,yy3,yy4]) rfl ?_
   refine ⟨.slice none 0 0,.slice a3 q3.length c3,[],q3,?_,?_,E4.out,(nil_fp _).1,O5.out,?_,?_,KF⟩
   ·rw [E1.out.1,E1.out.2.1]
   ·rw [E1.out.2.2];rfl
   ·rw [(nil_fp w).2];exact n3
   ·rw [(nil_fp w).2];exact g4
  ·obtain ⟨e1,e2,e3,e4⟩:=HW2.out (by rw [← HRS'.out];simpa using hz)
   have hz2:0 < rs'.length:=List.length_pos_iff.2 hz
   have hz3:¬ rs'.length=0:=by omega
   have hz4:((rs'.length:Int) == 0)=false:=by simp;omega
   rw [HLB.out] at e2
   have E1:Hid (VN=(n:Int)∧VB=(rs.length:Int)):=⟨e1,e2⟩
   have E3:Hid (VA=(ps'.map TxnQ.e).drop n):=e3
   have E4:Hid (VK=witL ((ps.map TxnQ.e).drop n) (ps'.map TxnQ.e)):=e4
   clear HW1 HW2 e1 e2 e3 e4 hz Pb hBP RbP hsP
   have hcl:=fun w h=>cloneTxns_any (.slice ra' rs'.length rc') rs' w h hps' hls'
   have hou:=fun w h h' => outside_any (.slice ra rs.length rc) (.slice a' ps'.length cap') rs ps' w h h' hr40 (by omega)
   have hcl2:=fun v w h=>cloneTxns_any v (witQ rs (ps'.map TxnQ.e)) w h (fun p hp=>hps p (wit_mem hp)) (by have:=wit_n rs (ps'.map TxnQ.e);omega)
   rw [wit_map] at hcl2
   have Pb:=Blk.new Y 78 #[.int .i64 0,.int .i64 n,.int .i64 rs.length,.slice none 0 0,.slice none 0 0]
   have hbP:Below Y.heap.size Y (Y.alloc (.cells #[.int .i64 0,.int .i64 n,.int .i64 rs.length,.slice none 0 0,.slice none 0 0] 78)):=by go_grown
   have hBP:=hBY.trans (hbP.mono hBY.size)
   have RbP:=RbY.below hbP
   have hsP:Y.heap.size < (Y.alloc (.cells #[.int .i64 0,.int .i64 n,.int .i64 rs.length,.slice none 0 0,.slice none 0 0] 78)).heap.size:=by simp
   clear hbP hBY RbY
   go_wp2_with fail
   clear c0 c1
   generalize Y.alloc (.cells #[.int .i64 0,.int .i64 n,.int .i64 rs.length,.slice none 0 0,.slice none 0 0] 78)=Z at *
   generalize Y.heap.size=pb at *
   refine (hcl Z (hA2 Z (h'.below hBP))).mono ?_
   rintro e w3 ⟨v3,q3,rfl,eq3,o3,n3,g3,hb3⟩
   obtain ⟨a3,c3,rfl⟩:=o3.shape
   have hpr:pb≠w.heap.size:=by omega
   have hrp:w.heap.size≠pb:=by omega
   have hs3:=hb3.size
   have l3:=o3.lt
   replace Pb:=Pb.below hb3
   replace RbP:=RbP.below hb3
   replace hBP:=hBP.trans (hb3.mono hBP.size)
   clear hcl hb3
   have E3q:Hid (q3.map TxnQ.e=VA):=show _=_ by rw [E3.out,eq3,HRS'.out]
   clear eq3 E3
   have p3:=Pb.cell 3 _ rfl
   have fp3:=Pb.frozen 3
   replace Pb:=Pb.putA 3 (.slice a3 q3.length c3)
   replace RbP:=RbP.other8 (g:=pb) (j:=3) (u:=.slice a3 q3.length c3) hrp
   replace hBP:=hBP.setCell (p:=⟨pb,3,none⟩) (show w.heap.size≤pb by omega) (.slice a3 q3.length c3)
   have hne3:∀ k∈txnK.fp (.slice a3 q3.length c3) q3,k ∉ [pb]∧k ∉ [w.heap.size]:=fun k hk=>by have:=g3 k hk;simp only [List.mem_singleton];omega
   replace o3:=o3.out (Out.setCell w3 pb 3 (.slice a3 q3.length c3)) (fun k hk=>(hne3 k hk).1)
   have hs3w:w3.heap.size=(w3.setCell ⟨pb,3,none⟩ (.slice a3 q3.length c3)).heap.size:=by simp
   go_wp2_with fail
   clear p3 fp3
   generalize w3.setCell ⟨pb,3,none⟩ (.slice a3 q3.length c3)=w4 at *
   rw [hs3w] at l3 hs3
   clear hs3w
   simp only [List.setIfInBounds_toArray,List.set_cons_zero,List.set_cons_succ] at Pb
   have hAr:=hA1 w4 (h.below hBP)
   refine (hou w4 hAr (h'.below hBP)).mono ?_
   rintro e w5 ⟨v5,rfl,hrow,hb5⟩
   replace hAr:=hAr.below hb5
   have hat5:txnK.At w5 v5 (witQ rs (ps'.map TxnQ.e)):=Kind.at_of_row hrow (fun q hq=>hAr.rdm (wit_mem hq))
   obtain ⟨a5,c5,rfl⟩:=own_shape hrow
   replace Pb:=Pb.below hb5
   replace RbP:=RbP.below hb5
   replace hBP:=hBP.trans (hb5.mono hBP.size)
   replace o3:=o3.below hb5
   have hs5:=hb5.size
   have hcl3:=hcl2 (.slice a5 (witQ rs (ps'.map TxnQ.e)).length c5) w5 hat5
   clear hou hb5 hrow hat5 hAr hcl2
   generalize witQ rs (ps'.map TxnQ.e)=wq at *
   go_wp2_with fail
   refine hcl3.mono ?_
   rintro e w6 ⟨v6,q6,rfl,eq6,o6,n6,g6,hb6⟩
   obtain ⟨a6,c6,rfl⟩:=o6.shape
   replace Pb:=Pb.below hb6
   replace RbP:=RbP.below hb6
   replace hBP:=hBP.trans (hb6.mono hBP.size)
   replace o3:=o3.below hb6
   have E4q:Hid (q6.map TxnQ.e=VK):=show _=_ by rw [E4.out,eq6,HRS.out]
   clear eq6 E4 hcl3 hb6
   have hne6:∀ k∈txnK.fp (.slice a6 q6.length c6) q6,k ∉ [pb]∧k ∉ [w.heap.size]:=fun k hk=>by have:=g6 k hk;simp only [List.mem_singleton];omega
   have gA:∀ k∈txnK.fp (.slice a3 q3.length c3) q3 ++ txnK.fp (.slice a6 q6.length c6) q6,w.heap.size≤k:=fun k hk=>by
    rcases List.mem_append.1 hk with hk | hk
    ·have:=g3 k hk;omega
    ·have:=g6 k hk;omega
   have nA:(txnK.fp (.slice a3 q3.length c3) q3 ++ txnK.fp (.slice a6 q6.length c6) q6).Nodup:=List.nodup_append.2 ⟨n3,n6,fun x hx y hy e=>by have:=l3 x hx;have:=g6 y hy;omega⟩
   have p0:=Pb.cell 0 _ rfl
   have fp0:=Pb.frozen 0
   have p1:=Pb.cell 1 _ rfl
   have fp1:=Pb.frozen 1
   have p2:=Pb.cell 2 _ rfl
   have fp2:=Pb.frozen 2
   have p3:=Pb.cell 3 _ rfl
   have fp3:=Pb.frozen 3
   have p4:=Pb.cell 4 _ rfl
   have fp4:=Pb.frozen 4
   have RbQ:=RbP.other8 (g:=pb) (j:=4) (u:=.slice a6 q6.length c6) hrp
   have KQ:=hBP.setCell (p:=⟨pb,4,none⟩) (show w.heap.size≤pb by omega) (.slice a6 q6.length c6)
   have KF:=below_row KQ (Nat.le_refl w.heap.size) #[.int .i64 0,.int .i64 n,.int .i64 rs.length,.slice a3 q3.length c3,.slice a6 q6.length c6]
   have O3:Hid _:=(o3.out (Out.setCell w6 pb 4 (.slice a6 q6.length c6)) (fun k hk=>(hne3 k hk).1)).out (out_row _ w.heap.size #[.int .i64 0,.int .i64 n,.int .i64 rs.length,.slice a3 q3.length c3,.slice a6 q6.length c6]) (fun k hk=>(hne3 k hk).2)
   have O6:Hid _:=(o6.out (Out.setCell w6 pb 4 (.slice a6 q6.length c6)) (fun k hk=>(hne6 k hk).1)).out (out_row _ w.heap.size #[.int .i64 0,.int .i64 n,.int .i64 rs.length,.slice a3 q3.length c3,.slice a6 q6.length c6]) (fun k hk=>(hne6 k hk).2)
   have Rr:=RbQ.row #[.int .i64 0,.int .i64 n,.int .i64 rs.length,.slice a3 q3.length c3,.slice a6 q6.length c6]
   go_wp2_with (first | (refine st_row (by kernel_rfl) 78 _ _ rfl _ #[.int .i64 0,.int .i64 n,.int .i64 rs.length,.slice a3 q3.length c3,.slice a6 q6.length c6] rfl rfl 78 _ RbQ sz_plan rfl (by simp [Value.oneCell']) ?_))
   have yy0:=Rr.cell 0 _ rfl
   have yy1:=Rr.cell 1 _ rfl
   have yy2:=Rr.cell 2 _ rfl
   have yy3:=Rr.cell 3 _ rfl
   have yy4:=Rr.cell 4 _ rfl
   refine bodyPost_ret (v:=.agg #[.int .i64 0,.int .i64 n,.int .i64 rs.length,.slice a3 q3.length c3,.slice a6 q6.length c6]) (by simp [results,Tryz.results41,go_sem,yy0,yy1,yy2,yy3,yy4]) rfl ?_
   refine ⟨.slice a3 q3.length c3,.slice a6 q6.length c6,q3,q6,?_,E3q.out,E4q.out,O3.out,O6.out,nA,gA,KF⟩
   rw [E1.out.1,E1.out.2]
 ·obtain ⟨e1,e2,e3,e4⟩:=HV.out hC
  have E1:Hid (VN=0∧VB=0∧VA=[]∧VK=[]):=⟨e1,e2,e3,e4⟩
  have c0:=Cb.cell 0 _ rfl
  have c1:=Cb.cell 1 _ rfl
  clear HV HV1 HV2 HCV HL e1 e2 e3 e4
  have hC' : (C != 0)=true:=by simpa using hC
  have KF:=below_row hB (Nat.le_refl w.heap.size) #[.int .i64 C,.int .i64 0,.int .i64 0,.slice none 0 0,.slice none 0 0]
  have Rr:=Rb.row #[.int .i64 C,.int .i64 0,.int .i64 0,.slice none 0 0,.slice none 0 0]
  go_wp2_with (first | (refine st_row (by kernel_rfl) 78 _ _ rfl _ #[.int .i64 C,.int .i64 0,.int .i64 0,.slice none 0 0,.slice none 0 0] rfl rfl 78 _ Rb sz_plan rfl (by simp [Value.oneCell']) ?_))
  have yy0:=Rr.cell 0 _ rfl
  have yy1:=Rr.cell 1 _ rfl
  have yy2:=Rr.cell 2 _ rfl
  have yy3:=Rr.cell 3 _ rfl
  have yy4:=Rr.cell 4 _ rfl
  refine bodyPost_ret (v:=.agg #[.int .i64 C,.int .i64 0,.int .i64 0,.slice none 0 0,.slice none 0 0]) (by simp [results,Tryz.results41,go_sem,yy0,yy1,yy2,yy3,yy4]) rfl ?_
  refine ⟨.slice none 0 0,.slice none 0 0,[],[],?_,?_,?_,(nil_fp _).1,(nil_fp _).1,?_,?_,KF⟩
  ·rw [E1.out.1,E1.out.2.1]
  ·rw [E1.out.2.2.1];rfl
  ·rw [E1.out.2.2.2];rfl
  ·rw [(nil_fp w).2];simp
  ·rw [(nil_fp w).2];simp

set_option maxRecDepth 100000 in
set_option maxHeartbeats 8000000 in
theorem l8Plan_any (v v' : Value) (ps ps' : List TxnQ) (w:World) (h:txnK.At w v ps) (h' : txnK.At w v' ps') (hcp:CapOk v) (hcp' : CapOk v') (hl:ps.length + nmL TxnQ.n ps≤1048576) (hl' : ps'.length + nmL TxnQ.n ps' ≤ 1048576) (hC:bthF (ps.map TxnQ.e) (ps'.map TxnQ.e)=0) :
  Calls Tryz.prog 137 #[v,v'] w fun e w' => ∃ (v1 v2:Value) (q1 q2:List TxnQ),e=.returned (.agg #[.int .i64 0,.int .i64 (plN (ps.map TxnQ.e) (ps'.map TxnQ.e)),.int .i64 (plB (ps.map TxnQ.e) (ps'.map TxnQ.e)),v1,v2])∧q1.map TxnQ.e=plA (ps.map TxnQ.e) (ps'.map TxnQ.e)∧q2.map TxnQ.e=plK (ps.map TxnQ.e) (ps'.map TxnQ.e)∧txnK.Own w' v1 q1∧txnK.Own w' v2 q2∧(txnK.fp v1 q1 ++ txnK.fp v2 q2).Nodup∧(∀ k∈txnK.fp v1 q1 ++ txnK.fp v2 q2,w.heap.size≤k)∧Below w.heap.size w w' := by
 have HV:Hid (bthF (ps.map TxnQ.e) (ps'.map TxnQ.e)≠0→plN (ps.map TxnQ.e) (ps'.map TxnQ.e)=0∧plB (ps.map TxnQ.e) (ps'.map TxnQ.e)=0∧plA (ps.map TxnQ.e) (ps'.map TxnQ.e)=[]∧plK (ps.map TxnQ.e) (ps'.map TxnQ.e)=[]):=fun h0=>pl_bad h0
 have HV1:Hid (bthF (ps.map TxnQ.e) (ps'.map TxnQ.e)=0→(ps'.map TxnQ.e).drop (comN (ps.map TxnQ.e) (ps'.map TxnQ.e))=[]→plN (ps.map TxnQ.e) (ps'.map TxnQ.e)=(comN (ps.map TxnQ.e) (ps'.map TxnQ.e):Int)∧plB (ps.map TxnQ.e) (ps'.map TxnQ.e)=0∧plA (ps.map TxnQ.e) (ps'.map TxnQ.e)=[]∧plK (ps.map TxnQ.e) (ps'.map TxnQ.e)=(ps.map TxnQ.e).drop (comN (ps.map TxnQ.e) (ps'.map TxnQ.e))):=fun h0 h1=>pl_all h0 h1
 have HV2:Hid (bthF (ps.map TxnQ.e) (ps'.map TxnQ.e)=0→(ps'.map TxnQ.e).drop (comN (ps.map TxnQ.e) (ps'.map TxnQ.e))≠[]→plN (ps.map TxnQ.e) (ps'.map TxnQ.e)=(comN (ps.map TxnQ.e) (ps'.map TxnQ.e):Int)∧plB (ps.map TxnQ.e) (ps'.map TxnQ.e)=(((ps.map TxnQ.e).drop (comN (ps.map TxnQ.e) (ps'.map TxnQ.e))).length:Int)∧plA (ps.map TxnQ.e) (ps'.map TxnQ.e)=(ps'.map TxnQ.e).drop (comN (ps.map TxnQ.e) (ps'.map TxnQ.e))∧plK (ps.map TxnQ.e) (ps'.map TxnQ.e)=witL ((ps.map TxnQ.e).drop (comN (ps.map TxnQ.e) (ps'.map TxnQ.e))) (ps'.map TxnQ.e)):=fun h0 h1=>pl_new h0 h1
 have HL:Hid (bthF (ps.map TxnQ.e) (ps'.map TxnQ.e)=0→ps.length≤40∧ps'.length≤40∧(∀ p∈ps,0 < p.acts.length)∧(∀ p∈ps',0 < p.acts.length)):=fun h0=>⟨by simpa using (lst_mem (bth_zero h0).1).1,by simpa using (lst_mem (bth_zero h0).2).1,lst_pos (bth_zero h0).1,lst_pos (bth_zero h0).2⟩
 have hn1:comN (ps.map TxnQ.e) (ps'.map TxnQ.e)≤ps.length:=by simpa using (com_le (ps.map TxnQ.e) (ps'.map TxnQ.e)).1
 have hn2:comN (ps.map TxnQ.e) (ps'.map TxnQ.e)≤ps'.length:=by simpa using (com_le (ps.map TxnQ.e) (ps'.map TxnQ.e)).2
 have hB:Below w.heap.size w (w.alloc (.cells #[.int .i64 0,.int .i64 0,.int .i64 0,.slice none 0 0,.slice none 0 0] 78)):=by go_grown
 have Rb:=Blk.new w 78 #[.int .i64 0,.int .i64 0,.int .i64 0,.slice none 0 0,.slice none 0 0]
 have hq:=l8Common_any v v' ps ps' (w.alloc (.cells #[.int .i64 0,.int .i64 0,.int .i64 0,.slice none 0 0,.slice none 0 0] 78)) (h.below hB) (h'.below hB) hl hl'
 obtain ⟨a,cap,rfl⟩:=h.shape
 obtain ⟨a',cap',rfl⟩:=h'.shape
 have HV1' := HV1.out hC
 have HV2' := HV2.out hC
 have HW1:Hid _:=HV1'
 have HW2:Hid _:=HV2'
 obtain ⟨h40,h40',hpos,hpos'⟩:=HL.out hC
 clear HV HV1 HV2 HV1' HV2' HL hC
 generalize plN (ps.map TxnQ.e) (ps'.map TxnQ.e)=VN at *
 generalize plB (ps.map TxnQ.e) (ps'.map TxnQ.e)=VB at *
 generalize plA (ps.map TxnQ.e) (ps'.map TxnQ.e)=VA at *
 generalize plK (ps.map TxnQ.e) (ps'.map TxnQ.e)=VK at *
 generalize comN (ps.map TxnQ.e) (ps'.map TxnQ.e)=n at *
 have hd1:=fun w (h:txnK.At w (.slice a ps.length cap) ps) c' => h.dropS n hn1 hcp.1 c'
 have hd2:=fun w (h:txnK.At w (.slice a' ps'.length cap') ps') c' => h.dropS n hn2 hcp'.1 c'
 obtain ⟨rs,hrs⟩:∃ rs,rs=ps.drop n:=⟨_,rfl⟩
 obtain ⟨rs',hrs'⟩:∃ rs',rs' = ps'.drop n:=⟨_,rfl⟩
 have HRS:Hid (rs.map TxnQ.e=(ps.map TxnQ.e).drop n):=show _=_ by rw [hrs,List.map_drop]
 have HRS' : Hid (rs'.map TxnQ.e=(ps'.map TxnQ.e).drop n):=show _=_ by rw [hrs',List.map_drop]
 have hls:rs.length + nmL TxnQ.n rs≤1048576:=by rw [hrs];have:=drop_n ps n;omega
 have hls' : rs'.length + nmL TxnQ.n rs' ≤ 1048576:=by rw [hrs'];have:=drop_n ps' n;omega
 have hps:∀ p∈rs,0 < p.acts.length:=fun p hp=>hpos p (List.mem_of_mem_drop (by rw [← hrs];exact hp))
 have hps' : ∀ p∈rs',0 < p.acts.length:=fun p hp=>hpos' p (List.mem_of_mem_drop (by rw [← hrs'];exact hp))
 have hle1:rs.length=ps.length - n:=by rw [hrs,List.length_drop]
 have hle2:rs'.length=ps'.length - n:=by rw [hrs',List.length_drop]
 rw [← hrs] at hd1
 rw [← hrs'] at hd2
 have hn0i:(0:Int)≤(n:Int):=by omega
 have hn1i:(n:Int)≤(ps.length:Int):=by omega
 have hn2i:(n:Int)≤(ps'.length:Int):=by omega
 obtain ⟨ra,rc,hs1,hA1⟩:∃ ra rc,(∀ u:World,(Instr.slice 28 (.slice a ps.length cap) (some (.int .i64 n)) none none).run Tryz.prog u=.ok (.slice ra rs.length rc) u)∧(∀ w,txnK.At w (.slice a ps.length cap) ps→txnK.At w (.slice ra rs.length rc) rs):=by
  refine ⟨_,_,fun u=>?_,fun w h=>hd1 w h (cap - n)⟩
  rw [run_slice_l u 28 a ps.length cap (by kernel_rfl) .i64 (n:Int) hn0i hn1i,hle1]
  rfl
 obtain ⟨ra',rc',hs2,hA2⟩:∃ ra rc,(∀ u:World,(Instr.slice 28 (.slice a' ps'.length cap') (some (.int .i64 n)) none none).run Tryz.prog u=.ok (.slice ra rs'.length rc) u)∧(∀ w,txnK.At w (.slice a' ps'.length cap') ps' → txnK.At w (.slice ra rs'.length rc) rs'):=by
  refine ⟨_,_,fun u=>?_,fun w h=>hd2 w h (cap' - n)⟩
  rw [run_slice_l u 28 a' ps'.length cap' (by kernel_rfl) .i64 (n:Int) hn0i hn2i,hle2]
  rfl
 have hr40:rs.length≤40:=by omega
 have HLB:Hid (((ps.map TxnQ.e).drop n).length=rs.length):=show _=_ by rw [List.length_drop,List.length_map,hle1]
 have HLI:Hid (((ps.length:Int) - (n:Int))=(rs.length:Int)):=show _=_ by omega
 have HZ:Hid (rs' = []↔n=ps'.length):=by
  show _↔_
  constructor
  ·intro e;rw [e] at hle2;simp at hle2;omega
  ·intro e;exact List.length_eq_zero_iff.1 (by omega)
 clear hd1 hd2 hrs hrs' hle1 hle2
 go_enter Tryz.func137,Tryz.ntmps137
 go_wp2_with fail
 refine hq.mono ?_
 rintro e Y ⟨rfl,hb1⟩
 replace hB:=hB.trans (hb1.mono hB.size)
 replace Rb:=Rb.below hb1
 clear hq hb1
 have hrY:=Rb.lt
 by_cases hz:n=ps'.length
 ·obtain ⟨e1,e2,e3,e4⟩:=HW1.out (by rw [← HRS'.out,HZ.out.2 hz];rfl)
  have hzi:((n:Int) == (ps'.length:Int))=true:=by rw [hz];simp
  have E1:Hid (VN=(n:Int)∧VB=0∧VA=[]):=⟨e1,e2,e3⟩
  have E4:Hid (VK=(ps.map TxnQ.e).drop n):=e4
  have Pb:=Blk.new Y 78 #[.int .i64 0,.int .i64 n,.int .i64 0,.slice none 0 0,.slice none 0 0]
  have hbP:Below Y.heap.size Y (Y.alloc (.cells #[.int .i64 0,.int .i64 n,.int .i64 0,.slice none 0 0,.slice none 0 0] 78)):=by go_grown
  have hBP:=hB.trans (hbP.mono hB.size)
  have RbP:=Rb.below hbP
  have hsP:Y.heap.size < (Y.alloc (.cells #[.int .i64 0,.int .i64 n,.int .i64 0,.slice none 0 0,.slice none 0 0] 78)).heap.size:=by simp
  have hcl:=fun w h=>l2CopyAll_any (.slice ra rs.length rc) rs w h hps hls
  clear HW1 HW2 hB Rb hbP e1 e2 e3 e4 HZ hz HLI
  go_wp2_with fail
  generalize Y.alloc (.cells #[.int .i64 0,.int .i64 n,.int .i64 0,.slice none 0 0,.slice none 0 0] 78)=Z at *
  generalize Y.heap.size=pb at *
  refine (hcl Z (hA1 Z (h.below hBP))).mono ?_
  rintro e w3 ⟨v3,q3,rfl,eq3,o3,n3,g3,hb3⟩
  obtain ⟨a3,c3,rfl⟩:=o3.shape
  replace Pb:=Pb.below hb3
  replace RbP:=RbP.below hb3
  replace hBP:=hBP.trans (hb3.mono hBP.size)
  clear hcl hb3
  have hpr:pb≠w.heap.size:=by omega
  have hrp:w.heap.size≠pb:=by omega
  have E4q:Hid (q3.map TxnQ.e=VK):=show _=_ by rw [E4.out,eq3,HRS.out]
  clear eq3 E4
  have hne:∀ k∈txnK.fp (.slice a3 q3.length c3) q3,k ∉ [pb]∧k ∉ [w.heap.size]:=fun k hk=>by have:=g3 k hk;simp only [List.mem_singleton];omega
  have g4:∀ k∈txnK.fp (.slice a3 q3.length c3) q3,w.heap.size≤k:=fun k hk=>by have:=g3 k hk;omega
  have p0:=Pb.cell 0 _ rfl
  have fp0:=Pb.frozen 0
  have p1:=Pb.cell 1 _ rfl
  have fp1:=Pb.frozen 1
  have p2:=Pb.cell 2 _ rfl
  have fp2:=Pb.frozen 2
  have p3:=Pb.cell 3 _ rfl
  have fp3:=Pb.frozen 3
  have p4:=Pb.cell 4 _ rfl
  have fp4:=Pb.frozen 4
  have RbQ:=RbP.other8 (g:=pb) (j:=4) (u:=.slice a3 q3.length c3) hrp
  have KQ:=hBP.setCell (p:=⟨pb,4,none⟩) (show w.heap.size≤pb by omega) (.slice a3 q3.length c3)
  have KF:=below_row KQ (Nat.le_refl w.heap.size) #[.int .i64 0,.int .i64 n,.int .i64 0,.slice none 0 0,.slice a3 q3.length c3]
  have O5:Hid _:=(o3.out (Out.setCell w3 pb 4 (.slice a3 q3.length c3)) (fun k hk=>(hne k hk).1)).out (out_row _ w.heap.size #[.int .i64 0,.int .i64 n,.int .i64 0,.slice none 0 0,.slice a3 q3.length c3]) (fun k hk=>(hne k hk).2)
  have Rr:=RbQ.row #[.int .i64 0,.int .i64 n,.int .i64 0,.slice none 0 0,.slice a3 q3.length c3]
  go_wp2_with (first | (refine st_row (by kernel_rfl) 78 _ _ rfl _ #[.int .i64 0,.int .i64 n,.int .i64 0,.slice none 0 0,.slice a3 q3.length c3] rfl rfl 78 _ RbQ sz_plan rfl (by simp [Value.oneCell']) ?_))
  have yy0:=Rr.cell 0 _ rfl
  have yy1:=Rr.cell 1 _ rfl
  have yy2:=Rr.cell 2 _ rfl
  have yy3:=Rr.cell 3 _ rfl
  have yy4:=Rr.cell 4 _ rfl
  refine bodyPost_ret (v:=.agg #[.int .i64 0,.int .i64 n,.int .i64 0,.slice none 0 0,.slice a3 q3.length c3]) (by simp [results,Tryz.results137,go_sem,yy0,yy1,yy2,yy3,yy4]) rfl ?_
  refine ⟨.slice none 0 0,.slice a3 q3.length c3,[],q3,?_,?_,E4q.out,(nil_fp _).1,O5.out,?_,?_,KF⟩
  ·rw [E1.out.1,E1.out.2.1]
  ·rw [E1.out.2.2];rfl
  ·rw [(nil_fp w).2];exact n3
  ·rw [(nil_fp w).2];exact g4
 ·obtain ⟨e1,e2,e3,e4⟩:=HW2.out (by rw [← HRS'.out];intro e;exact hz (HZ.out.1 (List.map_eq_nil_iff.1 e)))
  have hzi:((n:Int) == (ps'.length:Int))=false:=by simp;omega
  rw [HLB.out] at e2
  have E1:Hid (VN=(n:Int)∧VB=(rs.length:Int)):=⟨e1,e2⟩
  have E3:Hid (VA=(ps'.map TxnQ.e).drop n):=e3
  have E4:Hid (VK=witL ((ps.map TxnQ.e).drop n) (ps'.map TxnQ.e)):=e4
  have hli:=HLI.out
  clear HW1 HW2 e1 e2 e3 e4 HZ HLI hz
  have hcl:=fun w h=>l2CopyAll_any (.slice ra' rs'.length rc') rs' w h hps' hls'
  have hou:=fun w h h' => l8Without_any (.slice ra rs.length rc) (.slice a' ps'.length cap') rs ps' w h h' hps hr40 hls (by omega)
  have Pb:=Blk.new Y 78 #[.int .i64 0,.int .i64 n,.int .i64 rs.length,.slice none 0 0,.slice none 0 0]
  have hbP:Below Y.heap.size Y (Y.alloc (.cells #[.int .i64 0,.int .i64 n,.int .i64 rs.length,.slice none 0 0,.slice none 0 0] 78)):=by go_grown
  have hBP:=hB.trans (hbP.mono hB.size)
  have RbP:=Rb.below hbP
  have hsP:Y.heap.size < (Y.alloc (.cells #[.int .i64 0,.int .i64 n,.int .i64 rs.length,.slice none 0 0,.slice none 0 0] 78)).heap.size:=by simp
  clear hbP hB Rb
  go_wp2_with fail
  clear hli
  generalize Y.alloc (.cells #[.int .i64 0,.int .i64 n,.int .i64 rs.length,.slice none 0 0,.slice none 0 0] 78)=Z at *
  generalize Y.heap.size=pb at *
  refine (hcl Z (hA2 Z (h'.below hBP))).mono ?_
  rintro e w3 ⟨v3,q3,rfl,eq3,o3,n3,g3,hb3⟩
  obtain ⟨a3,c3,rfl⟩:=o3.shape
  have hpr:pb≠w.heap.size:=by omega
  have hrp:w.heap.size≠pb:=by omega
  have hs3:=hb3.size
  have l3:=o3.lt
  replace Pb:=Pb.below hb3
  replace RbP:=RbP.below hb3
  replace hBP:=hBP.trans (hb3.mono hBP.size)
  clear hcl hb3
  have E3q:Hid (q3.map TxnQ.e=VA):=show _=_ by rw [E3.out,eq3,HRS'.out]
  clear eq3 E3
  have p3:=Pb.cell 3 _ rfl
  have fp3:=Pb.frozen 3
  replace Pb:=Pb.putA 3 (.slice a3 q3.length c3)
  replace RbP:=RbP.other8 (g:=pb) (j:=3) (u:=.slice a3 q3.length c3) hrp
  replace hBP:=hBP.setCell (p:=⟨pb,3,none⟩) (show w.heap.size≤pb by omega) (.slice a3 q3.length c3)
  have hne3:∀ k∈txnK.fp (.slice a3 q3.length c3) q3,k ∉ [pb]∧k ∉ [w.heap.size]:=fun k hk=>by have:=g3 k hk;simp only [List.mem_singleton];omega
  replace o3:=o3.out (Out.setCell w3 pb 3 (.slice a3 q3.length c3)) (fun k hk=>(hne3 k hk).1)
  have hs3w:w3.heap.size=(w3.setCell ⟨pb,3,none⟩ (.slice a3 q3.length c3)).heap.size:=by simp
  go_wp2_with fail
  clear p3 fp3
  generalize w3.setCell ⟨pb,3,none⟩ (.slice a3 q3.length c3)=w4 at *
  rw [hs3w] at l3 hs3
  clear hs3w
  simp only [List.setIfInBounds_toArray,List.set_cons_zero,List.set_cons_succ] at Pb
  have hAr:=hA1 w4 (h.below hBP)
  refine (hou w4 hAr (h'.below hBP)).mono ?_
  rintro e w6 ⟨v6,q6,rfl,eq6,o6,n6,g6,hb6⟩
  obtain ⟨a6,c6,rfl⟩:=o6.shape
  replace Pb:=Pb.below hb6
  replace RbP:=RbP.below hb6
  replace hBP:=hBP.trans (hb6.mono hBP.size)
  replace o3:=o3.below hb6
  have E4q:Hid (q6.map TxnQ.e=VK):=show _=_ by rw [E4.out,eq6,HRS.out]
  clear eq6 E4 hou hb6 hAr
  have hne6:∀ k∈txnK.fp (.slice a6 q6.length c6) q6,k ∉ [pb]∧k ∉ [w.heap.size]:=fun k hk=>by have:=g6 k hk;simp only [List.mem_singleton];omega
  have gA:∀ k∈txnK.fp (.slice a3 q3.length c3) q3 ++ txnK.fp (.slice a6 q6.length c6) q6,w.heap.size≤k:=fun k hk=>by
   rcases List.mem_append.1 hk with hk | hk
   ·have:=g3 k hk;omega
   ·have:=g6 k hk;omega
  have nA:(txnK.fp (.slice a3 q3.length c3) q3 ++ txnK.fp (.slice a6 q6.length c6) q6).Nodup:=List.nodup_append.2 ⟨n3,n6,fun x hx y hy e=>by have:=l3 x hx;have:=g6 y hy;omega⟩
  have p0:=Pb.cell 0 _ rfl
  have fp0:=Pb.frozen 0
  have p1:=Pb.cell 1 _ rfl
  have fp1:=Pb.frozen 1
  have p2:=Pb.cell 2 _ rfl
  have fp2:=Pb.frozen 2
  have p3:=Pb.cell 3 _ rfl
  have fp3:=Pb.frozen 3
  have p4:=Pb.cell 4 _ rfl
  have fp4:=Pb.frozen 4
  have RbQ:=RbP.other8 (g:=pb) (j:=4) (u:=.slice a6 q6.length c6) hrp
  have KQ:=hBP.setCell (p:=⟨pb,4,none⟩) (show w.heap.size≤pb by omega) (.slice a6 q6.length c6)
  have KF:=below_row KQ (Nat.le_refl w.heap.size) #[.int .i64 0,.int .i64 n,.int .i64 rs.length,.slice a3 q3.length c3,.slice a6 q6.length c6]
  have O3:Hid _:=(o3.out (Out.setCell w6 pb 4 (.slice a6 q6.length c6)) (fun k hk=>(hne3 k hk).1)).out (out_row _ w.heap.size #[.int .i64 0,.int .i64 n,.int .i64 rs.length,.slice a3 q3.length c3,.slice a6 q6.length c6]) (fun k hk=>(hne3 k hk).2)
  have O6:Hid _:=(o6.out (Out.setCell w6 pb 4 (.slice a6 q6.length c6)) (fun k hk=>(hne6 k hk).1)).out (out_row _ w.heap.size #[.int .i64 0,.int .i64 n,.int .i64 rs.length,.slice a3 q3.length c3,.slice a6 q6.length c6]) (fun k hk=>(hne6 k hk).2)
  have Rr:=RbQ.row #[.int .i64 0,.int .i64 n,.int .i64 rs.length,.slice a3 q3.length c3,.slice a6 q6.length c6]
  go_wp2_with (first | (refine st_row (by kernel_rfl) 78 _ _ rfl _ #[.int .i64 0,.int .i64 n,.int .i64 rs.length,.slice a3 q3.length c3,.slice a6 q6.length c6] rfl rfl 78 _ RbQ sz_plan rfl (by simp [Value.oneCell']) ?_))
  have yy0:=Rr.cell 0 _ rfl
  have yy1:=Rr.cell 1 _ rfl
  have yy2:=Rr.cell 2 _ rfl
  have yy3:=Rr.cell 3 _ rfl
  have yy4:=Rr.cell 4 _ rfl
  refine bodyPost_ret (v:=.agg #[.int .i64 0,.int .i64 n,.int .i64 rs.length,.slice a3 q3.length c3,.slice a6 q6.length c6]) (by simp [results,Tryz.results137,go_sem,yy0,yy1,yy2,yy3,yy4]) rfl ?_
  refine ⟨.slice a3 q3.length c3,.slice a6 q6.length c6,q3,q6,?_,E3q.out,E4q.out,O3.out,O6.out,nA,gA,KF⟩
  rw [E1.out.1,E1.out.2]

end Go.Proofs.YtfdkcbafpiojkaaGreatDoor
namespace Go.Proofs.YtfdkcbafpiojkaaGreatDoor
open Go.RowKit
open Go.BigFrame
set_option maxRecDepth 100000
/-- Is one of them known? -/
def frK (d fs:List TxnD):Bool:=fs.any (fun t=>knw d t)

theorem frK_yes {d fs:List TxnD} {t:TxnD} (h:t∈fs) (hk:knw d t=true):frK d fs=true:=List.any_eq_true.2 ⟨t,h,hk⟩

theorem frK_no {d fs:List TxnD} (h:∀ j,j < fs.length→knw d (fs.getD j txnNo')=false):frK d fs=false:=by
 unfold frK
 rw [List.any_eq_false]
 intro t ht
 obtain ⟨j,hj,rfl⟩:=List.mem_iff_getElem.1 ht
 have:=h j hj
 simpa [List.getD,hj] using this

def dlC (r:RepE) (fs:List TxnD):Int:=if repF r=0 then (if lstF fs=0 then (if frK r.done fs=true then 6 else if 16 < r.done.length + fs.length then 7 else 0) else lstF fs) else repF r

def dlA (r:RepE) (fs:List TxnD):Int:=if dlC r fs=0 then plB r.tent fs else 0

def dlE (r:RepE) (fs:List TxnD):RepE:=if dlC r fs=0 then mkR (r.done ++ fs) (plK r.tent fs) else ⟨[],[],[],[],[]⟩

theorem dlC_ways (r:RepE) (fs:List TxnD):(repF r≠0∧dlC r fs=repF r)∨(repF r=0∧lstF fs≠0∧dlC r fs=lstF fs)∨(repF r=0∧lstF fs=0∧frK r.done fs=true∧dlC r fs=6) ∨
  (repF r=0∧lstF fs=0∧frK r.done fs=false∧16 < r.done.length + fs.length∧dlC r fs=7)∨(repF r=0∧lstF fs=0∧frK r.done fs=false∧¬ 16 < r.done.length + fs.length∧dlC r fs=0):=by
 unfold dlC
 by_cases h0:repF r=0
 ·by_cases h1:lstF fs=0
  ·cases h2:frK r.done fs <;> by_cases h4:16 < r.done.length + fs.length <;> simp [h0,h1,h2,h4]
  ·simp [h0,h1]
 ·simp [h0]

theorem witL_sub9 {ds es:List TxnD} {t:TxnD} (h:t∈witL ds es):t∈ds:=by
 unfold witL at h
 exact (List.mem_filter.1 h).1

theorem plK_sub9 {ds fs:List TxnD} {t:TxnD} (h:t∈plK ds fs):t∈ds:=by
 unfold plK at h
 split at h
 ·split at h
  ·exact List.mem_of_mem_drop h
  ·exact List.mem_of_mem_drop (witL_sub9 h)
 ·cases h

theorem plK_len9 (ds fs:List TxnD):(plK ds fs).length≤ds.length:=by
 unfold plK
 split
 ·split
  ·simp
  ·refine Nat.le_trans (show (witL _ _).length≤(ds.drop (comN ds fs)).length from by unfold witL;exact List.length_filter_le _ _) (by simp)
 ·simp

theorem lst_right9 {a b:List TxnD} (h:lstF (a ++ b)=0):lstF b=0:=by
 have h' := (lst_iff _).1 h
 refine (lst_iff _).2 ⟨by have:=h'.1;simp at this;omega,fun t ht=>h'.2.1 t (List.mem_append_right _ ht),(List.pairwise_append.1 h'.2.2).2.1⟩

theorem dlC_zero {r:RepE} {fs:List TxnD} (h:dlC r fs=0):repF r=0∧lstF fs=0∧frK r.done fs=false∧r.done.length + fs.length≤16∧bthF r.tent fs=0∧(∀ t∈r.done ++ fs,t.F=0)∧(∀ t∈plK r.tent fs,t.F=0)∧(plK r.tent fs).length≤8:=by
 rcases dlC_ways r fs with ⟨a,b⟩ | ⟨_,a,b⟩ | ⟨_,_,_,b⟩ | ⟨_,_,_,_,b⟩ | ⟨a,b,c,d,_⟩
 ·exact absurd (b.symm.trans h) a
 ·exact absurd (b.symm.trans h) a
 ·rw [b] at h;exact absurd h (by decide)
 ·rw [b] at h;exact absurd h (by decide)
 ·have hz:=rep_zero a
  have ha:=((lst_iff _).1 hz.2.1).2.1
  have hb:=((lst_iff _).1 b).2.1
  refine ⟨a,b,c,by omega,?_,fun t ht=>?_,fun t ht=>ha t (List.mem_append_right _ (plK_sub9 ht)),Nat.le_trans (plK_len9 _ _) hz.1.2⟩
  ·unfold bthF
   rw [if_pos (lst_right9 hz.2.1)]
   exact b
  ·rcases List.mem_append.1 ht with ht | ht
   ·exact ha t (List.mem_append_left _ ht)
   ·exact hb t ht

set_option maxHeartbeats 1000000 in
theorem freshOne_any (i s q:Int) (a:Option Addr) (n c:Nat) (xs:List ActD) (vd uv1 uv2 uv3 uv4:Value) (qd:List TxnQ) (bx:Nat) (w:World) (hX:Blk w bx 32 #[vd,uv1,uv2,uv3,uv4]) (hD:txnK.At w vd qd) (hqd:qd.length≤1048576) :
  Calls Tryz.prog 140 #[.agg #[.int .i64 i,.int .i64 s,.int .i64 q,.slice a n c],.pointer (some ⟨bx,0,none⟩)] w fun e w' => e=.returned (.bool (knw (qd.map TxnQ.e) ⟨i,s,q,xs⟩))∧Below w.heap.size w w' := by
 have hB:Below w.heap.size w (w.alloc (.cells #[.int .i64 i,.int .i64 s,.int .i64 q,.slice a n c] 49)):=by go_grown
 have hX' := hX.below hB
 have hq:=implHasTxn_any vd qd ⟨i,s,q,xs⟩ a n c _ (hD.below hB) hqd
 dsimp only at hq
 obtain ⟨da,dk,rfl⟩:=hD.shape
 have x0:=hX'.cell 0 _ rfl
 generalize knw (qd.map TxnQ.e) ⟨i,s,q,xs⟩=E at *
 go_enter Tryz.func140,Tryz.ntmps140
 go_wp2_with fail
 refine hq.mono ?_
 rintro e w2 ⟨rfl,hb2⟩
 replace hB:=hB.trans (hb2.mono hB.size)
 go_wp2
 go_ret
 exact ⟨rfl,hB⟩

set_option maxHeartbeats 2000000 in
theorem indexFuncF_any (v:Value) (ps:List TxnQ) (vd uv1 uv2 uv3 uv4:Value) (qd:List TxnQ) (bx:Nat) (w:World) (h:txnK.At w v ps) (hX:Blk w bx 32 #[vd,uv1,uv2,uv3,uv4]) (hD:txnK.At w vd qd) (hqd:qd.length≤1048576) (hl:ps.length≤1048576) :
  Calls Tryz.prog 179 #[v,.func (.func 140) #[] #[.pointer (some ⟨bx,0,none⟩)]] w fun e w' => ∃ r:Int,e=.returned (.int .i64 r)∧(frK (qd.map TxnQ.e) (ps.map TxnQ.e)=true→0≤r)∧(frK (qd.map TxnQ.e) (ps.map TxnQ.e)=false→r < 0)∧Below w.heap.size w w' := by
 obtain ⟨a,cap,rfl⟩:=h.shape
 generalize hE:frK (qd.map TxnQ.e) (ps.map TxnQ.e)=E
 have HE:Hid (frK (qd.map TxnQ.e) (ps.map TxnQ.e)=E):=hE
 clear hE
 go_enter Tryz.func179,Tryz.ntmps179
 go_wp2
 go_loopw [8] (fun j wr=>∃ k:Nat,k≤ps.length∧j=.int .i64 k∧Below w.heap.size w wr∧Hid (∀ j,j < k→knw (qd.map TxnQ.e) ((ps.map TxnQ.e).getD j txnNo')=false)) (fun j _=>ps.length - (intOf j).toNat)
 case atStart=>exact ⟨0,Nat.zero_le _,rfl,Below.refl _ _,fun j hj=>absurd hj (Nat.not_lt_zero _)⟩
 case round=>
  obtain ⟨k,hk,rfl,hb,HA⟩:=hrel
  by_cases hlt:k < ps.length
  ·obtain ⟨b',off,rfl,hbs,hc,hrd⟩:=(h.below hb).cell (by decide) k hlt
   have hc' : ∀ j x,(txnK.cells ps[k])[j]? = some x→wr.cell? ⟨b',off + k * 4 + j,none⟩=some x:=hc
   have c0:=hc' 0 (.int .i64 ps[k].i) rfl
   have c1:=hc' 1 (.int .i64 ps[k].s) rfl
   have c2:=hc' 2 (.int .i64 ps[k].q) rfl
   have c3:=hc' 3 (ps[k].va) rfl
   rw [Nat.add_zero] at c0
   have HY:Hid (knw (qd.map TxnQ.e) (TxnQ.e ps[k])=true→E=true):=fun hx=>by rw [← HE.out];exact frK_yes (t:=TxnQ.e ps[k]) (List.mem_map.2 ⟨ps[k],List.getElem_mem hlt,rfl⟩) hx
   have HN:Hid (knw (qd.map TxnQ.e) (TxnQ.e ps[k])=false→∀ j,j < k + 1→knw (qd.map TxnQ.e) ((ps.map TxnQ.e).getD j txnNo')=false):=fun hx j hj=>by
    by_cases hjm:j=k
    ·subst hjm
     rw [txn_get ps j hlt]
     exact hx
    ·exact HA.out j (by omega)
   clear HA hc hc'
   generalize ps[k]=p at *
   obtain ⟨i,s,q,va',acts⟩:=p
   replace hrd:actK.At wr va' acts:=hrd
   obtain ⟨aa,ac,rfl⟩:=hrd.shape
   dsimp only [TxnQ.e] at c0 c1 c2 c3 HY HN
   have hq:=freshOne_any i s q aa acts.length ac acts vd uv1 uv2 uv3 uv4 qd bx wr (hX.below hb) (hD.below hb) hqd
   generalize knw (qd.map TxnQ.e) ⟨i,s,q,acts⟩=S at *
   have hlti:(k:Int) < (ps.length:Int):=by omega
   go_wp2_with fail
   refine hq.mono ?_
   rintro e w2 ⟨rfl,hb2⟩
   replace hb:=hb.trans (hb2.mono hb.size)
   clear hq c0 c1 c2 c3 hb2 hrd hbs
   cases S with
   | true=>
    have E1:Hid (E=true):=HY.out rfl
    clear HY HN
    go_wp2
    go_ret
    refine ⟨_,rfl,fun _=>by omega,fun h0=>?_,hb⟩
    rw [E1.out] at h0
    exact absurd h0 (by decide)
   | false=>
    have HR' : Hid _:=HN.out rfl
    clear HY HN
    go_wp2
    go_roundw
    case rel=>exact ⟨k + 1,by omega,by go_num,hb,HR'.out⟩
    case measure=>simp [intOf];omega
  ·have E1:Hid (E=false):=by rw [← HE.out];exact frK_no (fun j hj=>HA.out j (by simp at hj;omega))
   have hlti:¬ (k:Int) < (ps.length:Int):=by omega
   clear HA HE
   go_wp2
   go_ret
   refine ⟨_,rfl,fun h0=>?_,fun _=>by omega,hb⟩
   rw [E1.out] at h0
   exact absurd h0 (by decide)

set_option maxHeartbeats 1000000 in
theorem containsFuncF_any (v:Value) (ps:List TxnQ) (vd uv1 uv2 uv3 uv4:Value) (qd:List TxnQ) (bx:Nat) (w:World) (h:txnK.At w v ps) (hX:Blk w bx 32 #[vd,uv1,uv2,uv3,uv4]) (hD:txnK.At w vd qd) (hqd:qd.length≤1048576) (hl:ps.length≤1048576) :
  Calls Tryz.prog 139 #[v,.func (.func 140) #[] #[.pointer (some ⟨bx,0,none⟩)]] w fun e w' => e=.returned (.bool (frK (qd.map TxnQ.e) (ps.map TxnQ.e)))∧Below w.heap.size w w' := by
 have hq:=indexFuncF_any v ps vd uv1 uv2 uv3 uv4 qd bx w h hX hD hqd hl
 obtain ⟨a,cap,rfl⟩:=h.shape
 generalize frK (qd.map TxnQ.e) (ps.map TxnQ.e)=E at *
 go_enter Tryz.func139,Tryz.ntmps139
 go_wp2_with fail
 refine hq.mono ?_
 rintro e w2 ⟨r,rfl,h1,h2,hb⟩
 cases E with
 | true=>
  have h0:0≤r:=h1 rfl
  clear h1 h2
  go_wp2
  go_ret
  exact ⟨by simp [h0],hb⟩
 | false=>
  have h0:¬ 0≤r:=by have:=h2 rfl;omega
  clear h1 h2
  go_wp2
  go_ret
  exact ⟨by simp [h0],hb⟩

set_option maxRecDepth 100000 in
set_option maxHeartbeats 8000000 in
theorem checkFresh_any (p:RepQ) (vf:Value) (fs:List TxnQ) (w:World) (h:repK.rd w p) (nd:NiceV p.vd) (nt:NiceV p.vt) (hl:p.n≤1048576) (hT:txnK.At w vf fs) (hl' : fs.length + nmL TxnQ.n fs≤1048576) :
  Calls Tryz.prog 74 #[.agg #[p.vd,p.vb,p.vt,p.vu,p.vn],vf] w fun e w' => e=.returned (misC (dlC p.e (fs.map TxnQ.e)))∧Below w.heap.size w w' := by
 have hck:=fun w h=>checked_any p w h nd nt hl
 have hr:=fun (w' : World) hb=>repK.rd_below (w' := w') h hb
 have hW0:=dlC_ways p.e (fs.map TxnQ.e)
 have hlf:=fun w h=>implListFault_any vf fs w h hl'
 have hpd:p.done.length≤1048576:=by dsimp only [RepQ.n] at hl;omega
 have hcf:=fun bx w' hA hX hD=>containsFuncF_any vf fs p.vd p.vb p.vt p.vu p.vn p.done bx w' hA hX hD hpd (by omega)
 have hfd:frK p.e.done (fs.map TxnQ.e)=frK (p.done.map TxnQ.e) (fs.map TxnQ.e):=rfl
 rw [hfd] at hW0
 have hdl:p.e.done.length=p.done.length:=by simp [RepQ.e]
 rw [hdl,List.length_map] at hW0
 have hfl:(fs.length:Int)≤1048576:=by omega
 have hpl:(p.done.length:Int)≤1048576:=by omega
 have hck' : ∀ w,repK.rd w p→Calls Tryz.prog 80 #[.agg #[p.vd,p.vb,p.vt,p.vu,p.vn]] w fun e w' => ∃ (a0 a1 a2 a3:Option Addr) (l0 c0 l1 c1 l2 c2 l3 c3:Nat),e=.returned (.tuple #[.agg #[.slice a0 l0 c0,.slice a1 l1 c1,.slice a2 l2 c2,.slice a3 l3 c3],misC (repF p.e)])∧Below w.heap.size w w' := fun w h=>(hck w h).mono fun e w' hp=>by
  obtain ⟨a0,a1,a2,a3,l0,c0,l1,c1,l2,c2,l3,c3,he,_,hb⟩:=hp
  exact ⟨a0,a1,a2,a3,l0,c0,l1,c1,l2,c2,l3,c3,he,hb⟩
 have hmf:∀ (fn:Fn) (first cap:Array Value) (w:World),(Instr.makeFunc fn first cap).run Tryz.prog w=.ok (.func fn first cap) w:=fun _ _ _ _=>rfl
 obtain ⟨fa,fk,rfl⟩:=hT.shape
 clear hck hl hl' hfd hdl
 generalize dlC p.e (fs.map TxnQ.e)=C at *
 generalize lstF (fs.map TxnQ.e)=LF at *
 generalize frK (p.done.map TxnQ.e) (fs.map TxnQ.e)=FK at *
 generalize repF p.e=RF at *
 obtain ⟨pvd,pd,pvb,pb,pvt,pt,pvu,pu,pvn,pn⟩:=p
 obtain ⟨p0,p5,rfl⟩:∃ a c,pvd=.slice a pd.length c:=h.1.shape
 obtain ⟨p1,p6,rfl⟩:∃ a c,pvb=.slice a pb.length c:=h.2.1.shape
 obtain ⟨p2,p7,rfl⟩:∃ a c,pvt=.slice a pt.length c:=h.2.2.1.shape
 obtain ⟨p3,p8,rfl⟩:∃ a c,pvu=.slice a pu.length c:=h.2.2.2.1.shape
 obtain ⟨p4,p9,rfl⟩:∃ a c,pvn=.slice a pn.length c:=h.2.2.2.2.shape
 dsimp only at hr hW0 hcf hpl hck' hpd
 have hb0:Below w.heap.size w (w.alloc (.cells #[.slice p0 pd.length p5,.slice p1 pb.length p6,.slice p2 pt.length p7,.slice p3 pu.length p8,.slice p4 pn.length p9] 32)):=by go_grown
 have BA:=Blk.new w 32 #[.slice p0 pd.length p5,.slice p1 pb.length p6,.slice p2 pt.length p7,.slice p3 pu.length p8,.slice p4 pn.length p9]
 go_enter Tryz.func74,Tryz.ntmps74
 go_wp2_with fail
 generalize w.alloc (.cells #[.slice p0 pd.length p5,.slice p1 pb.length p6,.slice p2 pt.length p7,.slice p3 pu.length p8,.slice p4 pn.length p9] 32)=W at *
 refine (hck' W (hr W hb0)).mono ?_
 rintro e w1 ⟨a0,a1,a2,a3,l0,c0,l1,c1,l2,c2,l3,c3,rfl,hb⟩
 replace BA:=BA.below hb
 replace hb0:=below_from hb0 hb
 clear hb hck'
 have hbx:Below w1.heap.size w1 (w1.alloc (.cells #[.slice a0 l0 c0,.slice a1 l1 c1,.slice a2 l2 c2,.slice a3 l3 c3] 103)):=by go_grown
 have BA1:=BA.below hbx
 have hb1:=below_from hb0 hbx
 clear hbx BA
 have e1:=neq_err
 have e2:=neq_nil
 rcases hW0 with ⟨h0,hC⟩ | ⟨h0,h1,hC⟩ | ⟨h0,h1,h2,hC⟩ | ⟨h0,h1,h2,h4,hC⟩ | ⟨h0,h1,h2,h4,hC⟩
 ·have HC:Hid (C=RF):=hC
  clear hC
  rw [show misC RF=.iface 195 (.agg #[.int .i64 RF]) from if_neg h0]
  go_wp2
  go_ret
  exact ⟨by rw [HC.out,show misC RF=.iface 195 (.agg #[.int .i64 RF]) from if_neg h0];rfl,hb1⟩
 all_goals
  rw [show misC RF=.nilIface from if_pos h0]
  have HC:Hid (C=_):=hC
  clear hC
  go_wp2_with fail
  generalize w1.alloc (.cells #[.slice a0 l0 c0,.slice a1 l1 c1,.slice a2 l2 c2,.slice a3 l3 c3] 103)=W1 at *
  refine (hlf W1 (hT.below hb1)).mono ?_
  rintro e w2 ⟨rfl,hb⟩
  replace BA1:=BA1.below hb
  replace hb1:=below_from hb1 hb
  clear hb hlf
 ·have h1' : (LF != 0)=true:=by simpa using h1
  go_wp2
  go_ret
  exact ⟨by rw [HC.out,show misC LF=.iface 195 (.agg #[.int .i64 LF]) from if_neg h1];rfl,hb1⟩
 all_goals
  subst h1
  go_wp2_with fail
  refine (hcf _ w2 (hT.below hb1) BA1 (hr w2 hb1).1).mono ?_
  rintro e w3 ⟨rfl,hb⟩
  replace BA1:=BA1.below hb
  replace hb1:=below_from hb1 hb
  clear hb hcf
 ·go_wp2
  go_ret
  exact ⟨by rw [HC.out];rfl,hb1⟩
 ·have e8:(16:Int) < (pd.length:Int) + (fs.length:Int):=by omega
  have d0:=BA1.cell 0 _ rfl
  go_wp2
  go_ret
  exact ⟨by rw [HC.out];rfl,hb1⟩
 ·have e8:¬ (16:Int) < (pd.length:Int) + (fs.length:Int):=by omega
  have d0:=BA1.cell 0 _ rfl
  go_wp2
  go_ret
  exact ⟨by rw [HC.out];rfl,hb1⟩

end Go.Proofs.YtfdkcbafpiojkaaGreatDoor
