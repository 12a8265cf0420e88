/- Texts joined, with what the laws reach alone. -/
import Derived.Test.YtfdkcbafpiojkaaGreatDoorSGBP
import Derived.Test.YtfdkcbafpiojkaaGreatDoorSGBF
import Derived.Test.YtfdkcbafpiojkaaGreatDoorSGAJ
set_option linter.unusedVariables false
set_option linter.unusedSimpArgs false
namespace Go.Proofs.YtfdkcbafpiojkaaGreatDoor
open Go.RowKit
open Go.BigFrame
set_option maxRecDepth 100000
set_option maxRecDepth 100000 in
set_option maxHeartbeats 8000000 in
theorem l8Plan_any (v v' : Value) (ps ps' : List TxnQ) (w:World) (h:txnK.At w v ps) (h' : txnK.At w v' ps') (hcp:CapOk v) (hcp' : CapOk v') (hl:ps.length + nmL TxnQ.n ps≤1048576) (hl' : ps'.length + nmL TxnQ.n ps' ≤ 1048576) (hC:bthF (ps.map TxnQ.e) (ps'.map TxnQ.e)=0) :
  Calls Tryz.prog 137 #[v,v'] w fun e w' => ∃ (v1 v2:Value) (q1 q2:List TxnQ),e=.returned (.agg #[.int .i64 0,.int .i64 (plN (ps.map TxnQ.e) (ps'.map TxnQ.e)),.int .i64 (plB (ps.map TxnQ.e) (ps'.map TxnQ.e)),v1,v2])∧q1.map TxnQ.e=plA (ps.map TxnQ.e) (ps'.map TxnQ.e)∧q2.map TxnQ.e=plK (ps.map TxnQ.e) (ps'.map TxnQ.e)∧txnK.Own w' v1 q1∧txnK.Own w' v2 q2∧(txnK.fp v1 q1 ++ txnK.fp v2 q2).Nodup∧(∀ k∈txnK.fp v1 q1 ++ txnK.fp v2 q2,w.heap.size≤k)∧Below w.heap.size w w' := by
 have HV:Hid (bthF (ps.map TxnQ.e) (ps'.map TxnQ.e)≠0→plN (ps.map TxnQ.e) (ps'.map TxnQ.e)=0∧plB (ps.map TxnQ.e) (ps'.map TxnQ.e)=0∧plA (ps.map TxnQ.e) (ps'.map TxnQ.e)=[]∧plK (ps.map TxnQ.e) (ps'.map TxnQ.e)=[]):=fun h0=>pl_bad h0
 have HV1:Hid (bthF (ps.map TxnQ.e) (ps'.map TxnQ.e)=0→(ps'.map TxnQ.e).drop (comN (ps.map TxnQ.e) (ps'.map TxnQ.e))=[]→plN (ps.map TxnQ.e) (ps'.map TxnQ.e)=(comN (ps.map TxnQ.e) (ps'.map TxnQ.e):Int)∧plB (ps.map TxnQ.e) (ps'.map TxnQ.e)=0∧plA (ps.map TxnQ.e) (ps'.map TxnQ.e)=[]∧plK (ps.map TxnQ.e) (ps'.map TxnQ.e)=(ps.map TxnQ.e).drop (comN (ps.map TxnQ.e) (ps'.map TxnQ.e))):=fun h0 h1=>pl_all h0 h1
 have HV2:Hid (bthF (ps.map TxnQ.e) (ps'.map TxnQ.e)=0→(ps'.map TxnQ.e).drop (comN (ps.map TxnQ.e) (ps'.map TxnQ.e))≠[]→plN (ps.map TxnQ.e) (ps'.map TxnQ.e)=(comN (ps.map TxnQ.e) (ps'.map TxnQ.e):Int)∧plB (ps.map TxnQ.e) (ps'.map TxnQ.e)=(((ps.map TxnQ.e).drop (comN (ps.map TxnQ.e) (ps'.map TxnQ.e))).length:Int)∧plA (ps.map TxnQ.e) (ps'.map TxnQ.e)=(ps'.map TxnQ.e).drop (comN (ps.map TxnQ.e) (ps'.map TxnQ.e))∧plK (ps.map TxnQ.e) (ps'.map TxnQ.e)=witL ((ps.map TxnQ.e).drop (comN (ps.map TxnQ.e) (ps'.map TxnQ.e))) (ps'.map TxnQ.e)):=fun h0 h1=>pl_new h0 h1
 have HL:Hid (bthF (ps.map TxnQ.e) (ps'.map TxnQ.e)=0→ps.length≤40∧ps'.length≤40∧(∀ p∈ps,0 < p.acts.length)∧(∀ p∈ps',0 < p.acts.length)):=fun h0=>⟨by simpa using (lst_mem (bth_zero h0).1).1,by simpa using (lst_mem (bth_zero h0).2).1,lst_pos (bth_zero h0).1,lst_pos (bth_zero h0).2⟩
 have hn1:comN (ps.map TxnQ.e) (ps'.map TxnQ.e)≤ps.length:=by simpa using (com_le (ps.map TxnQ.e) (ps'.map TxnQ.e)).1
 have hn2:comN (ps.map TxnQ.e) (ps'.map TxnQ.e)≤ps'.length:=by simpa using (com_le (ps.map TxnQ.e) (ps'.map TxnQ.e)).2
 have hB:Below w.heap.size w (w.alloc (.cells #[.int .i64 0,.int .i64 0,.int .i64 0,.slice none 0 0,.slice none 0 0] 78)):=by go_grown
 have Rb:=Blk.new w 78 #[.int .i64 0,.int .i64 0,.int .i64 0,.slice none 0 0,.slice none 0 0]
 have hq:=l8Common_any v v' ps ps' (w.alloc (.cells #[.int .i64 0,.int .i64 0,.int .i64 0,.slice none 0 0,.slice none 0 0] 78)) (h.below hB) (h'.below hB) hl hl'
 obtain ⟨a,cap,rfl⟩:=h.shape
 obtain ⟨a',cap',rfl⟩:=h'.shape
 have HV1' := HV1.out hC
 have HV2' := HV2.out hC
 have HW1:Hid _:=HV1'
 have HW2:Hid _:=HV2'
 obtain ⟨h40,h40',hpos,hpos'⟩:=HL.out hC
 clear HV HV1 HV2 HV1' HV2' HL hC
 generalize plN (ps.map TxnQ.e) (ps'.map TxnQ.e)=VN at *
 generalize plB (ps.map TxnQ.e) (ps'.map TxnQ.e)=VB at *
 generalize plA (ps.map TxnQ.e) (ps'.map TxnQ.e)=VA at *
 generalize plK (ps.map TxnQ.e) (ps'.map TxnQ.e)=VK at *
 generalize comN (ps.map TxnQ.e) (ps'.map TxnQ.e)=n at *
 have hd1:=fun w (h:txnK.At w (.slice a ps.length cap) ps) c' => h.dropS n hn1 hcp.1 c'
 have hd2:=fun w (h:txnK.At w (.slice a' ps'.length cap') ps') c' => h.dropS n hn2 hcp'.1 c'
 obtain ⟨rs,hrs⟩:∃ rs,rs=ps.drop n:=⟨_,rfl⟩
 obtain ⟨rs',hrs'⟩:∃ rs',rs' = ps'.drop n:=⟨_,rfl⟩
 have HRS:Hid (rs.map TxnQ.e=(ps.map TxnQ.e).drop n):=show _=_ by rw [hrs,List.map_drop]
 have HRS' : Hid (rs'.map TxnQ.e=(ps'.map TxnQ.e).drop n):=show _=_ by rw [hrs',List.map_drop]
 have hls:rs.length + nmL TxnQ.n rs≤1048576:=by rw [hrs];have:=drop_n ps n;omega
 have hls' : rs'.length + nmL TxnQ.n rs' ≤ 1048576:=by rw [hrs'];have:=drop_n ps' n;omega
 have hps:∀ p∈rs,0 < p.acts.length:=fun p hp=>hpos p (List.mem_of_mem_drop (by rw [← hrs];exact hp))
 have hps' : ∀ p∈rs',0 < p.acts.length:=fun p hp=>hpos' p (List.mem_of_mem_drop (by rw [← hrs'];exact hp))
 have hle1:rs.length=ps.length - n:=by rw [hrs,List.length_drop]
 have hle2:rs'.length=ps'.length - n:=by rw [hrs',List.length_drop]
 rw [← hrs] at hd1
 rw [← hrs'] at hd2
 have hn0i:(0:Int)≤(n:Int):=by omega
 have hn1i:(n:Int)≤(ps.length:Int):=by omega
 have hn2i:(n:Int)≤(ps'.length:Int):=by omega
 obtain ⟨ra,rc,hs1,hA1⟩:∃ ra rc,(∀ u:World,(Instr.slice 28 (.slice a ps.length cap) (some (.int .i64 n)) none none).run Tryz.prog u=.ok (.slice ra rs.length rc) u)∧(∀ w,txnK.At w (.slice a ps.length cap) ps→txnK.At w (.slice ra rs.length rc) rs):=by
  refine ⟨_,_,fun u=>?_,fun w h=>hd1 w h (cap - n)⟩
  rw [run_slice_l u 28 a ps.length cap (by kernel_rfl) .i64 (n:Int) hn0i hn1i,hle1]
  rfl
 obtain ⟨ra',rc',hs2,hA2⟩:∃ ra rc,(∀ u:World,(Instr.slice 28 (.slice a' ps'.length cap') (some (.int .i64 n)) none none).run Tryz.prog u=.ok (.slice ra rs'.length rc) u)∧(∀ w,txnK.At w (.slice a' ps'.length cap') ps' → txnK.At w (.slice ra rs'.length rc) rs'):=by
  refine ⟨_,_,fun u=>?_,fun w h=>hd2 w h (cap' - n)⟩
  rw [run_slice_l u 28 a' ps'.length cap' (by kernel_rfl) .i64 (n:Int) hn0i hn2i,hle2]
  rfl
 have hr40:rs.length≤40:=by omega
 have HLB:Hid (((ps.map TxnQ.e).drop n).length=rs.length):=show _=_ by rw [List.length_drop,List.length_map,hle1]
 have HLI:Hid (((ps.length:Int) - (n:Int))=(rs.length:Int)):=show _=_ by omega
 have HZ:Hid (rs' = []↔n=ps'.length):=by
  show _↔_
  constructor
  ·intro e;rw [e] at hle2;simp at hle2;omega
  ·intro e;exact List.length_eq_zero_iff.1 (by omega)
 clear hd1 hd2 hrs hrs' hle1 hle2
 go_enter Tryz.func137,Tryz.ntmps137
 go_wp2_with fail
 refine hq.mono ?_
 rintro e Y ⟨rfl,hb1⟩
 replace hB:=hB.trans (hb1.mono hB.size)
 replace Rb:=Rb.below hb1
 clear hq hb1
 have hrY:=Rb.lt
 by_cases hz:n=ps'.length
 ·obtain ⟨e1,e2,e3,e4⟩:=HW1.out (by rw [← HRS'.out,HZ.out.2 hz];rfl)
  have hzi:((n:Int) == (ps'.length:Int))=true:=by rw [hz];simp
  have E1:Hid (VN=(n:Int)∧VB=0∧VA=[]):=⟨e1,e2,e3⟩
  have E4:Hid (VK=(ps.map TxnQ.e).drop n):=e4
  have Pb:=Blk.new Y 78 #[.int .i64 0,.int .i64 n,.int .i64 0,.slice none 0 0,.slice none 0 0]
  have hbP:Below Y.heap.size Y (Y.alloc (.cells #[.int .i64 0,.int .i64 n,.int .i64 0,.slice none 0 0,.slice none 0 0] 78)):=by go_grown
  have hBP:=hB.trans (hbP.mono hB.size)
  have RbP:=Rb.below hbP
  have hsP:Y.heap.size < (Y.alloc (.cells #[.int .i64 0,.int .i64 n,.int .i64 0,.slice none 0 0,.slice none 0 0] 78)).heap.size:=by simp
  have hcl:=fun w h=>l2CopyAll_any (.slice ra rs.length rc) rs w h hps hls
  clear HW1 HW2 hB Rb hbP e1 e2 e3 e4 HZ hz HLI
  go_wp2_with fail
  generalize Y.alloc (.cells #[.int .i64 0,.int .i64 n,.int .i64 0,.slice none 0 0,.slice none 0 0] 78)=Z at *
  generalize Y.heap.size=pb at *
  refine (hcl Z (hA1 Z (h.below hBP))).mono ?_
  rintro e w3 ⟨v3,q3,rfl,eq3,o3,n3,g3,hb3⟩
  obtain ⟨a3,c3,rfl⟩:=o3.shape
  replace Pb:=Pb.below hb3
  replace RbP:=RbP.below hb3
  replace hBP:=hBP.trans (hb3.mono hBP.size)
  clear hcl hb3
  have hpr:pb≠w.heap.size:=by omega
  have hrp:w.heap.size≠pb:=by omega
  have E4q:Hid (q3.map TxnQ.e=VK):=show _=_ by rw [E4.out,eq3,HRS.out]
  clear eq3 E4
  have hne:∀ k∈txnK.fp (.slice a3 q3.length c3) q3,k ∉ [pb]∧k ∉ [w.heap.size]:=fun k hk=>by have:=g3 k hk;simp only [List.mem_singleton];omega
  have g4:∀ k∈txnK.fp (.slice a3 q3.length c3) q3,w.heap.size≤k:=fun k hk=>by have:=g3 k hk;omega
  have p0:=Pb.cell 0 _ rfl
  have fp0:=Pb.frozen 0
  have p1:=Pb.cell 1 _ rfl
  have fp1:=Pb.frozen 1
  have p2:=Pb.cell 2 _ rfl
  have fp2:=Pb.frozen 2
  have p3:=Pb.cell 3 _ rfl
  have fp3:=Pb.frozen 3
  have p4:=Pb.cell 4 _ rfl
  have fp4:=Pb.frozen 4
  have RbQ:=RbP.other8 (g:=pb) (j:=4) (u:=.slice a3 q3.length c3) hrp
  have KQ:=hBP.setCell (p:=⟨pb,4,none⟩) (show w.heap.size≤pb by omega) (.slice a3 q3.length c3)
  have KF:=below_row KQ (Nat.le_refl w.heap.size) #[.int .i64 0,.int .i64 n,.int .i64 0,.slice none 0 0,.slice a3 q3.length c3]
  have O5:Hid _:=(o3.out (Out.setCell w3 pb 4 (.slice a3 q3.length c3)) (fun k hk=>(hne k hk).1)).out (out_row _ w.heap.size #[.int .i64 0,.int .i64 n,.int .i64 0,.slice none 0 0,.slice a3 q3.length c3]) (fun k hk=>(hne k hk).2)
  have Rr:=RbQ.row #[.int .i64 0,.int .i64 n,.int .i64 0,.slice none 0 0,.slice a3 q3.length c3]
  go_wp2_with (first | (refine st_row (by kernel_rfl) 78 _ _ rfl _ #[.int .i64 0,.int .i64 n,.int .i64 0,.slice none 0 0,.slice a3 q3.length c3] rfl rfl 78 _ RbQ sz_plan rfl (by simp [Value.oneCell']) ?_))
  have yy0:=Rr.cell 0 _ rfl
  have yy1:=Rr.cell 1 _ rfl
  have yy2:=Rr.cell 2 _ rfl
  have yy3:=Rr.cell 3 _ rfl
  have yy4:=Rr.cell 4 _ rfl
  refine bodyPost_ret (v:=.agg #[.int .i64 0,.int .i64 n,.int .i64 0,.slice none 0 0,.slice a3 q3.length c3]) (by simp [results,Tryz.results137,go_sem,yy0,yy1,yy2,yy3,yy4]) rfl ?_
  refine ⟨.slice none 0 0,.slice a3 q3.length c3,[],q3,?_,?_,E4q.out,(nil_fp _).1,O5.out,?_,?_,KF⟩
  ·rw [E1.out.1,E1.out.2.1]
  ·rw [E1.out.2.2];rfl
  ·rw [(nil_fp w).2];exact n3
  ·rw [(nil_fp w).2];exact g4
 ·obtain ⟨e1,e2,e3,e4⟩:=HW2.out (by rw [← HRS'.out];intro e;exact hz (HZ.out.1 (List.map_eq_nil_iff.1 e)))
  have hzi:((n:Int) == (ps'.length:Int))=false:=by simp;omega
  rw [HLB.out] at e2
  have E1:Hid (VN=(n:Int)∧VB=(rs.length:Int)):=⟨e1,e2⟩
  have E3:Hid (VA=(ps'.map TxnQ.e).drop n):=e3
  have E4:Hid (VK=witL ((ps.map TxnQ.e).drop n) (ps'.map TxnQ.e)):=e4
  have hli:=HLI.out
  clear HW1 HW2 e1 e2 e3 e4 HZ HLI hz
  have hcl:=fun w h=>l2CopyAll_any (.slice ra' rs'.length rc') rs' w h hps' hls'
  have hou:=fun w h h' => l8Without_any (.slice ra rs.length rc) (.slice a' ps'.length cap') rs ps' w h h' hps hr40 hls (by omega)
  have Pb:=Blk.new Y 78 #[.int .i64 0,.int .i64 n,.int .i64 rs.length,.slice none 0 0,.slice none 0 0]
  have hbP:Below Y.heap.size Y (Y.alloc (.cells #[.int .i64 0,.int .i64 n,.int .i64 rs.length,.slice none 0 0,.slice none 0 0] 78)):=by go_grown
  have hBP:=hB.trans (hbP.mono hB.size)
  have RbP:=Rb.below hbP
  have hsP:Y.heap.size < (Y.alloc (.cells #[.int .i64 0,.int .i64 n,.int .i64 rs.length,.slice none 0 0,.slice none 0 0] 78)).heap.size:=by simp
  clear hbP hB Rb
  go_wp2_with fail
  clear hli
  generalize Y.alloc (.cells #[.int .i64 0,.int .i64 n,.int .i64 rs.length,.slice none 0 0,.slice none 0 0] 78)=Z at *
  generalize Y.heap.size=pb at *
  refine (hcl Z (hA2 Z (h'.below hBP))).mono ?_
  rintro e w3 ⟨v3,q3,rfl,eq3,o3,n3,g3,hb3⟩
  obtain ⟨a3,c3,rfl⟩:=o3.shape
  have hpr:pb≠w.heap.size:=by omega
  have hrp:w.heap.size≠pb:=by omega
  have hs3:=hb3.size
  have l3:=o3.lt
  replace Pb:=Pb.below hb3
  replace RbP:=RbP.below hb3
  replace hBP:=hBP.trans (hb3.mono hBP.size)
  clear hcl hb3
  have E3q:Hid (q3.map TxnQ.e=VA):=show _=_ by rw [E3.out,eq3,HRS'.out]
  clear eq3 E3
  have p3:=Pb.cell 3 _ rfl
  have fp3:=Pb.frozen 3
  replace Pb:=Pb.putA 3 (.slice a3 q3.length c3)
  replace RbP:=RbP.other8 (g:=pb) (j:=3) (u:=.slice a3 q3.length c3) hrp
  replace hBP:=hBP.setCell (p:=⟨pb,3,none⟩) (show w.heap.size≤pb by omega) (.slice a3 q3.length c3)
  have hne3:∀ k∈txnK.fp (.slice a3 q3.length c3) q3,k ∉ [pb]∧k ∉ [w.heap.size]:=fun k hk=>by have:=g3 k hk;simp only [List.mem_singleton];omega
  replace o3:=o3.out (Out.setCell w3 pb 3 (.slice a3 q3.length c3)) (fun k hk=>(hne3 k hk).1)
  have hs3w:w3.heap.size=(w3.setCell ⟨pb,3,none⟩ (.slice a3 q3.length c3)).heap.size:=by simp
  go_wp2_with fail
  clear p3 fp3
  generalize w3.setCell ⟨pb,3,none⟩ (.slice a3 q3.length c3)=w4 at *
  rw [hs3w] at l3 hs3
  clear hs3w
  simp only [List.setIfInBounds_toArray,List.set_cons_zero,List.set_cons_succ] at Pb
  have hAr:=hA1 w4 (h.below hBP)
  refine (hou w4 hAr (h'.below hBP)).mono ?_
  rintro e w6 ⟨v6,q6,rfl,eq6,o6,n6,g6,hb6⟩
  obtain ⟨a6,c6,rfl⟩:=o6.shape
  replace Pb:=Pb.below hb6
  replace RbP:=RbP.below hb6
  replace hBP:=hBP.trans (hb6.mono hBP.size)
  replace o3:=o3.below hb6
  have E4q:Hid (q6.map TxnQ.e=VK):=show _=_ by rw [E4.out,eq6,HRS.out]
  clear eq6 E4 hou hb6 hAr
  have hne6:∀ k∈txnK.fp (.slice a6 q6.length c6) q6,k ∉ [pb]∧k ∉ [w.heap.size]:=fun k hk=>by have:=g6 k hk;simp only [List.mem_singleton];omega
  have gA:∀ k∈txnK.fp (.slice a3 q3.length c3) q3 ++ txnK.fp (.slice a6 q6.length c6) q6,w.heap.size≤k:=fun k hk=>by
   rcases List.mem_append.1 hk with hk | hk
   ·have:=g3 k hk;omega
   ·have:=g6 k hk;omega
  have nA:(txnK.fp (.slice a3 q3.length c3) q3 ++ txnK.fp (.slice a6 q6.length c6) q6).Nodup:=List.nodup_append.2 ⟨n3,n6,fun x hx y hy e=>by have:=l3 x hx;have:=g6 y hy;omega⟩
  have p0:=Pb.cell 0 _ rfl
  have fp0:=Pb.frozen 0
  have p1:=Pb.cell 1 _ rfl
  have fp1:=Pb.frozen 1
  have p2:=Pb.cell 2 _ rfl
  have fp2:=Pb.frozen 2
  have p3:=Pb.cell 3 _ rfl
  have fp3:=Pb.frozen 3
  have p4:=Pb.cell 4 _ rfl
  have fp4:=Pb.frozen 4
  have RbQ:=RbP.other8 (g:=pb) (j:=4) (u:=.slice a6 q6.length c6) hrp
  have KQ:=hBP.setCell (p:=⟨pb,4,none⟩) (show w.heap.size≤pb by omega) (.slice a6 q6.length c6)
  have KF:=below_row KQ (Nat.le_refl w.heap.size) #[.int .i64 0,.int .i64 n,.int .i64 rs.length,.slice a3 q3.length c3,.slice a6 q6.length c6]
  have O3:Hid _:=(o3.out (Out.setCell w6 pb 4 (.slice a6 q6.length c6)) (fun k hk=>(hne3 k hk).1)).out (out_row _ w.heap.size #[.int .i64 0,.int .i64 n,.int .i64 rs.length,.slice a3 q3.length c3,.slice a6 q6.length c6]) (fun k hk=>(hne3 k hk).2)
  have O6:Hid _:=(o6.out (Out.setCell w6 pb 4 (.slice a6 q6.length c6)) (fun k hk=>(hne6 k hk).1)).out (out_row _ w.heap.size #[.int .i64 0,.int .i64 n,.int .i64 rs.length,.slice a3 q3.length c3,.slice a6 q6.length c6]) (fun k hk=>(hne6 k hk).2)
  have Rr:=RbQ.row #[.int .i64 0,.int .i64 n,.int .i64 rs.length,.slice a3 q3.length c3,.slice a6 q6.length c6]
  go_wp2_with (first | (refine st_row (by kernel_rfl) 78 _ _ rfl _ #[.int .i64 0,.int .i64 n,.int .i64 rs.length,.slice a3 q3.length c3,.slice a6 q6.length c6] rfl rfl 78 _ RbQ sz_plan rfl (by simp [Value.oneCell']) ?_))
  have yy0:=Rr.cell 0 _ rfl
  have yy1:=Rr.cell 1 _ rfl
  have yy2:=Rr.cell 2 _ rfl
  have yy3:=Rr.cell 3 _ rfl
  have yy4:=Rr.cell 4 _ rfl
  refine bodyPost_ret (v:=.agg #[.int .i64 0,.int .i64 n,.int .i64 rs.length,.slice a3 q3.length c3,.slice a6 q6.length c6]) (by simp [results,Tryz.results137,go_sem,yy0,yy1,yy2,yy3,yy4]) rfl ?_
  refine ⟨.slice a3 q3.length c3,.slice a6 q6.length c6,q3,q6,?_,E3q.out,E4q.out,O3.out,O6.out,nA,gA,KF⟩
  rw [E1.out.1,E1.out.2]

end Go.Proofs.YtfdkcbafpiojkaaGreatDoor
namespace Go.Proofs.YtfdkcbafpiojkaaGreatDoor
open Go.RowKit Go.Maps
open Go.BigFrame
set_option maxRecDepth 100000
theorem made41:(madeCells #[Value.int .i64 0,.int .i64 0,.int .i64 0,.slice none 0 0] (41 * 4)).toList=txnCells (List.replicate 41 txnPNo):=by kernel_rfl

set_option maxRecDepth 100000 in
set_option maxHeartbeats 2000000 in
theorem l8Draw_any (B b T:Nat) (w:World) (hS:Src B w b T) (hT:T≤800000) :
  Calls Tryz.prog 95 #[.pointer (some ⟨b,0,none⟩),.int .i64 7] w fun e w' => ∃ (v:Value) (ps:List TxnP),e=.returned v∧ps.length≤6∧(∀ p∈ps,p.d.acts.length≤5)∧TxnRow w.heap.size w' v ps∧Src B w' b (T + 100)∧w.grownBy w' (some b):=by
 obtain ⟨i0,hi,hz0,hz1,hz2⟩:=info_parts infoTxn
 have hlt:=hS.lt
 have ho0:(w.alloc (.cells #[] 49)).ownsRow w.heap.size 49 4 (.slice (some ⟨w.heap.size,0,none⟩) 0 0) 0 []:=World.ownsRow_lit w #[] 0 (Nat.le_refl _) (by decide) rfl
 have hg:w.grownBy (w.alloc (.cells #[] 49)) (some b):=World.grownBy_alloc w _ _
 replace hS:Src B (w.alloc (.cells #[] 49)) b T:=hS.below (by go_grown)
 go_enter Tryz.func95,Tryz.ntmps95
 go_wp2_with fail
 generalize w.alloc (.cells #[] 49)=W1 at ho0 hg hS
 refine (next_any B b T 7 W1 hS (by omega) (by omega)).mono ?_
 rintro e w3 ⟨r,rfl,hr,hSn,hgn⟩
 obtain ⟨j0,rfl⟩:=Int.eq_ofNat_of_zero_le hr.1
 have hj0:j0≤6:=by have:=hr.2.1 (by omega);omega
 have hR0:TxnRow w.heap.size W1 (.slice (some ⟨w.heap.size,0,none⟩) 0 0) []:=⟨ho0,by simp,by simp⟩
 replace hR0:=hR0.src hlt.2 hgn
 replace hg:=hg.trans hgn
 replace hS:=hSn
 clear hgn hSn hr ho0
 go_wp2
 go_loopw [5,6] (fun v c wr=>∃ (j:Nat) (ps:List TxnP),c=.int .i64 j∧j≤6∧j + ps.length≤6∧Hid (∀ p∈ps,p.d.acts.length≤5)∧TxnRow w.heap.size wr v ps∧Src B wr b (T + 1 + 13 * (6 - j))∧w.grownBy wr (some b)) (fun _ c _=>(intOf c).toNat)
 case atStart=>exact ⟨j0,[],rfl,hj0,by simp;omega,by intro p hp;simp at hp,hR0,hS.mono (by omega),hg⟩
 case round=>
  clear hR0 hS hg
  obtain ⟨j,ps,rfl,hj6,hj,HP,hR,hS,hg⟩:=hrel
  have hsz:=hg.size
  obtain ⟨a1,c1,rfl⟩:=own_shape hR.1
  by_cases hpos:0 < j
  ·skip
   go_wp2_with fail
   refine (l2Draw_any B b (T + 1 + 13 * (6 - j)) wr hS (by omega)).mono ?_
   rintro e w4 ⟨i,s,q,a,c,xs,rfl,hx1,hx3,ho,hSn,hgn⟩
   have hpn:Value.ownBlock (.slice a xs.length c)=none∨Value.ownBlock (.slice a xs.length c)≠Value.ownBlock (.slice a1 ps.length c1):=own_apart3' hR.1 ho (Nat.le_refl _)
   replace hR:=hR.src hlt.2 hgn
   replace hg:=hg.trans hgn
   replace hS:=hSn
   replace ho:=own_base ho hsz
   clear hgn hSn
   have hbT:Below w4.heap.size w4 (w4.alloc (.cells #[.int .i64 i,.int .i64 s,.int .i64 q,.slice a xs.length c] 49)):=by go_grown
   have hX:=Blk.new w4 49 #[.int .i64 i,.int .i64 s,.int .i64 q,.slice a xs.length c]
   have hkn:=l7Known_any (.slice a1 ps.length c1) (ps.map TxnP.qk) w4.heap.size 0 ⟨i,s,q,xs⟩ (.slice a xs.length c) _ (hR.below hbT).atK (box4_new w4 _ _ _ _ 49) (by rw [List.length_map];omega)
   replace hg:=grown_low hg (hbT.mono hg.size)
   replace hS:=hS.below hbT
   replace hR:=hR.below hbT
   replace ho:=own_below ho hbT
   generalize knw ((ps.map TxnP.qk).map TxnQ.e) ⟨i,s,q,xs⟩=K at *
   go_wp2_with fail
   generalize w4.heap.size=H4 at *
   generalize w4.alloc (.cells #[.int .i64 i,.int .i64 s,.int .i64 q,.slice a xs.length c] 49)=W4 at *
   refine hkn.mono ?_
   rintro e w6 ⟨rfl,hb6⟩
   replace hg:=grown_low hg (hb6.mono hg.size)
   replace hS:=hS.below hb6
   replace hR:=hR.below hb6
   replace ho:=own_below ho hb6
   replace hX:=hX.below hb6
   clear hkn hb6 hbT
   cases K with
   | true=>
    clear ho hpn hX
    go_wp2
    go_roundw
    case rel=>exact ⟨j - 1,ps,by go_num,by omega,by omega,HP,hR,hS.mono (by omega),hg⟩
    case measure=>simp [intOf];omega
   | false=>
    have x0:=hX.cell 0 _ rfl
    have x1:=hX.cell 1 _ rfl
    have x2:=hX.cell 2 _ rfl
    have x3:=hX.cell 3 _ rfl
    have hbA:Below w6.heap.size w6 (w6.alloc (.cells #[.int .i64 i,.int .i64 s,.int .i64 q,.slice a xs.length c] 49)):=by go_grown
    have hsz4:=hg.size
    have ho2:=own_below hR.1 hbA
    go_wp2_with (at_builtin;refine wpList_append_own_at _ rfl _ _ 28 rfl w.heap.size 49 i0 (.agg #[.int .i64 0,.int .i64 0,.int .i64 0,.slice none 0 0]) 4 48 Tryz.underlying28 hi hz0 hz1 hz2 rfl (by decide) _ ps.length (txnCells ps) rfl ho2 ⟨w6.heap.size,0,none⟩ 1 1 [.int .i64 i,.int .i64 s,.int .i64 q,.slice a xs.length c] rfl rfl ?c1 ?c2 ?c3 ?c4 ?c5 ?_)
    all_goals try (case c1=>intro j u hj;match j,hj with | 0,hj=>simp at hj;subst hj;simp [Addr.add] | 1,hj=>simp at hj;subst hj;simp [Addr.add] | 2,hj=>simp at hj;subst hj;simp [Addr.add] | 3,hj=>simp at hj;subst hj;simp [Addr.add])
    all_goals try (case c2=>intro u hu;simp at hu;rcases hu with rfl | rfl | rfl | rfl <;> rfl)
    all_goals try (case c3=>unfold maxLen;omega)
    all_goals try (case c4=>omega)
    all_goals try (case c5=>first | omega | (simp;omega))
    intro v' w5 hown hgrow hnil hat
    have hgo:∀ j,(Value.slice a1 ps.length c1).ownBlock=some j→w.heap.size≤j:=fun j hj=>(ho2.lt j hj).1
    have hB5:Below w.heap.size w6 w5:=((Below.refl w.heap.size w6).alloc hsz4 (.cells #[.int .i64 i,.int .i64 s,.int .i64 q,.slice a xs.length c] 49)).grown hgrow (by simp;omega) hgo
    have hR5:Hid (TxnRow w.heap.size w5 v' (ps ++ [(⟨⟨i,s,q,xs⟩,a,c⟩:TxnP)])):=(hR.below hbA).append (⟨⟨i,s,q,xs⟩,a,c⟩:TxnP) (own_below ho hbA) hpn (by simpa [TxnP.cells,TxnP.sl] using hown) hgrow (by rw [World.size_alloc];exact hat) hnil
    replace hg:=grown_low hg hB5
    replace hS:=hS.low hB5 hlt.2
    have HP5:Hid (∀ p∈ps ++ [(⟨⟨i,s,q,xs⟩,a,c⟩:TxnP)],p.d.acts.length≤5):=by
     intro p hp
     simp only [List.mem_append,List.mem_singleton] at hp
     rcases hp with hp | rfl
     ·exact HP.out p hp
     ·show xs.length≤5;omega
    clear hR ho ho2 hown hgrow hat hnil hgo hB5 hbA hpn
    clear x0 x1 x2 x3 hX
    go_wp2
    go_roundw
    case rel=>exact ⟨j - 1,ps ++ [(⟨⟨i,s,q,xs⟩,a,c⟩:TxnP)],by go_num,by omega,by simp;omega,HP5,hR5.out,hS.mono (by omega),hg⟩
    case measure=>simp [intOf];omega
  ·go_wp2
   go_ret
   exact ⟨_,ps,rfl,by omega,HP.out,hR,hS.mono (by omega),hg⟩

set_option maxRecDepth 100000 in
set_option maxHeartbeats 1000000 in
theorem l8Bent_any (B b T:Nat) (w:World) (hS:Src B w b T) (hT:T≤700000) :
  Calls Tryz.prog 96 #[.pointer (some ⟨b,0,none⟩)] w fun e w' => ∃ (v:Value) (ps:List TxnP),e=.returned v∧ps.length≤41∧(∀ p∈ps,p.d.acts.length≤5)∧TxnRow w.heap.size w' v ps∧Src B w' b (T + 200)∧w.grownBy w' (some b):=by
 obtain ⟨i0,hi,hz0,hz1,hz2⟩:=info_parts infoTxn
 have hlt:=hS.lt
 go_enter Tryz.func96,Tryz.ntmps96
 go_wp2_with fail
 refine (l8Draw_any B b T w hS (by omega)).mono ?_
 rintro e w1 ⟨v,ps,rfl,hpl,hpa,hR,hSn,hg⟩
 replace hS:=hSn
 clear hSn
 obtain ⟨a1,c1,rfl⟩:=own_shape hR.1
 have HP:Hid (∀ p∈ps,p.d.acts.length≤5):=hpa
 clear hpa
 go_wp2_with fail
 refine (next_any B b (T + 100) 12 w1 hS (by omega) (by omega)).mono ?_
 rintro e wr ⟨r,rfl,hr,hSn,hgn⟩
 replace hR:=hR.src hlt.2 hgn
 replace hg:=hg.trans hgn
 replace hS:=hSn
 have hsz:=hg.size
 clear hgn hSn hr
 by_cases hr0:r=0
 ·subst hr0
  go_wp2_with fail
  refine (l2Bent_any B b (T + 100 + 1) wr hS (by omega)).mono ?_
  rintro e w4 ⟨i,s,q,a,c,xs,rfl,hx5,ho,hSn,hgn⟩
  have hpn:Value.ownBlock (.slice a xs.length c)=none∨Value.ownBlock (.slice a xs.length c)≠Value.ownBlock (.slice a1 ps.length c1):=own_apart3' hR.1 ho (Nat.le_refl _)
  replace hR:=hR.src hlt.2 hgn
  replace hg:=hg.trans hgn
  replace hS:=hSn
  replace ho:=own_base ho hsz
  clear hgn hSn
  have hbA:Below w4.heap.size w4 (w4.alloc (.cells #[.int .i64 i,.int .i64 s,.int .i64 q,.slice a xs.length c] 49)):=by go_grown
  have hsz4:=hg.size
  have ho2:=own_below hR.1 hbA
  go_wp2_with (at_builtin;refine wpList_append_own_at _ rfl _ _ 28 rfl w.heap.size 49 i0 (.agg #[.int .i64 0,.int .i64 0,.int .i64 0,.slice none 0 0]) 4 48 Tryz.underlying28 hi hz0 hz1 hz2 rfl (by decide) _ ps.length (txnCells ps) rfl ho2 ⟨w4.heap.size,0,none⟩ 1 1 [.int .i64 i,.int .i64 s,.int .i64 q,.slice a xs.length c] rfl rfl ?c1 ?c2 ?c3 ?c4 ?c5 ?_)
  all_goals try (case c1=>intro j u hj;match j,hj with | 0,hj=>simp at hj;subst hj;simp [Addr.add] | 1,hj=>simp at hj;subst hj;simp [Addr.add] | 2,hj=>simp at hj;subst hj;simp [Addr.add] | 3,hj=>simp at hj;subst hj;simp [Addr.add])
  all_goals try (case c2=>intro u hu;simp at hu;rcases hu with rfl | rfl | rfl | rfl <;> rfl)
  all_goals try (case c3=>unfold maxLen;omega)
  all_goals try (case c4=>omega)
  all_goals try (case c5=>first | omega | (simp;omega))
  intro v' w5 hown hgrow hnil hat
  have hgo:∀ j,(Value.slice a1 ps.length c1).ownBlock=some j→w.heap.size≤j:=fun j hj=>(ho2.lt j hj).1
  have hB5:Below w.heap.size w4 w5:=((Below.refl w.heap.size w4).alloc hsz4 (.cells #[.int .i64 i,.int .i64 s,.int .i64 q,.slice a xs.length c] 49)).grown hgrow (by simp;omega) hgo
  have hR5:Hid (TxnRow w.heap.size w5 v' (ps ++ [⟨⟨i,s,q,xs⟩,a,c⟩])):=(hR.below hbA).append ⟨⟨i,s,q,xs⟩,a,c⟩ (own_below ho hbA) hpn (by simpa [TxnP.cells,TxnP.sl] using hown) hgrow (by rw [World.size_alloc];exact hat) hnil
  replace hg:=grown_low hg hB5
  replace hS:=hS.low hB5 hlt.2
  have HP5:Hid (∀ p∈ps ++ [(⟨⟨i,s,q,xs⟩,a,c⟩:TxnP)],p.d.acts.length≤5):=by
   intro p hp
   simp only [List.mem_append,List.mem_singleton] at hp
   rcases hp with hp | rfl
   ·exact HP.out p hp
   ·show xs.length≤5;omega
  clear hR ho ho2 hown hgrow hat hnil hgo hB5 hbA hpn
  go_wp2
  go_ret
  exact ⟨v',ps ++ [⟨⟨i,s,q,xs⟩,a,c⟩],rfl,by simp;omega,HP5.out,hR5.out,hS.mono (by omega),hg⟩
 have hr0' : (r == 0)=false:=by simpa using hr0
 by_cases hr1:r=1
 ·subst hr1
  have hby:i0.bytes * 41≤281474976710656:=by rw [hz2];omega
  have hmx:41≤maxLen:=by unfold maxLen;omega
  clear hr0 hr0' hR
  go_wp2_with (at_make;refine wpList_make_full _ rfl _ _ 28 rfl wr.heap.size 49 i0 (.agg #[.int .i64 0,.int .i64 0,.int .i64 0,.slice none 0 0]) 4 Tryz.underlying28 hi hz0 hz1 _ _ _ _ 41 rfl rfl rfl rfl hby hmx (Nat.le_refl _) ?_)
  intro w3 hown hgrow
  have hb3:Below wr.heap.size wr w3:=(Below.refl _ _).grown hgrow (Nat.le_refl _) (by simp)
  have R:Hid (TxnRow w.heap.size w3 (.slice (some ⟨wr.heap.size,0,none⟩) 41 41) (List.replicate 41 txnPNo)):=by
   refine ⟨by rw [← made41];exact own_base hown hsz,fun p hp=>?_,by simp⟩
   rw [List.eq_of_mem_replicate hp]
   exact ⟨World.ownsRow_nil _ _ _ _,Or.inl rfl⟩
  replace hS:=hS.below hb3
  replace hg:=grown_low hg (hb3.mono hsz)
  clear hown hgrow hb3
  go_wp2
  go_ret
  exact ⟨_,List.replicate 41 txnPNo,rfl,by simp,fun p hp=>by rw [List.eq_of_mem_replicate hp];exact Nat.zero_le _,R.out,hS.mono (by omega),hg⟩
 have hr1' : (r == 1)=false:=by simpa using hr1
 by_cases hr2:r=2
 ·subst hr2
  clear hr0 hr1 hr0' hr1'
  cases ps with
  | nil=>
   go_wp2
   go_ret
   exact ⟨_,[],rfl,by simp,HP.out,hR,hS.mono (by omega),hg⟩
  | cons p0 rest=>
   generalize hps:p0 :: rest=ps at *
   have hlen:0 < ps.length:=by rw [← hps];simp
   have hleni:(0:Int) < (ps.length:Int):=by omega
   obtain ⟨hc,ho,hpn,hx5⟩:Lies wr a1 (txnCells ps)∧wr.ownsRow w.heap.size 146 3 p0.sl p0.d.acts.length (actCells p0.d.acts)∧(p0.sl.ownBlock=none∨p0.sl.ownBlock≠Value.ownBlock (.slice a1 ps.length c1))∧p0.d.acts.length≤5:=⟨Lies.own hR.1,(hR.2.1 p0 (by rw [← hps];simp)).1,(hR.2.1 p0 (by rw [← hps];simp)).2,HP.out p0 (by rw [← hps];simp)⟩
   have hat0:=hR.atK
   obtain ⟨bb,off,rfl,hbs,hc4,_⟩:=hat0.cell (by decide) 0 (by rw [List.length_map];exact hlen)
   have hc' : ∀ j x,(txnK.cells ((ps.map TxnP.qk)[0]'(by rw [List.length_map];exact hlen)))[j]? = some x→wr.cell? ⟨bb,off + 0 * 4 + j,none⟩=some x:=hc4
   have e0:(ps.map TxnP.qk)[0]'(by rw [List.length_map];exact hlen)=p0.qk:=by subst hps;rfl
   rw [e0] at hc'
   have c0' := hc' 0 (.int .i64 p0.d.id) rfl
   have c1' := hc' 1 (.int .i64 p0.d.session) rfl
   have c2' := hc' 2 (.int .i64 p0.d.seq) rfl
   have c3' := hc' 3 p0.sl rfl
   simp only [Nat.zero_mul,Nat.add_zero] at c0' c1' c2' c3'
   clear hc4 hc' e0 hat0 hc hps
   obtain ⟨⟨i,s,q,xs⟩,a,c⟩:=p0
   replace ho:wr.ownsRow w.heap.size 146 3 (.slice a xs.length c) xs.length (actCells xs):=ho
   replace hpn:Value.ownBlock (.slice a xs.length c)=none∨Value.ownBlock (.slice a xs.length c)≠Value.ownBlock (.slice (some ⟨bb,off,none⟩) ps.length c1):=hpn
   replace hx5:xs.length≤5:=hx5
   replace c3' : wr.cell? ⟨bb,off + 3,none⟩=some (.slice a xs.length c):=c3'
   dsimp only at c0' c1' c2'
   have hbA:Below wr.heap.size wr (wr.alloc (.cells #[.int .i64 i,.int .i64 s,.int .i64 q,.slice a xs.length c] 49)):=by go_grown
   have hsz4:=hg.size
   have ho2:=own_below hR.1 hbA
   go_wp2_with (at_builtin;refine wpList_append_own_at _ rfl _ _ 28 rfl w.heap.size 49 i0 (.agg #[.int .i64 0,.int .i64 0,.int .i64 0,.slice none 0 0]) 4 48 Tryz.underlying28 hi hz0 hz1 hz2 rfl (by decide) _ ps.length (txnCells ps) rfl ho2 ⟨wr.heap.size,0,none⟩ 1 1 [.int .i64 i,.int .i64 s,.int .i64 q,.slice a xs.length c] rfl rfl ?c1 ?c2 ?c3 ?c4 ?c5 ?_)
   all_goals try (case c1=>intro j u hj;match j,hj with | 0,hj=>simp at hj;subst hj;simp [Addr.add] | 1,hj=>simp at hj;subst hj;simp [Addr.add] | 2,hj=>simp at hj;subst hj;simp [Addr.add] | 3,hj=>simp at hj;subst hj;simp [Addr.add])
   all_goals try (case c2=>intro u hu;simp at hu;rcases hu with rfl | rfl | rfl | rfl <;> rfl)
   all_goals try (case c3=>unfold maxLen;omega)
   all_goals try (case c4=>omega)
   all_goals try (case c5=>first | omega | (simp;omega))
   intro v' w5 hown hgrow hnil hat
   have hgo:∀ j,(Value.slice (some ⟨bb,off,none⟩) ps.length c1).ownBlock=some j→w.heap.size≤j:=fun j hj=>(ho2.lt j hj).1
   have hB5:Below w.heap.size wr w5:=((Below.refl w.heap.size wr).alloc hsz4 (.cells #[.int .i64 i,.int .i64 s,.int .i64 q,.slice a xs.length c] 49)).grown hgrow (by simp;omega) hgo
   have hR5:Hid (TxnRow w.heap.size w5 v' (ps ++ [(⟨⟨i,s,q,xs⟩,a,c⟩:TxnP)])):=(hR.below hbA).append (⟨⟨i,s,q,xs⟩,a,c⟩:TxnP) (own_below ho hbA) hpn (by simpa [TxnP.cells,TxnP.sl] using hown) hgrow (by rw [World.size_alloc];exact hat) hnil
   replace hg:=grown_low hg hB5
   replace hS:=hS.low hB5 hlt.2
   have HP5:Hid (∀ p∈ps ++ [(⟨⟨i,s,q,xs⟩,a,c⟩:TxnP)],p.d.acts.length≤5):=by
    intro p hp
    simp only [List.mem_append,List.mem_singleton] at hp
    rcases hp with hp | rfl
    ·exact HP.out p hp
    ·show xs.length≤5;omega
   clear hR ho ho2 hown hgrow hat hnil hgo hB5 hbA hpn
   clear c0' c1' c2' c3'
   go_wp2
   go_ret
   exact ⟨v',_,rfl,by simp;omega,HP5.out,hR5.out,hS.mono (by omega),hg⟩
 have hr2' : (r == 2)=false:=by simpa using hr2
 clear hr0 hr1 hr2
 go_wp2
 go_ret
 exact ⟨_,ps,rfl,by omega,HP.out,hR,hS.mono (by omega),hg⟩

end Go.Proofs.YtfdkcbafpiojkaaGreatDoor
namespace Go.Proofs.YtfdkcbafpiojkaaGreatDoor
open Go.RowKit
open Go.BigFrame
set_option maxRecDepth 100000
theorem Kind.At.take' {P:Type} {K:Kind P} {w:World} {a:Option Addr} {n cap:Nat} {ps:List P} (h:K.At w (.slice a n cap) ps) (m:Nat) (hm:m≤ps.length):K.At w (.slice a m cap) (ps.take m):=by
 obtain ⟨a',c,e,hl,hr⟩:=h
 simp only [Value.slice.injEq] at e
 obtain ⟨rfl,_,rfl⟩:=e
 refine ⟨a,cap,by rw [List.length_take,Nat.min_eq_left hm],?_,fun p hp=>hr p (List.mem_of_mem_take hp)⟩
 have er:K.row ps=K.row (ps.take m) ++ K.row (ps.drop m):=by
  unfold Kind.row
  rw [← List.flatMap_append,List.take_append_drop]
 rcases hl with h0 | ⟨b,off,ha,hlt,hc⟩
 ·left
  rw [er] at h0
  exact (List.append_eq_nil_iff.1 h0).1
 ·right
  refine ⟨b,off,ha,hlt,fun j x hx=>hc j x ?_⟩
  rw [er,List.getElem?_append_left (List.getElem?_eq_some_iff.1 hx).1]
  exact hx

/-- The first ones. -/
def preT (xs ys:List TxnD):Bool:=decide (xs.length≤ys.length) && sameTs xs (ys.take xs.length)

set_option maxHeartbeats 2000000 in
theorem implIsPrefix_any (v v' : Value) (xs ys:List TxnQ) (w:World) (h:txnK.At w v xs) (h' : txnK.Own w v' ys) (hl:xs.length + nmL TxnQ.n xs≤1048576) (hl' : ys.length + nmL TxnQ.n ys≤1048576) :
  Calls Tryz.prog 43 #[v,v'] w fun e w' => e=.returned (.bool (preT (xs.map TxnQ.e) (ys.map TxnQ.e)))∧Below w.heap.size w w' := by
 obtain ⟨a,cap,rfl⟩:=h.shape
 obtain ⟨a',cap',rfl⟩:=h'.shape
 obtain ⟨hc,hcm⟩:=h'.cap'
 unfold preT
 rw [List.length_map,List.length_map]
 by_cases hlen:xs.length≤ys.length
 ·have hd:decide (xs.length≤ys.length)=true:=decide_eq_true hlen
  rw [hd,Bool.true_and]
  have hT:=h'.at.take' xs.length hlen
  have hn:nmL TxnQ.n (ys.take xs.length)≤nmL TxnQ.n ys:=nmL_le TxnQ.n ys xs.length
  have hq:=implSameTxns_any (.slice a xs.length cap) (.slice a' xs.length cap') (xs.map TxnQ.e) ((ys.take xs.length).map TxnQ.e) w (txnsAt_of' h) (txnsAt_of' hT) (by rw [List.length_map,sumA_of'];omega) (by rw [List.length_map,sumA_of',List.length_take];omega)
  rw [List.map_take] at hq
  generalize sameTs (xs.map TxnQ.e) ((ys.map TxnQ.e).take xs.length)=E at *
  have hle:(xs.length:Int)≤(ys.length:Int):=by omega
  have hlc:xs.length≤cap' := by omega
  have hlc' : (xs.length:Int)≤(cap' : Int):=by omega
  have hl0:(0:Int)≤(xs.length:Int):=by omega
  clear hT hn hd
  go_enter Tryz.func43,Tryz.ntmps43
  go_wp2_with fail
  refine hq.mono ?_
  rintro e w2 ⟨rfl,hb2⟩
  go_wp2
  go_ret
  exact ⟨rfl,hb2⟩
 ·have hd:decide (xs.length≤ys.length)=false:=decide_eq_false hlen
  rw [hd,Bool.false_and]
  have hle:¬ (xs.length:Int)≤(ys.length:Int):=by omega
  clear hd
  go_enter Tryz.func43,Tryz.ntmps43
  go_wp2
  go_ret
  exact ⟨rfl,Below.refl _ _⟩

end Go.Proofs.YtfdkcbafpiojkaaGreatDoor
