/- Texts joined, with what the laws reach alone. -/
import Derived.Test.YtfdkcbafpiojkaaGreatDoorSGBJ
import Derived.Test.YtfdkcbafpiojkaaGreatDoorSGBA
import Derived.Test.YtfdkcbafpiojkaaGreatDoorSGBB
set_option linter.unusedVariables false
set_option linter.unusedSimpArgs false
namespace Go.Proofs.YtfdkcbafpiojkaaGreatDoor
open Go.RowKit Go.Maps
open Go.BigFrame
set_option maxRecDepth 100000
set_option maxRecDepth 100000 in
set_option maxHeartbeats 4000000 in
theorem drawDropTent_any (a0:Option Addr) (cap0:Nat) (zs:List Int) (w:World) (h:Row .u8 w a0 zs) (hu:∀ i,0≤zs.getD i 0∧zs.getD i 0≤255) (hl:zs.length≤1048576) :
  Calls Tryz.prog 32 #[.slice a0 zs.length cap0] w fun e w' => ∃ q:RepQ,e=.returned (.agg #[q.vd,q.vb,q.vt,q.vu,q.vn])∧q.n≤3000∧repK.own w' q∧Below w.heap.size w w' := by
 have hB:Below w.heap.size w (w.alloc (.cells #[.slice none 0 0,.slice none 0 0,.slice none 0 0,.slice none 0 0,.slice none 0 0] 32)):=by go_grown
 have R0:=(Blk.new w 32 #[.slice none 0 0,.slice none 0 0,.slice none 0 0,.slice none 0 0,.slice none 0 0])
 have hs0:w.heap.size + 0 < (w.alloc (.cells #[.slice none 0 0,.slice none 0 0,.slice none 0 0,.slice none 0 0,.slice none 0 0] 32)).heap.size:=by simp only [World.size_alloc];omega
 have hrow:=h.below hB
 go_enter Tryz.func32,Tryz.ntmps32
 go_wp2_with fail
 generalize (w.alloc (.cells #[.slice none 0 0,.slice none 0 0,.slice none 0 0,.slice none 0 0,.slice none 0 0] 32))=W at *
 refine (source_any W.heap.size a0 cap0 zs W (Nat.le_refl _) hl hu hrow).mono ?_
 rintro e w1 ⟨rfl,hS,hb1⟩
 replace R0:=R0.below hb1
 replace hB:=hB.trans (hb1.mono hB.size)
 generalize hSB:W.heap.size=b at *
 have hlt:=hS.lt
 clear hb1 hrow
 go_wp2_with fail
 refine (l9Bent_any b b 0 w1 hS (by omega)).mono ?_
 rintro e w2 ⟨q,rfl,hqn,oq,gq,hSn,hgn⟩
 replace hS:=hSn
 replace R0:=R0.grown hgn (by simp only [ne_eq,Option.some.injEq];omega)
 replace hB:=hB.grown hgn hB.size (fun k hk=>by simp at hk;omega)
 have low:∀ k∈repK.foot q,b < k∧k < w2.heap.size:=fun k hk=>⟨by have:=gq k hk;omega,repK.own_lt oq k hk⟩
 have HN:Hid (q.n≤3000):=hqn
 have hs1:b < w2.heap.size:=by have:=hgn.size;omega
 clear hSn hgn gq hqn
 obtain ⟨qvd,qd,qvb,qb,qvt,qt,qvu,qu,qvn,qn⟩:=q
 obtain ⟨s0,t0,rfl⟩:∃ a c,qvd=.slice a qd.length c:=oq.1.shape
 obtain ⟨s1,t1,rfl⟩:∃ a c,qvb=.slice a qb.length c:=oq.2.1.shape
 obtain ⟨s2,t2,rfl⟩:∃ a c,qvt=.slice a qt.length c:=oq.2.2.1.shape
 obtain ⟨s3,t3,rfl⟩:∃ a c,qvu=.slice a qu.length c:=oq.2.2.2.1.shape
 obtain ⟨s4,t4,rfl⟩:∃ a c,qvn=.slice a qn.length c:=oq.2.2.2.2.shape
 have Rr:=R0.row #[.slice s0 qd.length t0,.slice s1 qb.length t1,.slice s2 qt.length t2,.slice s3 qu.length t3,.slice s4 qn.length t4]
 have oz:=repK.own_out oq (out_row w2 w.heap.size #[.slice s0 qd.length t0,.slice s1 qb.length t1,.slice s2 qt.length t2,.slice s3 qu.length t3,.slice s4 qn.length t4]) (fun k hk hk' => by simp only [List.mem_singleton] at hk';have:=low k hk;omega)
 have hBz:=below_row (g:=w.heap.size) hB (Nat.le_refl _) #[.slice s0 qd.length t0,.slice s1 qb.length t1,.slice s2 qt.length t2,.slice s3 qu.length t3,.slice s4 qn.length t4]
 have HZ:Hid (repK.own (w2.setRow w.heap.size #[.slice s0 qd.length t0,.slice s1 qb.length t1,.slice s2 qt.length t2,.slice s3 qu.length t3,.slice s4 qn.length t4]) (⟨.slice s0 qd.length t0,qd,.slice s1 qb.length t1,qb,.slice s2 qt.length t2,qt,.slice s3 qu.length t3,qu,.slice s4 qn.length t4,qn⟩:RepQ)∧Below w.heap.size w (w2.setRow w.heap.size #[.slice s0 qd.length t0,.slice s1 qb.length t1,.slice s2 qt.length t2,.slice s3 qu.length t3,.slice s4 qn.length t4])):=⟨oz,hBz⟩
 clear oz hBz oq hS hB low
 go_wp2_with (first | (refine st_row (by kernel_rfl) 32 _ _ rfl _ #[.slice s0 qd.length t0,.slice s1 qb.length t1,.slice s2 qt.length t2,.slice s3 qu.length t3,.slice s4 qn.length t4] rfl rfl 32 _ R0 sz_rep9 rfl (by simp [Value.oneCell']) ?_))
 have q0:=Rr.cell 0 _ rfl
 have q1:=Rr.cell 1 _ rfl
 have q2:=Rr.cell 2 _ rfl
 have q3:=Rr.cell 3 _ rfl
 have q4:=Rr.cell 4 _ rfl
 exact bodyPost_ret (v:=.agg #[.slice s0 qd.length t0,.slice s1 qb.length t1,.slice s2 qt.length t2,.slice s3 qu.length t3,.slice s4 qn.length t4]) (by simp [results,Tryz.results32,go_sem,q0,q1,q2,q3,q4]) rfl ⟨(⟨.slice s0 qd.length t0,qd,.slice s1 qb.length t1,qb,.slice s2 qt.length t2,qt,.slice s3 qu.length t3,qu,.slice s4 qn.length t4,qn⟩:RepQ),rfl,HN.out,HZ.out.1,HZ.out.2⟩

theorem sz_txn9:(Tryz.prog.info? 49).map (·.size)=some 4:=by kernel_rfl

set_option maxRecDepth 100000 in
set_option maxHeartbeats 8000000 in
theorem drawOptDeliver_any (a0:Option Addr) (cap0:Nat) (zs:List Int) (w:World) (h:Row .u8 w a0 zs) (hu:∀ i,0≤zs.getD i 0∧zs.getD i 0≤255) (hl:zs.length≤1048576) :
  Calls Tryz.prog 31 #[.slice a0 zs.length cap0] w fun e w' => ∃ (q:RepQ) (t:TxnQ),e=.returned (.tuple #[.agg #[q.vd,q.vb,q.vt,q.vu,q.vn],.agg #[.int .i64 t.i,.int .i64 t.s,.int .i64 t.q,t.va]])∧q.n≤3000∧t.acts.length≤5∧repK.own w' q∧txnK.own w' t∧Below w.heap.size w w' := by
 have hB:Below w.heap.size w ((w.alloc (.cells #[.slice none 0 0,.slice none 0 0,.slice none 0 0,.slice none 0 0,.slice none 0 0] 32)).alloc (.cells #[.int .i64 0,.int .i64 0,.int .i64 0,.slice none 0 0] 49)):=by go_grown
 have R0:=(Blk.new w 32 #[.slice none 0 0,.slice none 0 0,.slice none 0 0,.slice none 0 0,.slice none 0 0]).below (w' := ((w.alloc (.cells #[.slice none 0 0,.slice none 0 0,.slice none 0 0,.slice none 0 0,.slice none 0 0] 32)).alloc (.cells #[.int .i64 0,.int .i64 0,.int .i64 0,.slice none 0 0] 49))) (by go_grown)
 have R1:=Blk.new (w.alloc (.cells #[.slice none 0 0,.slice none 0 0,.slice none 0 0,.slice none 0 0,.slice none 0 0] 32)) 49 #[.int .i64 0,.int .i64 0,.int .i64 0,.slice none 0 0]
 simp only [World.size_alloc] at R1
 have hs0:w.heap.size + 1 < ((w.alloc (.cells #[.slice none 0 0,.slice none 0 0,.slice none 0 0,.slice none 0 0,.slice none 0 0] 32)).alloc (.cells #[.int .i64 0,.int .i64 0,.int .i64 0,.slice none 0 0] 49)).heap.size:=by simp only [World.size_alloc];omega
 have hrow:=h.below hB
 go_enter Tryz.func31,Tryz.ntmps31
 go_wp2_with fail
 generalize ((w.alloc (.cells #[.slice none 0 0,.slice none 0 0,.slice none 0 0,.slice none 0 0,.slice none 0 0] 32)).alloc (.cells #[.int .i64 0,.int .i64 0,.int .i64 0,.slice none 0 0] 49))=W at *
 refine (source_any W.heap.size a0 cap0 zs W (Nat.le_refl _) hl hu hrow).mono ?_
 rintro e w1 ⟨rfl,hS,hb1⟩
 replace R0:=R0.below hb1
 replace R1:=R1.below hb1
 replace hB:=hB.trans (hb1.mono hB.size)
 generalize hSB:W.heap.size=b at *
 have hlt:=hS.lt
 clear hb1 hrow
 go_wp2_with fail
 refine (l9Bent_any b b 0 w1 hS (by omega)).mono ?_
 rintro e w2 ⟨q,rfl,hqn,oq,gq,hSn,hgn⟩
 replace hS:=hSn
 replace R0:=R0.grown hgn (by simp only [ne_eq,Option.some.injEq];omega)
 replace R1:=R1.grown hgn (by simp only [ne_eq,Option.some.injEq];omega)
 replace hB:=hB.grown hgn hB.size (fun k hk=>by simp at hk;omega)
 have low:∀ k∈repK.foot q,b < k∧k < w2.heap.size:=fun k hk=>⟨by have:=gq k hk;omega,repK.own_lt oq k hk⟩
 have HN:Hid (q.n≤3000):=hqn
 have hs1:b < w2.heap.size:=by have:=hgn.size;omega
 clear hSn hgn gq hqn
 obtain ⟨qvd,qd,qvb,qb,qvt,qt,qvu,qu,qvn,qn⟩:=q
 obtain ⟨s0,t0,rfl⟩:∃ a c,qvd=.slice a qd.length c:=oq.1.shape
 obtain ⟨s1,t1,rfl⟩:∃ a c,qvb=.slice a qb.length c:=oq.2.1.shape
 obtain ⟨s2,t2,rfl⟩:∃ a c,qvt=.slice a qt.length c:=oq.2.2.1.shape
 obtain ⟨s3,t3,rfl⟩:∃ a c,qvu=.slice a qu.length c:=oq.2.2.2.1.shape
 obtain ⟨s4,t4,rfl⟩:∃ a c,qvn=.slice a qn.length c:=oq.2.2.2.2.shape
 have Bx:=Blk.new w2 32 #[.slice s0 qd.length t0,.slice s1 qb.length t1,.slice s2 qt.length t2,.slice s3 qu.length t3,.slice s4 qn.length t4]
 have hbx:Below w2.heap.size w2 (w2.alloc (.cells #[.slice s0 qd.length t0,.slice s1 qb.length t1,.slice s2 qt.length t2,.slice s3 qu.length t3,.slice s4 qn.length t4] 32)):=by go_grown
 replace oq:=repK.own_out (F:=[]) oq (Out.of_below hbx) (fun _ _=>by simp)
 replace R0:=R0.below hbx
 replace R1:=R1.below hbx
 replace hS:=hS.below hbx
 have hs2:w.heap.size≤w2.heap.size:=hB.size
 replace hB:=hB.trans (hbx.mono hs2)
 clear hbx
 go_wp2_with fail
 generalize w2.alloc (.cells #[.slice s0 qd.length t0,.slice s1 qb.length t1,.slice s2 qt.length t2,.slice s3 qu.length t3,.slice s4 qn.length t4] 32)=X at *
 generalize hgg:w2.heap.size=g at *
 refine (chance_any b b (0 + 400) 6 X hS (by omega) (by omega)).mono ?_
 rintro e Y ⟨tt,rfl,hSn,hgn⟩
 replace hS:=hSn
 replace R0:=R0.grown hgn (by simp only [ne_eq,Option.some.injEq];omega)
 replace R1:=R1.grown hgn (by simp only [ne_eq,Option.some.injEq];omega)
 replace Bx:=Bx.grown hgn (by simp only [ne_eq,Option.some.injEq];omega)
 replace oq:=repK.own_out oq (Out.of_grown hgn) (fun k hk hk' => by simp only [Option.toList,List.mem_singleton] at hk';have:=low k hk;omega)
 replace hB:=hB.grown hgn hB.size (fun k hk=>by simp at hk;omega)
 clear hSn hgn
 cases tt with
 | true=>
  have p0:=keep_cell (F:=[b,w.heap.size,w.heap.size + 1]) (Bx.cell 0 _ rfl) (by simp only [List.mem_cons,List.not_mem_nil,or_false];omega)
  have p1:=keep_cell (F:=[b,w.heap.size,w.heap.size + 1]) (Bx.cell 1 _ rfl) (by simp only [List.mem_cons,List.not_mem_nil,or_false];omega)
  have p2:=keep_cell (F:=[b,w.heap.size,w.heap.size + 1]) (Bx.cell 2 _ rfl) (by simp only [List.mem_cons,List.not_mem_nil,or_false];omega)
  have p3:=keep_cell (F:=[b,w.heap.size,w.heap.size + 1]) (Bx.cell 3 _ rfl) (by simp only [List.mem_cons,List.not_mem_nil,or_false];omega)
  have p4:=keep_cell (F:=[b,w.heap.size,w.heap.size + 1]) (Bx.cell 4 _ rfl) (by simp only [List.mem_cons,List.not_mem_nil,or_false];omega)
  have hne:Nonempty (KeepP (Out [b,w.heap.size,w.heap.size + 1] Y)):=⟨⟨Y,Out.refl _ _⟩⟩
  go_wp2_with fail
  have hbd:Below Y.heap.size Y Y.drew:=(Below.refl _ _).drew
  have hO:Out [b,w.heap.size,w.heap.size + 1] Y Y.drew:=Out.of_below hbd
  refine text_begin (S:=fun w' => ∃ u:KeepP (Out [b,w.heap.size,w.heap.size + 1] Y),w' = u.val) (by kernel_rfl) ?_
  refine seg_range [(0,2)] 3 (by kernel_rfl) (by kernel_rfl) (by kernel_rfl) (by kernel_rfl) (by kernel_rfl) ⟨⟨_,hO⟩,rfl⟩ ?_
  simp only [pickR,List.toList_toArray,List.flatMap_cons,List.flatMap_nil,List.drop_succ_cons,List.drop_zero,List.take_succ_cons,List.take_zero,List.cons_append,List.nil_append,List.append_nil]
  repeat go_big_quiet_step (fail)
  refine wpQuiet_nil ?_
  clear p0 p1 p2 p3 p4 hne
  replace oq:=repK.own_out (F:=[]) oq (Out.of_below hbd) (fun _ _=>by simp)
  replace hS:=hS.below hbd
  replace R0:=R0.below hbd
  replace R1:=R1.below hbd
  replace hB:=hB.trans (hbd.mono hB.size)
  clear hbd
  generalize Y.drew=Yd at *
  have hyd:=R1.lt
  refine call_at 2 (some 14) 78 #[.pointer (some ⟨b,0,none⟩)] 2 (by kernel_rfl) (by kernel_rfl) (by kernel_rfl) (by kernel_rfl) (by kernel_rfl) ?_
  refine (l2Bent_any b b (0 + 400 + 1) Yd hS (by omega)).mono ?_
  rintro e Z ⟨i,s,q9,a,c,xs,rfl,hx5,ho,hSn,hgn⟩
  have hsz:=hB.size
  have hUg:Out [b,w.heap.size,w.heap.size + 1] Yd Z:=(Out.of_grown hgn).mono (fun k hk=>by simp only [Option.toList,List.mem_singleton] at hk;simp [hk])
  replace hO:=hO.trans hUg
  replace R0:=R0.grown hgn (by simp only [ne_eq,Option.some.injEq];omega)
  replace R1:=R1.grown hgn (by simp only [ne_eq,Option.some.injEq];omega)
  replace oq:=repK.own_out oq (Out.of_grown hgn) (fun k hk hk' => by simp only [Option.toList,List.mem_singleton] at hk';have:=low k hk;omega)
  replace hB:=hB.grown hgn hB.size (fun k hk=>by simp at hk;omega)
  obtain ⟨o0,hlo⟩:=own_zero ho
  have oT:txnK.own Z (⟨i,s,q9,.slice a xs.length c,xs⟩:TxnQ):=⟨o0,fun _ _=>trivial⟩
  have fT:∀ k∈txnK.foot (⟨i,s,q9,.slice a xs.length c,xs⟩:TxnQ),Yd.heap.size≤k:=fun k hk=>hlo k (by rw [← actK_fp (.slice a xs.length c) xs];exact hk)
  have r1l:=R1.lt
  clear hgn hSn hUg o0 hlo ho hS
  refine ⟨_,rfl,⟨⟨_,hO⟩,rfl⟩,?_⟩
  simp only [Act.put,List.setIfInBounds_toArray,List.set_cons_zero,List.set_cons_succ]
  refine one_at 3 _ 1 (by kernel_rfl) rfl (by kernel_rfl) ?_
  have Rr:=R0.row #[.slice s0 qd.length t0,.slice s1 qb.length t1,.slice s2 qt.length t2,.slice s3 qu.length t3,.slice s4 qn.length t4]
  have R1' := R1.outs8 (out_row Z w.heap.size #[.slice s0 qd.length t0,.slice s1 qb.length t1,.slice s2 qt.length t2,.slice s3 qu.length t3,.slice s4 qn.length t4]) (by simp only [List.mem_singleton];omega)
  replace oq:=repK.own_out oq (out_row Z w.heap.size #[.slice s0 qd.length t0,.slice s1 qb.length t1,.slice s2 qt.length t2,.slice s3 qu.length t3,.slice s4 qn.length t4]) (fun k hk hk' => by simp only [List.mem_singleton] at hk';have:=low k hk;omega)
  replace oT:=txnK.own_out oT (out_row Z w.heap.size #[.slice s0 qd.length t0,.slice s1 qb.length t1,.slice s2 qt.length t2,.slice s3 qu.length t3,.slice s4 qn.length t4]) (fun k hk hk' => by simp only [List.mem_singleton] at hk';have:=fT k hk;omega)
  replace hB:=below_row (g:=w.heap.size) hB (Nat.le_refl _) #[.slice s0 qd.length t0,.slice s1 qb.length t1,.slice s2 qt.length t2,.slice s3 qu.length t3,.slice s4 qn.length t4]
  replace hO:Out [b,w.heap.size,w.heap.size + 1] Y (Z.setRow w.heap.size #[.slice s0 qd.length t0,.slice s1 qb.length t1,.slice s2 qt.length t2,.slice s3 qu.length t3,.slice s4 qn.length t4]):=hO.trans ((out_row Z w.heap.size #[.slice s0 qd.length t0,.slice s1 qb.length t1,.slice s2 qt.length t2,.slice s3 qu.length t3,.slice s4 qn.length t4]).mono (fun k hk=>by simp only [List.mem_singleton] at hk;simp [hk]))
  refine st_row (by kernel_rfl) 32 _ _ rfl _ #[.slice s0 qd.length t0,.slice s1 qb.length t1,.slice s2 qt.length t2,.slice s3 qu.length t3,.slice s4 qn.length t4] rfl rfl 32 _ R0 sz_rep9 rfl (by simp [Value.oneCell']) ?_
  refine ThenGo.to ⟨⟨⟨_,hO⟩,rfl⟩,?_⟩
  generalize Z.setRow w.heap.size #[.slice s0 qd.length t0,.slice s1 qb.length t1,.slice s2 qt.length t2,.slice s3 qu.length t3,.slice s4 qn.length t4]=Z1 at *
  refine one_at 4 _ 0 (by kernel_rfl) rfl (by kernel_rfl) ?_
  have Rt:=R1'.row #[.int .i64 i,.int .i64 s,.int .i64 q9,.slice a xs.length c]
  have Rr' := Rr.outs8 (out_row Z1 (w.heap.size + 1) #[.int .i64 i,.int .i64 s,.int .i64 q9,.slice a xs.length c]) (by simp only [List.mem_singleton];omega)
  replace oq:=repK.own_out oq (out_row Z1 (w.heap.size + 1) #[.int .i64 i,.int .i64 s,.int .i64 q9,.slice a xs.length c]) (fun k hk hk' => by simp only [List.mem_singleton] at hk';have:=low k hk;omega)
  replace oT:=txnK.own_out oT (out_row Z1 (w.heap.size + 1) #[.int .i64 i,.int .i64 s,.int .i64 q9,.slice a xs.length c]) (fun k hk hk' => by simp only [List.mem_singleton] at hk';have:=fT k hk;omega)
  replace hB:=below_row (g:=w.heap.size + 1) hB (by omega) #[.int .i64 i,.int .i64 s,.int .i64 q9,.slice a xs.length c]
  replace hO:Out [b,w.heap.size,w.heap.size + 1] Y (Z1.setRow (w.heap.size + 1) #[.int .i64 i,.int .i64 s,.int .i64 q9,.slice a xs.length c]):=hO.trans ((out_row Z1 (w.heap.size + 1) #[.int .i64 i,.int .i64 s,.int .i64 q9,.slice a xs.length c]).mono (fun k hk=>by simp only [List.mem_singleton] at hk;simp [hk]))
  have HZ:Hid (repK.own (Z1.setRow (w.heap.size + 1) #[.int .i64 i,.int .i64 s,.int .i64 q9,.slice a xs.length c]) (⟨.slice s0 qd.length t0,qd,.slice s1 qb.length t1,qb,.slice s2 qt.length t2,qt,.slice s3 qu.length t3,qu,.slice s4 qn.length t4,qn⟩:RepQ)∧txnK.own (Z1.setRow (w.heap.size + 1) #[.int .i64 i,.int .i64 s,.int .i64 q9,.slice a xs.length c]) (⟨i,s,q9,.slice a xs.length c,xs⟩:TxnQ)∧Below w.heap.size w (Z1.setRow (w.heap.size + 1) #[.int .i64 i,.int .i64 s,.int .i64 q9,.slice a xs.length c])):=⟨oq,oT,hB⟩
  have HX:Hid (xs.length≤5):=show _≤_ by omega
  refine st_row (by kernel_rfl) 49 _ _ rfl _ #[.int .i64 i,.int .i64 s,.int .i64 q9,.slice a xs.length c] rfl rfl 49 _ R1' sz_txn9 rfl (by simp [Value.oneCell']) ?_
  refine ThenGo.to ⟨⟨⟨_,hO⟩,rfl⟩,?_⟩
  refine text_end (by kernel_rfl) ?_
  have q0:=Rr'.cell 0 _ rfl
  have q1:=Rr'.cell 1 _ rfl
  have q2:=Rr'.cell 2 _ rfl
  have q3:=Rr'.cell 3 _ rfl
  have q4:=Rr'.cell 4 _ rfl
  have r0:=Rt.cell 0 _ rfl
  have r1:=Rt.cell 1 _ rfl
  have r2:=Rt.cell 2 _ rfl
  have r3:=Rt.cell 3 _ rfl
  clear oq oT hB
  go_wp2
  exact bodyPost_ret (v:=.tuple #[.agg #[.slice s0 qd.length t0,.slice s1 qb.length t1,.slice s2 qt.length t2,.slice s3 qu.length t3,.slice s4 qn.length t4],.agg #[.int .i64 i,.int .i64 s,.int .i64 q9,.slice a xs.length c]]) (by simp [results,Tryz.results31,go_sem,q0,q1,q2,q3,q4,r0,r1,r2,r3]) rfl ⟨(⟨.slice s0 qd.length t0,qd,.slice s1 qb.length t1,qb,.slice s2 qt.length t2,qt,.slice s3 qu.length t3,qu,.slice s4 qn.length t4,qn⟩:RepQ),(⟨i,s,q9,.slice a xs.length c,xs⟩:TxnQ),rfl,HN.out,HX.out,HZ.out.1,HZ.out.2.1,HZ.out.2.2⟩
 | false=>
  have p0:=keep_cell (F:=[b,w.heap.size,w.heap.size + 1]) (Bx.cell 0 _ rfl) (by simp only [List.mem_cons,List.not_mem_nil,or_false];omega)
  have p1:=keep_cell (F:=[b,w.heap.size,w.heap.size + 1]) (Bx.cell 1 _ rfl) (by simp only [List.mem_cons,List.not_mem_nil,or_false];omega)
  have p2:=keep_cell (F:=[b,w.heap.size,w.heap.size + 1]) (Bx.cell 2 _ rfl) (by simp only [List.mem_cons,List.not_mem_nil,or_false];omega)
  have p3:=keep_cell (F:=[b,w.heap.size,w.heap.size + 1]) (Bx.cell 3 _ rfl) (by simp only [List.mem_cons,List.not_mem_nil,or_false];omega)
  have p4:=keep_cell (F:=[b,w.heap.size,w.heap.size + 1]) (Bx.cell 4 _ rfl) (by simp only [List.mem_cons,List.not_mem_nil,or_false];omega)
  have hne:Nonempty (KeepP (Out [b,w.heap.size,w.heap.size + 1] Y)):=⟨⟨Y,Out.refl _ _⟩⟩
  go_wp2_with fail
  have hbd:Below Y.heap.size Y Y.drew:=(Below.refl _ _).drew
  have hO:Out [b,w.heap.size,w.heap.size + 1] Y Y.drew:=Out.of_below hbd
  refine text_begin (S:=fun w' => ∃ u:KeepP (Out [b,w.heap.size,w.heap.size + 1] Y),w' = u.val) (by kernel_rfl) ?_
  refine seg_range [(0,2)] 3 (by kernel_rfl) (by kernel_rfl) (by kernel_rfl) (by kernel_rfl) (by kernel_rfl) ⟨⟨_,hO⟩,rfl⟩ ?_
  simp only [pickR,List.toList_toArray,List.flatMap_cons,List.flatMap_nil,List.drop_succ_cons,List.drop_zero,List.take_succ_cons,List.take_zero,List.cons_append,List.nil_append,List.append_nil]
  repeat go_big_quiet_step (fail)
  refine wpQuiet_nil ?_
  clear p0 p1 p2 p3 p4 hne
  replace oq:=repK.own_out (F:=[]) oq (Out.of_below hbd) (fun _ _=>by simp)
  replace hS:=hS.below hbd
  replace R0:=R0.below hbd
  replace R1:=R1.below hbd
  replace hB:=hB.trans (hbd.mono hB.size)
  clear hbd
  generalize Y.drew=Yd at *
  have hyd:=R1.lt
  refine call_at 2 (some 17) 79 #[.pointer (some ⟨b,0,none⟩)] 2 (by kernel_rfl) (by kernel_rfl) (by kernel_rfl) (by kernel_rfl) (by kernel_rfl) ?_
  refine (l2Draw_any b b (0 + 400 + 1) Yd hS (by omega)).mono ?_
  rintro e Z ⟨i,s,q9,a,c,xs,rfl,hx1,hx5,ho,hSn,hgn⟩
  have hsz:=hB.size
  have hUg:Out [b,w.heap.size,w.heap.size + 1] Yd Z:=(Out.of_grown hgn).mono (fun k hk=>by simp only [Option.toList,List.mem_singleton] at hk;simp [hk])
  replace hO:=hO.trans hUg
  replace R0:=R0.grown hgn (by simp only [ne_eq,Option.some.injEq];omega)
  replace R1:=R1.grown hgn (by simp only [ne_eq,Option.some.injEq];omega)
  replace oq:=repK.own_out oq (Out.of_grown hgn) (fun k hk hk' => by simp only [Option.toList,List.mem_singleton] at hk';have:=low k hk;omega)
  replace hB:=hB.grown hgn hB.size (fun k hk=>by simp at hk;omega)
  obtain ⟨o0,hlo⟩:=own_zero ho
  have oT:txnK.own Z (⟨i,s,q9,.slice a xs.length c,xs⟩:TxnQ):=⟨o0,fun _ _=>trivial⟩
  have fT:∀ k∈txnK.foot (⟨i,s,q9,.slice a xs.length c,xs⟩:TxnQ),Yd.heap.size≤k:=fun k hk=>hlo k (by rw [← actK_fp (.slice a xs.length c) xs];exact hk)
  have r1l:=R1.lt
  clear hgn hSn hUg o0 hlo ho hS
  refine ⟨_,rfl,⟨⟨_,hO⟩,rfl⟩,?_⟩
  simp only [Act.put,List.setIfInBounds_toArray,List.set_cons_zero,List.set_cons_succ]
  refine one_at 3 _ 1 (by kernel_rfl) rfl (by kernel_rfl) ?_
  have Rr:=R0.row #[.slice s0 qd.length t0,.slice s1 qb.length t1,.slice s2 qt.length t2,.slice s3 qu.length t3,.slice s4 qn.length t4]
  have R1' := R1.outs8 (out_row Z w.heap.size #[.slice s0 qd.length t0,.slice s1 qb.length t1,.slice s2 qt.length t2,.slice s3 qu.length t3,.slice s4 qn.length t4]) (by simp only [List.mem_singleton];omega)
  replace oq:=repK.own_out oq (out_row Z w.heap.size #[.slice s0 qd.length t0,.slice s1 qb.length t1,.slice s2 qt.length t2,.slice s3 qu.length t3,.slice s4 qn.length t4]) (fun k hk hk' => by simp only [List.mem_singleton] at hk';have:=low k hk;omega)
  replace oT:=txnK.own_out oT (out_row Z w.heap.size #[.slice s0 qd.length t0,.slice s1 qb.length t1,.slice s2 qt.length t2,.slice s3 qu.length t3,.slice s4 qn.length t4]) (fun k hk hk' => by simp only [List.mem_singleton] at hk';have:=fT k hk;omega)
  replace hB:=below_row (g:=w.heap.size) hB (Nat.le_refl _) #[.slice s0 qd.length t0,.slice s1 qb.length t1,.slice s2 qt.length t2,.slice s3 qu.length t3,.slice s4 qn.length t4]
  replace hO:Out [b,w.heap.size,w.heap.size + 1] Y (Z.setRow w.heap.size #[.slice s0 qd.length t0,.slice s1 qb.length t1,.slice s2 qt.length t2,.slice s3 qu.length t3,.slice s4 qn.length t4]):=hO.trans ((out_row Z w.heap.size #[.slice s0 qd.length t0,.slice s1 qb.length t1,.slice s2 qt.length t2,.slice s3 qu.length t3,.slice s4 qn.length t4]).mono (fun k hk=>by simp only [List.mem_singleton] at hk;simp [hk]))
  refine st_row (by kernel_rfl) 32 _ _ rfl _ #[.slice s0 qd.length t0,.slice s1 qb.length t1,.slice s2 qt.length t2,.slice s3 qu.length t3,.slice s4 qn.length t4] rfl rfl 32 _ R0 sz_rep9 rfl (by simp [Value.oneCell']) ?_
  refine ThenGo.to ⟨⟨⟨_,hO⟩,rfl⟩,?_⟩
  generalize Z.setRow w.heap.size #[.slice s0 qd.length t0,.slice s1 qb.length t1,.slice s2 qt.length t2,.slice s3 qu.length t3,.slice s4 qn.length t4]=Z1 at *
  refine one_at 4 _ 0 (by kernel_rfl) rfl (by kernel_rfl) ?_
  have Rt:=R1'.row #[.int .i64 i,.int .i64 s,.int .i64 q9,.slice a xs.length c]
  have Rr' := Rr.outs8 (out_row Z1 (w.heap.size + 1) #[.int .i64 i,.int .i64 s,.int .i64 q9,.slice a xs.length c]) (by simp only [List.mem_singleton];omega)
  replace oq:=repK.own_out oq (out_row Z1 (w.heap.size + 1) #[.int .i64 i,.int .i64 s,.int .i64 q9,.slice a xs.length c]) (fun k hk hk' => by simp only [List.mem_singleton] at hk';have:=low k hk;omega)
  replace oT:=txnK.own_out oT (out_row Z1 (w.heap.size + 1) #[.int .i64 i,.int .i64 s,.int .i64 q9,.slice a xs.length c]) (fun k hk hk' => by simp only [List.mem_singleton] at hk';have:=fT k hk;omega)
  replace hB:=below_row (g:=w.heap.size + 1) hB (by omega) #[.int .i64 i,.int .i64 s,.int .i64 q9,.slice a xs.length c]
  replace hO:Out [b,w.heap.size,w.heap.size + 1] Y (Z1.setRow (w.heap.size + 1) #[.int .i64 i,.int .i64 s,.int .i64 q9,.slice a xs.length c]):=hO.trans ((out_row Z1 (w.heap.size + 1) #[.int .i64 i,.int .i64 s,.int .i64 q9,.slice a xs.length c]).mono (fun k hk=>by simp only [List.mem_singleton] at hk;simp [hk]))
  have HZ:Hid (repK.own (Z1.setRow (w.heap.size + 1) #[.int .i64 i,.int .i64 s,.int .i64 q9,.slice a xs.length c]) (⟨.slice s0 qd.length t0,qd,.slice s1 qb.length t1,qb,.slice s2 qt.length t2,qt,.slice s3 qu.length t3,qu,.slice s4 qn.length t4,qn⟩:RepQ)∧txnK.own (Z1.setRow (w.heap.size + 1) #[.int .i64 i,.int .i64 s,.int .i64 q9,.slice a xs.length c]) (⟨i,s,q9,.slice a xs.length c,xs⟩:TxnQ)∧Below w.heap.size w (Z1.setRow (w.heap.size + 1) #[.int .i64 i,.int .i64 s,.int .i64 q9,.slice a xs.length c])):=⟨oq,oT,hB⟩
  have HX:Hid (xs.length≤5):=show _≤_ by omega
  refine st_row (by kernel_rfl) 49 _ _ rfl _ #[.int .i64 i,.int .i64 s,.int .i64 q9,.slice a xs.length c] rfl rfl 49 _ R1' sz_txn9 rfl (by simp [Value.oneCell']) ?_
  refine ThenGo.to ⟨⟨⟨_,hO⟩,rfl⟩,?_⟩
  refine text_end (by kernel_rfl) ?_
  have q0:=Rr'.cell 0 _ rfl
  have q1:=Rr'.cell 1 _ rfl
  have q2:=Rr'.cell 2 _ rfl
  have q3:=Rr'.cell 3 _ rfl
  have q4:=Rr'.cell 4 _ rfl
  have r0:=Rt.cell 0 _ rfl
  have r1:=Rt.cell 1 _ rfl
  have r2:=Rt.cell 2 _ rfl
  have r3:=Rt.cell 3 _ rfl
  clear oq oT hB
  go_wp2
  exact bodyPost_ret (v:=.tuple #[.agg #[.slice s0 qd.length t0,.slice s1 qb.length t1,.slice s2 qt.length t2,.slice s3 qu.length t3,.slice s4 qn.length t4],.agg #[.int .i64 i,.int .i64 s,.int .i64 q9,.slice a xs.length c]]) (by simp [results,Tryz.results31,go_sem,q0,q1,q2,q3,q4,r0,r1,r2,r3]) rfl ⟨(⟨.slice s0 qd.length t0,qd,.slice s1 qb.length t1,qb,.slice s2 qt.length t2,qt,.slice s3 qu.length t3,qu,.slice s4 qn.length t4,qn⟩:RepQ),(⟨i,s,q9,.slice a xs.length c,xs⟩:TxnQ),rfl,HN.out,HX.out,HZ.out.1,HZ.out.2.1,HZ.out.2.2⟩

end Go.Proofs.YtfdkcbafpiojkaaGreatDoor
namespace Go.Proofs.YtfdkcbafpiojkaaGreatDoor
open Go.RowKit Go.Maps
set_option maxRecDepth 100000
/-- One list more is taken back. -/
def tkS (p:Int × List ItemD) (u:List UndoD):Int × List ItemD:=if p.1=0 then (tbC p.2 u,tbI p.2 u) else (p.1,[])

def tkF (xs:List ItemD) (l:List (List UndoD)):Int × List ItemD:=l.foldl tkS (0,xs)

theorem taR_tkF (xs:List ItemD):∀ l,taR xs l=tkF xs l.reverse
 | []=>rfl
 | u :: r=>by
  have ih:=taR_tkF xs r
  unfold tkF at ih ⊢
  rw [List.reverse_cons,List.foldl_append,← ih]
  rfl

theorem tkF_snoc (xs:List ItemD) (l:List (List UndoD)) (u:List UndoD):tkF xs (l ++ [u])=tkS (tkF xs l) u:=by simp [tkF,List.foldl_append]

theorem tbI_bad {xs:List ItemD} {us:List UndoD} (h:tbC xs us≠0):tbI xs us=[]:=by simp [tbI,h]

theorem taR_bad {xs:List ItemD}:∀ {l:List (List UndoD)},(taR xs l).1≠0→(taR xs l).2=[]
 | [],h=>by simp [taR] at h
 | u :: r,h=>by
  simp only [taR] at h ⊢
  by_cases e:(taR xs r).1=0
  ·rw [if_pos e] at h ⊢
   exact tbI_bad h
  ·rw [if_neg e]

theorem taR_drop {xs:List ItemD}:∀ (l:List (List UndoD)) (m:Nat),(taR xs (l.drop m)).1≠0→taR xs l=((taR xs (l.drop m)).1,[])
 | [],m,h=>by simp [taR] at h
 | u :: r,0,h=>by
  rw [List.drop_zero] at h ⊢
  exact Prod.ext rfl (taR_bad h)
 | u :: r,m + 1,h=>by
  rw [List.drop_succ_cons] at h ⊢
  have ih:=taR_drop r m h
  have e:(taR xs r).1≠0:=by rw [ih];exact h
  simp only [taR]
  rw [if_neg e,ih]

theorem ta_ways (xs:List ItemD) (uss:List (List UndoD)) :
  (20 < uss.length∧taC xs uss=2∧taI xs uss=[])∨(¬ 20 < uss.length∧itemsF xs≠0∧taC xs uss=itemsF xs∧taI xs uss=[]) ∨
  (¬ 20 < uss.length∧itemsF xs=0∧taC xs uss=(taR xs uss).1∧taI xs uss=(taR xs uss).2):=by
 unfold taI taC
 by_cases h1:20 < uss.length
 ·simp [h1]
 ·by_cases h2:itemsF xs=0
  ·by_cases h3:(taR xs uss).1=0
   ·simp [h1,h2,h3]
   ·simp [h1,h2,h3,taR_bad h3]
  ·simp [h1,h2]

section
variable {ops:Array Oper} {rest:List Oper} {o:Oper} {a:Act} {Q:Exit→Act→World→Prop}
theorem run_copyI (w:World) (ty g n:Nat) (cur:Array Value) (ad:Addr) (sc:Nat) (zs:List ItemD) (hz:zs.length=n) (hg:w.heap[g]? = some (.cells cur 134 (0,0))) (hc:cur.size=n * 2) (hr:ItemRow w (some ad) zs) :
  (Builtin.copy_ #[29,29] ty #[.slice (some ⟨g,0,none⟩) n n,.slice (some ad) n sc]).run Tryz.prog w=.ok (goInt n) (w.setRow g (itemCells zs).toArray):=by
 obtain ⟨i0,hi,hz0,hz1,hz2⟩:=info_parts infoItem
 have hlen:=itemCells_length zs
 have hl:=run_loadCells_list (P:=Tryz.prog) w ad (itemCells zs) (lies_srcI hr)
 have hst:=run_storeCells_at Tryz.prog g 0 134 (itemCells zs) 0 cur w hg (by omega) (items_oneCell zs)
 have e:cur.toList.drop (itemCells zs).length=[]:=List.drop_of_length_le (by simp;omega)
 simp only [Nat.zero_add,Nat.add_zero,List.take_zero,List.nil_append,e,List.append_nil] at hst
 rw [hlen,hz] at hl
 simp [Builtin.copy_,run_underlying Tryz.underlying29,Builtin.lenOf,Builtin.firstCells,sizeOf,typeInfo,hi,hz1,hl,hst]

theorem copyI_ex (w:World) (base g n:Nat) (ys:List Value) (hown:w.ownsRow base 134 2 (.slice (some ⟨g,0,none⟩) n n) n ys) (sa:Option Addr) (zs:List ItemD) (sc:Nat) (hz:zs.length=n) (hr:ItemRow w sa zs) (hN:Nice sa n sc) :
  ∃ w',(∀ ty,(Builtin.copy_ #[29,29] ty #[.slice (some ⟨g,0,none⟩) n n,.slice sa n sc]).run Tryz.prog w=.ok (goInt n) w')∧w'.ownsRow base 134 2 (.slice (some ⟨g,0,none⟩) n n) n (itemCells zs)∧Below base w w' := by
 have hlen:=itemCells_length zs
 rcases hN with ⟨ad,rfl⟩ | ⟨rfl,hn,rfl⟩
 ·rcases hown.2 with ⟨hv,_⟩ | ⟨g',cap',cur,hv,hb,hh,h1,h2,h3,h4⟩
  ·simp at hv
  ·simp only [Value.slice.injEq,Option.some.injEq,Addr.mk.injEq,and_true,true_and] at hv
   obtain ⟨rfl,rfl⟩:=hv
   refine ⟨_,fun ty=>run_copyI w ty g n cur ad sc zs hz hh h3 hr,⟨by omega,Or.inr ⟨g,n,(itemCells zs).toArray,rfl,hb,setRow_heap w g _ _ _ _ hh,h1,h2,by simp;omega,?_⟩⟩,?_⟩
   ·simp only [List.toList_toArray]
    rw [List.take_of_length_le (by omega)]
   ·exact (Below.refl _ _).trans ⟨rfl,rfl,rfl,by simp [World.setRow],fun k hk=>setRow_other w g k _ (by omega)⟩
 ·subst hn
  have hz' : zs=[]:=List.eq_nil_of_length_eq_zero hz
  subst hz'
  obtain ⟨i0,hi,hz0,hz1,hz2⟩:=info_parts infoItem
  have hys:ys=[]:=List.eq_nil_of_length_eq_zero (by have:=hown.1;omega)
  subst hys
  refine ⟨w,fun ty=>?_,hown,Below.refl _ _⟩
  simp [Builtin.copy_,run_underlying Tryz.underlying29,Builtin.lenOf,Builtin.firstCells,sizeOf,typeInfo,hi,storeCells]

end
set_option maxRecDepth 100000 in
set_option maxHeartbeats 1000000 in
theorem copyItems_any (a:Option Addr) (cap:Nat) (zs:List ItemD) (w:World) (h:ItemRow w a zs) (hN:Nice a zs.length cap) (hl:zs.length≤1048576) :
  Calls Tryz.prog 83 #[.slice a zs.length cap] w fun e w' => ∃ a' c',e=.returned (.slice a' zs.length c')∧w'.ownsRow w.heap.size 134 2 (.slice a' zs.length c') zs.length (itemCells zs)∧Below w.heap.size w w' := by
 obtain ⟨i0,hi,hz0,hz1,hz2⟩:=info_parts infoItem
 have hbytes:i0.bytes * zs.length≤281474976710656:=by rw [hz2];omega
 have hmax:zs.length≤maxLen:=by unfold maxLen;omega
 go_enter Tryz.func83,Tryz.ntmps83
 go_wp2_with (at_make;refine wpList_make_full _ rfl _ _ 29 rfl w.heap.size 134 i0 (.agg #[.int .i64 0,.int .i64 0]) 2 Tryz.underlying29 hi hz0 hz1 _ _ _ _ zs.length rfl rfl rfl rfl hbytes hmax (Nat.le_refl _) ?_)
 intro w1 hown hgrow
 have hb1:Below w.heap.size w w1:=(Below.refl _ _).grown hgrow (Nat.le_refl _) (by simp)
 generalize (madeCells #[Value.int .i64 0,.int .i64 0] (zs.length * 2)).toList=ys at hown
 clear hgrow
 obtain ⟨w2,hcp,hown2,hb2⟩:=copyI_ex w1 w.heap.size w.heap.size zs.length ys hown a zs cap rfl (h.below hb1) hN
 go_wp2
 go_ret
 exact ⟨_,_,rfl,hown2,hb1.trans hb2⟩

end Go.Proofs.YtfdkcbafpiojkaaGreatDoor
namespace Go.Proofs.YtfdkcbafpiojkaaGreatDoor
open Go.RowKit Go.Shelf
set_option maxRecDepth 100000
attribute [local go_sem] Oper.semAt_some
/-- What is handed on: a place, and the list there with where it lies. -/
def UX (w:World):Type:={ x:Nat × USP // UndoRow w x.2.a x.2.d∧x.2.d.length≤1048576 }

def UX.encs {w:World} (x:UX w):Array Value:=#[.int .i64 (x.1.1:Int),.slice x.1.2.a x.1.2.d.length x.1.2.cap]

theorem keepB_t {n₀ ba:Nat} {A B C:World} (h:KeepB n₀ ba A B) (h' : KeepB n₀ ba B C):KeepB n₀ ba A C:=fun k hk hn=>(h' k hk hn).trans (h k hk hn)

theorem keepB_b {n₀ ba:Nat} {w:World} (hn:n₀≤w.heap.size) (W:World) (l:Nat) (o o' : Obj) (hl:w.heap.size≤l) (h1:W.heap[l]? = some o) (h2:o.isCells=false) (h3:o.isWalk=false):KeepB n₀ ba W (W.putObj l o'):=
 fun k hk _=>(Below.block (belowK_b (w:=w) (Nat.le_refl _) W l o o' hl h1 h2 h3) k (by omega))

section
variable {w0:World} (Pj:Nat→USP) (hP:∀ j,UndoRow w0 (Pj j).a (Pj j).d∧(Pj j).d.length≤1048576)
def mkX (j:Nat):UX w0:=⟨(j,Pj j),hP j⟩

def allX (len:Nat):List (UX w0):=(List.range len).map (mkX Pj hP)

theorem allX_drop {len m:Nat} (h:m < len):(allX Pj hP len).drop m=mkX Pj hP m :: (allX Pj hP len).drop (m + 1):=by
 have hl:m < (allX Pj hP len).length:=by simpa [allX] using h
 rw [List.drop_eq_getElem_cons hl]
 congr 1
 simp [allX]

theorem allX_length (len:Nat):(allX Pj hP len).length=len:=by simp [allX]

set_option maxRecDepth 100000 in
set_option maxHeartbeats 2000000 in
theorem back1_in (n:Nat) (hn:1≤n) (l Bs n₀ ba len cap:Nat) (a:Option Addr) (hB1:Bs < n₀) (hB2:Bs≠ba) (hlen:len≤20) (J Jx:List (UX w0)→World→Prop)
  (hY:∀ pre x W,J pre W→pre.length < len→YieldAt Fence.wide (n - 1) Tryz.prog l (UX.encs x) W fun e W' =>
   (e=.returned (.bool true)∧J (pre ++ [x]) W' ∧ KeepB n₀ ba W W')∨(e=.returned (.bool false)∧Jx (pre ++ [x]) W'))
  (W:World) (hBs:W.cell? ⟨Bs,0,none⟩=some (.slice a len cap)) (hc:∀ j,j < len→∃ b off,a=some ⟨b,off,none⟩∧b < n₀∧b≠ba∧W.cell? ⟨b,off + j,none⟩=some (.slice (Pj j).a (Pj j).d.length (Pj j).cap)) (h0:J [] W) :
  CallsIn Fence.wide n Tryz.prog 148 #[.func (.yield l) #[] #[],.pointer (some ⟨Bs,0,none⟩)] W fun e W' => (∃ v,e=.returned v) ∧
   ((∃ ys,ys=(allX Pj hP len).reverse∧J ys W')∨(∃ pre,(∃ m,pre=((allX Pj hP len).drop m).reverse)∧Jx pre W')):=by
 refine callsIn_of_wp Tryz.func148 rfl trivial ?_ rfl
 simp only [Tryz.ntmps148,List.size_toArray,List.length_cons,List.length_nil,Nat.reduceAdd,Nat.reduceSub,Array.replicate_succ,Array.replicate_zero,List.push_toArray,List.append_toArray,List.nil_append,List.cons_append]
 gi_wp2
 gi_loopw [3] (fun i wr=>∃ m:Nat,m≤len∧i=.int .i64 ((m:Int) - 1)∧J (((allX Pj hP len).drop m).reverse) wr∧KeepB n₀ ba W wr) (fun i _=>(intOf i + 1).toNat)
 case atStart=>exact ⟨len,Nat.le_refl _,rfl,by rw [List.drop_of_length_le (by rw [allX_length];exact Nat.le_refl _)];exact h0,fun _ _ _=>rfl⟩
 case round=>
  obtain ⟨m,hm,rfl,hJs,hK⟩:=hrel
  cases m with
  | zero=>
   gi_wp2
   go_end0
   exact ⟨⟨_,rfl⟩,.inl ⟨_,rfl,by simpa using hJs⟩⟩
  | succ m=>
   obtain ⟨b,off,rfl,hb1,hb2,hcm⟩:=hc m (by omega)
   have hBs' := hK.cell hB1 hB2 hBs
   have hcm' := hK.cell hb1 hb2 hcm
   have hx1:((m + 1:Nat):Int) - 1=(m:Int):=by omega
   rw [hx1]
   obtain ⟨fn,tmps,assign,body,hy,hR⟩:=hY _ (mkX Pj hP m) wr hJs (by rw [List.length_reverse,List.length_drop,allX_length];omega)
   have HD:Hid (((allX Pj hP len).drop m).reverse=((allX Pj hP len).drop (m + 1)).reverse ++ [mkX Pj hP m]):=by
    show _=_
    rw [allX_drop Pj hP (by omega),List.reverse_cons]
   dsimp only [UX.encs,mkX] at hy
   gi_wp2
   refine hR.mono ?_
   rintro e W3 (⟨rfl,hJ3,hk3⟩ | ⟨rfl,hJx3⟩)
   ·gi_wp2
    go_roundw
    case rel=>exact ⟨m,by omega,by first | rfl | go_num,by rw [HD.out];exact hJ3,keepB_t hK hk3⟩
    case measure=>simp [intOf] <;> omega
   ·gi_wp2
    refine bodyPost_ret (results_none rfl _ _ _) rfl ?_
    exact ⟨⟨_,rfl⟩,.inr ⟨_,⟨m,HD.out.symm⟩,hJx3⟩⟩

/-- The function hands back a closure over a box of the list. -/
theorem back_any (a:Option Addr) (len cap:Nat) (w:World) :
  Calls Tryz.prog 84 #[.slice a len cap] w fun e w' => e=.returned (.func (.func 148) #[] #[.pointer (some ⟨w.heap.size,0,none⟩)])∧w' = w.alloc (.cells #[.slice a len cap] 30):=by
 have hmf:∀ (fn:Fn) (first cap:Array Value) (w:World),(Instr.makeFunc fn first cap).run Tryz.prog w=.ok (.func fn first cap) w:=fun _ _ _ _=>rfl
 go_enter Tryz.func84,Tryz.ntmps84
 go_wp2
 go_ret
 exact ⟨rfl,rfl⟩

theorem back_stops (n:Nat) (hn:1≤n) (Bs n₀ ba len cap:Nat) (a:Option Addr) (hB1:Bs < n₀) (hB2:Bs≠ba) (hlen:len≤20) (w:World) (hn₀:n₀≤w.heap.size) (hBs:w.cell? ⟨Bs,0,none⟩=some (.slice a len cap))
  (hc:∀ j,j < len→∃ b off,a=some ⟨b,off,none⟩∧b < n₀∧b≠ba∧w.cell? ⟨b,off + j,none⟩=some (.slice (Pj j).a (Pj j).d.length (Pj j).cap)) :
  SeqStopsK Fence.wide n Tryz.prog 148 #[.pointer (some ⟨Bs,0,none⟩)] (fun x:UX w0=>UX.encs x) (KeepB n₀ ba) (fun ys=>ys=(allX Pj hP len).reverse) (fun pre=>∃ m,pre=((allX Pj hP len).drop m).reverse) len w:=fun l J Jx W hW _ _ hY h0=>by
 have hBs' := (hW.cell (p:=⟨Bs,0,none⟩) (by dsimp only;omega)).trans hBs
 refine back1_in Pj hP n hn l Bs n₀ ba len cap a hB1 hB2 hlen J Jx hY W hBs' (fun j hj=>?_) h0
 obtain ⟨b,off,e,h1,h2,h3⟩:=hc j hj
 exact ⟨b,off,e,h1,h2,(hW.cell (p:=⟨b,off + j,none⟩) (by dsimp only;omega)).trans h3⟩

end
theorem own_turned {w w' : World} {base e s n:Nat} {v:Value} {xs:List Value} {row:Option Nat} (h:w.ownsRow base e s v n xs) (hg:w.grownBy w' row) (hr:∀ r,row=some r→∃ o:Obj,w.heap[r]? = some o∧o.isCells=false):w'.ownsRow base e s v n xs:=by
 refine h.kept hg ?_
 rcases h.2 with ⟨rfl,_⟩ | ⟨g,cap,cur,rfl,_,hh,_⟩
 ·exact Or.inl rfl
 ·right
  intro e
  obtain ⟨o,ho,hc⟩:=hr g e.symm
  rw [hh] at ho
  simp only [Option.some.injEq] at ho
  subst ho
  simp [Obj.isCells] at hc

end Go.Proofs.YtfdkcbafpiojkaaGreatDoor
