/- Texts joined, with what the laws reach alone. -/
import Derived.Test.YtdhdnppbgaikfaaGreatDoorLDAS
set_option linter.unusedVariables false
set_option linter.unusedSimpArgs false
namespace Go.Proofs.YtdhdnppbgaikfaaGreatDoor
open Go.RowKit
open Go.BigFrame
set_option maxRecDepth 100000
set_option maxRecDepth 100000 in
set_option maxHeartbeats 8000000 in
theorem l6Turn_any (B b T:Nat) (q:InstQ) (w:World) (hS:Src B w b T) (hT:T≤700000) (oq:instK.own w q) (nq:(instK.foot q).Nodup) (h0:insF q.e=0) (hbq:b ∉ instK.foot q) :
  Calls Tryz.prog 20 #[.pointer (some ⟨b,0,none⟩),.agg #[.bool q.has,q.vb,q.vr,q.vd]] w fun e w' => ∃ q' : InstQ,e=.returned (.agg #[.bool q'.has,q'.vb,q'.vr,q'.vd])∧insF q'.e=0∧instK.own w' q' ∧ (instK.foot q').Nodup∧(∀ k∈instK.foot q',k∈instK.foot q∨w.heap.size≤k)∧Src B w' b (T + 60)∧w.grownBy w' (some b):=by
 have hlt:=hS.lt
 have hl:q.n≤1048576:=by rw [inst_ne];have:=ins_small h0;omega
 have HLQ:Hid (∀ k∈instK.foot q,k < w.heap.size):=instK.own_lt oq
 have HNQ:Hid (instK.foot q).Nodup:=nq
 have HI0:Hid (insF q.e=0):=h0
 have hr4:q.rounds.length≤4:=by
  have h1:q.e.rounds.length=q.rounds.length:=List.length_map _
  have h2:=(ins_ok h0).2.1.2
  omega
 obtain ⟨has,vb,batch,vr,rounds,vd,dec⟩:=q
 obtain ⟨ba,bk,rfl⟩:∃ a c,vb=.slice a batch.length c:=oq.1.shape
 obtain ⟨va,vk,rfl⟩:∃ a c,vr=.slice a rounds.length c:=oq.2.1.shape
 obtain ⟨da,dk,rfl⟩:∃ a c,vd=.slice a dec.length c:=oq.2.2.shape
 dsimp only at hr4
 have hb0:Below w.heap.size w ((w.alloc (.cells #[.bool has,.slice ba batch.length bk,.slice va rounds.length vk,.slice da dec.length dk] 28)).alloc (.cells #[.bool false,.slice none 0 0,.slice none 0 0,.slice none 0 0] 28)):=by go_grown
 have A0:Blk ((w.alloc (.cells #[.bool has,.slice ba batch.length bk,.slice va rounds.length vk,.slice da dec.length dk] 28)).alloc (.cells #[.bool false,.slice none 0 0,.slice none 0 0,.slice none 0 0] 28)) w.heap.size 28 #[.bool has,.slice ba batch.length bk,.slice va rounds.length vk,.slice da dec.length dk]:=(Blk.new w 28 #[.bool has,.slice ba batch.length bk,.slice va rounds.length vk,.slice da dec.length dk]).below (by go_grown)
 have R0:=Blk.new (w.alloc (.cells #[.bool has,.slice ba batch.length bk,.slice va rounds.length vk,.slice da dec.length dk] 28)) 28 #[.bool false,.slice none 0 0,.slice none 0 0,.slice none 0 0]
 simp only [World.size_alloc] at R0
 have hg:Out [b] w ((w.alloc (.cells #[.bool has,.slice ba batch.length bk,.slice va rounds.length vk,.slice da dec.length dk] 28)).alloc (.cells #[.bool false,.slice none 0 0,.slice none 0 0,.slice none 0 0] 28)):=Out.of_below hb0
 replace hS:=hS.below hb0
 replace oq:=instK.own_out (F:=[]) oq (Out.of_below hb0) (fun _ _=>by simp)
 clear hb0
 go_enter Tryz.func20,Tryz.ntmps20
 go_wp2_with fail
 generalize ((w.alloc (.cells #[.bool has,.slice ba batch.length bk,.slice va rounds.length vk,.slice da dec.length dk] 28)).alloc (.cells #[.bool false,.slice none 0 0,.slice none 0 0,.slice none 0 0] 28))=X0 at *
 refine (next_any B b T 3 X0 hS (by omega) (by omega)).mono ?_
 rintro e x1 ⟨r1,rfl,hr1,hSn,hgn⟩
 replace hS:=hSn
 have hU:Out [b] _ _:=Out.of_grown hgn
 clear hgn hSn
 replace A0:=A0.outs hU (fun hk=>by simp only [List.mem_singleton] at hk;omega)
 replace R0:=R0.outs hU (fun hk=>by simp only [List.mem_singleton] at hk;omega)
 replace oq:=instK.own_out oq hU (fun k hk hk' => by simp only [List.mem_singleton] at hk';subst hk';exact hbq hk)
 replace hg:=hg.trans hU
 clear hU
 have p2:=A0.cell 2 _ rfl
 go_wp2_with fail
 clear p2
 refine (next_any B b (T + 1) (rounds.length:Int) x1 hS (by omega) (by omega)).mono ?_
 rintro e x2 ⟨r2,rfl,hr2,hSn,hgn⟩
 replace hS:=hSn
 have hU:Out [b] _ _:=Out.of_grown hgn
 clear hgn hSn
 replace A0:=A0.outs hU (fun hk=>by simp only [List.mem_singleton] at hk;omega)
 replace R0:=R0.outs hU (fun hk=>by simp only [List.mem_singleton] at hk;omega)
 replace oq:=instK.own_out oq hU (fun k hk hk' => by simp only [List.mem_singleton] at hk';subst hk';exact hbq hk)
 replace hg:=hg.trans hU
 clear hU
 have hb4:=R0.lt
 have hbA:Below x2.heap.size x2 (x2.alloc (.cells #[.int .i64 7,.int .i64 3,.int .i64 5,.int .i64 6] 2)):=by go_grown
 have hpk:=World.ownsRow_lit (e:=2) (size:=1) x2 #[.int .i64 7,.int .i64 3,.int .i64 5,.int .i64 6] 4 (Nat.le_refl _) (by decide) rfl
 replace hS:=hS.below hbA
 have hU:Out [b] _ _:=Out.of_below hbA
 clear hbA
 replace A0:=A0.outs hU (fun hk=>by simp only [List.mem_singleton] at hk;omega)
 replace R0:=R0.outs hU (fun hk=>by simp only [List.mem_singleton] at hk;omega)
 replace oq:=instK.own_out oq hU (fun k hk hk' => by simp only [List.mem_singleton] at hk';subst hk';exact hbq hk)
 replace hg:=hg.trans hU
 clear hU
 go_wp2_with fail
 generalize x2.alloc (.cells #[.int .i64 7,.int .i64 3,.int .i64 5,.int .i64 6] 2)=X2 at *
 refine (pick_any B b (T + 2) x2.heap.size _ [7,3,5,6] X2 hS (by omega) hpk (by simp) (by simp) (by simp [Value.ownBlock];omega)).mono ?_
 rintro e x3 ⟨mk,rfl,hmk,hSn,hgn⟩
 replace hS:=hSn
 have hU:Out [b] _ _:=Out.of_grown hgn
 clear hgn hSn
 replace A0:=A0.outs hU (fun hk=>by simp only [List.mem_singleton] at hk;omega)
 replace R0:=R0.outs hU (fun hk=>by simp only [List.mem_singleton] at hk;omega)
 replace oq:=instK.own_out oq hU (fun k hk hk' => by simp only [List.mem_singleton] at hk';subst hk';exact hbq hk)
 replace hg:=hg.trans hU
 clear hU
 clear hpk hmk
 go_wp2_with fail
 refine (next_any B b (T + 3) 2 x3 hS (by omega) (by omega)).mono ?_
 rintro e x4 ⟨vl,rfl,hvl,hSn,hgn⟩
 replace hS:=hSn
 have hU:Out [b] _ _:=Out.of_grown hgn
 clear hgn hSn
 replace A0:=A0.outs hU (fun hk=>by simp only [List.mem_singleton] at hk;omega)
 replace R0:=R0.outs hU (fun hk=>by simp only [List.mem_singleton] at hk;omega)
 replace oq:=instK.own_out oq hU (fun k hk hk' => by simp only [List.mem_singleton] at hk';subst hk';exact hbq hk)
 replace hg:=hg.trans hU
 clear hU
 go_wp2_with fail
 refine (l6First_any w.heap.size 0 (⟨has,.slice ba batch.length bk,batch,.slice va rounds.length vk,rounds,.slice da dec.length dk,dec⟩:InstQ) r1 vl x4 (⟨⟨A0.cell 0 _ rfl,A0.cell 1 _ rfl,A0.cell 2 _ rfl,A0.cell 3 _ rfl⟩,instK.own_rd oq⟩:InstP _ w.heap.size 0 (⟨has,.slice ba batch.length bk,batch,.slice va rounds.length vk,rounds,.slice da dec.length dk,dec⟩:InstQ)) A0.lt hl h0).mono ?_
 rintro e x5 ⟨q2,rfl,e2,o2,n2,g2,hb5⟩
 have hx4:=R0.lt
 replace hS:=hS.below hb5
 have hU:Out [b] _ _:=Out.of_below hb5
 clear hb5
 replace A0:=A0.outs hU (fun hk=>by simp only [List.mem_singleton] at hk;omega)
 replace R0:=R0.outs hU (fun hk=>by simp only [List.mem_singleton] at hk;omega)
 replace oq:=instK.own_out oq hU (fun k hk hk' => by simp only [List.mem_singleton] at hk';subst hk';exact hbq hk)
 replace hg:=hg.trans hU
 clear hU
 have HD2:Hid (frC (InstQ.e (⟨has,.slice ba batch.length bk,batch,.slice va rounds.length vk,rounds,.slice da dec.length dk,dec⟩:InstQ)) r1 vl=0→insF q2.e=0):=fun h9=>by rw [e2];exact ins_first h9
 have L2' : ∀ k∈instK.foot q2,w.heap.size + 1 < k:=fun k hk=>by have:=g2 k hk;omega
 clear e2 g2
 generalize frC (InstQ.e (⟨has,.slice ba batch.length bk,batch,.slice va rounds.length vk,rounds,.slice da dec.length dk,dec⟩:InstQ)) r1 vl=D at *
 obtain ⟨ch,cb,cbs,cr,crs,cd,cds⟩:=q2
 obtain ⟨c1,c4,rfl⟩:∃ a c,cb=.slice a cbs.length c:=o2.1.shape
 obtain ⟨c2,c5,rfl⟩:∃ a c,cr=.slice a crs.length c:=o2.2.1.shape
 obtain ⟨c3,c6,rfl⟩:∃ a c,cd=.slice a cds.length c:=o2.2.2.shape
 have L2:=L2'
 have L2m:=instK.own_lt o2
 have hg8l:w.heap.size + 1 < x5.heap.size:=R0.lt
 have G8:=Blk.new x5 39 #[.int .i64 D,.int .i64 0,.bool false,.bool false,.int .i64 0,.bool ch,.slice c1 cbs.length c4,.slice c2 crs.length c5,.slice c3 cds.length c6]
 have hbA:Below x5.heap.size x5 (x5.alloc (.cells #[.int .i64 D,.int .i64 0,.bool false,.bool false,.int .i64 0,.bool ch,.slice c1 cbs.length c4,.slice c2 crs.length c5,.slice c3 cds.length c6] 39)):=by go_grown
 replace hS:=hS.below hbA
 have hU:Out [b] _ _:=Out.of_below hbA
 clear hbA
 replace A0:=A0.outs hU (fun hk=>by simp only [List.mem_singleton] at hk;omega)
 replace R0:=R0.outs hU (fun hk=>by simp only [List.mem_singleton] at hk;omega)
 replace oq:=instK.own_out oq hU (fun k hk hk' => by simp only [List.mem_singleton] at hk';subst hk';exact hbq hk)
 replace o2:=instK.own_out o2 hU (fun k hk hk' => by simp only [List.mem_singleton] at hk';have:=L2 k hk;omega)
 replace hg:=hg.trans hU
 clear hU
 go_wp2_with fail
 generalize hg8:x5.heap.size=g8 at *
 generalize x5.alloc (.cells #[.int .i64 D,.int .i64 0,.bool false,.bool false,.int .i64 0,.bool ch,.slice c1 cbs.length c4,.slice c2 crs.length c5,.slice c3 cds.length c6] 39)=X5 at *
 clear hg8
 refine (next_any B b (T + 4) 7 X5 hS (by omega) (by omega)).mono ?_
 rintro e X ⟨sw,rfl,hsw,hSn,hgn⟩
 replace hS:=hSn
 have hU:Out [b] _ _:=Out.of_grown hgn
 clear hgn hSn
 replace A0:=A0.outs hU (fun hk=>by simp only [List.mem_singleton] at hk;omega)
 replace R0:=R0.outs hU (fun hk=>by simp only [List.mem_singleton] at hk;omega)
 replace G8:=G8.outs hU (fun hk=>by simp only [List.mem_singleton] at hk;omega)
 replace oq:=instK.own_out oq hU (fun k hk hk' => by simp only [List.mem_singleton] at hk';subst hk';exact hbq hk)
 replace o2:=instK.own_out o2 hU (fun k hk hk' => by simp only [List.mem_singleton] at hk';have:=L2 k hk;omega)
 replace hg:=hg.trans hU
 clear hU
 obtain ⟨sn,rfl⟩:=Int.eq_ofNat_of_zero_le hsw.1
 have hsn:sn < 7:=by have:=hsw.2.1 (by omega);omega
 clear hsw L2m L2' hr2 hr1 hvl
 have h7:sn=0∨sn=1∨sn=2∨sn=3∨sn=4∨sn=5∨sn=6:=by omega
 clear hsn
 rcases h7 with rfl | rfl | rfl | rfl | rfl | rfl | rfl
 ·skip
  go_wp2_with fail
  refine (l6DrawBatch_any B b (T + 5) X hS (by omega)).mono ?_
  rintro e x7 ⟨vn,bt,rfl,hbl,hba,oT,nT,gT,hSn,hgn⟩
  replace hS:=hSn
  have hU:Out [b] _ _:=Out.of_grown hgn
  clear hgn hSn
  replace A0:=A0.outs hU (fun hk=>by simp only [List.mem_singleton] at hk;omega)
  replace R0:=R0.outs hU (fun hk=>by simp only [List.mem_singleton] at hk;omega)
  replace G8:=G8.outs hU (fun hk=>by simp only [List.mem_singleton] at hk;omega)
  replace oq:=instK.own_out oq hU (fun k hk hk' => by simp only [List.mem_singleton] at hk';subst hk';exact hbq hk)
  replace o2:=instK.own_out o2 hU (fun k hk hk' => by simp only [List.mem_singleton] at hk';have:=L2 k hk;omega)
  replace hg:=hg.trans hU
  clear hU
  obtain ⟨na,nk,rfl⟩:=oT.shape
  have hbt:bt.length + nmL TxnQ.n bt≤1048576:=by
   have:=nmL_bound TxnQ.n 3 bt (fun p hp=>hba p hp)
   omega
  go_wp2_with fail
  refine (l6Set_any w.heap.size 0 (⟨has,.slice ba batch.length bk,batch,.slice va rounds.length vk,rounds,.slice da dec.length dk,dec⟩:InstQ) _ bt x7 (⟨⟨A0.cell 0 _ rfl,A0.cell 1 _ rfl,A0.cell 2 _ rfl,A0.cell 3 _ rfl⟩,instK.own_rd oq⟩:InstP _ w.heap.size 0 (⟨has,.slice ba batch.length bk,batch,.slice va rounds.length vk,rounds,.slice da dec.length dk,dec⟩:InstQ)) A0.lt hl h0 oT.at hbt).mono ?_
  rintro e x9 ⟨q9,rfl,e9,o9,n9,g9,hb9⟩
  clear o2 n2 L2 HD2
  have hs9:=hb9.size
  have h8lt:=G8.lt
  replace hS:=hS.below hb9
  have hU:Out [b] _ _:=Out.of_below hb9
  clear hb9
  replace A0:=A0.outs hU (fun hk=>by simp only [List.mem_singleton] at hk;omega)
  replace R0:=R0.outs hU (fun hk=>by simp only [List.mem_singleton] at hk;omega)
  replace G8:=G8.outs hU (fun hk=>by simp only [List.mem_singleton] at hk;omega)
  replace oq:=instK.own_out oq hU (fun k hk hk' => by simp only [List.mem_singleton] at hk';subst hk';exact hbq hk)
  replace hg:=hg.trans hU
  clear hU
  have HD2:Hid (sbC (InstQ.e (⟨has,.slice ba batch.length bk,batch,.slice va rounds.length vk,rounds,.slice da dec.length dk,dec⟩:InstQ)) (bt.map TxnQ.e)=0→insF q9.e=0):=fun h9=>by rw [e9];exact ins_of (rgt_set h9)
  have n2:=n9
  have L2:∀ k∈instK.foot q9,g8 < k:=fun k hk=>by have:=g9 k hk;omega
  have o2:=o9
  clear n9 g9 o9 e9
  generalize sbC (InstQ.e (⟨has,.slice ba batch.length bk,batch,.slice va rounds.length vk,rounds,.slice da dec.length dk,dec⟩:InstQ)) (bt.map TxnQ.e)=E0 at *
  obtain ⟨eh,eb,ebs,er,ers,ed,eds⟩:=q9
  obtain ⟨e1,e4,rfl⟩:∃ a c,eb=.slice a ebs.length c:=o2.1.shape
  obtain ⟨e2,e5,rfl⟩:∃ a c,er=.slice a ers.length c:=o2.2.1.shape
  obtain ⟨e3,e6,rfl⟩:∃ a c,ed=.slice a eds.length c:=o2.2.2.shape
  have Gr:=G8.row #[.int .i64 E0,.int .i64 0,.bool false,.bool false,.int .i64 0,.bool eh,.slice e1 ebs.length e4,.slice e2 ers.length e5,.slice e3 eds.length e6]
  have hsr8:(Tryz.prog.info? 39).map (·.size)=some (#[.int .i64 E0,.int .i64 0,.bool false,.bool false,.int .i64 0,.bool eh,.slice e1 ebs.length e4,.slice e2 ers.length e5,.slice e3 eds.length e6]:Array Value).size:=sz_res
  have hU8:=out_row x9 g8 #[.int .i64 E0,.int .i64 0,.bool false,.bool false,.int .i64 0,.bool eh,.slice e1 ebs.length e4,.slice e2 ers.length e5,.slice e3 eds.length e6]
  have hS9:Src B (x9.setRow g8 #[.int .i64 E0,.int .i64 0,.bool false,.bool false,.int .i64 0,.bool eh,.slice e1 ebs.length e4,.slice e2 ers.length e5,.slice e3 eds.length e6]) b (T + 5 + 50):=hS.out hU8 (by simp only [List.mem_singleton];omega) (fun k hk=>by simp only [List.mem_singleton] at hk;omega)
  have A9:=A0.outs hU8 (fun hk=>by simp only [List.mem_singleton] at hk;omega)
  have R9:=R0.outs hU8 (fun hk=>by simp only [List.mem_singleton] at hk;omega)
  have oq9:=instK.own_out oq hU8 (fun k hk hk' => by simp only [List.mem_singleton] at hk';have:=HLQ.out k hk;omega)
  have o29:=instK.own_out o2 hU8 (fun k hk hk' => by simp only [List.mem_singleton] at hk';have:=L2 k hk;omega)
  have hg9:Out [b] w (x9.setRow g8 #[.int .i64 E0,.int .i64 0,.bool false,.bool false,.int .i64 0,.bool eh,.slice e1 ebs.length e4,.slice e2 ers.length e5,.slice e3 eds.length e6]):=⟨hU8.os.trans hg.os,hU8.tape.trans hg.tape,hU8.output.trans hg.output,Nat.le_trans hg.size hU8.size,fun k hk hne=>(hU8.block k (Nat.lt_of_lt_of_le hk hg.size) (by simp only [List.mem_singleton];omega)).trans (hg.block k hk hne)⟩
  clear oq o2 hg A0 R0 hU8 hS
  have oq:=oq9
  have o2:=o29
  have hg:=hg9
  have A0:=A9
  have R0:=R9
  have hS:=hS9
  have G9:=Gr
  have g0:=G9.cell 0 _ rfl
  obtain ⟨p0,p1,p2,p3⟩:=A0.cel4
  have p5:=G9.cell 5 _ rfl
  have p6:=G9.cell 6 _ rfl
  have p7:=G9.cell 7 _ rfl
  have p8:=G9.cell 8 _ rfl
  clear oq9 o29 hg9 A9 R9 Gr hS9
  by_cases hD:E0=0
  case neg=>
   have hD' : (E0 != 0)=true:=by simpa using hD
   have Rr:=R0.row #[.bool has,.slice ba batch.length bk,.slice va rounds.length vk,.slice da dec.length dk]
   have hsr:(Tryz.prog.info? 28).map (·.size)=some (#[.bool has,.slice ba batch.length bk,.slice va rounds.length vk,.slice da dec.length dk]:Array Value).size:=sz_inst
   have hUr:=out_row (x9.setRow g8 #[.int .i64 E0,.int .i64 0,.bool false,.bool false,.int .i64 0,.bool eh,.slice e1 ebs.length e4,.slice e2 ers.length e5,.slice e3 eds.length e6]) (w.heap.size + 1) #[.bool has,.slice ba batch.length bk,.slice va rounds.length vk,.slice da dec.length dk]
   have HZ:Hid (instK.own ((x9.setRow g8 #[.int .i64 E0,.int .i64 0,.bool false,.bool false,.int .i64 0,.bool eh,.slice e1 ebs.length e4,.slice e2 ers.length e5,.slice e3 eds.length e6]).setRow (w.heap.size + 1) #[.bool has,.slice ba batch.length bk,.slice va rounds.length vk,.slice da dec.length dk]) (⟨has,.slice ba batch.length bk,batch,.slice va rounds.length vk,rounds,.slice da dec.length dk,dec⟩:InstQ)∧Src B ((x9.setRow g8 #[.int .i64 E0,.int .i64 0,.bool false,.bool false,.int .i64 0,.bool eh,.slice e1 ebs.length e4,.slice e2 ers.length e5,.slice e3 eds.length e6]).setRow (w.heap.size + 1) #[.bool has,.slice ba batch.length bk,.slice va rounds.length vk,.slice da dec.length dk]) b (T + 60)∧w.grownBy ((x9.setRow g8 #[.int .i64 E0,.int .i64 0,.bool false,.bool false,.int .i64 0,.bool eh,.slice e1 ebs.length e4,.slice e2 ers.length e5,.slice e3 eds.length e6]).setRow (w.heap.size + 1) #[.bool has,.slice ba batch.length bk,.slice va rounds.length vk,.slice da dec.length dk]) (some b)):=by
    refine ⟨instK.own_out oq hUr (fun k hk hk' => by simp only [List.mem_singleton] at hk';have:=HLQ.out k hk;omega),?_,?_⟩
    ·exact (hS.out hUr (by simp only [List.mem_singleton];omega) (fun k hk=>by simp only [List.mem_singleton] at hk;omega)).mono (by omega)
    ·exact grown_out (wr:=x9.setRow g8 #[.int .i64 E0,.int .i64 0,.bool false,.bool false,.int .i64 0,.bool eh,.slice e1 ebs.length e4,.slice e2 ers.length e5,.slice e3 eds.length e6]) ⟨hg.os,hg.tape,hg.output,hg.size,fun k hk hne=>hg.block k hk (by simp only [List.mem_singleton];intro e;exact hne (by rw [e]))⟩ hUr (fun k hk=>by simp only [List.mem_singleton] at hk;omega)
   have HI:Hid (insF (InstQ.e (⟨has,.slice ba batch.length bk,batch,.slice va rounds.length vk,rounds,.slice da dec.length dk,dec⟩:InstQ))=0∧(instK.foot (⟨has,.slice ba batch.length bk,batch,.slice va rounds.length vk,rounds,.slice da dec.length dk,dec⟩:InstQ)).Nodup∧∀ k∈instK.foot (⟨has,.slice ba batch.length bk,batch,.slice va rounds.length vk,rounds,.slice da dec.length dk,dec⟩:InstQ),k∈instK.foot (⟨has,.slice ba batch.length bk,batch,.slice va rounds.length vk,rounds,.slice da dec.length dk,dec⟩:InstQ)∨w.heap.size≤k):=⟨HI0.out,HNQ.out,fun k hk=>Or.inl hk⟩
   clear oq o2 hS hg hUr
   go_wp2_with (first | (refine st_row (by kernel_rfl) 39 _ _ rfl _ #[.int .i64 E0,.int .i64 0,.bool false,.bool false,.int .i64 0,.bool eh,.slice e1 ebs.length e4,.slice e2 ers.length e5,.slice e3 eds.length e6] rfl rfl 39 _ G8 hsr8 rfl (by simp [Value.oneCell']) ?_) | (refine st_row (by kernel_rfl) 28 _ _ rfl _ #[.bool has,.slice ba batch.length bk,.slice va rounds.length vk,.slice da dec.length dk] rfl rfl 28 _ R0 hsr rfl (by simp [Value.oneCell']) ?_))
   obtain ⟨q0,q1,q2,q3⟩:=Rr.cel4
   exact bodyPost_ret (v:=.agg #[.bool has,.slice ba batch.length bk,.slice va rounds.length vk,.slice da dec.length dk]) (by simp [results,Tryz.results20,go_sem,q0,q1,q2,q3]) rfl ⟨(⟨has,.slice ba batch.length bk,batch,.slice va rounds.length vk,rounds,.slice da dec.length dk,dec⟩:InstQ),rfl,HI.out.1,HZ.out.1,HI.out.2.1,HI.out.2.2,HZ.out.2.1,HZ.out.2.2⟩

  case pos=>
   have HDD:Hid (insF (InstQ.e (⟨eh,.slice e1 ebs.length e4,ebs,.slice e2 ers.length e5,ers,.slice e3 eds.length e6,eds⟩:InstQ))=0):=HD2.out hD
   subst hD
   have Rr:=R0.row #[.bool eh,.slice e1 ebs.length e4,.slice e2 ers.length e5,.slice e3 eds.length e6]
   have hsr:(Tryz.prog.info? 28).map (·.size)=some (#[.bool eh,.slice e1 ebs.length e4,.slice e2 ers.length e5,.slice e3 eds.length e6]:Array Value).size:=sz_inst
   have hUr:=out_row (x9.setRow g8 #[.int .i64 0,.int .i64 0,.bool false,.bool false,.int .i64 0,.bool eh,.slice e1 ebs.length e4,.slice e2 ers.length e5,.slice e3 eds.length e6]) (w.heap.size + 1) #[.bool eh,.slice e1 ebs.length e4,.slice e2 ers.length e5,.slice e3 eds.length e6]
   have HZ:Hid (instK.own ((x9.setRow g8 #[.int .i64 0,.int .i64 0,.bool false,.bool false,.int .i64 0,.bool eh,.slice e1 ebs.length e4,.slice e2 ers.length e5,.slice e3 eds.length e6]).setRow (w.heap.size + 1) #[.bool eh,.slice e1 ebs.length e4,.slice e2 ers.length e5,.slice e3 eds.length e6]) (⟨eh,.slice e1 ebs.length e4,ebs,.slice e2 ers.length e5,ers,.slice e3 eds.length e6,eds⟩:InstQ)∧Src B ((x9.setRow g8 #[.int .i64 0,.int .i64 0,.bool false,.bool false,.int .i64 0,.bool eh,.slice e1 ebs.length e4,.slice e2 ers.length e5,.slice e3 eds.length e6]).setRow (w.heap.size + 1) #[.bool eh,.slice e1 ebs.length e4,.slice e2 ers.length e5,.slice e3 eds.length e6]) b (T + 60)∧w.grownBy ((x9.setRow g8 #[.int .i64 0,.int .i64 0,.bool false,.bool false,.int .i64 0,.bool eh,.slice e1 ebs.length e4,.slice e2 ers.length e5,.slice e3 eds.length e6]).setRow (w.heap.size + 1) #[.bool eh,.slice e1 ebs.length e4,.slice e2 ers.length e5,.slice e3 eds.length e6]) (some b)):=by
    refine ⟨instK.own_out o2 hUr (fun k hk hk' => by simp only [List.mem_singleton] at hk';have:=L2 k hk;omega),?_,?_⟩
    ·exact (hS.out hUr (by simp only [List.mem_singleton];omega) (fun k hk=>by simp only [List.mem_singleton] at hk;omega)).mono (by omega)
    ·exact grown_out (wr:=x9.setRow g8 #[.int .i64 0,.int .i64 0,.bool false,.bool false,.int .i64 0,.bool eh,.slice e1 ebs.length e4,.slice e2 ers.length e5,.slice e3 eds.length e6]) ⟨hg.os,hg.tape,hg.output,hg.size,fun k hk hne=>hg.block k hk (by simp only [List.mem_singleton];intro e;exact hne (by rw [e]))⟩ hUr (fun k hk=>by simp only [List.mem_singleton] at hk;omega)
   have HI:Hid (insF (InstQ.e (⟨eh,.slice e1 ebs.length e4,ebs,.slice e2 ers.length e5,ers,.slice e3 eds.length e6,eds⟩:InstQ))=0∧(instK.foot (⟨eh,.slice e1 ebs.length e4,ebs,.slice e2 ers.length e5,ers,.slice e3 eds.length e6,eds⟩:InstQ)).Nodup∧∀ k∈instK.foot (⟨eh,.slice e1 ebs.length e4,ebs,.slice e2 ers.length e5,ers,.slice e3 eds.length e6,eds⟩:InstQ),k∈instK.foot (⟨has,.slice ba batch.length bk,batch,.slice va rounds.length vk,rounds,.slice da dec.length dk,dec⟩:InstQ)∨w.heap.size≤k):=⟨HDD.out,n2,fun k hk=>Or.inr (by have:=L2 k hk;omega)⟩
   clear oq o2 hS hg hUr
   go_wp2_with (first | (refine st_row (by kernel_rfl) 39 _ _ rfl _ #[.int .i64 0,.int .i64 0,.bool false,.bool false,.int .i64 0,.bool eh,.slice e1 ebs.length e4,.slice e2 ers.length e5,.slice e3 eds.length e6] rfl rfl 39 _ G8 hsr8 rfl (by simp [Value.oneCell']) ?_) | (refine st_row (by kernel_rfl) 28 _ _ rfl _ #[.bool eh,.slice e1 ebs.length e4,.slice e2 ers.length e5,.slice e3 eds.length e6] rfl rfl 28 _ R0 hsr rfl (by simp [Value.oneCell']) ?_))
   obtain ⟨q0,q1,q2,q3⟩:=Rr.cel4
   exact bodyPost_ret (v:=.agg #[.bool eh,.slice e1 ebs.length e4,.slice e2 ers.length e5,.slice e3 eds.length e6]) (by simp [results,Tryz.results20,go_sem,q0,q1,q2,q3]) rfl ⟨(⟨eh,.slice e1 ebs.length e4,ebs,.slice e2 ers.length e5,ers,.slice e3 eds.length e6,eds⟩:InstQ),rfl,HI.out.1,HZ.out.1,HI.out.2.1,HI.out.2.2,HZ.out.2.1,HZ.out.2.2⟩
 ·skip
  go_wp2_with fail
  refine (l6Propose_any w.heap.size 0 (⟨has,.slice ba batch.length bk,batch,.slice va rounds.length vk,rounds,.slice da dec.length dk,dec⟩:InstQ) r1 r2 mk X (⟨⟨A0.cell 0 _ rfl,A0.cell 1 _ rfl,A0.cell 2 _ rfl,A0.cell 3 _ rfl⟩,instK.own_rd oq⟩:InstP _ w.heap.size 0 (⟨has,.slice ba batch.length bk,batch,.slice va rounds.length vk,rounds,.slice da dec.length dk,dec⟩:InstQ)) A0.lt hl h0).mono ?_
  rintro e x9 ⟨q9,rfl,e9,o9,n9,g9,hb9⟩
  clear o2 n2 L2 HD2
  have hs9:=hb9.size
  have h8lt:=G8.lt
  replace hS:=hS.below hb9
  have hU:Out [b] _ _:=Out.of_below hb9
  clear hb9
  replace A0:=A0.outs hU (fun hk=>by simp only [List.mem_singleton] at hk;omega)
  replace R0:=R0.outs hU (fun hk=>by simp only [List.mem_singleton] at hk;omega)
  replace G8:=G8.outs hU (fun hk=>by simp only [List.mem_singleton] at hk;omega)
  replace oq:=instK.own_out oq hU (fun k hk hk' => by simp only [List.mem_singleton] at hk';subst hk';exact hbq hk)
  replace hg:=hg.trans hU
  clear hU
  have HD2:Hid (prC (InstQ.e (⟨has,.slice ba batch.length bk,batch,.slice va rounds.length vk,rounds,.slice da dec.length dk,dec⟩:InstQ)) r1 r2 mk=0→insF q9.e=0):=fun h9=>by rw [e9];exact (ins_propose h9).1
  have n2:=n9
  have L2:∀ k∈instK.foot q9,g8 < k:=fun k hk=>by have:=g9 k hk;omega
  have o2:=o9
  clear n9 g9 o9 e9
  generalize prC (InstQ.e (⟨has,.slice ba batch.length bk,batch,.slice va rounds.length vk,rounds,.slice da dec.length dk,dec⟩:InstQ)) r1 r2 mk=E0 at *
  obtain ⟨eh,eb,ebs,er,ers,ed,eds⟩:=q9
  obtain ⟨e1,e4,rfl⟩:∃ a c,eb=.slice a ebs.length c:=o2.1.shape
  obtain ⟨e2,e5,rfl⟩:∃ a c,er=.slice a ers.length c:=o2.2.1.shape
  obtain ⟨e3,e6,rfl⟩:∃ a c,ed=.slice a eds.length c:=o2.2.2.shape
  have Gr:=G8.row #[.int .i64 E0,.int .i64 0,.bool false,.bool false,.int .i64 0,.bool eh,.slice e1 ebs.length e4,.slice e2 ers.length e5,.slice e3 eds.length e6]
  have hsr8:(Tryz.prog.info? 39).map (·.size)=some (#[.int .i64 E0,.int .i64 0,.bool false,.bool false,.int .i64 0,.bool eh,.slice e1 ebs.length e4,.slice e2 ers.length e5,.slice e3 eds.length e6]:Array Value).size:=sz_res
  have hU8:=out_row x9 g8 #[.int .i64 E0,.int .i64 0,.bool false,.bool false,.int .i64 0,.bool eh,.slice e1 ebs.length e4,.slice e2 ers.length e5,.slice e3 eds.length e6]
  have hS9:Src B (x9.setRow g8 #[.int .i64 E0,.int .i64 0,.bool false,.bool false,.int .i64 0,.bool eh,.slice e1 ebs.length e4,.slice e2 ers.length e5,.slice e3 eds.length e6]) b (T + 5):=hS.out hU8 (by simp only [List.mem_singleton];omega) (fun k hk=>by simp only [List.mem_singleton] at hk;omega)
  have A9:=A0.outs hU8 (fun hk=>by simp only [List.mem_singleton] at hk;omega)
  have R9:=R0.outs hU8 (fun hk=>by simp only [List.mem_singleton] at hk;omega)
  have oq9:=instK.own_out oq hU8 (fun k hk hk' => by simp only [List.mem_singleton] at hk';have:=HLQ.out k hk;omega)
  have o29:=instK.own_out o2 hU8 (fun k hk hk' => by simp only [List.mem_singleton] at hk';have:=L2 k hk;omega)
  have hg9:Out [b] w (x9.setRow g8 #[.int .i64 E0,.int .i64 0,.bool false,.bool false,.int .i64 0,.bool eh,.slice e1 ebs.length e4,.slice e2 ers.length e5,.slice e3 eds.length e6]):=⟨hU8.os.trans hg.os,hU8.tape.trans hg.tape,hU8.output.trans hg.output,Nat.le_trans hg.size hU8.size,fun k hk hne=>(hU8.block k (Nat.lt_of_lt_of_le hk hg.size) (by simp only [List.mem_singleton];omega)).trans (hg.block k hk hne)⟩
  clear oq o2 hg A0 R0 hU8 hS
  have oq:=oq9
  have o2:=o29
  have hg:=hg9
  have A0:=A9
  have R0:=R9
  have hS:=hS9
  have G9:=Gr
  have g0:=G9.cell 0 _ rfl
  obtain ⟨p0,p1,p2,p3⟩:=A0.cel4
  have p5:=G9.cell 5 _ rfl
  have p6:=G9.cell 6 _ rfl
  have p7:=G9.cell 7 _ rfl
  have p8:=G9.cell 8 _ rfl
  clear oq9 o29 hg9 A9 R9 Gr hS9
  by_cases hD:E0=0
  case neg=>
   have hD' : (E0 != 0)=true:=by simpa using hD
   have Rr:=R0.row #[.bool has,.slice ba batch.length bk,.slice va rounds.length vk,.slice da dec.length dk]
   have hsr:(Tryz.prog.info? 28).map (·.size)=some (#[.bool has,.slice ba batch.length bk,.slice va rounds.length vk,.slice da dec.length dk]:Array Value).size:=sz_inst
   have hUr:=out_row (x9.setRow g8 #[.int .i64 E0,.int .i64 0,.bool false,.bool false,.int .i64 0,.bool eh,.slice e1 ebs.length e4,.slice e2 ers.length e5,.slice e3 eds.length e6]) (w.heap.size + 1) #[.bool has,.slice ba batch.length bk,.slice va rounds.length vk,.slice da dec.length dk]
   have HZ:Hid (instK.own ((x9.setRow g8 #[.int .i64 E0,.int .i64 0,.bool false,.bool false,.int .i64 0,.bool eh,.slice e1 ebs.length e4,.slice e2 ers.length e5,.slice e3 eds.length e6]).setRow (w.heap.size + 1) #[.bool has,.slice ba batch.length bk,.slice va rounds.length vk,.slice da dec.length dk]) (⟨has,.slice ba batch.length bk,batch,.slice va rounds.length vk,rounds,.slice da dec.length dk,dec⟩:InstQ)∧Src B ((x9.setRow g8 #[.int .i64 E0,.int .i64 0,.bool false,.bool false,.int .i64 0,.bool eh,.slice e1 ebs.length e4,.slice e2 ers.length e5,.slice e3 eds.length e6]).setRow (w.heap.size + 1) #[.bool has,.slice ba batch.length bk,.slice va rounds.length vk,.slice da dec.length dk]) b (T + 60)∧w.grownBy ((x9.setRow g8 #[.int .i64 E0,.int .i64 0,.bool false,.bool false,.int .i64 0,.bool eh,.slice e1 ebs.length e4,.slice e2 ers.length e5,.slice e3 eds.length e6]).setRow (w.heap.size + 1) #[.bool has,.slice ba batch.length bk,.slice va rounds.length vk,.slice da dec.length dk]) (some b)):=by
    refine ⟨instK.own_out oq hUr (fun k hk hk' => by simp only [List.mem_singleton] at hk';have:=HLQ.out k hk;omega),?_,?_⟩
    ·exact (hS.out hUr (by simp only [List.mem_singleton];omega) (fun k hk=>by simp only [List.mem_singleton] at hk;omega)).mono (by omega)
    ·exact grown_out (wr:=x9.setRow g8 #[.int .i64 E0,.int .i64 0,.bool false,.bool false,.int .i64 0,.bool eh,.slice e1 ebs.length e4,.slice e2 ers.length e5,.slice e3 eds.length e6]) ⟨hg.os,hg.tape,hg.output,hg.size,fun k hk hne=>hg.block k hk (by simp only [List.mem_singleton];intro e;exact hne (by rw [e]))⟩ hUr (fun k hk=>by simp only [List.mem_singleton] at hk;omega)
   have HI:Hid (insF (InstQ.e (⟨has,.slice ba batch.length bk,batch,.slice va rounds.length vk,rounds,.slice da dec.length dk,dec⟩:InstQ))=0∧(instK.foot (⟨has,.slice ba batch.length bk,batch,.slice va rounds.length vk,rounds,.slice da dec.length dk,dec⟩:InstQ)).Nodup∧∀ k∈instK.foot (⟨has,.slice ba batch.length bk,batch,.slice va rounds.length vk,rounds,.slice da dec.length dk,dec⟩:InstQ),k∈instK.foot (⟨has,.slice ba batch.length bk,batch,.slice va rounds.length vk,rounds,.slice da dec.length dk,dec⟩:InstQ)∨w.heap.size≤k):=⟨HI0.out,HNQ.out,fun k hk=>Or.inl hk⟩
   clear oq o2 hS hg hUr
   go_wp2_with (first | (refine st_row (by kernel_rfl) 39 _ _ rfl _ #[.int .i64 E0,.int .i64 0,.bool false,.bool false,.int .i64 0,.bool eh,.slice e1 ebs.length e4,.slice e2 ers.length e5,.slice e3 eds.length e6] rfl rfl 39 _ G8 hsr8 rfl (by simp [Value.oneCell']) ?_) | (refine st_row (by kernel_rfl) 28 _ _ rfl _ #[.bool has,.slice ba batch.length bk,.slice va rounds.length vk,.slice da dec.length dk] rfl rfl 28 _ R0 hsr rfl (by simp [Value.oneCell']) ?_))
   obtain ⟨q0,q1,q2,q3⟩:=Rr.cel4
   exact bodyPost_ret (v:=.agg #[.bool has,.slice ba batch.length bk,.slice va rounds.length vk,.slice da dec.length dk]) (by simp [results,Tryz.results20,go_sem,q0,q1,q2,q3]) rfl ⟨(⟨has,.slice ba batch.length bk,batch,.slice va rounds.length vk,rounds,.slice da dec.length dk,dec⟩:InstQ),rfl,HI.out.1,HZ.out.1,HI.out.2.1,HI.out.2.2,HZ.out.2.1,HZ.out.2.2⟩

  case pos=>
   have HDD:Hid (insF (InstQ.e (⟨eh,.slice e1 ebs.length e4,ebs,.slice e2 ers.length e5,ers,.slice e3 eds.length e6,eds⟩:InstQ))=0):=HD2.out hD
   subst hD
   have Rr:=R0.row #[.bool eh,.slice e1 ebs.length e4,.slice e2 ers.length e5,.slice e3 eds.length e6]
   have hsr:(Tryz.prog.info? 28).map (·.size)=some (#[.bool eh,.slice e1 ebs.length e4,.slice e2 ers.length e5,.slice e3 eds.length e6]:Array Value).size:=sz_inst
   have hUr:=out_row (x9.setRow g8 #[.int .i64 0,.int .i64 0,.bool false,.bool false,.int .i64 0,.bool eh,.slice e1 ebs.length e4,.slice e2 ers.length e5,.slice e3 eds.length e6]) (w.heap.size + 1) #[.bool eh,.slice e1 ebs.length e4,.slice e2 ers.length e5,.slice e3 eds.length e6]
   have HZ:Hid (instK.own ((x9.setRow g8 #[.int .i64 0,.int .i64 0,.bool false,.bool false,.int .i64 0,.bool eh,.slice e1 ebs.length e4,.slice e2 ers.length e5,.slice e3 eds.length e6]).setRow (w.heap.size + 1) #[.bool eh,.slice e1 ebs.length e4,.slice e2 ers.length e5,.slice e3 eds.length e6]) (⟨eh,.slice e1 ebs.length e4,ebs,.slice e2 ers.length e5,ers,.slice e3 eds.length e6,eds⟩:InstQ)∧Src B ((x9.setRow g8 #[.int .i64 0,.int .i64 0,.bool false,.bool false,.int .i64 0,.bool eh,.slice e1 ebs.length e4,.slice e2 ers.length e5,.slice e3 eds.length e6]).setRow (w.heap.size + 1) #[.bool eh,.slice e1 ebs.length e4,.slice e2 ers.length e5,.slice e3 eds.length e6]) b (T + 60)∧w.grownBy ((x9.setRow g8 #[.int .i64 0,.int .i64 0,.bool false,.bool false,.int .i64 0,.bool eh,.slice e1 ebs.length e4,.slice e2 ers.length e5,.slice e3 eds.length e6]).setRow (w.heap.size + 1) #[.bool eh,.slice e1 ebs.length e4,.slice e2 ers.length e5,.slice e3 eds.length e6]) (some b)):=by
    refine ⟨instK.own_out o2 hUr (fun k hk hk' => by simp only [List.mem_singleton] at hk';have:=L2 k hk;omega),?_,?_⟩
    ·exact (hS.out hUr (by simp only [List.mem_singleton];omega) (fun k hk=>by simp only [List.mem_singleton] at hk;omega)).mono (by omega)
    ·exact grown_out (wr:=x9.setRow g8 #[.int .i64 0,.int .i64 0,.bool false,.bool false,.int .i64 0,.bool eh,.slice e1 ebs.length e4,.slice e2 ers.length e5,.slice e3 eds.length e6]) ⟨hg.os,hg.tape,hg.output,hg.size,fun k hk hne=>hg.block k hk (by simp only [List.mem_singleton];intro e;exact hne (by rw [e]))⟩ hUr (fun k hk=>by simp only [List.mem_singleton] at hk;omega)
   have HI:Hid (insF (InstQ.e (⟨eh,.slice e1 ebs.length e4,ebs,.slice e2 ers.length e5,ers,.slice e3 eds.length e6,eds⟩:InstQ))=0∧(instK.foot (⟨eh,.slice e1 ebs.length e4,ebs,.slice e2 ers.length e5,ers,.slice e3 eds.length e6,eds⟩:InstQ)).Nodup∧∀ k∈instK.foot (⟨eh,.slice e1 ebs.length e4,ebs,.slice e2 ers.length e5,ers,.slice e3 eds.length e6,eds⟩:InstQ),k∈instK.foot (⟨has,.slice ba batch.length bk,batch,.slice va rounds.length vk,rounds,.slice da dec.length dk,dec⟩:InstQ)∨w.heap.size≤k):=⟨HDD.out,n2,fun k hk=>Or.inr (by have:=L2 k hk;omega)⟩
   clear oq o2 hS hg hUr
   go_wp2_with (first | (refine st_row (by kernel_rfl) 39 _ _ rfl _ #[.int .i64 0,.int .i64 0,.bool false,.bool false,.int .i64 0,.bool eh,.slice e1 ebs.length e4,.slice e2 ers.length e5,.slice e3 eds.length e6] rfl rfl 39 _ G8 hsr8 rfl (by simp [Value.oneCell']) ?_) | (refine st_row (by kernel_rfl) 28 _ _ rfl _ #[.bool eh,.slice e1 ebs.length e4,.slice e2 ers.length e5,.slice e3 eds.length e6] rfl rfl 28 _ R0 hsr rfl (by simp [Value.oneCell']) ?_))
   obtain ⟨q0,q1,q2,q3⟩:=Rr.cel4
   exact bodyPost_ret (v:=.agg #[.bool eh,.slice e1 ebs.length e4,.slice e2 ers.length e5,.slice e3 eds.length e6]) (by simp [results,Tryz.results20,go_sem,q0,q1,q2,q3]) rfl ⟨(⟨eh,.slice e1 ebs.length e4,ebs,.slice e2 ers.length e5,ers,.slice e3 eds.length e6,eds⟩:InstQ),rfl,HI.out.1,HZ.out.1,HI.out.2.1,HI.out.2.2,HZ.out.2.1,HZ.out.2.2⟩
 ·skip
  go_wp2_with fail
  refine (l6Propose_any w.heap.size 0 (⟨has,.slice ba batch.length bk,batch,.slice va rounds.length vk,rounds,.slice da dec.length dk,dec⟩:InstQ) r1 r2 mk X (⟨⟨A0.cell 0 _ rfl,A0.cell 1 _ rfl,A0.cell 2 _ rfl,A0.cell 3 _ rfl⟩,instK.own_rd oq⟩:InstP _ w.heap.size 0 (⟨has,.slice ba batch.length bk,batch,.slice va rounds.length vk,rounds,.slice da dec.length dk,dec⟩:InstQ)) A0.lt hl h0).mono ?_
  rintro e x9 ⟨q9,rfl,e9,o9,n9,g9,hb9⟩
  clear o2 n2 L2 HD2
  have hs9:=hb9.size
  have h8lt:=G8.lt
  replace hS:=hS.below hb9
  have hU:Out [b] _ _:=Out.of_below hb9
  clear hb9
  replace A0:=A0.outs hU (fun hk=>by simp only [List.mem_singleton] at hk;omega)
  replace R0:=R0.outs hU (fun hk=>by simp only [List.mem_singleton] at hk;omega)
  replace G8:=G8.outs hU (fun hk=>by simp only [List.mem_singleton] at hk;omega)
  replace oq:=instK.own_out oq hU (fun k hk hk' => by simp only [List.mem_singleton] at hk';subst hk';exact hbq hk)
  replace hg:=hg.trans hU
  clear hU
  have HD2:Hid (prC (InstQ.e (⟨has,.slice ba batch.length bk,batch,.slice va rounds.length vk,rounds,.slice da dec.length dk,dec⟩:InstQ)) r1 r2 mk=0→insF q9.e=0):=fun h9=>by rw [e9];exact (ins_propose h9).1
  have n2:=n9
  have L2:∀ k∈instK.foot q9,g8 < k:=fun k hk=>by have:=g9 k hk;omega
  have o2:=o9
  clear n9 g9 o9 e9
  generalize prC (InstQ.e (⟨has,.slice ba batch.length bk,batch,.slice va rounds.length vk,rounds,.slice da dec.length dk,dec⟩:InstQ)) r1 r2 mk=E0 at *
  obtain ⟨eh,eb,ebs,er,ers,ed,eds⟩:=q9
  obtain ⟨e1,e4,rfl⟩:∃ a c,eb=.slice a ebs.length c:=o2.1.shape
  obtain ⟨e2,e5,rfl⟩:∃ a c,er=.slice a ers.length c:=o2.2.1.shape
  obtain ⟨e3,e6,rfl⟩:∃ a c,ed=.slice a eds.length c:=o2.2.2.shape
  have Gr:=G8.row #[.int .i64 E0,.int .i64 0,.bool false,.bool false,.int .i64 0,.bool eh,.slice e1 ebs.length e4,.slice e2 ers.length e5,.slice e3 eds.length e6]
  have hsr8:(Tryz.prog.info? 39).map (·.size)=some (#[.int .i64 E0,.int .i64 0,.bool false,.bool false,.int .i64 0,.bool eh,.slice e1 ebs.length e4,.slice e2 ers.length e5,.slice e3 eds.length e6]:Array Value).size:=sz_res
  have hU8:=out_row x9 g8 #[.int .i64 E0,.int .i64 0,.bool false,.bool false,.int .i64 0,.bool eh,.slice e1 ebs.length e4,.slice e2 ers.length e5,.slice e3 eds.length e6]
  have hS9:Src B (x9.setRow g8 #[.int .i64 E0,.int .i64 0,.bool false,.bool false,.int .i64 0,.bool eh,.slice e1 ebs.length e4,.slice e2 ers.length e5,.slice e3 eds.length e6]) b (T + 5):=hS.out hU8 (by simp only [List.mem_singleton];omega) (fun k hk=>by simp only [List.mem_singleton] at hk;omega)
  have A9:=A0.outs hU8 (fun hk=>by simp only [List.mem_singleton] at hk;omega)
  have R9:=R0.outs hU8 (fun hk=>by simp only [List.mem_singleton] at hk;omega)
  have oq9:=instK.own_out oq hU8 (fun k hk hk' => by simp only [List.mem_singleton] at hk';have:=HLQ.out k hk;omega)
  have o29:=instK.own_out o2 hU8 (fun k hk hk' => by simp only [List.mem_singleton] at hk';have:=L2 k hk;omega)
  have hg9:Out [b] w (x9.setRow g8 #[.int .i64 E0,.int .i64 0,.bool false,.bool false,.int .i64 0,.bool eh,.slice e1 ebs.length e4,.slice e2 ers.length e5,.slice e3 eds.length e6]):=⟨hU8.os.trans hg.os,hU8.tape.trans hg.tape,hU8.output.trans hg.output,Nat.le_trans hg.size hU8.size,fun k hk hne=>(hU8.block k (Nat.lt_of_lt_of_le hk hg.size) (by simp only [List.mem_singleton];omega)).trans (hg.block k hk hne)⟩
  clear oq o2 hg A0 R0 hU8 hS
  have oq:=oq9
  have o2:=o29
  have hg:=hg9
  have A0:=A9
  have R0:=R9
  have hS:=hS9
  have G9:=Gr
  have g0:=G9.cell 0 _ rfl
  obtain ⟨p0,p1,p2,p3⟩:=A0.cel4
  have p5:=G9.cell 5 _ rfl
  have p6:=G9.cell 6 _ rfl
  have p7:=G9.cell 7 _ rfl
  have p8:=G9.cell 8 _ rfl
  clear oq9 o29 hg9 A9 R9 Gr hS9
  by_cases hD:E0=0
  case neg=>
   have hD' : (E0 != 0)=true:=by simpa using hD
   have Rr:=R0.row #[.bool has,.slice ba batch.length bk,.slice va rounds.length vk,.slice da dec.length dk]
   have hsr:(Tryz.prog.info? 28).map (·.size)=some (#[.bool has,.slice ba batch.length bk,.slice va rounds.length vk,.slice da dec.length dk]:Array Value).size:=sz_inst
   have hUr:=out_row (x9.setRow g8 #[.int .i64 E0,.int .i64 0,.bool false,.bool false,.int .i64 0,.bool eh,.slice e1 ebs.length e4,.slice e2 ers.length e5,.slice e3 eds.length e6]) (w.heap.size + 1) #[.bool has,.slice ba batch.length bk,.slice va rounds.length vk,.slice da dec.length dk]
   have HZ:Hid (instK.own ((x9.setRow g8 #[.int .i64 E0,.int .i64 0,.bool false,.bool false,.int .i64 0,.bool eh,.slice e1 ebs.length e4,.slice e2 ers.length e5,.slice e3 eds.length e6]).setRow (w.heap.size + 1) #[.bool has,.slice ba batch.length bk,.slice va rounds.length vk,.slice da dec.length dk]) (⟨has,.slice ba batch.length bk,batch,.slice va rounds.length vk,rounds,.slice da dec.length dk,dec⟩:InstQ)∧Src B ((x9.setRow g8 #[.int .i64 E0,.int .i64 0,.bool false,.bool false,.int .i64 0,.bool eh,.slice e1 ebs.length e4,.slice e2 ers.length e5,.slice e3 eds.length e6]).setRow (w.heap.size + 1) #[.bool has,.slice ba batch.length bk,.slice va rounds.length vk,.slice da dec.length dk]) b (T + 60)∧w.grownBy ((x9.setRow g8 #[.int .i64 E0,.int .i64 0,.bool false,.bool false,.int .i64 0,.bool eh,.slice e1 ebs.length e4,.slice e2 ers.length e5,.slice e3 eds.length e6]).setRow (w.heap.size + 1) #[.bool has,.slice ba batch.length bk,.slice va rounds.length vk,.slice da dec.length dk]) (some b)):=by
    refine ⟨instK.own_out oq hUr (fun k hk hk' => by simp only [List.mem_singleton] at hk';have:=HLQ.out k hk;omega),?_,?_⟩
    ·exact (hS.out hUr (by simp only [List.mem_singleton];omega) (fun k hk=>by simp only [List.mem_singleton] at hk;omega)).mono (by omega)
    ·exact grown_out (wr:=x9.setRow g8 #[.int .i64 E0,.int .i64 0,.bool false,.bool false,.int .i64 0,.bool eh,.slice e1 ebs.length e4,.slice e2 ers.length e5,.slice e3 eds.length e6]) ⟨hg.os,hg.tape,hg.output,hg.size,fun k hk hne=>hg.block k hk (by simp only [List.mem_singleton];intro e;exact hne (by rw [e]))⟩ hUr (fun k hk=>by simp only [List.mem_singleton] at hk;omega)
   have HI:Hid (insF (InstQ.e (⟨has,.slice ba batch.length bk,batch,.slice va rounds.length vk,rounds,.slice da dec.length dk,dec⟩:InstQ))=0∧(instK.foot (⟨has,.slice ba batch.length bk,batch,.slice va rounds.length vk,rounds,.slice da dec.length dk,dec⟩:InstQ)).Nodup∧∀ k∈instK.foot (⟨has,.slice ba batch.length bk,batch,.slice va rounds.length vk,rounds,.slice da dec.length dk,dec⟩:InstQ),k∈instK.foot (⟨has,.slice ba batch.length bk,batch,.slice va rounds.length vk,rounds,.slice da dec.length dk,dec⟩:InstQ)∨w.heap.size≤k):=⟨HI0.out,HNQ.out,fun k hk=>Or.inl hk⟩
   clear oq o2 hS hg hUr
   go_wp2_with (first | (refine st_row (by kernel_rfl) 39 _ _ rfl _ #[.int .i64 E0,.int .i64 0,.bool false,.bool false,.int .i64 0,.bool eh,.slice e1 ebs.length e4,.slice e2 ers.length e5,.slice e3 eds.length e6] rfl rfl 39 _ G8 hsr8 rfl (by simp [Value.oneCell']) ?_) | (refine st_row (by kernel_rfl) 28 _ _ rfl _ #[.bool has,.slice ba batch.length bk,.slice va rounds.length vk,.slice da dec.length dk] rfl rfl 28 _ R0 hsr rfl (by simp [Value.oneCell']) ?_))
   obtain ⟨q0,q1,q2,q3⟩:=Rr.cel4
   exact bodyPost_ret (v:=.agg #[.bool has,.slice ba batch.length bk,.slice va rounds.length vk,.slice da dec.length dk]) (by simp [results,Tryz.results20,go_sem,q0,q1,q2,q3]) rfl ⟨(⟨has,.slice ba batch.length bk,batch,.slice va rounds.length vk,rounds,.slice da dec.length dk,dec⟩:InstQ),rfl,HI.out.1,HZ.out.1,HI.out.2.1,HI.out.2.2,HZ.out.2.1,HZ.out.2.2⟩

  case pos=>
   have HDD:Hid (insF (InstQ.e (⟨eh,.slice e1 ebs.length e4,ebs,.slice e2 ers.length e5,ers,.slice e3 eds.length e6,eds⟩:InstQ))=0):=HD2.out hD
   subst hD
   have Rr:=R0.row #[.bool eh,.slice e1 ebs.length e4,.slice e2 ers.length e5,.slice e3 eds.length e6]
   have hsr:(Tryz.prog.info? 28).map (·.size)=some (#[.bool eh,.slice e1 ebs.length e4,.slice e2 ers.length e5,.slice e3 eds.length e6]:Array Value).size:=sz_inst
   have hUr:=out_row (x9.setRow g8 #[.int .i64 0,.int .i64 0,.bool false,.bool false,.int .i64 0,.bool eh,.slice e1 ebs.length e4,.slice e2 ers.length e5,.slice e3 eds.length e6]) (w.heap.size + 1) #[.bool eh,.slice e1 ebs.length e4,.slice e2 ers.length e5,.slice e3 eds.length e6]
   have HZ:Hid (instK.own ((x9.setRow g8 #[.int .i64 0,.int .i64 0,.bool false,.bool false,.int .i64 0,.bool eh,.slice e1 ebs.length e4,.slice e2 ers.length e5,.slice e3 eds.length e6]).setRow (w.heap.size + 1) #[.bool eh,.slice e1 ebs.length e4,.slice e2 ers.length e5,.slice e3 eds.length e6]) (⟨eh,.slice e1 ebs.length e4,ebs,.slice e2 ers.length e5,ers,.slice e3 eds.length e6,eds⟩:InstQ)∧Src B ((x9.setRow g8 #[.int .i64 0,.int .i64 0,.bool false,.bool false,.int .i64 0,.bool eh,.slice e1 ebs.length e4,.slice e2 ers.length e5,.slice e3 eds.length e6]).setRow (w.heap.size + 1) #[.bool eh,.slice e1 ebs.length e4,.slice e2 ers.length e5,.slice e3 eds.length e6]) b (T + 60)∧w.grownBy ((x9.setRow g8 #[.int .i64 0,.int .i64 0,.bool false,.bool false,.int .i64 0,.bool eh,.slice e1 ebs.length e4,.slice e2 ers.length e5,.slice e3 eds.length e6]).setRow (w.heap.size + 1) #[.bool eh,.slice e1 ebs.length e4,.slice e2 ers.length e5,.slice e3 eds.length e6]) (some b)):=by
    refine ⟨instK.own_out o2 hUr (fun k hk hk' => by simp only [List.mem_singleton] at hk';have:=L2 k hk;omega),?_,?_⟩
    ·exact (hS.out hUr (by simp only [List.mem_singleton];omega) (fun k hk=>by simp only [List.mem_singleton] at hk;omega)).mono (by omega)
    ·exact grown_out (wr:=x9.setRow g8 #[.int .i64 0,.int .i64 0,.bool false,.bool false,.int .i64 0,.bool eh,.slice e1 ebs.length e4,.slice e2 ers.length e5,.slice e3 eds.length e6]) ⟨hg.os,hg.tape,hg.output,hg.size,fun k hk hne=>hg.block k hk (by simp only [List.mem_singleton];intro e;exact hne (by rw [e]))⟩ hUr (fun k hk=>by simp only [List.mem_singleton] at hk;omega)
   have HI:Hid (insF (InstQ.e (⟨eh,.slice e1 ebs.length e4,ebs,.slice e2 ers.length e5,ers,.slice e3 eds.length e6,eds⟩:InstQ))=0∧(instK.foot (⟨eh,.slice e1 ebs.length e4,ebs,.slice e2 ers.length e5,ers,.slice e3 eds.length e6,eds⟩:InstQ)).Nodup∧∀ k∈instK.foot (⟨eh,.slice e1 ebs.length e4,ebs,.slice e2 ers.length e5,ers,.slice e3 eds.length e6,eds⟩:InstQ),k∈instK.foot (⟨has,.slice ba batch.length bk,batch,.slice va rounds.length vk,rounds,.slice da dec.length dk,dec⟩:InstQ)∨w.heap.size≤k):=⟨HDD.out,n2,fun k hk=>Or.inr (by have:=L2 k hk;omega)⟩
   clear oq o2 hS hg hUr
   go_wp2_with (first | (refine st_row (by kernel_rfl) 39 _ _ rfl _ #[.int .i64 0,.int .i64 0,.bool false,.bool false,.int .i64 0,.bool eh,.slice e1 ebs.length e4,.slice e2 ers.length e5,.slice e3 eds.length e6] rfl rfl 39 _ G8 hsr8 rfl (by simp [Value.oneCell']) ?_) | (refine st_row (by kernel_rfl) 28 _ _ rfl _ #[.bool eh,.slice e1 ebs.length e4,.slice e2 ers.length e5,.slice e3 eds.length e6] rfl rfl 28 _ R0 hsr rfl (by simp [Value.oneCell']) ?_))
   obtain ⟨q0,q1,q2,q3⟩:=Rr.cel4
   exact bodyPost_ret (v:=.agg #[.bool eh,.slice e1 ebs.length e4,.slice e2 ers.length e5,.slice e3 eds.length e6]) (by simp [results,Tryz.results20,go_sem,q0,q1,q2,q3]) rfl ⟨(⟨eh,.slice e1 ebs.length e4,ebs,.slice e2 ers.length e5,ers,.slice e3 eds.length e6,eds⟩:InstQ),rfl,HI.out.1,HZ.out.1,HI.out.2.1,HI.out.2.2,HZ.out.2.1,HZ.out.2.2⟩
 ·skip
  go_wp2_with fail
  refine (l6Propose_any w.heap.size 0 (⟨has,.slice ba batch.length bk,batch,.slice va rounds.length vk,rounds,.slice da dec.length dk,dec⟩:InstQ) r1 r2 mk X (⟨⟨A0.cell 0 _ rfl,A0.cell 1 _ rfl,A0.cell 2 _ rfl,A0.cell 3 _ rfl⟩,instK.own_rd oq⟩:InstP _ w.heap.size 0 (⟨has,.slice ba batch.length bk,batch,.slice va rounds.length vk,rounds,.slice da dec.length dk,dec⟩:InstQ)) A0.lt hl h0).mono ?_
  rintro e x9 ⟨q9,rfl,e9,o9,n9,g9,hb9⟩
  clear o2 n2 L2 HD2
  have hs9:=hb9.size
  have h8lt:=G8.lt
  replace hS:=hS.below hb9
  have hU:Out [b] _ _:=Out.of_below hb9
  clear hb9
  replace A0:=A0.outs hU (fun hk=>by simp only [List.mem_singleton] at hk;omega)
  replace R0:=R0.outs hU (fun hk=>by simp only [List.mem_singleton] at hk;omega)
  replace G8:=G8.outs hU (fun hk=>by simp only [List.mem_singleton] at hk;omega)
  replace oq:=instK.own_out oq hU (fun k hk hk' => by simp only [List.mem_singleton] at hk';subst hk';exact hbq hk)
  replace hg:=hg.trans hU
  clear hU
  have HD2:Hid (prC (InstQ.e (⟨has,.slice ba batch.length bk,batch,.slice va rounds.length vk,rounds,.slice da dec.length dk,dec⟩:InstQ)) r1 r2 mk=0→insF q9.e=0):=fun h9=>by rw [e9];exact (ins_propose h9).1
  have n2:=n9
  have L2:∀ k∈instK.foot q9,g8 < k:=fun k hk=>by have:=g9 k hk;omega
  have o2:=o9
  clear n9 g9 o9 e9
  generalize prC (InstQ.e (⟨has,.slice ba batch.length bk,batch,.slice va rounds.length vk,rounds,.slice da dec.length dk,dec⟩:InstQ)) r1 r2 mk=E0 at *
  obtain ⟨eh,eb,ebs,er,ers,ed,eds⟩:=q9
  obtain ⟨e1,e4,rfl⟩:∃ a c,eb=.slice a ebs.length c:=o2.1.shape
  obtain ⟨e2,e5,rfl⟩:∃ a c,er=.slice a ers.length c:=o2.2.1.shape
  obtain ⟨e3,e6,rfl⟩:∃ a c,ed=.slice a eds.length c:=o2.2.2.shape
  have Gr:=G8.row #[.int .i64 E0,.int .i64 0,.bool false,.bool false,.int .i64 0,.bool eh,.slice e1 ebs.length e4,.slice e2 ers.length e5,.slice e3 eds.length e6]
  have hsr8:(Tryz.prog.info? 39).map (·.size)=some (#[.int .i64 E0,.int .i64 0,.bool false,.bool false,.int .i64 0,.bool eh,.slice e1 ebs.length e4,.slice e2 ers.length e5,.slice e3 eds.length e6]:Array Value).size:=sz_res
  have hU8:=out_row x9 g8 #[.int .i64 E0,.int .i64 0,.bool false,.bool false,.int .i64 0,.bool eh,.slice e1 ebs.length e4,.slice e2 ers.length e5,.slice e3 eds.length e6]
  have hS9:Src B (x9.setRow g8 #[.int .i64 E0,.int .i64 0,.bool false,.bool false,.int .i64 0,.bool eh,.slice e1 ebs.length e4,.slice e2 ers.length e5,.slice e3 eds.length e6]) b (T + 5):=hS.out hU8 (by simp only [List.mem_singleton];omega) (fun k hk=>by simp only [List.mem_singleton] at hk;omega)
  have A9:=A0.outs hU8 (fun hk=>by simp only [List.mem_singleton] at hk;omega)
  have R9:=R0.outs hU8 (fun hk=>by simp only [List.mem_singleton] at hk;omega)
  have oq9:=instK.own_out oq hU8 (fun k hk hk' => by simp only [List.mem_singleton] at hk';have:=HLQ.out k hk;omega)
  have o29:=instK.own_out o2 hU8 (fun k hk hk' => by simp only [List.mem_singleton] at hk';have:=L2 k hk;omega)
  have hg9:Out [b] w (x9.setRow g8 #[.int .i64 E0,.int .i64 0,.bool false,.bool false,.int .i64 0,.bool eh,.slice e1 ebs.length e4,.slice e2 ers.length e5,.slice e3 eds.length e6]):=⟨hU8.os.trans hg.os,hU8.tape.trans hg.tape,hU8.output.trans hg.output,Nat.le_trans hg.size hU8.size,fun k hk hne=>(hU8.block k (Nat.lt_of_lt_of_le hk hg.size) (by simp only [List.mem_singleton];omega)).trans (hg.block k hk hne)⟩
  clear oq o2 hg A0 R0 hU8 hS
  have oq:=oq9
  have o2:=o29
  have hg:=hg9
  have A0:=A9
  have R0:=R9
  have hS:=hS9
  have G9:=Gr
  have g0:=G9.cell 0 _ rfl
  obtain ⟨p0,p1,p2,p3⟩:=A0.cel4
  have p5:=G9.cell 5 _ rfl
  have p6:=G9.cell 6 _ rfl
  have p7:=G9.cell 7 _ rfl
  have p8:=G9.cell 8 _ rfl
  clear oq9 o29 hg9 A9 R9 Gr hS9
  by_cases hD:E0=0
  case neg=>
   have hD' : (E0 != 0)=true:=by simpa using hD
   have Rr:=R0.row #[.bool has,.slice ba batch.length bk,.slice va rounds.length vk,.slice da dec.length dk]
   have hsr:(Tryz.prog.info? 28).map (·.size)=some (#[.bool has,.slice ba batch.length bk,.slice va rounds.length vk,.slice da dec.length dk]:Array Value).size:=sz_inst
   have hUr:=out_row (x9.setRow g8 #[.int .i64 E0,.int .i64 0,.bool false,.bool false,.int .i64 0,.bool eh,.slice e1 ebs.length e4,.slice e2 ers.length e5,.slice e3 eds.length e6]) (w.heap.size + 1) #[.bool has,.slice ba batch.length bk,.slice va rounds.length vk,.slice da dec.length dk]
   have HZ:Hid (instK.own ((x9.setRow g8 #[.int .i64 E0,.int .i64 0,.bool false,.bool false,.int .i64 0,.bool eh,.slice e1 ebs.length e4,.slice e2 ers.length e5,.slice e3 eds.length e6]).setRow (w.heap.size + 1) #[.bool has,.slice ba batch.length bk,.slice va rounds.length vk,.slice da dec.length dk]) (⟨has,.slice ba batch.length bk,batch,.slice va rounds.length vk,rounds,.slice da dec.length dk,dec⟩:InstQ)∧Src B ((x9.setRow g8 #[.int .i64 E0,.int .i64 0,.bool false,.bool false,.int .i64 0,.bool eh,.slice e1 ebs.length e4,.slice e2 ers.length e5,.slice e3 eds.length e6]).setRow (w.heap.size + 1) #[.bool has,.slice ba batch.length bk,.slice va rounds.length vk,.slice da dec.length dk]) b (T + 60)∧w.grownBy ((x9.setRow g8 #[.int .i64 E0,.int .i64 0,.bool false,.bool false,.int .i64 0,.bool eh,.slice e1 ebs.length e4,.slice e2 ers.length e5,.slice e3 eds.length e6]).setRow (w.heap.size + 1) #[.bool has,.slice ba batch.length bk,.slice va rounds.length vk,.slice da dec.length dk]) (some b)):=by
    refine ⟨instK.own_out oq hUr (fun k hk hk' => by simp only [List.mem_singleton] at hk';have:=HLQ.out k hk;omega),?_,?_⟩
    ·exact (hS.out hUr (by simp only [List.mem_singleton];omega) (fun k hk=>by simp only [List.mem_singleton] at hk;omega)).mono (by omega)
    ·exact grown_out (wr:=x9.setRow g8 #[.int .i64 E0,.int .i64 0,.bool false,.bool false,.int .i64 0,.bool eh,.slice e1 ebs.length e4,.slice e2 ers.length e5,.slice e3 eds.length e6]) ⟨hg.os,hg.tape,hg.output,hg.size,fun k hk hne=>hg.block k hk (by simp only [List.mem_singleton];intro e;exact hne (by rw [e]))⟩ hUr (fun k hk=>by simp only [List.mem_singleton] at hk;omega)
   have HI:Hid (insF (InstQ.e (⟨has,.slice ba batch.length bk,batch,.slice va rounds.length vk,rounds,.slice da dec.length dk,dec⟩:InstQ))=0∧(instK.foot (⟨has,.slice ba batch.length bk,batch,.slice va rounds.length vk,rounds,.slice da dec.length dk,dec⟩:InstQ)).Nodup∧∀ k∈instK.foot (⟨has,.slice ba batch.length bk,batch,.slice va rounds.length vk,rounds,.slice da dec.length dk,dec⟩:InstQ),k∈instK.foot (⟨has,.slice ba batch.length bk,batch,.slice va rounds.length vk,rounds,.slice da dec.length dk,dec⟩:InstQ)∨w.heap.size≤k):=⟨HI0.out,HNQ.out,fun k hk=>Or.inl hk⟩
   clear oq o2 hS hg hUr
   go_wp2_with (first | (refine st_row (by kernel_rfl) 39 _ _ rfl _ #[.int .i64 E0,.int .i64 0,.bool false,.bool false,.int .i64 0,.bool eh,.slice e1 ebs.length e4,.slice e2 ers.length e5,.slice e3 eds.length e6] rfl rfl 39 _ G8 hsr8 rfl (by simp [Value.oneCell']) ?_) | (refine st_row (by kernel_rfl) 28 _ _ rfl _ #[.bool has,.slice ba batch.length bk,.slice va rounds.length vk,.slice da dec.length dk] rfl rfl 28 _ R0 hsr rfl (by simp [Value.oneCell']) ?_))
   obtain ⟨q0,q1,q2,q3⟩:=Rr.cel4
   exact bodyPost_ret (v:=.agg #[.bool has,.slice ba batch.length bk,.slice va rounds.length vk,.slice da dec.length dk]) (by simp [results,Tryz.results20,go_sem,q0,q1,q2,q3]) rfl ⟨(⟨has,.slice ba batch.length bk,batch,.slice va rounds.length vk,rounds,.slice da dec.length dk,dec⟩:InstQ),rfl,HI.out.1,HZ.out.1,HI.out.2.1,HI.out.2.2,HZ.out.2.1,HZ.out.2.2⟩

  case pos=>
   have HDD:Hid (insF (InstQ.e (⟨eh,.slice e1 ebs.length e4,ebs,.slice e2 ers.length e5,ers,.slice e3 eds.length e6,eds⟩:InstQ))=0):=HD2.out hD
   subst hD
   have Rr:=R0.row #[.bool eh,.slice e1 ebs.length e4,.slice e2 ers.length e5,.slice e3 eds.length e6]
   have hsr:(Tryz.prog.info? 28).map (·.size)=some (#[.bool eh,.slice e1 ebs.length e4,.slice e2 ers.length e5,.slice e3 eds.length e6]:Array Value).size:=sz_inst
   have hUr:=out_row (x9.setRow g8 #[.int .i64 0,.int .i64 0,.bool false,.bool false,.int .i64 0,.bool eh,.slice e1 ebs.length e4,.slice e2 ers.length e5,.slice e3 eds.length e6]) (w.heap.size + 1) #[.bool eh,.slice e1 ebs.length e4,.slice e2 ers.length e5,.slice e3 eds.length e6]
   have HZ:Hid (instK.own ((x9.setRow g8 #[.int .i64 0,.int .i64 0,.bool false,.bool false,.int .i64 0,.bool eh,.slice e1 ebs.length e4,.slice e2 ers.length e5,.slice e3 eds.length e6]).setRow (w.heap.size + 1) #[.bool eh,.slice e1 ebs.length e4,.slice e2 ers.length e5,.slice e3 eds.length e6]) (⟨eh,.slice e1 ebs.length e4,ebs,.slice e2 ers.length e5,ers,.slice e3 eds.length e6,eds⟩:InstQ)∧Src B ((x9.setRow g8 #[.int .i64 0,.int .i64 0,.bool false,.bool false,.int .i64 0,.bool eh,.slice e1 ebs.length e4,.slice e2 ers.length e5,.slice e3 eds.length e6]).setRow (w.heap.size + 1) #[.bool eh,.slice e1 ebs.length e4,.slice e2 ers.length e5,.slice e3 eds.length e6]) b (T + 60)∧w.grownBy ((x9.setRow g8 #[.int .i64 0,.int .i64 0,.bool false,.bool false,.int .i64 0,.bool eh,.slice e1 ebs.length e4,.slice e2 ers.length e5,.slice e3 eds.length e6]).setRow (w.heap.size + 1) #[.bool eh,.slice e1 ebs.length e4,.slice e2 ers.length e5,.slice e3 eds.length e6]) (some b)):=by
    refine ⟨instK.own_out o2 hUr (fun k hk hk' => by simp only [List.mem_singleton] at hk';have:=L2 k hk;omega),?_,?_⟩
    ·exact (hS.out hUr (by simp only [List.mem_singleton];omega) (fun k hk=>by simp only [List.mem_singleton] at hk;omega)).mono (by omega)
    ·exact grown_out (wr:=x9.setRow g8 #[.int .i64 0,.int .i64 0,.bool false,.bool false,.int .i64 0,.bool eh,.slice e1 ebs.length e4,.slice e2 ers.length e5,.slice e3 eds.length e6]) ⟨hg.os,hg.tape,hg.output,hg.size,fun k hk hne=>hg.block k hk (by simp only [List.mem_singleton];intro e;exact hne (by rw [e]))⟩ hUr (fun k hk=>by simp only [List.mem_singleton] at hk;omega)
   have HI:Hid (insF (InstQ.e (⟨eh,.slice e1 ebs.length e4,ebs,.slice e2 ers.length e5,ers,.slice e3 eds.length e6,eds⟩:InstQ))=0∧(instK.foot (⟨eh,.slice e1 ebs.length e4,ebs,.slice e2 ers.length e5,ers,.slice e3 eds.length e6,eds⟩:InstQ)).Nodup∧∀ k∈instK.foot (⟨eh,.slice e1 ebs.length e4,ebs,.slice e2 ers.length e5,ers,.slice e3 eds.length e6,eds⟩:InstQ),k∈instK.foot (⟨has,.slice ba batch.length bk,batch,.slice va rounds.length vk,rounds,.slice da dec.length dk,dec⟩:InstQ)∨w.heap.size≤k):=⟨HDD.out,n2,fun k hk=>Or.inr (by have:=L2 k hk;omega)⟩
   clear oq o2 hS hg hUr
   go_wp2_with (first | (refine st_row (by kernel_rfl) 39 _ _ rfl _ #[.int .i64 0,.int .i64 0,.bool false,.bool false,.int .i64 0,.bool eh,.slice e1 ebs.length e4,.slice e2 ers.length e5,.slice e3 eds.length e6] rfl rfl 39 _ G8 hsr8 rfl (by simp [Value.oneCell']) ?_) | (refine st_row (by kernel_rfl) 28 _ _ rfl _ #[.bool eh,.slice e1 ebs.length e4,.slice e2 ers.length e5,.slice e3 eds.length e6] rfl rfl 28 _ R0 hsr rfl (by simp [Value.oneCell']) ?_))
   obtain ⟨q0,q1,q2,q3⟩:=Rr.cel4
   exact bodyPost_ret (v:=.agg #[.bool eh,.slice e1 ebs.length e4,.slice e2 ers.length e5,.slice e3 eds.length e6]) (by simp [results,Tryz.results20,go_sem,q0,q1,q2,q3]) rfl ⟨(⟨eh,.slice e1 ebs.length e4,ebs,.slice e2 ers.length e5,ers,.slice e3 eds.length e6,eds⟩:InstQ),rfl,HI.out.1,HZ.out.1,HI.out.2.1,HI.out.2.2,HZ.out.2.1,HZ.out.2.2⟩
 ·skip
  go_wp2_with fail
  refine (next_any B b (T + 5) 2 X hS (by omega) (by omega)).mono ?_
  rintro e x7 ⟨cn,rfl,hcn,hSn,hgn⟩
  replace hS:=hSn
  have hU:Out [b] _ _:=Out.of_grown hgn
  clear hgn hSn
  replace A0:=A0.outs hU (fun hk=>by simp only [List.mem_singleton] at hk;omega)
  replace R0:=R0.outs hU (fun hk=>by simp only [List.mem_singleton] at hk;omega)
  replace G8:=G8.outs hU (fun hk=>by simp only [List.mem_singleton] at hk;omega)
  replace oq:=instK.own_out oq hU (fun k hk hk' => by simp only [List.mem_singleton] at hk';subst hk';exact hbq hk)
  replace o2:=instK.own_out o2 hU (fun k hk hk' => by simp only [List.mem_singleton] at hk';have:=L2 k hk;omega)
  replace hg:=hg.trans hU
  clear hU
  go_wp2_with fail
  refine (l6GoOn_any w.heap.size 0 (⟨has,.slice ba batch.length bk,batch,.slice va rounds.length vk,rounds,.slice da dec.length dk,dec⟩:InstQ) r1 r2 mk cn x7 (⟨⟨A0.cell 0 _ rfl,A0.cell 1 _ rfl,A0.cell 2 _ rfl,A0.cell 3 _ rfl⟩,instK.own_rd oq⟩:InstP _ w.heap.size 0 (⟨has,.slice ba batch.length bk,batch,.slice va rounds.length vk,rounds,.slice da dec.length dk,dec⟩:InstQ)) A0.lt hl h0).mono ?_
  rintro e x9 ⟨q9,rfl,e9,o9,n9,g9,hb9⟩
  clear o2 n2 L2 HD2
  have hs9:=hb9.size
  have h8lt:=G8.lt
  replace hS:=hS.below hb9
  have hU:Out [b] _ _:=Out.of_below hb9
  clear hb9
  replace A0:=A0.outs hU (fun hk=>by simp only [List.mem_singleton] at hk;omega)
  replace R0:=R0.outs hU (fun hk=>by simp only [List.mem_singleton] at hk;omega)
  replace G8:=G8.outs hU (fun hk=>by simp only [List.mem_singleton] at hk;omega)
  replace oq:=instK.own_out oq hU (fun k hk hk' => by simp only [List.mem_singleton] at hk';subst hk';exact hbq hk)
  replace hg:=hg.trans hU
  clear hU
  have HD2:Hid (goC (InstQ.e (⟨has,.slice ba batch.length bk,batch,.slice va rounds.length vk,rounds,.slice da dec.length dk,dec⟩:InstQ)) r1 r2 mk cn=0→insF q9.e=0):=fun h9=>by rw [e9];exact (ins_go h9).1
  have n2:=n9
  have L2:∀ k∈instK.foot q9,g8 < k:=fun k hk=>by have:=g9 k hk;omega
  have o2:=o9
  clear n9 g9 o9 e9
  generalize goZ (InstQ.e (⟨has,.slice ba batch.length bk,batch,.slice va rounds.length vk,rounds,.slice da dec.length dk,dec⟩:InstQ)) r1 r2 mk cn=K0 at *
  generalize goD (InstQ.e (⟨has,.slice ba batch.length bk,batch,.slice va rounds.length vk,rounds,.slice da dec.length dk,dec⟩:InstQ)) r1 r2 mk cn=K1 at *
  generalize goK (InstQ.e (⟨has,.slice ba batch.length bk,batch,.slice va rounds.length vk,rounds,.slice da dec.length dk,dec⟩:InstQ)) r1 r2 mk cn=K2 at *
  generalize goV (InstQ.e (⟨has,.slice ba batch.length bk,batch,.slice va rounds.length vk,rounds,.slice da dec.length dk,dec⟩:InstQ)) r1 r2 mk cn=K3 at *
  generalize goC (InstQ.e (⟨has,.slice ba batch.length bk,batch,.slice va rounds.length vk,rounds,.slice da dec.length dk,dec⟩:InstQ)) r1 r2 mk cn=E0 at *
  obtain ⟨eh,eb,ebs,er,ers,ed,eds⟩:=q9
  obtain ⟨e1,e4,rfl⟩:∃ a c,eb=.slice a ebs.length c:=o2.1.shape
  obtain ⟨e2,e5,rfl⟩:∃ a c,er=.slice a ers.length c:=o2.2.1.shape
  obtain ⟨e3,e6,rfl⟩:∃ a c,ed=.slice a eds.length c:=o2.2.2.shape
  have Gr:=G8.row #[.int .i64 E0,.int .i64 K0,.bool K1,.bool K2,.int .i64 K3,.bool eh,.slice e1 ebs.length e4,.slice e2 ers.length e5,.slice e3 eds.length e6]
  have hsr8:(Tryz.prog.info? 39).map (·.size)=some (#[.int .i64 E0,.int .i64 K0,.bool K1,.bool K2,.int .i64 K3,.bool eh,.slice e1 ebs.length e4,.slice e2 ers.length e5,.slice e3 eds.length e6]:Array Value).size:=sz_res
  have hU8:=out_row x9 g8 #[.int .i64 E0,.int .i64 K0,.bool K1,.bool K2,.int .i64 K3,.bool eh,.slice e1 ebs.length e4,.slice e2 ers.length e5,.slice e3 eds.length e6]
  have hS9:Src B (x9.setRow g8 #[.int .i64 E0,.int .i64 K0,.bool K1,.bool K2,.int .i64 K3,.bool eh,.slice e1 ebs.length e4,.slice e2 ers.length e5,.slice e3 eds.length e6]) b (T + 5 + 1):=hS.out hU8 (by simp only [List.mem_singleton];omega) (fun k hk=>by simp only [List.mem_singleton] at hk;omega)
  have A9:=A0.outs hU8 (fun hk=>by simp only [List.mem_singleton] at hk;omega)
  have R9:=R0.outs hU8 (fun hk=>by simp only [List.mem_singleton] at hk;omega)
  have oq9:=instK.own_out oq hU8 (fun k hk hk' => by simp only [List.mem_singleton] at hk';have:=HLQ.out k hk;omega)
  have o29:=instK.own_out o2 hU8 (fun k hk hk' => by simp only [List.mem_singleton] at hk';have:=L2 k hk;omega)
  have hg9:Out [b] w (x9.setRow g8 #[.int .i64 E0,.int .i64 K0,.bool K1,.bool K2,.int .i64 K3,.bool eh,.slice e1 ebs.length e4,.slice e2 ers.length e5,.slice e3 eds.length e6]):=⟨hU8.os.trans hg.os,hU8.tape.trans hg.tape,hU8.output.trans hg.output,Nat.le_trans hg.size hU8.size,fun k hk hne=>(hU8.block k (Nat.lt_of_lt_of_le hk hg.size) (by simp only [List.mem_singleton];omega)).trans (hg.block k hk hne)⟩
  clear oq o2 hg A0 R0 hU8 hS
  have oq:=oq9
  have o2:=o29
  have hg:=hg9
  have A0:=A9
  have R0:=R9
  have hS:=hS9
  have G9:=Gr
  have g0:=G9.cell 0 _ rfl
  obtain ⟨p0,p1,p2,p3⟩:=A0.cel4
  have p5:=G9.cell 5 _ rfl
  have p6:=G9.cell 6 _ rfl
  have p7:=G9.cell 7 _ rfl
  have p8:=G9.cell 8 _ rfl
  clear oq9 o29 hg9 A9 R9 Gr hS9
  by_cases hD:E0=0
  case neg=>
   have hD' : (E0 != 0)=true:=by simpa using hD
   have Rr:=R0.row #[.bool has,.slice ba batch.length bk,.slice va rounds.length vk,.slice da dec.length dk]
   have hsr:(Tryz.prog.info? 28).map (·.size)=some (#[.bool has,.slice ba batch.length bk,.slice va rounds.length vk,.slice da dec.length dk]:Array Value).size:=sz_inst
   have hUr:=out_row (x9.setRow g8 #[.int .i64 E0,.int .i64 K0,.bool K1,.bool K2,.int .i64 K3,.bool eh,.slice e1 ebs.length e4,.slice e2 ers.length e5,.slice e3 eds.length e6]) (w.heap.size + 1) #[.bool has,.slice ba batch.length bk,.slice va rounds.length vk,.slice da dec.length dk]
   have HZ:Hid (instK.own ((x9.setRow g8 #[.int .i64 E0,.int .i64 K0,.bool K1,.bool K2,.int .i64 K3,.bool eh,.slice e1 ebs.length e4,.slice e2 ers.length e5,.slice e3 eds.length e6]).setRow (w.heap.size + 1) #[.bool has,.slice ba batch.length bk,.slice va rounds.length vk,.slice da dec.length dk]) (⟨has,.slice ba batch.length bk,batch,.slice va rounds.length vk,rounds,.slice da dec.length dk,dec⟩:InstQ)∧Src B ((x9.setRow g8 #[.int .i64 E0,.int .i64 K0,.bool K1,.bool K2,.int .i64 K3,.bool eh,.slice e1 ebs.length e4,.slice e2 ers.length e5,.slice e3 eds.length e6]).setRow (w.heap.size + 1) #[.bool has,.slice ba batch.length bk,.slice va rounds.length vk,.slice da dec.length dk]) b (T + 60)∧w.grownBy ((x9.setRow g8 #[.int .i64 E0,.int .i64 K0,.bool K1,.bool K2,.int .i64 K3,.bool eh,.slice e1 ebs.length e4,.slice e2 ers.length e5,.slice e3 eds.length e6]).setRow (w.heap.size + 1) #[.bool has,.slice ba batch.length bk,.slice va rounds.length vk,.slice da dec.length dk]) (some b)):=by
    refine ⟨instK.own_out oq hUr (fun k hk hk' => by simp only [List.mem_singleton] at hk';have:=HLQ.out k hk;omega),?_,?_⟩
    ·exact (hS.out hUr (by simp only [List.mem_singleton];omega) (fun k hk=>by simp only [List.mem_singleton] at hk;omega)).mono (by omega)
    ·exact grown_out (wr:=x9.setRow g8 #[.int .i64 E0,.int .i64 K0,.bool K1,.bool K2,.int .i64 K3,.bool eh,.slice e1 ebs.length e4,.slice e2 ers.length e5,.slice e3 eds.length e6]) ⟨hg.os,hg.tape,hg.output,hg.size,fun k hk hne=>hg.block k hk (by simp only [List.mem_singleton];intro e;exact hne (by rw [e]))⟩ hUr (fun k hk=>by simp only [List.mem_singleton] at hk;omega)
   have HI:Hid (insF (InstQ.e (⟨has,.slice ba batch.length bk,batch,.slice va rounds.length vk,rounds,.slice da dec.length dk,dec⟩:InstQ))=0∧(instK.foot (⟨has,.slice ba batch.length bk,batch,.slice va rounds.length vk,rounds,.slice da dec.length dk,dec⟩:InstQ)).Nodup∧∀ k∈instK.foot (⟨has,.slice ba batch.length bk,batch,.slice va rounds.length vk,rounds,.slice da dec.length dk,dec⟩:InstQ),k∈instK.foot (⟨has,.slice ba batch.length bk,batch,.slice va rounds.length vk,rounds,.slice da dec.length dk,dec⟩:InstQ)∨w.heap.size≤k):=⟨HI0.out,HNQ.out,fun k hk=>Or.inl hk⟩
   clear oq o2 hS hg hUr
   go_wp2_with (first | (refine st_row (by kernel_rfl) 39 _ _ rfl _ #[.int .i64 E0,.int .i64 K0,.bool K1,.bool K2,.int .i64 K3,.bool eh,.slice e1 ebs.length e4,.slice e2 ers.length e5,.slice e3 eds.length e6] rfl rfl 39 _ G8 hsr8 rfl (by simp [Value.oneCell']) ?_) | (refine st_row (by kernel_rfl) 28 _ _ rfl _ #[.bool has,.slice ba batch.length bk,.slice va rounds.length vk,.slice da dec.length dk] rfl rfl 28 _ R0 hsr rfl (by simp [Value.oneCell']) ?_))
   obtain ⟨q0,q1,q2,q3⟩:=Rr.cel4
   exact bodyPost_ret (v:=.agg #[.bool has,.slice ba batch.length bk,.slice va rounds.length vk,.slice da dec.length dk]) (by simp [results,Tryz.results20,go_sem,q0,q1,q2,q3]) rfl ⟨(⟨has,.slice ba batch.length bk,batch,.slice va rounds.length vk,rounds,.slice da dec.length dk,dec⟩:InstQ),rfl,HI.out.1,HZ.out.1,HI.out.2.1,HI.out.2.2,HZ.out.2.1,HZ.out.2.2⟩

  case pos=>
   have HDD:Hid (insF (InstQ.e (⟨eh,.slice e1 ebs.length e4,ebs,.slice e2 ers.length e5,ers,.slice e3 eds.length e6,eds⟩:InstQ))=0):=HD2.out hD
   subst hD
   have Rr:=R0.row #[.bool eh,.slice e1 ebs.length e4,.slice e2 ers.length e5,.slice e3 eds.length e6]
   have hsr:(Tryz.prog.info? 28).map (·.size)=some (#[.bool eh,.slice e1 ebs.length e4,.slice e2 ers.length e5,.slice e3 eds.length e6]:Array Value).size:=sz_inst
   have hUr:=out_row (x9.setRow g8 #[.int .i64 0,.int .i64 K0,.bool K1,.bool K2,.int .i64 K3,.bool eh,.slice e1 ebs.length e4,.slice e2 ers.length e5,.slice e3 eds.length e6]) (w.heap.size + 1) #[.bool eh,.slice e1 ebs.length e4,.slice e2 ers.length e5,.slice e3 eds.length e6]
   have HZ:Hid (instK.own ((x9.setRow g8 #[.int .i64 0,.int .i64 K0,.bool K1,.bool K2,.int .i64 K3,.bool eh,.slice e1 ebs.length e4,.slice e2 ers.length e5,.slice e3 eds.length e6]).setRow (w.heap.size + 1) #[.bool eh,.slice e1 ebs.length e4,.slice e2 ers.length e5,.slice e3 eds.length e6]) (⟨eh,.slice e1 ebs.length e4,ebs,.slice e2 ers.length e5,ers,.slice e3 eds.length e6,eds⟩:InstQ)∧Src B ((x9.setRow g8 #[.int .i64 0,.int .i64 K0,.bool K1,.bool K2,.int .i64 K3,.bool eh,.slice e1 ebs.length e4,.slice e2 ers.length e5,.slice e3 eds.length e6]).setRow (w.heap.size + 1) #[.bool eh,.slice e1 ebs.length e4,.slice e2 ers.length e5,.slice e3 eds.length e6]) b (T + 60)∧w.grownBy ((x9.setRow g8 #[.int .i64 0,.int .i64 K0,.bool K1,.bool K2,.int .i64 K3,.bool eh,.slice e1 ebs.length e4,.slice e2 ers.length e5,.slice e3 eds.length e6]).setRow (w.heap.size + 1) #[.bool eh,.slice e1 ebs.length e4,.slice e2 ers.length e5,.slice e3 eds.length e6]) (some b)):=by
    refine ⟨instK.own_out o2 hUr (fun k hk hk' => by simp only [List.mem_singleton] at hk';have:=L2 k hk;omega),?_,?_⟩
    ·exact (hS.out hUr (by simp only [List.mem_singleton];omega) (fun k hk=>by simp only [List.mem_singleton] at hk;omega)).mono (by omega)
    ·exact grown_out (wr:=x9.setRow g8 #[.int .i64 0,.int .i64 K0,.bool K1,.bool K2,.int .i64 K3,.bool eh,.slice e1 ebs.length e4,.slice e2 ers.length e5,.slice e3 eds.length e6]) ⟨hg.os,hg.tape,hg.output,hg.size,fun k hk hne=>hg.block k hk (by simp only [List.mem_singleton];intro e;exact hne (by rw [e]))⟩ hUr (fun k hk=>by simp only [List.mem_singleton] at hk;omega)
   have HI:Hid (insF (InstQ.e (⟨eh,.slice e1 ebs.length e4,ebs,.slice e2 ers.length e5,ers,.slice e3 eds.length e6,eds⟩:InstQ))=0∧(instK.foot (⟨eh,.slice e1 ebs.length e4,ebs,.slice e2 ers.length e5,ers,.slice e3 eds.length e6,eds⟩:InstQ)).Nodup∧∀ k∈instK.foot (⟨eh,.slice e1 ebs.length e4,ebs,.slice e2 ers.length e5,ers,.slice e3 eds.length e6,eds⟩:InstQ),k∈instK.foot (⟨has,.slice ba batch.length bk,batch,.slice va rounds.length vk,rounds,.slice da dec.length dk,dec⟩:InstQ)∨w.heap.size≤k):=⟨HDD.out,n2,fun k hk=>Or.inr (by have:=L2 k hk;omega)⟩
   clear oq o2 hS hg hUr
   go_wp2_with (first | (refine st_row (by kernel_rfl) 39 _ _ rfl _ #[.int .i64 0,.int .i64 K0,.bool K1,.bool K2,.int .i64 K3,.bool eh,.slice e1 ebs.length e4,.slice e2 ers.length e5,.slice e3 eds.length e6] rfl rfl 39 _ G8 hsr8 rfl (by simp [Value.oneCell']) ?_) | (refine st_row (by kernel_rfl) 28 _ _ rfl _ #[.bool eh,.slice e1 ebs.length e4,.slice e2 ers.length e5,.slice e3 eds.length e6] rfl rfl 28 _ R0 hsr rfl (by simp [Value.oneCell']) ?_))
   obtain ⟨q0,q1,q2,q3⟩:=Rr.cel4
   exact bodyPost_ret (v:=.agg #[.bool eh,.slice e1 ebs.length e4,.slice e2 ers.length e5,.slice e3 eds.length e6]) (by simp [results,Tryz.results20,go_sem,q0,q1,q2,q3]) rfl ⟨(⟨eh,.slice e1 ebs.length e4,ebs,.slice e2 ers.length e5,ers,.slice e3 eds.length e6,eds⟩:InstQ),rfl,HI.out.1,HZ.out.1,HI.out.2.1,HI.out.2.2,HZ.out.2.1,HZ.out.2.2⟩
 ·skip
  go_wp2_with fail
  refine (next_any B b (T + 5) 2 X hS (by omega) (by omega)).mono ?_
  rintro e x7 ⟨cn,rfl,hcn,hSn,hgn⟩
  replace hS:=hSn
  have hU:Out [b] _ _:=Out.of_grown hgn
  clear hgn hSn
  replace A0:=A0.outs hU (fun hk=>by simp only [List.mem_singleton] at hk;omega)
  replace R0:=R0.outs hU (fun hk=>by simp only [List.mem_singleton] at hk;omega)
  replace G8:=G8.outs hU (fun hk=>by simp only [List.mem_singleton] at hk;omega)
  replace oq:=instK.own_out oq hU (fun k hk hk' => by simp only [List.mem_singleton] at hk';subst hk';exact hbq hk)
  replace o2:=instK.own_out o2 hU (fun k hk hk' => by simp only [List.mem_singleton] at hk';have:=L2 k hk;omega)
  replace hg:=hg.trans hU
  clear hU
  go_wp2_with fail
  refine (l6GoOn_any w.heap.size 0 (⟨has,.slice ba batch.length bk,batch,.slice va rounds.length vk,rounds,.slice da dec.length dk,dec⟩:InstQ) r1 r2 mk cn x7 (⟨⟨A0.cell 0 _ rfl,A0.cell 1 _ rfl,A0.cell 2 _ rfl,A0.cell 3 _ rfl⟩,instK.own_rd oq⟩:InstP _ w.heap.size 0 (⟨has,.slice ba batch.length bk,batch,.slice va rounds.length vk,rounds,.slice da dec.length dk,dec⟩:InstQ)) A0.lt hl h0).mono ?_
  rintro e x9 ⟨q9,rfl,e9,o9,n9,g9,hb9⟩
  clear o2 n2 L2 HD2
  have hs9:=hb9.size
  have h8lt:=G8.lt
  replace hS:=hS.below hb9
  have hU:Out [b] _ _:=Out.of_below hb9
  clear hb9
  replace A0:=A0.outs hU (fun hk=>by simp only [List.mem_singleton] at hk;omega)
  replace R0:=R0.outs hU (fun hk=>by simp only [List.mem_singleton] at hk;omega)
  replace G8:=G8.outs hU (fun hk=>by simp only [List.mem_singleton] at hk;omega)
  replace oq:=instK.own_out oq hU (fun k hk hk' => by simp only [List.mem_singleton] at hk';subst hk';exact hbq hk)
  replace hg:=hg.trans hU
  clear hU
  have HD2:Hid (goC (InstQ.e (⟨has,.slice ba batch.length bk,batch,.slice va rounds.length vk,rounds,.slice da dec.length dk,dec⟩:InstQ)) r1 r2 mk cn=0→insF q9.e=0):=fun h9=>by rw [e9];exact (ins_go h9).1
  have n2:=n9
  have L2:∀ k∈instK.foot q9,g8 < k:=fun k hk=>by have:=g9 k hk;omega
  have o2:=o9
  clear n9 g9 o9 e9
  generalize goZ (InstQ.e (⟨has,.slice ba batch.length bk,batch,.slice va rounds.length vk,rounds,.slice da dec.length dk,dec⟩:InstQ)) r1 r2 mk cn=K0 at *
  generalize goD (InstQ.e (⟨has,.slice ba batch.length bk,batch,.slice va rounds.length vk,rounds,.slice da dec.length dk,dec⟩:InstQ)) r1 r2 mk cn=K1 at *
  generalize goK (InstQ.e (⟨has,.slice ba batch.length bk,batch,.slice va rounds.length vk,rounds,.slice da dec.length dk,dec⟩:InstQ)) r1 r2 mk cn=K2 at *
  generalize goV (InstQ.e (⟨has,.slice ba batch.length bk,batch,.slice va rounds.length vk,rounds,.slice da dec.length dk,dec⟩:InstQ)) r1 r2 mk cn=K3 at *
  generalize goC (InstQ.e (⟨has,.slice ba batch.length bk,batch,.slice va rounds.length vk,rounds,.slice da dec.length dk,dec⟩:InstQ)) r1 r2 mk cn=E0 at *
  obtain ⟨eh,eb,ebs,er,ers,ed,eds⟩:=q9
  obtain ⟨e1,e4,rfl⟩:∃ a c,eb=.slice a ebs.length c:=o2.1.shape
  obtain ⟨e2,e5,rfl⟩:∃ a c,er=.slice a ers.length c:=o2.2.1.shape
  obtain ⟨e3,e6,rfl⟩:∃ a c,ed=.slice a eds.length c:=o2.2.2.shape
  have Gr:=G8.row #[.int .i64 E0,.int .i64 K0,.bool K1,.bool K2,.int .i64 K3,.bool eh,.slice e1 ebs.length e4,.slice e2 ers.length e5,.slice e3 eds.length e6]
  have hsr8:(Tryz.prog.info? 39).map (·.size)=some (#[.int .i64 E0,.int .i64 K0,.bool K1,.bool K2,.int .i64 K3,.bool eh,.slice e1 ebs.length e4,.slice e2 ers.length e5,.slice e3 eds.length e6]:Array Value).size:=sz_res
  have hU8:=out_row x9 g8 #[.int .i64 E0,.int .i64 K0,.bool K1,.bool K2,.int .i64 K3,.bool eh,.slice e1 ebs.length e4,.slice e2 ers.length e5,.slice e3 eds.length e6]
  have hS9:Src B (x9.setRow g8 #[.int .i64 E0,.int .i64 K0,.bool K1,.bool K2,.int .i64 K3,.bool eh,.slice e1 ebs.length e4,.slice e2 ers.length e5,.slice e3 eds.length e6]) b (T + 5 + 1):=hS.out hU8 (by simp only [List.mem_singleton];omega) (fun k hk=>by simp only [List.mem_singleton] at hk;omega)
  have A9:=A0.outs hU8 (fun hk=>by simp only [List.mem_singleton] at hk;omega)
  have R9:=R0.outs hU8 (fun hk=>by simp only [List.mem_singleton] at hk;omega)
  have oq9:=instK.own_out oq hU8 (fun k hk hk' => by simp only [List.mem_singleton] at hk';have:=HLQ.out k hk;omega)
  have o29:=instK.own_out o2 hU8 (fun k hk hk' => by simp only [List.mem_singleton] at hk';have:=L2 k hk;omega)
  have hg9:Out [b] w (x9.setRow g8 #[.int .i64 E0,.int .i64 K0,.bool K1,.bool K2,.int .i64 K3,.bool eh,.slice e1 ebs.length e4,.slice e2 ers.length e5,.slice e3 eds.length e6]):=⟨hU8.os.trans hg.os,hU8.tape.trans hg.tape,hU8.output.trans hg.output,Nat.le_trans hg.size hU8.size,fun k hk hne=>(hU8.block k (Nat.lt_of_lt_of_le hk hg.size) (by simp only [List.mem_singleton];omega)).trans (hg.block k hk hne)⟩
  clear oq o2 hg A0 R0 hU8 hS
  have oq:=oq9
  have o2:=o29
  have hg:=hg9
  have A0:=A9
  have R0:=R9
  have hS:=hS9
  have G9:=Gr
  have g0:=G9.cell 0 _ rfl
  obtain ⟨p0,p1,p2,p3⟩:=A0.cel4
  have p5:=G9.cell 5 _ rfl
  have p6:=G9.cell 6 _ rfl
  have p7:=G9.cell 7 _ rfl
  have p8:=G9.cell 8 _ rfl
  clear oq9 o29 hg9 A9 R9 Gr hS9
  by_cases hD:E0=0
  case neg=>
   have hD' : (E0 != 0)=true:=by simpa using hD
   have Rr:=R0.row #[.bool has,.slice ba batch.length bk,.slice va rounds.length vk,.slice da dec.length dk]
   have hsr:(Tryz.prog.info? 28).map (·.size)=some (#[.bool has,.slice ba batch.length bk,.slice va rounds.length vk,.slice da dec.length dk]:Array Value).size:=sz_inst
   have hUr:=out_row (x9.setRow g8 #[.int .i64 E0,.int .i64 K0,.bool K1,.bool K2,.int .i64 K3,.bool eh,.slice e1 ebs.length e4,.slice e2 ers.length e5,.slice e3 eds.length e6]) (w.heap.size + 1) #[.bool has,.slice ba batch.length bk,.slice va rounds.length vk,.slice da dec.length dk]
   have HZ:Hid (instK.own ((x9.setRow g8 #[.int .i64 E0,.int .i64 K0,.bool K1,.bool K2,.int .i64 K3,.bool eh,.slice e1 ebs.length e4,.slice e2 ers.length e5,.slice e3 eds.length e6]).setRow (w.heap.size + 1) #[.bool has,.slice ba batch.length bk,.slice va rounds.length vk,.slice da dec.length dk]) (⟨has,.slice ba batch.length bk,batch,.slice va rounds.length vk,rounds,.slice da dec.length dk,dec⟩:InstQ)∧Src B ((x9.setRow g8 #[.int .i64 E0,.int .i64 K0,.bool K1,.bool K2,.int .i64 K3,.bool eh,.slice e1 ebs.length e4,.slice e2 ers.length e5,.slice e3 eds.length e6]).setRow (w.heap.size + 1) #[.bool has,.slice ba batch.length bk,.slice va rounds.length vk,.slice da dec.length dk]) b (T + 60)∧w.grownBy ((x9.setRow g8 #[.int .i64 E0,.int .i64 K0,.bool K1,.bool K2,.int .i64 K3,.bool eh,.slice e1 ebs.length e4,.slice e2 ers.length e5,.slice e3 eds.length e6]).setRow (w.heap.size + 1) #[.bool has,.slice ba batch.length bk,.slice va rounds.length vk,.slice da dec.length dk]) (some b)):=by
    refine ⟨instK.own_out oq hUr (fun k hk hk' => by simp only [List.mem_singleton] at hk';have:=HLQ.out k hk;omega),?_,?_⟩
    ·exact (hS.out hUr (by simp only [List.mem_singleton];omega) (fun k hk=>by simp only [List.mem_singleton] at hk;omega)).mono (by omega)
    ·exact grown_out (wr:=x9.setRow g8 #[.int .i64 E0,.int .i64 K0,.bool K1,.bool K2,.int .i64 K3,.bool eh,.slice e1 ebs.length e4,.slice e2 ers.length e5,.slice e3 eds.length e6]) ⟨hg.os,hg.tape,hg.output,hg.size,fun k hk hne=>hg.block k hk (by simp only [List.mem_singleton];intro e;exact hne (by rw [e]))⟩ hUr (fun k hk=>by simp only [List.mem_singleton] at hk;omega)
   have HI:Hid (insF (InstQ.e (⟨has,.slice ba batch.length bk,batch,.slice va rounds.length vk,rounds,.slice da dec.length dk,dec⟩:InstQ))=0∧(instK.foot (⟨has,.slice ba batch.length bk,batch,.slice va rounds.length vk,rounds,.slice da dec.length dk,dec⟩:InstQ)).Nodup∧∀ k∈instK.foot (⟨has,.slice ba batch.length bk,batch,.slice va rounds.length vk,rounds,.slice da dec.length dk,dec⟩:InstQ),k∈instK.foot (⟨has,.slice ba batch.length bk,batch,.slice va rounds.length vk,rounds,.slice da dec.length dk,dec⟩:InstQ)∨w.heap.size≤k):=⟨HI0.out,HNQ.out,fun k hk=>Or.inl hk⟩
   clear oq o2 hS hg hUr
   go_wp2_with (first | (refine st_row (by kernel_rfl) 39 _ _ rfl _ #[.int .i64 E0,.int .i64 K0,.bool K1,.bool K2,.int .i64 K3,.bool eh,.slice e1 ebs.length e4,.slice e2 ers.length e5,.slice e3 eds.length e6] rfl rfl 39 _ G8 hsr8 rfl (by simp [Value.oneCell']) ?_) | (refine st_row (by kernel_rfl) 28 _ _ rfl _ #[.bool has,.slice ba batch.length bk,.slice va rounds.length vk,.slice da dec.length dk] rfl rfl 28 _ R0 hsr rfl (by simp [Value.oneCell']) ?_))
   obtain ⟨q0,q1,q2,q3⟩:=Rr.cel4
   exact bodyPost_ret (v:=.agg #[.bool has,.slice ba batch.length bk,.slice va rounds.length vk,.slice da dec.length dk]) (by simp [results,Tryz.results20,go_sem,q0,q1,q2,q3]) rfl ⟨(⟨has,.slice ba batch.length bk,batch,.slice va rounds.length vk,rounds,.slice da dec.length dk,dec⟩:InstQ),rfl,HI.out.1,HZ.out.1,HI.out.2.1,HI.out.2.2,HZ.out.2.1,HZ.out.2.2⟩

  case pos=>
   have HDD:Hid (insF (InstQ.e (⟨eh,.slice e1 ebs.length e4,ebs,.slice e2 ers.length e5,ers,.slice e3 eds.length e6,eds⟩:InstQ))=0):=HD2.out hD
   subst hD
   have Rr:=R0.row #[.bool eh,.slice e1 ebs.length e4,.slice e2 ers.length e5,.slice e3 eds.length e6]
   have hsr:(Tryz.prog.info? 28).map (·.size)=some (#[.bool eh,.slice e1 ebs.length e4,.slice e2 ers.length e5,.slice e3 eds.length e6]:Array Value).size:=sz_inst
   have hUr:=out_row (x9.setRow g8 #[.int .i64 0,.int .i64 K0,.bool K1,.bool K2,.int .i64 K3,.bool eh,.slice e1 ebs.length e4,.slice e2 ers.length e5,.slice e3 eds.length e6]) (w.heap.size + 1) #[.bool eh,.slice e1 ebs.length e4,.slice e2 ers.length e5,.slice e3 eds.length e6]
   have HZ:Hid (instK.own ((x9.setRow g8 #[.int .i64 0,.int .i64 K0,.bool K1,.bool K2,.int .i64 K3,.bool eh,.slice e1 ebs.length e4,.slice e2 ers.length e5,.slice e3 eds.length e6]).setRow (w.heap.size + 1) #[.bool eh,.slice e1 ebs.length e4,.slice e2 ers.length e5,.slice e3 eds.length e6]) (⟨eh,.slice e1 ebs.length e4,ebs,.slice e2 ers.length e5,ers,.slice e3 eds.length e6,eds⟩:InstQ)∧Src B ((x9.setRow g8 #[.int .i64 0,.int .i64 K0,.bool K1,.bool K2,.int .i64 K3,.bool eh,.slice e1 ebs.length e4,.slice e2 ers.length e5,.slice e3 eds.length e6]).setRow (w.heap.size + 1) #[.bool eh,.slice e1 ebs.length e4,.slice e2 ers.length e5,.slice e3 eds.length e6]) b (T + 60)∧w.grownBy ((x9.setRow g8 #[.int .i64 0,.int .i64 K0,.bool K1,.bool K2,.int .i64 K3,.bool eh,.slice e1 ebs.length e4,.slice e2 ers.length e5,.slice e3 eds.length e6]).setRow (w.heap.size + 1) #[.bool eh,.slice e1 ebs.length e4,.slice e2 ers.length e5,.slice e3 eds.length e6]) (some b)):=by
    refine ⟨instK.own_out o2 hUr (fun k hk hk' => by simp only [List.mem_singleton] at hk';have:=L2 k hk;omega),?_,?_⟩
    ·exact (hS.out hUr (by simp only [List.mem_singleton];omega) (fun k hk=>by simp only [List.mem_singleton] at hk;omega)).mono (by omega)
    ·exact grown_out (wr:=x9.setRow g8 #[.int .i64 0,.int .i64 K0,.bool K1,.bool K2,.int .i64 K3,.bool eh,.slice e1 ebs.length e4,.slice e2 ers.length e5,.slice e3 eds.length e6]) ⟨hg.os,hg.tape,hg.output,hg.size,fun k hk hne=>hg.block k hk (by simp only [List.mem_singleton];intro e;exact hne (by rw [e]))⟩ hUr (fun k hk=>by simp only [List.mem_singleton] at hk;omega)
   have HI:Hid (insF (InstQ.e (⟨eh,.slice e1 ebs.length e4,ebs,.slice e2 ers.length e5,ers,.slice e3 eds.length e6,eds⟩:InstQ))=0∧(instK.foot (⟨eh,.slice e1 ebs.length e4,ebs,.slice e2 ers.length e5,ers,.slice e3 eds.length e6,eds⟩:InstQ)).Nodup∧∀ k∈instK.foot (⟨eh,.slice e1 ebs.length e4,ebs,.slice e2 ers.length e5,ers,.slice e3 eds.length e6,eds⟩:InstQ),k∈instK.foot (⟨has,.slice ba batch.length bk,batch,.slice va rounds.length vk,rounds,.slice da dec.length dk,dec⟩:InstQ)∨w.heap.size≤k):=⟨HDD.out,n2,fun k hk=>Or.inr (by have:=L2 k hk;omega)⟩
   clear oq o2 hS hg hUr
   go_wp2_with (first | (refine st_row (by kernel_rfl) 39 _ _ rfl _ #[.int .i64 0,.int .i64 K0,.bool K1,.bool K2,.int .i64 K3,.bool eh,.slice e1 ebs.length e4,.slice e2 ers.length e5,.slice e3 eds.length e6] rfl rfl 39 _ G8 hsr8 rfl (by simp [Value.oneCell']) ?_) | (refine st_row (by kernel_rfl) 28 _ _ rfl _ #[.bool eh,.slice e1 ebs.length e4,.slice e2 ers.length e5,.slice e3 eds.length e6] rfl rfl 28 _ R0 hsr rfl (by simp [Value.oneCell']) ?_))
   obtain ⟨q0,q1,q2,q3⟩:=Rr.cel4
   exact bodyPost_ret (v:=.agg #[.bool eh,.slice e1 ebs.length e4,.slice e2 ers.length e5,.slice e3 eds.length e6]) (by simp [results,Tryz.results20,go_sem,q0,q1,q2,q3]) rfl ⟨(⟨eh,.slice e1 ebs.length e4,ebs,.slice e2 ers.length e5,ers,.slice e3 eds.length e6,eds⟩:InstQ),rfl,HI.out.1,HZ.out.1,HI.out.2.1,HI.out.2.2,HZ.out.2.1,HZ.out.2.2⟩
 ·skip
  have g0:=G8.cell 0 _ rfl
  by_cases hD:D=0
  case neg=>
   have hD' : (D != 0)=true:=by simpa using hD
   have Rr:=R0.row #[.bool has,.slice ba batch.length bk,.slice va rounds.length vk,.slice da dec.length dk]
   have hsr:(Tryz.prog.info? 28).map (·.size)=some (#[.bool has,.slice ba batch.length bk,.slice va rounds.length vk,.slice da dec.length dk]:Array Value).size:=sz_inst
   have hUr:=out_row X (w.heap.size + 1) #[.bool has,.slice ba batch.length bk,.slice va rounds.length vk,.slice da dec.length dk]
   have HZ:Hid (instK.own (X.setRow (w.heap.size + 1) #[.bool has,.slice ba batch.length bk,.slice va rounds.length vk,.slice da dec.length dk]) (⟨has,.slice ba batch.length bk,batch,.slice va rounds.length vk,rounds,.slice da dec.length dk,dec⟩:InstQ)∧Src B (X.setRow (w.heap.size + 1) #[.bool has,.slice ba batch.length bk,.slice va rounds.length vk,.slice da dec.length dk]) b (T + 60)∧w.grownBy (X.setRow (w.heap.size + 1) #[.bool has,.slice ba batch.length bk,.slice va rounds.length vk,.slice da dec.length dk]) (some b)):=by
    refine ⟨instK.own_out oq hUr (fun k hk hk' => by simp only [List.mem_singleton] at hk';have:=HLQ.out k hk;omega),?_,?_⟩
    ·exact (hS.out hUr (by simp only [List.mem_singleton];omega) (fun k hk=>by simp only [List.mem_singleton] at hk;omega)).mono (by omega)
    ·exact grown_out (wr:=X) ⟨hg.os,hg.tape,hg.output,hg.size,fun k hk hne=>hg.block k hk (by simp only [List.mem_singleton];intro e;exact hne (by rw [e]))⟩ hUr (fun k hk=>by simp only [List.mem_singleton] at hk;omega)
   have HI:Hid (insF (InstQ.e (⟨has,.slice ba batch.length bk,batch,.slice va rounds.length vk,rounds,.slice da dec.length dk,dec⟩:InstQ))=0∧(instK.foot (⟨has,.slice ba batch.length bk,batch,.slice va rounds.length vk,rounds,.slice da dec.length dk,dec⟩:InstQ)).Nodup∧∀ k∈instK.foot (⟨has,.slice ba batch.length bk,batch,.slice va rounds.length vk,rounds,.slice da dec.length dk,dec⟩:InstQ),k∈instK.foot (⟨has,.slice ba batch.length bk,batch,.slice va rounds.length vk,rounds,.slice da dec.length dk,dec⟩:InstQ)∨w.heap.size≤k):=⟨HI0.out,HNQ.out,fun k hk=>Or.inl hk⟩
   obtain ⟨p0,p1,p2,p3⟩:=A0.cel4
   clear oq o2 hS hg
   go_wp2_with (first | (refine st_row (by kernel_rfl) 28 _ _ rfl _ #[.bool has,.slice ba batch.length bk,.slice va rounds.length vk,.slice da dec.length dk] rfl rfl 28 _ R0 hsr rfl (by simp [Value.oneCell']) ?_))
   obtain ⟨q0,q1,q2,q3⟩:=Rr.cel4
   exact bodyPost_ret (v:=.agg #[.bool has,.slice ba batch.length bk,.slice va rounds.length vk,.slice da dec.length dk]) (by simp [results,Tryz.results20,go_sem,q0,q1,q2,q3]) rfl ⟨(⟨has,.slice ba batch.length bk,batch,.slice va rounds.length vk,rounds,.slice da dec.length dk,dec⟩:InstQ),rfl,HI.out.1,HZ.out.1,HI.out.2.1,HI.out.2.2,HZ.out.2.1,HZ.out.2.2⟩

  case pos=>
   have hD' : (D != 0)=false:=by rw [hD];rfl
   have Rr:=R0.row #[.bool ch,.slice c1 cbs.length c4,.slice c2 crs.length c5,.slice c3 cds.length c6]
   have hsr:(Tryz.prog.info? 28).map (·.size)=some (#[.bool ch,.slice c1 cbs.length c4,.slice c2 crs.length c5,.slice c3 cds.length c6]:Array Value).size:=sz_inst
   have hUr:=out_row X (w.heap.size + 1) #[.bool ch,.slice c1 cbs.length c4,.slice c2 crs.length c5,.slice c3 cds.length c6]
   have HZ:Hid (instK.own (X.setRow (w.heap.size + 1) #[.bool ch,.slice c1 cbs.length c4,.slice c2 crs.length c5,.slice c3 cds.length c6]) (⟨ch,.slice c1 cbs.length c4,cbs,.slice c2 crs.length c5,crs,.slice c3 cds.length c6,cds⟩:InstQ)∧Src B (X.setRow (w.heap.size + 1) #[.bool ch,.slice c1 cbs.length c4,.slice c2 crs.length c5,.slice c3 cds.length c6]) b (T + 60)∧w.grownBy (X.setRow (w.heap.size + 1) #[.bool ch,.slice c1 cbs.length c4,.slice c2 crs.length c5,.slice c3 cds.length c6]) (some b)):=by
    refine ⟨instK.own_out o2 hUr (fun k hk hk' => by simp only [List.mem_singleton] at hk';have:=L2 k hk;omega),?_,?_⟩
    ·exact (hS.out hUr (by simp only [List.mem_singleton];omega) (fun k hk=>by simp only [List.mem_singleton] at hk;omega)).mono (by omega)
    ·exact grown_out (wr:=X) ⟨hg.os,hg.tape,hg.output,hg.size,fun k hk hne=>hg.block k hk (by simp only [List.mem_singleton];intro e;exact hne (by rw [e]))⟩ hUr (fun k hk=>by simp only [List.mem_singleton] at hk;omega)
   have HI:Hid (insF (InstQ.e (⟨ch,.slice c1 cbs.length c4,cbs,.slice c2 crs.length c5,crs,.slice c3 cds.length c6,cds⟩:InstQ))=0∧(instK.foot (⟨ch,.slice c1 cbs.length c4,cbs,.slice c2 crs.length c5,crs,.slice c3 cds.length c6,cds⟩:InstQ)).Nodup∧∀ k∈instK.foot (⟨ch,.slice c1 cbs.length c4,cbs,.slice c2 crs.length c5,crs,.slice c3 cds.length c6,cds⟩:InstQ),k∈instK.foot (⟨has,.slice ba batch.length bk,batch,.slice va rounds.length vk,rounds,.slice da dec.length dk,dec⟩:InstQ)∨w.heap.size≤k):=⟨HD2.out hD,n2,fun k hk=>Or.inr (by have:=L2 k hk;omega)⟩
   have p5:=G8.cell 5 _ rfl
   have p6:=G8.cell 6 _ rfl
   have p7:=G8.cell 7 _ rfl
   have p8:=G8.cell 8 _ rfl
   clear oq o2 hS hg hD
   go_wp2_with (first | (refine st_row (by kernel_rfl) 28 _ _ rfl _ #[.bool ch,.slice c1 cbs.length c4,.slice c2 crs.length c5,.slice c3 cds.length c6] rfl rfl 28 _ R0 hsr rfl (by simp [Value.oneCell']) ?_))
   obtain ⟨q0,q1,q2,q3⟩:=Rr.cel4
   exact bodyPost_ret (v:=.agg #[.bool ch,.slice c1 cbs.length c4,.slice c2 crs.length c5,.slice c3 cds.length c6]) (by simp [results,Tryz.results20,go_sem,q0,q1,q2,q3]) rfl ⟨(⟨ch,.slice c1 cbs.length c4,cbs,.slice c2 crs.length c5,crs,.slice c3 cds.length c6,cds⟩:InstQ),rfl,HI.out.1,HZ.out.1,HI.out.2.1,HI.out.2.2,HZ.out.2.1,HZ.out.2.2⟩

end Go.Proofs.YtdhdnppbgaikfaaGreatDoor
