/- Texts joined, with what the laws reach alone. -/
import Derived.Test.YtfdkcbafpiojkaaGreatDoorSGBR
import Derived.Test.YtfdkcbafpiojkaaGreatDoorSGBA
set_option linter.unusedVariables false
set_option linter.unusedSimpArgs false
namespace Go.Proofs.YtfdkcbafpiojkaaGreatDoor
open Go.RowKit Go.Maps
open Go.BigFrame
set_option maxRecDepth 100000
theorem TxnRow.ownK9 {base:Nat} {w:World} {v:Value} {ps:List TxnP} (h:TxnRow base w v ps):txnK.Own w v (ps.map TxnP.qk):=by
 refine ⟨?_,fun q hq=>?_⟩
 ·rw [List.length_map,row_qk]
  exact own_base h.1 (Nat.zero_le _)
 ·obtain ⟨p,hp,rfl⟩:=List.mem_map.1 hq
  exact ⟨own_base (h.2.1 p hp).1 (Nat.zero_le _),fun _ _=>trivial⟩

theorem TxnRow.lowfp9 {base:Nat} {w:World} {v:Value} {ps:List TxnP} (h:TxnRow base w v ps):∀ k∈txnK.fp v (ps.map TxnP.qk),base≤k:=by
 have key:∀ (e s n:Nat) (u:Value) (xs:List Value),w.ownsRow base e s u n xs→∀ k∈blk u,base≤k:=by
  intro e s n u xs hu k hk
  unfold blk at hk
  cases hb:u.ownBlock with
  | none=>rw [hb] at hk;simp at hk
  | some x=>
   rw [hb] at hk
   simp at hk
   rw [hk]
   exact (hu.lt x hb).1
 intro k hk
 rcases List.mem_append.1 hk with hk | hk
 ·exact key _ _ _ _ _ h.1 k hk
 ·obtain ⟨q,hq,hk⟩:=List.mem_flatMap.1 hk
  obtain ⟨p,hp,rfl⟩:=List.mem_map.1 hq
  have hk2:k∈actK.fp p.sl p.d.acts:=hk
  rw [actK_fp] at hk2
  exact key _ _ _ _ _ (h.2.1 p hp).1 k hk2

theorem nmL_five {qs:List TxnQ} (h:∀ q∈qs,q.acts.length≤5):nmL TxnQ.n qs≤5 * qs.length:=by
 induction qs with
 | nil=>simp [nmL]
 | cons q r ih=>
  have h1:=ih (fun x hx=>h x (List.mem_cons_of_mem _ hx))
  have h2:TxnQ.n q≤5:=h q (List.mem_cons_self ..)
  simp only [nmL,List.map_cons,List.sum_cons,List.length_cons] at h1 ⊢
  omega

theorem nmL_take {P:Type} {nm:P→Nat} (qs:List P) (m:Nat):nmL nm (qs.take m)≤nmL nm qs:=by
 induction qs generalizing m with
 | nil=>simp [nmL]
 | cons q r ih=>
  cases m with
  | zero=>simp [nmL]
  | succ m=>
   have:=ih m
   simp only [nmL,List.take_succ_cons,List.map_cons,List.sum_cons] at this ⊢
   omega

theorem acts_pos9 {d:TxnD} (h:d.F=0):0 < d.acts.length:=by
 unfold TxnD.F txnF at h
 cases hd:d.acts with
 | nil=>rw [hd] at h;revert h;simp;split <;> simp
 | cons x r=>simp

theorem wit_n9 {ps qs:List TxnQ} {gs:List TxnD} (h:qs.map TxnQ.e=witL (ps.map TxnQ.e) gs):qs.length + nmL TxnQ.n qs≤ps.length + nmL TxnQ.n ps:=by
 have e1:∀ l:List TxnQ,l.length + nmL TxnQ.n l=(l.map TxnQ.e).length + nmL TxnD.n (l.map TxnQ.e):=fun l=>by
  rw [List.length_map]
  congr 1
  simp only [nmL,List.map_map]
  rfl
 rw [e1 qs,e1 ps,h]
 generalize ps.map TxnQ.e=ds
 induction ds with
 | nil=>simp [witL,nmL]
 | cons d r ih=>
  simp only [witL,List.filter_cons,nmL,List.map_cons,List.sum_cons,List.length_cons] at ih ⊢
  split
  ·simp only [List.map_cons,List.sum_cons,List.length_cons];omega
  ·omega

set_option maxRecDepth 100000 in
set_option maxHeartbeats 8000000 in
theorem drawDeliver_any (a0:Option Addr) (cap0:Nat) (zs:List Int) (w:World) (h:Row .u8 w a0 zs) (hu:∀ i,0≤zs.getD i 0∧zs.getD i 0≤255) (hl:zs.length≤1048576) :
  Calls Tryz.prog 39 #[.slice a0 zs.length cap0] w fun e w' => ∃ (q:RepQ) (v:Value) (fs:List TxnQ),e=.returned (.tuple #[.agg #[q.vd,q.vb,q.vt,q.vu,q.vn],v])∧q.n≤3000∧repK.own w' q∧txnK.Own w' v fs∧fs.length + nmL TxnQ.n fs≤3000∧Below w.heap.size w w' := by
 have hB:Below w.heap.size w (w.alloc (.cells #[.slice none 0 0,.slice none 0 0,.slice none 0 0,.slice none 0 0,.slice none 0 0] 32)):=by go_grown
 have R0:=(Blk.new w 32 #[.slice none 0 0,.slice none 0 0,.slice none 0 0,.slice none 0 0,.slice none 0 0])
 have hs0:w.heap.size + 0 < (w.alloc (.cells #[.slice none 0 0,.slice none 0 0,.slice none 0 0,.slice none 0 0,.slice none 0 0] 32)).heap.size:=by simp only [World.size_alloc];omega
 have hrow:=h.below hB
 go_enter Tryz.func39,Tryz.ntmps39
 go_wp2_with fail
 generalize (w.alloc (.cells #[.slice none 0 0,.slice none 0 0,.slice none 0 0,.slice none 0 0,.slice none 0 0] 32))=W at *
 refine (source_any W.heap.size a0 cap0 zs W (Nat.le_refl _) hl hu hrow).mono ?_
 rintro e w1 ⟨rfl,hS,hb1⟩
 replace R0:=R0.below hb1
 replace hB:=hB.trans (hb1.mono hB.size)
 generalize hSB:W.heap.size=b at *
 have hlt:=hS.lt
 clear hb1 hrow
 go_wp2_with fail
 refine (l9Bent_any b b 0 w1 hS (by omega)).mono ?_
 rintro e w2 ⟨q,rfl,hqn,oq,gq,hSn,hgn⟩
 replace hS:=hSn
 replace R0:=R0.grown hgn (by simp only [ne_eq,Option.some.injEq];omega)
 replace hB:=hB.grown hgn hB.size (fun k hk=>by simp at hk;omega)
 have low:∀ k∈repK.foot q,b < k∧k < w2.heap.size:=fun k hk=>⟨by have:=gq k hk;omega,repK.own_lt oq k hk⟩
 have HN:Hid (q.n≤3000):=hqn
 have hs1:b < w2.heap.size:=by have:=hgn.size;omega
 clear hSn hgn gq hqn
 obtain ⟨qvd,qd,qvb,qb,qvt,qt,qvu,qu,qvn,qn⟩:=q
 obtain ⟨s0,t0,rfl⟩:∃ a c,qvd=.slice a qd.length c:=oq.1.shape
 obtain ⟨s1,t1,rfl⟩:∃ a c,qvb=.slice a qb.length c:=oq.2.1.shape
 obtain ⟨s2,t2,rfl⟩:∃ a c,qvt=.slice a qt.length c:=oq.2.2.1.shape
 obtain ⟨s3,t3,rfl⟩:∃ a c,qvu=.slice a qu.length c:=oq.2.2.2.1.shape
 obtain ⟨s4,t4,rfl⟩:∃ a c,qvn=.slice a qn.length c:=oq.2.2.2.2.shape
 have Bx:=Blk.new w2 32 #[.slice s0 qd.length t0,.slice s1 qb.length t1,.slice s2 qt.length t2,.slice s3 qu.length t3,.slice s4 qn.length t4]
 have hbx:Below w2.heap.size w2 (w2.alloc (.cells #[.slice s0 qd.length t0,.slice s1 qb.length t1,.slice s2 qt.length t2,.slice s3 qu.length t3,.slice s4 qn.length t4] 32)):=by go_grown
 replace oq:=repK.own_out (F:=[]) oq (Out.of_below hbx) (fun _ _=>by simp)
 replace R0:=R0.below hbx
 replace hS:=hS.below hbx
 have hs2:w.heap.size≤w2.heap.size:=hB.size
 replace hB:=hB.trans (hbx.mono hs2)
 clear hbx
 go_wp2_with fail
 generalize w2.alloc (.cells #[.slice s0 qd.length t0,.slice s1 qb.length t1,.slice s2 qt.length t2,.slice s3 qu.length t3,.slice s4 qn.length t4] 32)=X at *
 generalize hgg:w2.heap.size=g at *
 have p2:=keep_cell (F:=[b]) (Bx.cell 2 _ rfl) (by simp only [List.mem_cons,List.not_mem_nil,or_false];omega)
 have hne:Nonempty (KeepP (Out [b] X)):=⟨⟨X,Out.refl _ _⟩⟩
 have hql:(qt.length:Int)≤3000:=by have:=HN.out;dsimp only [RepQ.n] at this;omega
 have hbd:Below X.heap.size X X.drew:=(Below.refl _ _).drew
 have hO:Out [b] X X.drew:=Out.of_below hbd
 refine text_begin (S:=fun w' => ∃ u:KeepP (Out [b] X),w' = u.val) (by kernel_rfl) ?_
 refine seg_range [(0,5)] 6 (by kernel_rfl) (by kernel_rfl) (by kernel_rfl) (by kernel_rfl) (by kernel_rfl) ⟨⟨_,hO⟩,rfl⟩ ?_
 simp only [pickR,List.toList_toArray,List.flatMap_cons,List.flatMap_nil,List.drop_succ_cons,List.drop_zero,List.take_succ_cons,List.take_zero,List.cons_append,List.nil_append,List.append_nil]
 repeat go_big_quiet_step (fail)
 refine wpQuiet_nil ?_
 clear p2
 refine quiet_at 5 (some 16) (.int .i64 qt.length) 5 (by kernel_rfl) (by kernel_rfl) (by kernel_rfl) (by kernel_rfl) (by kernel_rfl) (fun u _=>by kernel_rfl) ⟨⟨_,hO⟩,rfl⟩ ?_
 simp only [Act.put,List.setIfInBounds_toArray,List.set_cons_zero,List.set_cons_succ]
 refine seg_range [(6,1)] 4 (by kernel_rfl) (by kernel_rfl) (by kernel_rfl) (by kernel_rfl) (by kernel_rfl) ⟨⟨_,hO⟩,rfl⟩ ?_
 simp only [pickR,List.toList_toArray,List.flatMap_cons,List.flatMap_nil,List.drop_succ_cons,List.drop_zero,List.take_succ_cons,List.take_zero,List.cons_append,List.nil_append,List.append_nil]
 repeat go_big_quiet_step (fail)
 refine wpQuiet_nil ?_
 replace R0:=R0.below hbd
 replace Bx:=Bx.below hbd
 replace oq:=repK.own_out (F:=[]) oq (Out.of_below hbd) (fun _ _=>by simp)
 replace hB:=hB.trans (hbd.mono hB.size)
 replace hS:=hS.below hbd
 clear hbd
 generalize X.drew=Y0 at *
 refine call_at 7 (some 18) 93 #[.pointer (some ⟨b,0,none⟩),.int .i64 ((qt.length:Int) + 1)] 3 (by kernel_rfl) (by kernel_rfl) (by kernel_rfl) (by kernel_rfl) (by kernel_rfl) ?_
 refine (next_any b b (0 + 400) ((qt.length:Int) + 1) Y0 hS (by omega) (by omega)).mono ?_
 rintro e Y1 ⟨r,rfl,hr,hSn,hgn⟩
 have hUg:Out [b] Y0 Y1:=Out.of_grown hgn
 replace hO:=hO.trans hUg
 replace R0:=R0.grown hgn (by simp only [ne_eq,Option.some.injEq];omega)
 replace Bx:=Bx.grown hgn (by simp only [ne_eq,Option.some.injEq];omega)
 replace oq:=repK.own_out oq (Out.of_grown hgn) (fun k hk hk' => by simp only [Option.toList,List.mem_singleton] at hk';have:=low k hk;omega)
 replace hB:=hB.grown hgn hB.size (fun k hk=>by simp at hk;omega)
 replace hS:=hSn
 obtain ⟨m,rfl⟩:=Int.eq_ofNat_of_zero_le hr.1
 have hm:m≤qt.length:=by have:=hr.2.1 (by omega);omega
 clear hUg hSn hgn hr
 refine ⟨_,rfl,⟨⟨_,hO⟩,rfl⟩,?_⟩
 simp only [Act.put,List.setIfInBounds_toArray,List.set_cons_zero,List.set_cons_succ]
 obtain ⟨hc1,hc2⟩:qt.length≤t2∧t2≤maxLen:=oq.2.2.1.capOk
 have hm0:(0:Int)≤(m:Int):=by omega
 have hmc:(m:Int)≤(t2:Int):=by omega
 have hsl1:∀ u:World,(Instr.sliceAt 28 (.slice s2 qt.length t2) none (some (.int .i64 (m:Int))) none).run Tryz.prog u=.ok (.slice s2 m t2) u:=fun u=>by
  rw [run_sliceAt_slice u 28 _ _ _ _ (by kernel_rfl),run_slice_h u 28 s2 qt.length t2 (by kernel_rfl) .i64 (m:Int) hm0 hmc,hsz4 u]
  simp only [Result.andThen,sliced,Int.toNat_natCast,Nat.sub_zero,Nat.zero_mul]
  cases s2 with
  | none=>simp
  | some x=>simp [Addr.add]
 refine quiet_at 8 (some 19) (.slice s2 m t2) 2 (by kernel_rfl) (by kernel_rfl) (by kernel_rfl) (by kernel_rfl) (by kernel_rfl) (fun u hu=>?_) ⟨⟨_,hO⟩,rfl⟩ ?_
 ·refine Eq.trans (b:=some (((Instr.sliceAt 28 (.slice s2 qt.length t2) none (some (.int .i64 (m:Int))) none) >>= fun x=>pure (Next.value x):Sem Next).run Tryz.prog u)) (by kernel_rfl) ?_
  rw [Sem.run_bind,hsl1 u]
  rfl
 simp only [Act.put,List.setIfInBounds_toArray,List.set_cons_zero,List.set_cons_succ]
 have hAt:=oq.2.2.1.at.takeK m hm
 have hny:∀ p∈qt.take m,NiceQ9 p:=fun p hp=>niceQ_of (oq.2.2.1.2 p (List.mem_of_mem_take hp))
 have hnt:(qt.take m).length + nmL TxnQ.n (qt.take m)≤3000:=by
  have h1:=nmL_take (nm:=TxnQ.n) qt m
  have:=HN.out
  dsimp only [RepQ.n] at this
  rw [List.length_take,Nat.min_eq_left hm]
  omega
 clear hsl1 hm0 hmc hc1 hc2
 refine call_at 9 (some 20) 92 #[.slice s2 m t2] 1 (by kernel_rfl) (by kernel_rfl) (by kernel_rfl) (by kernel_rfl) (by kernel_rfl) ?_
 refine (l2CopyAll9_any (.slice s2 m t2) (qt.take m) Y1 hAt hny (by omega)).mono ?_
 rintro e Y2 ⟨vf,fs,rfl,ef,of,_,lf,hb⟩
 have nf:fs.length + nmL TxnQ.n fs≤3000:=by rw [txq_n9 ef];exact hnt
 have hy1:b < Y1.heap.size:=hS.lt.2
 replace lf:∀ k∈txnK.fp vf fs,b < k:=fun k hk=>by have:=lf k hk;omega
 replace hO:=hO.trans (Out.of_below hb)
 replace R0:=R0.below hb
 replace Bx:=Bx.below hb
 replace oq:=repK.own_out (F:=[]) oq (Out.of_below hb) (fun _ _=>by simp)
 replace hB:=hB.trans (hb.mono hB.size)
 replace hS:=hS.below hb
 clear hb ef hAt hny hnt
 obtain ⟨fa,fk,rfl⟩:=of.shape
 refine ⟨_,rfl,⟨⟨_,hO⟩,rfl⟩,?_⟩
 simp only [Act.put,List.setIfInBounds_toArray,List.set_cons_zero,List.set_cons_succ]
 refine seg_range [(10,1)] 0 (by kernel_rfl) (by kernel_rfl) (by kernel_rfl) (by kernel_rfl) (by kernel_rfl) ⟨⟨_,hO⟩,rfl⟩ ?_
 simp only [pickR,List.toList_toArray,List.flatMap_cons,List.flatMap_nil,List.drop_succ_cons,List.drop_zero,List.take_succ_cons,List.take_zero,List.cons_append,List.nil_append,List.append_nil]
 repeat go_big_quiet_step (fail)
 refine wpQuiet_nil ?_
 refine text_end (by kernel_rfl) ?_
 clear hne hO
 go_wp2_with fail
 refine (chance_any b b (0 + 400 + 1) 2 Y2 hS (by omega) (by omega)).mono ?_
 rintro e Y3 ⟨t2',rfl,hSn,hgn⟩
 replace R0:=R0.grown hgn (by simp only [ne_eq,Option.some.injEq];omega)
 replace Bx:=Bx.grown hgn (by simp only [ne_eq,Option.some.injEq];omega)
 replace oq:=repK.own_out oq (Out.of_grown hgn) (fun k hk hk' => by simp only [Option.toList,List.mem_singleton] at hk';have:=low k hk;omega)
 replace hB:=hB.grown hgn hB.size (fun k hk=>by simp at hk;omega)
 replace of:=of.out (Out.of_grown hgn) (fun k hk hk' => by simp only [Option.toList,List.mem_singleton] at hk';have:=lf k hk;omega)
 replace hS:=hSn
 clear hSn hgn
 cases t2' with
 | false=>
  go_wp2_with fail
  refine (chance_any b b (0 + 400 + 1 + 1) 8 Y3 hS (by omega) (by omega)).mono ?_
  rintro e Y7 ⟨t8,rfl,hSn,hgn⟩
  replace R0:=R0.grown hgn (by simp only [ne_eq,Option.some.injEq];omega)
  replace Bx:=Bx.grown hgn (by simp only [ne_eq,Option.some.injEq];omega)
  replace oq:=repK.own_out oq (Out.of_grown hgn) (fun k hk hk' => by simp only [Option.toList,List.mem_singleton] at hk';have:=low k hk;omega)
  replace hB:=hB.grown hgn hB.size (fun k hk=>by simp at hk;omega)
  replace of:=of.out (Out.of_grown hgn) (fun k hk hk' => by simp only [Option.toList,List.mem_singleton] at hk';have:=lf k hk;omega)
  replace hS:=hSn
  clear hSn hgn
  cases t8 with
  | false=>
   have Rr:=R0.row #[.slice s0 qd.length t0,.slice s1 qb.length t1,.slice s2 qt.length t2,.slice s3 qu.length t3,.slice s4 qn.length t4]
   have oz:=repK.own_out oq (out_row Y7 w.heap.size #[.slice s0 qd.length t0,.slice s1 qb.length t1,.slice s2 qt.length t2,.slice s3 qu.length t3,.slice s4 qn.length t4]) (fun k hk hk' => by simp only [List.mem_singleton] at hk';have:=low k hk;omega)
   have ofz:=of.out (out_row Y7 w.heap.size #[.slice s0 qd.length t0,.slice s1 qb.length t1,.slice s2 qt.length t2,.slice s3 qu.length t3,.slice s4 qn.length t4]) (fun k hk hk' => by simp only [List.mem_singleton] at hk';have:=lf k hk;omega)
   have hBz:=below_row (g:=w.heap.size) hB (Nat.le_refl _) #[.slice s0 qd.length t0,.slice s1 qb.length t1,.slice s2 qt.length t2,.slice s3 qu.length t3,.slice s4 qn.length t4]
   have HZ:Hid (repK.own (Y7.setRow w.heap.size #[.slice s0 qd.length t0,.slice s1 qb.length t1,.slice s2 qt.length t2,.slice s3 qu.length t3,.slice s4 qn.length t4]) (⟨.slice s0 qd.length t0,qd,.slice s1 qb.length t1,qb,.slice s2 qt.length t2,qt,.slice s3 qu.length t3,qu,.slice s4 qn.length t4,qn⟩:RepQ)∧txnK.Own (Y7.setRow w.heap.size #[.slice s0 qd.length t0,.slice s1 qb.length t1,.slice s2 qt.length t2,.slice s3 qu.length t3,.slice s4 qn.length t4]) (.slice fa fs.length fk) fs∧Below w.heap.size w (Y7.setRow w.heap.size #[.slice s0 qd.length t0,.slice s1 qb.length t1,.slice s2 qt.length t2,.slice s3 qu.length t3,.slice s4 qn.length t4])):=⟨oz,ofz,hBz⟩
   have HF:Hid (fs.length + nmL TxnQ.n fs≤3000):=nf
   have p0:=Bx.cell 0 _ rfl
   have p1:=Bx.cell 1 _ rfl
   have p2:=Bx.cell 2 _ rfl
   have p3:=Bx.cell 3 _ rfl
   have p4:=Bx.cell 4 _ rfl
   clear oz ofz hBz oq of hS hB low lf nf
   go_wp2_with (first | (refine st_row (by kernel_rfl) 32 _ _ rfl _ #[.slice s0 qd.length t0,.slice s1 qb.length t1,.slice s2 qt.length t2,.slice s3 qu.length t3,.slice s4 qn.length t4] rfl rfl 32 _ R0 sz_rep9 rfl (by simp [Value.oneCell']) ?_))
   have q0:=Rr.cell 0 _ rfl
   have q1:=Rr.cell 1 _ rfl
   have q2:=Rr.cell 2 _ rfl
   have q3:=Rr.cell 3 _ rfl
   have q4:=Rr.cell 4 _ rfl
   exact bodyPost_ret (v:=.tuple #[.agg #[.slice s0 qd.length t0,.slice s1 qb.length t1,.slice s2 qt.length t2,.slice s3 qu.length t3,.slice s4 qn.length t4],.slice fa fs.length fk]) (by simp [results,Tryz.results39,go_sem,q0,q1,q2,q3,q4]) rfl ⟨(⟨.slice s0 qd.length t0,qd,.slice s1 qb.length t1,qb,.slice s2 qt.length t2,qt,.slice s3 qu.length t3,qu,.slice s4 qn.length t4,qn⟩:RepQ),_,fs,rfl,HN.out,HZ.out.1,HZ.out.2.1,HF.out,HZ.out.2.2⟩
  | true=>
   clear of lf nf
   go_wp2_with fail
   refine (l8Bent_any b b (0 + 400 + 1 + 1 + 1) Y7 hS (by omega)).mono ?_
   rintro e Y8 ⟨v8,p8,rfl,hl8,ha8,hR8,hSn,hgn⟩
   have hy7:b < Y7.heap.size:=hS.lt.2
   replace R0:=R0.grown hgn (by simp only [ne_eq,Option.some.injEq];omega)
   replace Bx:=Bx.grown hgn (by simp only [ne_eq,Option.some.injEq];omega)
   replace oq:=repK.own_out oq (Out.of_grown hgn) (fun k hk hk' => by simp only [Option.toList,List.mem_singleton] at hk';have:=low k hk;omega)
   replace hB:=hB.grown hgn hB.size (fun k hk=>by simp at hk;omega)
   replace hS:=hSn
   clear hSn hgn
   have of:=hR8.ownK9
   have lf:∀ k∈txnK.fp v8 (p8.map TxnP.qk),b < k:=fun k hk=>by have:=hR8.lowfp9 k hk;omega
   have nf:(p8.map TxnP.qk).length + nmL TxnQ.n (p8.map TxnP.qk)≤3000:=by
    have h1:=nmL_five (qs:=p8.map TxnP.qk) (fun q hq=>by obtain ⟨p,hp,rfl⟩:=List.mem_map.1 hq;exact ha8 p hp)
    rw [List.length_map] at h1 ⊢
    omega
   clear hR8 ha8 hl8
   generalize p8.map TxnP.qk=fs at *
   obtain ⟨fa,fk,rfl⟩:=of.shape
   have Rr:=R0.row #[.slice s0 qd.length t0,.slice s1 qb.length t1,.slice s2 qt.length t2,.slice s3 qu.length t3,.slice s4 qn.length t4]
   have oz:=repK.own_out oq (out_row Y8 w.heap.size #[.slice s0 qd.length t0,.slice s1 qb.length t1,.slice s2 qt.length t2,.slice s3 qu.length t3,.slice s4 qn.length t4]) (fun k hk hk' => by simp only [List.mem_singleton] at hk';have:=low k hk;omega)
   have ofz:=of.out (out_row Y8 w.heap.size #[.slice s0 qd.length t0,.slice s1 qb.length t1,.slice s2 qt.length t2,.slice s3 qu.length t3,.slice s4 qn.length t4]) (fun k hk hk' => by simp only [List.mem_singleton] at hk';have:=lf k hk;omega)
   have hBz:=below_row (g:=w.heap.size) hB (Nat.le_refl _) #[.slice s0 qd.length t0,.slice s1 qb.length t1,.slice s2 qt.length t2,.slice s3 qu.length t3,.slice s4 qn.length t4]
   have HZ:Hid (repK.own (Y8.setRow w.heap.size #[.slice s0 qd.length t0,.slice s1 qb.length t1,.slice s2 qt.length t2,.slice s3 qu.length t3,.slice s4 qn.length t4]) (⟨.slice s0 qd.length t0,qd,.slice s1 qb.length t1,qb,.slice s2 qt.length t2,qt,.slice s3 qu.length t3,qu,.slice s4 qn.length t4,qn⟩:RepQ)∧txnK.Own (Y8.setRow w.heap.size #[.slice s0 qd.length t0,.slice s1 qb.length t1,.slice s2 qt.length t2,.slice s3 qu.length t3,.slice s4 qn.length t4]) (.slice fa fs.length fk) fs∧Below w.heap.size w (Y8.setRow w.heap.size #[.slice s0 qd.length t0,.slice s1 qb.length t1,.slice s2 qt.length t2,.slice s3 qu.length t3,.slice s4 qn.length t4])):=⟨oz,ofz,hBz⟩
   have HF:Hid (fs.length + nmL TxnQ.n fs≤3000):=nf
   have p0:=Bx.cell 0 _ rfl
   have p1:=Bx.cell 1 _ rfl
   have p2:=Bx.cell 2 _ rfl
   have p3:=Bx.cell 3 _ rfl
   have p4:=Bx.cell 4 _ rfl
   clear oz ofz hBz oq of hS hB low lf nf
   go_wp2_with (first | (refine st_row (by kernel_rfl) 32 _ _ rfl _ #[.slice s0 qd.length t0,.slice s1 qb.length t1,.slice s2 qt.length t2,.slice s3 qu.length t3,.slice s4 qn.length t4] rfl rfl 32 _ R0 sz_rep9 rfl (by simp [Value.oneCell']) ?_))
   have q0:=Rr.cell 0 _ rfl
   have q1:=Rr.cell 1 _ rfl
   have q2:=Rr.cell 2 _ rfl
   have q3:=Rr.cell 3 _ rfl
   have q4:=Rr.cell 4 _ rfl
   exact bodyPost_ret (v:=.tuple #[.agg #[.slice s0 qd.length t0,.slice s1 qb.length t1,.slice s2 qt.length t2,.slice s3 qu.length t3,.slice s4 qn.length t4],.slice fa fs.length fk]) (by simp [results,Tryz.results39,go_sem,q0,q1,q2,q3,q4]) rfl ⟨(⟨.slice s0 qd.length t0,qd,.slice s1 qb.length t1,qb,.slice s2 qt.length t2,qt,.slice s3 qu.length t3,qu,.slice s4 qn.length t4,qn⟩:RepQ),_,fs,rfl,HN.out,HZ.out.1,HZ.out.2.1,HF.out,HZ.out.2.2⟩
 | true=>
  clear of lf nf
  have p0:=keep_cell (F:=[b]) (Bx.cell 0 _ rfl) (by simp only [List.mem_cons,List.not_mem_nil,or_false];omega)
  have hne:Nonempty (KeepP (Out [b] Y3)):=⟨⟨Y3,Out.refl _ _⟩⟩
  go_wp2_with fail
  have hbd:Below Y3.heap.size Y3 Y3.drew:=(Below.refl _ _).drew
  have hO:Out [b] Y3 Y3.drew:=Out.of_below hbd
  refine text_begin (S:=fun w' => ∃ u:KeepP (Out [b] Y3),w' = u.val) (by kernel_rfl) ?_
  refine seg_range [(0,1),(2,2)] 3 (by kernel_rfl) (by kernel_rfl) (by kernel_rfl) (by kernel_rfl) (by kernel_rfl) ⟨⟨_,hO⟩,rfl⟩ ?_
  simp only [pickR,List.toList_toArray,List.flatMap_cons,List.flatMap_nil,List.drop_succ_cons,List.drop_zero,List.take_succ_cons,List.take_zero,List.cons_append,List.nil_append,List.append_nil]
  repeat go_big_quiet_step (fail)
  refine wpQuiet_nil ?_
  clear p0
  replace R0:=R0.below hbd
  replace Bx:=Bx.below hbd
  replace oq:=repK.own_out (F:=[]) oq (Out.of_below hbd) (fun _ _=>by simp)
  replace hB:=hB.trans (hbd.mono hB.size)
  replace hS:=hS.below hbd
  clear hbd
  generalize Y3.drew=Y4 at *
  refine call_at 1 (some 24) 95 #[.pointer (some ⟨b,0,none⟩),.int .i64 4] 2 (by kernel_rfl) (by kernel_rfl) (by kernel_rfl) (by kernel_rfl) (by kernel_rfl) ?_
  refine (l8DrawF_any 4 (by omega) (by omega) b b (0 + 400 + 1 + 1) Y4 hS (by omega)).mono ?_
  rintro e Y5 ⟨v5,p5,rfl,hl5,ha5,hR5,hSn,hgn⟩
  have hUg:Out [b] Y4 Y5:=Out.of_grown hgn
  replace hO:=hO.trans hUg
  replace R0:=R0.grown hgn (by simp only [ne_eq,Option.some.injEq];omega)
  replace Bx:=Bx.grown hgn (by simp only [ne_eq,Option.some.injEq];omega)
  replace oq:=repK.own_out oq (Out.of_grown hgn) (fun k hk hk' => by simp only [Option.toList,List.mem_singleton] at hk';have:=low k hk;omega)
  replace hB:=hB.grown hgn hB.size (fun k hk=>by simp at hk;omega)
  replace hS:=hSn
  clear hUg hSn hgn
  obtain ⟨a5,k5,rfl⟩:=own_shape hR5.1
  have h5n:∀ q∈p5.map TxnP.qk,0 < q.acts.length:=fun q hq=>by
   obtain ⟨p,hp,rfl⟩:=List.mem_map.1 hq
   exact acts_pos9 (ha5 p hp).2
  have h5l:(p5.map TxnP.qk).length + nmL TxnQ.n (p5.map TxnP.qk)≤100:=by
   have h1:=nmL_five (qs:=p5.map TxnP.qk) (fun q hq=>by obtain ⟨p,hp,rfl⟩:=List.mem_map.1 hq;exact (ha5 p hp).1)
   rw [List.length_map] at h1 ⊢
   omega
  have hwt:=l8Without_any (.slice a5 p5.length k5) (.slice s0 qd.length t0) (p5.map TxnP.qk) qd Y5 hR5.atK oq.1.at h5n (by rw [List.length_map];omega) (by omega) (by have:=HN.out;dsimp only [RepQ.n] at this;omega)
  refine ⟨_,rfl,⟨⟨_,hO⟩,rfl⟩,?_⟩
  simp only [Act.put,List.setIfInBounds_toArray,List.set_cons_zero,List.set_cons_succ]
  refine call_at 4 (some 27) 94 #[.slice a5 p5.length k5,.slice s0 qd.length t0] 1 (by kernel_rfl) (by kernel_rfl) (by kernel_rfl) (by kernel_rfl) (by kernel_rfl) ?_
  refine hwt.mono ?_
  rintro e Y6 ⟨vf,fs,rfl,ef,of,_,lf,hb⟩
  have nf:fs.length + nmL TxnQ.n fs≤3000:=by
   have:=wit_n9 ef
   omega
  have hy5:b < Y5.heap.size:=hS.lt.2
  replace lf:∀ k∈txnK.fp vf fs,b < k:=fun k hk=>by have:=lf k hk;omega
  replace hO:=hO.trans (Out.of_below hb)
  replace R0:=R0.below hb
  replace Bx:=Bx.below hb
  replace oq:=repK.own_out (F:=[]) oq (Out.of_below hb) (fun _ _=>by simp)
  replace hB:=hB.trans (hb.mono hB.size)
  replace hS:=hS.below hb
  clear hb ef hwt hR5 ha5 h5n h5l hl5
  obtain ⟨fa,fk,rfl⟩:=of.shape
  refine ⟨_,rfl,⟨⟨_,hO⟩,rfl⟩,?_⟩
  simp only [Act.put,List.setIfInBounds_toArray,List.set_cons_zero,List.set_cons_succ]
  refine seg_range [(5,1)] 0 (by kernel_rfl) (by kernel_rfl) (by kernel_rfl) (by kernel_rfl) (by kernel_rfl) ⟨⟨_,hO⟩,rfl⟩ ?_
  simp only [pickR,List.toList_toArray,List.flatMap_cons,List.flatMap_nil,List.drop_succ_cons,List.drop_zero,List.take_succ_cons,List.take_zero,List.cons_append,List.nil_append,List.append_nil]
  repeat go_big_quiet_step (fail)
  refine wpQuiet_nil ?_
  refine text_end (by kernel_rfl) ?_
  clear hne hO
  go_wp2_with fail
  refine (chance_any b b (0 + 400 + 1 + 1 + 200) 8 Y6 hS (by omega) (by omega)).mono ?_
  rintro e Y7 ⟨t8,rfl,hSn,hgn⟩
  replace R0:=R0.grown hgn (by simp only [ne_eq,Option.some.injEq];omega)
  replace Bx:=Bx.grown hgn (by simp only [ne_eq,Option.some.injEq];omega)
  replace oq:=repK.own_out oq (Out.of_grown hgn) (fun k hk hk' => by simp only [Option.toList,List.mem_singleton] at hk';have:=low k hk;omega)
  replace hB:=hB.grown hgn hB.size (fun k hk=>by simp at hk;omega)
  replace of:=of.out (Out.of_grown hgn) (fun k hk hk' => by simp only [Option.toList,List.mem_singleton] at hk';have:=lf k hk;omega)
  replace hS:=hSn
  clear hSn hgn
  cases t8 with
  | false=>
   have Rr:=R0.row #[.slice s0 qd.length t0,.slice s1 qb.length t1,.slice s2 qt.length t2,.slice s3 qu.length t3,.slice s4 qn.length t4]
   have oz:=repK.own_out oq (out_row Y7 w.heap.size #[.slice s0 qd.length t0,.slice s1 qb.length t1,.slice s2 qt.length t2,.slice s3 qu.length t3,.slice s4 qn.length t4]) (fun k hk hk' => by simp only [List.mem_singleton] at hk';have:=low k hk;omega)
   have ofz:=of.out (out_row Y7 w.heap.size #[.slice s0 qd.length t0,.slice s1 qb.length t1,.slice s2 qt.length t2,.slice s3 qu.length t3,.slice s4 qn.length t4]) (fun k hk hk' => by simp only [List.mem_singleton] at hk';have:=lf k hk;omega)
   have hBz:=below_row (g:=w.heap.size) hB (Nat.le_refl _) #[.slice s0 qd.length t0,.slice s1 qb.length t1,.slice s2 qt.length t2,.slice s3 qu.length t3,.slice s4 qn.length t4]
   have HZ:Hid (repK.own (Y7.setRow w.heap.size #[.slice s0 qd.length t0,.slice s1 qb.length t1,.slice s2 qt.length t2,.slice s3 qu.length t3,.slice s4 qn.length t4]) (⟨.slice s0 qd.length t0,qd,.slice s1 qb.length t1,qb,.slice s2 qt.length t2,qt,.slice s3 qu.length t3,qu,.slice s4 qn.length t4,qn⟩:RepQ)∧txnK.Own (Y7.setRow w.heap.size #[.slice s0 qd.length t0,.slice s1 qb.length t1,.slice s2 qt.length t2,.slice s3 qu.length t3,.slice s4 qn.length t4]) (.slice fa fs.length fk) fs∧Below w.heap.size w (Y7.setRow w.heap.size #[.slice s0 qd.length t0,.slice s1 qb.length t1,.slice s2 qt.length t2,.slice s3 qu.length t3,.slice s4 qn.length t4])):=⟨oz,ofz,hBz⟩
   have HF:Hid (fs.length + nmL TxnQ.n fs≤3000):=nf
   have p0:=Bx.cell 0 _ rfl
   have p1:=Bx.cell 1 _ rfl
   have p2:=Bx.cell 2 _ rfl
   have p3:=Bx.cell 3 _ rfl
   have p4:=Bx.cell 4 _ rfl
   clear oz ofz hBz oq of hS hB low lf nf
   go_wp2_with (first | (refine st_row (by kernel_rfl) 32 _ _ rfl _ #[.slice s0 qd.length t0,.slice s1 qb.length t1,.slice s2 qt.length t2,.slice s3 qu.length t3,.slice s4 qn.length t4] rfl rfl 32 _ R0 sz_rep9 rfl (by simp [Value.oneCell']) ?_))
   have q0:=Rr.cell 0 _ rfl
   have q1:=Rr.cell 1 _ rfl
   have q2:=Rr.cell 2 _ rfl
   have q3:=Rr.cell 3 _ rfl
   have q4:=Rr.cell 4 _ rfl
   exact bodyPost_ret (v:=.tuple #[.agg #[.slice s0 qd.length t0,.slice s1 qb.length t1,.slice s2 qt.length t2,.slice s3 qu.length t3,.slice s4 qn.length t4],.slice fa fs.length fk]) (by simp [results,Tryz.results39,go_sem,q0,q1,q2,q3,q4]) rfl ⟨(⟨.slice s0 qd.length t0,qd,.slice s1 qb.length t1,qb,.slice s2 qt.length t2,qt,.slice s3 qu.length t3,qu,.slice s4 qn.length t4,qn⟩:RepQ),_,fs,rfl,HN.out,HZ.out.1,HZ.out.2.1,HF.out,HZ.out.2.2⟩
  | true=>
   clear of lf nf
   go_wp2_with fail
   refine (l8Bent_any b b (0 + 400 + 1 + 1 + 200 + 1) Y7 hS (by omega)).mono ?_
   rintro e Y8 ⟨v8,p8,rfl,hl8,ha8,hR8,hSn,hgn⟩
   have hy7:b < Y7.heap.size:=hS.lt.2
   replace R0:=R0.grown hgn (by simp only [ne_eq,Option.some.injEq];omega)
   replace Bx:=Bx.grown hgn (by simp only [ne_eq,Option.some.injEq];omega)
   replace oq:=repK.own_out oq (Out.of_grown hgn) (fun k hk hk' => by simp only [Option.toList,List.mem_singleton] at hk';have:=low k hk;omega)
   replace hB:=hB.grown hgn hB.size (fun k hk=>by simp at hk;omega)
   replace hS:=hSn
   clear hSn hgn
   have of:=hR8.ownK9
   have lf:∀ k∈txnK.fp v8 (p8.map TxnP.qk),b < k:=fun k hk=>by have:=hR8.lowfp9 k hk;omega
   have nf:(p8.map TxnP.qk).length + nmL TxnQ.n (p8.map TxnP.qk)≤3000:=by
    have h1:=nmL_five (qs:=p8.map TxnP.qk) (fun q hq=>by obtain ⟨p,hp,rfl⟩:=List.mem_map.1 hq;exact ha8 p hp)
    rw [List.length_map] at h1 ⊢
    omega
   clear hR8 ha8 hl8
   generalize p8.map TxnP.qk=fs at *
   obtain ⟨fa,fk,rfl⟩:=of.shape
   have Rr:=R0.row #[.slice s0 qd.length t0,.slice s1 qb.length t1,.slice s2 qt.length t2,.slice s3 qu.length t3,.slice s4 qn.length t4]
   have oz:=repK.own_out oq (out_row Y8 w.heap.size #[.slice s0 qd.length t0,.slice s1 qb.length t1,.slice s2 qt.length t2,.slice s3 qu.length t3,.slice s4 qn.length t4]) (fun k hk hk' => by simp only [List.mem_singleton] at hk';have:=low k hk;omega)
   have ofz:=of.out (out_row Y8 w.heap.size #[.slice s0 qd.length t0,.slice s1 qb.length t1,.slice s2 qt.length t2,.slice s3 qu.length t3,.slice s4 qn.length t4]) (fun k hk hk' => by simp only [List.mem_singleton] at hk';have:=lf k hk;omega)
   have hBz:=below_row (g:=w.heap.size) hB (Nat.le_refl _) #[.slice s0 qd.length t0,.slice s1 qb.length t1,.slice s2 qt.length t2,.slice s3 qu.length t3,.slice s4 qn.length t4]
   have HZ:Hid (repK.own (Y8.setRow w.heap.size #[.slice s0 qd.length t0,.slice s1 qb.length t1,.slice s2 qt.length t2,.slice s3 qu.length t3,.slice s4 qn.length t4]) (⟨.slice s0 qd.length t0,qd,.slice s1 qb.length t1,qb,.slice s2 qt.length t2,qt,.slice s3 qu.length t3,qu,.slice s4 qn.length t4,qn⟩:RepQ)∧txnK.Own (Y8.setRow w.heap.size #[.slice s0 qd.length t0,.slice s1 qb.length t1,.slice s2 qt.length t2,.slice s3 qu.length t3,.slice s4 qn.length t4]) (.slice fa fs.length fk) fs∧Below w.heap.size w (Y8.setRow w.heap.size #[.slice s0 qd.length t0,.slice s1 qb.length t1,.slice s2 qt.length t2,.slice s3 qu.length t3,.slice s4 qn.length t4])):=⟨oz,ofz,hBz⟩
   have HF:Hid (fs.length + nmL TxnQ.n fs≤3000):=nf
   have p0:=Bx.cell 0 _ rfl
   have p1:=Bx.cell 1 _ rfl
   have p2:=Bx.cell 2 _ rfl
   have p3:=Bx.cell 3 _ rfl
   have p4:=Bx.cell 4 _ rfl
   clear oz ofz hBz oq of hS hB low lf nf
   go_wp2_with (first | (refine st_row (by kernel_rfl) 32 _ _ rfl _ #[.slice s0 qd.length t0,.slice s1 qb.length t1,.slice s2 qt.length t2,.slice s3 qu.length t3,.slice s4 qn.length t4] rfl rfl 32 _ R0 sz_rep9 rfl (by simp [Value.oneCell']) ?_))
   have q0:=Rr.cell 0 _ rfl
   have q1:=Rr.cell 1 _ rfl
   have q2:=Rr.cell 2 _ rfl
   have q3:=Rr.cell 3 _ rfl
   have q4:=Rr.cell 4 _ rfl
   exact bodyPost_ret (v:=.tuple #[.agg #[.slice s0 qd.length t0,.slice s1 qb.length t1,.slice s2 qt.length t2,.slice s3 qu.length t3,.slice s4 qn.length t4],.slice fa fs.length fk]) (by simp [results,Tryz.results39,go_sem,q0,q1,q2,q3,q4]) rfl ⟨(⟨.slice s0 qd.length t0,qd,.slice s1 qb.length t1,qb,.slice s2 qt.length t2,qt,.slice s3 qu.length t3,qu,.slice s4 qn.length t4,qn⟩:RepQ),_,fs,rfl,HN.out,HZ.out.1,HZ.out.2.1,HF.out,HZ.out.2.2⟩

end Go.Proofs.YtfdkcbafpiojkaaGreatDoor
