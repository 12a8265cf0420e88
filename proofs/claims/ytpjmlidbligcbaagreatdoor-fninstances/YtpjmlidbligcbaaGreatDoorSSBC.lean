/- Texts joined, with what the laws reach alone. -/
import Derived.Test.YtpjmlidbligcbaaGreatDoorSSBB
import Derived.Test.YtpjmlidbligcbaaGreatDoorSSAT
set_option linter.unusedVariables false
set_option linter.unusedSimpArgs false
namespace Go.Proofs.YtpjmlidbligcbaaGreatDoor
open Go.RowKit
open Go.BigFrame
set_option maxRecDepth 100000
set_option maxHeartbeats 4000000 in
theorem specFirstReport_any (p:InstQ) (node value:Int) (w:World) (h:instK.rd w p) (hl:p.n≤1048576) :
  Calls Tryz.prog 20 #[.agg #[.bool p.has,p.vb,p.vr,p.vd],.int .i64 node,.int .i64 value] w fun e w' => ∃ q:InstQ,e=.returned (.agg (resC (frC p.e node value) 0 false false 0 q))∧q.e=frI p.e node value∧instK.own w' q∧(instK.foot q).Nodup∧(∀ k∈instK.foot q,w.heap.size≤k)∧Below w.heap.size w w' := by
 have hB:Below w.heap.size w ((w.alloc (.cells #[.bool p.has,p.vb,p.vr,p.vd] 28)).alloc (.cells #[.int .i64 0,.int .i64 0,.bool false,.bool false,.int .i64 0,.bool false,.slice none 0 0,.slice none 0 0,.slice none 0 0] 34)):=by go_grown
 have Rb:=Blk.new (w.alloc (.cells #[.bool p.has,p.vb,p.vr,p.vd] 28)) 34 #[.int .i64 0,.int .i64 0,.bool false,.bool false,.int .i64 0,.bool false,.slice none 0 0,.slice none 0 0,.slice none 0 0]
 rw [World.size_alloc] at Rb
 have hws:w.heap.size + 2≤((w.alloc (.cells #[.bool p.has,p.vb,p.vr,p.vd] 28)).alloc (.cells #[.int .i64 0,.int .i64 0,.bool false,.bool false,.int .i64 0,.bool false,.slice none 0 0,.slice none 0 0,.slice none 0 0] 34)).heap.size:=by simp
 have hP:InstP ((w.alloc (.cells #[.bool p.has,p.vb,p.vr,p.vd] 28)).alloc (.cells #[.int .i64 0,.int .i64 0,.bool false,.bool false,.int .i64 0,.bool false,.slice none 0 0,.slice none 0 0,.slice none 0 0] 34)) w.heap.size 0 p:=⟨(box4_new w _ _ _ _ 28).below (by go_grown),instK.rd_below h hB⟩
 have hf1:=l6Fault_any w.heap.size 0 p _ hP hl
 have hst:=fun w' hP hb h0=>l6First_any w.heap.size 0 p node value w' hP hb hl h0
 have HC:Hid (insF p.e≠0→frC p.e node value=insF p.e∧frI p.e node value=ine0):=fun h0=>(by have e:atC p.e node 0=insF p.e:=if_neg h0;have:=(fr_facts p.e node value).1 (by rw [e];exact h0);rw [e] at this;exact this)
 generalize frC p.e node value=D at *
 generalize frI p.e node value=E at *
 generalize insF p.e=C at *
 go_enter Tryz.func20,Tryz.ntmps20
 go_wp2_with fail
 generalize (w.alloc (.cells #[.bool p.has,p.vb,p.vr,p.vd] 28)).alloc (.cells #[.int .i64 0,.int .i64 0,.bool false,.bool false,.int .i64 0,.bool false,.slice none 0 0,.slice none 0 0,.slice none 0 0] 34)=W at *
 refine hf1.mono ?_
 rintro e w1 ⟨rfl,hb1⟩
 replace hB:=hB.trans (hb1.mono hB.size)
 replace Rb:=Rb.below hb1
 have hP1:=hP.below hb1
 have hws1:w.heap.size + 2≤w1.heap.size:=by have:=hb1.size;omega
 clear hf1 hb1 hP
 by_cases h0:C=0
 case neg=>
  have E1:Hid (D=C∧E=ine0):=HC.out h0
  have h0' : (C != 0)=true:=by simpa using h0
  clear HC h0 hst
  go_wp2_with fail
  refine (l6Bad_any C _).mono ?_
  rintro e w8 ⟨rfl,hb8⟩
  replace hB:=hB.trans (hb8.mono hB.size)
  replace Rb:=Rb.below hb8
  clear hb8
  have Rr:=Rb.row #[.int .i64 C,.int .i64 0,.bool false,.bool false,.int .i64 0,.bool false,.slice none 0 0,.slice none 0 0,.slice none 0 0]
  have hBr:=below_row hB (g:=w.heap.size + 1) (by omega) #[.int .i64 C,.int .i64 0,.bool false,.bool false,.int .i64 0,.bool false,.slice none 0 0,.slice none 0 0,.slice none 0 0]
  have hsr:(Tryz.prog.info? 34).map (·.size)=some (#[.int .i64 C,.int .i64 0,.bool false,.bool false,.int .i64 0,.bool false,.slice none 0 0,.slice none 0 0,.slice none 0 0]:Array Value).size:=sz_res
  go_wp2_with (first | (refine st_row (by kernel_rfl) 34 _ _ rfl _ #[.int .i64 C,.int .i64 0,.bool false,.bool false,.int .i64 0,.bool false,.slice none 0 0,.slice none 0 0,.slice none 0 0] rfl rfl 34 _ Rb hsr rfl (by simp [Value.oneCell']) ?_))
  have q0:=Rr.cell 0 _ rfl
  have q1:=Rr.cell 1 _ rfl
  have q2:=Rr.cell 2 _ rfl
  have q3:=Rr.cell 3 _ rfl
  have q4:=Rr.cell 4 _ rfl
  have q5:=Rr.cell 5 _ rfl
  have q6:=Rr.cell 6 _ rfl
  have q7:=Rr.cell 7 _ rfl
  have q8:=Rr.cell 8 _ rfl
  exact bodyPost_ret (v:=.agg #[.int .i64 C,.int .i64 0,.bool false,.bool false,.int .i64 0,.bool false,.slice none 0 0,.slice none 0 0,.slice none 0 0]) (by simp [results,Tryz.results20,go_sem,q0,q1,q2,q3,q4,q5,q6,q7,q8]) rfl ⟨inst0,by rw [E1.out.1];rfl,E1.out.2.symm,inst0_own _,inst0_nd,fun k hk=>by rw [inst0_ft] at hk;simp at hk,hBr⟩

 case pos=>
  subst h0
  clear HC
  go_wp2_with fail
  refine (hst w1 hP1 (by omega) (by trivial)).mono ?_
  rintro e w2 ⟨q,rfl,eq,oq,nq,gq,hb2⟩
  replace Rb:=Rb.below hb2
  replace hB:=hB.trans (hb2.mono hB.size)
  have HQ:Hid (q.e=E∧(instK.foot q).Nodup∧(∀ k∈instK.foot q,w.heap.size≤k)∧∀ cs,instK.own (w2.setRow (w.heap.size + 1) cs) q):=⟨eq,nq,fun k hk=>by have:=gq k hk;omega,fun cs=>instK.own_out oq (out_row w2 (w.heap.size + 1) cs) (fun k hk=>by have:=gq k hk;simp only [List.mem_singleton];omega)⟩
  clear hst hP1 hb2 eq nq gq
  obtain ⟨qh,qb,qbs,qr,qrs,qd,qds⟩:=q
  obtain ⟨s1,t1,rfl⟩:∃ a c,qb=.slice a qbs.length c:=oq.1.shape
  obtain ⟨s2,t2,rfl⟩:∃ a c,qr=.slice a qrs.length c:=oq.2.1.shape
  obtain ⟨s3,t3,rfl⟩:∃ a c,qd=.slice a qds.length c:=oq.2.2.shape
  have Rr:=Rb.row #[.int .i64 D,.int .i64 0,.bool false,.bool false,.int .i64 0,.bool qh,.slice s1 qbs.length t1,.slice s2 qrs.length t2,.slice s3 qds.length t3]
  have hBr:=below_row hB (g:=w.heap.size + 1) (by omega) #[.int .i64 D,.int .i64 0,.bool false,.bool false,.int .i64 0,.bool qh,.slice s1 qbs.length t1,.slice s2 qrs.length t2,.slice s3 qds.length t3]
  have hsr:(Tryz.prog.info? 34).map (·.size)=some (#[.int .i64 D,.int .i64 0,.bool false,.bool false,.int .i64 0,.bool qh,.slice s1 qbs.length t1,.slice s2 qrs.length t2,.slice s3 qds.length t3]:Array Value).size:=sz_res
  clear oq
  go_wp2_with (first | (refine st_row (by kernel_rfl) 34 _ _ rfl _ #[.int .i64 D,.int .i64 0,.bool false,.bool false,.int .i64 0,.bool qh,.slice s1 qbs.length t1,.slice s2 qrs.length t2,.slice s3 qds.length t3] rfl rfl 34 _ Rb hsr rfl (by simp [Value.oneCell']) ?_))
  have q0:=Rr.cell 0 _ rfl
  have q1:=Rr.cell 1 _ rfl
  have q2:=Rr.cell 2 _ rfl
  have q3:=Rr.cell 3 _ rfl
  have q4:=Rr.cell 4 _ rfl
  have q5:=Rr.cell 5 _ rfl
  have q6:=Rr.cell 6 _ rfl
  have q7:=Rr.cell 7 _ rfl
  have q8:=Rr.cell 8 _ rfl
  exact bodyPost_ret (v:=.agg #[.int .i64 D,.int .i64 0,.bool false,.bool false,.int .i64 0,.bool qh,.slice s1 qbs.length t1,.slice s2 qrs.length t2,.slice s3 qds.length t3]) (by simp [results,Tryz.results20,go_sem,q0,q1,q2,q3,q4,q5,q6,q7,q8]) rfl ⟨⟨qh,.slice s1 qbs.length t1,qbs,.slice s2 qrs.length t2,qrs,.slice s3 qds.length t3,qds⟩,rfl,HQ.out.1,HQ.out.2.2.2 _,HQ.out.2.1,HQ.out.2.2.1,hBr⟩

end Go.Proofs.YtpjmlidbligcbaaGreatDoor
namespace Go.Proofs.YtpjmlidbligcbaaGreatDoor
open Go.RowKit
open Go.BigFrame
set_option maxRecDepth 100000
set_option maxHeartbeats 2000000 in
theorem implNewInstance_any (w:World) (hO:Opn w) :
  Calls Tryz.prog 24 #[] w fun e w' => ∃ q:InstQ,e=.returned (.agg (resC 0 0 false false 0 q))∧q.e=newE∧instK.own w' q∧(instK.foot q).Nodup∧(∀ k∈instK.foot q,w.heap.size≤k)∧Below w.heap.size w w' := by
 have hB:Below w.heap.size w (w.alloc (.cells #[.int .i64 0,.int .i64 0,.bool false,.bool false,.int .i64 0,.bool false,.slice none 0 0,.slice none 0 0,.slice none 0 0] 34)):=by go_grown
 have Rb:=Blk.new w 34 #[.int .i64 0,.int .i64 0,.bool false,.bool false,.int .i64 0,.bool false,.slice none 0 0,.slice none 0 0,.slice none 0 0]
 have hO1:=(hO.below hB).range
 have Bz:=Blk.new (w.alloc (.cells #[.int .i64 0,.int .i64 0,.bool false,.bool false,.int .i64 0,.bool false,.slice none 0 0,.slice none 0 0,.slice none 0 0] 34)) 104 #[.int .i64 0,.int .i64 0,.int .i64 0,.int .i64 0,.int .i64 0,.int .i64 0,.int .i64 0,.int .i64 0,.int .i64 0,.int .i64 0,.int .i64 0,.int .i64 0,.int .i64 0,.int .i64 0,.int .i64 0,.int .i64 0,.int .i64 0,.int .i64 0,.int .i64 0,.int .i64 0,.int .i64 0,.int .i64 0,.int .i64 0,.int .i64 0,.int .i64 0,.bool false,.slice none 0 0,.int .i64 0,.int .i64 0,.int .i64 0]
 have hal:Below (w.alloc (.cells #[.int .i64 0,.int .i64 0,.bool false,.bool false,.int .i64 0,.bool false,.slice none 0 0,.slice none 0 0,.slice none 0 0] 34)).heap.size (w.alloc (.cells #[.int .i64 0,.int .i64 0,.bool false,.bool false,.int .i64 0,.bool false,.slice none 0 0,.slice none 0 0,.slice none 0 0] 34)) ((w.alloc (.cells #[.int .i64 0,.int .i64 0,.bool false,.bool false,.int .i64 0,.bool false,.slice none 0 0,.slice none 0 0,.slice none 0 0] 34)).alloc (.cells #[.int .i64 0,.int .i64 0,.int .i64 0,.int .i64 0,.int .i64 0,.int .i64 0,.int .i64 0,.int .i64 0,.int .i64 0,.int .i64 0,.int .i64 0,.int .i64 0,.int .i64 0,.int .i64 0,.int .i64 0,.int .i64 0,.int .i64 0,.int .i64 0,.int .i64 0,.int .i64 0,.int .i64 0,.int .i64 0,.int .i64 0,.int .i64 0,.int .i64 0,.bool false,.slice none 0 0,.int .i64 0,.int .i64 0,.int .i64 0] 104)):=by go_grown
 have hO2:=((hO.below hB).below hal).range
 have hws:w.heap.size < (w.alloc (.cells #[.int .i64 0,.int .i64 0,.bool false,.bool false,.int .i64 0,.bool false,.slice none 0 0,.slice none 0 0,.slice none 0 0] 34)).heap.size:=by simp
 have hB2:=below_row (hB.trans (hal.mono hB.size)) (g:=(w.alloc (.cells #[.int .i64 0,.int .i64 0,.bool false,.bool false,.int .i64 0,.bool false,.slice none 0 0,.slice none 0 0,.slice none 0 0] 34)).heap.size) hB.size #[.int .i64 0,.int .i64 0,.int .i64 0,.int .i64 0,.int .i64 0,.int .i64 0,.int .i64 0,.int .i64 0,.int .i64 0,.int .i64 0,.int .i64 0,.int .i64 0,.int .i64 0,.int .i64 0,.int .i64 0,.int .i64 0,.int .i64 0,.int .i64 0,.int .i64 0,.int .i64 0,.int .i64 0,.int .i64 0,.int .i64 0,.int .i64 0,.int .i64 0,.bool false,.slice none 0 0,.int .i64 3,.int .i64 3,.int .i64 3]
 have Rb2:Blk (((w.alloc (.cells #[.int .i64 0,.int .i64 0,.bool false,.bool false,.int .i64 0,.bool false,.slice none 0 0,.slice none 0 0,.slice none 0 0] 34)).alloc (.cells #[.int .i64 0,.int .i64 0,.int .i64 0,.int .i64 0,.int .i64 0,.int .i64 0,.int .i64 0,.int .i64 0,.int .i64 0,.int .i64 0,.int .i64 0,.int .i64 0,.int .i64 0,.int .i64 0,.int .i64 0,.int .i64 0,.int .i64 0,.int .i64 0,.int .i64 0,.int .i64 0,.int .i64 0,.int .i64 0,.int .i64 0,.int .i64 0,.int .i64 0,.bool false,.slice none 0 0,.int .i64 0,.int .i64 0,.int .i64 0] 104)).setRow (w.alloc (.cells #[.int .i64 0,.int .i64 0,.bool false,.bool false,.int .i64 0,.bool false,.slice none 0 0,.slice none 0 0,.slice none 0 0] 34)).heap.size #[.int .i64 0,.int .i64 0,.int .i64 0,.int .i64 0,.int .i64 0,.int .i64 0,.int .i64 0,.int .i64 0,.int .i64 0,.int .i64 0,.int .i64 0,.int .i64 0,.int .i64 0,.int .i64 0,.int .i64 0,.int .i64 0,.int .i64 0,.int .i64 0,.int .i64 0,.int .i64 0,.int .i64 0,.int .i64 0,.int .i64 0,.int .i64 0,.int .i64 0,.bool false,.slice none 0 0,.int .i64 3,.int .i64 3,.int .i64 3]) w.heap.size 34 #[.int .i64 0,.int .i64 0,.bool false,.bool false,.int .i64 0,.bool false,.slice none 0 0,.slice none 0 0,.slice none 0 0]:=(setRow_other _ _ _ _ (by omega)).trans (Rb.below hal)
 have B2:=Bz.row #[.int .i64 0,.int .i64 0,.int .i64 0,.int .i64 0,.int .i64 0,.int .i64 0,.int .i64 0,.int .i64 0,.int .i64 0,.int .i64 0,.int .i64 0,.int .i64 0,.int .i64 0,.int .i64 0,.int .i64 0,.int .i64 0,.int .i64 0,.int .i64 0,.int .i64 0,.int .i64 0,.int .i64 0,.int .i64 0,.int .i64 0,.int .i64 0,.int .i64 0,.bool false,.slice none 0 0,.int .i64 3,.int .i64 3,.int .i64 3]
 have hO3:=(hO.below hB2)
 have hO3r:=hO3.range
 have hszN:(Tryz.prog.info? 104).map (·.size)=some (#[.int .i64 0,.int .i64 0,.int .i64 0,.int .i64 0,.int .i64 0,.int .i64 0,.int .i64 0,.int .i64 0,.int .i64 0,.int .i64 0,.int .i64 0,.int .i64 0,.int .i64 0,.int .i64 0,.int .i64 0,.int .i64 0,.int .i64 0,.int .i64 0,.int .i64 0,.int .i64 0,.int .i64 0,.int .i64 0,.int .i64 0,.int .i64 0,.int .i64 0,.bool false,.slice none 0 0,.int .i64 3,.int .i64 3,.int .i64 3]:Array Value).size:=by kernel_rfl
 have honeN:(#[.int .i64 0,.int .i64 0,.int .i64 0,.int .i64 0,.int .i64 0,.int .i64 0,.int .i64 0,.int .i64 0,.int .i64 0,.int .i64 0,.int .i64 0,.int .i64 0,.int .i64 0,.int .i64 0,.int .i64 0,.int .i64 0,.int .i64 0,.int .i64 0,.int .i64 0,.int .i64 0,.int .i64 0,.int .i64 0,.int .i64 0,.int .i64 0,.int .i64 0,.bool false,.slice none 0 0,.int .i64 3,.int .i64 3,.int .i64 3]:Array Value).all (·.oneCell')=true:=by kernel_rfl
 have hgo:(w.alloc (.cells #[.int .i64 0,.int .i64 0,.bool false,.bool false,.int .i64 0,.bool false,.slice none 0 0,.slice none 0 0,.slice none 0 0] 34)).heap.size≠0:=by have h1:=hO.glob;have h2:=hws;omega
 have had:Calls Tryz.prog 88 #[.pointer (some ⟨(w.alloc (.cells #[.int .i64 0,.int .i64 0,.bool false,.bool false,.int .i64 0,.bool false,.slice none 0 0,.slice none 0 0,.slice none 0 0] 34)).heap.size,0,none⟩),.int .i64 0] (((w.alloc (.cells #[.int .i64 0,.int .i64 0,.bool false,.bool false,.int .i64 0,.bool false,.slice none 0 0,.slice none 0 0,.slice none 0 0] 34)).alloc (.cells #[.int .i64 0,.int .i64 0,.int .i64 0,.int .i64 0,.int .i64 0,.int .i64 0,.int .i64 0,.int .i64 0,.int .i64 0,.int .i64 0,.int .i64 0,.int .i64 0,.int .i64 0,.int .i64 0,.int .i64 0,.int .i64 0,.int .i64 0,.int .i64 0,.int .i64 0,.int .i64 0,.int .i64 0,.int .i64 0,.int .i64 0,.int .i64 0,.int .i64 0,.bool false,.slice none 0 0,.int .i64 0,.int .i64 0,.int .i64 0] 104)).setRow (w.alloc (.cells #[.int .i64 0,.int .i64 0,.bool false,.bool false,.int .i64 0,.bool false,.slice none 0 0,.slice none 0 0,.slice none 0 0] 34)).heap.size #[.int .i64 0,.int .i64 0,.int .i64 0,.int .i64 0,.int .i64 0,.int .i64 0,.int .i64 0,.int .i64 0,.int .i64 0,.int .i64 0,.int .i64 0,.int .i64 0,.int .i64 0,.int .i64 0,.int .i64 0,.int .i64 0,.int .i64 0,.int .i64 0,.int .i64 0,.int .i64 0,.int .i64 0,.int .i64 0,.int .i64 0,.int .i64 0,.int .i64 0,.bool false,.slice none 0 0,.int .i64 3,.int .i64 3,.int .i64 3]) _:=reach_any (w.alloc (.cells #[.int .i64 0,.int .i64 0,.bool false,.bool false,.int .i64 0,.bool false,.slice none 0 0,.slice none 0 0,.slice none 0 0] 34)).heap.size 104 [] ([.bool false,.slice none 0 0] ++ ([3,3,3]:List Int).map iv) 0 (((w.alloc (.cells #[.int .i64 0,.int .i64 0,.bool false,.bool false,.int .i64 0,.bool false,.slice none 0 0,.slice none 0 0,.slice none 0 0] 34)).alloc (.cells #[.int .i64 0,.int .i64 0,.int .i64 0,.int .i64 0,.int .i64 0,.int .i64 0,.int .i64 0,.int .i64 0,.int .i64 0,.int .i64 0,.int .i64 0,.int .i64 0,.int .i64 0,.int .i64 0,.int .i64 0,.int .i64 0,.int .i64 0,.int .i64 0,.int .i64 0,.int .i64 0,.int .i64 0,.int .i64 0,.int .i64 0,.int .i64 0,.int .i64 0,.bool false,.slice none 0 0,.int .i64 0,.int .i64 0,.int .i64 0] 104)).setRow (w.alloc (.cells #[.int .i64 0,.int .i64 0,.bool false,.bool false,.int .i64 0,.bool false,.slice none 0 0,.slice none 0 0,.slice none 0 0] 34)).heap.size #[.int .i64 0,.int .i64 0,.int .i64 0,.int .i64 0,.int .i64 0,.int .i64 0,.int .i64 0,.int .i64 0,.int .i64 0,.int .i64 0,.int .i64 0,.int .i64 0,.int .i64 0,.int .i64 0,.int .i64 0,.int .i64 0,.int .i64 0,.int .i64 0,.int .i64 0,.int .i64 0,.int .i64 0,.int .i64 0,.int .i64 0,.int .i64 0,.int .i64 0,.bool false,.slice none 0 0,.int .i64 3,.int .i64 3,.int .i64 3]) hO3 hgo B2 (fun r hr=>by simp at hr) (by simp) (by omega)
 simp only [World.size_alloc] at Bz B2 had hB2 Rb2 hal hws hO3r
 go_enter Tryz.func24,Tryz.ntmps24
 go_wp2_with (first | (refine ld_g (by kernel_rfl) 97 _ rfl _ _ rfl [.int .i64 3,.int .i64 3,.int .i64 3] _ hO1 Tryz.underlying97 rfl sz_row ?_) | (refine ld_g (by kernel_rfl) 97 _ rfl _ _ rfl [.int .i64 3,.int .i64 3,.int .i64 3] _ hO2 Tryz.underlying97 rfl sz_row ?_) | (refine ld_g (by kernel_rfl) 97 _ rfl _ _ rfl [.int .i64 3,.int .i64 3,.int .i64 3] _ hO3r Tryz.underlying97 rfl sz_row ?_) | (refine st_row (by kernel_rfl) 104 _ _ rfl _ #[.int .i64 0,.int .i64 0,.int .i64 0,.int .i64 0,.int .i64 0,.int .i64 0,.int .i64 0,.int .i64 0,.int .i64 0,.int .i64 0,.int .i64 0,.int .i64 0,.int .i64 0,.int .i64 0,.int .i64 0,.int .i64 0,.int .i64 0,.int .i64 0,.int .i64 0,.int .i64 0,.int .i64 0,.int .i64 0,.int .i64 0,.int .i64 0,.int .i64 0,.bool false,.slice none 0 0,.int .i64 3,.int .i64 3,.int .i64 3] rfl rfl 104 _ Bz hszN rfl honeN ?_))
 refine had.mono ?_
 rintro e X ⟨rfl,B3,hU⟩
 clear had hO1 hO2 hO3r hO3 B2 Bz hal hB hgo
 have R3:Blk X w.heap.size 34 _:=(hU.block _ Rb2.lt (by simp)).trans Rb2
 have hBg:=Out.keep hB2 hU hB2.size (fun k hk=>by simp only [List.mem_singleton] at hk;omega)
 have hwel:Wel [opn3]:=fun r hr=>by simp only [List.mem_singleton] at hr;subst hr;exact ⟨rfl,rfl⟩
 have hin:=fun w (hT:txnK.At w (.slice none 0 0) ([]:List TxnQ))=>instance_any false (.slice none 0 0) [] [opn3] [3,3,3] w hT (fun p hp=>by simp at hp) (by simp [nmL]) hwel (by simp) rfl
 have hTx:∀ w,txnK.At w (.slice none 0 0) ([]:List TxnQ):=fun w=>(Kind.own_nil (K:=txnK) w).1.at
 change Blk X _ _ (brdC false (.slice none 0 0) [opn3] [3,3,3]).toArray at B3
 have hXg:=B3.lt
 have X4:=rng B3 (brdC false (.slice none 0 0) [opn3] [3,3,3]) (o:=0) (fun j v hv=>by rw [Nat.zero_add,List.getElem?_toArray];exact hv)
 have hs30:(Tryz.prog.info? 104).map (·.size)=some (brdC false (.slice none 0 0) [opn3] [3,3,3]).length:=by kernel_rfl
 clear B3 hU Rb Rb2 hB2
 generalize brdC false (.slice none 0 0) [opn3] [3,3,3]=BR at *
 go_wp2_with (first | (refine ld_g (by kernel_rfl) 104 _ rfl _ _ rfl BR _ X4 Tryz.underlying104 rfl hs30 ?_))
 clear X4 hs30
 refine (hin X (hTx X)).mono ?_
 rintro e w7 ⟨q,rfl,eq,oq,nq,gq,hb7⟩
 have R5:=R3.below hb7
 have L5:∀ k∈instK.foot q,w.heap.size + 2≤k:=fun k hk=>by have:=gq k hk;omega
 replace hBg:=hBg.trans (hb7.mono hBg.size)
 have hous:∀ cs,instK.own (w7.setRow w.heap.size cs) q:=fun cs=>instK.own_out oq (out_row w7 w.heap.size cs) (fun k hk=>by have:=L5 k hk;simp only [List.mem_singleton];omega)
 have HQ:Hid (q.e=newE∧(instK.foot q).Nodup∧(∀ k∈instK.foot q,w.heap.size≤k)∧∀ cs,instK.own (w7.setRow w.heap.size cs) q):=⟨eq,nq,fun k hk=>by have:=L5 k hk;omega,hous⟩
 clear hin gq hb7 R3 eq nq hous L5
 obtain ⟨qh,qb,qbs,qr,qrs,qd,qds⟩:=q
 obtain ⟨s1,t1,rfl⟩:∃ a c,qb=.slice a qbs.length c:=oq.1.shape
 obtain ⟨s2,t2,rfl⟩:∃ a c,qr=.slice a qrs.length c:=oq.2.1.shape
 obtain ⟨s3,t3,rfl⟩:∃ a c,qd=.slice a qds.length c:=oq.2.2.shape
 have Rr:=R5.row #[.int .i64 0,.int .i64 0,.bool false,.bool false,.int .i64 0,.bool qh,.slice s1 qbs.length t1,.slice s2 qrs.length t2,.slice s3 qds.length t3]
 have hBr:=below_row hBg (g:=w.heap.size) (Nat.le_refl _) #[.int .i64 0,.int .i64 0,.bool false,.bool false,.int .i64 0,.bool qh,.slice s1 qbs.length t1,.slice s2 qrs.length t2,.slice s3 qds.length t3]
 have hsr:(Tryz.prog.info? 34).map (·.size)=some (#[.int .i64 0,.int .i64 0,.bool false,.bool false,.int .i64 0,.bool qh,.slice s1 qbs.length t1,.slice s2 qrs.length t2,.slice s3 qds.length t3]:Array Value).size:=sz_res
 clear oq
 go_wp2_with (first | (refine st_row (by kernel_rfl) 34 _ _ rfl _ #[.int .i64 0,.int .i64 0,.bool false,.bool false,.int .i64 0,.bool qh,.slice s1 qbs.length t1,.slice s2 qrs.length t2,.slice s3 qds.length t3] rfl rfl 34 _ R5 hsr rfl (by simp [Value.oneCell']) ?_))
 have q0:=Rr.cell 0 _ rfl
 have q1:=Rr.cell 1 _ rfl
 have q2:=Rr.cell 2 _ rfl
 have q3:=Rr.cell 3 _ rfl
 have q4:=Rr.cell 4 _ rfl
 have q5:=Rr.cell 5 _ rfl
 have q6:=Rr.cell 6 _ rfl
 have q7:=Rr.cell 7 _ rfl
 have q8:=Rr.cell 8 _ rfl
 exact bodyPost_ret (v:=.agg #[.int .i64 0,.int .i64 0,.bool false,.bool false,.int .i64 0,.bool qh,.slice s1 qbs.length t1,.slice s2 qrs.length t2,.slice s3 qds.length t3]) (by simp [results,Tryz.results24,go_sem,q0,q1,q2,q3,q4,q5,q6,q7,q8]) rfl ⟨⟨qh,.slice s1 qbs.length t1,qbs,.slice s2 qrs.length t2,qrs,.slice s3 qds.length t3,qds⟩,rfl,HQ.out.1,HQ.out.2.2.2 _,HQ.out.2.1,HQ.out.2.2.1,hBr⟩

end Go.Proofs.YtpjmlidbligcbaaGreatDoor
namespace Go.Proofs.YtpjmlidbligcbaaGreatDoor
open Go.RowKit Go.Maps
set_option maxRecDepth 100000
theorem TxnRow.append {base:Nat} {w w' : World} {v v' : Value} {ps:List TxnP} (h:TxnRow base w v ps) (p:TxnP) (hp:w.ownsRow base 195 3 p.sl p.d.acts.length (actCells p.d.acts)) (hpn:p.sl.ownBlock=none∨p.sl.ownBlock≠v.ownBlock)
  (hown:w'.ownsRow base 68 4 v' (ps.length + 1) (txnCells ps ++ p.cells)) (hgrow:w.grownBy w' v.ownBlock) (hat:v'.ownBlock=v.ownBlock∨v'.ownBlock=some w.heap.size) (hnv:v' ≠ .slice none 0 0):TxnRow base w' v' (ps ++ [p]):=by
 have key:∀ r:TxnP,w.ownsRow base 195 3 r.sl r.d.acts.length (actCells r.d.acts)→(r.sl.ownBlock=none∨r.sl.ownBlock≠v.ownBlock)→w'.ownsRow base 195 3 r.sl r.d.acts.length (actCells r.d.acts)∧(r.sl.ownBlock=none∨r.sl.ownBlock≠v'.ownBlock):=by
  intro r hr hn
  refine ⟨hr.kept hgrow hn,?_⟩
  rcases hn with e | e
  ·exact Or.inl e
  ·right
   rcases hat with e2 | e2
   ·rw [e2];exact e
   ·rw [e2]
    intro e3
    have:=(hr.lt _ e3).2
    omega
 refine ⟨by simpa [txnCells] using hown,fun r hr=>?_,hnv⟩
 simp only [List.mem_append,List.mem_singleton] at hr
 rcases hr with hr | rfl
 ·exact key r (h.2.1 r hr).1 (h.2.1 r hr).2
 ·exact key r hp hpn

theorem made61:(madeCells #[Value.int .i64 0,.int .i64 0,.int .i64 0,.slice none 0 0] (61 * 4)).toList=txnCells (List.replicate 61 txnPNo):=by kernel_rfl

set_option maxRecDepth 100000 in
set_option maxHeartbeats 1000000 in
theorem l2Many_any (B b T:Nat) (w:World) (hS:Src B w b T) (hT:T≤800000) :
  Calls Tryz.prog 95 #[.pointer (some ⟨b,0,none⟩),.int .i64 6] w fun e w' => ∃ (v:Value) (ps:List TxnP),e=.returned v∧ps.length≤5∧(∀ p∈ps,p.d.acts.length≤5)∧TxnRow w.heap.size w' v ps∧Src B w' b (T + 100)∧w.grownBy w' (some b):=by
 obtain ⟨i0,hi,hz0,hz1,hz2⟩:=info_parts infoTxn
 have hlt:=hS.lt
 have ho0:(w.alloc (.cells #[] 68)).ownsRow w.heap.size 68 4 (.slice (some ⟨w.heap.size,0,none⟩) 0 0) 0 []:=World.ownsRow_lit w #[] 0 (Nat.le_refl _) (by decide) rfl
 have hg:w.grownBy (w.alloc (.cells #[] 68)) (some b):=World.grownBy_alloc w _ _
 replace hS:Src B (w.alloc (.cells #[] 68)) b T:=hS.below (by go_grown)
 go_enter Tryz.func95,Tryz.ntmps95
 go_wp2_with fail
 generalize w.alloc (.cells #[] 68)=W1 at ho0 hg hS
 refine (next_any B b T 6 W1 hS (by omega) (by omega)).mono ?_
 rintro e w3 ⟨r,rfl,hr,hSn,hgn⟩
 obtain ⟨j0,rfl⟩:=Int.eq_ofNat_of_zero_le hr.1
 have hj0:j0≤5:=by have:=hr.2.1 (by omega);omega
 have hR0:TxnRow w.heap.size W1 (.slice (some ⟨w.heap.size,0,none⟩) 0 0) []:=⟨ho0,by simp,by simp⟩
 replace hR0:=hR0.src hlt.2 hgn
 replace hg:=hg.trans hgn
 replace hS:=hSn
 clear hgn hSn hr ho0
 go_wp2
 go_loopw [5,6] (fun v c wr=>∃ (j:Nat) (ps:List TxnP),c=.int .i64 j∧j + ps.length≤5∧Hid (∀ p∈ps,p.d.acts.length≤5)∧TxnRow w.heap.size wr v ps∧Src B wr b (T + 1 + 13 * ps.length)∧w.grownBy wr (some b)) (fun _ c _=>(intOf c).toNat)
 case atStart=>exact ⟨j0,[],rfl,by simp;omega,by intro p hp;simp at hp,hR0,hS,hg⟩
 case round=>
  clear hR0 hS hg
  obtain ⟨j,ps,rfl,hj,HP,hR,hS,hg⟩:=hrel
  have hsz:=hg.size
  obtain ⟨a1,c1,rfl⟩:=own_shape hR.1
  by_cases hpos:0 < j
  ·go_wp2_with fail
   refine (l2Draw_any B b (T + 1 + 13 * ps.length) wr hS (by omega)).mono ?_
   rintro e w4 ⟨i,s,q,a,c,xs,rfl,hx1,hx3,ho,hSn,hgn⟩
   have hpn:Value.ownBlock (.slice a xs.length c)=none∨Value.ownBlock (.slice a xs.length c)≠Value.ownBlock (.slice a1 ps.length c1):=own_apart3' hR.1 ho (Nat.le_refl _)
   replace hR:=hR.src hlt.2 hgn
   replace hg:=hg.trans hgn
   replace hS:=hSn
   replace ho:=own_base ho hsz
   clear hgn hSn
   have hbA:Below w4.heap.size w4 (w4.alloc (.cells #[.int .i64 i,.int .i64 s,.int .i64 q,.slice a xs.length c] 68)):=by go_grown
   have hsz4:=hg.size
   have ho2:=own_below hR.1 hbA
   go_wp2_with (at_builtin;refine wpList_append_own_at _ rfl _ _ 24 rfl w.heap.size 68 i0 (.agg #[.int .i64 0,.int .i64 0,.int .i64 0,.slice none 0 0]) 4 48 Tryz.underlying24 hi hz0 hz1 hz2 rfl (by decide) _ ps.length (txnCells ps) rfl ho2 ⟨w4.heap.size,0,none⟩ 1 1 [.int .i64 i,.int .i64 s,.int .i64 q,.slice a xs.length c] rfl rfl ?c1 ?c2 ?c3 ?c4 ?c5 ?_)
   all_goals try (case c1=>intro j u hj;match j,hj with | 0,hj=>simp at hj;subst hj;simp [Addr.add] | 1,hj=>simp at hj;subst hj;simp [Addr.add] | 2,hj=>simp at hj;subst hj;simp [Addr.add] | 3,hj=>simp at hj;subst hj;simp [Addr.add])
   all_goals try (case c2=>intro u hu;simp at hu;rcases hu with rfl | rfl | rfl | rfl <;> rfl)
   all_goals try (case c3=>unfold maxLen;omega)
   all_goals try (case c4=>omega)
   all_goals try (case c5=>first | omega | (simp;omega))
   intro v' w5 hown hgrow hnil hat
   have hgo:∀ j,(Value.slice a1 ps.length c1).ownBlock=some j→w.heap.size≤j:=fun j hj=>(ho2.lt j hj).1
   have hB5:Below w.heap.size w4 w5:=((Below.refl w.heap.size w4).alloc hsz4 (.cells #[.int .i64 i,.int .i64 s,.int .i64 q,.slice a xs.length c] 68)).grown hgrow (by simp;omega) hgo
   have hR5:Hid (TxnRow w.heap.size w5 v' (ps ++ [⟨⟨i,s,q,xs⟩,a,c⟩])):=(hR.below hbA).append ⟨⟨i,s,q,xs⟩,a,c⟩ (own_below ho hbA) hpn (by simpa [TxnP.cells,TxnP.sl] using hown) hgrow (by rw [World.size_alloc];exact hat) hnil
   replace hg:=grown_low hg hB5
   replace hS:=hS.low hB5 hlt.2
   have HP5:Hid (∀ p∈ps ++ [(⟨⟨i,s,q,xs⟩,a,c⟩:TxnP)],p.d.acts.length≤5):=by
    intro p hp
    simp only [List.mem_append,List.mem_singleton] at hp
    rcases hp with hp | rfl
    ·exact HP.out p hp
    ·show xs.length≤5;omega
   clear hR ho ho2 hown hgrow hat hnil hgo hB5 hbA hpn
   go_wp2
   go_roundw
   case rel=>exact ⟨j - 1,ps ++ [⟨⟨i,s,q,xs⟩,a,c⟩],by go_num,by simp;omega,HP5,hR5.out,hS.mono (by simp;omega),hg⟩
   case measure=>simp [intOf];omega
  ·go_wp2
   go_ret
   exact ⟨_,ps,rfl,by omega,HP.out,hR,hS.mono (by omega),hg⟩

set_option maxRecDepth 100000 in
set_option maxHeartbeats 1000000 in
theorem l2BentMany_any (B b T:Nat) (w:World) (hS:Src B w b T) (hT:T≤700000) :
  Calls Tryz.prog 60 #[.pointer (some ⟨b,0,none⟩)] w fun e w' => ∃ (v:Value) (ps:List TxnP),e=.returned v∧ps.length≤61∧(∀ p∈ps,p.d.acts.length≤5)∧TxnRow w.heap.size w' v ps∧Src B w' b (T + 200)∧w.grownBy w' (some b):=by
 obtain ⟨i0,hi,hz0,hz1,hz2⟩:=info_parts infoTxn
 have hlt:=hS.lt
 go_enter Tryz.func60,Tryz.ntmps60
 go_wp2_with fail
 refine (l2Many_any B b T w hS (by omega)).mono ?_
 rintro e w1 ⟨v,ps,rfl,hpl,hpa,hR,hSn,hg⟩
 replace hS:=hSn
 clear hSn
 obtain ⟨a1,c1,rfl⟩:=own_shape hR.1
 have HP:Hid (∀ p∈ps,p.d.acts.length≤5):=hpa
 clear hpa
 go_wp2_with fail
 refine (next_any B b (T + 100) 12 w1 hS (by omega) (by omega)).mono ?_
 rintro e wr ⟨r,rfl,hr,hSn,hgn⟩
 replace hR:=hR.src hlt.2 hgn
 replace hg:=hg.trans hgn
 replace hS:=hSn
 have hsz:=hg.size
 clear hgn hSn hr
 by_cases hr0:r=0
 ·subst hr0
  go_wp2_with fail
  refine (l2Bent_any B b (T + 100 + 1) wr hS (by omega)).mono ?_
  rintro e w4 ⟨i,s,q,a,c,xs,rfl,hx5,ho,hSn,hgn⟩
  have hpn:Value.ownBlock (.slice a xs.length c)=none∨Value.ownBlock (.slice a xs.length c)≠Value.ownBlock (.slice a1 ps.length c1):=own_apart3' hR.1 ho (Nat.le_refl _)
  replace hR:=hR.src hlt.2 hgn
  replace hg:=hg.trans hgn
  replace hS:=hSn
  replace ho:=own_base ho hsz
  clear hgn hSn
  have hbA:Below w4.heap.size w4 (w4.alloc (.cells #[.int .i64 i,.int .i64 s,.int .i64 q,.slice a xs.length c] 68)):=by go_grown
  have hsz4:=hg.size
  have ho2:=own_below hR.1 hbA
  go_wp2_with (at_builtin;refine wpList_append_own_at _ rfl _ _ 24 rfl w.heap.size 68 i0 (.agg #[.int .i64 0,.int .i64 0,.int .i64 0,.slice none 0 0]) 4 48 Tryz.underlying24 hi hz0 hz1 hz2 rfl (by decide) _ ps.length (txnCells ps) rfl ho2 ⟨w4.heap.size,0,none⟩ 1 1 [.int .i64 i,.int .i64 s,.int .i64 q,.slice a xs.length c] rfl rfl ?c1 ?c2 ?c3 ?c4 ?c5 ?_)
  all_goals try (case c1=>intro j u hj;match j,hj with | 0,hj=>simp at hj;subst hj;simp [Addr.add] | 1,hj=>simp at hj;subst hj;simp [Addr.add] | 2,hj=>simp at hj;subst hj;simp [Addr.add] | 3,hj=>simp at hj;subst hj;simp [Addr.add])
  all_goals try (case c2=>intro u hu;simp at hu;rcases hu with rfl | rfl | rfl | rfl <;> rfl)
  all_goals try (case c3=>unfold maxLen;omega)
  all_goals try (case c4=>omega)
  all_goals try (case c5=>first | omega | (simp;omega))
  intro v' w5 hown hgrow hnil hat
  have hgo:∀ j,(Value.slice a1 ps.length c1).ownBlock=some j→w.heap.size≤j:=fun j hj=>(ho2.lt j hj).1
  have hB5:Below w.heap.size w4 w5:=((Below.refl w.heap.size w4).alloc hsz4 (.cells #[.int .i64 i,.int .i64 s,.int .i64 q,.slice a xs.length c] 68)).grown hgrow (by simp;omega) hgo
  have hR5:Hid (TxnRow w.heap.size w5 v' (ps ++ [⟨⟨i,s,q,xs⟩,a,c⟩])):=(hR.below hbA).append ⟨⟨i,s,q,xs⟩,a,c⟩ (own_below ho hbA) hpn (by simpa [TxnP.cells,TxnP.sl] using hown) hgrow (by rw [World.size_alloc];exact hat) hnil
  replace hg:=grown_low hg hB5
  replace hS:=hS.low hB5 hlt.2
  have HP5:Hid (∀ p∈ps ++ [(⟨⟨i,s,q,xs⟩,a,c⟩:TxnP)],p.d.acts.length≤5):=by
   intro p hp
   simp only [List.mem_append,List.mem_singleton] at hp
   rcases hp with hp | rfl
   ·exact HP.out p hp
   ·show xs.length≤5;omega
  clear hR ho ho2 hown hgrow hat hnil hgo hB5 hbA hpn
  go_wp2
  go_ret
  exact ⟨v',ps ++ [⟨⟨i,s,q,xs⟩,a,c⟩],rfl,by simp;omega,HP5.out,hR5.out,hS.mono (by omega),hg⟩
 have hr0' : (r == 0)=false:=by simpa using hr0
 by_cases hr1:r=1
 ·subst hr1
  have hby:i0.bytes * 61≤281474976710656:=by rw [hz2];omega
  have hmx:61≤maxLen:=by unfold maxLen;omega
  clear hr0 hr0' hR
  go_wp2_with (at_make;refine wpList_make_full _ rfl _ _ 24 rfl wr.heap.size 68 i0 (.agg #[.int .i64 0,.int .i64 0,.int .i64 0,.slice none 0 0]) 4 Tryz.underlying24 hi hz0 hz1 _ _ _ _ 61 rfl rfl rfl rfl hby hmx (Nat.le_refl _) ?_)
  intro w3 hown hgrow
  have hb3:Below wr.heap.size wr w3:=(Below.refl _ _).grown hgrow (Nat.le_refl _) (by simp)
  have R:Hid (TxnRow w.heap.size w3 (.slice (some ⟨wr.heap.size,0,none⟩) 61 61) (List.replicate 61 txnPNo)):=by
   refine ⟨by rw [← made61];exact own_base hown hsz,fun p hp=>?_,by simp⟩
   rw [List.eq_of_mem_replicate hp]
   exact ⟨World.ownsRow_nil _ _ _ _,Or.inl rfl⟩
  replace hS:=hS.below hb3
  replace hg:=grown_low hg (hb3.mono hsz)
  clear hown hgrow hb3
  go_wp2
  go_ret
  exact ⟨_,List.replicate 61 txnPNo,rfl,by simp,fun p hp=>by rw [List.eq_of_mem_replicate hp];exact Nat.zero_le _,R.out,hS.mono (by omega),hg⟩
 have hr1' : (r == 1)=false:=by simpa using hr1
 clear hr0 hr1
 go_wp2
 go_ret
 exact ⟨_,ps,rfl,by omega,HP.out,hR,hS.mono (by omega),hg⟩

end Go.Proofs.YtpjmlidbligcbaaGreatDoor
