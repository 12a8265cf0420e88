/- Texts joined, with what the laws reach alone. -/
import Derived.Test.YtdhdnppbgaikfaaGreatDoorLDAU
set_option linter.unusedVariables false
set_option linter.unusedSimpArgs false
namespace Go.Proofs.YtdhdnppbgaikfaaGreatDoor
open Go.RowKit
open Go.BigFrame
set_option maxRecDepth 100000
set_option maxRecDepth 100000 in
set_option maxHeartbeats 8000000 in
theorem l6Bent_any (B b T:Nat) (w:World) (hS:Src B w b T) (hT:T≤500000) :
  Calls Tryz.prog 15 #[.pointer (some ⟨b,0,none⟩)] w fun e w' => ∃ q:InstQ,e=.returned (.agg #[.bool q.has,q.vb,q.vr,q.vd])∧q.n≤1000∧instK.own w' q∧(instK.foot q).Nodup∧(∀ k∈instK.foot q,w.heap.size≤k)∧Src B w' b (T + 2600)∧w.grownBy w' (some b):=by
 have hlt:=hS.lt
 have hb0:Below w.heap.size w (w.alloc (.cells #[.bool false,.slice none 0 0,.slice none 0 0,.slice none 0 0] 28)):=by go_grown
 have R0:=Blk.new w 28 #[.bool false,.slice none 0 0,.slice none 0 0,.slice none 0 0]
 have hg:Out [b] w (w.alloc (.cells #[.bool false,.slice none 0 0,.slice none 0 0,.slice none 0 0] 28)):=Out.of_below hb0
 replace hS:=hS.below hb0
 clear hb0
 go_enter Tryz.func15,Tryz.ntmps15
 go_wp2_with fail
 generalize w.alloc (.cells #[.bool false,.slice none 0 0,.slice none 0 0,.slice none 0 0] 28)=W at *
 refine (l6Draw_any B b T 40 W hS (by omega) (by omega)).mono ?_
 rintro e x1 ⟨q,rfl,hi,oq,nq,gq,hSn,hgn⟩
 have hW:=R0.lt
 have hU:Out [b] W x1:=Out.of_grown hgn
 replace R0:=R0.outs hU (fun hk=>by simp only [List.mem_singleton] at hk;omega)
 replace hS:=hSn
 replace hg:=hg.trans hU
 have hm:=instK.own_lt oq
 have hsm:=ins_small hi
 obtain ⟨hwel,⟨hl1,hl4⟩,hd3,_⟩:=ins_ok hi
 have hrl:q.e.rounds.length=q.rounds.length:=List.length_map _
 have hw3:∀ m (h:m < q.rounds.length),(q.rounds[m]).rep.length=3∧(q.rounds[m]).pro.length=3:=fun m h=>by
  have h8:=wel_at hwel m (by omega)
  have h9:q.e.rounds.getD m rnd0=RoundQ.e q.rounds[m]:=rnd_at q.rounds m h
  rw [h9] at h8
  exact h8
 replace hd3:q.dec.length=3:=hd3
 clear hwel hSn hgn hU hi
 obtain ⟨ch,cb,cbs,cr,crs,cd,cds⟩:=q
 obtain ⟨c1,c4,rfl⟩:∃ a c,cb=.slice a cbs.length c:=oq.1.shape
 obtain ⟨c2,c5,rfl⟩:∃ a c,cr=.slice a crs.length c:=oq.2.1.shape
 obtain ⟨c3,c6,rfl⟩:∃ a c,cd=.slice a cds.length c:=oq.2.2.shape
 dsimp only at hw3 hrl hd3
 have HD3:Hid (cds.length=3):=hd3
 clear hd3
 rw [hrl] at hl1 hl4
 clear hrl
 have hbA:Below x1.heap.size x1 (x1.alloc (.cells #[.bool ch,.slice c1 cbs.length c4,.slice c2 crs.length c5,.slice c3 cds.length c6] 28)):=by go_grown
 have Bx:=Blk.new x1 28 #[.bool ch,.slice c1 cbs.length c4,.slice c2 crs.length c5,.slice c3 cds.length c6]
 have hgw:w.heap.size < x1.heap.size:=R0.lt
 replace R0:=R0.below hbA
 replace hS:=hS.below hbA
 replace hg:=hg.trans (Out.of_below hbA)
 replace oq:=instK.own_out (F:=[]) oq (Out.of_below hbA) (fun _ _=>by simp)
 have low:∀ k∈instK.foot (⟨ch,.slice c1 cbs.length c4,cbs,.slice c2 crs.length c5,crs,.slice c3 cds.length c6,cds⟩:InstQ),w.heap.size < k∧k≠x1.heap.size:=fun k hk=>⟨by have:=gq k hk;omega,by have:=hm k hk;omega⟩
 clear hbA gq hm hW
 obtain ⟨m,hml⟩:∃ m,crs.length=m + 1:=⟨crs.length - 1,by omega⟩
 have hmr:m < crs.length:=by omega
 rw [hml] at oq nq low Bx hsm R0 hS hg ⊢
 go_wp2_with fail
 generalize hgx:x1.heap.size=g at *
 generalize x1.alloc (.cells #[.bool ch,.slice c1 cbs.length c4,.slice c2 (m + 1) c5,.slice c3 cds.length c6] 28)=X1 at *
 clear hgx
 refine (next_any B b (T + 2500) 12 X1 hS (by omega) (by omega)).mono ?_
 rintro e X ⟨sw,rfl,hsw,hSn,hgn⟩
 have hU:Out [b] X1 X:=Out.of_grown hgn
 replace R0:=R0.outs hU (fun hk=>by simp only [List.mem_singleton] at hk;omega)
 replace Bx:=Bx.outs hU (fun hk=>by simp only [List.mem_singleton] at hk;omega)
 replace oq:=instK.own_out oq hU (fun k hk hk' => by simp only [List.mem_singleton] at hk';have:=low k hk;omega)
 replace hS:=hSn
 replace hg:=hg.trans hU
 obtain ⟨sn,rfl⟩:=Int.eq_ofNat_of_zero_le hsw.1
 have hsn:sn < 12:=by have:=hsw.2.1 (by omega);omega
 have hpq:True:=trivial
 clear hsw hSn hgn hU
 have h6:sn=0∨sn=1∨sn=2∨sn=3∨sn=4∨5≤sn:=by omega
 rcases h6 with rfl | rfl | rfl | rfl | rfl | hge
 ·skip
  obtain ⟨g5,rfl⟩:=oq.2.2.blkOf (by show 0 < cds.length;have:=HD3.out;omega)
  have hg5:g5∈instK.foot (⟨ch,.slice c1 cbs.length c4,cbs,.slice c2 (m + 1) c5,crs,.slice (some ⟨g5,0,none⟩) cds.length c6,cds⟩:InstQ):=List.mem_append_right _ (List.mem_append_right _ (by show g5∈intK.fp (.slice (some ⟨g5,0,none⟩) cds.length c6) cds;rw [fp_int];simp))
  have hg5l:=low g5 hg5
  have pz:=lato_cell (F:=[b,g5]) (Bx.cell 3 _ rfl) (by simp only [List.mem_cons,List.not_mem_nil,or_false];omega)
  have hsub:∀ k∈[b],k∈[b,g5]:=fun k hk=>by simp only [List.mem_singleton] at hk;simp [hk]
  go_wp2_with fail
  clear hpq
  refine region_vals [some 15,some 16,some 17,some 18,some 19,some 20,some 21,some 22] (fun vs w' => ∃ (r:Nat) (v:Int) (gp:Nat),vs=[.pointer (some ⟨g,3,none⟩),.slice (some ⟨g5,0,none⟩) cds.length c6,.pointer (some ⟨b,0,none⟩),.int .i64 (r:Int),.pointer (some ⟨b,0,none⟩),.slice (some ⟨gp,0,none⟩) 3 3,.int .i64 v,.pointer (some ⟨g5,r,none⟩)]∧b < gp∧r < 3∧instK.own w' (InstQ.setD (⟨ch,.slice c1 cbs.length c4,cbs,.slice c2 (m + 1) c5,crs,.slice (some ⟨g5,0,none⟩) cds.length c6,cds⟩:InstQ) r v)∧instK.foot (InstQ.setD (⟨ch,.slice c1 cbs.length c4,cbs,.slice c2 (m + 1) c5,crs,.slice (some ⟨g5,0,none⟩) cds.length c6,cds⟩:InstQ) r v)=instK.foot (⟨ch,.slice c1 cbs.length c4,cbs,.slice c2 (m + 1) c5,crs,.slice (some ⟨g5,0,none⟩) cds.length c6,cds⟩:InstQ)∧Src B w' b (T + 2503)∧Out [b,g5] X w') ?_ ?_
  ·have sx:Src B X.drew b (T + 2501):=hS.below ((Below.refl _ _).drew)
   have ux:Out [b] X X.drew:=Out.of_below ((Below.refl _ _).drew)
   have hnn:Nonempty (LatO [b,g5] X):=⟨⟨X,Out.refl _ _⟩⟩
   refine text_begin (S:=fun w' => ∃ u:LatO [b,g5] X,w' = u.val) (by kernel_rfl) ?_
   refine sgr [(0,3),(4,1)] 5 (by kernel_rfl) ⟨⟨_,ux.mono hsub⟩,rfl⟩ ?_
   simp only [pkE]
   repeat go_big_quiet_step (fail)
   refine wpQuiet_nil ?_
   generalize X.drew=wd at sx ux ⊢
   refine twa 3 5 4 (by kernel_rfl) ?_ ?_
   ·skip
    refine opc 3 (some 18) 22 #[.pointer (some ⟨b,0,none⟩),.int .i64 3] (by kernel_rfl) ?_
    refine (next_any B b (T + 2501) 3 _ sx (by omega) (by omega)).mono ?_
    rintro e x7 ⟨ri,rfl,hri,sn',gn⟩
    obtain ⟨r,rfl⟩:=Int.eq_ofNat_of_zero_le hri.1
    have hr3:r < 3:=by have:=hri.2.1 (by omega);omega
    replace sx:=sn'
    have un:Out [b] _ _:=Out.of_grown gn
    replace ux:=ux.trans un
    clear un gn sn' hri
    refine ⟨_,rfl,⟨⟨_,ux.mono hsub⟩,rfl⟩,?_⟩
    simp only [Act.put,pgE,pjE]
    refine ona 5 3 rfl (by kernel_rfl) ?_
    have hpk:=World.ownsRow_lit (e:=2) (size:=1) x7 #[.int .i64 0,.int .i64 1,.int .i64 2] 3 (Nat.le_refl _) (by decide) rfl
    have hgb:b < x7.heap.size:=sx.lt.2
    have hba:Below x7.heap.size x7 (x7.alloc (.cells #[.int .i64 0,.int .i64 1,.int .i64 2] 2)):=by go_grown
    replace sx:=sx.below hba
    replace ux:=ux.trans (Out.of_below hba)
    clear hba
    go_wp2
    refine ThenGo.to ⟨⟨⟨_,ux.mono hsub⟩,rfl⟩,?_⟩
    generalize hGp:x7.heap.size=gp at *
    generalize x7.alloc (.cells #[.int .i64 0,.int .i64 1,.int .i64 2] 2)=Y at *
    clear hGp
    refine cla 6 (some 21) 37 #[.pointer (some ⟨b,0,none⟩),.slice (some ⟨gp,0,none⟩) 3 3] 2 (by kernel_rfl) ?_
    refine (pick_any B b (T + 2502) gp _ [0,1,2] _ sx (by omega) hpk (by simp) (by simp) (by simp [Value.ownBlock];omega)).mono ?_
    rintro e x9 ⟨v,rfl,hv,sn',gn⟩
    replace sx:=sn'
    have un:Out [b] _ _:=Out.of_grown gn
    replace ux:=ux.trans un
    clear un gn sn' hpk
    refine ⟨_,rfl,⟨⟨_,ux.mono hsub⟩,rfl⟩,?_⟩
    simp only [Act.put,pgE,pjE]
    have hr3i:(r:Int) < 3:=by omega
    have hr3d:(r:Int) < (cds.length:Int):=by have:=HD3.out;omega
    refine sgr [(7,1)] 1 (by kernel_rfl) ⟨⟨_,ux.mono hsub⟩,rfl⟩ ?_
    simp only [pkE]
    repeat go_big_quiet_step (fail)
    refine wpQuiet_nil ?_
    refine ona 8 0 rfl (by kernel_rfl) ?_
    have oz:=instK.own_out oq ux (fun k hk hk' => by simp only [List.mem_singleton] at hk';have:=low k hk;omega)
    obtain ⟨g',cap',hv',_,kc,kf,own5,foot5⟩:=own_setD oz nq r (by show r < cds.length;have:=HD3.out;omega) v
    replace hv' : (Value.slice (some ⟨g5,0,none⟩) cds.length c6)=.slice (some ⟨g',0,none⟩) cds.length cap' := hv'
    simp only [Value.slice.injEq,Option.some.injEq,Addr.mk.injEq,and_true,true_and] at hv'
    obtain ⟨rfl,rfl⟩:=hv'
    have sz:=sx.out (Out.setCell x9 g5 r (iv v)) (by simp only [List.mem_singleton];omega) (fun k hk=>by simp only [List.mem_singleton] at hk;omega)
    have uz:Out [b,g5] X (x9.setCell ⟨g5,r,none⟩ (iv v)):=(ux.mono hsub).set (by simp)
    obtain ⟨old,kc2⟩:∃ z,x9.cell? ⟨g5,r,none⟩=some (iv z):=⟨_,kc⟩
    clear kc
    go_wp2
    refine ThenGo.to ⟨⟨⟨_,uz⟩,rfl⟩,?_⟩
    refine text_end (by kernel_rfl) ?_
    refine ⟨rfl,_,⟨r,v,gp,rfl,hgb,hr3,own5,foot5,sz,uz⟩,?_⟩
    simp only [putAll,Act.put,pgE,pjE]
    try rfl
   ·skip
    refine op_one 5 _ rfl ?_
    have hpk:=World.ownsRow_lit (e:=2) (size:=1) wd #[.int .i64 0,.int .i64 1,.int .i64 2] 3 (Nat.le_refl _) (by decide) rfl
    have hgb:b < wd.heap.size:=sx.lt.2
    have hba:Below wd.heap.size wd (wd.alloc (.cells #[.int .i64 0,.int .i64 1,.int .i64 2] 2)):=by go_grown
    replace sx:=sx.below hba
    replace ux:=ux.trans (Out.of_below hba)
    clear hba
    go_wp2
    refine ThenGo.to ⟨⟨⟨_,ux.mono hsub⟩,rfl⟩,?_⟩
    generalize hGp:wd.heap.size=gp at *
    generalize wd.alloc (.cells #[.int .i64 0,.int .i64 1,.int .i64 2] 2)=Y at *
    refine cla 3 (some 18) 22 #[.pointer (some ⟨b,0,none⟩),.int .i64 3] 3 (by kernel_rfl) ?_
    refine (next_any B b (T + 2501) 3 _ sx (by omega) (by omega)).mono ?_
    rintro e x7 ⟨ri,rfl,hri,sn',gn⟩
    obtain ⟨r,rfl⟩:=Int.eq_ofNat_of_zero_le hri.1
    have hr3:r < 3:=by have:=hri.2.1 (by omega);omega
    replace sx:=sn'
    have un:Out [b] _ _:=Out.of_grown gn
    replace ux:=ux.trans un
    replace hpk:=hpk.kept gn (Or.inr (by simp [Value.ownBlock];omega))
    clear un gn sn' hri hGp
    refine ⟨_,rfl,⟨⟨_,ux.mono hsub⟩,rfl⟩,?_⟩
    simp only [Act.put,pgE,pjE]
    refine cla 6 (some 21) 37 #[.pointer (some ⟨b,0,none⟩),.slice (some ⟨gp,0,none⟩) 3 3] 2 (by kernel_rfl) ?_
    refine (pick_any B b (T + 2502) gp _ [0,1,2] _ sx (by omega) hpk (by simp) (by simp) (by simp [Value.ownBlock];omega)).mono ?_
    rintro e x9 ⟨v,rfl,hv,sn',gn⟩
    replace sx:=sn'
    have un:Out [b] _ _:=Out.of_grown gn
    replace ux:=ux.trans un
    clear un gn sn' hpk
    refine ⟨_,rfl,⟨⟨_,ux.mono hsub⟩,rfl⟩,?_⟩
    simp only [Act.put,pgE,pjE]
    have hr3i:(r:Int) < 3:=by omega
    have hr3d:(r:Int) < (cds.length:Int):=by have:=HD3.out;omega
    refine sgr [(7,1)] 1 (by kernel_rfl) ⟨⟨_,ux.mono hsub⟩,rfl⟩ ?_
    simp only [pkE]
    repeat go_big_quiet_step (fail)
    refine wpQuiet_nil ?_
    refine ona 8 0 rfl (by kernel_rfl) ?_
    have oz:=instK.own_out oq ux (fun k hk hk' => by simp only [List.mem_singleton] at hk';have:=low k hk;omega)
    obtain ⟨g',cap',hv',_,kc,kf,own5,foot5⟩:=own_setD oz nq r (by show r < cds.length;have:=HD3.out;omega) v
    replace hv' : (Value.slice (some ⟨g5,0,none⟩) cds.length c6)=.slice (some ⟨g',0,none⟩) cds.length cap' := hv'
    simp only [Value.slice.injEq,Option.some.injEq,Addr.mk.injEq,and_true,true_and] at hv'
    obtain ⟨rfl,rfl⟩:=hv'
    have sz:=sx.out (Out.setCell x9 g5 r (iv v)) (by simp only [List.mem_singleton];omega) (fun k hk=>by simp only [List.mem_singleton] at hk;omega)
    have uz:Out [b,g5] X (x9.setCell ⟨g5,r,none⟩ (iv v)):=(ux.mono hsub).set (by simp)
    obtain ⟨old,kc2⟩:∃ z,x9.cell? ⟨g5,r,none⟩=some (iv z):=⟨_,kc⟩
    clear kc
    go_wp2
    refine ThenGo.to ⟨⟨⟨_,uz⟩,rfl⟩,?_⟩
    refine text_end (by kernel_rfl) ?_
    refine ⟨rfl,_,⟨r,v,gp,rfl,hgb,hr3,own5,foot5,sz,uz⟩,?_⟩
    simp only [putAll,Act.put,pgE,pjE]
    try rfl
  rintro vs X6 ⟨r,v,gp,rfl,_,hr3,ow,fe,sr,uX⟩
  simp only [putAll,Act.put,pjE]
  have Bx6:=Bx.outs uX (fun hk=>by simp only [List.mem_cons,List.not_mem_nil,or_false] at hk;omega)
  have R06:=R0.outs uX (fun hk=>by simp only [List.mem_cons,List.not_mem_nil,or_false] at hk;omega)
  have gro:Out [b] w X6:=⟨uX.os.trans hg.os,uX.tape.trans hg.tape,uX.output.trans hg.output,Nat.le_trans hg.size uX.size,fun k hk hne=>(uX.block k (Nat.lt_of_lt_of_le hk hg.size) (by simp only [List.mem_singleton] at hne;simp only [List.mem_cons,List.not_mem_nil,or_false];omega)).trans (hg.block k hk hne)⟩
  have nd:(instK.foot (InstQ.setD (⟨ch,.slice c1 cbs.length c4,cbs,.slice c2 (m + 1) c5,crs,.slice (some ⟨g5,0,none⟩) cds.length c6,cds⟩:InstQ) r v)).Nodup:=by rw [fe];exact nq
  have lw:∀ k∈instK.foot (InstQ.setD (⟨ch,.slice c1 cbs.length c4,cbs,.slice c2 (m + 1) c5,crs,.slice (some ⟨g5,0,none⟩) cds.length c6,cds⟩:InstQ) r v),w.heap.size < k∧k≠g:=fun k hk=>by rw [fe] at hk;exact low k hk
  have hn:InstQ.n (InstQ.setD (⟨ch,.slice c1 cbs.length c4,cbs,.slice c2 (m + 1) c5,crs,.slice (some ⟨g5,0,none⟩) cds.length c6,cds⟩:InstQ) r v)≤1000:=by rw [inst_ne,setD_e];show InstE.n ⟨_,_,_,(InstQ.e _).dec.set r v⟩≤1000;unfold InstE.n;rw [List.length_set];exact Nat.le_trans hsm (by omega)
  clear Bx R0 hg hS oq nq low uX fe hsub
  have Bx:=Bx6
  have R0:=R06
  clear Bx6 R06
  have Rr:=R0.row #[.bool ch,.slice c1 cbs.length c4,.slice c2 (m + 1) c5,.slice (some ⟨g5,0,none⟩) cds.length c6]
  have hsr:(Tryz.prog.info? 28).map (·.size)=some (#[.bool ch,.slice c1 cbs.length c4,.slice c2 (m + 1) c5,.slice (some ⟨g5,0,none⟩) cds.length c6]:Array Value).size:=sz_inst
  have hUr:=out_row (X6) w.heap.size #[.bool ch,.slice c1 cbs.length c4,.slice c2 (m + 1) c5,.slice (some ⟨g5,0,none⟩) cds.length c6]
  have HZ:Hid (instK.own ((X6).setRow w.heap.size #[.bool ch,.slice c1 cbs.length c4,.slice c2 (m + 1) c5,.slice (some ⟨g5,0,none⟩) cds.length c6]) (InstQ.setD (⟨ch,.slice c1 cbs.length c4,cbs,.slice c2 (m + 1) c5,crs,.slice (some ⟨g5,0,none⟩) cds.length c6,cds⟩:InstQ) r v)∧Src B ((X6).setRow w.heap.size #[.bool ch,.slice c1 cbs.length c4,.slice c2 (m + 1) c5,.slice (some ⟨g5,0,none⟩) cds.length c6]) b (T + 2600)∧w.grownBy ((X6).setRow w.heap.size #[.bool ch,.slice c1 cbs.length c4,.slice c2 (m + 1) c5,.slice (some ⟨g5,0,none⟩) cds.length c6]) (some b)):=by
   refine ⟨instK.own_out ow hUr (fun k hk hk' => by simp only [List.mem_singleton] at hk';have:=lw k hk;omega),?_,?_⟩
   ·exact (sr.out hUr (by simp only [List.mem_singleton];omega) (fun k hk=>by simp only [List.mem_singleton] at hk;omega)).mono (by omega)
   ·exact grown_out (out_grown gro) hUr (fun k hk=>by simp only [List.mem_singleton] at hk;omega)
  have HQ:Hid (InstQ.n (InstQ.setD (⟨ch,.slice c1 cbs.length c4,cbs,.slice c2 (m + 1) c5,crs,.slice (some ⟨g5,0,none⟩) cds.length c6,cds⟩:InstQ) r v)≤1000∧(instK.foot (InstQ.setD (⟨ch,.slice c1 cbs.length c4,cbs,.slice c2 (m + 1) c5,crs,.slice (some ⟨g5,0,none⟩) cds.length c6,cds⟩:InstQ) r v)).Nodup∧∀ k∈instK.foot (InstQ.setD (⟨ch,.slice c1 cbs.length c4,cbs,.slice c2 (m + 1) c5,crs,.slice (some ⟨g5,0,none⟩) cds.length c6,cds⟩:InstQ) r v),w.heap.size≤k):=⟨hn,nd,fun k hk=>by have:=lw k hk;omega⟩
  obtain ⟨p0,p1,p2,p3⟩:=Bx.cel4
  clear ow nd lw hn sr gro hUr
  go_wp2_with (first | (refine st_row (by kernel_rfl) 28 _ _ rfl _ #[.bool ch,.slice c1 cbs.length c4,.slice c2 (m + 1) c5,.slice (some ⟨g5,0,none⟩) cds.length c6] rfl rfl 28 _ R0 hsr rfl (by simp [Value.oneCell']) ?_))
  obtain ⟨q0,q1,q2,q3⟩:=Rr.cel4
  exact bodyPost_ret (v:=.agg #[.bool ch,.slice c1 cbs.length c4,.slice c2 (m + 1) c5,.slice (some ⟨g5,0,none⟩) cds.length c6]) (by simp [results,Tryz.results15,go_sem,q0,q1,q2,q3]) rfl ⟨(InstQ.setD (⟨ch,.slice c1 cbs.length c4,cbs,.slice c2 (m + 1) c5,crs,.slice (some ⟨g5,0,none⟩) cds.length c6,cds⟩:InstQ) r v),rfl,HQ.out.1,HZ.out.1,HQ.out.2.1,HQ.out.2.2,HZ.out.2.1,HZ.out.2.2⟩
 ·skip
  obtain ⟨gr,rfl⟩:=oq.2.1.blkOf (by show 0 < List.length crs;omega)
  have hel:=(oq.2.1.2 _ (List.getElem_mem hmr)).1
  have h3l:(crs[m]).rep.length=3:=(hw3 m hmr).1
  obtain ⟨sa,sc,hsv⟩:=hel.shape
  rw [hsv] at hel
  obtain ⟨g5,rfl⟩:=hel.blkOf (by omega)
  rw [h3l] at hsv
  have hg5:g5∈instK.foot (⟨ch,.slice c1 cbs.length c4,cbs,.slice (some ⟨gr,0,none⟩) (m + 1) c5,crs,.slice c3 cds.length c6,cds⟩:InstQ):=List.mem_append_right _ (List.mem_append_left _ (List.mem_append_right _ (List.mem_flatMap.2 ⟨crs[m],List.getElem_mem hmr,List.mem_append_left _ (by rw [hsv,fp_int];simp)⟩)))
  have hg5l:=low g5 hg5
  have hgr:gr≠g5:=by
   intro e
   have hn2:=(List.nodup_append.1 (List.nodup_append.1 nq).2.1).1
   have hx:=(List.nodup_append.1 hn2).2.2 gr (by simp [blk,Value.ownBlock]) g5 (List.mem_flatMap.2 ⟨crs[m],List.getElem_mem hmr,List.mem_append_left _ (by rw [hsv,fp_int];simp)⟩)
   exact hx e
  have hgrf:gr∈instK.foot (⟨ch,.slice c1 cbs.length c4,cbs,.slice (some ⟨gr,0,none⟩) (m + 1) c5,crs,.slice c3 cds.length c6,cds⟩:InstQ):=List.mem_append_right _ (List.mem_append_left _ (List.mem_append_left _ (by simp [blk,Value.ownBlock])))
  have hgrl:=low gr hgrf
  have hcr:=(oq.2.1.cell m hmr 0 (.slice (some ⟨g5,0,none⟩) 3 sc) (by show ([(crs[m]).vr,(crs[m]).vp]:List Value)[0]? = _;rw [← hsv];rfl)).1
  have hcr2:X.cell? ⟨gr,m * 2,none⟩=some (.slice (some ⟨g5,0,none⟩) 3 sc):=hcr
  have pz:=lato_cell (F:=[b,g5]) (Bx.cell 2 _ rfl) (by simp only [List.mem_cons,List.not_mem_nil,or_false];omega)
  have py:=lato_cell (F:=[b,g5]) hcr2 (by simp only [List.mem_cons,List.not_mem_nil,or_false];omega)
  have hmi:(m:Int) < (m:Int) + 1:=by omega
  clear hcr hcr2 hel
  have hsub:∀ k∈[b],k∈[b,g5]:=fun k hk=>by simp only [List.mem_singleton] at hk;simp [hk]
  go_wp2_with fail
  clear hpq
  refine region_vals [some 25,some 26,some 27,some 28,some 29,some 30,some 31,some 32,some 33,some 34,some 35,some 36] (fun vs w' => ∃ (r:Nat) (v:Int) (gp:Nat),vs=[.pointer (some ⟨g,2,none⟩),.slice (some ⟨gr,0,none⟩) (m + 1) c5,.int .i64 (m:Int),.pointer (some ⟨gr,m * 2,none⟩),.pointer (some ⟨gr,m * 2,none⟩),.slice (some ⟨g5,0,none⟩) 3 sc,.pointer (some ⟨b,0,none⟩),.int .i64 (r:Int),.pointer (some ⟨b,0,none⟩),.slice (some ⟨gp,0,none⟩) 4 4,.int .i64 v,.pointer (some ⟨g5,r,none⟩)]∧b < gp∧r < 3∧instK.own w' (InstQ.setR (⟨ch,.slice c1 cbs.length c4,cbs,.slice (some ⟨gr,0,none⟩) (m + 1) c5,crs,.slice c3 cds.length c6,cds⟩:InstQ) m r v hmr)∧instK.foot (InstQ.setR (⟨ch,.slice c1 cbs.length c4,cbs,.slice (some ⟨gr,0,none⟩) (m + 1) c5,crs,.slice c3 cds.length c6,cds⟩:InstQ) m r v hmr)=instK.foot (⟨ch,.slice c1 cbs.length c4,cbs,.slice (some ⟨gr,0,none⟩) (m + 1) c5,crs,.slice c3 cds.length c6,cds⟩:InstQ)∧Src B w' b (T + 2503)∧Out [b,g5] X w') ?_ ?_
  ·have sx:Src B X.drew b (T + 2501):=hS.below ((Below.refl _ _).drew)
   have ux:Out [b] X X.drew:=Out.of_below ((Below.refl _ _).drew)
   have hnn:Nonempty (LatO [b,g5] X):=⟨⟨X,Out.refl _ _⟩⟩
   refine text_begin (S:=fun w' => ∃ u:LatO [b,g5] X,w' = u.val) (by kernel_rfl) ?_
   refine sgr [(0,7),(8,1)] 5 (by kernel_rfl) ⟨⟨_,ux.mono hsub⟩,rfl⟩ ?_
   simp only [pkE]
   repeat go_big_quiet_step (fail)
   refine wpQuiet_nil ?_
   generalize X.drew=wd at sx ux ⊢
   refine twa 7 9 4 (by kernel_rfl) ?_ ?_
   ·skip
    refine opc 7 (some 32) 22 #[.pointer (some ⟨b,0,none⟩),.int .i64 3] (by kernel_rfl) ?_
    refine (next_any B b (T + 2501) 3 _ sx (by omega) (by omega)).mono ?_
    rintro e x7 ⟨ri,rfl,hri,sn',gn⟩
    obtain ⟨r,rfl⟩:=Int.eq_ofNat_of_zero_le hri.1
    have hr3:r < 3:=by have:=hri.2.1 (by omega);omega
    replace sx:=sn'
    have un:Out [b] _ _:=Out.of_grown gn
    replace ux:=ux.trans un
    clear un gn sn' hri
    refine ⟨_,rfl,⟨⟨_,ux.mono hsub⟩,rfl⟩,?_⟩
    simp only [Act.put,pgE,pjE]
    refine ona 9 3 rfl (by kernel_rfl) ?_
    have hpk:=World.ownsRow_lit (e:=2) (size:=1) x7 #[.int .i64 0,.int .i64 1,.int .i64 3,.int .i64 4] 4 (Nat.le_refl _) (by decide) rfl
    have hgb:b < x7.heap.size:=sx.lt.2
    have hba:Below x7.heap.size x7 (x7.alloc (.cells #[.int .i64 0,.int .i64 1,.int .i64 3,.int .i64 4] 2)):=by go_grown
    replace sx:=sx.below hba
    replace ux:=ux.trans (Out.of_below hba)
    clear hba
    go_wp2
    refine ThenGo.to ⟨⟨⟨_,ux.mono hsub⟩,rfl⟩,?_⟩
    generalize hGp:x7.heap.size=gp at *
    generalize x7.alloc (.cells #[.int .i64 0,.int .i64 1,.int .i64 3,.int .i64 4] 2)=Y at *
    clear hGp
    refine cla 10 (some 35) 37 #[.pointer (some ⟨b,0,none⟩),.slice (some ⟨gp,0,none⟩) 4 4] 2 (by kernel_rfl) ?_
    refine (pick_any B b (T + 2502) gp _ [0,1,3,4] _ sx (by omega) hpk (by simp) (by simp) (by simp [Value.ownBlock];omega)).mono ?_
    rintro e x9 ⟨v,rfl,hv,sn',gn⟩
    replace sx:=sn'
    have un:Out [b] _ _:=Out.of_grown gn
    replace ux:=ux.trans un
    clear un gn sn' hpk
    refine ⟨_,rfl,⟨⟨_,ux.mono hsub⟩,rfl⟩,?_⟩
    simp only [Act.put,pgE,pjE]
    have hr3i:(r:Int) < 3:=by omega
    have hr3d:(r:Int) < (cds.length:Int):=by have:=HD3.out;omega
    refine sgr [(11,1)] 1 (by kernel_rfl) ⟨⟨_,ux.mono hsub⟩,rfl⟩ ?_
    simp only [pkE]
    repeat go_big_quiet_step (fail)
    refine wpQuiet_nil ?_
    refine ona 12 0 rfl (by kernel_rfl) ?_
    have oz:=instK.own_out oq ux (fun k hk hk' => by simp only [List.mem_singleton] at hk';have:=low k hk;omega)
    obtain ⟨g',cap',hv',_,kc,kf,own5,foot5⟩:=own_setR oz nq m r hmr (by show r < (crs[m]).rep.length;omega) v
    replace hv' : (crs[m]).vr=.slice (some ⟨g',0,none⟩) (crs[m]).rep.length cap' := hv'
    rw [hsv,h3l] at hv'
    simp only [Value.slice.injEq,Option.some.injEq,Addr.mk.injEq,and_true,true_and] at hv'
    obtain ⟨rfl,rfl⟩:=hv'
    have sz:=sx.out (Out.setCell x9 g5 r (iv v)) (by simp only [List.mem_singleton];omega) (fun k hk=>by simp only [List.mem_singleton] at hk;omega)
    have uz:Out [b,g5] X (x9.setCell ⟨g5,r,none⟩ (iv v)):=(ux.mono hsub).set (by simp)
    obtain ⟨old,kc2⟩:∃ z,x9.cell? ⟨g5,r,none⟩=some (iv z):=⟨_,kc⟩
    clear kc
    go_wp2
    refine ThenGo.to ⟨⟨⟨_,uz⟩,rfl⟩,?_⟩
    refine text_end (by kernel_rfl) ?_
    refine ⟨rfl,_,⟨r,v,gp,rfl,hgb,hr3,own5,foot5,sz,uz⟩,?_⟩
    simp only [putAll,Act.put,pgE,pjE]
    try rfl
   ·skip
    refine op_one 9 _ rfl ?_
    have hpk:=World.ownsRow_lit (e:=2) (size:=1) wd #[.int .i64 0,.int .i64 1,.int .i64 3,.int .i64 4] 4 (Nat.le_refl _) (by decide) rfl
    have hgb:b < wd.heap.size:=sx.lt.2
    have hba:Below wd.heap.size wd (wd.alloc (.cells #[.int .i64 0,.int .i64 1,.int .i64 3,.int .i64 4] 2)):=by go_grown
    replace sx:=sx.below hba
    replace ux:=ux.trans (Out.of_below hba)
    clear hba
    go_wp2
    refine ThenGo.to ⟨⟨⟨_,ux.mono hsub⟩,rfl⟩,?_⟩
    generalize hGp:wd.heap.size=gp at *
    generalize wd.alloc (.cells #[.int .i64 0,.int .i64 1,.int .i64 3,.int .i64 4] 2)=Y at *
    refine cla 7 (some 32) 22 #[.pointer (some ⟨b,0,none⟩),.int .i64 3] 3 (by kernel_rfl) ?_
    refine (next_any B b (T + 2501) 3 _ sx (by omega) (by omega)).mono ?_
    rintro e x7 ⟨ri,rfl,hri,sn',gn⟩
    obtain ⟨r,rfl⟩:=Int.eq_ofNat_of_zero_le hri.1
    have hr3:r < 3:=by have:=hri.2.1 (by omega);omega
    replace sx:=sn'
    have un:Out [b] _ _:=Out.of_grown gn
    replace ux:=ux.trans un
    replace hpk:=hpk.kept gn (Or.inr (by simp [Value.ownBlock];omega))
    clear un gn sn' hri hGp
    refine ⟨_,rfl,⟨⟨_,ux.mono hsub⟩,rfl⟩,?_⟩
    simp only [Act.put,pgE,pjE]
    refine cla 10 (some 35) 37 #[.pointer (some ⟨b,0,none⟩),.slice (some ⟨gp,0,none⟩) 4 4] 2 (by kernel_rfl) ?_
    refine (pick_any B b (T + 2502) gp _ [0,1,3,4] _ sx (by omega) hpk (by simp) (by simp) (by simp [Value.ownBlock];omega)).mono ?_
    rintro e x9 ⟨v,rfl,hv,sn',gn⟩
    replace sx:=sn'
    have un:Out [b] _ _:=Out.of_grown gn
    replace ux:=ux.trans un
    clear un gn sn' hpk
    refine ⟨_,rfl,⟨⟨_,ux.mono hsub⟩,rfl⟩,?_⟩
    simp only [Act.put,pgE,pjE]
    have hr3i:(r:Int) < 3:=by omega
    have hr3d:(r:Int) < (cds.length:Int):=by have:=HD3.out;omega
    refine sgr [(11,1)] 1 (by kernel_rfl) ⟨⟨_,ux.mono hsub⟩,rfl⟩ ?_
    simp only [pkE]
    repeat go_big_quiet_step (fail)
    refine wpQuiet_nil ?_
    refine ona 12 0 rfl (by kernel_rfl) ?_
    have oz:=instK.own_out oq ux (fun k hk hk' => by simp only [List.mem_singleton] at hk';have:=low k hk;omega)
    obtain ⟨g',cap',hv',_,kc,kf,own5,foot5⟩:=own_setR oz nq m r hmr (by show r < (crs[m]).rep.length;omega) v
    replace hv' : (crs[m]).vr=.slice (some ⟨g',0,none⟩) (crs[m]).rep.length cap' := hv'
    rw [hsv,h3l] at hv'
    simp only [Value.slice.injEq,Option.some.injEq,Addr.mk.injEq,and_true,true_and] at hv'
    obtain ⟨rfl,rfl⟩:=hv'
    have sz:=sx.out (Out.setCell x9 g5 r (iv v)) (by simp only [List.mem_singleton];omega) (fun k hk=>by simp only [List.mem_singleton] at hk;omega)
    have uz:Out [b,g5] X (x9.setCell ⟨g5,r,none⟩ (iv v)):=(ux.mono hsub).set (by simp)
    obtain ⟨old,kc2⟩:∃ z,x9.cell? ⟨g5,r,none⟩=some (iv z):=⟨_,kc⟩
    clear kc
    go_wp2
    refine ThenGo.to ⟨⟨⟨_,uz⟩,rfl⟩,?_⟩
    refine text_end (by kernel_rfl) ?_
    refine ⟨rfl,_,⟨r,v,gp,rfl,hgb,hr3,own5,foot5,sz,uz⟩,?_⟩
    simp only [putAll,Act.put,pgE,pjE]
    try rfl
  rintro vs X6 ⟨r,v,gp,rfl,_,hr3,ow,fe,sr,uX⟩
  simp only [putAll,Act.put,pjE]
  have Bx6:=Bx.outs uX (fun hk=>by simp only [List.mem_cons,List.not_mem_nil,or_false] at hk;omega)
  have R06:=R0.outs uX (fun hk=>by simp only [List.mem_cons,List.not_mem_nil,or_false] at hk;omega)
  have gro:Out [b] w X6:=⟨uX.os.trans hg.os,uX.tape.trans hg.tape,uX.output.trans hg.output,Nat.le_trans hg.size uX.size,fun k hk hne=>(uX.block k (Nat.lt_of_lt_of_le hk hg.size) (by simp only [List.mem_singleton] at hne;simp only [List.mem_cons,List.not_mem_nil,or_false];omega)).trans (hg.block k hk hne)⟩
  have nd:(instK.foot (InstQ.setR (⟨ch,.slice c1 cbs.length c4,cbs,.slice (some ⟨gr,0,none⟩) (m + 1) c5,crs,.slice c3 cds.length c6,cds⟩:InstQ) m r v hmr)).Nodup:=by rw [fe];exact nq
  have lw:∀ k∈instK.foot (InstQ.setR (⟨ch,.slice c1 cbs.length c4,cbs,.slice (some ⟨gr,0,none⟩) (m + 1) c5,crs,.slice c3 cds.length c6,cds⟩:InstQ) m r v hmr),w.heap.size < k∧k≠g:=fun k hk=>by rw [fe] at hk;exact low k hk
  have hn:InstQ.n (InstQ.setR (⟨ch,.slice c1 cbs.length c4,cbs,.slice (some ⟨gr,0,none⟩) (m + 1) c5,crs,.slice c3 cds.length c6,cds⟩:InstQ) m r v hmr)≤1000:=by rw [inst_ne,setR_e];show InstE.n ⟨_,_,rstR (InstQ.e _).rounds m r v,_⟩≤1000;unfold InstE.n;rw [rstR_n];exact Nat.le_trans hsm (by omega)
  clear Bx R0 hg hS oq nq low uX fe hsub
  have Bx:=Bx6
  have R0:=R06
  clear Bx6 R06
  have Rr:=R0.row #[.bool ch,.slice c1 cbs.length c4,.slice (some ⟨gr,0,none⟩) (m + 1) c5,.slice c3 cds.length c6]
  have hsr:(Tryz.prog.info? 28).map (·.size)=some (#[.bool ch,.slice c1 cbs.length c4,.slice (some ⟨gr,0,none⟩) (m + 1) c5,.slice c3 cds.length c6]:Array Value).size:=sz_inst
  have hUr:=out_row (X6) w.heap.size #[.bool ch,.slice c1 cbs.length c4,.slice (some ⟨gr,0,none⟩) (m + 1) c5,.slice c3 cds.length c6]
  have HZ:Hid (instK.own ((X6).setRow w.heap.size #[.bool ch,.slice c1 cbs.length c4,.slice (some ⟨gr,0,none⟩) (m + 1) c5,.slice c3 cds.length c6]) (InstQ.setR (⟨ch,.slice c1 cbs.length c4,cbs,.slice (some ⟨gr,0,none⟩) (m + 1) c5,crs,.slice c3 cds.length c6,cds⟩:InstQ) m r v hmr)∧Src B ((X6).setRow w.heap.size #[.bool ch,.slice c1 cbs.length c4,.slice (some ⟨gr,0,none⟩) (m + 1) c5,.slice c3 cds.length c6]) b (T + 2600)∧w.grownBy ((X6).setRow w.heap.size #[.bool ch,.slice c1 cbs.length c4,.slice (some ⟨gr,0,none⟩) (m + 1) c5,.slice c3 cds.length c6]) (some b)):=by
   refine ⟨instK.own_out ow hUr (fun k hk hk' => by simp only [List.mem_singleton] at hk';have:=lw k hk;omega),?_,?_⟩
   ·exact (sr.out hUr (by simp only [List.mem_singleton];omega) (fun k hk=>by simp only [List.mem_singleton] at hk;omega)).mono (by omega)
   ·exact grown_out (out_grown gro) hUr (fun k hk=>by simp only [List.mem_singleton] at hk;omega)
  have HQ:Hid (InstQ.n (InstQ.setR (⟨ch,.slice c1 cbs.length c4,cbs,.slice (some ⟨gr,0,none⟩) (m + 1) c5,crs,.slice c3 cds.length c6,cds⟩:InstQ) m r v hmr)≤1000∧(instK.foot (InstQ.setR (⟨ch,.slice c1 cbs.length c4,cbs,.slice (some ⟨gr,0,none⟩) (m + 1) c5,crs,.slice c3 cds.length c6,cds⟩:InstQ) m r v hmr)).Nodup∧∀ k∈instK.foot (InstQ.setR (⟨ch,.slice c1 cbs.length c4,cbs,.slice (some ⟨gr,0,none⟩) (m + 1) c5,crs,.slice c3 cds.length c6,cds⟩:InstQ) m r v hmr),w.heap.size≤k):=⟨hn,nd,fun k hk=>by have:=lw k hk;omega⟩
  obtain ⟨p0,p1,p2,p3⟩:=Bx.cel4
  clear ow nd lw hn sr gro hUr
  go_wp2_with (first | (refine st_row (by kernel_rfl) 28 _ _ rfl _ #[.bool ch,.slice c1 cbs.length c4,.slice (some ⟨gr,0,none⟩) (m + 1) c5,.slice c3 cds.length c6] rfl rfl 28 _ R0 hsr rfl (by simp [Value.oneCell']) ?_))
  obtain ⟨q0,q1,q2,q3⟩:=Rr.cel4
  exact bodyPost_ret (v:=.agg #[.bool ch,.slice c1 cbs.length c4,.slice (some ⟨gr,0,none⟩) (m + 1) c5,.slice c3 cds.length c6]) (by simp [results,Tryz.results15,go_sem,q0,q1,q2,q3]) rfl ⟨(InstQ.setR (⟨ch,.slice c1 cbs.length c4,cbs,.slice (some ⟨gr,0,none⟩) (m + 1) c5,crs,.slice c3 cds.length c6,cds⟩:InstQ) m r v hmr),rfl,HQ.out.1,HZ.out.1,HQ.out.2.1,HQ.out.2.2,HZ.out.2.1,HZ.out.2.2⟩
 ·skip
  obtain ⟨gr,rfl⟩:=oq.2.1.blkOf (by show 0 < List.length crs;omega)
  have hel:=(oq.2.1.2 _ (List.getElem_mem hmr)).2
  have h3l:(crs[m]).pro.length=3:=(hw3 m hmr).2
  obtain ⟨sa,sc,hsv⟩:=hel.shape
  rw [hsv] at hel
  obtain ⟨g5,rfl⟩:=hel.blkOf (by omega)
  rw [h3l] at hsv
  have hg5:g5∈instK.foot (⟨ch,.slice c1 cbs.length c4,cbs,.slice (some ⟨gr,0,none⟩) (m + 1) c5,crs,.slice c3 cds.length c6,cds⟩:InstQ):=List.mem_append_right _ (List.mem_append_left _ (List.mem_append_right _ (List.mem_flatMap.2 ⟨crs[m],List.getElem_mem hmr,List.mem_append_right _ (by rw [hsv,fp_int];simp)⟩)))
  have hg5l:=low g5 hg5
  have hgr:gr≠g5:=by
   intro e
   have hn2:=(List.nodup_append.1 (List.nodup_append.1 nq).2.1).1
   have hx:=(List.nodup_append.1 hn2).2.2 gr (by simp [blk,Value.ownBlock]) g5 (List.mem_flatMap.2 ⟨crs[m],List.getElem_mem hmr,List.mem_append_right _ (by rw [hsv,fp_int];simp)⟩)
   exact hx e
  have hgrf:gr∈instK.foot (⟨ch,.slice c1 cbs.length c4,cbs,.slice (some ⟨gr,0,none⟩) (m + 1) c5,crs,.slice c3 cds.length c6,cds⟩:InstQ):=List.mem_append_right _ (List.mem_append_left _ (List.mem_append_left _ (by simp [blk,Value.ownBlock])))
  have hgrl:=low gr hgrf
  have hcr:=(oq.2.1.cell m hmr 1 (.slice (some ⟨g5,0,none⟩) 3 sc) (by show ([(crs[m]).vr,(crs[m]).vp]:List Value)[1]? = _;rw [← hsv];rfl)).1
  have hcr2:X.cell? ⟨gr,m * 2 + 1,none⟩=some (.slice (some ⟨g5,0,none⟩) 3 sc):=hcr
  have pz:=lato_cell (F:=[b,g5]) (Bx.cell 2 _ rfl) (by simp only [List.mem_cons,List.not_mem_nil,or_false];omega)
  have py:=lato_cell (F:=[b,g5]) hcr2 (by simp only [List.mem_cons,List.not_mem_nil,or_false];omega)
  have hmi:(m:Int) < (m:Int) + 1:=by omega
  clear hcr hcr2 hel
  have hsub:∀ k∈[b],k∈[b,g5]:=fun k hk=>by simp only [List.mem_singleton] at hk;simp [hk]
  go_wp2_with fail
  clear hpq
  refine region_vals [some 39,some 40,some 41,some 42,some 43,some 44,some 45,some 46,some 47,some 48,some 49,some 50] (fun vs w' => ∃ (r:Nat) (v:Int) (gp:Nat),vs=[.pointer (some ⟨g,2,none⟩),.slice (some ⟨gr,0,none⟩) (m + 1) c5,.int .i64 (m:Int),.pointer (some ⟨gr,m * 2,none⟩),.pointer (some ⟨gr,m * 2 + 1,none⟩),.slice (some ⟨g5,0,none⟩) 3 sc,.pointer (some ⟨b,0,none⟩),.int .i64 (r:Int),.pointer (some ⟨b,0,none⟩),.slice (some ⟨gp,0,none⟩) 4 4,.int .i64 v,.pointer (some ⟨g5,r,none⟩)]∧b < gp∧r < 3∧instK.own w' (InstQ.setP (⟨ch,.slice c1 cbs.length c4,cbs,.slice (some ⟨gr,0,none⟩) (m + 1) c5,crs,.slice c3 cds.length c6,cds⟩:InstQ) m r v hmr)∧instK.foot (InstQ.setP (⟨ch,.slice c1 cbs.length c4,cbs,.slice (some ⟨gr,0,none⟩) (m + 1) c5,crs,.slice c3 cds.length c6,cds⟩:InstQ) m r v hmr)=instK.foot (⟨ch,.slice c1 cbs.length c4,cbs,.slice (some ⟨gr,0,none⟩) (m + 1) c5,crs,.slice c3 cds.length c6,cds⟩:InstQ)∧Src B w' b (T + 2503)∧Out [b,g5] X w') ?_ ?_
  ·have sx:Src B X.drew b (T + 2501):=hS.below ((Below.refl _ _).drew)
   have ux:Out [b] X X.drew:=Out.of_below ((Below.refl _ _).drew)
   have hnn:Nonempty (LatO [b,g5] X):=⟨⟨X,Out.refl _ _⟩⟩
   refine text_begin (S:=fun w' => ∃ u:LatO [b,g5] X,w' = u.val) (by kernel_rfl) ?_
   refine sgr [(0,7),(8,1)] 5 (by kernel_rfl) ⟨⟨_,ux.mono hsub⟩,rfl⟩ ?_
   simp only [pkE]
   repeat go_big_quiet_step (fail)
   refine wpQuiet_nil ?_
   generalize X.drew=wd at sx ux ⊢
   refine twa 7 9 4 (by kernel_rfl) ?_ ?_
   ·skip
    refine opc 7 (some 46) 22 #[.pointer (some ⟨b,0,none⟩),.int .i64 3] (by kernel_rfl) ?_
    refine (next_any B b (T + 2501) 3 _ sx (by omega) (by omega)).mono ?_
    rintro e x7 ⟨ri,rfl,hri,sn',gn⟩
    obtain ⟨r,rfl⟩:=Int.eq_ofNat_of_zero_le hri.1
    have hr3:r < 3:=by have:=hri.2.1 (by omega);omega
    replace sx:=sn'
    have un:Out [b] _ _:=Out.of_grown gn
    replace ux:=ux.trans un
    clear un gn sn' hri
    refine ⟨_,rfl,⟨⟨_,ux.mono hsub⟩,rfl⟩,?_⟩
    simp only [Act.put,pgE,pjE]
    refine ona 9 3 rfl (by kernel_rfl) ?_
    have hpk:=World.ownsRow_lit (e:=2) (size:=1) x7 #[.int .i64 0,.int .i64 1,.int .i64 2,.int .i64 3] 4 (Nat.le_refl _) (by decide) rfl
    have hgb:b < x7.heap.size:=sx.lt.2
    have hba:Below x7.heap.size x7 (x7.alloc (.cells #[.int .i64 0,.int .i64 1,.int .i64 2,.int .i64 3] 2)):=by go_grown
    replace sx:=sx.below hba
    replace ux:=ux.trans (Out.of_below hba)
    clear hba
    go_wp2
    refine ThenGo.to ⟨⟨⟨_,ux.mono hsub⟩,rfl⟩,?_⟩
    generalize hGp:x7.heap.size=gp at *
    generalize x7.alloc (.cells #[.int .i64 0,.int .i64 1,.int .i64 2,.int .i64 3] 2)=Y at *
    clear hGp
    refine cla 10 (some 49) 37 #[.pointer (some ⟨b,0,none⟩),.slice (some ⟨gp,0,none⟩) 4 4] 2 (by kernel_rfl) ?_
    refine (pick_any B b (T + 2502) gp _ [0,1,2,3] _ sx (by omega) hpk (by simp) (by simp) (by simp [Value.ownBlock];omega)).mono ?_
    rintro e x9 ⟨v,rfl,hv,sn',gn⟩
    replace sx:=sn'
    have un:Out [b] _ _:=Out.of_grown gn
    replace ux:=ux.trans un
    clear un gn sn' hpk
    refine ⟨_,rfl,⟨⟨_,ux.mono hsub⟩,rfl⟩,?_⟩
    simp only [Act.put,pgE,pjE]
    have hr3i:(r:Int) < 3:=by omega
    have hr3d:(r:Int) < (cds.length:Int):=by have:=HD3.out;omega
    refine sgr [(11,1)] 1 (by kernel_rfl) ⟨⟨_,ux.mono hsub⟩,rfl⟩ ?_
    simp only [pkE]
    repeat go_big_quiet_step (fail)
    refine wpQuiet_nil ?_
    refine ona 12 0 rfl (by kernel_rfl) ?_
    have oz:=instK.own_out oq ux (fun k hk hk' => by simp only [List.mem_singleton] at hk';have:=low k hk;omega)
    obtain ⟨g',cap',hv',_,kc,kf,own5,foot5⟩:=own_setP oz nq m r hmr (by show r < (crs[m]).pro.length;omega) v
    replace hv' : (crs[m]).vp=.slice (some ⟨g',0,none⟩) (crs[m]).pro.length cap' := hv'
    rw [hsv,h3l] at hv'
    simp only [Value.slice.injEq,Option.some.injEq,Addr.mk.injEq,and_true,true_and] at hv'
    obtain ⟨rfl,rfl⟩:=hv'
    have sz:=sx.out (Out.setCell x9 g5 r (iv v)) (by simp only [List.mem_singleton];omega) (fun k hk=>by simp only [List.mem_singleton] at hk;omega)
    have uz:Out [b,g5] X (x9.setCell ⟨g5,r,none⟩ (iv v)):=(ux.mono hsub).set (by simp)
    obtain ⟨old,kc2⟩:∃ z,x9.cell? ⟨g5,r,none⟩=some (iv z):=⟨_,kc⟩
    clear kc
    go_wp2
    refine ThenGo.to ⟨⟨⟨_,uz⟩,rfl⟩,?_⟩
    refine text_end (by kernel_rfl) ?_
    refine ⟨rfl,_,⟨r,v,gp,rfl,hgb,hr3,own5,foot5,sz,uz⟩,?_⟩
    simp only [putAll,Act.put,pgE,pjE]
    try rfl
   ·skip
    refine op_one 9 _ rfl ?_
    have hpk:=World.ownsRow_lit (e:=2) (size:=1) wd #[.int .i64 0,.int .i64 1,.int .i64 2,.int .i64 3] 4 (Nat.le_refl _) (by decide) rfl
    have hgb:b < wd.heap.size:=sx.lt.2
    have hba:Below wd.heap.size wd (wd.alloc (.cells #[.int .i64 0,.int .i64 1,.int .i64 2,.int .i64 3] 2)):=by go_grown
    replace sx:=sx.below hba
    replace ux:=ux.trans (Out.of_below hba)
    clear hba
    go_wp2
    refine ThenGo.to ⟨⟨⟨_,ux.mono hsub⟩,rfl⟩,?_⟩
    generalize hGp:wd.heap.size=gp at *
    generalize wd.alloc (.cells #[.int .i64 0,.int .i64 1,.int .i64 2,.int .i64 3] 2)=Y at *
    refine cla 7 (some 46) 22 #[.pointer (some ⟨b,0,none⟩),.int .i64 3] 3 (by kernel_rfl) ?_
    refine (next_any B b (T + 2501) 3 _ sx (by omega) (by omega)).mono ?_
    rintro e x7 ⟨ri,rfl,hri,sn',gn⟩
    obtain ⟨r,rfl⟩:=Int.eq_ofNat_of_zero_le hri.1
    have hr3:r < 3:=by have:=hri.2.1 (by omega);omega
    replace sx:=sn'
    have un:Out [b] _ _:=Out.of_grown gn
    replace ux:=ux.trans un
    replace hpk:=hpk.kept gn (Or.inr (by simp [Value.ownBlock];omega))
    clear un gn sn' hri hGp
    refine ⟨_,rfl,⟨⟨_,ux.mono hsub⟩,rfl⟩,?_⟩
    simp only [Act.put,pgE,pjE]
    refine cla 10 (some 49) 37 #[.pointer (some ⟨b,0,none⟩),.slice (some ⟨gp,0,none⟩) 4 4] 2 (by kernel_rfl) ?_
    refine (pick_any B b (T + 2502) gp _ [0,1,2,3] _ sx (by omega) hpk (by simp) (by simp) (by simp [Value.ownBlock];omega)).mono ?_
    rintro e x9 ⟨v,rfl,hv,sn',gn⟩
    replace sx:=sn'
    have un:Out [b] _ _:=Out.of_grown gn
    replace ux:=ux.trans un
    clear un gn sn' hpk
    refine ⟨_,rfl,⟨⟨_,ux.mono hsub⟩,rfl⟩,?_⟩
    simp only [Act.put,pgE,pjE]
    have hr3i:(r:Int) < 3:=by omega
    have hr3d:(r:Int) < (cds.length:Int):=by have:=HD3.out;omega
    refine sgr [(11,1)] 1 (by kernel_rfl) ⟨⟨_,ux.mono hsub⟩,rfl⟩ ?_
    simp only [pkE]
    repeat go_big_quiet_step (fail)
    refine wpQuiet_nil ?_
    refine ona 12 0 rfl (by kernel_rfl) ?_
    have oz:=instK.own_out oq ux (fun k hk hk' => by simp only [List.mem_singleton] at hk';have:=low k hk;omega)
    obtain ⟨g',cap',hv',_,kc,kf,own5,foot5⟩:=own_setP oz nq m r hmr (by show r < (crs[m]).pro.length;omega) v
    replace hv' : (crs[m]).vp=.slice (some ⟨g',0,none⟩) (crs[m]).pro.length cap' := hv'
    rw [hsv,h3l] at hv'
    simp only [Value.slice.injEq,Option.some.injEq,Addr.mk.injEq,and_true,true_and] at hv'
    obtain ⟨rfl,rfl⟩:=hv'
    have sz:=sx.out (Out.setCell x9 g5 r (iv v)) (by simp only [List.mem_singleton];omega) (fun k hk=>by simp only [List.mem_singleton] at hk;omega)
    have uz:Out [b,g5] X (x9.setCell ⟨g5,r,none⟩ (iv v)):=(ux.mono hsub).set (by simp)
    obtain ⟨old,kc2⟩:∃ z,x9.cell? ⟨g5,r,none⟩=some (iv z):=⟨_,kc⟩
    clear kc
    go_wp2
    refine ThenGo.to ⟨⟨⟨_,uz⟩,rfl⟩,?_⟩
    refine text_end (by kernel_rfl) ?_
    refine ⟨rfl,_,⟨r,v,gp,rfl,hgb,hr3,own5,foot5,sz,uz⟩,?_⟩
    simp only [putAll,Act.put,pgE,pjE]
    try rfl
  rintro vs X6 ⟨r,v,gp,rfl,_,hr3,ow,fe,sr,uX⟩
  simp only [putAll,Act.put,pjE]
  have Bx6:=Bx.outs uX (fun hk=>by simp only [List.mem_cons,List.not_mem_nil,or_false] at hk;omega)
  have R06:=R0.outs uX (fun hk=>by simp only [List.mem_cons,List.not_mem_nil,or_false] at hk;omega)
  have gro:Out [b] w X6:=⟨uX.os.trans hg.os,uX.tape.trans hg.tape,uX.output.trans hg.output,Nat.le_trans hg.size uX.size,fun k hk hne=>(uX.block k (Nat.lt_of_lt_of_le hk hg.size) (by simp only [List.mem_singleton] at hne;simp only [List.mem_cons,List.not_mem_nil,or_false];omega)).trans (hg.block k hk hne)⟩
  have nd:(instK.foot (InstQ.setP (⟨ch,.slice c1 cbs.length c4,cbs,.slice (some ⟨gr,0,none⟩) (m + 1) c5,crs,.slice c3 cds.length c6,cds⟩:InstQ) m r v hmr)).Nodup:=by rw [fe];exact nq
  have lw:∀ k∈instK.foot (InstQ.setP (⟨ch,.slice c1 cbs.length c4,cbs,.slice (some ⟨gr,0,none⟩) (m + 1) c5,crs,.slice c3 cds.length c6,cds⟩:InstQ) m r v hmr),w.heap.size < k∧k≠g:=fun k hk=>by rw [fe] at hk;exact low k hk
  have hn:InstQ.n (InstQ.setP (⟨ch,.slice c1 cbs.length c4,cbs,.slice (some ⟨gr,0,none⟩) (m + 1) c5,crs,.slice c3 cds.length c6,cds⟩:InstQ) m r v hmr)≤1000:=by rw [inst_ne,setP_e];show InstE.n ⟨_,_,rstP (InstQ.e _).rounds m r v,_⟩≤1000;unfold InstE.n;rw [rstP_n];exact Nat.le_trans hsm (by omega)
  clear Bx R0 hg hS oq nq low uX fe hsub
  have Bx:=Bx6
  have R0:=R06
  clear Bx6 R06
  have Rr:=R0.row #[.bool ch,.slice c1 cbs.length c4,.slice (some ⟨gr,0,none⟩) (m + 1) c5,.slice c3 cds.length c6]
  have hsr:(Tryz.prog.info? 28).map (·.size)=some (#[.bool ch,.slice c1 cbs.length c4,.slice (some ⟨gr,0,none⟩) (m + 1) c5,.slice c3 cds.length c6]:Array Value).size:=sz_inst
  have hUr:=out_row (X6) w.heap.size #[.bool ch,.slice c1 cbs.length c4,.slice (some ⟨gr,0,none⟩) (m + 1) c5,.slice c3 cds.length c6]
  have HZ:Hid (instK.own ((X6).setRow w.heap.size #[.bool ch,.slice c1 cbs.length c4,.slice (some ⟨gr,0,none⟩) (m + 1) c5,.slice c3 cds.length c6]) (InstQ.setP (⟨ch,.slice c1 cbs.length c4,cbs,.slice (some ⟨gr,0,none⟩) (m + 1) c5,crs,.slice c3 cds.length c6,cds⟩:InstQ) m r v hmr)∧Src B ((X6).setRow w.heap.size #[.bool ch,.slice c1 cbs.length c4,.slice (some ⟨gr,0,none⟩) (m + 1) c5,.slice c3 cds.length c6]) b (T + 2600)∧w.grownBy ((X6).setRow w.heap.size #[.bool ch,.slice c1 cbs.length c4,.slice (some ⟨gr,0,none⟩) (m + 1) c5,.slice c3 cds.length c6]) (some b)):=by
   refine ⟨instK.own_out ow hUr (fun k hk hk' => by simp only [List.mem_singleton] at hk';have:=lw k hk;omega),?_,?_⟩
   ·exact (sr.out hUr (by simp only [List.mem_singleton];omega) (fun k hk=>by simp only [List.mem_singleton] at hk;omega)).mono (by omega)
   ·exact grown_out (out_grown gro) hUr (fun k hk=>by simp only [List.mem_singleton] at hk;omega)
  have HQ:Hid (InstQ.n (InstQ.setP (⟨ch,.slice c1 cbs.length c4,cbs,.slice (some ⟨gr,0,none⟩) (m + 1) c5,crs,.slice c3 cds.length c6,cds⟩:InstQ) m r v hmr)≤1000∧(instK.foot (InstQ.setP (⟨ch,.slice c1 cbs.length c4,cbs,.slice (some ⟨gr,0,none⟩) (m + 1) c5,crs,.slice c3 cds.length c6,cds⟩:InstQ) m r v hmr)).Nodup∧∀ k∈instK.foot (InstQ.setP (⟨ch,.slice c1 cbs.length c4,cbs,.slice (some ⟨gr,0,none⟩) (m + 1) c5,crs,.slice c3 cds.length c6,cds⟩:InstQ) m r v hmr),w.heap.size≤k):=⟨hn,nd,fun k hk=>by have:=lw k hk;omega⟩
  obtain ⟨p0,p1,p2,p3⟩:=Bx.cel4
  clear ow nd lw hn sr gro hUr
  go_wp2_with (first | (refine st_row (by kernel_rfl) 28 _ _ rfl _ #[.bool ch,.slice c1 cbs.length c4,.slice (some ⟨gr,0,none⟩) (m + 1) c5,.slice c3 cds.length c6] rfl rfl 28 _ R0 hsr rfl (by simp [Value.oneCell']) ?_))
  obtain ⟨q0,q1,q2,q3⟩:=Rr.cel4
  exact bodyPost_ret (v:=.agg #[.bool ch,.slice c1 cbs.length c4,.slice (some ⟨gr,0,none⟩) (m + 1) c5,.slice c3 cds.length c6]) (by simp [results,Tryz.results15,go_sem,q0,q1,q2,q3]) rfl ⟨(InstQ.setP (⟨ch,.slice c1 cbs.length c4,cbs,.slice (some ⟨gr,0,none⟩) (m + 1) c5,crs,.slice c3 cds.length c6,cds⟩:InstQ) m r v hmr),rfl,HQ.out.1,HZ.out.1,HQ.out.2.1,HQ.out.2.2,HZ.out.2.1,HZ.out.2.2⟩
 ·skip
  have hf0:=Bx.frozen 0
  obtain ⟨y0,y1,y2,y3⟩:=Bx.cel4
  have uz:=Out.setCell X g 0 (.bool (!ch))
  have Bx3:Blk (X.setCell ⟨g,0,none⟩ (.bool (!ch))) g 28 #[.bool !ch,.slice c1 cbs.length c4,.slice c2 (m + 1) c5,.slice c3 cds.length c6]:=Bx.set 0 (.bool (!ch))
  have R03:=R0.other (b' := g) (by omega) 0 (.bool (!ch))
  have ow:instK.own (X.setCell ⟨g,0,none⟩ (.bool (!ch))) (⟨!ch,.slice c1 cbs.length c4,cbs,.slice c2 (m + 1) c5,crs,.slice c3 cds.length c6,cds⟩:InstQ):=by
   have h9:=instK.own_out oq uz (fun k hk hk' => by simp only [List.mem_singleton] at hk';have:=low k hk;omega)
   exact h9
  have nd:(instK.foot (⟨!ch,.slice c1 cbs.length c4,cbs,.slice c2 (m + 1) c5,crs,.slice c3 cds.length c6,cds⟩:InstQ)).Nodup:=nq
  have lw:∀ k∈instK.foot (⟨!ch,.slice c1 cbs.length c4,cbs,.slice c2 (m + 1) c5,crs,.slice c3 cds.length c6,cds⟩:InstQ),w.heap.size < k∧k≠g:=low
  have hn:InstQ.n (⟨!ch,.slice c1 cbs.length c4,cbs,.slice c2 (m + 1) c5,crs,.slice c3 cds.length c6,cds⟩:InstQ)≤1000:=by have h9:=hsm;rw [← inst_ne] at h9;show InstQ.n (⟨ch,.slice c1 cbs.length c4,cbs,.slice c2 (m + 1) c5,crs,.slice c3 cds.length c6,cds⟩:InstQ)≤1000;omega
  have sr:=hS.out uz (by simp only [List.mem_singleton];omega) (fun k hk=>by simp only [List.mem_singleton] at hk;omega)
  have gro:Out [b] w (X.setCell ⟨g,0,none⟩ (.bool (!ch))):=⟨uz.os.trans hg.os,uz.tape.trans hg.tape,uz.output.trans hg.output,Nat.le_trans hg.size uz.size,fun k hk hne=>(uz.block k (Nat.lt_of_lt_of_le hk hg.size) (by simp only [List.mem_singleton];omega)).trans (hg.block k hk hne)⟩
  clear Bx R0 hg hS oq nq low uz hpq
  have Bx:=Bx3
  have R0:=R03
  clear Bx3 R03
  have Rr:=R0.row #[.bool !ch,.slice c1 cbs.length c4,.slice c2 (m + 1) c5,.slice c3 cds.length c6]
  have hsr:(Tryz.prog.info? 28).map (·.size)=some (#[.bool !ch,.slice c1 cbs.length c4,.slice c2 (m + 1) c5,.slice c3 cds.length c6]:Array Value).size:=sz_inst
  have hUr:=out_row (X.setCell ⟨g,0,none⟩ (.bool (!ch))) w.heap.size #[.bool !ch,.slice c1 cbs.length c4,.slice c2 (m + 1) c5,.slice c3 cds.length c6]
  have HZ:Hid (instK.own ((X.setCell ⟨g,0,none⟩ (.bool (!ch))).setRow w.heap.size #[.bool !ch,.slice c1 cbs.length c4,.slice c2 (m + 1) c5,.slice c3 cds.length c6]) (⟨!ch,.slice c1 cbs.length c4,cbs,.slice c2 (m + 1) c5,crs,.slice c3 cds.length c6,cds⟩:InstQ)∧Src B ((X.setCell ⟨g,0,none⟩ (.bool (!ch))).setRow w.heap.size #[.bool !ch,.slice c1 cbs.length c4,.slice c2 (m + 1) c5,.slice c3 cds.length c6]) b (T + 2600)∧w.grownBy ((X.setCell ⟨g,0,none⟩ (.bool (!ch))).setRow w.heap.size #[.bool !ch,.slice c1 cbs.length c4,.slice c2 (m + 1) c5,.slice c3 cds.length c6]) (some b)):=by
   refine ⟨instK.own_out ow hUr (fun k hk hk' => by simp only [List.mem_singleton] at hk';have:=lw k hk;omega),?_,?_⟩
   ·exact (sr.out hUr (by simp only [List.mem_singleton];omega) (fun k hk=>by simp only [List.mem_singleton] at hk;omega)).mono (by omega)
   ·exact grown_out (out_grown gro) hUr (fun k hk=>by simp only [List.mem_singleton] at hk;omega)
  have HQ:Hid (InstQ.n (⟨!ch,.slice c1 cbs.length c4,cbs,.slice c2 (m + 1) c5,crs,.slice c3 cds.length c6,cds⟩:InstQ)≤1000∧(instK.foot (⟨!ch,.slice c1 cbs.length c4,cbs,.slice c2 (m + 1) c5,crs,.slice c3 cds.length c6,cds⟩:InstQ)).Nodup∧∀ k∈instK.foot (⟨!ch,.slice c1 cbs.length c4,cbs,.slice c2 (m + 1) c5,crs,.slice c3 cds.length c6,cds⟩:InstQ),w.heap.size≤k):=⟨hn,nd,fun k hk=>by have:=lw k hk;omega⟩
  obtain ⟨p0,p1,p2,p3⟩:=Bx.cel4
  clear ow nd lw hn sr gro hUr
  go_wp2_with (first | (refine st_row (by kernel_rfl) 28 _ _ rfl _ #[.bool !ch,.slice c1 cbs.length c4,.slice c2 (m + 1) c5,.slice c3 cds.length c6] rfl rfl 28 _ R0 hsr rfl (by simp [Value.oneCell']) ?_))
  obtain ⟨q0,q1,q2,q3⟩:=Rr.cel4
  exact bodyPost_ret (v:=.agg #[.bool !ch,.slice c1 cbs.length c4,.slice c2 (m + 1) c5,.slice c3 cds.length c6]) (by simp [results,Tryz.results15,go_sem,q0,q1,q2,q3]) rfl ⟨(⟨!ch,.slice c1 cbs.length c4,cbs,.slice c2 (m + 1) c5,crs,.slice c3 cds.length c6,cds⟩:InstQ),rfl,HQ.out.1,HZ.out.1,HQ.out.2.1,HQ.out.2.2,HZ.out.2.1,HZ.out.2.2⟩
 ·skip
  have hgX:=Bx.lt
  have hcb:cbs.length≤60:=by
   have h9:=hsm
   rw [← inst_ne] at h9
   dsimp only [InstQ.n] at h9
   omega
  have hB1:∀ k∈txnK.fp (.slice c1 cbs.length c4) cbs,w.heap.size < k∧k≠g:=fun k hk=>low k (List.mem_append_left _ hk)
  obtain ⟨hn1,hn23,hd1⟩:=List.nodup_append.1 nq
  obtain ⟨oT,oR,oD⟩:=oq
  dsimp only at oT oR oD
  have hFg:g ∉ blk (.slice c1 cbs.length c4):=fun hx=>(hB1 g (by simp only [Kind.fp,List.mem_append];exact Or.inl hx)).2 rfl
  have HF:Hid (∀ x∈txnK.fp (.slice c1 cbs.length c4) cbs,x < X.heap.size):=oT.lt
  have TR:=oR.lt
  have TD:=oD.lt
  have m0:=lato_cell (F:=b :: blk (.slice c1 cbs.length c4)) (Bx.cell 1 _ rfl) (by intro hx;rcases List.mem_cons.1 hx with hx | hx;omega;exact hFg hx)
  have hnn:Nonempty (LatO (b :: blk (.slice c1 cbs.length c4)) X):=⟨⟨X,Out.refl _ _⟩⟩
  have sx:Src B X.drew b (T + 2501):=hS.below ((Below.refl _ _).drew)
  have ux:Out [b] X X.drew:=Out.of_below ((Below.refl _ _).drew)
  have hnw:∀ w',Out [b] X w' → ∃ u:LatO (b :: blk (.slice c1 cbs.length c4)) X,w' = u.val:=fun w' hw' => ⟨⟨w',hw'.mono (fun k hk=>by simp only [List.mem_singleton] at hk;rw [hk];exact List.mem_cons_self ..)⟩,rfl⟩
  obtain ⟨i0,hi0,hz0,hz1,hz2⟩:=info_parts infoTxn
  go_wp2_with fail
  clear hpq
  refine beginX (S:=fun w' => ∃ u:LatO (b :: blk (.slice c1 cbs.length c4)) X,w' = u.val) (R:=fun _ _=>False) 7 (by kernel_rfl) (fun _ _ _ _ h=>h.elim) ?_
  refine sgX [(0,3)] 5 (by kernel_rfl) (hnw _ ux) ?_
  simp only [pkE]
  repeat go_big_quiet_step (fail)
  refine wpQuiet_nil ?_
  generalize X.drew=wd at sx ux ⊢
  refine clX 3 (some 62) 38 #[.pointer (some ⟨b,0,none⟩)] 4 (by kernel_rfl) rfl ?_
  refine (l2Bent_any B b (T + 2501) wd sx (by omega)).mono ?_
  rintro e x7 ⟨ti,ts,tq,ta,tc,txs,rfl,hx5,hot,sn',gn⟩
  obtain ⟨oA,gA⟩:=own_acts hot
  have hwd:=ux.size
  replace sx:=sn'
  have un:Out [b] _ _:=Out.of_grown gn
  replace ux:=ux.trans un
  clear un gn sn' hot
  refine Or.inl ⟨_,rfl,hnw _ ux,?_⟩
  simp only [Act.put,pgE,pjE]
  refine onX 4 3 rfl (by kernel_rfl) ?_
  have hbA:Below x7.heap.size x7 (x7.alloc (.cells #[.int .i64 ti,.int .i64 ts,.int .i64 tq,.slice ta txs.length tc] 91)):=by go_grown
  have hsrc:∀ j u,[Value.int .i64 ti,.int .i64 ts,.int .i64 tq,.slice ta txs.length tc][j]? = some u→(x7.alloc (.cells #[.int .i64 ti,.int .i64 ts,.int .i64 tq,.slice ta txs.length tc] 91)).cell? ((⟨x7.heap.size,0,none⟩:Addr).add j)=some u:=by
   intro j u hj;match j,hj with | 0,hj=>simp at hj;subst hj;simp [Addr.add] | 1,hj=>simp at hj;subst hj;simp [Addr.add] | 2,hj=>simp at hj;subst hj;simp [Addr.add] | 3,hj=>simp at hj;subst hj;simp [Addr.add]
  replace sx:=sx.below hbA
  replace ux:=ux.trans (Out.of_below hbA)
  replace oA:=oA.below hbA
  go_wp2
  refine ThenX.to ⟨Or.inr (hnw _ ux),?_⟩
  generalize x7.alloc (.cells #[.int .i64 ti,.int .i64 ts,.int .i64 tq,.slice ta txs.length tc] 91)=Z at *
  clear hbA
  have oT7:=oT.out ux (fun k hk hk' => by simp only [List.mem_singleton] at hk';have:=hB1 k hk;omega)
  have hrow0:=oT7.1
  refine onX 5 2 rfl (by kernel_rfl) ?_
  refine wpList_append_own_at _ rfl _ _ 24 rfl 0 91 i0 (.agg #[.int .i64 0,.int .i64 0,.int .i64 0,.slice none 0 0]) 4 48 Tryz.underlying24 hi0 hz0 hz1 hz2 rfl (by decide) _ cbs.length (txnK.row cbs) rfl hrow0 ⟨x7.heap.size,0,none⟩ 1 1 [.int .i64 ti,.int .i64 ts,.int .i64 tq,.slice ta txs.length tc] rfl rfl hsrc ?c2 ?c3 ?c4 ?c5 ?_
  case c2=>intro u hu;simp at hu;rcases hu with rfl | rfl | rfl | rfl <;> rfl
  case c3=>unfold maxLen;omega
  case c4=>omega
  case c5=>omega
  intro v' x8 hown hgrow hnil hat
  clear hnil hrow0 hsrc
  have hZ7:=ux.size
  obtain ⟨hO5,hn5,hlo5,hou⟩:=oT7.snoc (p:=(⟨ti,ts,tq,.slice ta txs.length tc,txs⟩:TxnQ)) (B:=w.heap.size + 1) hn1 (fun k hk=>by have:=hB1 k hk;omega) oA (by show (actK.fp _ _).Nodup;rw [actK_fpv];exact blk_nodup _) (fun x hx hx' => by
   have h1:=gA x hx
   have h2:=HF.out x hx'
   omega) (fun x hx=>by have:=gA x hx;omega) (by omega) hown hgrow hat
  have hft:∀ k∈txnK.fp v' (cbs ++ [(⟨ti,ts,tq,.slice ta txs.length tc,txs⟩:TxnQ)]),k∈txnK.fp (.slice c1 cbs.length c4) cbs∨X.heap.size≤k:=by
   intro k hk
   unfold Kind.fp at hk ⊢
   rw [List.flatMap_append] at hk
   rcases List.mem_append.1 hk with hk | hk
   ·rcases hat with hat | hat
    ·left
     apply List.mem_append_left
     unfold blk at hk ⊢
     rw [hat] at hk
     exact hk
    ·right
     unfold blk at hk
     rw [hat] at hk
     simp only [Option.toList,List.mem_singleton] at hk
     omega
   ·rcases List.mem_append.1 hk with hk | hk
    ·left
     exact List.mem_append_right _ hk
    ·right
     have hk' : k∈txnK.foot (⟨ti,ts,tq,.slice ta txs.length tc,txs⟩:TxnQ):=by simpa using hk
     have:=gA k hk'
     omega
  obtain ⟨na,nc,rfl⟩:=hO5.shape
  have hoB:∀ x∈blk (.slice c1 cbs.length c4),x∈txnK.fp (.slice c1 cbs.length c4) cbs:=fun x hx=>by simp only [Kind.fp,List.mem_append];exact Or.inl hx
  have u8:Out (b :: blk (.slice c1 cbs.length c4)) X x8:=(ux.mono (fun k hk=>by simp only [List.mem_singleton] at hk;rw [hk];exact List.mem_cons_self ..)).trans (hou.mono (fun k hk=>List.mem_cons_of_mem _ hk))
  have Bg5:=Bx.outs u8 (fun hx=>by rcases List.mem_cons.1 hx with hx | hx;omega;exact hFg hx)
  have R05:=R0.outs u8 (fun hx=>by rcases List.mem_cons.1 hx with hx | hx;omega;have:=hB1 _ (hoB _ hx);omega)
  have oR5:=oR.out u8 (fun k hk hx=>by rcases List.mem_cons.1 hx with hx | hx;(have:=low k (List.mem_append_right _ (List.mem_append_left _ hk));omega);exact hd1 k (hoB k hx) k (List.mem_append_left _ hk) rfl)
  have oD5:=oD.out u8 (fun k hk hx=>by rcases List.mem_cons.1 hx with hx | hx;(have:=low k (List.mem_append_right _ (List.mem_append_right _ hk));omega);exact hd1 k (hoB k hx) k (List.mem_append_right _ hk) rfl)
  have s8:=sx.out hou (fun hx=>by have:=hB1 b (hoB b hx);omega) (fun k hk=>by have:=hB1 k (hoB k hk);omega)
  have lwN:∀ k∈txnK.fp (.slice na (cbs ++ [(⟨ti,ts,tq,.slice ta txs.length tc,txs⟩:TxnQ)]).length nc) (cbs ++ [(⟨ti,ts,tq,.slice ta txs.length tc,txs⟩:TxnQ)]),w.heap.size < k∧k≠g:=fun k hk=>by
   rcases hft k hk with h | h
   ·exact hB1 k h
   ·omega
  have ndN:(instK.foot (⟨ch,.slice na (cbs ++ [(⟨ti,ts,tq,.slice ta txs.length tc,txs⟩:TxnQ)]).length nc,(cbs ++ [(⟨ti,ts,tq,.slice ta txs.length tc,txs⟩:TxnQ)]),.slice c2 (m + 1) c5,crs,.slice c3 cds.length c6,cds⟩:InstQ)).Nodup:=by
   refine List.nodup_append.2 ⟨hn5,hn23,fun x hx y hy e=>?_⟩
   subst e
   rcases hft x hx with h | h
   ·exact hd1 x h x hy rfl
   ·rcases List.mem_append.1 hy with hy | hy
    ·have:=TR x hy;omega
    ·have:=TD x hy;omega
  have hnN:InstQ.n (⟨ch,.slice na (cbs ++ [(⟨ti,ts,tq,.slice ta txs.length tc,txs⟩:TxnQ)]).length nc,(cbs ++ [(⟨ti,ts,tq,.slice ta txs.length tc,txs⟩:TxnQ)]),.slice c2 (m + 1) c5,crs,.slice c3 cds.length c6,cds⟩:InstQ)≤1000:=by
   have h9:=hsm
   rw [← inst_ne] at h9
   dsimp only [InstQ.n] at h9 ⊢
   have hS9:nmL TxnQ.n (cbs ++ [(⟨ti,ts,tq,.slice ta txs.length tc,txs⟩:TxnQ)])=nmL TxnQ.n cbs + txs.length:=by simp [nmL,TxnQ.n]
   rw [hS9,List.length_append,List.length_singleton]
   omega
  clear hou oA gA hown hgrow hat oT7 m0 HF hft hn5 hlo5 ux sx oT oR oD
  generalize hKS:cbs ++ [(⟨ti,ts,tq,.slice ta txs.length tc,txs⟩:TxnQ)]=ks at *
  clear hKS
  go_wp2
  refine ThenX.to ⟨Or.inr ⟨⟨_,u8⟩,rfl⟩,?_⟩
  simp only [Act.put,pgE,pjE]
  refine onX 6 1 rfl (by kernel_rfl) ?_
  go_wp2
  refine ThenX.to ⟨Or.inr ⟨⟨_,u8⟩,rfl⟩,?_⟩
  refine onX 7 0 rfl (by kernel_rfl) ?_
  have t3:=Bg5.cell 1 _ rfl
  have t4:=Bg5.frozen 1
  have Bx6:Blk (x8.setCell ⟨g,1,none⟩ (.slice na ks.length nc)) g 28 #[.bool ch,.slice na ks.length nc,.slice c2 (m + 1) c5,.slice c3 cds.length c6]:=Bg5.set 1 (.slice na ks.length nc)
  have U6:=Out.setCell x8 g 1 (.slice na ks.length nc)
  have R06:=R05.outs U6 (fun hk=>by simp only [List.mem_singleton] at hk;omega)
  have ow:instK.own (x8.setCell ⟨g,1,none⟩ (.slice na ks.length nc)) (⟨ch,.slice na ks.length nc,ks,.slice c2 (m + 1) c5,crs,.slice c3 cds.length c6,cds⟩:InstQ):=⟨hO5.out U6 (fun k hk hk' => by simp only [List.mem_singleton] at hk';have:=lwN k hk;omega),oR5.out U6 (fun k hk hk' => by simp only [List.mem_singleton] at hk';have:=low k (List.mem_append_right _ (List.mem_append_left _ hk));omega),oD5.out U6 (fun k hk hk' => by simp only [List.mem_singleton] at hk';have:=low k (List.mem_append_right _ (List.mem_append_right _ hk));omega)⟩
  have sr:=s8.out U6 (by simp only [List.mem_singleton];omega) (fun k hk=>by simp only [List.mem_singleton] at hk;omega)
  have gro:Out [b] w (x8.setCell ⟨g,1,none⟩ (.slice na ks.length nc)):=⟨U6.os.trans (u8.os.trans hg.os),U6.tape.trans (u8.tape.trans hg.tape),U6.output.trans (u8.output.trans hg.output),Nat.le_trans hg.size (Nat.le_trans u8.size U6.size),fun k hk hne=>(U6.block k (Nat.lt_of_lt_of_le hk (Nat.le_trans hg.size u8.size)) (by simp only [List.mem_singleton];omega)).trans ((u8.block k (Nat.lt_of_lt_of_le hk hg.size) (fun hx=>by rcases List.mem_cons.1 hx with hx | hx;(exact hne (by rw [hx];simp));have:=hB1 k (hoB k hx);omega)).trans (hg.block k hk hne))⟩
  have lw:∀ k∈instK.foot (⟨ch,.slice na ks.length nc,ks,.slice c2 (m + 1) c5,crs,.slice c3 cds.length c6,cds⟩:InstQ),w.heap.size < k∧k≠g:=fun k hk=>by
   rcases List.mem_append.1 hk with hk | hk
   ·exact lwN k hk
   ·exact low k (List.mem_append_right _ hk)
  have nd:=ndN
  have hn:=hnN
  clear Bx R0 Bg5 R05 oR5 oD5 s8 U6 hO5 lwN ndN hnN low hg hS hB1 hoB hn1 hn23 hd1 nq TR TD
  go_wp2
  refine ThenX.to ⟨Or.inl (by kernel_rfl),?_⟩
  refine endX (by kernel_rfl) ?_
  clear t3 t4 u8 hnn hnw hFg
  generalize x8.setCell ⟨g,1,none⟩ (.slice na ks.length nc)=X6 at *
  have Bx:=Bx6
  have R0:=R06
  clear Bx6 R06
  have Rr:=R0.row #[.bool ch,.slice na ks.length nc,.slice c2 (m + 1) c5,.slice c3 cds.length c6]
  have hsr:(Tryz.prog.info? 28).map (·.size)=some (#[.bool ch,.slice na ks.length nc,.slice c2 (m + 1) c5,.slice c3 cds.length c6]:Array Value).size:=sz_inst
  have hUr:=out_row (X6) w.heap.size #[.bool ch,.slice na ks.length nc,.slice c2 (m + 1) c5,.slice c3 cds.length c6]
  have HZ:Hid (instK.own ((X6).setRow w.heap.size #[.bool ch,.slice na ks.length nc,.slice c2 (m + 1) c5,.slice c3 cds.length c6]) (⟨ch,.slice na ks.length nc,ks,.slice c2 (m + 1) c5,crs,.slice c3 cds.length c6,cds⟩:InstQ)∧Src B ((X6).setRow w.heap.size #[.bool ch,.slice na ks.length nc,.slice c2 (m + 1) c5,.slice c3 cds.length c6]) b (T + 2600)∧w.grownBy ((X6).setRow w.heap.size #[.bool ch,.slice na ks.length nc,.slice c2 (m + 1) c5,.slice c3 cds.length c6]) (some b)):=by
   refine ⟨instK.own_out ow hUr (fun k hk hk' => by simp only [List.mem_singleton] at hk';have:=lw k hk;omega),?_,?_⟩
   ·exact (sr.out hUr (by simp only [List.mem_singleton];omega) (fun k hk=>by simp only [List.mem_singleton] at hk;omega)).mono (by omega)
   ·exact grown_out (out_grown gro) hUr (fun k hk=>by simp only [List.mem_singleton] at hk;omega)
  have HQ:Hid (InstQ.n (⟨ch,.slice na ks.length nc,ks,.slice c2 (m + 1) c5,crs,.slice c3 cds.length c6,cds⟩:InstQ)≤1000∧(instK.foot (⟨ch,.slice na ks.length nc,ks,.slice c2 (m + 1) c5,crs,.slice c3 cds.length c6,cds⟩:InstQ)).Nodup∧∀ k∈instK.foot (⟨ch,.slice na ks.length nc,ks,.slice c2 (m + 1) c5,crs,.slice c3 cds.length c6,cds⟩:InstQ),w.heap.size≤k):=⟨hn,nd,fun k hk=>by have:=lw k hk;omega⟩
  obtain ⟨p0,p1,p2,p3⟩:=Bx.cel4
  clear ow nd lw hn sr gro hUr
  go_wp2_with (first | (refine st_row (by kernel_rfl) 28 _ _ rfl _ #[.bool ch,.slice na ks.length nc,.slice c2 (m + 1) c5,.slice c3 cds.length c6] rfl rfl 28 _ R0 hsr rfl (by simp [Value.oneCell']) ?_))
  obtain ⟨q0,q1,q2,q3⟩:=Rr.cel4
  exact bodyPost_ret (v:=.agg #[.bool ch,.slice na ks.length nc,.slice c2 (m + 1) c5,.slice c3 cds.length c6]) (by simp [results,Tryz.results15,go_sem,q0,q1,q2,q3]) rfl ⟨(⟨ch,.slice na ks.length nc,ks,.slice c2 (m + 1) c5,crs,.slice c3 cds.length c6,cds⟩:InstQ),rfl,HQ.out.1,HZ.out.1,HQ.out.2.1,HQ.out.2.2,HZ.out.2.1,HZ.out.2.2⟩
 ·skip
  have z0:((sn:Int) == 0)=false:=by simp;omega
  have z1:((sn:Int) == 1)=false:=by simp;omega
  have z2:((sn:Int) == 2)=false:=by simp;omega
  have z3:((sn:Int) == 3)=false:=by simp;omega
  have z4:((sn:Int) == 4)=false:=by simp;omega
  have ow:=oq
  have nd:=nq
  have lw:=low
  have hn:InstQ.n (⟨ch,.slice c1 cbs.length c4,cbs,.slice c2 (m + 1) c5,crs,.slice c3 cds.length c6,cds⟩:InstQ)≤1000:=by have h9:=hsm;rw [← inst_ne] at h9;omega
  have sr:=hS
  have gro:=hg
  clear oq nq low hS hg hpq hge
  have Rr:=R0.row #[.bool ch,.slice c1 cbs.length c4,.slice c2 (m + 1) c5,.slice c3 cds.length c6]
  have hsr:(Tryz.prog.info? 28).map (·.size)=some (#[.bool ch,.slice c1 cbs.length c4,.slice c2 (m + 1) c5,.slice c3 cds.length c6]:Array Value).size:=sz_inst
  have hUr:=out_row (X) w.heap.size #[.bool ch,.slice c1 cbs.length c4,.slice c2 (m + 1) c5,.slice c3 cds.length c6]
  have HZ:Hid (instK.own ((X).setRow w.heap.size #[.bool ch,.slice c1 cbs.length c4,.slice c2 (m + 1) c5,.slice c3 cds.length c6]) (⟨ch,.slice c1 cbs.length c4,cbs,.slice c2 (m + 1) c5,crs,.slice c3 cds.length c6,cds⟩:InstQ)∧Src B ((X).setRow w.heap.size #[.bool ch,.slice c1 cbs.length c4,.slice c2 (m + 1) c5,.slice c3 cds.length c6]) b (T + 2600)∧w.grownBy ((X).setRow w.heap.size #[.bool ch,.slice c1 cbs.length c4,.slice c2 (m + 1) c5,.slice c3 cds.length c6]) (some b)):=by
   refine ⟨instK.own_out ow hUr (fun k hk hk' => by simp only [List.mem_singleton] at hk';have:=lw k hk;omega),?_,?_⟩
   ·exact (sr.out hUr (by simp only [List.mem_singleton];omega) (fun k hk=>by simp only [List.mem_singleton] at hk;omega)).mono (by omega)
   ·exact grown_out (out_grown gro) hUr (fun k hk=>by simp only [List.mem_singleton] at hk;omega)
  have HQ:Hid (InstQ.n (⟨ch,.slice c1 cbs.length c4,cbs,.slice c2 (m + 1) c5,crs,.slice c3 cds.length c6,cds⟩:InstQ)≤1000∧(instK.foot (⟨ch,.slice c1 cbs.length c4,cbs,.slice c2 (m + 1) c5,crs,.slice c3 cds.length c6,cds⟩:InstQ)).Nodup∧∀ k∈instK.foot (⟨ch,.slice c1 cbs.length c4,cbs,.slice c2 (m + 1) c5,crs,.slice c3 cds.length c6,cds⟩:InstQ),w.heap.size≤k):=⟨hn,nd,fun k hk=>by have:=lw k hk;omega⟩
  obtain ⟨p0,p1,p2,p3⟩:=Bx.cel4
  clear ow nd lw hn sr gro hUr
  go_wp2_with (first | (refine st_row (by kernel_rfl) 28 _ _ rfl _ #[.bool ch,.slice c1 cbs.length c4,.slice c2 (m + 1) c5,.slice c3 cds.length c6] rfl rfl 28 _ R0 hsr rfl (by simp [Value.oneCell']) ?_))
  obtain ⟨q0,q1,q2,q3⟩:=Rr.cel4
  exact bodyPost_ret (v:=.agg #[.bool ch,.slice c1 cbs.length c4,.slice c2 (m + 1) c5,.slice c3 cds.length c6]) (by simp [results,Tryz.results15,go_sem,q0,q1,q2,q3]) rfl ⟨(⟨ch,.slice c1 cbs.length c4,cbs,.slice c2 (m + 1) c5,crs,.slice c3 cds.length c6,cds⟩:InstQ),rfl,HQ.out.1,HZ.out.1,HQ.out.2.1,HQ.out.2.2,HZ.out.2.1,HZ.out.2.2⟩

end Go.Proofs.YtdhdnppbgaikfaaGreatDoor
