/- Texts joined, with what the laws reach alone. -/
import Derived.Test.YtnnenkoeklabpaaGreatDoorAGAI
set_option linter.unusedVariables false
set_option linter.unusedSimpArgs false
namespace Go.Proofs.YtnnenkoeklabpaaGreatDoor
open Go.RowKit
open Go.BigFrame
set_option maxRecDepth 100000
theorem out_grown {w w' : World} {b:Nat} (h:Out [b] w w'):w.grownBy w' (some b):=⟨h.os,h.tape,h.output,h.size,fun k hk hne=>h.block k hk (by simp only [List.mem_singleton];intro e;exact hne (by rw [e]))⟩

/-- What the loop of l6Draw keeps. -/
structure DrawI (B b T g:Nat) (w wr:World) (j:Nat) (q:InstQ):Prop where
 ins:insF q.e=0
 own:instK.own wr q
 nd:(instK.foot q).Nodup
 low:∀ k∈instK.foot q,w.heap.size < k∧k≠g
 box:Blk wr g 28 #[.bool q.has,q.vb,q.vr,q.vd]
 res:Blk wr w.heap.size 28 #[.bool false,.slice none 0 0,.slice none 0 0,.slice none 0 0]
 src:Src B wr b (T + 1 + 60 * (40 - j))
 grown:Out [b] w wr

set_option maxRecDepth 100000 in
set_option maxHeartbeats 4000000 in
theorem l6Draw_any (B b T:Nat) (n:Int) (w:World) (hS:Src B w b T) (hT:T≤600000) (hn:n≤40) :
  Calls Tryz.prog 21 #[.pointer (some ⟨b,0,none⟩),.int .i64 n] w fun e w' => ∃ q:InstQ,e=.returned (.agg #[.bool q.has,q.vb,q.vr,q.vd])∧insF q.e=0∧instK.own w' q∧(instK.foot q).Nodup∧(∀ k∈instK.foot q,w.heap.size≤k)∧Src B w' b (T + 2500)∧w.grownBy w' (some b):=by
 have hlt:=hS.lt
 have hb0:Below w.heap.size w (w.alloc (.cells #[.bool false,.slice none 0 0,.slice none 0 0,.slice none 0 0] 28)):=by go_grown
 have R0:=Blk.new w 28 #[.bool false,.slice none 0 0,.slice none 0 0,.slice none 0 0]
 have hg:Out [b] w (w.alloc (.cells #[.bool false,.slice none 0 0,.slice none 0 0,.slice none 0 0] 28)):=Out.of_below hb0
 replace hS:=hS.below hb0
 clear hb0
 go_enter Tryz.func21,Tryz.ntmps21
 go_wp2_with fail
 generalize w.alloc (.cells #[.bool false,.slice none 0 0,.slice none 0 0,.slice none 0 0] 28)=W at *
 refine (l6New_any W).mono ?_
 rintro e x1 ⟨q,rfl,eq,oq,nq,gq,hb1⟩
 have hW:=R0.lt
 replace R0:=R0.below hb1
 replace hS:=hS.below hb1
 replace hg:=hg.trans (Out.of_below hb1)
 have hm:=instK.own_lt oq
 have hi:insF q.e=0:=by rw [eq];exact ins_new
 have hw1:w.heap.size < x1.heap.size:=R0.lt
 clear eq
 obtain ⟨ch,cb,cbs,cr,crs,cd,cds⟩:=q
 obtain ⟨c1,c4,rfl⟩:∃ a c,cb=.slice a cbs.length c:=oq.1.shape
 obtain ⟨c2,c5,rfl⟩:∃ a c,cr=.slice a crs.length c:=oq.2.1.shape
 obtain ⟨c3,c6,rfl⟩:∃ a c,cd=.slice a cds.length c:=oq.2.2.shape
 have hbA:Below x1.heap.size x1 (x1.alloc (.cells #[.bool ch,.slice c1 cbs.length c4,.slice c2 crs.length c5,.slice c3 cds.length c6] 28)):=by go_grown
 have Bx:=Blk.new x1 28 #[.bool ch,.slice c1 cbs.length c4,.slice c2 crs.length c5,.slice c3 cds.length c6]
 replace R0:=R0.below hbA
 replace hS:=hS.below hbA
 replace hg:=hg.trans (Out.of_below hbA)
 replace oq:=instK.own_out (F:=[]) oq (Out.of_below hbA) (fun _ _=>by simp)
 go_wp2_with fail
 generalize hgx:x1.heap.size=g at *
 generalize x1.alloc (.cells #[.bool ch,.slice c1 cbs.length c4,.slice c2 crs.length c5,.slice c3 cds.length c6] 28)=X1 at *
 clear hbA hb1 hgx
 refine (next_any B b T n X1 hS (by omega) (by omega)).mono ?_
 rintro e x2 ⟨r,rfl,hr,hSn,hgn⟩
 obtain ⟨j0,rfl⟩:=Int.eq_ofNat_of_zero_le hr.1
 have hj0:j0≤40:=by
  rcases Int.lt_or_le n 1 with h9 | h9
  ·have:=hr.2.2 h9;omega
  ·have:=hr.2.1 h9;omega
 have hU:Out [b] X1 x2:=Out.of_grown hgn
 have HI0:Hid (DrawI B b T g w x2 j0 (⟨ch,.slice c1 cbs.length c4,cbs,.slice c2 crs.length c5,crs,.slice c3 cds.length c6,cds⟩:InstQ)):=⟨hi,instK.own_out oq hU (fun k hk hk' => by simp only [List.mem_singleton] at hk';have:=gq k hk;omega),nq,fun k hk=>⟨by have:=gq k hk;omega,by have:=hm k hk;omega⟩,Bx.outs hU (fun hk=>by simp only [List.mem_singleton] at hk;omega),R0.outs hU (fun hk=>by simp only [List.mem_singleton] at hk;omega),hSn.mono (by omega),hg.trans hU⟩
 clear hi oq nq gq hm Bx R0 hg hS hSn hgn hU hr hW
 go_wp2
 go_loopw [6] (fun c wr=>∃ (j:Nat) (q:InstQ),c=.int .i64 j∧j≤40∧Hid (DrawI B b T g w wr j q)) (fun c _=>(intOf c).toNat)
 case atStart=>exact ⟨j0,_,rfl,hj0,HI0⟩
 case round=>
  clear HI0 hj0
  obtain ⟨j,q,rfl,hj,HI⟩:=hrel
  obtain ⟨hi,oq,nq,low,Bx,R0,hS,hg⟩:=HI.out
  clear HI
  have hsz:=hg.size
  have hgx:=Bx.lt
  obtain ⟨eh,eb,ebs,er,ers,ed,eds⟩:=q
  obtain ⟨e1,e4,rfl⟩:∃ a c,eb=.slice a ebs.length c:=oq.1.shape
  obtain ⟨e2,e5,rfl⟩:∃ a c,er=.slice a ers.length c:=oq.2.1.shape
  obtain ⟨e3,e6,rfl⟩:∃ a c,ed=.slice a eds.length c:=oq.2.2.shape
  dsimp only at Bx
  obtain ⟨p0,p1,p2,p3⟩:=Bx.cel4
  by_cases hpos:0 < j
  ·go_wp2_with fail
   clear p0 p1 p2 p3
   refine (l6Turn_any B b (T + 1 + 60 * (40 - j)) (⟨eh,.slice e1 ebs.length e4,ebs,.slice e2 ers.length e5,ers,.slice e3 eds.length e6,eds⟩:InstQ) wr hS (by omega) oq nq hi (fun hk=>by have:=low b hk;omega)).mono ?_
   rintro e x4 ⟨q4,rfl,h4,o4,n4,f4,hSn,hgn⟩
   have hU:Out [b] wr x4:=Out.of_grown hgn
   have hs4:=hU.size
   have Bx4:=Bx.outs hU (fun hk=>by simp only [List.mem_singleton] at hk;omega)
   have R4:=R0.outs hU (fun hk=>by simp only [List.mem_singleton] at hk;omega)
   have hg4:=hg.trans hU
   have low4:∀ k∈instK.foot q4,w.heap.size < k∧k≠g:=fun k hk=>by
    rcases f4 k hk with h | h
    ·exact low k h
    ·omega
   clear oq nq low Bx R0 hg hS hi f4 hgn hU
   obtain ⟨fh,fb,fbs,fr,frs,fd,fds⟩:=q4
   obtain ⟨f1,f4,rfl⟩:∃ a c,fb=.slice a fbs.length c:=o4.1.shape
   obtain ⟨f2,f5,rfl⟩:∃ a c,fr=.slice a frs.length c:=o4.2.1.shape
   obtain ⟨f3,f6,rfl⟩:∃ a c,fd=.slice a fds.length c:=o4.2.2.shape
   have Br:=Bx4.row #[.bool fh,.slice f1 fbs.length f4,.slice f2 frs.length f5,.slice f3 fds.length f6]
   have hsr:(Tryz.prog.info? 28).map (·.size)=some (#[.bool fh,.slice f1 fbs.length f4,.slice f2 frs.length f5,.slice f3 fds.length f6]:Array Value).size:=sz_inst
   have hUr:=out_row x4 g #[.bool fh,.slice f1 fbs.length f4,.slice f2 frs.length f5,.slice f3 fds.length f6]
   have HI5:Hid (DrawI B b T g w (x4.setRow g #[.bool fh,.slice f1 fbs.length f4,.slice f2 frs.length f5,.slice f3 fds.length f6]) (j - 1) (⟨fh,.slice f1 fbs.length f4,fbs,.slice f2 frs.length f5,frs,.slice f3 fds.length f6,fds⟩:InstQ)):=⟨h4,instK.own_out o4 hUr (fun k hk hk' => by simp only [List.mem_singleton] at hk';have:=low4 k hk;omega),n4,low4,Br,R4.outs hUr (fun hk=>by simp only [List.mem_singleton] at hk;omega),(hSn.out hUr (by simp only [List.mem_singleton];omega) (fun k hk=>by simp only [List.mem_singleton] at hk;omega)).mono (by omega),⟨hUr.os.trans hg4.os,hUr.tape.trans hg4.tape,hUr.output.trans hg4.output,Nat.le_trans hg4.size hUr.size,fun k hk hne=>(hUr.block k (Nat.lt_of_lt_of_le hk hg4.size) (by simp only [List.mem_singleton];omega)).trans (hg4.block k hk hne)⟩⟩
   clear o4 n4 low4 R4 hg4 hSn h4 Br hUr
   go_wp2_with (first | (refine st_row (by kernel_rfl) 28 _ _ rfl _ #[.bool fh,.slice f1 fbs.length f4,.slice f2 frs.length f5,.slice f3 fds.length f6] rfl rfl 28 _ Bx4 hsr rfl (by simp [Value.oneCell']) ?_))
   go_roundw
   case rel=>exact ⟨j - 1,_,by go_num,by omega,HI5⟩
   case measure=>simp [intOf];omega
  ·have Rr:=R0.row #[.bool eh,.slice e1 ebs.length e4,.slice e2 ers.length e5,.slice e3 eds.length e6]
   have hsr:(Tryz.prog.info? 28).map (·.size)=some (#[.bool eh,.slice e1 ebs.length e4,.slice e2 ers.length e5,.slice e3 eds.length e6]:Array Value).size:=sz_inst
   have hUr:=out_row wr w.heap.size #[.bool eh,.slice e1 ebs.length e4,.slice e2 ers.length e5,.slice e3 eds.length e6]
   have HZ:Hid (instK.own (wr.setRow w.heap.size #[.bool eh,.slice e1 ebs.length e4,.slice e2 ers.length e5,.slice e3 eds.length e6]) (⟨eh,.slice e1 ebs.length e4,ebs,.slice e2 ers.length e5,ers,.slice e3 eds.length e6,eds⟩:InstQ)∧Src B (wr.setRow w.heap.size #[.bool eh,.slice e1 ebs.length e4,.slice e2 ers.length e5,.slice e3 eds.length e6]) b (T + 2500)∧w.grownBy (wr.setRow w.heap.size #[.bool eh,.slice e1 ebs.length e4,.slice e2 ers.length e5,.slice e3 eds.length e6]) (some b)):=by
    refine ⟨instK.own_out oq hUr (fun k hk hk' => by simp only [List.mem_singleton] at hk';have:=low k hk;omega),?_,?_⟩
    ·exact (hS.out hUr (by simp only [List.mem_singleton];omega) (fun k hk=>by simp only [List.mem_singleton] at hk;omega)).mono (by omega)
    ·exact grown_out (out_grown hg) hUr (fun k hk=>by simp only [List.mem_singleton] at hk;omega)
   have HQ:Hid (insF (InstQ.e (⟨eh,.slice e1 ebs.length e4,ebs,.slice e2 ers.length e5,ers,.slice e3 eds.length e6,eds⟩:InstQ))=0∧(instK.foot (⟨eh,.slice e1 ebs.length e4,ebs,.slice e2 ers.length e5,ers,.slice e3 eds.length e6,eds⟩:InstQ)).Nodup∧∀ k∈instK.foot (⟨eh,.slice e1 ebs.length e4,ebs,.slice e2 ers.length e5,ers,.slice e3 eds.length e6,eds⟩:InstQ),w.heap.size≤k):=⟨hi,nq,fun k hk=>by have:=low k hk;omega⟩
   clear oq nq low hS hg hi hUr
   go_wp2_with (first | (refine st_row (by kernel_rfl) 28 _ _ rfl _ #[.bool eh,.slice e1 ebs.length e4,.slice e2 ers.length e5,.slice e3 eds.length e6] rfl rfl 28 _ R0 hsr rfl (by simp [Value.oneCell']) ?_))
   obtain ⟨q0,q1,q2,q3⟩:=Rr.cel4
   exact bodyPost_ret (v:=.agg #[.bool eh,.slice e1 ebs.length e4,.slice e2 ers.length e5,.slice e3 eds.length e6]) (by simp [results,Tryz.results21,go_sem,q0,q1,q2,q3]) rfl ⟨(⟨eh,.slice e1 ebs.length e4,ebs,.slice e2 ers.length e5,ers,.slice e3 eds.length e6,eds⟩:InstQ),rfl,HQ.out.1,HZ.out.1,HQ.out.2.1,HQ.out.2.2,HZ.out.2.1,HZ.out.2.2⟩

end Go.Proofs.YtnnenkoeklabpaaGreatDoor
namespace Go.Proofs.YtnnenkoeklabpaaGreatDoor
open Go.RowKit
open Go.BigFrame
set_option maxRecDepth 100000
set_option maxRecDepth 100000 in
set_option maxHeartbeats 8000000 in
theorem l6Bent_any (B b T:Nat) (w:World) (hS:Src B w b T) (hT:T≤500000) :
  Calls Tryz.prog 12 #[.pointer (some ⟨b,0,none⟩)] w fun e w' => ∃ q:InstQ,e=.returned (.agg #[.bool q.has,q.vb,q.vr,q.vd])∧q.n≤1000∧instK.own w' q∧(instK.foot q).Nodup∧(∀ k∈instK.foot q,w.heap.size≤k)∧Src B w' b (T + 2600)∧w.grownBy w' (some b):=by
 have hlt:=hS.lt
 have hb0:Below w.heap.size w (w.alloc (.cells #[.bool false,.slice none 0 0,.slice none 0 0,.slice none 0 0] 28)):=by go_grown
 have R0:=Blk.new w 28 #[.bool false,.slice none 0 0,.slice none 0 0,.slice none 0 0]
 have hg:Out [b] w (w.alloc (.cells #[.bool false,.slice none 0 0,.slice none 0 0,.slice none 0 0] 28)):=Out.of_below hb0
 replace hS:=hS.below hb0
 clear hb0
 go_enter Tryz.func12,Tryz.ntmps12
 go_wp2_with fail
 generalize w.alloc (.cells #[.bool false,.slice none 0 0,.slice none 0 0,.slice none 0 0] 28)=W at *
 refine (l6Draw_any B b T 40 W hS (by omega) (by omega)).mono ?_
 rintro e x1 ⟨q,rfl,hi,oq,nq,gq,hSn,hgn⟩
 have hW:=R0.lt
 have hU:Out [b] W x1:=Out.of_grown hgn
 replace R0:=R0.outs hU (fun hk=>by simp only [List.mem_singleton] at hk;omega)
 replace hS:=hSn
 replace hg:=hg.trans hU
 have hm:=instK.own_lt oq
 have hsm:=ins_small hi
 obtain ⟨hwel,⟨hl1,hl4⟩,hd3,_⟩:=ins_ok hi
 have hrl:q.e.rounds.length=q.rounds.length:=List.length_map _
 have hw3:∀ m (h:m < q.rounds.length),(q.rounds[m]).rep.length=3∧(q.rounds[m]).pro.length=3:=fun m h=>by
  have h8:=wel_at hwel m (by omega)
  have h9:q.e.rounds.getD m rnd0=RoundQ.e q.rounds[m]:=rnd_at q.rounds m h
  rw [h9] at h8
  exact h8
 replace hd3:q.dec.length=3:=hd3
 clear hwel hSn hgn hU hi
 obtain ⟨ch,cb,cbs,cr,crs,cd,cds⟩:=q
 obtain ⟨c1,c4,rfl⟩:∃ a c,cb=.slice a cbs.length c:=oq.1.shape
 obtain ⟨c2,c5,rfl⟩:∃ a c,cr=.slice a crs.length c:=oq.2.1.shape
 obtain ⟨c3,c6,rfl⟩:∃ a c,cd=.slice a cds.length c:=oq.2.2.shape
 dsimp only at hw3 hrl hd3
 have HD3:Hid (cds.length=3):=hd3
 clear hd3
 rw [hrl] at hl1 hl4
 clear hrl
 have hbA:Below x1.heap.size x1 (x1.alloc (.cells #[.bool ch,.slice c1 cbs.length c4,.slice c2 crs.length c5,.slice c3 cds.length c6] 28)):=by go_grown
 have Bx:=Blk.new x1 28 #[.bool ch,.slice c1 cbs.length c4,.slice c2 crs.length c5,.slice c3 cds.length c6]
 have hgw:w.heap.size < x1.heap.size:=R0.lt
 replace R0:=R0.below hbA
 replace hS:=hS.below hbA
 replace hg:=hg.trans (Out.of_below hbA)
 replace oq:=instK.own_out (F:=[]) oq (Out.of_below hbA) (fun _ _=>by simp)
 have low:∀ k∈instK.foot (⟨ch,.slice c1 cbs.length c4,cbs,.slice c2 crs.length c5,crs,.slice c3 cds.length c6,cds⟩:InstQ),w.heap.size < k∧k≠x1.heap.size:=fun k hk=>⟨by have:=gq k hk;omega,by have:=hm k hk;omega⟩
 clear hbA gq hm hW
 obtain ⟨m,hml⟩:∃ m,crs.length=m + 1:=⟨crs.length - 1,by omega⟩
 have hmr:m < crs.length:=by omega
 rw [hml] at oq nq low Bx hsm R0 hS hg ⊢
 go_wp2_with fail
 generalize hgx:x1.heap.size=g at *
 generalize x1.alloc (.cells #[.bool ch,.slice c1 cbs.length c4,.slice c2 (m + 1) c5,.slice c3 cds.length c6] 28)=X1 at *
 clear hgx
 refine (next_any B b (T + 2500) 12 X1 hS (by omega) (by omega)).mono ?_
 rintro e X ⟨sw,rfl,hsw,hSn,hgn⟩
 have hU:Out [b] X1 X:=Out.of_grown hgn
 replace R0:=R0.outs hU (fun hk=>by simp only [List.mem_singleton] at hk;omega)
 replace Bx:=Bx.outs hU (fun hk=>by simp only [List.mem_singleton] at hk;omega)
 replace oq:=instK.own_out oq hU (fun k hk hk' => by simp only [List.mem_singleton] at hk';have:=low k hk;omega)
 replace hS:=hSn
 replace hg:=hg.trans hU
 obtain ⟨sn,rfl⟩:=Int.eq_ofNat_of_zero_le hsw.1
 have hsn:sn < 12:=by have:=hsw.2.1 (by omega);omega
 have hpq:True:=trivial
 clear hsw hSn hgn hU
 have h6:sn=0∨sn=1∨sn=2∨sn=3∨sn=4∨5≤sn:=by omega
 rcases h6 with rfl | rfl | rfl | rfl | rfl | hge
 ·skip
  obtain ⟨g5,rfl⟩:=oq.2.2.blkOf (by show 0 < cds.length;have:=HD3.out;omega)
  have hg5:g5∈instK.foot (⟨ch,.slice c1 cbs.length c4,cbs,.slice c2 (m + 1) c5,crs,.slice (some ⟨g5,0,none⟩) cds.length c6,cds⟩:InstQ):=List.mem_append_right _ (List.mem_append_right _ (by show g5∈intK.fp (.slice (some ⟨g5,0,none⟩) cds.length c6) cds;rw [fp_int];simp))
  have hg5l:=low g5 hg5
  have pz:=lato_cell (F:=[b,g5]) (Bx.cell 3 _ rfl) (by simp only [List.mem_cons,List.not_mem_nil,or_false];omega)
  have hsub:∀ k∈[b],k∈[b,g5]:=fun k hk=>by simp only [List.mem_singleton] at hk;simp [hk]
  go_wp2_with fail
  clear hpq
  refine region_vals [some 15,some 16,some 17,some 18,some 19,some 20,some 21,some 22] (fun vs w' => ∃ (r:Nat) (v:Int) (gp:Nat),vs=[.pointer (some ⟨g,3,none⟩),.slice (some ⟨g5,0,none⟩) cds.length c6,.pointer (some ⟨b,0,none⟩),.int .i64 (r:Int),.pointer (some ⟨b,0,none⟩),.slice (some ⟨gp,0,none⟩) 3 3,.int .i64 v,.pointer (some ⟨g5,r,none⟩)]∧b < gp∧r < 3∧instK.own w' (InstQ.setD (⟨ch,.slice c1 cbs.length c4,cbs,.slice c2 (m + 1) c5,crs,.slice (some ⟨g5,0,none⟩) cds.length c6,cds⟩:InstQ) r v)∧instK.foot (InstQ.setD (⟨ch,.slice c1 cbs.length c4,cbs,.slice c2 (m + 1) c5,crs,.slice (some ⟨g5,0,none⟩) cds.length c6,cds⟩:InstQ) r v)=instK.foot (⟨ch,.slice c1 cbs.length c4,cbs,.slice c2 (m + 1) c5,crs,.slice (some ⟨g5,0,none⟩) cds.length c6,cds⟩:InstQ)∧Src B w' b (T + 2503)∧Out [b,g5] X w') ?_ ?_
  ·have sx:Src B X.drew b (T + 2501):=hS.below ((Below.refl _ _).drew)
   have ux:Out [b] X X.drew:=Out.of_below ((Below.refl _ _).drew)
   have hnn:Nonempty (LatO [b,g5] X):=⟨⟨X,Out.refl _ _⟩⟩
   refine text_begin (S:=fun w' => ∃ u:LatO [b,g5] X,w' = u.val) (by kernel_rfl) ?_
   refine sgr [(0,3),(4,1)] 5 (by kernel_rfl) ⟨⟨_,ux.mono hsub⟩,rfl⟩ ?_
   simp only [pkE]
   repeat go_big_quiet_step (fail)
   refine wpQuiet_nil ?_
   generalize X.drew=wd at sx ux ⊢
   refine twa 3 5 4 (by kernel_rfl) ?_ ?_
   ·skip
    refine opc 3 (some 18) 22 #[.pointer (some ⟨b,0,none⟩),.int .i64 3] (by kernel_rfl) ?_
    refine (next_any B b (T + 2501) 3 _ sx (by omega) (by omega)).mono ?_
    rintro e x7 ⟨ri,rfl,hri,sn',gn⟩
    obtain ⟨r,rfl⟩:=Int.eq_ofNat_of_zero_le hri.1
    have hr3:r < 3:=by have:=hri.2.1 (by omega);omega
    replace sx:=sn'
    have un:Out [b] _ _:=Out.of_grown gn
    replace ux:=ux.trans un
    clear un gn sn' hri
    refine ⟨_,rfl,⟨⟨_,ux.mono hsub⟩,rfl⟩,?_⟩
    simp only [Act.put,pgE,pjE]
    refine ona 5 3 rfl (by kernel_rfl) ?_
    have hpk:=World.ownsRow_lit (e:=2) (size:=1) x7 #[.int .i64 0,.int .i64 1,.int .i64 2] 3 (Nat.le_refl _) (by decide) rfl
    have hgb:b < x7.heap.size:=sx.lt.2
    have hba:Below x7.heap.size x7 (x7.alloc (.cells #[.int .i64 0,.int .i64 1,.int .i64 2] 2)):=by go_grown
    replace sx:=sx.below hba
    replace ux:=ux.trans (Out.of_below hba)
    clear hba
    go_wp2
    refine ThenGo.to ⟨⟨⟨_,ux.mono hsub⟩,rfl⟩,?_⟩
    generalize hGp:x7.heap.size=gp at *
    generalize x7.alloc (.cells #[.int .i64 0,.int .i64 1,.int .i64 2] 2)=Y at *
    clear hGp
    refine cla 6 (some 21) 23 #[.pointer (some ⟨b,0,none⟩),.slice (some ⟨gp,0,none⟩) 3 3] 2 (by kernel_rfl) ?_
    refine (pick_any B b (T + 2502) gp _ [0,1,2] _ sx (by omega) hpk (by simp) (by simp) (by simp [Value.ownBlock];omega)).mono ?_
    rintro e x9 ⟨v,rfl,hv,sn',gn⟩
    replace sx:=sn'
    have un:Out [b] _ _:=Out.of_grown gn
    replace ux:=ux.trans un
    clear un gn sn' hpk
    refine ⟨_,rfl,⟨⟨_,ux.mono hsub⟩,rfl⟩,?_⟩
    simp only [Act.put,pgE,pjE]
    have hr3i:(r:Int) < 3:=by omega
    have hr3d:(r:Int) < (cds.length:Int):=by have:=HD3.out;omega
    refine sgr [(7,1)] 1 (by kernel_rfl) ⟨⟨_,ux.mono hsub⟩,rfl⟩ ?_
    simp only [pkE]
    repeat go_big_quiet_step (fail)
    refine wpQuiet_nil ?_
    refine ona 8 0 rfl (by kernel_rfl) ?_
    have oz:=instK.own_out oq ux (fun k hk hk' => by simp only [List.mem_singleton] at hk';have:=low k hk;omega)
    obtain ⟨g',cap',hv',_,kc,kf,own5,foot5⟩:=own_setD oz nq r (by show r < cds.length;have:=HD3.out;omega) v
    replace hv' : (Value.slice (some ⟨g5,0,none⟩) cds.length c6)=.slice (some ⟨g',0,none⟩) cds.length cap' := hv'
    simp only [Value.slice.injEq,Option.some.injEq,Addr.mk.injEq,and_true,true_and] at hv'
    obtain ⟨rfl,rfl⟩:=hv'
    have sz:=sx.out (Out.setCell x9 g5 r (iv v)) (by simp only [List.mem_singleton];omega) (fun k hk=>by simp only [List.mem_singleton] at hk;omega)
    have uz:Out [b,g5] X (x9.setCell ⟨g5,r,none⟩ (iv v)):=(ux.mono hsub).set (by simp)
    obtain ⟨old,kc2⟩:∃ z,x9.cell? ⟨g5,r,none⟩=some (iv z):=⟨_,kc⟩
    clear kc
    go_wp2
    refine ThenGo.to ⟨⟨⟨_,uz⟩,rfl⟩,?_⟩
    refine text_end (by kernel_rfl) ?_
    refine ⟨rfl,_,⟨r,v,gp,rfl,hgb,hr3,own5,foot5,sz,uz⟩,?_⟩
    simp only [putAll,Act.put,pgE,pjE]
    try rfl
   ·skip
    refine op_one 5 _ rfl ?_
    have hpk:=World.ownsRow_lit (e:=2) (size:=1) wd #[.int .i64 0,.int .i64 1,.int .i64 2] 3 (Nat.le_refl _) (by decide) rfl
    have hgb:b < wd.heap.size:=sx.lt.2
    have hba:Below wd.heap.size wd (wd.alloc (.cells #[.int .i64 0,.int .i64 1,.int .i64 2] 2)):=by go_grown
    replace sx:=sx.below hba
    replace ux:=ux.trans (Out.of_below hba)
    clear hba
    go_wp2
    refine ThenGo.to ⟨⟨⟨_,ux.mono hsub⟩,rfl⟩,?_⟩
    generalize hGp:wd.heap.size=gp at *
    generalize wd.alloc (.cells #[.int .i64 0,.int .i64 1,.int .i64 2] 2)=Y at *
    refine cla 3 (some 18) 22 #[.pointer (some ⟨b,0,none⟩),.int .i64 3] 3 (by kernel_rfl) ?_
    refine (next_any B b (T + 2501) 3 _ sx (by omega) (by omega)).mono ?_
    rintro e x7 ⟨ri,rfl,hri,sn',gn⟩
    obtain ⟨r,rfl⟩:=Int.eq_ofNat_of_zero_le hri.1
    have hr3:r < 3:=by have:=hri.2.1 (by omega);omega
    replace sx:=sn'
    have un:Out [b] _ _:=Out.of_grown gn
    replace ux:=ux.trans un
    replace hpk:=hpk.kept gn (Or.inr (by simp [Value.ownBlock];omega))
    clear un gn sn' hri hGp
    refine ⟨_,rfl,⟨⟨_,ux.mono hsub⟩,rfl⟩,?_⟩
    simp only [Act.put,pgE,pjE]
    refine cla 6 (some 21) 23 #[.pointer (some ⟨b,0,none⟩),.slice (some ⟨gp,0,none⟩) 3 3] 2 (by kernel_rfl) ?_
    refine (pick_any B b (T + 2502) gp _ [0,1,2] _ sx (by omega) hpk (by simp) (by simp) (by simp [Value.ownBlock];omega)).mono ?_
    rintro e x9 ⟨v,rfl,hv,sn',gn⟩
    replace sx:=sn'
    have un:Out [b] _ _:=Out.of_grown gn
    replace ux:=ux.trans un
    clear un gn sn' hpk
    refine ⟨_,rfl,⟨⟨_,ux.mono hsub⟩,rfl⟩,?_⟩
    simp only [Act.put,pgE,pjE]
    have hr3i:(r:Int) < 3:=by omega
    have hr3d:(r:Int) < (cds.length:Int):=by have:=HD3.out;omega
    refine sgr [(7,1)] 1 (by kernel_rfl) ⟨⟨_,ux.mono hsub⟩,rfl⟩ ?_
    simp only [pkE]
    repeat go_big_quiet_step (fail)
    refine wpQuiet_nil ?_
    refine ona 8 0 rfl (by kernel_rfl) ?_
    have oz:=instK.own_out oq ux (fun k hk hk' => by simp only [List.mem_singleton] at hk';have:=low k hk;omega)
    obtain ⟨g',cap',hv',_,kc,kf,own5,foot5⟩:=own_setD oz nq r (by show r < cds.length;have:=HD3.out;omega) v
    replace hv' : (Value.slice (some ⟨g5,0,none⟩) cds.length c6)=.slice (some ⟨g',0,none⟩) cds.length cap' := hv'
    simp only [Value.slice.injEq,Option.some.injEq,Addr.mk.injEq,and_true,true_and] at hv'
    obtain ⟨rfl,rfl⟩:=hv'
    have sz:=sx.out (Out.setCell x9 g5 r (iv v)) (by simp only [List.mem_singleton];omega) (fun k hk=>by simp only [List.mem_singleton] at hk;omega)
    have uz:Out [b,g5] X (x9.setCell ⟨g5,r,none⟩ (iv v)):=(ux.mono hsub).set (by simp)
    obtain ⟨old,kc2⟩:∃ z,x9.cell? ⟨g5,r,none⟩=some (iv z):=⟨_,kc⟩
    clear kc
    go_wp2
    refine ThenGo.to ⟨⟨⟨_,uz⟩,rfl⟩,?_⟩
    refine text_end (by kernel_rfl) ?_
    refine ⟨rfl,_,⟨r,v,gp,rfl,hgb,hr3,own5,foot5,sz,uz⟩,?_⟩
    simp only [putAll,Act.put,pgE,pjE]
    try rfl
  rintro vs X6 ⟨r,v,gp,rfl,_,hr3,ow,fe,sr,uX⟩
  simp only [putAll,Act.put,pjE]
  have Bx6:=Bx.outs uX (fun hk=>by simp only [List.mem_cons,List.not_mem_nil,or_false] at hk;omega)
  have R06:=R0.outs uX (fun hk=>by simp only [List.mem_cons,List.not_mem_nil,or_false] at hk;omega)
  have gro:Out [b] w X6:=⟨uX.os.trans hg.os,uX.tape.trans hg.tape,uX.output.trans hg.output,Nat.le_trans hg.size uX.size,fun k hk hne=>(uX.block k (Nat.lt_of_lt_of_le hk hg.size) (by simp only [List.mem_singleton] at hne;simp only [List.mem_cons,List.not_mem_nil,or_false];omega)).trans (hg.block k hk hne)⟩
  have nd:(instK.foot (InstQ.setD (⟨ch,.slice c1 cbs.length c4,cbs,.slice c2 (m + 1) c5,crs,.slice (some ⟨g5,0,none⟩) cds.length c6,cds⟩:InstQ) r v)).Nodup:=by rw [fe];exact nq
  have lw:∀ k∈instK.foot (InstQ.setD (⟨ch,.slice c1 cbs.length c4,cbs,.slice c2 (m + 1) c5,crs,.slice (some ⟨g5,0,none⟩) cds.length c6,cds⟩:InstQ) r v),w.heap.size < k∧k≠g:=fun k hk=>by rw [fe] at hk;exact low k hk
  have hn:InstQ.n (InstQ.setD (⟨ch,.slice c1 cbs.length c4,cbs,.slice c2 (m + 1) c5,crs,.slice (some ⟨g5,0,none⟩) cds.length c6,cds⟩:InstQ) r v)≤1000:=by rw [inst_ne,setD_e];show InstE.n ⟨_,_,_,(InstQ.e _).dec.set r v⟩≤1000;unfold InstE.n;rw [List.length_set];exact Nat.le_trans hsm (by omega)
  clear Bx R0 hg hS oq nq low uX fe hsub
  have Bx:=Bx6
  have R0:=R06
  clear Bx6 R06
  have Rr:=R0.row #[.bool ch,.slice c1 cbs.length c4,.slice c2 (m + 1) c5,.slice (some ⟨g5,0,none⟩) cds.length c6]
  have hsr:(Tryz.prog.info? 28).map (·.size)=some (#[.bool ch,.slice c1 cbs.length c4,.slice c2 (m + 1) c5,.slice (some ⟨g5,0,none⟩) cds.length c6]:Array Value).size:=sz_inst
  have hUr:=out_row (X6) w.heap.size #[.bool ch,.slice c1 cbs.length c4,.slice c2 (m + 1) c5,.slice (some ⟨g5,0,none⟩) cds.length c6]
  have HZ:Hid (instK.own ((X6).setRow w.heap.size #[.bool ch,.slice c1 cbs.length c4,.slice c2 (m + 1) c5,.slice (some ⟨g5,0,none⟩) cds.length c6]) (InstQ.setD (⟨ch,.slice c1 cbs.length c4,cbs,.slice c2 (m + 1) c5,crs,.slice (some ⟨g5,0,none⟩) cds.length c6,cds⟩:InstQ) r v)∧Src B ((X6).setRow w.heap.size #[.bool ch,.slice c1 cbs.length c4,.slice c2 (m + 1) c5,.slice (some ⟨g5,0,none⟩) cds.length c6]) b (T + 2600)∧w.grownBy ((X6).setRow w.heap.size #[.bool ch,.slice c1 cbs.length c4,.slice c2 (m + 1) c5,.slice (some ⟨g5,0,none⟩) cds.length c6]) (some b)):=by
   refine ⟨instK.own_out ow hUr (fun k hk hk' => by simp only [List.mem_singleton] at hk';have:=lw k hk;omega),?_,?_⟩
   ·exact (sr.out hUr (by simp only [List.mem_singleton];omega) (fun k hk=>by simp only [List.mem_singleton] at hk;omega)).mono (by omega)
   ·exact grown_out (out_grown gro) hUr (fun k hk=>by simp only [List.mem_singleton] at hk;omega)
  have HQ:Hid (InstQ.n (InstQ.setD (⟨ch,.slice c1 cbs.length c4,cbs,.slice c2 (m + 1) c5,crs,.slice (some ⟨g5,0,none⟩) cds.length c6,cds⟩:InstQ) r v)≤1000∧(instK.foot (InstQ.setD (⟨ch,.slice c1 cbs.length c4,cbs,.slice c2 (m + 1) c5,crs,.slice (some ⟨g5,0,none⟩) cds.length c6,cds⟩:InstQ) r v)).Nodup∧∀ k∈instK.foot (InstQ.setD (⟨ch,.slice c1 cbs.length c4,cbs,.slice c2 (m + 1) c5,crs,.slice (some ⟨g5,0,none⟩) cds.length c6,cds⟩:InstQ) r v),w.heap.size≤k):=⟨hn,nd,fun k hk=>by have:=lw k hk;omega⟩
  obtain ⟨p0,p1,p2,p3⟩:=Bx.cel4
  clear ow nd lw hn sr gro hUr
  go_wp2_with (first | (refine st_row (by kernel_rfl) 28 _ _ rfl _ #[.bool ch,.slice c1 cbs.length c4,.slice c2 (m + 1) c5,.slice (some ⟨g5,0,none⟩) cds.length c6] rfl rfl 28 _ R0 hsr rfl (by simp [Value.oneCell']) ?_))
  obtain ⟨q0,q1,q2,q3⟩:=Rr.cel4
  exact bodyPost_ret (v:=.agg #[.bool ch,.slice c1 cbs.length c4,.slice c2 (m + 1) c5,.slice (some ⟨g5,0,none⟩) cds.length c6]) (by simp [results,Tryz.results12,go_sem,q0,q1,q2,q3]) rfl ⟨(InstQ.setD (⟨ch,.slice c1 cbs.length c4,cbs,.slice c2 (m + 1) c5,crs,.slice (some ⟨g5,0,none⟩) cds.length c6,cds⟩:InstQ) r v),rfl,HQ.out.1,HZ.out.1,HQ.out.2.1,HQ.out.2.2,HZ.out.2.1,HZ.out.2.2⟩
 ·skip
  obtain ⟨gr,rfl⟩:=oq.2.1.blkOf (by show 0 < List.length crs;omega)
  have hel:=(oq.2.1.2 _ (List.getElem_mem hmr)).1
  have h3l:(crs[m]).rep.length=3:=(hw3 m hmr).1
  obtain ⟨sa,sc,hsv⟩:=hel.shape
  rw [hsv] at hel
  obtain ⟨g5,rfl⟩:=hel.blkOf (by omega)
  rw [h3l] at hsv
  have hg5:g5∈instK.foot (⟨ch,.slice c1 cbs.length c4,cbs,.slice (some ⟨gr,0,none⟩) (m + 1) c5,crs,.slice c3 cds.length c6,cds⟩:InstQ):=List.mem_append_right _ (List.mem_append_left _ (List.mem_append_right _ (List.mem_flatMap.2 ⟨crs[m],List.getElem_mem hmr,List.mem_append_left _ (by rw [hsv,fp_int];simp)⟩)))
  have hg5l:=low g5 hg5
  have hgr:gr≠g5:=by
   intro e
   have hn2:=(List.nodup_append.1 (List.nodup_append.1 nq).2.1).1
   have hx:=(List.nodup_append.1 hn2).2.2 gr (by simp [blk,Value.ownBlock]) g5 (List.mem_flatMap.2 ⟨crs[m],List.getElem_mem hmr,List.mem_append_left _ (by rw [hsv,fp_int];simp)⟩)
   exact hx e
  have hgrf:gr∈instK.foot (⟨ch,.slice c1 cbs.length c4,cbs,.slice (some ⟨gr,0,none⟩) (m + 1) c5,crs,.slice c3 cds.length c6,cds⟩:InstQ):=List.mem_append_right _ (List.mem_append_left _ (List.mem_append_left _ (by simp [blk,Value.ownBlock])))
  have hgrl:=low gr hgrf
  have hcr:=(oq.2.1.cell m hmr 0 (.slice (some ⟨g5,0,none⟩) 3 sc) (by show ([(crs[m]).vr,(crs[m]).vp]:List Value)[0]? = _;rw [← hsv];rfl)).1
  have hcr2:X.cell? ⟨gr,m * 2,none⟩=some (.slice (some ⟨g5,0,none⟩) 3 sc):=hcr
  have pz:=lato_cell (F:=[b,g5]) (Bx.cell 2 _ rfl) (by simp only [List.mem_cons,List.not_mem_nil,or_false];omega)
  have py:=lato_cell (F:=[b,g5]) hcr2 (by simp only [List.mem_cons,List.not_mem_nil,or_false];omega)
  have hmi:(m:Int) < (m:Int) + 1:=by omega
  clear hcr hcr2 hel
  have hsub:∀ k∈[b],k∈[b,g5]:=fun k hk=>by simp only [List.mem_singleton] at hk;simp [hk]
  go_wp2_with fail
  clear hpq
  refine region_vals [some 25,some 26,some 27,some 28,some 29,some 30,some 31,some 32,some 33,some 34,some 35,some 36] (fun vs w' => ∃ (r:Nat) (v:Int) (gp:Nat),vs=[.pointer (some ⟨g,2,none⟩),.slice (some ⟨gr,0,none⟩) (m + 1) c5,.int .i64 (m:Int),.pointer (some ⟨gr,m * 2,none⟩),.pointer (some ⟨gr,m * 2,none⟩),.slice (some ⟨g5,0,none⟩) 3 sc,.pointer (some ⟨b,0,none⟩),.int .i64 (r:Int),.pointer (some ⟨b,0,none⟩),.slice (some ⟨gp,0,none⟩) 4 4,.int .i64 v,.pointer (some ⟨g5,r,none⟩)]∧b < gp∧r < 3∧instK.own w' (InstQ.setR (⟨ch,.slice c1 cbs.length c4,cbs,.slice (some ⟨gr,0,none⟩) (m + 1) c5,crs,.slice c3 cds.length c6,cds⟩:InstQ) m r v hmr)∧instK.foot (InstQ.setR (⟨ch,.slice c1 cbs.length c4,cbs,.slice (some ⟨gr,0,none⟩) (m + 1) c5,crs,.slice c3 cds.length c6,cds⟩:InstQ) m r v hmr)=instK.foot (⟨ch,.slice c1 cbs.length c4,cbs,.slice (some ⟨gr,0,none⟩) (m + 1) c5,crs,.slice c3 cds.length c6,cds⟩:InstQ)∧Src B w' b (T + 2503)∧Out [b,g5] X w') ?_ ?_
  ·have sx:Src B X.drew b (T + 2501):=hS.below ((Below.refl _ _).drew)
   have ux:Out [b] X X.drew:=Out.of_below ((Below.refl _ _).drew)
   have hnn:Nonempty (LatO [b,g5] X):=⟨⟨X,Out.refl _ _⟩⟩
   refine text_begin (S:=fun w' => ∃ u:LatO [b,g5] X,w' = u.val) (by kernel_rfl) ?_
   refine sgr [(0,7),(8,1)] 5 (by kernel_rfl) ⟨⟨_,ux.mono hsub⟩,rfl⟩ ?_
   simp only [pkE]
   repeat go_big_quiet_step (fail)
   refine wpQuiet_nil ?_
   generalize X.drew=wd at sx ux ⊢
   refine twa 7 9 4 (by kernel_rfl) ?_ ?_
   ·skip
    refine opc 7 (some 32) 22 #[.pointer (some ⟨b,0,none⟩),.int .i64 3] (by kernel_rfl) ?_
    refine (next_any B b (T + 2501) 3 _ sx (by omega) (by omega)).mono ?_
    rintro e x7 ⟨ri,rfl,hri,sn',gn⟩
    obtain ⟨r,rfl⟩:=Int.eq_ofNat_of_zero_le hri.1
    have hr3:r < 3:=by have:=hri.2.1 (by omega);omega
    replace sx:=sn'
    have un:Out [b] _ _:=Out.of_grown gn
    replace ux:=ux.trans un
    clear un gn sn' hri
    refine ⟨_,rfl,⟨⟨_,ux.mono hsub⟩,rfl⟩,?_⟩
    simp only [Act.put,pgE,pjE]
    refine ona 9 3 rfl (by kernel_rfl) ?_
    have hpk:=World.ownsRow_lit (e:=2) (size:=1) x7 #[.int .i64 0,.int .i64 1,.int .i64 3,.int .i64 4] 4 (Nat.le_refl _) (by decide) rfl
    have hgb:b < x7.heap.size:=sx.lt.2
    have hba:Below x7.heap.size x7 (x7.alloc (.cells #[.int .i64 0,.int .i64 1,.int .i64 3,.int .i64 4] 2)):=by go_grown
    replace sx:=sx.below hba
    replace ux:=ux.trans (Out.of_below hba)
    clear hba
    go_wp2
    refine ThenGo.to ⟨⟨⟨_,ux.mono hsub⟩,rfl⟩,?_⟩
    generalize hGp:x7.heap.size=gp at *
    generalize x7.alloc (.cells #[.int .i64 0,.int .i64 1,.int .i64 3,.int .i64 4] 2)=Y at *
    clear hGp
    refine cla 10 (some 35) 23 #[.pointer (some ⟨b,0,none⟩),.slice (some ⟨gp,0,none⟩) 4 4] 2 (by kernel_rfl) ?_
    refine (pick_any B b (T + 2502) gp _ [0,1,3,4] _ sx (by omega) hpk (by simp) (by simp) (by simp [Value.ownBlock];omega)).mono ?_
    rintro e x9 ⟨v,rfl,hv,sn',gn⟩
    replace sx:=sn'
    have un:Out [b] _ _:=Out.of_grown gn
    replace ux:=ux.trans un
    clear un gn sn' hpk
    refine ⟨_,rfl,⟨⟨_,ux.mono hsub⟩,rfl⟩,?_⟩
    simp only [Act.put,pgE,pjE]
    have hr3i:(r:Int) < 3:=by omega
    have hr3d:(r:Int) < (cds.length:Int):=by have:=HD3.out;omega
    refine sgr [(11,1)] 1 (by kernel_rfl) ⟨⟨_,ux.mono hsub⟩,rfl⟩ ?_
    simp only [pkE]
    repeat go_big_quiet_step (fail)
    refine wpQuiet_nil ?_
    refine ona 12 0 rfl (by kernel_rfl) ?_
    have oz:=instK.own_out oq ux (fun k hk hk' => by simp only [List.mem_singleton] at hk';have:=low k hk;omega)
    obtain ⟨g',cap',hv',_,kc,kf,own5,foot5⟩:=own_setR oz nq m r hmr (by show r < (crs[m]).rep.length;omega) v
    replace hv' : (crs[m]).vr=.slice (some ⟨g',0,none⟩) (crs[m]).rep.length cap' := hv'
    rw [hsv,h3l] at hv'
    simp only [Value.slice.injEq,Option.some.injEq,Addr.mk.injEq,and_true,true_and] at hv'
    obtain ⟨rfl,rfl⟩:=hv'
    have sz:=sx.out (Out.setCell x9 g5 r (iv v)) (by simp only [List.mem_singleton];omega) (fun k hk=>by simp only [List.mem_singleton] at hk;omega)
    have uz:Out [b,g5] X (x9.setCell ⟨g5,r,none⟩ (iv v)):=(ux.mono hsub).set (by simp)
    obtain ⟨old,kc2⟩:∃ z,x9.cell? ⟨g5,r,none⟩=some (iv z):=⟨_,kc⟩
    clear kc
    go_wp2
    refine ThenGo.to ⟨⟨⟨_,uz⟩,rfl⟩,?_⟩
    refine text_end (by kernel_rfl) ?_
    refine ⟨rfl,_,⟨r,v,gp,rfl,hgb,hr3,own5,foot5,sz,uz⟩,?_⟩
    simp only [putAll,Act.put,pgE,pjE]
    try rfl
   ·skip
    refine op_one 9 _ rfl ?_
    have hpk:=World.ownsRow_lit (e:=2) (size:=1) wd #[.int .i64 0,.int .i64 1,.int .i64 3,.int .i64 4] 4 (Nat.le_refl _) (by decide) rfl
    have hgb:b < wd.heap.size:=sx.lt.2
    have hba:Below wd.heap.size wd (wd.alloc (.cells #[.int .i64 0,.int .i64 1,.int .i64 3,.int .i64 4] 2)):=by go_grown
    replace sx:=sx.below hba
    replace ux:=ux.trans (Out.of_below hba)
    clear hba
    go_wp2
    refine ThenGo.to ⟨⟨⟨_,ux.mono hsub⟩,rfl⟩,?_⟩
    generalize hGp:wd.heap.size=gp at *
    generalize wd.alloc (.cells #[.int .i64 0,.int .i64 1,.int .i64 3,.int .i64 4] 2)=Y at *
    refine cla 7 (some 32) 22 #[.pointer (some ⟨b,0,none⟩),.int .i64 3] 3 (by kernel_rfl) ?_
    refine (next_any B b (T + 2501) 3 _ sx (by omega) (by omega)).mono ?_
    rintro e x7 ⟨ri,rfl,hri,sn',gn⟩
    obtain ⟨r,rfl⟩:=Int.eq_ofNat_of_zero_le hri.1
    have hr3:r < 3:=by have:=hri.2.1 (by omega);omega
    replace sx:=sn'
    have un:Out [b] _ _:=Out.of_grown gn
    replace ux:=ux.trans un
    replace hpk:=hpk.kept gn (Or.inr (by simp [Value.ownBlock];omega))
    clear un gn sn' hri hGp
    refine ⟨_,rfl,⟨⟨_,ux.mono hsub⟩,rfl⟩,?_⟩
    simp only [Act.put,pgE,pjE]
    refine cla 10 (some 35) 23 #[.pointer (some ⟨b,0,none⟩),.slice (some ⟨gp,0,none⟩) 4 4] 2 (by kernel_rfl) ?_
    refine (pick_any B b (T + 2502) gp _ [0,1,3,4] _ sx (by omega) hpk (by simp) (by simp) (by simp [Value.ownBlock];omega)).mono ?_
    rintro e x9 ⟨v,rfl,hv,sn',gn⟩
    replace sx:=sn'
    have un:Out [b] _ _:=Out.of_grown gn
    replace ux:=ux.trans un
    clear un gn sn' hpk
    refine ⟨_,rfl,⟨⟨_,ux.mono hsub⟩,rfl⟩,?_⟩
    simp only [Act.put,pgE,pjE]
    have hr3i:(r:Int) < 3:=by omega
    have hr3d:(r:Int) < (cds.length:Int):=by have:=HD3.out;omega
    refine sgr [(11,1)] 1 (by kernel_rfl) ⟨⟨_,ux.mono hsub⟩,rfl⟩ ?_
    simp only [pkE]
    repeat go_big_quiet_step (fail)
    refine wpQuiet_nil ?_
    refine ona 12 0 rfl (by kernel_rfl) ?_
    have oz:=instK.own_out oq ux (fun k hk hk' => by simp only [List.mem_singleton] at hk';have:=low k hk;omega)
    obtain ⟨g',cap',hv',_,kc,kf,own5,foot5⟩:=own_setR oz nq m r hmr (by show r < (crs[m]).rep.length;omega) v
    replace hv' : (crs[m]).vr=.slice (some ⟨g',0,none⟩) (crs[m]).rep.length cap' := hv'
    rw [hsv,h3l] at hv'
    simp only [Value.slice.injEq,Option.some.injEq,Addr.mk.injEq,and_true,true_and] at hv'
    obtain ⟨rfl,rfl⟩:=hv'
    have sz:=sx.out (Out.setCell x9 g5 r (iv v)) (by simp only [List.mem_singleton];omega) (fun k hk=>by simp only [List.mem_singleton] at hk;omega)
    have uz:Out [b,g5] X (x9.setCell ⟨g5,r,none⟩ (iv v)):=(ux.mono hsub).set (by simp)
    obtain ⟨old,kc2⟩:∃ z,x9.cell? ⟨g5,r,none⟩=some (iv z):=⟨_,kc⟩
    clear kc
    go_wp2
    refine ThenGo.to ⟨⟨⟨_,uz⟩,rfl⟩,?_⟩
    refine text_end (by kernel_rfl) ?_
    refine ⟨rfl,_,⟨r,v,gp,rfl,hgb,hr3,own5,foot5,sz,uz⟩,?_⟩
    simp only [putAll,Act.put,pgE,pjE]
    try rfl
  rintro vs X6 ⟨r,v,gp,rfl,_,hr3,ow,fe,sr,uX⟩
  simp only [putAll,Act.put,pjE]
  have Bx6:=Bx.outs uX (fun hk=>by simp only [List.mem_cons,List.not_mem_nil,or_false] at hk;omega)
  have R06:=R0.outs uX (fun hk=>by simp only [List.mem_cons,List.not_mem_nil,or_false] at hk;omega)
  have gro:Out [b] w X6:=⟨uX.os.trans hg.os,uX.tape.trans hg.tape,uX.output.trans hg.output,Nat.le_trans hg.size uX.size,fun k hk hne=>(uX.block k (Nat.lt_of_lt_of_le hk hg.size) (by simp only [List.mem_singleton] at hne;simp only [List.mem_cons,List.not_mem_nil,or_false];omega)).trans (hg.block k hk hne)⟩
  have nd:(instK.foot (InstQ.setR (⟨ch,.slice c1 cbs.length c4,cbs,.slice (some ⟨gr,0,none⟩) (m + 1) c5,crs,.slice c3 cds.length c6,cds⟩:InstQ) m r v hmr)).Nodup:=by rw [fe];exact nq
  have lw:∀ k∈instK.foot (InstQ.setR (⟨ch,.slice c1 cbs.length c4,cbs,.slice (some ⟨gr,0,none⟩) (m + 1) c5,crs,.slice c3 cds.length c6,cds⟩:InstQ) m r v hmr),w.heap.size < k∧k≠g:=fun k hk=>by rw [fe] at hk;exact low k hk
  have hn:InstQ.n (InstQ.setR (⟨ch,.slice c1 cbs.length c4,cbs,.slice (some ⟨gr,0,none⟩) (m + 1) c5,crs,.slice c3 cds.length c6,cds⟩:InstQ) m r v hmr)≤1000:=by rw [inst_ne,setR_e];show InstE.n ⟨_,_,rstR (InstQ.e _).rounds m r v,_⟩≤1000;unfold InstE.n;rw [rstR_n];exact Nat.le_trans hsm (by omega)
  clear Bx R0 hg hS oq nq low uX fe hsub
  have Bx:=Bx6
  have R0:=R06
  clear Bx6 R06
  have Rr:=R0.row #[.bool ch,.slice c1 cbs.length c4,.slice (some ⟨gr,0,none⟩) (m + 1) c5,.slice c3 cds.length c6]
  have hsr:(Tryz.prog.info? 28).map (·.size)=some (#[.bool ch,.slice c1 cbs.length c4,.slice (some ⟨gr,0,none⟩) (m + 1) c5,.slice c3 cds.length c6]:Array Value).size:=sz_inst
  have hUr:=out_row (X6) w.heap.size #[.bool ch,.slice c1 cbs.length c4,.slice (some ⟨gr,0,none⟩) (m + 1) c5,.slice c3 cds.length c6]
  have HZ:Hid (instK.own ((X6).setRow w.heap.size #[.bool ch,.slice c1 cbs.length c4,.slice (some ⟨gr,0,none⟩) (m + 1) c5,.slice c3 cds.length c6]) (InstQ.setR (⟨ch,.slice c1 cbs.length c4,cbs,.slice (some ⟨gr,0,none⟩) (m + 1) c5,crs,.slice c3 cds.length c6,cds⟩:InstQ) m r v hmr)∧Src B ((X6).setRow w.heap.size #[.bool ch,.slice c1 cbs.length c4,.slice (some ⟨gr,0,none⟩) (m + 1) c5,.slice c3 cds.length c6]) b (T + 2600)∧w.grownBy ((X6).setRow w.heap.size #[.bool ch,.slice c1 cbs.length c4,.slice (some ⟨gr,0,none⟩) (m + 1) c5,.slice c3 cds.length c6]) (some b)):=by
   refine ⟨instK.own_out ow hUr (fun k hk hk' => by simp only [List.mem_singleton] at hk';have:=lw k hk;omega),?_,?_⟩
   ·exact (sr.out hUr (by simp only [List.mem_singleton];omega) (fun k hk=>by simp only [List.mem_singleton] at hk;omega)).mono (by omega)
   ·exact grown_out (out_grown gro) hUr (fun k hk=>by simp only [List.mem_singleton] at hk;omega)
  have HQ:Hid (InstQ.n (InstQ.setR (⟨ch,.slice c1 cbs.length c4,cbs,.slice (some ⟨gr,0,none⟩) (m + 1) c5,crs,.slice c3 cds.length c6,cds⟩:InstQ) m r v hmr)≤1000∧(instK.foot (InstQ.setR (⟨ch,.slice c1 cbs.length c4,cbs,.slice (some ⟨gr,0,none⟩) (m + 1) c5,crs,.slice c3 cds.length c6,cds⟩:InstQ) m r v hmr)).Nodup∧∀ k∈instK.foot (InstQ.setR (⟨ch,.slice c1 cbs.length c4,cbs,.slice (some ⟨gr,0,none⟩) (m + 1) c5,crs,.slice c3 cds.length c6,cds⟩:InstQ) m r v hmr),w.heap.size≤k):=⟨hn,nd,fun k hk=>by have:=lw k hk;omega⟩
  obtain ⟨p0,p1,p2,p3⟩:=Bx.cel4
  clear ow nd lw hn sr gro hUr
  go_wp2_with (first | (refine st_row (by kernel_rfl) 28 _ _ rfl _ #[.bool ch,.slice c1 cbs.length c4,.slice (some ⟨gr,0,none⟩) (m + 1) c5,.slice c3 cds.length c6] rfl rfl 28 _ R0 hsr rfl (by simp [Value.oneCell']) ?_))
  obtain ⟨q0,q1,q2,q3⟩:=Rr.cel4
  exact bodyPost_ret (v:=.agg #[.bool ch,.slice c1 cbs.length c4,.slice (some ⟨gr,0,none⟩) (m + 1) c5,.slice c3 cds.length c6]) (by simp [results,Tryz.results12,go_sem,q0,q1,q2,q3]) rfl ⟨(InstQ.setR (⟨ch,.slice c1 cbs.length c4,cbs,.slice (some ⟨gr,0,none⟩) (m + 1) c5,crs,.slice c3 cds.length c6,cds⟩:InstQ) m r v hmr),rfl,HQ.out.1,HZ.out.1,HQ.out.2.1,HQ.out.2.2,HZ.out.2.1,HZ.out.2.2⟩
 ·skip
  obtain ⟨gr,rfl⟩:=oq.2.1.blkOf (by show 0 < List.length crs;omega)
  have hel:=(oq.2.1.2 _ (List.getElem_mem hmr)).2
  have h3l:(crs[m]).pro.length=3:=(hw3 m hmr).2
  obtain ⟨sa,sc,hsv⟩:=hel.shape
  rw [hsv] at hel
  obtain ⟨g5,rfl⟩:=hel.blkOf (by omega)
  rw [h3l] at hsv
  have hg5:g5∈instK.foot (⟨ch,.slice c1 cbs.length c4,cbs,.slice (some ⟨gr,0,none⟩) (m + 1) c5,crs,.slice c3 cds.length c6,cds⟩:InstQ):=List.mem_append_right _ (List.mem_append_left _ (List.mem_append_right _ (List.mem_flatMap.2 ⟨crs[m],List.getElem_mem hmr,List.mem_append_right _ (by rw [hsv,fp_int];simp)⟩)))
  have hg5l:=low g5 hg5
  have hgr:gr≠g5:=by
   intro e
   have hn2:=(List.nodup_append.1 (List.nodup_append.1 nq).2.1).1
   have hx:=(List.nodup_append.1 hn2).2.2 gr (by simp [blk,Value.ownBlock]) g5 (List.mem_flatMap.2 ⟨crs[m],List.getElem_mem hmr,List.mem_append_right _ (by rw [hsv,fp_int];simp)⟩)
   exact hx e
  have hgrf:gr∈instK.foot (⟨ch,.slice c1 cbs.length c4,cbs,.slice (some ⟨gr,0,none⟩) (m + 1) c5,crs,.slice c3 cds.length c6,cds⟩:InstQ):=List.mem_append_right _ (List.mem_append_left _ (List.mem_append_left _ (by simp [blk,Value.ownBlock])))
  have hgrl:=low gr hgrf
  have hcr:=(oq.2.1.cell m hmr 1 (.slice (some ⟨g5,0,none⟩) 3 sc) (by show ([(crs[m]).vr,(crs[m]).vp]:List Value)[1]? = _;rw [← hsv];rfl)).1
  have hcr2:X.cell? ⟨gr,m * 2 + 1,none⟩=some (.slice (some ⟨g5,0,none⟩) 3 sc):=hcr
  have pz:=lato_cell (F:=[b,g5]) (Bx.cell 2 _ rfl) (by simp only [List.mem_cons,List.not_mem_nil,or_false];omega)
  have py:=lato_cell (F:=[b,g5]) hcr2 (by simp only [List.mem_cons,List.not_mem_nil,or_false];omega)
  have hmi:(m:Int) < (m:Int) + 1:=by omega
  clear hcr hcr2 hel
  have hsub:∀ k∈[b],k∈[b,g5]:=fun k hk=>by simp only [List.mem_singleton] at hk;simp [hk]
  go_wp2_with fail
  clear hpq
  refine region_vals [some 39,some 40,some 41,some 42,some 43,some 44,some 45,some 46,some 47,some 48,some 49,some 50] (fun vs w' => ∃ (r:Nat) (v:Int) (gp:Nat),vs=[.pointer (some ⟨g,2,none⟩),.slice (some ⟨gr,0,none⟩) (m + 1) c5,.int .i64 (m:Int),.pointer (some ⟨gr,m * 2,none⟩),.pointer (some ⟨gr,m * 2 + 1,none⟩),.slice (some ⟨g5,0,none⟩) 3 sc,.pointer (some ⟨b,0,none⟩),.int .i64 (r:Int),.pointer (some ⟨b,0,none⟩),.slice (some ⟨gp,0,none⟩) 4 4,.int .i64 v,.pointer (some ⟨g5,r,none⟩)]∧b < gp∧r < 3∧instK.own w' (InstQ.setP (⟨ch,.slice c1 cbs.length c4,cbs,.slice (some ⟨gr,0,none⟩) (m + 1) c5,crs,.slice c3 cds.length c6,cds⟩:InstQ) m r v hmr)∧instK.foot (InstQ.setP (⟨ch,.slice c1 cbs.length c4,cbs,.slice (some ⟨gr,0,none⟩) (m + 1) c5,crs,.slice c3 cds.length c6,cds⟩:InstQ) m r v hmr)=instK.foot (⟨ch,.slice c1 cbs.length c4,cbs,.slice (some ⟨gr,0,none⟩) (m + 1) c5,crs,.slice c3 cds.length c6,cds⟩:InstQ)∧Src B w' b (T + 2503)∧Out [b,g5] X w') ?_ ?_
  ·have sx:Src B X.drew b (T + 2501):=hS.below ((Below.refl _ _).drew)
   have ux:Out [b] X X.drew:=Out.of_below ((Below.refl _ _).drew)
   have hnn:Nonempty (LatO [b,g5] X):=⟨⟨X,Out.refl _ _⟩⟩
   refine text_begin (S:=fun w' => ∃ u:LatO [b,g5] X,w' = u.val) (by kernel_rfl) ?_
   refine sgr [(0,7),(8,1)] 5 (by kernel_rfl) ⟨⟨_,ux.mono hsub⟩,rfl⟩ ?_
   simp only [pkE]
   repeat go_big_quiet_step (fail)
   refine wpQuiet_nil ?_
   generalize X.drew=wd at sx ux ⊢
   refine twa 7 9 4 (by kernel_rfl) ?_ ?_
   ·skip
    refine opc 7 (some 46) 22 #[.pointer (some ⟨b,0,none⟩),.int .i64 3] (by kernel_rfl) ?_
    refine (next_any B b (T + 2501) 3 _ sx (by omega) (by omega)).mono ?_
    rintro e x7 ⟨ri,rfl,hri,sn',gn⟩
    obtain ⟨r,rfl⟩:=Int.eq_ofNat_of_zero_le hri.1
    have hr3:r < 3:=by have:=hri.2.1 (by omega);omega
    replace sx:=sn'
    have un:Out [b] _ _:=Out.of_grown gn
    replace ux:=ux.trans un
    clear un gn sn' hri
    refine ⟨_,rfl,⟨⟨_,ux.mono hsub⟩,rfl⟩,?_⟩
    simp only [Act.put,pgE,pjE]
    refine ona 9 3 rfl (by kernel_rfl) ?_
    have hpk:=World.ownsRow_lit (e:=2) (size:=1) x7 #[.int .i64 0,.int .i64 1,.int .i64 2,.int .i64 3] 4 (Nat.le_refl _) (by decide) rfl
    have hgb:b < x7.heap.size:=sx.lt.2
    have hba:Below x7.heap.size x7 (x7.alloc (.cells #[.int .i64 0,.int .i64 1,.int .i64 2,.int .i64 3] 2)):=by go_grown
    replace sx:=sx.below hba
    replace ux:=ux.trans (Out.of_below hba)
    clear hba
    go_wp2
    refine ThenGo.to ⟨⟨⟨_,ux.mono hsub⟩,rfl⟩,?_⟩
    generalize hGp:x7.heap.size=gp at *
    generalize x7.alloc (.cells #[.int .i64 0,.int .i64 1,.int .i64 2,.int .i64 3] 2)=Y at *
    clear hGp
    refine cla 10 (some 49) 23 #[.pointer (some ⟨b,0,none⟩),.slice (some ⟨gp,0,none⟩) 4 4] 2 (by kernel_rfl) ?_
    refine (pick_any B b (T + 2502) gp _ [0,1,2,3] _ sx (by omega) hpk (by simp) (by simp) (by simp [Value.ownBlock];omega)).mono ?_
    rintro e x9 ⟨v,rfl,hv,sn',gn⟩
    replace sx:=sn'
    have un:Out [b] _ _:=Out.of_grown gn
    replace ux:=ux.trans un
    clear un gn sn' hpk
    refine ⟨_,rfl,⟨⟨_,ux.mono hsub⟩,rfl⟩,?_⟩
    simp only [Act.put,pgE,pjE]
    have hr3i:(r:Int) < 3:=by omega
    have hr3d:(r:Int) < (cds.length:Int):=by have:=HD3.out;omega
    refine sgr [(11,1)] 1 (by kernel_rfl) ⟨⟨_,ux.mono hsub⟩,rfl⟩ ?_
    simp only [pkE]
    repeat go_big_quiet_step (fail)
    refine wpQuiet_nil ?_
    refine ona 12 0 rfl (by kernel_rfl) ?_
    have oz:=instK.own_out oq ux (fun k hk hk' => by simp only [List.mem_singleton] at hk';have:=low k hk;omega)
    obtain ⟨g',cap',hv',_,kc,kf,own5,foot5⟩:=own_setP oz nq m r hmr (by show r < (crs[m]).pro.length;omega) v
    replace hv' : (crs[m]).vp=.slice (some ⟨g',0,none⟩) (crs[m]).pro.length cap' := hv'
    rw [hsv,h3l] at hv'
    simp only [Value.slice.injEq,Option.some.injEq,Addr.mk.injEq,and_true,true_and] at hv'
    obtain ⟨rfl,rfl⟩:=hv'
    have sz:=sx.out (Out.setCell x9 g5 r (iv v)) (by simp only [List.mem_singleton];omega) (fun k hk=>by simp only [List.mem_singleton] at hk;omega)
    have uz:Out [b,g5] X (x9.setCell ⟨g5,r,none⟩ (iv v)):=(ux.mono hsub).set (by simp)
    obtain ⟨old,kc2⟩:∃ z,x9.cell? ⟨g5,r,none⟩=some (iv z):=⟨_,kc⟩
    clear kc
    go_wp2
    refine ThenGo.to ⟨⟨⟨_,uz⟩,rfl⟩,?_⟩
    refine text_end (by kernel_rfl) ?_
    refine ⟨rfl,_,⟨r,v,gp,rfl,hgb,hr3,own5,foot5,sz,uz⟩,?_⟩
    simp only [putAll,Act.put,pgE,pjE]
    try rfl
   ·skip
    refine op_one 9 _ rfl ?_
    have hpk:=World.ownsRow_lit (e:=2) (size:=1) wd #[.int .i64 0,.int .i64 1,.int .i64 2,.int .i64 3] 4 (Nat.le_refl _) (by decide) rfl
    have hgb:b < wd.heap.size:=sx.lt.2
    have hba:Below wd.heap.size wd (wd.alloc (.cells #[.int .i64 0,.int .i64 1,.int .i64 2,.int .i64 3] 2)):=by go_grown
    replace sx:=sx.below hba
    replace ux:=ux.trans (Out.of_below hba)
    clear hba
    go_wp2
    refine ThenGo.to ⟨⟨⟨_,ux.mono hsub⟩,rfl⟩,?_⟩
    generalize hGp:wd.heap.size=gp at *
    generalize wd.alloc (.cells #[.int .i64 0,.int .i64 1,.int .i64 2,.int .i64 3] 2)=Y at *
    refine cla 7 (some 46) 22 #[.pointer (some ⟨b,0,none⟩),.int .i64 3] 3 (by kernel_rfl) ?_
    refine (next_any B b (T + 2501) 3 _ sx (by omega) (by omega)).mono ?_
    rintro e x7 ⟨ri,rfl,hri,sn',gn⟩
    obtain ⟨r,rfl⟩:=Int.eq_ofNat_of_zero_le hri.1
    have hr3:r < 3:=by have:=hri.2.1 (by omega);omega
    replace sx:=sn'
    have un:Out [b] _ _:=Out.of_grown gn
    replace ux:=ux.trans un
    replace hpk:=hpk.kept gn (Or.inr (by simp [Value.ownBlock];omega))
    clear un gn sn' hri hGp
    refine ⟨_,rfl,⟨⟨_,ux.mono hsub⟩,rfl⟩,?_⟩
    simp only [Act.put,pgE,pjE]
    refine cla 10 (some 49) 23 #[.pointer (some ⟨b,0,none⟩),.slice (some ⟨gp,0,none⟩) 4 4] 2 (by kernel_rfl) ?_
    refine (pick_any B b (T + 2502) gp _ [0,1,2,3] _ sx (by omega) hpk (by simp) (by simp) (by simp [Value.ownBlock];omega)).mono ?_
    rintro e x9 ⟨v,rfl,hv,sn',gn⟩
    replace sx:=sn'
    have un:Out [b] _ _:=Out.of_grown gn
    replace ux:=ux.trans un
    clear un gn sn' hpk
    refine ⟨_,rfl,⟨⟨_,ux.mono hsub⟩,rfl⟩,?_⟩
    simp only [Act.put,pgE,pjE]
    have hr3i:(r:Int) < 3:=by omega
    have hr3d:(r:Int) < (cds.length:Int):=by have:=HD3.out;omega
    refine sgr [(11,1)] 1 (by kernel_rfl) ⟨⟨_,ux.mono hsub⟩,rfl⟩ ?_
    simp only [pkE]
    repeat go_big_quiet_step (fail)
    refine wpQuiet_nil ?_
    refine ona 12 0 rfl (by kernel_rfl) ?_
    have oz:=instK.own_out oq ux (fun k hk hk' => by simp only [List.mem_singleton] at hk';have:=low k hk;omega)
    obtain ⟨g',cap',hv',_,kc,kf,own5,foot5⟩:=own_setP oz nq m r hmr (by show r < (crs[m]).pro.length;omega) v
    replace hv' : (crs[m]).vp=.slice (some ⟨g',0,none⟩) (crs[m]).pro.length cap' := hv'
    rw [hsv,h3l] at hv'
    simp only [Value.slice.injEq,Option.some.injEq,Addr.mk.injEq,and_true,true_and] at hv'
    obtain ⟨rfl,rfl⟩:=hv'
    have sz:=sx.out (Out.setCell x9 g5 r (iv v)) (by simp only [List.mem_singleton];omega) (fun k hk=>by simp only [List.mem_singleton] at hk;omega)
    have uz:Out [b,g5] X (x9.setCell ⟨g5,r,none⟩ (iv v)):=(ux.mono hsub).set (by simp)
    obtain ⟨old,kc2⟩:∃ z,x9.cell? ⟨g5,r,none⟩=some (iv z):=⟨_,kc⟩
    clear kc
    go_wp2
    refine ThenGo.to ⟨⟨⟨_,uz⟩,rfl⟩,?_⟩
    refine text_end (by kernel_rfl) ?_
    refine ⟨rfl,_,⟨r,v,gp,rfl,hgb,hr3,own5,foot5,sz,uz⟩,?_⟩
    simp only [putAll,Act.put,pgE,pjE]
    try rfl
  rintro vs X6 ⟨r,v,gp,rfl,_,hr3,ow,fe,sr,uX⟩
  simp only [putAll,Act.put,pjE]
  have Bx6:=Bx.outs uX (fun hk=>by simp only [List.mem_cons,List.not_mem_nil,or_false] at hk;omega)
  have R06:=R0.outs uX (fun hk=>by simp only [List.mem_cons,List.not_mem_nil,or_false] at hk;omega)
  have gro:Out [b] w X6:=⟨uX.os.trans hg.os,uX.tape.trans hg.tape,uX.output.trans hg.output,Nat.le_trans hg.size uX.size,fun k hk hne=>(uX.block k (Nat.lt_of_lt_of_le hk hg.size) (by simp only [List.mem_singleton] at hne;simp only [List.mem_cons,List.not_mem_nil,or_false];omega)).trans (hg.block k hk hne)⟩
  have nd:(instK.foot (InstQ.setP (⟨ch,.slice c1 cbs.length c4,cbs,.slice (some ⟨gr,0,none⟩) (m + 1) c5,crs,.slice c3 cds.length c6,cds⟩:InstQ) m r v hmr)).Nodup:=by rw [fe];exact nq
  have lw:∀ k∈instK.foot (InstQ.setP (⟨ch,.slice c1 cbs.length c4,cbs,.slice (some ⟨gr,0,none⟩) (m + 1) c5,crs,.slice c3 cds.length c6,cds⟩:InstQ) m r v hmr),w.heap.size < k∧k≠g:=fun k hk=>by rw [fe] at hk;exact low k hk
  have hn:InstQ.n (InstQ.setP (⟨ch,.slice c1 cbs.length c4,cbs,.slice (some ⟨gr,0,none⟩) (m + 1) c5,crs,.slice c3 cds.length c6,cds⟩:InstQ) m r v hmr)≤1000:=by rw [inst_ne,setP_e];show InstE.n ⟨_,_,rstP (InstQ.e _).rounds m r v,_⟩≤1000;unfold InstE.n;rw [rstP_n];exact Nat.le_trans hsm (by omega)
  clear Bx R0 hg hS oq nq low uX fe hsub
  have Bx:=Bx6
  have R0:=R06
  clear Bx6 R06
  have Rr:=R0.row #[.bool ch,.slice c1 cbs.length c4,.slice (some ⟨gr,0,none⟩) (m + 1) c5,.slice c3 cds.length c6]
  have hsr:(Tryz.prog.info? 28).map (·.size)=some (#[.bool ch,.slice c1 cbs.length c4,.slice (some ⟨gr,0,none⟩) (m + 1) c5,.slice c3 cds.length c6]:Array Value).size:=sz_inst
  have hUr:=out_row (X6) w.heap.size #[.bool ch,.slice c1 cbs.length c4,.slice (some ⟨gr,0,none⟩) (m + 1) c5,.slice c3 cds.length c6]
  have HZ:Hid (instK.own ((X6).setRow w.heap.size #[.bool ch,.slice c1 cbs.length c4,.slice (some ⟨gr,0,none⟩) (m + 1) c5,.slice c3 cds.length c6]) (InstQ.setP (⟨ch,.slice c1 cbs.length c4,cbs,.slice (some ⟨gr,0,none⟩) (m + 1) c5,crs,.slice c3 cds.length c6,cds⟩:InstQ) m r v hmr)∧Src B ((X6).setRow w.heap.size #[.bool ch,.slice c1 cbs.length c4,.slice (some ⟨gr,0,none⟩) (m + 1) c5,.slice c3 cds.length c6]) b (T + 2600)∧w.grownBy ((X6).setRow w.heap.size #[.bool ch,.slice c1 cbs.length c4,.slice (some ⟨gr,0,none⟩) (m + 1) c5,.slice c3 cds.length c6]) (some b)):=by
   refine ⟨instK.own_out ow hUr (fun k hk hk' => by simp only [List.mem_singleton] at hk';have:=lw k hk;omega),?_,?_⟩
   ·exact (sr.out hUr (by simp only [List.mem_singleton];omega) (fun k hk=>by simp only [List.mem_singleton] at hk;omega)).mono (by omega)
   ·exact grown_out (out_grown gro) hUr (fun k hk=>by simp only [List.mem_singleton] at hk;omega)
  have HQ:Hid (InstQ.n (InstQ.setP (⟨ch,.slice c1 cbs.length c4,cbs,.slice (some ⟨gr,0,none⟩) (m + 1) c5,crs,.slice c3 cds.length c6,cds⟩:InstQ) m r v hmr)≤1000∧(instK.foot (InstQ.setP (⟨ch,.slice c1 cbs.length c4,cbs,.slice (some ⟨gr,0,none⟩) (m + 1) c5,crs,.slice c3 cds.length c6,cds⟩:InstQ) m r v hmr)).Nodup∧∀ k∈instK.foot (InstQ.setP (⟨ch,.slice c1 cbs.length c4,cbs,.slice (some ⟨gr,0,none⟩) (m + 1) c5,crs,.slice c3 cds.length c6,cds⟩:InstQ) m r v hmr),w.heap.size≤k):=⟨hn,nd,fun k hk=>by have:=lw k hk;omega⟩
  obtain ⟨p0,p1,p2,p3⟩:=Bx.cel4
  clear ow nd lw hn sr gro hUr
  go_wp2_with (first | (refine st_row (by kernel_rfl) 28 _ _ rfl _ #[.bool ch,.slice c1 cbs.length c4,.slice (some ⟨gr,0,none⟩) (m + 1) c5,.slice c3 cds.length c6] rfl rfl 28 _ R0 hsr rfl (by simp [Value.oneCell']) ?_))
  obtain ⟨q0,q1,q2,q3⟩:=Rr.cel4
  exact bodyPost_ret (v:=.agg #[.bool ch,.slice c1 cbs.length c4,.slice (some ⟨gr,0,none⟩) (m + 1) c5,.slice c3 cds.length c6]) (by simp [results,Tryz.results12,go_sem,q0,q1,q2,q3]) rfl ⟨(InstQ.setP (⟨ch,.slice c1 cbs.length c4,cbs,.slice (some ⟨gr,0,none⟩) (m + 1) c5,crs,.slice c3 cds.length c6,cds⟩:InstQ) m r v hmr),rfl,HQ.out.1,HZ.out.1,HQ.out.2.1,HQ.out.2.2,HZ.out.2.1,HZ.out.2.2⟩
 ·skip
  have hf0:=Bx.frozen 0
  obtain ⟨y0,y1,y2,y3⟩:=Bx.cel4
  have uz:=Out.setCell X g 0 (.bool (!ch))
  have Bx3:Blk (X.setCell ⟨g,0,none⟩ (.bool (!ch))) g 28 #[.bool !ch,.slice c1 cbs.length c4,.slice c2 (m + 1) c5,.slice c3 cds.length c6]:=Bx.set 0 (.bool (!ch))
  have R03:=R0.other (b' := g) (by omega) 0 (.bool (!ch))
  have ow:instK.own (X.setCell ⟨g,0,none⟩ (.bool (!ch))) (⟨!ch,.slice c1 cbs.length c4,cbs,.slice c2 (m + 1) c5,crs,.slice c3 cds.length c6,cds⟩:InstQ):=by
   have h9:=instK.own_out oq uz (fun k hk hk' => by simp only [List.mem_singleton] at hk';have:=low k hk;omega)
   exact h9
  have nd:(instK.foot (⟨!ch,.slice c1 cbs.length c4,cbs,.slice c2 (m + 1) c5,crs,.slice c3 cds.length c6,cds⟩:InstQ)).Nodup:=nq
  have lw:∀ k∈instK.foot (⟨!ch,.slice c1 cbs.length c4,cbs,.slice c2 (m + 1) c5,crs,.slice c3 cds.length c6,cds⟩:InstQ),w.heap.size < k∧k≠g:=low
  have hn:InstQ.n (⟨!ch,.slice c1 cbs.length c4,cbs,.slice c2 (m + 1) c5,crs,.slice c3 cds.length c6,cds⟩:InstQ)≤1000:=by have h9:=hsm;rw [← inst_ne] at h9;show InstQ.n (⟨ch,.slice c1 cbs.length c4,cbs,.slice c2 (m + 1) c5,crs,.slice c3 cds.length c6,cds⟩:InstQ)≤1000;omega
  have sr:=hS.out uz (by simp only [List.mem_singleton];omega) (fun k hk=>by simp only [List.mem_singleton] at hk;omega)
  have gro:Out [b] w (X.setCell ⟨g,0,none⟩ (.bool (!ch))):=⟨uz.os.trans hg.os,uz.tape.trans hg.tape,uz.output.trans hg.output,Nat.le_trans hg.size uz.size,fun k hk hne=>(uz.block k (Nat.lt_of_lt_of_le hk hg.size) (by simp only [List.mem_singleton];omega)).trans (hg.block k hk hne)⟩
  clear Bx R0 hg hS oq nq low uz hpq
  have Bx:=Bx3
  have R0:=R03
  clear Bx3 R03
  have Rr:=R0.row #[.bool !ch,.slice c1 cbs.length c4,.slice c2 (m + 1) c5,.slice c3 cds.length c6]
  have hsr:(Tryz.prog.info? 28).map (·.size)=some (#[.bool !ch,.slice c1 cbs.length c4,.slice c2 (m + 1) c5,.slice c3 cds.length c6]:Array Value).size:=sz_inst
  have hUr:=out_row (X.setCell ⟨g,0,none⟩ (.bool (!ch))) w.heap.size #[.bool !ch,.slice c1 cbs.length c4,.slice c2 (m + 1) c5,.slice c3 cds.length c6]
  have HZ:Hid (instK.own ((X.setCell ⟨g,0,none⟩ (.bool (!ch))).setRow w.heap.size #[.bool !ch,.slice c1 cbs.length c4,.slice c2 (m + 1) c5,.slice c3 cds.length c6]) (⟨!ch,.slice c1 cbs.length c4,cbs,.slice c2 (m + 1) c5,crs,.slice c3 cds.length c6,cds⟩:InstQ)∧Src B ((X.setCell ⟨g,0,none⟩ (.bool (!ch))).setRow w.heap.size #[.bool !ch,.slice c1 cbs.length c4,.slice c2 (m + 1) c5,.slice c3 cds.length c6]) b (T + 2600)∧w.grownBy ((X.setCell ⟨g,0,none⟩ (.bool (!ch))).setRow w.heap.size #[.bool !ch,.slice c1 cbs.length c4,.slice c2 (m + 1) c5,.slice c3 cds.length c6]) (some b)):=by
   refine ⟨instK.own_out ow hUr (fun k hk hk' => by simp only [List.mem_singleton] at hk';have:=lw k hk;omega),?_,?_⟩
   ·exact (sr.out hUr (by simp only [List.mem_singleton];omega) (fun k hk=>by simp only [List.mem_singleton] at hk;omega)).mono (by omega)
   ·exact grown_out (out_grown gro) hUr (fun k hk=>by simp only [List.mem_singleton] at hk;omega)
  have HQ:Hid (InstQ.n (⟨!ch,.slice c1 cbs.length c4,cbs,.slice c2 (m + 1) c5,crs,.slice c3 cds.length c6,cds⟩:InstQ)≤1000∧(instK.foot (⟨!ch,.slice c1 cbs.length c4,cbs,.slice c2 (m + 1) c5,crs,.slice c3 cds.length c6,cds⟩:InstQ)).Nodup∧∀ k∈instK.foot (⟨!ch,.slice c1 cbs.length c4,cbs,.slice c2 (m + 1) c5,crs,.slice c3 cds.length c6,cds⟩:InstQ),w.heap.size≤k):=⟨hn,nd,fun k hk=>by have:=lw k hk;omega⟩
  obtain ⟨p0,p1,p2,p3⟩:=Bx.cel4
  clear ow nd lw hn sr gro hUr
  go_wp2_with (first | (refine st_row (by kernel_rfl) 28 _ _ rfl _ #[.bool !ch,.slice c1 cbs.length c4,.slice c2 (m + 1) c5,.slice c3 cds.length c6] rfl rfl 28 _ R0 hsr rfl (by simp [Value.oneCell']) ?_))
  obtain ⟨q0,q1,q2,q3⟩:=Rr.cel4
  exact bodyPost_ret (v:=.agg #[.bool !ch,.slice c1 cbs.length c4,.slice c2 (m + 1) c5,.slice c3 cds.length c6]) (by simp [results,Tryz.results12,go_sem,q0,q1,q2,q3]) rfl ⟨(⟨!ch,.slice c1 cbs.length c4,cbs,.slice c2 (m + 1) c5,crs,.slice c3 cds.length c6,cds⟩:InstQ),rfl,HQ.out.1,HZ.out.1,HQ.out.2.1,HQ.out.2.2,HZ.out.2.1,HZ.out.2.2⟩
 ·skip
  have hgX:=Bx.lt
  have hcb:cbs.length≤60:=by
   have h9:=hsm
   rw [← inst_ne] at h9
   dsimp only [InstQ.n] at h9
   omega
  have hB1:∀ k∈txnK.fp (.slice c1 cbs.length c4) cbs,w.heap.size < k∧k≠g:=fun k hk=>low k (List.mem_append_left _ hk)
  obtain ⟨hn1,hn23,hd1⟩:=List.nodup_append.1 nq
  obtain ⟨oT,oR,oD⟩:=oq
  dsimp only at oT oR oD
  have hFg:g ∉ blk (.slice c1 cbs.length c4):=fun hx=>(hB1 g (by simp only [Kind.fp,List.mem_append];exact Or.inl hx)).2 rfl
  have HF:Hid (∀ x∈txnK.fp (.slice c1 cbs.length c4) cbs,x < X.heap.size):=oT.lt
  have TR:=oR.lt
  have TD:=oD.lt
  have m0:=lato_cell (F:=b :: blk (.slice c1 cbs.length c4)) (Bx.cell 1 _ rfl) (by intro hx;rcases List.mem_cons.1 hx with hx | hx;omega;exact hFg hx)
  have hnn:Nonempty (LatO (b :: blk (.slice c1 cbs.length c4)) X):=⟨⟨X,Out.refl _ _⟩⟩
  have sx:Src B X.drew b (T + 2501):=hS.below ((Below.refl _ _).drew)
  have ux:Out [b] X X.drew:=Out.of_below ((Below.refl _ _).drew)
  have hnw:∀ w',Out [b] X w' → ∃ u:LatO (b :: blk (.slice c1 cbs.length c4)) X,w' = u.val:=fun w' hw' => ⟨⟨w',hw'.mono (fun k hk=>by simp only [List.mem_singleton] at hk;rw [hk];exact List.mem_cons_self ..)⟩,rfl⟩
  obtain ⟨i0,hi0,hz0,hz1,hz2⟩:=info_parts infoTxn
  go_wp2_with fail
  clear hpq
  refine beginX (S:=fun w' => ∃ u:LatO (b :: blk (.slice c1 cbs.length c4)) X,w' = u.val) (R:=fun _ _=>False) 7 (by kernel_rfl) (fun _ _ _ _ h=>h.elim) ?_
  refine sgX [(0,3)] 5 (by kernel_rfl) (hnw _ ux) ?_
  simp only [pkE]
  repeat go_big_quiet_step (fail)
  refine wpQuiet_nil ?_
  generalize X.drew=wd at sx ux ⊢
  refine clX 3 (some 62) 24 #[.pointer (some ⟨b,0,none⟩)] 4 (by kernel_rfl) rfl ?_
  refine (l2Bent_any B b (T + 2501) wd sx (by omega)).mono ?_
  rintro e x7 ⟨ti,ts,tq,ta,tc,txs,rfl,hx5,hot,sn',gn⟩
  obtain ⟨oA,gA⟩:=own_acts hot
  have hwd:=ux.size
  replace sx:=sn'
  have un:Out [b] _ _:=Out.of_grown gn
  replace ux:=ux.trans un
  clear un gn sn' hot
  refine Or.inl ⟨_,rfl,hnw _ ux,?_⟩
  simp only [Act.put,pgE,pjE]
  refine onX 4 3 rfl (by kernel_rfl) ?_
  have hbA:Below x7.heap.size x7 (x7.alloc (.cells #[.int .i64 ti,.int .i64 ts,.int .i64 tq,.slice ta txs.length tc] 62)):=by go_grown
  have hsrc:∀ j u,[Value.int .i64 ti,.int .i64 ts,.int .i64 tq,.slice ta txs.length tc][j]? = some u→(x7.alloc (.cells #[.int .i64 ti,.int .i64 ts,.int .i64 tq,.slice ta txs.length tc] 62)).cell? ((⟨x7.heap.size,0,none⟩:Addr).add j)=some u:=by
   intro j u hj;match j,hj with | 0,hj=>simp at hj;subst hj;simp [Addr.add] | 1,hj=>simp at hj;subst hj;simp [Addr.add] | 2,hj=>simp at hj;subst hj;simp [Addr.add] | 3,hj=>simp at hj;subst hj;simp [Addr.add]
  replace sx:=sx.below hbA
  replace ux:=ux.trans (Out.of_below hbA)
  replace oA:=oA.below hbA
  go_wp2
  refine ThenX.to ⟨Or.inr (hnw _ ux),?_⟩
  generalize x7.alloc (.cells #[.int .i64 ti,.int .i64 ts,.int .i64 tq,.slice ta txs.length tc] 62)=Z at *
  clear hbA
  have oT7:=oT.out ux (fun k hk hk' => by simp only [List.mem_singleton] at hk';have:=hB1 k hk;omega)
  have hrow0:=oT7.1
  refine onX 5 2 rfl (by kernel_rfl) ?_
  refine wpList_append_own_at _ rfl _ _ 24 rfl 0 62 i0 (.agg #[.int .i64 0,.int .i64 0,.int .i64 0,.slice none 0 0]) 4 48 Tryz.underlying24 hi0 hz0 hz1 hz2 rfl (by decide) _ cbs.length (txnK.row cbs) rfl hrow0 ⟨x7.heap.size,0,none⟩ 1 1 [.int .i64 ti,.int .i64 ts,.int .i64 tq,.slice ta txs.length tc] rfl rfl hsrc ?c2 ?c3 ?c4 ?c5 ?_
  case c2=>intro u hu;simp at hu;rcases hu with rfl | rfl | rfl | rfl <;> rfl
  case c3=>unfold maxLen;omega
  case c4=>omega
  case c5=>omega
  intro v' x8 hown hgrow hnil hat
  clear hnil hrow0 hsrc
  have hZ7:=ux.size
  obtain ⟨hO5,hn5,hlo5,hou⟩:=oT7.snoc (p:=(⟨ti,ts,tq,.slice ta txs.length tc,txs⟩:TxnQ)) (B:=w.heap.size + 1) hn1 (fun k hk=>by have:=hB1 k hk;omega) oA (by show (actK.fp _ _).Nodup;rw [actK_fpv];exact blk_nodup _) (fun x hx hx' => by
   have h1:=gA x hx
   have h2:=HF.out x hx'
   omega) (fun x hx=>by have:=gA x hx;omega) (by omega) hown hgrow hat
  have hft:∀ k∈txnK.fp v' (cbs ++ [(⟨ti,ts,tq,.slice ta txs.length tc,txs⟩:TxnQ)]),k∈txnK.fp (.slice c1 cbs.length c4) cbs∨X.heap.size≤k:=by
   intro k hk
   unfold Kind.fp at hk ⊢
   rw [List.flatMap_append] at hk
   rcases List.mem_append.1 hk with hk | hk
   ·rcases hat with hat | hat
    ·left
     apply List.mem_append_left
     unfold blk at hk ⊢
     rw [hat] at hk
     exact hk
    ·right
     unfold blk at hk
     rw [hat] at hk
     simp only [Option.toList,List.mem_singleton] at hk
     omega
   ·rcases List.mem_append.1 hk with hk | hk
    ·left
     exact List.mem_append_right _ hk
    ·right
     have hk' : k∈txnK.foot (⟨ti,ts,tq,.slice ta txs.length tc,txs⟩:TxnQ):=by simpa using hk
     have:=gA k hk'
     omega
  obtain ⟨na,nc,rfl⟩:=hO5.shape
  have hoB:∀ x∈blk (.slice c1 cbs.length c4),x∈txnK.fp (.slice c1 cbs.length c4) cbs:=fun x hx=>by simp only [Kind.fp,List.mem_append];exact Or.inl hx
  have u8:Out (b :: blk (.slice c1 cbs.length c4)) X x8:=(ux.mono (fun k hk=>by simp only [List.mem_singleton] at hk;rw [hk];exact List.mem_cons_self ..)).trans (hou.mono (fun k hk=>List.mem_cons_of_mem _ hk))
  have Bg5:=Bx.outs u8 (fun hx=>by rcases List.mem_cons.1 hx with hx | hx;omega;exact hFg hx)
  have R05:=R0.outs u8 (fun hx=>by rcases List.mem_cons.1 hx with hx | hx;omega;have:=hB1 _ (hoB _ hx);omega)
  have oR5:=oR.out u8 (fun k hk hx=>by rcases List.mem_cons.1 hx with hx | hx;(have:=low k (List.mem_append_right _ (List.mem_append_left _ hk));omega);exact hd1 k (hoB k hx) k (List.mem_append_left _ hk) rfl)
  have oD5:=oD.out u8 (fun k hk hx=>by rcases List.mem_cons.1 hx with hx | hx;(have:=low k (List.mem_append_right _ (List.mem_append_right _ hk));omega);exact hd1 k (hoB k hx) k (List.mem_append_right _ hk) rfl)
  have s8:=sx.out hou (fun hx=>by have:=hB1 b (hoB b hx);omega) (fun k hk=>by have:=hB1 k (hoB k hk);omega)
  have lwN:∀ k∈txnK.fp (.slice na (cbs ++ [(⟨ti,ts,tq,.slice ta txs.length tc,txs⟩:TxnQ)]).length nc) (cbs ++ [(⟨ti,ts,tq,.slice ta txs.length tc,txs⟩:TxnQ)]),w.heap.size < k∧k≠g:=fun k hk=>by
   rcases hft k hk with h | h
   ·exact hB1 k h
   ·omega
  have ndN:(instK.foot (⟨ch,.slice na (cbs ++ [(⟨ti,ts,tq,.slice ta txs.length tc,txs⟩:TxnQ)]).length nc,(cbs ++ [(⟨ti,ts,tq,.slice ta txs.length tc,txs⟩:TxnQ)]),.slice c2 (m + 1) c5,crs,.slice c3 cds.length c6,cds⟩:InstQ)).Nodup:=by
   refine List.nodup_append.2 ⟨hn5,hn23,fun x hx y hy e=>?_⟩
   subst e
   rcases hft x hx with h | h
   ·exact hd1 x h x hy rfl
   ·rcases List.mem_append.1 hy with hy | hy
    ·have:=TR x hy;omega
    ·have:=TD x hy;omega
  have hnN:InstQ.n (⟨ch,.slice na (cbs ++ [(⟨ti,ts,tq,.slice ta txs.length tc,txs⟩:TxnQ)]).length nc,(cbs ++ [(⟨ti,ts,tq,.slice ta txs.length tc,txs⟩:TxnQ)]),.slice c2 (m + 1) c5,crs,.slice c3 cds.length c6,cds⟩:InstQ)≤1000:=by
   have h9:=hsm
   rw [← inst_ne] at h9
   dsimp only [InstQ.n] at h9 ⊢
   have hS9:nmL TxnQ.n (cbs ++ [(⟨ti,ts,tq,.slice ta txs.length tc,txs⟩:TxnQ)])=nmL TxnQ.n cbs + txs.length:=by simp [nmL,TxnQ.n]
   rw [hS9,List.length_append,List.length_singleton]
   omega
  clear hou oA gA hown hgrow hat oT7 m0 HF hft hn5 hlo5 ux sx oT oR oD
  generalize hKS:cbs ++ [(⟨ti,ts,tq,.slice ta txs.length tc,txs⟩:TxnQ)]=ks at *
  clear hKS
  go_wp2
  refine ThenX.to ⟨Or.inr ⟨⟨_,u8⟩,rfl⟩,?_⟩
  simp only [Act.put,pgE,pjE]
  refine onX 6 1 rfl (by kernel_rfl) ?_
  go_wp2
  refine ThenX.to ⟨Or.inr ⟨⟨_,u8⟩,rfl⟩,?_⟩
  refine onX 7 0 rfl (by kernel_rfl) ?_
  have t3:=Bg5.cell 1 _ rfl
  have t4:=Bg5.frozen 1
  have Bx6:Blk (x8.setCell ⟨g,1,none⟩ (.slice na ks.length nc)) g 28 #[.bool ch,.slice na ks.length nc,.slice c2 (m + 1) c5,.slice c3 cds.length c6]:=Bg5.set 1 (.slice na ks.length nc)
  have U6:=Out.setCell x8 g 1 (.slice na ks.length nc)
  have R06:=R05.outs U6 (fun hk=>by simp only [List.mem_singleton] at hk;omega)
  have ow:instK.own (x8.setCell ⟨g,1,none⟩ (.slice na ks.length nc)) (⟨ch,.slice na ks.length nc,ks,.slice c2 (m + 1) c5,crs,.slice c3 cds.length c6,cds⟩:InstQ):=⟨hO5.out U6 (fun k hk hk' => by simp only [List.mem_singleton] at hk';have:=lwN k hk;omega),oR5.out U6 (fun k hk hk' => by simp only [List.mem_singleton] at hk';have:=low k (List.mem_append_right _ (List.mem_append_left _ hk));omega),oD5.out U6 (fun k hk hk' => by simp only [List.mem_singleton] at hk';have:=low k (List.mem_append_right _ (List.mem_append_right _ hk));omega)⟩
  have sr:=s8.out U6 (by simp only [List.mem_singleton];omega) (fun k hk=>by simp only [List.mem_singleton] at hk;omega)
  have gro:Out [b] w (x8.setCell ⟨g,1,none⟩ (.slice na ks.length nc)):=⟨U6.os.trans (u8.os.trans hg.os),U6.tape.trans (u8.tape.trans hg.tape),U6.output.trans (u8.output.trans hg.output),Nat.le_trans hg.size (Nat.le_trans u8.size U6.size),fun k hk hne=>(U6.block k (Nat.lt_of_lt_of_le hk (Nat.le_trans hg.size u8.size)) (by simp only [List.mem_singleton];omega)).trans ((u8.block k (Nat.lt_of_lt_of_le hk hg.size) (fun hx=>by rcases List.mem_cons.1 hx with hx | hx;(exact hne (by rw [hx];simp));have:=hB1 k (hoB k hx);omega)).trans (hg.block k hk hne))⟩
  have lw:∀ k∈instK.foot (⟨ch,.slice na ks.length nc,ks,.slice c2 (m + 1) c5,crs,.slice c3 cds.length c6,cds⟩:InstQ),w.heap.size < k∧k≠g:=fun k hk=>by
   rcases List.mem_append.1 hk with hk | hk
   ·exact lwN k hk
   ·exact low k (List.mem_append_right _ hk)
  have nd:=ndN
  have hn:=hnN
  clear Bx R0 Bg5 R05 oR5 oD5 s8 U6 hO5 lwN ndN hnN low hg hS hB1 hoB hn1 hn23 hd1 nq TR TD
  go_wp2
  refine ThenX.to ⟨Or.inl (by kernel_rfl),?_⟩
  refine endX (by kernel_rfl) ?_
  clear t3 t4 u8 hnn hnw hFg
  generalize x8.setCell ⟨g,1,none⟩ (.slice na ks.length nc)=X6 at *
  have Bx:=Bx6
  have R0:=R06
  clear Bx6 R06
  have Rr:=R0.row #[.bool ch,.slice na ks.length nc,.slice c2 (m + 1) c5,.slice c3 cds.length c6]
  have hsr:(Tryz.prog.info? 28).map (·.size)=some (#[.bool ch,.slice na ks.length nc,.slice c2 (m + 1) c5,.slice c3 cds.length c6]:Array Value).size:=sz_inst
  have hUr:=out_row (X6) w.heap.size #[.bool ch,.slice na ks.length nc,.slice c2 (m + 1) c5,.slice c3 cds.length c6]
  have HZ:Hid (instK.own ((X6).setRow w.heap.size #[.bool ch,.slice na ks.length nc,.slice c2 (m + 1) c5,.slice c3 cds.length c6]) (⟨ch,.slice na ks.length nc,ks,.slice c2 (m + 1) c5,crs,.slice c3 cds.length c6,cds⟩:InstQ)∧Src B ((X6).setRow w.heap.size #[.bool ch,.slice na ks.length nc,.slice c2 (m + 1) c5,.slice c3 cds.length c6]) b (T + 2600)∧w.grownBy ((X6).setRow w.heap.size #[.bool ch,.slice na ks.length nc,.slice c2 (m + 1) c5,.slice c3 cds.length c6]) (some b)):=by
   refine ⟨instK.own_out ow hUr (fun k hk hk' => by simp only [List.mem_singleton] at hk';have:=lw k hk;omega),?_,?_⟩
   ·exact (sr.out hUr (by simp only [List.mem_singleton];omega) (fun k hk=>by simp only [List.mem_singleton] at hk;omega)).mono (by omega)
   ·exact grown_out (out_grown gro) hUr (fun k hk=>by simp only [List.mem_singleton] at hk;omega)
  have HQ:Hid (InstQ.n (⟨ch,.slice na ks.length nc,ks,.slice c2 (m + 1) c5,crs,.slice c3 cds.length c6,cds⟩:InstQ)≤1000∧(instK.foot (⟨ch,.slice na ks.length nc,ks,.slice c2 (m + 1) c5,crs,.slice c3 cds.length c6,cds⟩:InstQ)).Nodup∧∀ k∈instK.foot (⟨ch,.slice na ks.length nc,ks,.slice c2 (m + 1) c5,crs,.slice c3 cds.length c6,cds⟩:InstQ),w.heap.size≤k):=⟨hn,nd,fun k hk=>by have:=lw k hk;omega⟩
  obtain ⟨p0,p1,p2,p3⟩:=Bx.cel4
  clear ow nd lw hn sr gro hUr
  go_wp2_with (first | (refine st_row (by kernel_rfl) 28 _ _ rfl _ #[.bool ch,.slice na ks.length nc,.slice c2 (m + 1) c5,.slice c3 cds.length c6] rfl rfl 28 _ R0 hsr rfl (by simp [Value.oneCell']) ?_))
  obtain ⟨q0,q1,q2,q3⟩:=Rr.cel4
  exact bodyPost_ret (v:=.agg #[.bool ch,.slice na ks.length nc,.slice c2 (m + 1) c5,.slice c3 cds.length c6]) (by simp [results,Tryz.results12,go_sem,q0,q1,q2,q3]) rfl ⟨(⟨ch,.slice na ks.length nc,ks,.slice c2 (m + 1) c5,crs,.slice c3 cds.length c6,cds⟩:InstQ),rfl,HQ.out.1,HZ.out.1,HQ.out.2.1,HQ.out.2.2,HZ.out.2.1,HZ.out.2.2⟩
 ·skip
  have z0:((sn:Int) == 0)=false:=by simp;omega
  have z1:((sn:Int) == 1)=false:=by simp;omega
  have z2:((sn:Int) == 2)=false:=by simp;omega
  have z3:((sn:Int) == 3)=false:=by simp;omega
  have z4:((sn:Int) == 4)=false:=by simp;omega
  have ow:=oq
  have nd:=nq
  have lw:=low
  have hn:InstQ.n (⟨ch,.slice c1 cbs.length c4,cbs,.slice c2 (m + 1) c5,crs,.slice c3 cds.length c6,cds⟩:InstQ)≤1000:=by have h9:=hsm;rw [← inst_ne] at h9;omega
  have sr:=hS
  have gro:=hg
  clear oq nq low hS hg hpq hge
  have Rr:=R0.row #[.bool ch,.slice c1 cbs.length c4,.slice c2 (m + 1) c5,.slice c3 cds.length c6]
  have hsr:(Tryz.prog.info? 28).map (·.size)=some (#[.bool ch,.slice c1 cbs.length c4,.slice c2 (m + 1) c5,.slice c3 cds.length c6]:Array Value).size:=sz_inst
  have hUr:=out_row (X) w.heap.size #[.bool ch,.slice c1 cbs.length c4,.slice c2 (m + 1) c5,.slice c3 cds.length c6]
  have HZ:Hid (instK.own ((X).setRow w.heap.size #[.bool ch,.slice c1 cbs.length c4,.slice c2 (m + 1) c5,.slice c3 cds.length c6]) (⟨ch,.slice c1 cbs.length c4,cbs,.slice c2 (m + 1) c5,crs,.slice c3 cds.length c6,cds⟩:InstQ)∧Src B ((X).setRow w.heap.size #[.bool ch,.slice c1 cbs.length c4,.slice c2 (m + 1) c5,.slice c3 cds.length c6]) b (T + 2600)∧w.grownBy ((X).setRow w.heap.size #[.bool ch,.slice c1 cbs.length c4,.slice c2 (m + 1) c5,.slice c3 cds.length c6]) (some b)):=by
   refine ⟨instK.own_out ow hUr (fun k hk hk' => by simp only [List.mem_singleton] at hk';have:=lw k hk;omega),?_,?_⟩
   ·exact (sr.out hUr (by simp only [List.mem_singleton];omega) (fun k hk=>by simp only [List.mem_singleton] at hk;omega)).mono (by omega)
   ·exact grown_out (out_grown gro) hUr (fun k hk=>by simp only [List.mem_singleton] at hk;omega)
  have HQ:Hid (InstQ.n (⟨ch,.slice c1 cbs.length c4,cbs,.slice c2 (m + 1) c5,crs,.slice c3 cds.length c6,cds⟩:InstQ)≤1000∧(instK.foot (⟨ch,.slice c1 cbs.length c4,cbs,.slice c2 (m + 1) c5,crs,.slice c3 cds.length c6,cds⟩:InstQ)).Nodup∧∀ k∈instK.foot (⟨ch,.slice c1 cbs.length c4,cbs,.slice c2 (m + 1) c5,crs,.slice c3 cds.length c6,cds⟩:InstQ),w.heap.size≤k):=⟨hn,nd,fun k hk=>by have:=lw k hk;omega⟩
  obtain ⟨p0,p1,p2,p3⟩:=Bx.cel4
  clear ow nd lw hn sr gro hUr
  go_wp2_with (first | (refine st_row (by kernel_rfl) 28 _ _ rfl _ #[.bool ch,.slice c1 cbs.length c4,.slice c2 (m + 1) c5,.slice c3 cds.length c6] rfl rfl 28 _ R0 hsr rfl (by simp [Value.oneCell']) ?_))
  obtain ⟨q0,q1,q2,q3⟩:=Rr.cel4
  exact bodyPost_ret (v:=.agg #[.bool ch,.slice c1 cbs.length c4,.slice c2 (m + 1) c5,.slice c3 cds.length c6]) (by simp [results,Tryz.results12,go_sem,q0,q1,q2,q3]) rfl ⟨(⟨ch,.slice c1 cbs.length c4,cbs,.slice c2 (m + 1) c5,crs,.slice c3 cds.length c6,cds⟩:InstQ),rfl,HQ.out.1,HZ.out.1,HQ.out.2.1,HQ.out.2.2,HZ.out.2.1,HZ.out.2.2⟩

end Go.Proofs.YtnnenkoeklabpaaGreatDoor
namespace Go.Proofs.YtnnenkoeklabpaaGreatDoor
open Go.RowKit
open Go.BigFrame
set_option maxRecDepth 100000
/-- No round has both 0 and 1 proposed, no two values are decided, and there is no fault. -/
def splR (r:RoundE):Bool:=both r.pro

def safE (x:InstE):Bool:=(insF x == 0) && !(x.rounds.any splR) && !both x.dec

theorem idx_cnt {L:List Int} (h:L.length=3) (v:Int):decide (0≤idxI L v)=decide (0 < cnt 7 L v):=by
 obtain ⟨x,y,z,rfl⟩:=three h
 rw [cnt7]
 have s1:∀ q r,0 < sum3 true q r:=by intro q r;cases q <;> cases r <;> decide
 have s2:∀ p r,0 < sum3 p true r:=by intro p r;cases p <;> cases r <;> decide
 have s3:∀ p q,0 < sum3 p q true:=by intro p q;cases p <;> cases q <;> decide
 have s0:¬ 0 < sum3 false false false:=by decide
 by_cases hm:v∈[x,y,z]
 ·have h1:0≤idxI [x,y,z] v:=idxI_in hm
  rw [decide_eq_true h1]
  symm
  apply decide_eq_true
  simp only [List.mem_cons,List.not_mem_nil,or_false] at hm
  simp only [List.getD_cons_zero,List.getD_cons_succ]
  rcases hm with rfl | rfl | rfl
  ·rw [beq_self_eq_true];exact s1 _ _
  ·rw [beq_self_eq_true];exact s2 _ _
  ·rw [beq_self_eq_true];exact s3 _ _
 ·have h1:idxI [x,y,z] v=-1:=idxI_out hm
  rw [h1]
  have h2:¬ (0:Int)≤-1:=by decide
  rw [decide_eq_false h2]
  symm
  apply decide_eq_false
  simp only [List.mem_cons,List.not_mem_nil,or_false,not_or] at hm
  obtain ⟨a1,a2,a3⟩:=hm
  simp only [List.getD_cons_zero,List.getD_cons_succ]
  have e1:(x == v)=false:=by simpa using fun e=>a1 e.symm
  have e2:(y == v)=false:=by simpa using fun e=>a2 e.symm
  have e3:(z == v)=false:=by simpa using fun e=>a3 e.symm
  rw [e1,e2,e3]
  exact s0

set_option maxHeartbeats 1000000 in
theorem contains_any (a:Option Addr) (cap:Nat) (L:List Int) (x:Int) (w:World) (h:Row .i64 w a L) (hl:L.length≤1048576) :
  Calls Tryz.prog 30 #[.slice a L.length cap,.int .i64 x] w fun e w' => e=.returned (.bool (decide (0≤idxI L x)))∧Below w.heap.size w w' := by
 have hq:=index_any a cap L x w h hl
 generalize idxI L x=r at *
 go_enter Tryz.func30,Tryz.ntmps30
 go_wp2_with fail
 refine hq.mono ?_
 rintro e w2 ⟨rfl,rfl⟩
 clear hq
 by_cases h0:0≤r
 ·go_wp2
  go_ret
  exact ⟨by simp [h0],Below.refl _ _⟩
 ·go_wp2
  go_ret
  exact ⟨by simp [h0],Below.refl _ _⟩

set_option maxHeartbeats 1000000 in
theorem hasBoth_any (a:Option Addr) (cap:Nat) (zs:List Int) (w:World) (h:Row .i64 w a zs) (hl:zs.length=3) :
  Calls Tryz.prog 17 #[.slice a 3 cap] w fun e w' => e=.returned (.bool (both zs))∧Below w.heap.size w w' := by
 have hc0:=contains_any a cap zs 0 w h (by omega)
 have hc1:=fun w h=>contains_any a cap zs 1 w h (by omega)
 unfold both
 rw [← idx_cnt hl 0,← idx_cnt hl 1]
 rw [hl] at hc0 hc1
 generalize decide (0≤idxI zs 0)=z at *
 generalize decide (0≤idxI zs 1)=o at *
 cases z with
 | true=>
  go_enter Tryz.func17,Tryz.ntmps17
  go_wp2_with fail
  refine hc0.mono ?_
  rintro e w1 ⟨rfl,b1⟩
  have h1:=hc1 w1 (h.below b1)
  clear hc0 hc1
  go_wp2_with fail
  refine h1.mono ?_
  rintro e w2 ⟨rfl,b2⟩
  replace b2:=b1.trans (b2.mono b1.size)
  clear h1
  go_wp2
  go_ret
  exact ⟨by simp,b2⟩
 | false=>
  clear hc1
  go_enter Tryz.func17,Tryz.ntmps17
  go_wp2_with fail
  refine hc0.mono ?_
  rintro e w1 ⟨rfl,b1⟩
  clear hc0
  go_wp2
  go_ret
  exact ⟨by simp,b1⟩

set_option maxHeartbeats 1000000 in
theorem isSplit_any (a a' : Option Addr) (n cap cap' : Nat) (zs:List Int) (w:World) (h:Row .i64 w a zs) (hl:zs.length=3) :
  Calls Tryz.prog 16 #[.agg #[.slice a' n cap',.slice a 3 cap]] w fun e w' => e=.returned (.bool (both zs))∧Below w.heap.size w w' := by
 have hB:Below w.heap.size w (w.alloc (.cells #[.slice a' n cap',.slice a 3 cap] 51)):=by go_grown
 have hq:=hasBoth_any a cap zs _ (h.below hB) hl
 generalize both zs=E at *
 go_enter Tryz.func16,Tryz.ntmps16
 go_wp2_with fail
 refine hq.mono ?_
 rintro e w2 ⟨rfl,hb⟩
 replace hb:=hB.trans (hb.mono hB.size)
 go_wp2
 go_ret
 exact ⟨rfl,hb⟩

theorem spl_yes (rs:List RoundQ) (k:Nat) (hk:k < rs.length) (h:both rs[k].pro=true):(rs.map RoundQ.e).any splR=true:=by
 rw [List.any_eq_true]
 exact ⟨_,List.mem_map_of_mem (List.getElem_mem hk),h⟩

theorem spl_no (rs:List RoundQ) (h:∀ j,(hj:j < rs.length)→both rs[j].pro=false):(rs.map RoundQ.e).any splR=false:=by
 rw [List.any_eq_false]
 intro r hr
 obtain ⟨q,hq,rfl⟩:=List.mem_map.1 hr
 obtain ⟨j,hj,rfl⟩:=List.getElem_of_mem hq
 have:=h j hj
 simp only [splR,RoundQ.e]
 rw [this]
 decide

set_option maxHeartbeats 2000000 in
theorem indexFuncR_any (a:Option Addr) (cap:Nat) (ps:List RoundQ) (w:World) (h:roundK.At w (.slice a ps.length cap) ps) (hl:ps.length≤1048576) (hF:rndsF (ps.map RoundQ.e)=0) :
  Calls Tryz.prog 29 #[.slice a ps.length cap,.func (.func 16) #[] #[]] w fun e w' => ∃ r:Int,e=.returned (.int .i64 r)∧((ps.map RoundQ.e).any splR=true→0≤r)∧((ps.map RoundQ.e).any splR=false→r < 0)∧Below w.heap.size w w' := by
 have HE:Hid (∀ k (hk:k < ps.length),both ps[k].pro=true→(ps.map RoundQ.e).any splR=true):=fun k hk h1=>spl_yes ps k hk h1
 have HG:Hid ((∀ j,(hj:j < ps.length)→both ps[j].pro=false)→(ps.map RoundQ.e).any splR=false):=fun h=>spl_no ps h
 generalize (ps.map RoundQ.e).any splR=E at *
 go_enter Tryz.func29,Tryz.ntmps29
 go_wp2
 go_loopw [8] (fun j wr=>∃ k:Nat,k≤ps.length∧j=.int .i64 k∧Below w.heap.size w wr∧Hid (∀ j,(hj:j < ps.length)→j < k→both ps[j].pro=false)) (fun j _=>ps.length - (intOf j).toNat)
 case atStart=>exact ⟨0,Nat.zero_le _,rfl,Below.refl _ _,fun j hj hk=>absurd hk (Nat.not_lt_zero _)⟩
 case round=>
  obtain ⟨k,hk,rfl,hb,HA⟩:=hrel
  by_cases hlt:k < ps.length
  ·obtain ⟨b',off,rfl,hbs,hc,hrd⟩:=(h.below hb).cell (by decide) k hlt
   have hc' : ∀ j x,(roundK.cells ps[k])[j]? = some x→wr.cell? ⟨b',off + k * 2 + j,none⟩=some x:=hc
   have c0:=hc' 0 (ps[k].vr) rfl
   have c1:=hc' 1 (ps[k].vp) rfl
   rw [Nat.add_zero] at c0
   have HY:Hid (both ps[k].pro=true→E=true):=HE.out k hlt
   have HN:Hid (both ps[k].pro=false→∀ j,(hj:j < ps.length)→j < k + 1→both ps[j].pro=false):=by
    intro h0 j hj hjk
    by_cases e:j=k
    ·subst e;exact h0
    ·exact HA.out j hj (by omega)
   have hv2:=(rndsF_at hF k (by rw [List.length_map];exact hlt)).2
   rw [rnd_at ps k hlt] at hv2
   have hv2:vf ps[k].pro 2=0:=hv2
   have hA2:intK.At wr ps[k].vp ps[k].pro:=hrd.2
   have hA1:intK.At wr ps[k].vr ps[k].rep:=hrd.1
   clear HA hc hc' hrd
   generalize ps[k].vp=qw at *
   generalize ps[k].pro=qp at *
   generalize ps[k].vr=qv at *
   generalize ps[k].rep=qr at *
   obtain ⟨ra,rc,rfl⟩:=hA1.shape
   obtain ⟨pa,pc,pb,po,rfl,hpa,pcell,pRow⟩:=vf_row hA2 hv2 0 (by omega)
   subst hpa
   have hq:=isSplit_any (some ⟨pb,po,none⟩) ra qr.length pc rc qp wr pRow (vf_len hv2)
   generalize both qp=S at *
   clear hA1 hA2 hv2 pcell pRow
   have hlti:(k:Int) < (ps.length:Int):=by omega
   go_wp2_with fail
   refine hq.mono ?_
   rintro e w2 ⟨rfl,hb2⟩
   replace hb:=hb.trans (hb2.mono hb.size)
   clear hq c0 c1 hb2 hbs
   cases S with
   | true=>
    have E1:Hid (E=true):=HY.out rfl
    clear HY HN
    go_wp2
    go_ret
    refine ⟨_,rfl,fun _=>by omega,fun h0=>?_,hb⟩
    rw [E1.out] at h0
    exact absurd h0 (by decide)
   | false=>
    have HR' : Hid _:=HN.out rfl
    clear HY HN
    go_wp2
    go_roundw
    case rel=>exact ⟨k + 1,by omega,by go_num,hb,HR'.out⟩
    case measure=>simp [intOf];omega
  ·have hkl:k=ps.length:=by omega
   subst hkl
   have E1:Hid (E=false):=HG.out (fun j hj=>HA.out j hj hj)
   have hlti:¬ (ps.length:Int) < (ps.length:Int):=by omega
   clear HA HE HG
   go_wp2
   go_ret
   refine ⟨_,rfl,fun h0=>?_,fun _=>by omega,hb⟩
   rw [E1.out] at h0
   exact absurd h0 (by decide)

set_option maxHeartbeats 1000000 in
theorem containsFuncR_any (a:Option Addr) (cap:Nat) (ps:List RoundQ) (w:World) (h:roundK.At w (.slice a ps.length cap) ps) (hl:ps.length≤1048576) (hF:rndsF (ps.map RoundQ.e)=0) :
  Calls Tryz.prog 15 #[.slice a ps.length cap,.func (.func 16) #[] #[]] w fun e w' => e=.returned (.bool ((ps.map RoundQ.e).any splR))∧Below w.heap.size w w' := by
 have hq:=indexFuncR_any a cap ps w h hl hF
 generalize (ps.map RoundQ.e).any splR=E at *
 go_enter Tryz.func15,Tryz.ntmps15
 go_wp2_with fail
 refine hq.mono ?_
 rintro e w2 ⟨r,rfl,h1,h2,hb⟩
 cases E with
 | true=>
  have h0:0≤r:=h1 rfl
  clear h1 h2
  go_wp2
  go_ret
  exact ⟨by simp [h0],hb⟩
 | false=>
  have h0:r < 0:=h2 rfl
  have h3:¬ 0≤r:=by omega
  clear h1 h2
  go_wp2
  go_ret
  exact ⟨by simp [h3],hb⟩

theorem insF_shp {x:InstE} (h:insF x=0):shpF x=0:=by
 unfold insF at h
 by_cases hs:shpF x=0
 ·exact hs
 ·rw [if_neg hs] at h
  exact h

set_option maxHeartbeats 4000000 in
theorem implSafeOf_any (p:InstQ) (w:World) (hG:Rul w) (h:instK.rd w p) (hl:p.n≤1048576) :
  Calls Tryz.prog 8 #[.agg #[.bool p.has,p.vb,p.vr,p.vd]] w fun e w' => e=.returned (.bool (safE p.e))∧Below w.heap.size w w' := by
 have hq:=fun w hG h=>implInstanceFault_any p w hG h hl
 have hrb:=fun (w' : World) hb=>instK.rd_below (w' := w') h hb
 have HS:Hid (insF p.e=0→shpF p.e=0):=fun h=>insF_shp h
 unfold safE
 by_cases h0:insF p.e=0
 ·have hs:=HS.out h0
  obtain ⟨⟨hr1,hr4⟩,hF,hv,_⟩:=shp_zero hs
  rw [h0] at hq ⊢
  have hz:((0:Int) == 0)=true:=rfl
  rw [hz,Bool.true_and]
  clear HS hs hz h0 hr1
  obtain ⟨has,vb,batch,vr,rounds,vd,dec⟩:=p
  replace hF:rndsF (rounds.map RoundQ.e)=0:=hF
  replace hv:vf dec 1=0:=hv
  replace hr4:rounds.length≤4:=by simpa [InstQ.e] using hr4
  obtain ⟨ba,bk,rfl⟩:∃ a c,vb=.slice a batch.length c:=h.1.shape
  obtain ⟨va,vk,rfl⟩:∃ a c,vr=.slice a rounds.length c:=h.2.1.shape
  have hcf:=fun w h=>containsFuncR_any va vk rounds w h (by omega) hF
  obtain ⟨da,dk,db,dof,rfl,hda,dcell,dRow⟩:=vf_row h.2.2 hv 0 (by omega)
  subst hda
  have hhb:=fun w h=>hasBoth_any (some ⟨db,dof,none⟩) dk dec w h (vf_len hv)
  show Calls _ _ _ _ fun e w' => e=.returned (.bool (!((rounds.map RoundQ.e).any splR) && !both dec))∧_
  dsimp only at hq hrb
  generalize (rounds.map RoundQ.e).any splR=E at *
  generalize both dec=D at *
  clear dcell hr4 hF hv
  have hB:Below w.heap.size w (w.alloc (.cells #[.bool has,.slice ba batch.length bk,.slice va rounds.length vk,.slice (some ⟨db,dof,none⟩) 3 dk] 28)):=by go_grown
  have B0:=Blk.new w 28 #[.bool has,.slice ba batch.length bk,.slice va rounds.length vk,.slice (some ⟨db,dof,none⟩) 3 dk]
  cases E with
  | true=>
   clear hhb
   go_enter Tryz.func8,Tryz.ntmps8
   go_wp2_with fail
   generalize w.alloc (.cells #[.bool has,.slice ba batch.length bk,.slice va rounds.length vk,.slice (some ⟨db,dof,none⟩) 3 dk] 28)=W at *
   refine (hq W (hG.below hB) (hrb W hB)).mono ?_
   rintro e w1 ⟨rfl,hb⟩
   replace B0:=B0.below hb
   replace hb:=hB.trans (hb.mono hB.size)
   have hh:=hcf w1 (hrb w1 hb).2.1
   obtain ⟨p0,p1,p2,p3⟩:=B0.cel4
   clear hq hcf hrb
   go_wp2_with fail
   clear p0 p1 p2 p3
   refine hh.mono ?_
   rintro e w2 ⟨rfl,hb2⟩
   replace hb:=hb.trans (hb2.mono hb.size)
   clear hh hb2
   go_wp2
   go_ret
   exact ⟨rfl,hb⟩
  | false=>
   go_enter Tryz.func8,Tryz.ntmps8
   go_wp2_with fail
   generalize w.alloc (.cells #[.bool has,.slice ba batch.length bk,.slice va rounds.length vk,.slice (some ⟨db,dof,none⟩) 3 dk] 28)=W at *
   refine (hq W (hG.below hB) (hrb W hB)).mono ?_
   rintro e w1 ⟨rfl,hb⟩
   replace B0:=B0.below hb
   replace hb:=hB.trans (hb.mono hB.size)
   have hh:=hcf w1 (hrb w1 hb).2.1
   obtain ⟨p0,p1,p2,p3⟩:=B0.cel4
   clear hq hcf hrb
   go_wp2_with fail
   clear p0 p1 p2 p3
   refine hh.mono ?_
   rintro e w2 ⟨rfl,hb2⟩
   replace B0:=B0.below hb2
   replace hb:=hb.trans (hb2.mono hb.size)
   have hd:=hhb w2 (dRow.below hb)
   obtain ⟨p0,p1,p2,p3⟩:=B0.cel4
   clear hh hb2 hhb
   go_wp2_with fail
   clear p0 p1 p2 p3
   refine hd.mono ?_
   rintro e w3 ⟨rfl,hb3⟩
   replace hb:=hb.trans (hb3.mono hb.size)
   clear hd hb3
   go_wp2
   go_ret
   exact ⟨by simp,hb⟩
 ·have hz:(insF p.e == 0)=false:=by simpa using h0
  rw [hz,Bool.false_and,Bool.false_and]
  generalize insF p.e=F at *
  clear HS hrb
  obtain ⟨has,vb,batch,vr,rounds,vd,dec⟩:=p
  obtain ⟨ba,bk,rfl⟩:∃ a c,vb=.slice a batch.length c:=h.1.shape
  obtain ⟨va,vk,rfl⟩:∃ a c,vr=.slice a rounds.length c:=h.2.1.shape
  obtain ⟨da,dk,rfl⟩:∃ a c,vd=.slice a dec.length c:=h.2.2.shape
  have hB:Below w.heap.size w (w.alloc (.cells #[.bool has,.slice ba batch.length bk,.slice va rounds.length vk,.slice da dec.length dk] 28)):=by go_grown
  go_enter Tryz.func8,Tryz.ntmps8
  go_wp2_with fail
  refine (hq _ (hG.below hB) (instK.rd_below h hB)).mono ?_
  rintro e w1 ⟨rfl,hb⟩
  replace hb:=hB.trans (hb.mono hB.size)
  clear hq
  go_wp2
  go_ret
  exact ⟨rfl,hb⟩

set_option maxHeartbeats 4000000 in
theorem specSafeOf_any (p:InstQ) (w:World) (h:instK.rd w p) (hl:p.n≤1048576) :
  Calls Tryz.prog 9 #[.agg #[.bool p.has,p.vb,p.vr,p.vd]] w fun e w' => e=.returned (.bool (safE p.e))∧Below w.heap.size w w' := by
 have hB:Below w.heap.size w (w.alloc (.cells #[.bool p.has,p.vb,p.vr,p.vd] 28)):=by go_grown
 have hP:InstP (w.alloc (.cells #[.bool p.has,p.vb,p.vr,p.vd] 28)) w.heap.size 0 p:=⟨box4_new w _ _ _ _ 28,instK.rd_below h hB⟩
 have hq:=l6Fault_any w.heap.size 0 p _ hP hl
 have HS:Hid (insF p.e=0→shpF p.e=0):=fun h=>insF_shp h
 unfold safE
 by_cases h0:insF p.e=0
 ·have hs:=HS.out h0
  obtain ⟨⟨hr1,hr4⟩,hF,hv,_⟩:=shp_zero hs
  rw [h0] at hq ⊢
  have hz:((0:Int) == 0)=true:=rfl
  rw [hz,Bool.true_and]
  clear HS hs hz h0 hr1 h
  obtain ⟨has,vb,batch,vr,rounds,vd,dec⟩:=p
  replace hF:rndsF (rounds.map RoundQ.e)=0:=hF
  replace hv:vf dec 1=0:=hv
  replace hr4:rounds.length≤4:=by simpa [InstQ.e] using hr4
  obtain ⟨va,vk,rfl⟩:∃ a c,vr=.slice a rounds.length c:=hP.rounds.shape
  obtain ⟨da,dk,db,dof,rfl,hda,dcell,dRow⟩:=vf_row hP.dec hv 0 (by omega)
  subst hda
  have hhb:=fun w h=>l5Both_any (some ⟨db,dof,none⟩) dk dec w h (vf_len hv)
  show Calls _ _ _ _ fun e w' => e=.returned (.bool (!((rounds.map RoundQ.e).any splR) && !both dec))∧_
  have HE:Hid (∀ k (hk:k < rounds.length),both rounds[k].pro=true→(rounds.map RoundQ.e).any splR=true):=fun k hk h1=>spl_yes rounds k hk h1
  have HG:Hid ((∀ j,(hj:j < rounds.length)→both rounds[j].pro=false)→(rounds.map RoundQ.e).any splR=false):=fun h=>spl_no rounds h
  generalize (rounds.map RoundQ.e).any splR=E at *
  clear dcell
  go_enter Tryz.func9,Tryz.ntmps9
  go_wp2_with fail
  generalize hbx:w.heap.size=bx at *
  generalize w.alloc (.cells #[.bool has,vb,.slice va rounds.length vk,.slice (some ⟨db,dof,none⟩) 3 dk] 28)=W at *
  refine hq.mono ?_
  rintro e w1 ⟨rfl,hb⟩
  have hP1:=hP.below hb
  have dR1:=dRow.below hb
  replace hB:=hB.trans (hb.mono (by rw [← hbx];exact hB.size))
  rw [← hbx] at hB
  clear hq hb hP dRow
  go_wp2
  go_loopw [3] (fun j wr=>∃ k:Nat,k≤rounds.length∧j=.int .i64 k∧Below w1.heap.size w1 wr∧Hid (∀ j,(hj:j < rounds.length)→j < k→both rounds[j].pro=false)) (fun j _=>rounds.length - (intOf j).toNat)
  case atStart=>exact ⟨0,Nat.zero_le _,rfl,Below.refl _ _,fun j hj hk=>absurd hk (Nat.not_lt_zero _)⟩
  case round=>
   obtain ⟨k,hk,rfl,hb,HA⟩:=hrel
   have hPr:=hP1.below hb
   obtain ⟨c0,c1,c2,c3⟩:=hPr.box
   dsimp only at c0 c1 c2 c3
   by_cases hlt:k < rounds.length
   ·obtain ⟨rb,ro,rfl,hbs,hc,hrd⟩:=hPr.rounds.cell (by decide) k hlt
    have hc' : ∀ j x,(roundK.cells rounds[k])[j]? = some x→wr.cell? ⟨rb,ro + k * 2 + j,none⟩=some x:=hc
    have r1:=hc' 1 (rounds[k].vp) rfl
    have HY:Hid (both rounds[k].pro=true→E=true):=HE.out k hlt
    have HN:Hid (both rounds[k].pro=false→∀ j,(hj:j < rounds.length)→j < k + 1→both rounds[j].pro=false):=by
     intro h0 j hj hjk
     by_cases e:j=k
     ·subst e;exact h0
     ·exact HA.out j hj (by omega)
    have hv2:=(rndsF_at hF k (by rw [List.length_map];exact hlt)).2
    rw [rnd_at rounds k hlt] at hv2
    have hv2:vf rounds[k].pro 2=0:=hv2
    have hA2:intK.At wr rounds[k].vp rounds[k].pro:=hrd.2
    clear HA hc hc' hrd HE HG
    generalize rounds[k].vp=qw at *
    generalize rounds[k].pro=qp at *
    obtain ⟨pa,pc,pb,po,rfl,hpa,pcell,pRow⟩:=vf_row hA2 hv2 0 (by omega)
    subst hpa
    have hct:=l5Both_any (some ⟨pb,po,none⟩) pc qp wr pRow (vf_len hv2)
    generalize both qp=S at *
    clear hA2 hv2 pcell pRow
    have hlti:(k:Int) < (rounds.length:Int):=by omega
    go_wp2_with fail
    refine hct.mono ?_
    rintro e w2 ⟨rfl,hb2⟩
    replace hb:=hb.trans (hb2.mono hb.size)
    clear hct c0 c1 c2 c3 r1 hb2 hPr
    cases S with
    | true=>
     have E1:Hid (E=true):=HY.out rfl
     clear HY HN
     go_wp2
     go_ret
     rw [E1.out]
     exact ⟨rfl,hB.trans (hb.mono hB.size)⟩
    | false=>
     have HR' : Hid _:=HN.out rfl
     clear HY HN
     go_wp2
     go_roundw
     case rel=>exact ⟨k + 1,by omega,by go_num,hb,HR'.out⟩
     case measure=>simp [intOf];omega
   ·have hkl:k=rounds.length:=by omega
    subst hkl
    have E1:Hid (E=false):=HG.out (fun j hj=>HA.out j hj hj)
    have hlti:¬ (rounds.length:Int) < (rounds.length:Int):=by omega
    have hd:=hhb wr (dR1.below hb)
    clear HA HE HG hhb
    go_wp2_with fail
    refine hd.mono ?_
    rintro e w2 ⟨rfl,hb2⟩
    replace hb:=hb.trans (hb2.mono hb.size)
    clear hd hb2 c0 c1 c2 c3
    go_wp2
    go_ret
    rw [E1.out]
    exact ⟨by simp,hB.trans (hb.mono hB.size)⟩
 ·have hz:(insF p.e == 0)=false:=by simpa using h0
  rw [hz,Bool.false_and,Bool.false_and]
  generalize insF p.e=F at *
  clear HS
  go_enter Tryz.func9,Tryz.ntmps9
  go_wp2_with fail
  refine hq.mono ?_
  rintro e w1 ⟨rfl,hb⟩
  replace hB:=hB.trans (hb.mono hB.size)
  clear hq hb
  go_wp2
  go_ret
  exact ⟨rfl,hB⟩

end Go.Proofs.YtnnenkoeklabpaaGreatDoor
namespace Go.Proofs.YtnnenkoeklabpaaGreatDoor
open Go.RowKit
set_option maxRecDepth 100000
set_option maxHeartbeats 1000000 in
theorem lwBig_any (a:Option Addr) (n cap:Nat) (w:World) (hm:n≤9223372036854775807) :
  Calls Tryz.prog 4 #[.slice a n cap] w fun e w' => e=.returned (.bool (decide (1048576 < (n:Int))))∧w' = w:=by
 go_enter Tryz.func4,Tryz.ntmps4
 go_wp2
 go_ret
 exact ⟨rfl,rfl⟩

end Go.Proofs.YtnnenkoeklabpaaGreatDoor
