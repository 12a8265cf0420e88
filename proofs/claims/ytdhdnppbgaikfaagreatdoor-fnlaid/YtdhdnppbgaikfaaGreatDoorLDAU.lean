/- Texts joined, with what the laws reach alone. -/
import Derived.Test.YtdhdnppbgaikfaaGreatDoorLDAT
set_option linter.unusedVariables false
set_option linter.unusedSimpArgs false
namespace Go.Proofs.YtdhdnppbgaikfaaGreatDoor
open Go.RowKit
open Go.BigFrame
set_option maxRecDepth 100000
theorem out_grown {w w' : World} {b:Nat} (h:Out [b] w w'):w.grownBy w' (some b):=⟨h.os,h.tape,h.output,h.size,fun k hk hne=>h.block k hk (by simp only [List.mem_singleton];intro e;exact hne (by rw [e]))⟩

/-- What the loop of l6Draw keeps. -/
structure DrawI (B b T g:Nat) (w wr:World) (j:Nat) (q:InstQ):Prop where
 ins:insF q.e=0
 own:instK.own wr q
 nd:(instK.foot q).Nodup
 low:∀ k∈instK.foot q,w.heap.size < k∧k≠g
 box:Blk wr g 28 #[.bool q.has,q.vb,q.vr,q.vd]
 res:Blk wr w.heap.size 28 #[.bool false,.slice none 0 0,.slice none 0 0,.slice none 0 0]
 src:Src B wr b (T + 1 + 60 * (40 - j))
 grown:Out [b] w wr

set_option maxRecDepth 100000 in
set_option maxHeartbeats 4000000 in
theorem l6Draw_any (B b T:Nat) (n:Int) (w:World) (hS:Src B w b T) (hT:T≤600000) (hn:n≤40) :
  Calls Tryz.prog 19 #[.pointer (some ⟨b,0,none⟩),.int .i64 n] w fun e w' => ∃ q:InstQ,e=.returned (.agg #[.bool q.has,q.vb,q.vr,q.vd])∧insF q.e=0∧instK.own w' q∧(instK.foot q).Nodup∧(∀ k∈instK.foot q,w.heap.size≤k)∧Src B w' b (T + 2500)∧w.grownBy w' (some b):=by
 have hlt:=hS.lt
 have hb0:Below w.heap.size w (w.alloc (.cells #[.bool false,.slice none 0 0,.slice none 0 0,.slice none 0 0] 28)):=by go_grown
 have R0:=Blk.new w 28 #[.bool false,.slice none 0 0,.slice none 0 0,.slice none 0 0]
 have hg:Out [b] w (w.alloc (.cells #[.bool false,.slice none 0 0,.slice none 0 0,.slice none 0 0] 28)):=Out.of_below hb0
 replace hS:=hS.below hb0
 clear hb0
 go_enter Tryz.func19,Tryz.ntmps19
 go_wp2_with fail
 generalize w.alloc (.cells #[.bool false,.slice none 0 0,.slice none 0 0,.slice none 0 0] 28)=W at *
 refine (l6New_any W).mono ?_
 rintro e x1 ⟨q,rfl,eq,oq,nq,gq,hb1⟩
 have hW:=R0.lt
 replace R0:=R0.below hb1
 replace hS:=hS.below hb1
 replace hg:=hg.trans (Out.of_below hb1)
 have hm:=instK.own_lt oq
 have hi:insF q.e=0:=by rw [eq];exact ins_new
 have hw1:w.heap.size < x1.heap.size:=R0.lt
 clear eq
 obtain ⟨ch,cb,cbs,cr,crs,cd,cds⟩:=q
 obtain ⟨c1,c4,rfl⟩:∃ a c,cb=.slice a cbs.length c:=oq.1.shape
 obtain ⟨c2,c5,rfl⟩:∃ a c,cr=.slice a crs.length c:=oq.2.1.shape
 obtain ⟨c3,c6,rfl⟩:∃ a c,cd=.slice a cds.length c:=oq.2.2.shape
 have hbA:Below x1.heap.size x1 (x1.alloc (.cells #[.bool ch,.slice c1 cbs.length c4,.slice c2 crs.length c5,.slice c3 cds.length c6] 28)):=by go_grown
 have Bx:=Blk.new x1 28 #[.bool ch,.slice c1 cbs.length c4,.slice c2 crs.length c5,.slice c3 cds.length c6]
 replace R0:=R0.below hbA
 replace hS:=hS.below hbA
 replace hg:=hg.trans (Out.of_below hbA)
 replace oq:=instK.own_out (F:=[]) oq (Out.of_below hbA) (fun _ _=>by simp)
 go_wp2_with fail
 generalize hgx:x1.heap.size=g at *
 generalize x1.alloc (.cells #[.bool ch,.slice c1 cbs.length c4,.slice c2 crs.length c5,.slice c3 cds.length c6] 28)=X1 at *
 clear hbA hb1 hgx
 refine (next_any B b T n X1 hS (by omega) (by omega)).mono ?_
 rintro e x2 ⟨r,rfl,hr,hSn,hgn⟩
 obtain ⟨j0,rfl⟩:=Int.eq_ofNat_of_zero_le hr.1
 have hj0:j0≤40:=by
  rcases Int.lt_or_le n 1 with h9 | h9
  ·have:=hr.2.2 h9;omega
  ·have:=hr.2.1 h9;omega
 have hU:Out [b] X1 x2:=Out.of_grown hgn
 have HI0:Hid (DrawI B b T g w x2 j0 (⟨ch,.slice c1 cbs.length c4,cbs,.slice c2 crs.length c5,crs,.slice c3 cds.length c6,cds⟩:InstQ)):=⟨hi,instK.own_out oq hU (fun k hk hk' => by simp only [List.mem_singleton] at hk';have:=gq k hk;omega),nq,fun k hk=>⟨by have:=gq k hk;omega,by have:=hm k hk;omega⟩,Bx.outs hU (fun hk=>by simp only [List.mem_singleton] at hk;omega),R0.outs hU (fun hk=>by simp only [List.mem_singleton] at hk;omega),hSn.mono (by omega),hg.trans hU⟩
 clear hi oq nq gq hm Bx R0 hg hS hSn hgn hU hr hW
 go_wp2
 go_loopw [6] (fun c wr=>∃ (j:Nat) (q:InstQ),c=.int .i64 j∧j≤40∧Hid (DrawI B b T g w wr j q)) (fun c _=>(intOf c).toNat)
 case atStart=>exact ⟨j0,_,rfl,hj0,HI0⟩
 case round=>
  clear HI0 hj0
  obtain ⟨j,q,rfl,hj,HI⟩:=hrel
  obtain ⟨hi,oq,nq,low,Bx,R0,hS,hg⟩:=HI.out
  clear HI
  have hsz:=hg.size
  have hgx:=Bx.lt
  obtain ⟨eh,eb,ebs,er,ers,ed,eds⟩:=q
  obtain ⟨e1,e4,rfl⟩:∃ a c,eb=.slice a ebs.length c:=oq.1.shape
  obtain ⟨e2,e5,rfl⟩:∃ a c,er=.slice a ers.length c:=oq.2.1.shape
  obtain ⟨e3,e6,rfl⟩:∃ a c,ed=.slice a eds.length c:=oq.2.2.shape
  dsimp only at Bx
  obtain ⟨p0,p1,p2,p3⟩:=Bx.cel4
  by_cases hpos:0 < j
  ·go_wp2_with fail
   clear p0 p1 p2 p3
   refine (l6Turn_any B b (T + 1 + 60 * (40 - j)) (⟨eh,.slice e1 ebs.length e4,ebs,.slice e2 ers.length e5,ers,.slice e3 eds.length e6,eds⟩:InstQ) wr hS (by omega) oq nq hi (fun hk=>by have:=low b hk;omega)).mono ?_
   rintro e x4 ⟨q4,rfl,h4,o4,n4,f4,hSn,hgn⟩
   have hU:Out [b] wr x4:=Out.of_grown hgn
   have hs4:=hU.size
   have Bx4:=Bx.outs hU (fun hk=>by simp only [List.mem_singleton] at hk;omega)
   have R4:=R0.outs hU (fun hk=>by simp only [List.mem_singleton] at hk;omega)
   have hg4:=hg.trans hU
   have low4:∀ k∈instK.foot q4,w.heap.size < k∧k≠g:=fun k hk=>by
    rcases f4 k hk with h | h
    ·exact low k h
    ·omega
   clear oq nq low Bx R0 hg hS hi f4 hgn hU
   obtain ⟨fh,fb,fbs,fr,frs,fd,fds⟩:=q4
   obtain ⟨f1,f4,rfl⟩:∃ a c,fb=.slice a fbs.length c:=o4.1.shape
   obtain ⟨f2,f5,rfl⟩:∃ a c,fr=.slice a frs.length c:=o4.2.1.shape
   obtain ⟨f3,f6,rfl⟩:∃ a c,fd=.slice a fds.length c:=o4.2.2.shape
   have Br:=Bx4.row #[.bool fh,.slice f1 fbs.length f4,.slice f2 frs.length f5,.slice f3 fds.length f6]
   have hsr:(Tryz.prog.info? 28).map (·.size)=some (#[.bool fh,.slice f1 fbs.length f4,.slice f2 frs.length f5,.slice f3 fds.length f6]:Array Value).size:=sz_inst
   have hUr:=out_row x4 g #[.bool fh,.slice f1 fbs.length f4,.slice f2 frs.length f5,.slice f3 fds.length f6]
   have HI5:Hid (DrawI B b T g w (x4.setRow g #[.bool fh,.slice f1 fbs.length f4,.slice f2 frs.length f5,.slice f3 fds.length f6]) (j - 1) (⟨fh,.slice f1 fbs.length f4,fbs,.slice f2 frs.length f5,frs,.slice f3 fds.length f6,fds⟩:InstQ)):=⟨h4,instK.own_out o4 hUr (fun k hk hk' => by simp only [List.mem_singleton] at hk';have:=low4 k hk;omega),n4,low4,Br,R4.outs hUr (fun hk=>by simp only [List.mem_singleton] at hk;omega),(hSn.out hUr (by simp only [List.mem_singleton];omega) (fun k hk=>by simp only [List.mem_singleton] at hk;omega)).mono (by omega),⟨hUr.os.trans hg4.os,hUr.tape.trans hg4.tape,hUr.output.trans hg4.output,Nat.le_trans hg4.size hUr.size,fun k hk hne=>(hUr.block k (Nat.lt_of_lt_of_le hk hg4.size) (by simp only [List.mem_singleton];omega)).trans (hg4.block k hk hne)⟩⟩
   clear o4 n4 low4 R4 hg4 hSn h4 Br hUr
   go_wp2_with (first | (refine st_row (by kernel_rfl) 28 _ _ rfl _ #[.bool fh,.slice f1 fbs.length f4,.slice f2 frs.length f5,.slice f3 fds.length f6] rfl rfl 28 _ Bx4 hsr rfl (by simp [Value.oneCell']) ?_))
   go_roundw
   case rel=>exact ⟨j - 1,_,by go_num,by omega,HI5⟩
   case measure=>simp [intOf];omega
  ·have Rr:=R0.row #[.bool eh,.slice e1 ebs.length e4,.slice e2 ers.length e5,.slice e3 eds.length e6]
   have hsr:(Tryz.prog.info? 28).map (·.size)=some (#[.bool eh,.slice e1 ebs.length e4,.slice e2 ers.length e5,.slice e3 eds.length e6]:Array Value).size:=sz_inst
   have hUr:=out_row wr w.heap.size #[.bool eh,.slice e1 ebs.length e4,.slice e2 ers.length e5,.slice e3 eds.length e6]
   have HZ:Hid (instK.own (wr.setRow w.heap.size #[.bool eh,.slice e1 ebs.length e4,.slice e2 ers.length e5,.slice e3 eds.length e6]) (⟨eh,.slice e1 ebs.length e4,ebs,.slice e2 ers.length e5,ers,.slice e3 eds.length e6,eds⟩:InstQ)∧Src B (wr.setRow w.heap.size #[.bool eh,.slice e1 ebs.length e4,.slice e2 ers.length e5,.slice e3 eds.length e6]) b (T + 2500)∧w.grownBy (wr.setRow w.heap.size #[.bool eh,.slice e1 ebs.length e4,.slice e2 ers.length e5,.slice e3 eds.length e6]) (some b)):=by
    refine ⟨instK.own_out oq hUr (fun k hk hk' => by simp only [List.mem_singleton] at hk';have:=low k hk;omega),?_,?_⟩
    ·exact (hS.out hUr (by simp only [List.mem_singleton];omega) (fun k hk=>by simp only [List.mem_singleton] at hk;omega)).mono (by omega)
    ·exact grown_out (out_grown hg) hUr (fun k hk=>by simp only [List.mem_singleton] at hk;omega)
   have HQ:Hid (insF (InstQ.e (⟨eh,.slice e1 ebs.length e4,ebs,.slice e2 ers.length e5,ers,.slice e3 eds.length e6,eds⟩:InstQ))=0∧(instK.foot (⟨eh,.slice e1 ebs.length e4,ebs,.slice e2 ers.length e5,ers,.slice e3 eds.length e6,eds⟩:InstQ)).Nodup∧∀ k∈instK.foot (⟨eh,.slice e1 ebs.length e4,ebs,.slice e2 ers.length e5,ers,.slice e3 eds.length e6,eds⟩:InstQ),w.heap.size≤k):=⟨hi,nq,fun k hk=>by have:=low k hk;omega⟩
   clear oq nq low hS hg hi hUr
   go_wp2_with (first | (refine st_row (by kernel_rfl) 28 _ _ rfl _ #[.bool eh,.slice e1 ebs.length e4,.slice e2 ers.length e5,.slice e3 eds.length e6] rfl rfl 28 _ R0 hsr rfl (by simp [Value.oneCell']) ?_))
   obtain ⟨q0,q1,q2,q3⟩:=Rr.cel4
   exact bodyPost_ret (v:=.agg #[.bool eh,.slice e1 ebs.length e4,.slice e2 ers.length e5,.slice e3 eds.length e6]) (by simp [results,Tryz.results19,go_sem,q0,q1,q2,q3]) rfl ⟨(⟨eh,.slice e1 ebs.length e4,ebs,.slice e2 ers.length e5,ers,.slice e3 eds.length e6,eds⟩:InstQ),rfl,HQ.out.1,HZ.out.1,HQ.out.2.1,HQ.out.2.2,HZ.out.2.1,HZ.out.2.2⟩

end Go.Proofs.YtdhdnppbgaikfaaGreatDoor
