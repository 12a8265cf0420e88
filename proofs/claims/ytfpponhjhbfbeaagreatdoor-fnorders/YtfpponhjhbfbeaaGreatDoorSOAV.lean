/- Texts joined,with what the laws reach alone. -/
import Derived.Test.YtfpponhjhbfbeaaGreatDoorSOAU
set_option linter.unusedVariables false
set_option linter.unusedSimpArgs false
set_option maxRecDepth 100000
set_option maxHeartbeats 16000000
namespace Go.Proofs.YtfpponhjhbfbeaaGreatDoor
open Go.RowKit Go.BigFrame
theorem z2o(B b T:Nat)(n:Int)(w:World)(hS:Src B w b T)(hT:T≤1099511627776)(hn:n≤1099511627776):
  Calls Tryz.prog 42 #[.pointer (some ⟨b,0,none⟩),.int .i64 n] w fun e w'=>∃t:Bool,e=.returned (.bool t)∧Src B w' b (T+1)∧w.grownBy w' (some b):=by
 go_enter Tryz.func42,Tryz.ntmps42
 go_wp2_with fail
 refine(z0h B b T n w hS hT hn).mono ?_;rintro e w1 ⟨r,rfl,hr,hS1,hg⟩
 go_wp2
 go_ret;exact⟨_,rfl,hS1,hg⟩
theorem z3U(x y:Int)(w:World):Calls Tryz.prog 140 #[.int .i64 x,.int .i64 y] w fun e w'=>∃z:Int,e=.returned (.int .i64 z)∧w'=w:=by
 by_cases h:x<y
 ·go_enter Tryz.func140,Tryz.ntmps140
  go_wp2
  go_ret;first|exact⟨_,rfl,rfl⟩|exact⟨⟨_,rfl⟩,rfl⟩|exact⟨_,rfl⟩
 ·go_enter Tryz.func140,Tryz.ntmps140
  go_wp2
  go_ret;first|exact⟨_,rfl,rfl⟩|exact⟨⟨_,rfl⟩,rfl⟩|exact⟨_,rfl⟩
theorem z6Z(bs:List TxnQ)(h:∀p∈bs,p.acts.length≤3):nmL TxnQ.n bs≤3*bs.length:=by
 induction bs with
 |nil=>simp[nmL]
 |cons p r ih=>
  have h1:=h p (by simp);have:=ih (fun q hq=>h q (List.mem_cons_of_mem _ hq));simp only[nmL,List.map_cons,List.sum_cons,List.length_cons,TxnQ.n]at this⊢;omega
theorem z8P(h:Bool)(a1:Option Addr)(n1 c1:Nat)(a2:Option Addr)(n2 c2:Nat)(a3:Option Addr)(n3 c3:Nat)(w:World):(Instr.field 60 (.agg #[.int .i64 0,.int .i64 0,.bool false,.bool false,.int .i64 0,.bool h,.slice a1 n1 c1,.slice a2 n2 c2,.slice a3 n3 c3]) 2).run Tryz.prog w=.ok (.agg #[.bool h,.slice a1 n1 c1,.slice a2 n2 c2,.slice a3 n3 c3]) w:=by kernel_rfl
structure EndI (B b T g:Nat) (w wr:World) (q:InstQ):Prop where
 ins:insF q.e=0
 own:instK.own wr q
 nd:(instK.foot q).Nodup
 low:∀k∈instK.foot q,w.heap.size<k∧k≠g
 box:Blk wr g 49 #[.bool q.has,q.vb,q.vr,q.vd]
 res:Blk wr w.heap.size 49 #[.bool false,.slice none 0 0,.slice none 0 0,.slice none 0 0]
 src:Src B wr b T
 grown:Out [b] w wr
theorem Out.trans2{b g:Nat}{w wr w':World}(h:Out [b] w wr)(h':Out [g] wr w')(hg:∀k∈[g],w.heap.size<k):Out [b] w w':=
 ⟨h'.os.trans h.os,h'.tape.trans h.tape,h'.output.trans h.output,Nat.le_trans h.size h'.size,fun k hk hn=>(h'.block k (Nat.lt_of_lt_of_le hk h.size) (fun e=>by have:=hg k e;omega)).trans (h.block k hk hn)⟩
theorem z54(B b T:Nat)(w:World)(hS:Src B w b T)(hT:T≤400000):
  Calls Tryz.prog 113 #[.pointer (some ⟨b,0,none⟩)] w fun e w'=>∃q:InstQ,e=.returned (.agg #[.bool q.has,q.vb,q.vr,q.vd])∧insF q.e=0∧instK.own w' q∧(instK.foot q).Nodup∧(∀k∈instK.foot q,w.heap.size≤k)∧Src B w' b (T+2600)∧w.grownBy w' (some b):=by
 have hlt:=hS.lt;have hb0:Below w.heap.size w (w.alloc (.cells #[.bool false,.slice none 0 0,.slice none 0 0,.slice none 0 0] 49)):=by go_grown
 have R0:=Blk.new w 49 #[.bool false,.slice none 0 0,.slice none 0 0,.slice none 0 0];have hg:Out [b] w (w.alloc (.cells #[.bool false,.slice none 0 0,.slice none 0 0,.slice none 0 0] 49)):=Out.of_below hb0;replace hS:=hS.below hb0;clear hb0;go_enter Tryz.func113,Tryz.ntmps113
 go_wp2_with fail
 generalize w.alloc (.cells #[.bool false,.slice none 0 0,.slice none 0 0,.slice none 0 0] 49)=W at*;refine(z3S W).mono ?_;rintro e x1 ⟨q,rfl,eq,oq,nq,gq,hb1⟩;have hW:=R0.lt;replace R0:=R0.below hb1;replace hS:=hS.below hb1;replace hg:=hg.call hb1;have hm:=instK.own_lt oq;have hi:insF q.e=0:=by rw[eq];exact z51
 have hw1:w.heap.size<x1.heap.size:=R0.lt;have hnh0:Hid (q.has=false):=by have:=congrArg InstE.has eq;exact this
 have low':∀k∈instK.foot q,w.heap.size<k∧k<x1.heap.size:=fun k hk=>⟨by have:=gq k hk;omega,hm k hk⟩
 clear eq gq hm;obtain⟨eh,eb,ebs,er,ers,ed,eds⟩:=q;obtain⟨e1,e4,rfl⟩:∃a c,eb=.slice a ebs.length c:=oq.1.shape;obtain⟨e2,e5,rfl⟩:∃a c,er=.slice a ers.length c:=oq.2.1.shape;obtain⟨e3,e6,rfl⟩:∃a c,ed=.slice a eds.length c:=oq.2.2.shape;have hnh:Hid (eh=false):=hnh0.out;clear hnh0;have hbA:Below x1.heap.size x1 (x1.alloc (.cells #[.bool eh,.slice e1 ebs.length e4,.slice e2 ers.length e5,.slice e3 eds.length e6] 49)):=by go_grown
 have Bx:=Blk.new x1 49 #[.bool eh,.slice e1 ebs.length e4,.slice e2 ers.length e5,.slice e3 eds.length e6];replace R0:=R0.below hbA;replace hS:=hS.below hbA;replace hg:=hg.call hbA;replace oq:=instK.own_out (F:=[]) oq (Out.of_below hbA) (fun _ _=>by simp)
 go_wp2_with fail
 generalize hgx:x1.heap.size=g at*;generalize x1.alloc (.cells #[.bool eh,.slice e1 ebs.length e4,.slice e2 ers.length e5,.slice e3 eds.length e6] 49)=X1 at*;clear hbA hb1;have low:∀k∈instK.foot (⟨eh,.slice e1 ebs.length e4,ebs,.slice e2 ers.length e5,ers,.slice e3 eds.length e6,eds⟩:InstQ),w.heap.size<k∧k≠g:=fun k hk=>by have:=low' k hk;omega
 clear low';refine(z2o B b T 5 X1 hS (by omega) (by omega)).mono ?_;rintro e x2 ⟨tt,rfl,hSn,hgn⟩;have hU:Out [b] X1 x2:=Out.of_grown hgn;replace hS:=hSn;replace Bx:=Bx.outs hU (fun hk=>by simp only[List.mem_singleton]at hk;omega);replace R0:=R0.outs hU (fun hk=>by simp only[List.mem_singleton]at hk;omega);replace oq:=instK.own_out oq hU (fun k hk hk'=>by simp only[List.mem_singleton]at hk';have:=low k hk;omega);replace hg:=hg.trans hU;clear hU hSn hgn
 cases tt with
 |true=>
  go_wp2_with fail
  refine(z14 B b (T+1) 5 x2 hS (by omega) (by omega)).mono ?_;rintro e x4 ⟨q4,rfl,h4,o4,n4,g4,hSn,hgn⟩;have hU:Out [b] x2 x4:=Out.of_grown hgn;have hs2:=Bx.lt;replace Bx:=Bx.outs hU (fun hk=>by simp only[List.mem_singleton]at hk;omega);replace R0:=R0.outs hU (fun hk=>by simp only[List.mem_singleton]at hk;omega);replace hg:=hg.trans hU;have low4:∀k∈instK.foot q4,w.heap.size<k∧k≠g:=fun k hk=>by have:=g4 k hk;omega
  replace hS:=hSn;clear hU hSn hgn oq nq low hi g4;obtain⟨fh,fb,fbs,fr,frs,fd,fds⟩:=q4;obtain⟨f1,f4,rfl⟩:∃a c,fb=.slice a fbs.length c:=o4.1.shape;obtain⟨f2,f5,rfl⟩:∃a c,fr=.slice a frs.length c:=o4.2.1.shape;obtain⟨f3,f6,rfl⟩:∃a c,fd=.slice a fds.length c:=o4.2.2.shape;have Br:=Bx.row #[.bool fh,.slice f1 fbs.length f4,.slice f2 frs.length f5,.slice f3 fds.length f6];have hsr:(Tryz.prog.info? 49).map (·.size)=some (#[.bool fh,.slice f1 fbs.length f4,.slice f2 frs.length f5,.slice f3 fds.length f6]:Array Value).size:=z0k;have hUr:=z0d x4 g #[.bool fh,.slice f1 fbs.length f4,.slice f2 frs.length f5,.slice f3 fds.length f6];have HI5:Hid (EndI B b (T+1+2500) g w (x4.setRow g #[.bool fh,.slice f1 fbs.length f4,.slice f2 frs.length f5,.slice f3 fds.length f6]) (⟨fh,.slice f1 fbs.length f4,fbs,.slice f2 frs.length f5,frs,.slice f3 fds.length f6,fds⟩:InstQ)):=⟨h4,instK.own_out o4 hUr (fun k hk hk'=>by simp only[List.mem_singleton]at hk';have:=low4 k hk;omega),n4,low4,Br,R0.outs hUr (fun hk=>by simp only[List.mem_singleton]at hk;omega),hS.out hUr (by simp only[List.mem_singleton];omega) (fun k hk=>by simp only[List.mem_singleton]at hk;omega),(hg).trans2 hUr (fun k hk=>by simp only[List.mem_singleton]at hk;omega)⟩
  clear Br hUr;clear o4 n4 low4 R0 hg hS h4
  go_wp2_with (first|(refine z0b (by kernel_rfl) 49 _ _ rfl _ #[.bool fh,.slice f1 fbs.length f4,.slice f2 frs.length f5,.slice f3 fds.length f6] rfl rfl 49 _ Bx hsr rfl (by simp[Value.oneCell']) ?_))
  have HI0:Hid (EndI B b (T+2501+0) g w (x4.setRow g #[.bool fh,.slice f1 fbs.length f4,.slice f2 frs.length f5,.slice f3 fds.length f6]) (⟨fh,.slice f1 fbs.length f4,fbs,.slice f2 frs.length f5,frs,.slice f3 fds.length f6,fds⟩:InstQ)):=HI5;clear HI5 Bx hsr;have hwg0:w.heap.size<g:=by omega
  go_loopw[5] (fun c wr=>∃ (n:Nat) (q:InstQ),c=.int .i64 n∧n≤3∧Hid (EndI B b (T+2501+n) g w wr q)) (fun c _=>3-(intOf c).toNat)
  case atStart=>exact⟨0,_,rfl,by omega,HI0⟩
  case round=>
   clear HI0;obtain⟨n,q,rfl,hn,HI⟩:=hrel;by_cases hn3:n<3
   ·have hn3i:(n:Int)<3:=by omega
    obtain⟨hi,oq,nq,low,Bx,R0,hS,hg⟩:=HI.out;clear HI;obtain⟨eh,eb,ebs,er,ers,ed,eds⟩:=q;obtain⟨e1,e4,rfl⟩:∃a c,eb=.slice a ebs.length c:=oq.1.shape;obtain⟨e2,e5,rfl⟩:∃a c,er=.slice a ers.length c:=oq.2.1.shape;obtain⟨e3,e6,rfl⟩:∃a c,ed=.slice a eds.length c:=oq.2.2.shape;dsimp only at Bx;have hgx:=Bx.lt;have hwg:w.heap.size<g:=hwg0
    go_wp2_with fail
    refine(z0h B b (T+2501+n) 9 wr hS (by omega) (by omega)).mono ?_;rintro e x2 ⟨r9,rfl,hr9,hSn,hgn⟩;have hU:Out [b] wr x2:=Out.of_grown hgn;replace hS:=hSn;replace Bx:=Bx.outs hU (fun hk=>by simp only[List.mem_singleton]at hk;omega);replace R0:=R0.outs hU (fun hk=>by simp only[List.mem_singleton]at hk;omega);replace oq:=instK.own_out oq hU (fun k hk hk'=>by simp only[List.mem_singleton]at hk';have:=low k hk;omega);replace hg:=hg.trans hU;clear hU hSn hgn hr9
    go_wp2_with fail
    refine(z3U (0) r9 x2).mono ?_;rintro e x3 ⟨mv,rfl,hx3⟩;replace hx3:=hx3.symm;subst hx3
    go_wp2_with fail
    have hgW:g<x2.heap.size:=Bx.lt;refine(z1J g 0 (⟨eh,.slice e1 ebs.length e4,ebs,.slice e2 ers.length e5,ers,.slice e3 eds.length e6,eds⟩:InstQ) n mv x2 (⟨⟨Bx.cell 0 _ rfl,Bx.cell 1 _ rfl,Bx.cell 2 _ rfl,Bx.cell 3 _ rfl⟩,instK.own_rd oq⟩:InstP _ g 0 (⟨eh,.slice e1 ebs.length e4,ebs,.slice e2 ers.length e5,ers,.slice e3 eds.length e6,eds⟩:InstQ)) Bx.lt (by rw[z0E];have:=z0u hi;omega) hi).mono ?_;rintro e x4 ⟨q4,rfl,heq4,o4,n4,g4,hb4⟩;have hi4:Hid (frC (InstQ.e (⟨eh,.slice e1 ebs.length e4,ebs,.slice e2 ers.length e5,ers,.slice e3 eds.length e6,eds⟩:InstQ)) n mv=0→insF q4.e=0):=fun h9=>by rw[heq4];exact z2y h9
    clear heq4;generalize frC (InstQ.e (⟨eh,.slice e1 ebs.length e4,ebs,.slice e2 ers.length e5,ers,.slice e3 eds.length e6,eds⟩:InstQ)) n mv=D at*;have hsW:x2.heap.size≤x4.heap.size:=hb4.size;have l4:=instK.own_lt o4;have hU:Out [] x2 x4:=Out.of_below hb4;replace hS:=hS.below hb4;replace Bx:=Bx.below hb4;replace R0:=R0.below hb4;replace oq:=instK.own_out oq hU (fun _ _=>by simp);replace hg:=hg.call hb4;clear hb4 hU;obtain⟨fh,fb,fbs,fr,frs,fd,fds⟩:=q4;obtain⟨f1,f4,rfl⟩:∃a c,fb=.slice a fbs.length c:=o4.1.shape;obtain⟨f2,f5,rfl⟩:∃a c,fr=.slice a frs.length c:=o4.2.1.shape;obtain⟨f3,f6,rfl⟩:∃a c,fd=.slice a fds.length c:=o4.2.2.shape;have hb4:Below x4.heap.size x4 (x4.alloc (.cells #[.int .i64 D,.int .i64 0,.bool false,.bool false,.int .i64 0,.bool fh,.slice f1 fbs.length f4,.slice f2 frs.length f5,.slice f3 fds.length f6] 60)):=by go_grown
    have G8:=Blk.new x4 60 #[.int .i64 D,.int .i64 0,.bool false,.bool false,.int .i64 0,.bool fh,.slice f1 fbs.length f4,.slice f2 frs.length f5,.slice f3 fds.length f6];have hU:Out [] x4 (x4.alloc (.cells #[.int .i64 D,.int .i64 0,.bool false,.bool false,.int .i64 0,.bool fh,.slice f1 fbs.length f4,.slice f2 frs.length f5,.slice f3 fds.length f6] 60)):=Out.of_below hb4;replace hS:=hS.below hb4;replace Bx:=Bx.below hb4;replace R0:=R0.below hb4;replace oq:=instK.own_out oq hU (fun _ _=>by simp);replace o4:=instK.own_out o4 hU (fun _ _=>by simp);replace hg:=hg.call hb4;have low4:∀k∈instK.foot (⟨fh,.slice f1 fbs.length f4,fbs,.slice f2 frs.length f5,frs,.slice f3 fds.length f6,fds⟩:InstQ),w.heap.size<k∧k≠g:=fun k hk=>by have:=g4 k hk;have:=l4 k hk;omega
    have r0:=G8.cell 0 _ rfl;clear hb4 hU g4 l4;by_cases hD:D=0
    ·have h4:=hi4.out hD;have hD':(D==0)=true:=by rw[hD];rfl
     clear hD;have r5:=G8.cell 5 _ rfl;have r6:=G8.cell 6 _ rfl;have r7:=G8.cell 7 _ rfl;have r8:=G8.cell 8 _ rfl;have Br:=Bx.row #[.bool fh,.slice f1 fbs.length f4,.slice f2 frs.length f5,.slice f3 fds.length f6];have hsr:(Tryz.prog.info? 49).map (·.size)=some (#[.bool fh,.slice f1 fbs.length f4,.slice f2 frs.length f5,.slice f3 fds.length f6]:Array Value).size:=z0k;have hUr:=z0d (x4.alloc (.cells #[.int .i64 D,.int .i64 0,.bool false,.bool false,.int .i64 0,.bool fh,.slice f1 fbs.length f4,.slice f2 frs.length f5,.slice f3 fds.length f6] 60)) g #[.bool fh,.slice f1 fbs.length f4,.slice f2 frs.length f5,.slice f3 fds.length f6];have HI5:Hid (EndI B b (T+2501+(n+1)) g w ((x4.alloc (.cells #[.int .i64 D,.int .i64 0,.bool false,.bool false,.int .i64 0,.bool fh,.slice f1 fbs.length f4,.slice f2 frs.length f5,.slice f3 fds.length f6] 60)).setRow g #[.bool fh,.slice f1 fbs.length f4,.slice f2 frs.length f5,.slice f3 fds.length f6]) (⟨fh,.slice f1 fbs.length f4,fbs,.slice f2 frs.length f5,frs,.slice f3 fds.length f6,fds⟩:InstQ)):=⟨h4,instK.own_out o4 hUr (fun k hk hk'=>by simp only[List.mem_singleton]at hk';have:=low4 k hk;omega),n4,low4,Br,R0.outs hUr (fun hk=>by simp only[List.mem_singleton]at hk;omega),hS.out hUr (by simp only[List.mem_singleton];omega) (fun k hk=>by simp only[List.mem_singleton]at hk;omega),(hg).trans2 hUr (fun k hk=>by simp only[List.mem_singleton]at hk;omega)⟩
     clear Br hUr;clear o4 n4 low4 R0 hg hS h4 oq nq low hi hi4
     go_wp2_with (first|(refine z0b (by kernel_rfl) 49 _ _ rfl _ #[.bool fh,.slice f1 fbs.length f4,.slice f2 frs.length f5,.slice f3 fds.length f6] rfl rfl 49 _ Bx hsr rfl (by simp[Value.oneCell']) ?_))
     clear r0 r5 r6 r7 r8 G8 Bx hsr;go_roundw
     case rel=>exact⟨n+1,_,by go_num,by omega,HI5⟩
     case measure=>simp[intOf];omega
    ·have hD':(D==0)=false:=by simpa using hD
     have HI6:Hid (EndI B b (T+2501+(n+1)) g w (x4.alloc (.cells #[.int .i64 D,.int .i64 0,.bool false,.bool false,.int .i64 0,.bool fh,.slice f1 fbs.length f4,.slice f2 frs.length f5,.slice f3 fds.length f6] 60)) (⟨eh,.slice e1 ebs.length e4,ebs,.slice e2 ers.length e5,ers,.slice e3 eds.length e6,eds⟩:InstQ)):=⟨hi,oq,nq,low,Bx,R0,hS,hg⟩
     clear o4 n4 low4 R0 hg hS oq nq low hi hi4 Bx
     go_wp2
     clear r0 G8;go_roundw
     case rel=>exact⟨n+1,_,by go_num,by omega,HI6⟩
     case measure=>simp[intOf];omega
   ·have hn3i:¬(n:Int)<3:=by omega
    obtain rfl:n=3:=by omega
    go_wp2
    go_loopw[7] (fun c wr=>∃ (n:Nat) (q:InstQ),c=.int .i64 n∧n≤4∧Hid (EndI B b (T+2501+3) g w wr q)) (fun c _=>4-(intOf c).toNat)
    case atStart=>exact⟨0,_,rfl,by omega,HI⟩
    case round=>
     clear HI;obtain⟨rd,q,rfl,hrd,HI⟩:=hrel;obtain⟨hi,oq,nq,low,Bx,R0,hS,hg⟩:=HI.out;clear HI;obtain⟨eh,eb,ebs,er,ers,ed,eds⟩:=q;obtain⟨e1,e4,rfl⟩:∃a c,eb=.slice a ebs.length c:=oq.1.shape;obtain⟨e2,e5,rfl⟩:∃a c,er=.slice a ers.length c:=oq.2.1.shape;obtain⟨e3,e6,rfl⟩:∃a c,ed=.slice a eds.length c:=oq.2.2.shape;dsimp only at Bx;have hgx:=Bx.lt;have hwg:w.heap.size<g:=hwg0;have hli:InstQ.n (⟨eh,.slice e1 ebs.length e4,ebs,.slice e2 ers.length e5,ers,.slice e3 eds.length e6,eds⟩:InstQ)≤1048576:=(by rw[z0E];have:=z0u hi;omega)
     have hP:=(⟨⟨Bx.cell 0 _ rfl,Bx.cell 1 _ rfl,Bx.cell 2 _ rfl,Bx.cell 3 _ rfl⟩,instK.own_rd oq⟩:InstP _ g 0 (⟨eh,.slice e1 ebs.length e4,ebs,.slice e2 ers.length e5,ers,.slice e3 eds.length e6,eds⟩:InstQ))
     by_cases hr4:rd<4
     ·have hr4i:(rd:Int)<4:=by omega
      go_wp2_with fail
      refine(z0L g 0 (⟨eh,.slice e1 ebs.length e4,ebs,.slice e2 ers.length e5,ers,.slice e3 eds.length e6,eds⟩:InstQ) wr hP hli).mono ?_;rintro e x3 ⟨rfl,hx3⟩;replace hx3:=hx3.symm;subst hx3;dsimp only;by_cases hov:outV eds=3
      ·have hov':(outV eds==3)=true:=by rw[hov];rfl
       have HI1:Hid (EndI B b (T+2501+3) g w wr (⟨eh,.slice e1 ebs.length e4,ebs,.slice e2 ers.length e5,ers,.slice e3 eds.length e6,eds⟩:InstQ)):=⟨hi,oq,nq,low,Bx,R0,hS,hg⟩
       clear oq nq low Bx R0 hS hg hi hP hli;generalize outV eds=OV at*;clear hov
       go_wp2
       go_loopw[8] (fun c wr=>∃ (n:Nat) (q:InstQ),c=.int .i64 n∧n≤3∧Hid (EndI B b (T+2501+3) g w wr q)) (fun c _=>3-(intOf c).toNat)
       case atStart=>exact⟨0,_,rfl,by omega,HI1⟩
       case round=>
        clear HI1;obtain⟨n,q,rfl,hn,HI⟩:=hrel;by_cases hn3:n<3
        ·have hn3i:(n:Int)<3:=by omega
         obtain⟨hi,oq,nq,low,Bx,R0,hS,hg⟩:=HI.out;clear HI;obtain⟨eh,eb,ebs,er,ers,ed,eds⟩:=q;obtain⟨e1,e4,rfl⟩:∃a c,eb=.slice a ebs.length c:=oq.1.shape;obtain⟨e2,e5,rfl⟩:∃a c,er=.slice a ers.length c:=oq.2.1.shape;obtain⟨e3,e6,rfl⟩:∃a c,ed=.slice a eds.length c:=oq.2.2.shape;dsimp only at Bx;have hgx:=Bx.lt;have hwg:w.heap.size<g:=hwg0
         go_wp2_with fail
         have hgW:g<wr.heap.size:=Bx.lt;refine(z0R g 0 (⟨eh,.slice e1 ebs.length e4,ebs,.slice e2 ers.length e5,ers,.slice e3 eds.length e6,eds⟩:InstQ) n rd 7 wr (⟨⟨Bx.cell 0 _ rfl,Bx.cell 1 _ rfl,Bx.cell 2 _ rfl,Bx.cell 3 _ rfl⟩,instK.own_rd oq⟩:InstP _ g 0 (⟨eh,.slice e1 ebs.length e4,ebs,.slice e2 ers.length e5,ers,.slice e3 eds.length e6,eds⟩:InstQ)) Bx.lt (by rw[z0E];have:=z0u hi;omega) hi).mono ?_;rintro e x4 ⟨q4,rfl,heq4,o4,n4,g4,hb4⟩;have hi4:Hid (prC (InstQ.e (⟨eh,.slice e1 ebs.length e4,ebs,.slice e2 ers.length e5,ers,.slice e3 eds.length e6,eds⟩:InstQ)) n rd 7=0→insF q4.e=0):=fun h9=>by rw[heq4];exact(fun h=>(z05 h).1) h9
         clear heq4;generalize prC (InstQ.e (⟨eh,.slice e1 ebs.length e4,ebs,.slice e2 ers.length e5,ers,.slice e3 eds.length e6,eds⟩:InstQ)) n rd 7=D at*;have hsW:wr.heap.size≤x4.heap.size:=hb4.size;have l4:=instK.own_lt o4;have hU:Out [] wr x4:=Out.of_below hb4;replace hS:=hS.below hb4;replace Bx:=Bx.below hb4;replace R0:=R0.below hb4;replace oq:=instK.own_out oq hU (fun _ _=>by simp);replace hg:=hg.call hb4;clear hb4 hU;obtain⟨fh,fb,fbs,fr,frs,fd,fds⟩:=q4;obtain⟨f1,f4,rfl⟩:∃a c,fb=.slice a fbs.length c:=o4.1.shape;obtain⟨f2,f5,rfl⟩:∃a c,fr=.slice a frs.length c:=o4.2.1.shape;obtain⟨f3,f6,rfl⟩:∃a c,fd=.slice a fds.length c:=o4.2.2.shape;have hb4:Below x4.heap.size x4 (x4.alloc (.cells #[.int .i64 D,.int .i64 0,.bool false,.bool false,.int .i64 0,.bool fh,.slice f1 fbs.length f4,.slice f2 frs.length f5,.slice f3 fds.length f6] 60)):=by go_grown
         have G8:=Blk.new x4 60 #[.int .i64 D,.int .i64 0,.bool false,.bool false,.int .i64 0,.bool fh,.slice f1 fbs.length f4,.slice f2 frs.length f5,.slice f3 fds.length f6];have hU:Out [] x4 (x4.alloc (.cells #[.int .i64 D,.int .i64 0,.bool false,.bool false,.int .i64 0,.bool fh,.slice f1 fbs.length f4,.slice f2 frs.length f5,.slice f3 fds.length f6] 60)):=Out.of_below hb4;replace hS:=hS.below hb4;replace Bx:=Bx.below hb4;replace R0:=R0.below hb4;replace oq:=instK.own_out oq hU (fun _ _=>by simp);replace o4:=instK.own_out o4 hU (fun _ _=>by simp);replace hg:=hg.call hb4;have low4:∀k∈instK.foot (⟨fh,.slice f1 fbs.length f4,fbs,.slice f2 frs.length f5,frs,.slice f3 fds.length f6,fds⟩:InstQ),w.heap.size<k∧k≠g:=fun k hk=>by have:=g4 k hk;have:=l4 k hk;omega
         have r0:=G8.cell 0 _ rfl;clear hb4 hU g4 l4;by_cases hD:D=0
         ·have h4:=hi4.out hD;have hD':(D==0)=true:=by rw[hD];rfl
          clear hD;have r5:=G8.cell 5 _ rfl;have r6:=G8.cell 6 _ rfl;have r7:=G8.cell 7 _ rfl;have r8:=G8.cell 8 _ rfl;have Br:=Bx.row #[.bool fh,.slice f1 fbs.length f4,.slice f2 frs.length f5,.slice f3 fds.length f6];have hsr:(Tryz.prog.info? 49).map (·.size)=some (#[.bool fh,.slice f1 fbs.length f4,.slice f2 frs.length f5,.slice f3 fds.length f6]:Array Value).size:=z0k;have hUr:=z0d (x4.alloc (.cells #[.int .i64 D,.int .i64 0,.bool false,.bool false,.int .i64 0,.bool fh,.slice f1 fbs.length f4,.slice f2 frs.length f5,.slice f3 fds.length f6] 60)) g #[.bool fh,.slice f1 fbs.length f4,.slice f2 frs.length f5,.slice f3 fds.length f6];have HI5:Hid (EndI B b (T+2501+3) g w ((x4.alloc (.cells #[.int .i64 D,.int .i64 0,.bool false,.bool false,.int .i64 0,.bool fh,.slice f1 fbs.length f4,.slice f2 frs.length f5,.slice f3 fds.length f6] 60)).setRow g #[.bool fh,.slice f1 fbs.length f4,.slice f2 frs.length f5,.slice f3 fds.length f6]) (⟨fh,.slice f1 fbs.length f4,fbs,.slice f2 frs.length f5,frs,.slice f3 fds.length f6,fds⟩:InstQ)):=⟨h4,instK.own_out o4 hUr (fun k hk hk'=>by simp only[List.mem_singleton]at hk';have:=low4 k hk;omega),n4,low4,Br,R0.outs hUr (fun hk=>by simp only[List.mem_singleton]at hk;omega),hS.out hUr (by simp only[List.mem_singleton];omega) (fun k hk=>by simp only[List.mem_singleton]at hk;omega),(hg).trans2 hUr (fun k hk=>by simp only[List.mem_singleton]at hk;omega)⟩
          clear Br hUr;clear o4 n4 low4 R0 hg hS h4 oq nq low hi hi4
          go_wp2_with (first|(refine z0b (by kernel_rfl) 49 _ _ rfl _ #[.bool fh,.slice f1 fbs.length f4,.slice f2 frs.length f5,.slice f3 fds.length f6] rfl rfl 49 _ Bx hsr rfl (by simp[Value.oneCell']) ?_))
          clear r0 r5 r6 r7 r8 G8 Bx hsr;go_roundw
          case rel=>exact⟨n+1,_,by go_num,by omega,HI5⟩
          case measure=>simp[intOf];omega
         ·have hD':(D==0)=false:=by simpa using hD
          have HI6:Hid (EndI B b (T+2501+3) g w (x4.alloc (.cells #[.int .i64 D,.int .i64 0,.bool false,.bool false,.int .i64 0,.bool fh,.slice f1 fbs.length f4,.slice f2 frs.length f5,.slice f3 fds.length f6] 60)) (⟨eh,.slice e1 ebs.length e4,ebs,.slice e2 ers.length e5,ers,.slice e3 eds.length e6,eds⟩:InstQ)):=⟨hi,oq,nq,low,Bx,R0,hS,hg⟩
          clear o4 n4 low4 R0 hg hS oq nq low hi hi4 Bx
          go_wp2
          clear r0 G8;go_roundw
          case rel=>exact⟨n+1,_,by go_num,by omega,HI6⟩
          case measure=>simp[intOf];omega
        ·have hn3i:¬(n:Int)<3:=by omega
         go_wp2
         go_loopw[10] (fun c wr=>∃ (n:Nat) (q:InstQ),c=.int .i64 n∧n≤3∧Hid (EndI B b (T+2501+3) g w wr q)) (fun c _=>3-(intOf c).toNat)
         case atStart=>exact⟨0,_,rfl,by omega,HI⟩
         case round=>
          clear HI;obtain⟨n,q,rfl,hn,HI⟩:=hrel;by_cases hn3:n<3
          ·have hn3i:(n:Int)<3:=by omega
           obtain⟨hi,oq,nq,low,Bx,R0,hS,hg⟩:=HI.out;clear HI;obtain⟨eh,eb,ebs,er,ers,ed,eds⟩:=q;obtain⟨e1,e4,rfl⟩:∃a c,eb=.slice a ebs.length c:=oq.1.shape;obtain⟨e2,e5,rfl⟩:∃a c,er=.slice a ers.length c:=oq.2.1.shape;obtain⟨e3,e6,rfl⟩:∃a c,ed=.slice a eds.length c:=oq.2.2.shape;dsimp only at Bx;have hgx:=Bx.lt;have hwg:w.heap.size<g:=hwg0
           go_wp2_with fail
           have hgW:g<wr.heap.size:=Bx.lt;refine(z1z g 0 (⟨eh,.slice e1 ebs.length e4,ebs,.slice e2 ers.length e5,ers,.slice e3 eds.length e6,eds⟩:InstQ) n rd 7 0 wr (⟨⟨Bx.cell 0 _ rfl,Bx.cell 1 _ rfl,Bx.cell 2 _ rfl,Bx.cell 3 _ rfl⟩,instK.own_rd oq⟩:InstP _ g 0 (⟨eh,.slice e1 ebs.length e4,ebs,.slice e2 ers.length e5,ers,.slice e3 eds.length e6,eds⟩:InstQ)) Bx.lt (by rw[z0E];have:=z0u hi;omega) hi).mono ?_;rintro e x4 ⟨q4,rfl,heq4,o4,n4,g4,hb4⟩;have hi4:Hid (goC (InstQ.e (⟨eh,.slice e1 ebs.length e4,ebs,.slice e2 ers.length e5,ers,.slice e3 eds.length e6,eds⟩:InstQ)) n rd 7 0=0→insF q4.e=0):=fun h9=>by rw[heq4];exact(fun h=>(z5v h).1) h9
           clear heq4;generalize goC (InstQ.e (⟨eh,.slice e1 ebs.length e4,ebs,.slice e2 ers.length e5,ers,.slice e3 eds.length e6,eds⟩:InstQ)) n rd 7 0=D at*;generalize goZ (InstQ.e (⟨eh,.slice e1 ebs.length e4,ebs,.slice e2 ers.length e5,ers,.slice e3 eds.length e6,eds⟩:InstQ)) n rd 7 0=K0 at*;generalize goD (InstQ.e (⟨eh,.slice e1 ebs.length e4,ebs,.slice e2 ers.length e5,ers,.slice e3 eds.length e6,eds⟩:InstQ)) n rd 7 0=K1 at*;generalize goK (InstQ.e (⟨eh,.slice e1 ebs.length e4,ebs,.slice e2 ers.length e5,ers,.slice e3 eds.length e6,eds⟩:InstQ)) n rd 7 0=K2 at*;generalize goV (InstQ.e (⟨eh,.slice e1 ebs.length e4,ebs,.slice e2 ers.length e5,ers,.slice e3 eds.length e6,eds⟩:InstQ)) n rd 7 0=K3 at*;have hsW:wr.heap.size≤x4.heap.size:=hb4.size;have l4:=instK.own_lt o4;have hU:Out [] wr x4:=Out.of_below hb4;replace hS:=hS.below hb4;replace Bx:=Bx.below hb4;replace R0:=R0.below hb4;replace oq:=instK.own_out oq hU (fun _ _=>by simp);replace hg:=hg.call hb4;clear hb4 hU;obtain⟨fh,fb,fbs,fr,frs,fd,fds⟩:=q4;obtain⟨f1,f4,rfl⟩:∃a c,fb=.slice a fbs.length c:=o4.1.shape;obtain⟨f2,f5,rfl⟩:∃a c,fr=.slice a frs.length c:=o4.2.1.shape;obtain⟨f3,f6,rfl⟩:∃a c,fd=.slice a fds.length c:=o4.2.2.shape;have hb4:Below x4.heap.size x4 (x4.alloc (.cells #[.int .i64 D,.int .i64 K0,.bool K1,.bool K2,.int .i64 K3,.bool fh,.slice f1 fbs.length f4,.slice f2 frs.length f5,.slice f3 fds.length f6] 60)):=by go_grown
           have G8:=Blk.new x4 60 #[.int .i64 D,.int .i64 K0,.bool K1,.bool K2,.int .i64 K3,.bool fh,.slice f1 fbs.length f4,.slice f2 frs.length f5,.slice f3 fds.length f6];have hU:Out [] x4 (x4.alloc (.cells #[.int .i64 D,.int .i64 K0,.bool K1,.bool K2,.int .i64 K3,.bool fh,.slice f1 fbs.length f4,.slice f2 frs.length f5,.slice f3 fds.length f6] 60)):=Out.of_below hb4;replace hS:=hS.below hb4;replace Bx:=Bx.below hb4;replace R0:=R0.below hb4;replace oq:=instK.own_out oq hU (fun _ _=>by simp);replace o4:=instK.own_out o4 hU (fun _ _=>by simp);replace hg:=hg.call hb4;have low4:∀k∈instK.foot (⟨fh,.slice f1 fbs.length f4,fbs,.slice f2 frs.length f5,frs,.slice f3 fds.length f6,fds⟩:InstQ),w.heap.size<k∧k≠g:=fun k hk=>by have:=g4 k hk;have:=l4 k hk;omega
           have r0:=G8.cell 0 _ rfl;clear hb4 hU g4 l4;by_cases hD:D=0
           ·have h4:=hi4.out hD;have hD':(D==0)=true:=by rw[hD];rfl
            clear hD;have r5:=G8.cell 5 _ rfl;have r6:=G8.cell 6 _ rfl;have r7:=G8.cell 7 _ rfl;have r8:=G8.cell 8 _ rfl;have Br:=Bx.row #[.bool fh,.slice f1 fbs.length f4,.slice f2 frs.length f5,.slice f3 fds.length f6];have hsr:(Tryz.prog.info? 49).map (·.size)=some (#[.bool fh,.slice f1 fbs.length f4,.slice f2 frs.length f5,.slice f3 fds.length f6]:Array Value).size:=z0k;have hUr:=z0d (x4.alloc (.cells #[.int .i64 D,.int .i64 K0,.bool K1,.bool K2,.int .i64 K3,.bool fh,.slice f1 fbs.length f4,.slice f2 frs.length f5,.slice f3 fds.length f6] 60)) g #[.bool fh,.slice f1 fbs.length f4,.slice f2 frs.length f5,.slice f3 fds.length f6];have HI5:Hid (EndI B b (T+2501+3) g w ((x4.alloc (.cells #[.int .i64 D,.int .i64 K0,.bool K1,.bool K2,.int .i64 K3,.bool fh,.slice f1 fbs.length f4,.slice f2 frs.length f5,.slice f3 fds.length f6] 60)).setRow g #[.bool fh,.slice f1 fbs.length f4,.slice f2 frs.length f5,.slice f3 fds.length f6]) (⟨fh,.slice f1 fbs.length f4,fbs,.slice f2 frs.length f5,frs,.slice f3 fds.length f6,fds⟩:InstQ)):=⟨h4,instK.own_out o4 hUr (fun k hk hk'=>by simp only[List.mem_singleton]at hk';have:=low4 k hk;omega),n4,low4,Br,R0.outs hUr (fun hk=>by simp only[List.mem_singleton]at hk;omega),hS.out hUr (by simp only[List.mem_singleton];omega) (fun k hk=>by simp only[List.mem_singleton]at hk;omega),(hg).trans2 hUr (fun k hk=>by simp only[List.mem_singleton]at hk;omega)⟩
            clear Br hUr;clear o4 n4 low4 R0 hg hS h4 oq nq low hi hi4
            go_wp2_with (first|(refine z0b (by kernel_rfl) 49 _ _ rfl _ #[.bool fh,.slice f1 fbs.length f4,.slice f2 frs.length f5,.slice f3 fds.length f6] rfl rfl 49 _ Bx hsr rfl (by simp[Value.oneCell']) ?_))
            clear r0 r5 r6 r7 r8 G8 Bx hsr;go_roundw
            case rel=>exact⟨n+1,_,by go_num,by omega,HI5⟩
            case measure=>simp[intOf];omega
           ·have hD':(D==0)=false:=by simpa using hD
            have HI6:Hid (EndI B b (T+2501+3) g w (x4.alloc (.cells #[.int .i64 D,.int .i64 K0,.bool K1,.bool K2,.int .i64 K3,.bool fh,.slice f1 fbs.length f4,.slice f2 frs.length f5,.slice f3 fds.length f6] 60)) (⟨eh,.slice e1 ebs.length e4,ebs,.slice e2 ers.length e5,ers,.slice e3 eds.length e6,eds⟩:InstQ)):=⟨hi,oq,nq,low,Bx,R0,hS,hg⟩
            clear o4 n4 low4 R0 hg hS oq nq low hi hi4 Bx
            go_wp2
            clear r0 G8;go_roundw
            case rel=>exact⟨n+1,_,by go_num,by omega,HI6⟩
            case measure=>simp[intOf];omega
          ·have hn3i:¬(n:Int)<3:=by omega
           go_wp2
           go_roundw
           case rel=>exact⟨rd+1,_,by go_num,by omega,HI⟩
           case measure=>simp[intOf];omega
      ·have hov':(outV eds==3)=false:=by simpa using hov
       generalize outV eds=OV at*;clear hP hli hov;have Rr:=R0.row #[.bool eh,.slice e1 ebs.length e4,.slice e2 ers.length e5,.slice e3 eds.length e6];have hsr:(Tryz.prog.info? 49).map (·.size)=some (#[.bool eh,.slice e1 ebs.length e4,.slice e2 ers.length e5,.slice e3 eds.length e6]:Array Value).size:=z0k;have hUr:=z0d wr w.heap.size #[.bool eh,.slice e1 ebs.length e4,.slice e2 ers.length e5,.slice e3 eds.length e6];have HZ:Hid (instK.own (wr.setRow w.heap.size #[.bool eh,.slice e1 ebs.length e4,.slice e2 ers.length e5,.slice e3 eds.length e6]) (⟨eh,.slice e1 ebs.length e4,ebs,.slice e2 ers.length e5,ers,.slice e3 eds.length e6,eds⟩:InstQ)∧Src B (wr.setRow w.heap.size #[.bool eh,.slice e1 ebs.length e4,.slice e2 ers.length e5,.slice e3 eds.length e6]) b (T+2600)∧w.grownBy (wr.setRow w.heap.size #[.bool eh,.slice e1 ebs.length e4,.slice e2 ers.length e5,.slice e3 eds.length e6]) (some b)):=by
        refine⟨instK.own_out oq hUr (fun k hk hk'=>by simp only[List.mem_singleton]at hk';have:=low k hk;omega),?_,?_⟩
        ·exact(hS.out hUr (by simp only[List.mem_singleton];omega) (fun k hk=>by simp only[List.mem_singleton]at hk;omega)).mono (by omega)
        ·exact z0g (z0I hg) hUr (fun k hk=>by simp only[List.mem_singleton]at hk;omega)
       have HQ:Hid (insF (InstQ.e (⟨eh,.slice e1 ebs.length e4,ebs,.slice e2 ers.length e5,ers,.slice e3 eds.length e6,eds⟩:InstQ))=0∧(instK.foot (⟨eh,.slice e1 ebs.length e4,ebs,.slice e2 ers.length e5,ers,.slice e3 eds.length e6,eds⟩:InstQ)).Nodup∧∀k∈instK.foot (⟨eh,.slice e1 ebs.length e4,ebs,.slice e2 ers.length e5,ers,.slice e3 eds.length e6,eds⟩:InstQ),w.heap.size≤k):=⟨hi,nq,fun k hk=>by have:=low k hk;omega⟩
       have p0:=Bx.cell 0 _ rfl;have p1:=Bx.cell 1 _ rfl;have p2:=Bx.cell 2 _ rfl;have p3:=Bx.cell 3 _ rfl;clear oq nq low hS hg hi hUr Bx
       go_wp2_with (first|(refine z0b (by kernel_rfl) 49 _ _ rfl _ #[.bool eh,.slice e1 ebs.length e4,.slice e2 ers.length e5,.slice e3 eds.length e6] rfl rfl 49 _ R0 hsr rfl (by simp[Value.oneCell']) ?_))
       have q0:=Rr.cell 0 _ rfl;have q1:=Rr.cell 1 _ rfl;have q2:=Rr.cell 2 _ rfl;have q3:=Rr.cell 3 _ rfl;exact bodyPost_ret (v:=.agg #[.bool eh,.slice e1 ebs.length e4,.slice e2 ers.length e5,.slice e3 eds.length e6]) (by simp[results,Tryz.results113,go_sem,q0,q1,q2,q3]) rfl ⟨(⟨eh,.slice e1 ebs.length e4,ebs,.slice e2 ers.length e5,ers,.slice e3 eds.length e6,eds⟩:InstQ),rfl,HQ.out.1,HZ.out.1,HQ.out.2.1,HQ.out.2.2,HZ.out.2.1,HZ.out.2.2⟩
     ·have hr4i:¬(rd:Int)<4:=by omega
      clear hP hli;have Rr:=R0.row #[.bool eh,.slice e1 ebs.length e4,.slice e2 ers.length e5,.slice e3 eds.length e6];have hsr:(Tryz.prog.info? 49).map (·.size)=some (#[.bool eh,.slice e1 ebs.length e4,.slice e2 ers.length e5,.slice e3 eds.length e6]:Array Value).size:=z0k;have hUr:=z0d wr w.heap.size #[.bool eh,.slice e1 ebs.length e4,.slice e2 ers.length e5,.slice e3 eds.length e6];have HZ:Hid (instK.own (wr.setRow w.heap.size #[.bool eh,.slice e1 ebs.length e4,.slice e2 ers.length e5,.slice e3 eds.length e6]) (⟨eh,.slice e1 ebs.length e4,ebs,.slice e2 ers.length e5,ers,.slice e3 eds.length e6,eds⟩:InstQ)∧Src B (wr.setRow w.heap.size #[.bool eh,.slice e1 ebs.length e4,.slice e2 ers.length e5,.slice e3 eds.length e6]) b (T+2600)∧w.grownBy (wr.setRow w.heap.size #[.bool eh,.slice e1 ebs.length e4,.slice e2 ers.length e5,.slice e3 eds.length e6]) (some b)):=by
       refine⟨instK.own_out oq hUr (fun k hk hk'=>by simp only[List.mem_singleton]at hk';have:=low k hk;omega),?_,?_⟩
       ·exact(hS.out hUr (by simp only[List.mem_singleton];omega) (fun k hk=>by simp only[List.mem_singleton]at hk;omega)).mono (by omega)
       ·exact z0g (z0I hg) hUr (fun k hk=>by simp only[List.mem_singleton]at hk;omega)
      have HQ:Hid (insF (InstQ.e (⟨eh,.slice e1 ebs.length e4,ebs,.slice e2 ers.length e5,ers,.slice e3 eds.length e6,eds⟩:InstQ))=0∧(instK.foot (⟨eh,.slice e1 ebs.length e4,ebs,.slice e2 ers.length e5,ers,.slice e3 eds.length e6,eds⟩:InstQ)).Nodup∧∀k∈instK.foot (⟨eh,.slice e1 ebs.length e4,ebs,.slice e2 ers.length e5,ers,.slice e3 eds.length e6,eds⟩:InstQ),w.heap.size≤k):=⟨hi,nq,fun k hk=>by have:=low k hk;omega⟩
      have p0:=Bx.cell 0 _ rfl;have p1:=Bx.cell 1 _ rfl;have p2:=Bx.cell 2 _ rfl;have p3:=Bx.cell 3 _ rfl;clear oq nq low hS hg hi hUr Bx
      go_wp2_with (first|(refine z0b (by kernel_rfl) 49 _ _ rfl _ #[.bool eh,.slice e1 ebs.length e4,.slice e2 ers.length e5,.slice e3 eds.length e6] rfl rfl 49 _ R0 hsr rfl (by simp[Value.oneCell']) ?_))
      have q0:=Rr.cell 0 _ rfl;have q1:=Rr.cell 1 _ rfl;have q2:=Rr.cell 2 _ rfl;have q3:=Rr.cell 3 _ rfl;exact bodyPost_ret (v:=.agg #[.bool eh,.slice e1 ebs.length e4,.slice e2 ers.length e5,.slice e3 eds.length e6]) (by simp[results,Tryz.results113,go_sem,q0,q1,q2,q3]) rfl ⟨(⟨eh,.slice e1 ebs.length e4,ebs,.slice e2 ers.length e5,ers,.slice e3 eds.length e6,eds⟩:InstQ),rfl,HQ.out.1,HZ.out.1,HQ.out.2.1,HQ.out.2.2,HZ.out.2.1,HZ.out.2.2⟩
 |false=>
  go_wp2_with fail
  refine(z3j B b (T+1) x2 hS (by omega)).mono ?_;rintro e x3 ⟨vb,bs,rfl,hbat,hbl,hba,oB,nB,gB,hSn,hgn⟩;have hU:Out [b] x2 x3:=Out.of_grown hgn;replace hS:=hSn;replace Bx:=Bx.outs hU (fun hk=>by simp only[List.mem_singleton]at hk;omega);replace R0:=R0.outs hU (fun hk=>by simp only[List.mem_singleton]at hk;omega);replace oq:=instK.own_out oq hU (fun k hk hk'=>by simp only[List.mem_singleton]at hk';have:=low k hk;omega);replace hg:=hg.trans hU;clear hU hSn hgn nB gB;have hbn:bs.length+nmL TxnQ.n bs≤1048576:=by
   have h9:nmL TxnQ.n bs≤3*bs.length:=z6Z bs hba;omega
  have hsb:sbC (InstQ.e (⟨eh,.slice e1 ebs.length e4,ebs,.slice e2 ers.length e5,ers,.slice e3 eds.length e6,eds⟩:InstQ)) (bs.map TxnQ.e)=0:=by unfold sbC;rw[if_pos hi,if_neg (by show¬eh=true;rw[hnh.out];decide)];exact hbat
  have hls:=z5t g 0 (⟨eh,.slice e1 ebs.length e4,ebs,.slice e2 ers.length e5,ers,.slice e3 eds.length e6,eds⟩:InstQ) vb bs x3 ⟨⟨Bx.cell 0 _ rfl,Bx.cell 1 _ rfl,Bx.cell 2 _ rfl,Bx.cell 3 _ rfl⟩,instK.own_rd oq⟩ Bx.lt (by rw[z0E];have:=z0u hi;omega) hi oB.at hbn;obtain⟨bva,bvc,rfl⟩:=oB.shape
  go_wp2_with fail
  refine hls.mono ?_;rintro e x4 ⟨q4,rfl,heq4,o4,n4,g4,hb4⟩;rw[hsb];have h4:insF q4.e=0:=by rw[heq4];exact z4r (z7V hsb)
  have hs2:=Bx.lt;replace hS:=hS.below hb4;replace Bx:=Bx.below hb4;replace R0:=R0.below hb4;replace hg:=hg.call hb4;have low4:∀k∈instK.foot q4,w.heap.size<k∧k≠g:=fun k hk=>by have:=g4 k hk;omega
  clear hb4 oq nq low hi g4 heq4 hls hsb hbat hbl hba oB hbn;obtain⟨fh,fb,fbs,fr,frs,fd,fds⟩:=q4;obtain⟨f1,f4,rfl⟩:∃a c,fb=.slice a fbs.length c:=o4.1.shape;obtain⟨f2,f5,rfl⟩:∃a c,fr=.slice a frs.length c:=o4.2.1.shape;obtain⟨f3,f6,rfl⟩:∃a c,fd=.slice a fds.length c:=o4.2.2.shape;have hfd:=z8P fh f1 fbs.length f4 f2 frs.length f5 f3 fds.length f6;have Br:=Bx.row #[.bool fh,.slice f1 fbs.length f4,.slice f2 frs.length f5,.slice f3 fds.length f6];have hsr:(Tryz.prog.info? 49).map (·.size)=some (#[.bool fh,.slice f1 fbs.length f4,.slice f2 frs.length f5,.slice f3 fds.length f6]:Array Value).size:=z0k;have hUr:=z0d x4 g #[.bool fh,.slice f1 fbs.length f4,.slice f2 frs.length f5,.slice f3 fds.length f6];have HI5:Hid (EndI B b (T+1+50) g w (x4.setRow g #[.bool fh,.slice f1 fbs.length f4,.slice f2 frs.length f5,.slice f3 fds.length f6]) (⟨fh,.slice f1 fbs.length f4,fbs,.slice f2 frs.length f5,frs,.slice f3 fds.length f6,fds⟩:InstQ)):=⟨h4,instK.own_out o4 hUr (fun k hk hk'=>by simp only[List.mem_singleton]at hk';have:=low4 k hk;omega),n4,low4,Br,R0.outs hUr (fun hk=>by simp only[List.mem_singleton]at hk;omega),hS.out hUr (by simp only[List.mem_singleton];omega) (fun k hk=>by simp only[List.mem_singleton]at hk;omega),(hg).trans2 hUr (fun k hk=>by simp only[List.mem_singleton]at hk;omega)⟩
  clear Br hUr;have hS5:=hS.out (z0d x4 g #[.bool fh,.slice f1 fbs.length f4,.slice f2 frs.length f5,.slice f3 fds.length f6]) (by simp only[List.mem_singleton];omega) (fun k hk=>by simp only[List.mem_singleton]at hk;omega);clear o4 n4 low4 R0 hg hS h4
  go_wp2_with (first|(refine z0b (by kernel_rfl) 49 _ _ rfl _ #[.bool fh,.slice f1 fbs.length f4,.slice f2 frs.length f5,.slice f3 fds.length f6] rfl rfl 49 _ Bx hsr rfl (by simp[Value.oneCell']) ?_)|fail)
  clear hfd hsr Bx;generalize x4.setRow g #[.bool fh,.slice f1 fbs.length f4,.slice f2 frs.length f5,.slice f3 fds.length f6]=X5 at*;refine(z0h B b (T+1+50) 5 X5 hS5 (by omega) (by omega)).mono ?_;rintro e x6 ⟨r5,rfl,hr5,hSn,hgn⟩;have HI0:Hid (EndI B b (T+52+0) g w x6 (⟨fh,.slice f1 fbs.length f4,fbs,.slice f2 frs.length f5,frs,.slice f3 fds.length f6,fds⟩:InstQ)):=by
   obtain⟨hi,oq,nq,low,Bx,R0,hS,hg⟩:=HI5.out;have hU:Out [b] X5 x6:=Out.of_grown hgn;exact⟨hi,instK.own_out oq hU (fun k hk hk'=>by simp only[List.mem_singleton]at hk';have:=low k hk;omega),nq,low,Bx.outs hU (fun hk=>by simp only[List.mem_singleton]at hk;omega),R0.outs hU (fun hk=>by simp only[List.mem_singleton]at hk;omega),hSn,hg.trans hU⟩
  clear HI5 hSn hgn hS5;have hwg0:w.heap.size<g:=by omega
  have h50:=hr5.1;have h55:=hr5.2.1 (by omega);clear hr5;obtain hz|hz:r5<4∨r5=4:=by omega
  ·have hq:r5 / 4=0:=by omega
   have hq':r5.tdiv 4=0:=by rw[Int.tdiv_eq_ediv_of_nonneg h50];exact hq
   go_wp2
   clear hq hq' hz h50 h55;go_loopw[5] (fun c wr=>∃ (n:Nat) (q:InstQ),c=.int .i64 n∧n≤3∧Hid (EndI B b (T+52+n) g w wr q)) (fun c _=>3-(intOf c).toNat)
   case atStart=>exact⟨0,_,rfl,by omega,HI0⟩
   case round=>
    clear HI0;obtain⟨n,q,rfl,hn,HI⟩:=hrel;by_cases hn3:n<3
    ·have hn3i:(n:Int)<3:=by omega
     obtain⟨hi,oq,nq,low,Bx,R0,hS,hg⟩:=HI.out;clear HI;obtain⟨eh,eb,ebs,er,ers,ed,eds⟩:=q;obtain⟨e1,e4,rfl⟩:∃a c,eb=.slice a ebs.length c:=oq.1.shape;obtain⟨e2,e5,rfl⟩:∃a c,er=.slice a ers.length c:=oq.2.1.shape;obtain⟨e3,e6,rfl⟩:∃a c,ed=.slice a eds.length c:=oq.2.2.shape;dsimp only at Bx;have hgx:=Bx.lt;have hwg:w.heap.size<g:=hwg0
     go_wp2_with fail
     refine(z0h B b (T+52+n) 9 wr hS (by omega) (by omega)).mono ?_;rintro e x2 ⟨r9,rfl,hr9,hSn,hgn⟩;have hU:Out [b] wr x2:=Out.of_grown hgn;replace hS:=hSn;replace Bx:=Bx.outs hU (fun hk=>by simp only[List.mem_singleton]at hk;omega);replace R0:=R0.outs hU (fun hk=>by simp only[List.mem_singleton]at hk;omega);replace oq:=instK.own_out oq hU (fun k hk hk'=>by simp only[List.mem_singleton]at hk';have:=low k hk;omega);replace hg:=hg.trans hU;clear hU hSn hgn hr9
     go_wp2_with fail
     refine(z3U (1) r9 x2).mono ?_;rintro e x3 ⟨mv,rfl,hx3⟩;replace hx3:=hx3.symm;subst hx3
     go_wp2_with fail
     have hgW:g<x2.heap.size:=Bx.lt;refine(z1J g 0 (⟨eh,.slice e1 ebs.length e4,ebs,.slice e2 ers.length e5,ers,.slice e3 eds.length e6,eds⟩:InstQ) n mv x2 (⟨⟨Bx.cell 0 _ rfl,Bx.cell 1 _ rfl,Bx.cell 2 _ rfl,Bx.cell 3 _ rfl⟩,instK.own_rd oq⟩:InstP _ g 0 (⟨eh,.slice e1 ebs.length e4,ebs,.slice e2 ers.length e5,ers,.slice e3 eds.length e6,eds⟩:InstQ)) Bx.lt (by rw[z0E];have:=z0u hi;omega) hi).mono ?_;rintro e x4 ⟨q4,rfl,heq4,o4,n4,g4,hb4⟩;have hi4:Hid (frC (InstQ.e (⟨eh,.slice e1 ebs.length e4,ebs,.slice e2 ers.length e5,ers,.slice e3 eds.length e6,eds⟩:InstQ)) n mv=0→insF q4.e=0):=fun h9=>by rw[heq4];exact z2y h9
     clear heq4;generalize frC (InstQ.e (⟨eh,.slice e1 ebs.length e4,ebs,.slice e2 ers.length e5,ers,.slice e3 eds.length e6,eds⟩:InstQ)) n mv=D at*;have hsW:x2.heap.size≤x4.heap.size:=hb4.size;have l4:=instK.own_lt o4;have hU:Out [] x2 x4:=Out.of_below hb4;replace hS:=hS.below hb4;replace Bx:=Bx.below hb4;replace R0:=R0.below hb4;replace oq:=instK.own_out oq hU (fun _ _=>by simp);replace hg:=hg.call hb4;clear hb4 hU;obtain⟨fh,fb,fbs,fr,frs,fd,fds⟩:=q4;obtain⟨f1,f4,rfl⟩:∃a c,fb=.slice a fbs.length c:=o4.1.shape;obtain⟨f2,f5,rfl⟩:∃a c,fr=.slice a frs.length c:=o4.2.1.shape;obtain⟨f3,f6,rfl⟩:∃a c,fd=.slice a fds.length c:=o4.2.2.shape;have hb4:Below x4.heap.size x4 (x4.alloc (.cells #[.int .i64 D,.int .i64 0,.bool false,.bool false,.int .i64 0,.bool fh,.slice f1 fbs.length f4,.slice f2 frs.length f5,.slice f3 fds.length f6] 60)):=by go_grown
     have G8:=Blk.new x4 60 #[.int .i64 D,.int .i64 0,.bool false,.bool false,.int .i64 0,.bool fh,.slice f1 fbs.length f4,.slice f2 frs.length f5,.slice f3 fds.length f6];have hU:Out [] x4 (x4.alloc (.cells #[.int .i64 D,.int .i64 0,.bool false,.bool false,.int .i64 0,.bool fh,.slice f1 fbs.length f4,.slice f2 frs.length f5,.slice f3 fds.length f6] 60)):=Out.of_below hb4;replace hS:=hS.below hb4;replace Bx:=Bx.below hb4;replace R0:=R0.below hb4;replace oq:=instK.own_out oq hU (fun _ _=>by simp);replace o4:=instK.own_out o4 hU (fun _ _=>by simp);replace hg:=hg.call hb4;have low4:∀k∈instK.foot (⟨fh,.slice f1 fbs.length f4,fbs,.slice f2 frs.length f5,frs,.slice f3 fds.length f6,fds⟩:InstQ),w.heap.size<k∧k≠g:=fun k hk=>by have:=g4 k hk;have:=l4 k hk;omega
     have r0:=G8.cell 0 _ rfl;clear hb4 hU g4 l4;by_cases hD:D=0
     ·have h4:=hi4.out hD;have hD':(D==0)=true:=by rw[hD];rfl
      clear hD;have r5:=G8.cell 5 _ rfl;have r6:=G8.cell 6 _ rfl;have r7:=G8.cell 7 _ rfl;have r8:=G8.cell 8 _ rfl;have Br:=Bx.row #[.bool fh,.slice f1 fbs.length f4,.slice f2 frs.length f5,.slice f3 fds.length f6];have hsr:(Tryz.prog.info? 49).map (·.size)=some (#[.bool fh,.slice f1 fbs.length f4,.slice f2 frs.length f5,.slice f3 fds.length f6]:Array Value).size:=z0k;have hUr:=z0d (x4.alloc (.cells #[.int .i64 D,.int .i64 0,.bool false,.bool false,.int .i64 0,.bool fh,.slice f1 fbs.length f4,.slice f2 frs.length f5,.slice f3 fds.length f6] 60)) g #[.bool fh,.slice f1 fbs.length f4,.slice f2 frs.length f5,.slice f3 fds.length f6];have HI5:Hid (EndI B b (T+52+(n+1)) g w ((x4.alloc (.cells #[.int .i64 D,.int .i64 0,.bool false,.bool false,.int .i64 0,.bool fh,.slice f1 fbs.length f4,.slice f2 frs.length f5,.slice f3 fds.length f6] 60)).setRow g #[.bool fh,.slice f1 fbs.length f4,.slice f2 frs.length f5,.slice f3 fds.length f6]) (⟨fh,.slice f1 fbs.length f4,fbs,.slice f2 frs.length f5,frs,.slice f3 fds.length f6,fds⟩:InstQ)):=⟨h4,instK.own_out o4 hUr (fun k hk hk'=>by simp only[List.mem_singleton]at hk';have:=low4 k hk;omega),n4,low4,Br,R0.outs hUr (fun hk=>by simp only[List.mem_singleton]at hk;omega),hS.out hUr (by simp only[List.mem_singleton];omega) (fun k hk=>by simp only[List.mem_singleton]at hk;omega),(hg).trans2 hUr (fun k hk=>by simp only[List.mem_singleton]at hk;omega)⟩
      clear Br hUr;clear o4 n4 low4 R0 hg hS h4 oq nq low hi hi4
      go_wp2_with (first|(refine z0b (by kernel_rfl) 49 _ _ rfl _ #[.bool fh,.slice f1 fbs.length f4,.slice f2 frs.length f5,.slice f3 fds.length f6] rfl rfl 49 _ Bx hsr rfl (by simp[Value.oneCell']) ?_))
      clear r0 r5 r6 r7 r8 G8 Bx hsr;go_roundw
      case rel=>exact⟨n+1,_,by go_num,by omega,HI5⟩
      case measure=>simp[intOf];omega
     ·have hD':(D==0)=false:=by simpa using hD
      have HI6:Hid (EndI B b (T+52+(n+1)) g w (x4.alloc (.cells #[.int .i64 D,.int .i64 0,.bool false,.bool false,.int .i64 0,.bool fh,.slice f1 fbs.length f4,.slice f2 frs.length f5,.slice f3 fds.length f6] 60)) (⟨eh,.slice e1 ebs.length e4,ebs,.slice e2 ers.length e5,ers,.slice e3 eds.length e6,eds⟩:InstQ)):=⟨hi,oq,nq,low,Bx,R0,hS,hg⟩
      clear o4 n4 low4 R0 hg hS oq nq low hi hi4 Bx
      go_wp2
      clear r0 G8;go_roundw
      case rel=>exact⟨n+1,_,by go_num,by omega,HI6⟩
      case measure=>simp[intOf];omega
    ·have hn3i:¬(n:Int)<3:=by omega
     obtain rfl:n=3:=by omega
     go_wp2
     go_loopw[7] (fun c wr=>∃ (n:Nat) (q:InstQ),c=.int .i64 n∧n≤4∧Hid (EndI B b (T+52+3) g w wr q)) (fun c _=>4-(intOf c).toNat)
     case atStart=>exact⟨0,_,rfl,by omega,HI⟩
     case round=>
      clear HI;obtain⟨rd,q,rfl,hrd,HI⟩:=hrel;obtain⟨hi,oq,nq,low,Bx,R0,hS,hg⟩:=HI.out;clear HI;obtain⟨eh,eb,ebs,er,ers,ed,eds⟩:=q;obtain⟨e1,e4,rfl⟩:∃a c,eb=.slice a ebs.length c:=oq.1.shape;obtain⟨e2,e5,rfl⟩:∃a c,er=.slice a ers.length c:=oq.2.1.shape;obtain⟨e3,e6,rfl⟩:∃a c,ed=.slice a eds.length c:=oq.2.2.shape;dsimp only at Bx;have hgx:=Bx.lt;have hwg:w.heap.size<g:=hwg0;have hli:InstQ.n (⟨eh,.slice e1 ebs.length e4,ebs,.slice e2 ers.length e5,ers,.slice e3 eds.length e6,eds⟩:InstQ)≤1048576:=(by rw[z0E];have:=z0u hi;omega)
      have hP:=(⟨⟨Bx.cell 0 _ rfl,Bx.cell 1 _ rfl,Bx.cell 2 _ rfl,Bx.cell 3 _ rfl⟩,instK.own_rd oq⟩:InstP _ g 0 (⟨eh,.slice e1 ebs.length e4,ebs,.slice e2 ers.length e5,ers,.slice e3 eds.length e6,eds⟩:InstQ))
      by_cases hr4:rd<4
      ·have hr4i:(rd:Int)<4:=by omega
       go_wp2_with fail
       refine(z0L g 0 (⟨eh,.slice e1 ebs.length e4,ebs,.slice e2 ers.length e5,ers,.slice e3 eds.length e6,eds⟩:InstQ) wr hP hli).mono ?_;rintro e x3 ⟨rfl,hx3⟩;replace hx3:=hx3.symm;subst hx3;dsimp only;by_cases hov:outV eds=3
       ·have hov':(outV eds==3)=true:=by rw[hov];rfl
        have HI1:Hid (EndI B b (T+52+3) g w wr (⟨eh,.slice e1 ebs.length e4,ebs,.slice e2 ers.length e5,ers,.slice e3 eds.length e6,eds⟩:InstQ)):=⟨hi,oq,nq,low,Bx,R0,hS,hg⟩
        clear oq nq low Bx R0 hS hg hi hP hli;generalize outV eds=OV at*;clear hov
        go_wp2
        go_loopw[8] (fun c wr=>∃ (n:Nat) (q:InstQ),c=.int .i64 n∧n≤3∧Hid (EndI B b (T+52+3) g w wr q)) (fun c _=>3-(intOf c).toNat)
        case atStart=>exact⟨0,_,rfl,by omega,HI1⟩
        case round=>
         clear HI1;obtain⟨n,q,rfl,hn,HI⟩:=hrel;by_cases hn3:n<3
         ·have hn3i:(n:Int)<3:=by omega
          obtain⟨hi,oq,nq,low,Bx,R0,hS,hg⟩:=HI.out;clear HI;obtain⟨eh,eb,ebs,er,ers,ed,eds⟩:=q;obtain⟨e1,e4,rfl⟩:∃a c,eb=.slice a ebs.length c:=oq.1.shape;obtain⟨e2,e5,rfl⟩:∃a c,er=.slice a ers.length c:=oq.2.1.shape;obtain⟨e3,e6,rfl⟩:∃a c,ed=.slice a eds.length c:=oq.2.2.shape;dsimp only at Bx;have hgx:=Bx.lt;have hwg:w.heap.size<g:=hwg0
          go_wp2_with fail
          have hgW:g<wr.heap.size:=Bx.lt;refine(z0R g 0 (⟨eh,.slice e1 ebs.length e4,ebs,.slice e2 ers.length e5,ers,.slice e3 eds.length e6,eds⟩:InstQ) n rd 7 wr (⟨⟨Bx.cell 0 _ rfl,Bx.cell 1 _ rfl,Bx.cell 2 _ rfl,Bx.cell 3 _ rfl⟩,instK.own_rd oq⟩:InstP _ g 0 (⟨eh,.slice e1 ebs.length e4,ebs,.slice e2 ers.length e5,ers,.slice e3 eds.length e6,eds⟩:InstQ)) Bx.lt (by rw[z0E];have:=z0u hi;omega) hi).mono ?_;rintro e x4 ⟨q4,rfl,heq4,o4,n4,g4,hb4⟩;have hi4:Hid (prC (InstQ.e (⟨eh,.slice e1 ebs.length e4,ebs,.slice e2 ers.length e5,ers,.slice e3 eds.length e6,eds⟩:InstQ)) n rd 7=0→insF q4.e=0):=fun h9=>by rw[heq4];exact(fun h=>(z05 h).1) h9
          clear heq4;generalize prC (InstQ.e (⟨eh,.slice e1 ebs.length e4,ebs,.slice e2 ers.length e5,ers,.slice e3 eds.length e6,eds⟩:InstQ)) n rd 7=D at*;have hsW:wr.heap.size≤x4.heap.size:=hb4.size;have l4:=instK.own_lt o4;have hU:Out [] wr x4:=Out.of_below hb4;replace hS:=hS.below hb4;replace Bx:=Bx.below hb4;replace R0:=R0.below hb4;replace oq:=instK.own_out oq hU (fun _ _=>by simp);replace hg:=hg.call hb4;clear hb4 hU;obtain⟨fh,fb,fbs,fr,frs,fd,fds⟩:=q4;obtain⟨f1,f4,rfl⟩:∃a c,fb=.slice a fbs.length c:=o4.1.shape;obtain⟨f2,f5,rfl⟩:∃a c,fr=.slice a frs.length c:=o4.2.1.shape;obtain⟨f3,f6,rfl⟩:∃a c,fd=.slice a fds.length c:=o4.2.2.shape;have hb4:Below x4.heap.size x4 (x4.alloc (.cells #[.int .i64 D,.int .i64 0,.bool false,.bool false,.int .i64 0,.bool fh,.slice f1 fbs.length f4,.slice f2 frs.length f5,.slice f3 fds.length f6] 60)):=by go_grown
          have G8:=Blk.new x4 60 #[.int .i64 D,.int .i64 0,.bool false,.bool false,.int .i64 0,.bool fh,.slice f1 fbs.length f4,.slice f2 frs.length f5,.slice f3 fds.length f6];have hU:Out [] x4 (x4.alloc (.cells #[.int .i64 D,.int .i64 0,.bool false,.bool false,.int .i64 0,.bool fh,.slice f1 fbs.length f4,.slice f2 frs.length f5,.slice f3 fds.length f6] 60)):=Out.of_below hb4;replace hS:=hS.below hb4;replace Bx:=Bx.below hb4;replace R0:=R0.below hb4;replace oq:=instK.own_out oq hU (fun _ _=>by simp);replace o4:=instK.own_out o4 hU (fun _ _=>by simp);replace hg:=hg.call hb4;have low4:∀k∈instK.foot (⟨fh,.slice f1 fbs.length f4,fbs,.slice f2 frs.length f5,frs,.slice f3 fds.length f6,fds⟩:InstQ),w.heap.size<k∧k≠g:=fun k hk=>by have:=g4 k hk;have:=l4 k hk;omega
          have r0:=G8.cell 0 _ rfl;clear hb4 hU g4 l4;by_cases hD:D=0
          ·have h4:=hi4.out hD;have hD':(D==0)=true:=by rw[hD];rfl
           clear hD;have r5:=G8.cell 5 _ rfl;have r6:=G8.cell 6 _ rfl;have r7:=G8.cell 7 _ rfl;have r8:=G8.cell 8 _ rfl;have Br:=Bx.row #[.bool fh,.slice f1 fbs.length f4,.slice f2 frs.length f5,.slice f3 fds.length f6];have hsr:(Tryz.prog.info? 49).map (·.size)=some (#[.bool fh,.slice f1 fbs.length f4,.slice f2 frs.length f5,.slice f3 fds.length f6]:Array Value).size:=z0k;have hUr:=z0d (x4.alloc (.cells #[.int .i64 D,.int .i64 0,.bool false,.bool false,.int .i64 0,.bool fh,.slice f1 fbs.length f4,.slice f2 frs.length f5,.slice f3 fds.length f6] 60)) g #[.bool fh,.slice f1 fbs.length f4,.slice f2 frs.length f5,.slice f3 fds.length f6];have HI5:Hid (EndI B b (T+52+3) g w ((x4.alloc (.cells #[.int .i64 D,.int .i64 0,.bool false,.bool false,.int .i64 0,.bool fh,.slice f1 fbs.length f4,.slice f2 frs.length f5,.slice f3 fds.length f6] 60)).setRow g #[.bool fh,.slice f1 fbs.length f4,.slice f2 frs.length f5,.slice f3 fds.length f6]) (⟨fh,.slice f1 fbs.length f4,fbs,.slice f2 frs.length f5,frs,.slice f3 fds.length f6,fds⟩:InstQ)):=⟨h4,instK.own_out o4 hUr (fun k hk hk'=>by simp only[List.mem_singleton]at hk';have:=low4 k hk;omega),n4,low4,Br,R0.outs hUr (fun hk=>by simp only[List.mem_singleton]at hk;omega),hS.out hUr (by simp only[List.mem_singleton];omega) (fun k hk=>by simp only[List.mem_singleton]at hk;omega),(hg).trans2 hUr (fun k hk=>by simp only[List.mem_singleton]at hk;omega)⟩
           clear Br hUr;clear o4 n4 low4 R0 hg hS h4 oq nq low hi hi4
           go_wp2_with (first|(refine z0b (by kernel_rfl) 49 _ _ rfl _ #[.bool fh,.slice f1 fbs.length f4,.slice f2 frs.length f5,.slice f3 fds.length f6] rfl rfl 49 _ Bx hsr rfl (by simp[Value.oneCell']) ?_))
           clear r0 r5 r6 r7 r8 G8 Bx hsr;go_roundw
           case rel=>exact⟨n+1,_,by go_num,by omega,HI5⟩
           case measure=>simp[intOf];omega
          ·have hD':(D==0)=false:=by simpa using hD
           have HI6:Hid (EndI B b (T+52+3) g w (x4.alloc (.cells #[.int .i64 D,.int .i64 0,.bool false,.bool false,.int .i64 0,.bool fh,.slice f1 fbs.length f4,.slice f2 frs.length f5,.slice f3 fds.length f6] 60)) (⟨eh,.slice e1 ebs.length e4,ebs,.slice e2 ers.length e5,ers,.slice e3 eds.length e6,eds⟩:InstQ)):=⟨hi,oq,nq,low,Bx,R0,hS,hg⟩
           clear o4 n4 low4 R0 hg hS oq nq low hi hi4 Bx
           go_wp2
           clear r0 G8;go_roundw
           case rel=>exact⟨n+1,_,by go_num,by omega,HI6⟩
           case measure=>simp[intOf];omega
         ·have hn3i:¬(n:Int)<3:=by omega
          go_wp2
          go_loopw[10] (fun c wr=>∃ (n:Nat) (q:InstQ),c=.int .i64 n∧n≤3∧Hid (EndI B b (T+52+3) g w wr q)) (fun c _=>3-(intOf c).toNat)
          case atStart=>exact⟨0,_,rfl,by omega,HI⟩
          case round=>
           clear HI;obtain⟨n,q,rfl,hn,HI⟩:=hrel;by_cases hn3:n<3
           ·have hn3i:(n:Int)<3:=by omega
            obtain⟨hi,oq,nq,low,Bx,R0,hS,hg⟩:=HI.out;clear HI;obtain⟨eh,eb,ebs,er,ers,ed,eds⟩:=q;obtain⟨e1,e4,rfl⟩:∃a c,eb=.slice a ebs.length c:=oq.1.shape;obtain⟨e2,e5,rfl⟩:∃a c,er=.slice a ers.length c:=oq.2.1.shape;obtain⟨e3,e6,rfl⟩:∃a c,ed=.slice a eds.length c:=oq.2.2.shape;dsimp only at Bx;have hgx:=Bx.lt;have hwg:w.heap.size<g:=hwg0
            go_wp2_with fail
            have hgW:g<wr.heap.size:=Bx.lt;refine(z1z g 0 (⟨eh,.slice e1 ebs.length e4,ebs,.slice e2 ers.length e5,ers,.slice e3 eds.length e6,eds⟩:InstQ) n rd 7 0 wr (⟨⟨Bx.cell 0 _ rfl,Bx.cell 1 _ rfl,Bx.cell 2 _ rfl,Bx.cell 3 _ rfl⟩,instK.own_rd oq⟩:InstP _ g 0 (⟨eh,.slice e1 ebs.length e4,ebs,.slice e2 ers.length e5,ers,.slice e3 eds.length e6,eds⟩:InstQ)) Bx.lt (by rw[z0E];have:=z0u hi;omega) hi).mono ?_;rintro e x4 ⟨q4,rfl,heq4,o4,n4,g4,hb4⟩;have hi4:Hid (goC (InstQ.e (⟨eh,.slice e1 ebs.length e4,ebs,.slice e2 ers.length e5,ers,.slice e3 eds.length e6,eds⟩:InstQ)) n rd 7 0=0→insF q4.e=0):=fun h9=>by rw[heq4];exact(fun h=>(z5v h).1) h9
            clear heq4;generalize goC (InstQ.e (⟨eh,.slice e1 ebs.length e4,ebs,.slice e2 ers.length e5,ers,.slice e3 eds.length e6,eds⟩:InstQ)) n rd 7 0=D at*;generalize goZ (InstQ.e (⟨eh,.slice e1 ebs.length e4,ebs,.slice e2 ers.length e5,ers,.slice e3 eds.length e6,eds⟩:InstQ)) n rd 7 0=K0 at*;generalize goD (InstQ.e (⟨eh,.slice e1 ebs.length e4,ebs,.slice e2 ers.length e5,ers,.slice e3 eds.length e6,eds⟩:InstQ)) n rd 7 0=K1 at*;generalize goK (InstQ.e (⟨eh,.slice e1 ebs.length e4,ebs,.slice e2 ers.length e5,ers,.slice e3 eds.length e6,eds⟩:InstQ)) n rd 7 0=K2 at*;generalize goV (InstQ.e (⟨eh,.slice e1 ebs.length e4,ebs,.slice e2 ers.length e5,ers,.slice e3 eds.length e6,eds⟩:InstQ)) n rd 7 0=K3 at*;have hsW:wr.heap.size≤x4.heap.size:=hb4.size;have l4:=instK.own_lt o4;have hU:Out [] wr x4:=Out.of_below hb4;replace hS:=hS.below hb4;replace Bx:=Bx.below hb4;replace R0:=R0.below hb4;replace oq:=instK.own_out oq hU (fun _ _=>by simp);replace hg:=hg.call hb4;clear hb4 hU;obtain⟨fh,fb,fbs,fr,frs,fd,fds⟩:=q4;obtain⟨f1,f4,rfl⟩:∃a c,fb=.slice a fbs.length c:=o4.1.shape;obtain⟨f2,f5,rfl⟩:∃a c,fr=.slice a frs.length c:=o4.2.1.shape;obtain⟨f3,f6,rfl⟩:∃a c,fd=.slice a fds.length c:=o4.2.2.shape;have hb4:Below x4.heap.size x4 (x4.alloc (.cells #[.int .i64 D,.int .i64 K0,.bool K1,.bool K2,.int .i64 K3,.bool fh,.slice f1 fbs.length f4,.slice f2 frs.length f5,.slice f3 fds.length f6] 60)):=by go_grown
            have G8:=Blk.new x4 60 #[.int .i64 D,.int .i64 K0,.bool K1,.bool K2,.int .i64 K3,.bool fh,.slice f1 fbs.length f4,.slice f2 frs.length f5,.slice f3 fds.length f6];have hU:Out [] x4 (x4.alloc (.cells #[.int .i64 D,.int .i64 K0,.bool K1,.bool K2,.int .i64 K3,.bool fh,.slice f1 fbs.length f4,.slice f2 frs.length f5,.slice f3 fds.length f6] 60)):=Out.of_below hb4;replace hS:=hS.below hb4;replace Bx:=Bx.below hb4;replace R0:=R0.below hb4;replace oq:=instK.own_out oq hU (fun _ _=>by simp);replace o4:=instK.own_out o4 hU (fun _ _=>by simp);replace hg:=hg.call hb4;have low4:∀k∈instK.foot (⟨fh,.slice f1 fbs.length f4,fbs,.slice f2 frs.length f5,frs,.slice f3 fds.length f6,fds⟩:InstQ),w.heap.size<k∧k≠g:=fun k hk=>by have:=g4 k hk;have:=l4 k hk;omega
            have r0:=G8.cell 0 _ rfl;clear hb4 hU g4 l4;by_cases hD:D=0
            ·have h4:=hi4.out hD;have hD':(D==0)=true:=by rw[hD];rfl
             clear hD;have r5:=G8.cell 5 _ rfl;have r6:=G8.cell 6 _ rfl;have r7:=G8.cell 7 _ rfl;have r8:=G8.cell 8 _ rfl;have Br:=Bx.row #[.bool fh,.slice f1 fbs.length f4,.slice f2 frs.length f5,.slice f3 fds.length f6];have hsr:(Tryz.prog.info? 49).map (·.size)=some (#[.bool fh,.slice f1 fbs.length f4,.slice f2 frs.length f5,.slice f3 fds.length f6]:Array Value).size:=z0k;have hUr:=z0d (x4.alloc (.cells #[.int .i64 D,.int .i64 K0,.bool K1,.bool K2,.int .i64 K3,.bool fh,.slice f1 fbs.length f4,.slice f2 frs.length f5,.slice f3 fds.length f6] 60)) g #[.bool fh,.slice f1 fbs.length f4,.slice f2 frs.length f5,.slice f3 fds.length f6];have HI5:Hid (EndI B b (T+52+3) g w ((x4.alloc (.cells #[.int .i64 D,.int .i64 K0,.bool K1,.bool K2,.int .i64 K3,.bool fh,.slice f1 fbs.length f4,.slice f2 frs.length f5,.slice f3 fds.length f6] 60)).setRow g #[.bool fh,.slice f1 fbs.length f4,.slice f2 frs.length f5,.slice f3 fds.length f6]) (⟨fh,.slice f1 fbs.length f4,fbs,.slice f2 frs.length f5,frs,.slice f3 fds.length f6,fds⟩:InstQ)):=⟨h4,instK.own_out o4 hUr (fun k hk hk'=>by simp only[List.mem_singleton]at hk';have:=low4 k hk;omega),n4,low4,Br,R0.outs hUr (fun hk=>by simp only[List.mem_singleton]at hk;omega),hS.out hUr (by simp only[List.mem_singleton];omega) (fun k hk=>by simp only[List.mem_singleton]at hk;omega),(hg).trans2 hUr (fun k hk=>by simp only[List.mem_singleton]at hk;omega)⟩
             clear Br hUr;clear o4 n4 low4 R0 hg hS h4 oq nq low hi hi4
             go_wp2_with (first|(refine z0b (by kernel_rfl) 49 _ _ rfl _ #[.bool fh,.slice f1 fbs.length f4,.slice f2 frs.length f5,.slice f3 fds.length f6] rfl rfl 49 _ Bx hsr rfl (by simp[Value.oneCell']) ?_))
             clear r0 r5 r6 r7 r8 G8 Bx hsr;go_roundw
             case rel=>exact⟨n+1,_,by go_num,by omega,HI5⟩
             case measure=>simp[intOf];omega
            ·have hD':(D==0)=false:=by simpa using hD
             have HI6:Hid (EndI B b (T+52+3) g w (x4.alloc (.cells #[.int .i64 D,.int .i64 K0,.bool K1,.bool K2,.int .i64 K3,.bool fh,.slice f1 fbs.length f4,.slice f2 frs.length f5,.slice f3 fds.length f6] 60)) (⟨eh,.slice e1 ebs.length e4,ebs,.slice e2 ers.length e5,ers,.slice e3 eds.length e6,eds⟩:InstQ)):=⟨hi,oq,nq,low,Bx,R0,hS,hg⟩
             clear o4 n4 low4 R0 hg hS oq nq low hi hi4 Bx
             go_wp2
             clear r0 G8;go_roundw
             case rel=>exact⟨n+1,_,by go_num,by omega,HI6⟩
             case measure=>simp[intOf];omega
           ·have hn3i:¬(n:Int)<3:=by omega
            go_wp2
            go_roundw
            case rel=>exact⟨rd+1,_,by go_num,by omega,HI⟩
            case measure=>simp[intOf];omega
       ·have hov':(outV eds==3)=false:=by simpa using hov
        generalize outV eds=OV at*;clear hP hli hov;have Rr:=R0.row #[.bool eh,.slice e1 ebs.length e4,.slice e2 ers.length e5,.slice e3 eds.length e6];have hsr:(Tryz.prog.info? 49).map (·.size)=some (#[.bool eh,.slice e1 ebs.length e4,.slice e2 ers.length e5,.slice e3 eds.length e6]:Array Value).size:=z0k;have hUr:=z0d wr w.heap.size #[.bool eh,.slice e1 ebs.length e4,.slice e2 ers.length e5,.slice e3 eds.length e6];have HZ:Hid (instK.own (wr.setRow w.heap.size #[.bool eh,.slice e1 ebs.length e4,.slice e2 ers.length e5,.slice e3 eds.length e6]) (⟨eh,.slice e1 ebs.length e4,ebs,.slice e2 ers.length e5,ers,.slice e3 eds.length e6,eds⟩:InstQ)∧Src B (wr.setRow w.heap.size #[.bool eh,.slice e1 ebs.length e4,.slice e2 ers.length e5,.slice e3 eds.length e6]) b (T+2600)∧w.grownBy (wr.setRow w.heap.size #[.bool eh,.slice e1 ebs.length e4,.slice e2 ers.length e5,.slice e3 eds.length e6]) (some b)):=by
         refine⟨instK.own_out oq hUr (fun k hk hk'=>by simp only[List.mem_singleton]at hk';have:=low k hk;omega),?_,?_⟩
         ·exact(hS.out hUr (by simp only[List.mem_singleton];omega) (fun k hk=>by simp only[List.mem_singleton]at hk;omega)).mono (by omega)
         ·exact z0g (z0I hg) hUr (fun k hk=>by simp only[List.mem_singleton]at hk;omega)
        have HQ:Hid (insF (InstQ.e (⟨eh,.slice e1 ebs.length e4,ebs,.slice e2 ers.length e5,ers,.slice e3 eds.length e6,eds⟩:InstQ))=0∧(instK.foot (⟨eh,.slice e1 ebs.length e4,ebs,.slice e2 ers.length e5,ers,.slice e3 eds.length e6,eds⟩:InstQ)).Nodup∧∀k∈instK.foot (⟨eh,.slice e1 ebs.length e4,ebs,.slice e2 ers.length e5,ers,.slice e3 eds.length e6,eds⟩:InstQ),w.heap.size≤k):=⟨hi,nq,fun k hk=>by have:=low k hk;omega⟩
        have p0:=Bx.cell 0 _ rfl;have p1:=Bx.cell 1 _ rfl;have p2:=Bx.cell 2 _ rfl;have p3:=Bx.cell 3 _ rfl;clear oq nq low hS hg hi hUr Bx
        go_wp2_with (first|(refine z0b (by kernel_rfl) 49 _ _ rfl _ #[.bool eh,.slice e1 ebs.length e4,.slice e2 ers.length e5,.slice e3 eds.length e6] rfl rfl 49 _ R0 hsr rfl (by simp[Value.oneCell']) ?_))
        have q0:=Rr.cell 0 _ rfl;have q1:=Rr.cell 1 _ rfl;have q2:=Rr.cell 2 _ rfl;have q3:=Rr.cell 3 _ rfl;exact bodyPost_ret (v:=.agg #[.bool eh,.slice e1 ebs.length e4,.slice e2 ers.length e5,.slice e3 eds.length e6]) (by simp[results,Tryz.results113,go_sem,q0,q1,q2,q3]) rfl ⟨(⟨eh,.slice e1 ebs.length e4,ebs,.slice e2 ers.length e5,ers,.slice e3 eds.length e6,eds⟩:InstQ),rfl,HQ.out.1,HZ.out.1,HQ.out.2.1,HQ.out.2.2,HZ.out.2.1,HZ.out.2.2⟩
      ·have hr4i:¬(rd:Int)<4:=by omega
       clear hP hli;have Rr:=R0.row #[.bool eh,.slice e1 ebs.length e4,.slice e2 ers.length e5,.slice e3 eds.length e6];have hsr:(Tryz.prog.info? 49).map (·.size)=some (#[.bool eh,.slice e1 ebs.length e4,.slice e2 ers.length e5,.slice e3 eds.length e6]:Array Value).size:=z0k;have hUr:=z0d wr w.heap.size #[.bool eh,.slice e1 ebs.length e4,.slice e2 ers.length e5,.slice e3 eds.length e6];have HZ:Hid (instK.own (wr.setRow w.heap.size #[.bool eh,.slice e1 ebs.length e4,.slice e2 ers.length e5,.slice e3 eds.length e6]) (⟨eh,.slice e1 ebs.length e4,ebs,.slice e2 ers.length e5,ers,.slice e3 eds.length e6,eds⟩:InstQ)∧Src B (wr.setRow w.heap.size #[.bool eh,.slice e1 ebs.length e4,.slice e2 ers.length e5,.slice e3 eds.length e6]) b (T+2600)∧w.grownBy (wr.setRow w.heap.size #[.bool eh,.slice e1 ebs.length e4,.slice e2 ers.length e5,.slice e3 eds.length e6]) (some b)):=by
        refine⟨instK.own_out oq hUr (fun k hk hk'=>by simp only[List.mem_singleton]at hk';have:=low k hk;omega),?_,?_⟩
        ·exact(hS.out hUr (by simp only[List.mem_singleton];omega) (fun k hk=>by simp only[List.mem_singleton]at hk;omega)).mono (by omega)
        ·exact z0g (z0I hg) hUr (fun k hk=>by simp only[List.mem_singleton]at hk;omega)
       have HQ:Hid (insF (InstQ.e (⟨eh,.slice e1 ebs.length e4,ebs,.slice e2 ers.length e5,ers,.slice e3 eds.length e6,eds⟩:InstQ))=0∧(instK.foot (⟨eh,.slice e1 ebs.length e4,ebs,.slice e2 ers.length e5,ers,.slice e3 eds.length e6,eds⟩:InstQ)).Nodup∧∀k∈instK.foot (⟨eh,.slice e1 ebs.length e4,ebs,.slice e2 ers.length e5,ers,.slice e3 eds.length e6,eds⟩:InstQ),w.heap.size≤k):=⟨hi,nq,fun k hk=>by have:=low k hk;omega⟩
       have p0:=Bx.cell 0 _ rfl;have p1:=Bx.cell 1 _ rfl;have p2:=Bx.cell 2 _ rfl;have p3:=Bx.cell 3 _ rfl;clear oq nq low hS hg hi hUr Bx
       go_wp2_with (first|(refine z0b (by kernel_rfl) 49 _ _ rfl _ #[.bool eh,.slice e1 ebs.length e4,.slice e2 ers.length e5,.slice e3 eds.length e6] rfl rfl 49 _ R0 hsr rfl (by simp[Value.oneCell']) ?_))
       have q0:=Rr.cell 0 _ rfl;have q1:=Rr.cell 1 _ rfl;have q2:=Rr.cell 2 _ rfl;have q3:=Rr.cell 3 _ rfl;exact bodyPost_ret (v:=.agg #[.bool eh,.slice e1 ebs.length e4,.slice e2 ers.length e5,.slice e3 eds.length e6]) (by simp[results,Tryz.results113,go_sem,q0,q1,q2,q3]) rfl ⟨(⟨eh,.slice e1 ebs.length e4,ebs,.slice e2 ers.length e5,ers,.slice e3 eds.length e6,eds⟩:InstQ),rfl,HQ.out.1,HZ.out.1,HQ.out.2.1,HQ.out.2.2,HZ.out.2.1,HZ.out.2.2⟩
  ·subst hz
   go_wp2
   clear h50 h55;go_loopw[5] (fun c wr=>∃ (n:Nat) (q:InstQ),c=.int .i64 n∧n≤3∧Hid (EndI B b (T+52+n) g w wr q)) (fun c _=>3-(intOf c).toNat)
   case atStart=>exact⟨0,_,rfl,by omega,HI0⟩
   case round=>
    clear HI0;obtain⟨n,q,rfl,hn,HI⟩:=hrel;by_cases hn3:n<3
    ·have hn3i:(n:Int)<3:=by omega
     obtain⟨hi,oq,nq,low,Bx,R0,hS,hg⟩:=HI.out;clear HI;obtain⟨eh,eb,ebs,er,ers,ed,eds⟩:=q;obtain⟨e1,e4,rfl⟩:∃a c,eb=.slice a ebs.length c:=oq.1.shape;obtain⟨e2,e5,rfl⟩:∃a c,er=.slice a ers.length c:=oq.2.1.shape;obtain⟨e3,e6,rfl⟩:∃a c,ed=.slice a eds.length c:=oq.2.2.shape;dsimp only at Bx;have hgx:=Bx.lt;have hwg:w.heap.size<g:=hwg0
     go_wp2_with fail
     refine(z0h B b (T+52+n) 9 wr hS (by omega) (by omega)).mono ?_;rintro e x2 ⟨r9,rfl,hr9,hSn,hgn⟩;have hU:Out [b] wr x2:=Out.of_grown hgn;replace hS:=hSn;replace Bx:=Bx.outs hU (fun hk=>by simp only[List.mem_singleton]at hk;omega);replace R0:=R0.outs hU (fun hk=>by simp only[List.mem_singleton]at hk;omega);replace oq:=instK.own_out oq hU (fun k hk hk'=>by simp only[List.mem_singleton]at hk';have:=low k hk;omega);replace hg:=hg.trans hU;clear hU hSn hgn hr9
     go_wp2_with fail
     refine(z3U (0) r9 x2).mono ?_;rintro e x3 ⟨mv,rfl,hx3⟩;replace hx3:=hx3.symm;subst hx3
     go_wp2_with fail
     have hgW:g<x2.heap.size:=Bx.lt;refine(z1J g 0 (⟨eh,.slice e1 ebs.length e4,ebs,.slice e2 ers.length e5,ers,.slice e3 eds.length e6,eds⟩:InstQ) n mv x2 (⟨⟨Bx.cell 0 _ rfl,Bx.cell 1 _ rfl,Bx.cell 2 _ rfl,Bx.cell 3 _ rfl⟩,instK.own_rd oq⟩:InstP _ g 0 (⟨eh,.slice e1 ebs.length e4,ebs,.slice e2 ers.length e5,ers,.slice e3 eds.length e6,eds⟩:InstQ)) Bx.lt (by rw[z0E];have:=z0u hi;omega) hi).mono ?_;rintro e x4 ⟨q4,rfl,heq4,o4,n4,g4,hb4⟩;have hi4:Hid (frC (InstQ.e (⟨eh,.slice e1 ebs.length e4,ebs,.slice e2 ers.length e5,ers,.slice e3 eds.length e6,eds⟩:InstQ)) n mv=0→insF q4.e=0):=fun h9=>by rw[heq4];exact z2y h9
     clear heq4;generalize frC (InstQ.e (⟨eh,.slice e1 ebs.length e4,ebs,.slice e2 ers.length e5,ers,.slice e3 eds.length e6,eds⟩:InstQ)) n mv=D at*;have hsW:x2.heap.size≤x4.heap.size:=hb4.size;have l4:=instK.own_lt o4;have hU:Out [] x2 x4:=Out.of_below hb4;replace hS:=hS.below hb4;replace Bx:=Bx.below hb4;replace R0:=R0.below hb4;replace oq:=instK.own_out oq hU (fun _ _=>by simp);replace hg:=hg.call hb4;clear hb4 hU;obtain⟨fh,fb,fbs,fr,frs,fd,fds⟩:=q4;obtain⟨f1,f4,rfl⟩:∃a c,fb=.slice a fbs.length c:=o4.1.shape;obtain⟨f2,f5,rfl⟩:∃a c,fr=.slice a frs.length c:=o4.2.1.shape;obtain⟨f3,f6,rfl⟩:∃a c,fd=.slice a fds.length c:=o4.2.2.shape;have hb4:Below x4.heap.size x4 (x4.alloc (.cells #[.int .i64 D,.int .i64 0,.bool false,.bool false,.int .i64 0,.bool fh,.slice f1 fbs.length f4,.slice f2 frs.length f5,.slice f3 fds.length f6] 60)):=by go_grown
     have G8:=Blk.new x4 60 #[.int .i64 D,.int .i64 0,.bool false,.bool false,.int .i64 0,.bool fh,.slice f1 fbs.length f4,.slice f2 frs.length f5,.slice f3 fds.length f6];have hU:Out [] x4 (x4.alloc (.cells #[.int .i64 D,.int .i64 0,.bool false,.bool false,.int .i64 0,.bool fh,.slice f1 fbs.length f4,.slice f2 frs.length f5,.slice f3 fds.length f6] 60)):=Out.of_below hb4;replace hS:=hS.below hb4;replace Bx:=Bx.below hb4;replace R0:=R0.below hb4;replace oq:=instK.own_out oq hU (fun _ _=>by simp);replace o4:=instK.own_out o4 hU (fun _ _=>by simp);replace hg:=hg.call hb4;have low4:∀k∈instK.foot (⟨fh,.slice f1 fbs.length f4,fbs,.slice f2 frs.length f5,frs,.slice f3 fds.length f6,fds⟩:InstQ),w.heap.size<k∧k≠g:=fun k hk=>by have:=g4 k hk;have:=l4 k hk;omega
     have r0:=G8.cell 0 _ rfl;clear hb4 hU g4 l4;by_cases hD:D=0
     ·have h4:=hi4.out hD;have hD':(D==0)=true:=by rw[hD];rfl
      clear hD;have r5:=G8.cell 5 _ rfl;have r6:=G8.cell 6 _ rfl;have r7:=G8.cell 7 _ rfl;have r8:=G8.cell 8 _ rfl;have Br:=Bx.row #[.bool fh,.slice f1 fbs.length f4,.slice f2 frs.length f5,.slice f3 fds.length f6];have hsr:(Tryz.prog.info? 49).map (·.size)=some (#[.bool fh,.slice f1 fbs.length f4,.slice f2 frs.length f5,.slice f3 fds.length f6]:Array Value).size:=z0k;have hUr:=z0d (x4.alloc (.cells #[.int .i64 D,.int .i64 0,.bool false,.bool false,.int .i64 0,.bool fh,.slice f1 fbs.length f4,.slice f2 frs.length f5,.slice f3 fds.length f6] 60)) g #[.bool fh,.slice f1 fbs.length f4,.slice f2 frs.length f5,.slice f3 fds.length f6];have HI5:Hid (EndI B b (T+52+(n+1)) g w ((x4.alloc (.cells #[.int .i64 D,.int .i64 0,.bool false,.bool false,.int .i64 0,.bool fh,.slice f1 fbs.length f4,.slice f2 frs.length f5,.slice f3 fds.length f6] 60)).setRow g #[.bool fh,.slice f1 fbs.length f4,.slice f2 frs.length f5,.slice f3 fds.length f6]) (⟨fh,.slice f1 fbs.length f4,fbs,.slice f2 frs.length f5,frs,.slice f3 fds.length f6,fds⟩:InstQ)):=⟨h4,instK.own_out o4 hUr (fun k hk hk'=>by simp only[List.mem_singleton]at hk';have:=low4 k hk;omega),n4,low4,Br,R0.outs hUr (fun hk=>by simp only[List.mem_singleton]at hk;omega),hS.out hUr (by simp only[List.mem_singleton];omega) (fun k hk=>by simp only[List.mem_singleton]at hk;omega),(hg).trans2 hUr (fun k hk=>by simp only[List.mem_singleton]at hk;omega)⟩
      clear Br hUr;clear o4 n4 low4 R0 hg hS h4 oq nq low hi hi4
      go_wp2_with (first|(refine z0b (by kernel_rfl) 49 _ _ rfl _ #[.bool fh,.slice f1 fbs.length f4,.slice f2 frs.length f5,.slice f3 fds.length f6] rfl rfl 49 _ Bx hsr rfl (by simp[Value.oneCell']) ?_))
      clear r0 r5 r6 r7 r8 G8 Bx hsr;go_roundw
      case rel=>exact⟨n+1,_,by go_num,by omega,HI5⟩
      case measure=>simp[intOf];omega
     ·have hD':(D==0)=false:=by simpa using hD
      have HI6:Hid (EndI B b (T+52+(n+1)) g w (x4.alloc (.cells #[.int .i64 D,.int .i64 0,.bool false,.bool false,.int .i64 0,.bool fh,.slice f1 fbs.length f4,.slice f2 frs.length f5,.slice f3 fds.length f6] 60)) (⟨eh,.slice e1 ebs.length e4,ebs,.slice e2 ers.length e5,ers,.slice e3 eds.length e6,eds⟩:InstQ)):=⟨hi,oq,nq,low,Bx,R0,hS,hg⟩
      clear o4 n4 low4 R0 hg hS oq nq low hi hi4 Bx
      go_wp2
      clear r0 G8;go_roundw
      case rel=>exact⟨n+1,_,by go_num,by omega,HI6⟩
      case measure=>simp[intOf];omega
    ·have hn3i:¬(n:Int)<3:=by omega
     obtain rfl:n=3:=by omega
     go_wp2
     go_loopw[7] (fun c wr=>∃ (n:Nat) (q:InstQ),c=.int .i64 n∧n≤4∧Hid (EndI B b (T+52+3) g w wr q)) (fun c _=>4-(intOf c).toNat)
     case atStart=>exact⟨0,_,rfl,by omega,HI⟩
     case round=>
      clear HI;obtain⟨rd,q,rfl,hrd,HI⟩:=hrel;obtain⟨hi,oq,nq,low,Bx,R0,hS,hg⟩:=HI.out;clear HI;obtain⟨eh,eb,ebs,er,ers,ed,eds⟩:=q;obtain⟨e1,e4,rfl⟩:∃a c,eb=.slice a ebs.length c:=oq.1.shape;obtain⟨e2,e5,rfl⟩:∃a c,er=.slice a ers.length c:=oq.2.1.shape;obtain⟨e3,e6,rfl⟩:∃a c,ed=.slice a eds.length c:=oq.2.2.shape;dsimp only at Bx;have hgx:=Bx.lt;have hwg:w.heap.size<g:=hwg0;have hli:InstQ.n (⟨eh,.slice e1 ebs.length e4,ebs,.slice e2 ers.length e5,ers,.slice e3 eds.length e6,eds⟩:InstQ)≤1048576:=(by rw[z0E];have:=z0u hi;omega)
      have hP:=(⟨⟨Bx.cell 0 _ rfl,Bx.cell 1 _ rfl,Bx.cell 2 _ rfl,Bx.cell 3 _ rfl⟩,instK.own_rd oq⟩:InstP _ g 0 (⟨eh,.slice e1 ebs.length e4,ebs,.slice e2 ers.length e5,ers,.slice e3 eds.length e6,eds⟩:InstQ))
      by_cases hr4:rd<4
      ·have hr4i:(rd:Int)<4:=by omega
       go_wp2_with fail
       refine(z0L g 0 (⟨eh,.slice e1 ebs.length e4,ebs,.slice e2 ers.length e5,ers,.slice e3 eds.length e6,eds⟩:InstQ) wr hP hli).mono ?_;rintro e x3 ⟨rfl,hx3⟩;replace hx3:=hx3.symm;subst hx3;dsimp only;by_cases hov:outV eds=3
       ·have hov':(outV eds==3)=true:=by rw[hov];rfl
        have HI1:Hid (EndI B b (T+52+3) g w wr (⟨eh,.slice e1 ebs.length e4,ebs,.slice e2 ers.length e5,ers,.slice e3 eds.length e6,eds⟩:InstQ)):=⟨hi,oq,nq,low,Bx,R0,hS,hg⟩
        clear oq nq low Bx R0 hS hg hi hP hli;generalize outV eds=OV at*;clear hov
        go_wp2
        go_loopw[8] (fun c wr=>∃ (n:Nat) (q:InstQ),c=.int .i64 n∧n≤3∧Hid (EndI B b (T+52+3) g w wr q)) (fun c _=>3-(intOf c).toNat)
        case atStart=>exact⟨0,_,rfl,by omega,HI1⟩
        case round=>
         clear HI1;obtain⟨n,q,rfl,hn,HI⟩:=hrel;by_cases hn3:n<3
         ·have hn3i:(n:Int)<3:=by omega
          obtain⟨hi,oq,nq,low,Bx,R0,hS,hg⟩:=HI.out;clear HI;obtain⟨eh,eb,ebs,er,ers,ed,eds⟩:=q;obtain⟨e1,e4,rfl⟩:∃a c,eb=.slice a ebs.length c:=oq.1.shape;obtain⟨e2,e5,rfl⟩:∃a c,er=.slice a ers.length c:=oq.2.1.shape;obtain⟨e3,e6,rfl⟩:∃a c,ed=.slice a eds.length c:=oq.2.2.shape;dsimp only at Bx;have hgx:=Bx.lt;have hwg:w.heap.size<g:=hwg0
          go_wp2_with fail
          have hgW:g<wr.heap.size:=Bx.lt;refine(z0R g 0 (⟨eh,.slice e1 ebs.length e4,ebs,.slice e2 ers.length e5,ers,.slice e3 eds.length e6,eds⟩:InstQ) n rd 7 wr (⟨⟨Bx.cell 0 _ rfl,Bx.cell 1 _ rfl,Bx.cell 2 _ rfl,Bx.cell 3 _ rfl⟩,instK.own_rd oq⟩:InstP _ g 0 (⟨eh,.slice e1 ebs.length e4,ebs,.slice e2 ers.length e5,ers,.slice e3 eds.length e6,eds⟩:InstQ)) Bx.lt (by rw[z0E];have:=z0u hi;omega) hi).mono ?_;rintro e x4 ⟨q4,rfl,heq4,o4,n4,g4,hb4⟩;have hi4:Hid (prC (InstQ.e (⟨eh,.slice e1 ebs.length e4,ebs,.slice e2 ers.length e5,ers,.slice e3 eds.length e6,eds⟩:InstQ)) n rd 7=0→insF q4.e=0):=fun h9=>by rw[heq4];exact(fun h=>(z05 h).1) h9
          clear heq4;generalize prC (InstQ.e (⟨eh,.slice e1 ebs.length e4,ebs,.slice e2 ers.length e5,ers,.slice e3 eds.length e6,eds⟩:InstQ)) n rd 7=D at*;have hsW:wr.heap.size≤x4.heap.size:=hb4.size;have l4:=instK.own_lt o4;have hU:Out [] wr x4:=Out.of_below hb4;replace hS:=hS.below hb4;replace Bx:=Bx.below hb4;replace R0:=R0.below hb4;replace oq:=instK.own_out oq hU (fun _ _=>by simp);replace hg:=hg.call hb4;clear hb4 hU;obtain⟨fh,fb,fbs,fr,frs,fd,fds⟩:=q4;obtain⟨f1,f4,rfl⟩:∃a c,fb=.slice a fbs.length c:=o4.1.shape;obtain⟨f2,f5,rfl⟩:∃a c,fr=.slice a frs.length c:=o4.2.1.shape;obtain⟨f3,f6,rfl⟩:∃a c,fd=.slice a fds.length c:=o4.2.2.shape;have hb4:Below x4.heap.size x4 (x4.alloc (.cells #[.int .i64 D,.int .i64 0,.bool false,.bool false,.int .i64 0,.bool fh,.slice f1 fbs.length f4,.slice f2 frs.length f5,.slice f3 fds.length f6] 60)):=by go_grown
          have G8:=Blk.new x4 60 #[.int .i64 D,.int .i64 0,.bool false,.bool false,.int .i64 0,.bool fh,.slice f1 fbs.length f4,.slice f2 frs.length f5,.slice f3 fds.length f6];have hU:Out [] x4 (x4.alloc (.cells #[.int .i64 D,.int .i64 0,.bool false,.bool false,.int .i64 0,.bool fh,.slice f1 fbs.length f4,.slice f2 frs.length f5,.slice f3 fds.length f6] 60)):=Out.of_below hb4;replace hS:=hS.below hb4;replace Bx:=Bx.below hb4;replace R0:=R0.below hb4;replace oq:=instK.own_out oq hU (fun _ _=>by simp);replace o4:=instK.own_out o4 hU (fun _ _=>by simp);replace hg:=hg.call hb4;have low4:∀k∈instK.foot (⟨fh,.slice f1 fbs.length f4,fbs,.slice f2 frs.length f5,frs,.slice f3 fds.length f6,fds⟩:InstQ),w.heap.size<k∧k≠g:=fun k hk=>by have:=g4 k hk;have:=l4 k hk;omega
          have r0:=G8.cell 0 _ rfl;clear hb4 hU g4 l4;by_cases hD:D=0
          ·have h4:=hi4.out hD;have hD':(D==0)=true:=by rw[hD];rfl
           clear hD;have r5:=G8.cell 5 _ rfl;have r6:=G8.cell 6 _ rfl;have r7:=G8.cell 7 _ rfl;have r8:=G8.cell 8 _ rfl;have Br:=Bx.row #[.bool fh,.slice f1 fbs.length f4,.slice f2 frs.length f5,.slice f3 fds.length f6];have hsr:(Tryz.prog.info? 49).map (·.size)=some (#[.bool fh,.slice f1 fbs.length f4,.slice f2 frs.length f5,.slice f3 fds.length f6]:Array Value).size:=z0k;have hUr:=z0d (x4.alloc (.cells #[.int .i64 D,.int .i64 0,.bool false,.bool false,.int .i64 0,.bool fh,.slice f1 fbs.length f4,.slice f2 frs.length f5,.slice f3 fds.length f6] 60)) g #[.bool fh,.slice f1 fbs.length f4,.slice f2 frs.length f5,.slice f3 fds.length f6];have HI5:Hid (EndI B b (T+52+3) g w ((x4.alloc (.cells #[.int .i64 D,.int .i64 0,.bool false,.bool false,.int .i64 0,.bool fh,.slice f1 fbs.length f4,.slice f2 frs.length f5,.slice f3 fds.length f6] 60)).setRow g #[.bool fh,.slice f1 fbs.length f4,.slice f2 frs.length f5,.slice f3 fds.length f6]) (⟨fh,.slice f1 fbs.length f4,fbs,.slice f2 frs.length f5,frs,.slice f3 fds.length f6,fds⟩:InstQ)):=⟨h4,instK.own_out o4 hUr (fun k hk hk'=>by simp only[List.mem_singleton]at hk';have:=low4 k hk;omega),n4,low4,Br,R0.outs hUr (fun hk=>by simp only[List.mem_singleton]at hk;omega),hS.out hUr (by simp only[List.mem_singleton];omega) (fun k hk=>by simp only[List.mem_singleton]at hk;omega),(hg).trans2 hUr (fun k hk=>by simp only[List.mem_singleton]at hk;omega)⟩
           clear Br hUr;clear o4 n4 low4 R0 hg hS h4 oq nq low hi hi4
           go_wp2_with (first|(refine z0b (by kernel_rfl) 49 _ _ rfl _ #[.bool fh,.slice f1 fbs.length f4,.slice f2 frs.length f5,.slice f3 fds.length f6] rfl rfl 49 _ Bx hsr rfl (by simp[Value.oneCell']) ?_))
           clear r0 r5 r6 r7 r8 G8 Bx hsr;go_roundw
           case rel=>exact⟨n+1,_,by go_num,by omega,HI5⟩
           case measure=>simp[intOf];omega
          ·have hD':(D==0)=false:=by simpa using hD
           have HI6:Hid (EndI B b (T+52+3) g w (x4.alloc (.cells #[.int .i64 D,.int .i64 0,.bool false,.bool false,.int .i64 0,.bool fh,.slice f1 fbs.length f4,.slice f2 frs.length f5,.slice f3 fds.length f6] 60)) (⟨eh,.slice e1 ebs.length e4,ebs,.slice e2 ers.length e5,ers,.slice e3 eds.length e6,eds⟩:InstQ)):=⟨hi,oq,nq,low,Bx,R0,hS,hg⟩
           clear o4 n4 low4 R0 hg hS oq nq low hi hi4 Bx
           go_wp2
           clear r0 G8;go_roundw
           case rel=>exact⟨n+1,_,by go_num,by omega,HI6⟩
           case measure=>simp[intOf];omega
         ·have hn3i:¬(n:Int)<3:=by omega
          go_wp2
          go_loopw[10] (fun c wr=>∃ (n:Nat) (q:InstQ),c=.int .i64 n∧n≤3∧Hid (EndI B b (T+52+3) g w wr q)) (fun c _=>3-(intOf c).toNat)
          case atStart=>exact⟨0,_,rfl,by omega,HI⟩
          case round=>
           clear HI;obtain⟨n,q,rfl,hn,HI⟩:=hrel;by_cases hn3:n<3
           ·have hn3i:(n:Int)<3:=by omega
            obtain⟨hi,oq,nq,low,Bx,R0,hS,hg⟩:=HI.out;clear HI;obtain⟨eh,eb,ebs,er,ers,ed,eds⟩:=q;obtain⟨e1,e4,rfl⟩:∃a c,eb=.slice a ebs.length c:=oq.1.shape;obtain⟨e2,e5,rfl⟩:∃a c,er=.slice a ers.length c:=oq.2.1.shape;obtain⟨e3,e6,rfl⟩:∃a c,ed=.slice a eds.length c:=oq.2.2.shape;dsimp only at Bx;have hgx:=Bx.lt;have hwg:w.heap.size<g:=hwg0
            go_wp2_with fail
            have hgW:g<wr.heap.size:=Bx.lt;refine(z1z g 0 (⟨eh,.slice e1 ebs.length e4,ebs,.slice e2 ers.length e5,ers,.slice e3 eds.length e6,eds⟩:InstQ) n rd 7 0 wr (⟨⟨Bx.cell 0 _ rfl,Bx.cell 1 _ rfl,Bx.cell 2 _ rfl,Bx.cell 3 _ rfl⟩,instK.own_rd oq⟩:InstP _ g 0 (⟨eh,.slice e1 ebs.length e4,ebs,.slice e2 ers.length e5,ers,.slice e3 eds.length e6,eds⟩:InstQ)) Bx.lt (by rw[z0E];have:=z0u hi;omega) hi).mono ?_;rintro e x4 ⟨q4,rfl,heq4,o4,n4,g4,hb4⟩;have hi4:Hid (goC (InstQ.e (⟨eh,.slice e1 ebs.length e4,ebs,.slice e2 ers.length e5,ers,.slice e3 eds.length e6,eds⟩:InstQ)) n rd 7 0=0→insF q4.e=0):=fun h9=>by rw[heq4];exact(fun h=>(z5v h).1) h9
            clear heq4;generalize goC (InstQ.e (⟨eh,.slice e1 ebs.length e4,ebs,.slice e2 ers.length e5,ers,.slice e3 eds.length e6,eds⟩:InstQ)) n rd 7 0=D at*;generalize goZ (InstQ.e (⟨eh,.slice e1 ebs.length e4,ebs,.slice e2 ers.length e5,ers,.slice e3 eds.length e6,eds⟩:InstQ)) n rd 7 0=K0 at*;generalize goD (InstQ.e (⟨eh,.slice e1 ebs.length e4,ebs,.slice e2 ers.length e5,ers,.slice e3 eds.length e6,eds⟩:InstQ)) n rd 7 0=K1 at*;generalize goK (InstQ.e (⟨eh,.slice e1 ebs.length e4,ebs,.slice e2 ers.length e5,ers,.slice e3 eds.length e6,eds⟩:InstQ)) n rd 7 0=K2 at*;generalize goV (InstQ.e (⟨eh,.slice e1 ebs.length e4,ebs,.slice e2 ers.length e5,ers,.slice e3 eds.length e6,eds⟩:InstQ)) n rd 7 0=K3 at*;have hsW:wr.heap.size≤x4.heap.size:=hb4.size;have l4:=instK.own_lt o4;have hU:Out [] wr x4:=Out.of_below hb4;replace hS:=hS.below hb4;replace Bx:=Bx.below hb4;replace R0:=R0.below hb4;replace oq:=instK.own_out oq hU (fun _ _=>by simp);replace hg:=hg.call hb4;clear hb4 hU;obtain⟨fh,fb,fbs,fr,frs,fd,fds⟩:=q4;obtain⟨f1,f4,rfl⟩:∃a c,fb=.slice a fbs.length c:=o4.1.shape;obtain⟨f2,f5,rfl⟩:∃a c,fr=.slice a frs.length c:=o4.2.1.shape;obtain⟨f3,f6,rfl⟩:∃a c,fd=.slice a fds.length c:=o4.2.2.shape;have hb4:Below x4.heap.size x4 (x4.alloc (.cells #[.int .i64 D,.int .i64 K0,.bool K1,.bool K2,.int .i64 K3,.bool fh,.slice f1 fbs.length f4,.slice f2 frs.length f5,.slice f3 fds.length f6] 60)):=by go_grown
            have G8:=Blk.new x4 60 #[.int .i64 D,.int .i64 K0,.bool K1,.bool K2,.int .i64 K3,.bool fh,.slice f1 fbs.length f4,.slice f2 frs.length f5,.slice f3 fds.length f6];have hU:Out [] x4 (x4.alloc (.cells #[.int .i64 D,.int .i64 K0,.bool K1,.bool K2,.int .i64 K3,.bool fh,.slice f1 fbs.length f4,.slice f2 frs.length f5,.slice f3 fds.length f6] 60)):=Out.of_below hb4;replace hS:=hS.below hb4;replace Bx:=Bx.below hb4;replace R0:=R0.below hb4;replace oq:=instK.own_out oq hU (fun _ _=>by simp);replace o4:=instK.own_out o4 hU (fun _ _=>by simp);replace hg:=hg.call hb4;have low4:∀k∈instK.foot (⟨fh,.slice f1 fbs.length f4,fbs,.slice f2 frs.length f5,frs,.slice f3 fds.length f6,fds⟩:InstQ),w.heap.size<k∧k≠g:=fun k hk=>by have:=g4 k hk;have:=l4 k hk;omega
            have r0:=G8.cell 0 _ rfl;clear hb4 hU g4 l4;by_cases hD:D=0
            ·have h4:=hi4.out hD;have hD':(D==0)=true:=by rw[hD];rfl
             clear hD;have r5:=G8.cell 5 _ rfl;have r6:=G8.cell 6 _ rfl;have r7:=G8.cell 7 _ rfl;have r8:=G8.cell 8 _ rfl;have Br:=Bx.row #[.bool fh,.slice f1 fbs.length f4,.slice f2 frs.length f5,.slice f3 fds.length f6];have hsr:(Tryz.prog.info? 49).map (·.size)=some (#[.bool fh,.slice f1 fbs.length f4,.slice f2 frs.length f5,.slice f3 fds.length f6]:Array Value).size:=z0k;have hUr:=z0d (x4.alloc (.cells #[.int .i64 D,.int .i64 K0,.bool K1,.bool K2,.int .i64 K3,.bool fh,.slice f1 fbs.length f4,.slice f2 frs.length f5,.slice f3 fds.length f6] 60)) g #[.bool fh,.slice f1 fbs.length f4,.slice f2 frs.length f5,.slice f3 fds.length f6];have HI5:Hid (EndI B b (T+52+3) g w ((x4.alloc (.cells #[.int .i64 D,.int .i64 K0,.bool K1,.bool K2,.int .i64 K3,.bool fh,.slice f1 fbs.length f4,.slice f2 frs.length f5,.slice f3 fds.length f6] 60)).setRow g #[.bool fh,.slice f1 fbs.length f4,.slice f2 frs.length f5,.slice f3 fds.length f6]) (⟨fh,.slice f1 fbs.length f4,fbs,.slice f2 frs.length f5,frs,.slice f3 fds.length f6,fds⟩:InstQ)):=⟨h4,instK.own_out o4 hUr (fun k hk hk'=>by simp only[List.mem_singleton]at hk';have:=low4 k hk;omega),n4,low4,Br,R0.outs hUr (fun hk=>by simp only[List.mem_singleton]at hk;omega),hS.out hUr (by simp only[List.mem_singleton];omega) (fun k hk=>by simp only[List.mem_singleton]at hk;omega),(hg).trans2 hUr (fun k hk=>by simp only[List.mem_singleton]at hk;omega)⟩
             clear Br hUr;clear o4 n4 low4 R0 hg hS h4 oq nq low hi hi4
             go_wp2_with (first|(refine z0b (by kernel_rfl) 49 _ _ rfl _ #[.bool fh,.slice f1 fbs.length f4,.slice f2 frs.length f5,.slice f3 fds.length f6] rfl rfl 49 _ Bx hsr rfl (by simp[Value.oneCell']) ?_))
             clear r0 r5 r6 r7 r8 G8 Bx hsr;go_roundw
             case rel=>exact⟨n+1,_,by go_num,by omega,HI5⟩
             case measure=>simp[intOf];omega
            ·have hD':(D==0)=false:=by simpa using hD
             have HI6:Hid (EndI B b (T+52+3) g w (x4.alloc (.cells #[.int .i64 D,.int .i64 K0,.bool K1,.bool K2,.int .i64 K3,.bool fh,.slice f1 fbs.length f4,.slice f2 frs.length f5,.slice f3 fds.length f6] 60)) (⟨eh,.slice e1 ebs.length e4,ebs,.slice e2 ers.length e5,ers,.slice e3 eds.length e6,eds⟩:InstQ)):=⟨hi,oq,nq,low,Bx,R0,hS,hg⟩
             clear o4 n4 low4 R0 hg hS oq nq low hi hi4 Bx
             go_wp2
             clear r0 G8;go_roundw
             case rel=>exact⟨n+1,_,by go_num,by omega,HI6⟩
             case measure=>simp[intOf];omega
           ·have hn3i:¬(n:Int)<3:=by omega
            go_wp2
            go_roundw
            case rel=>exact⟨rd+1,_,by go_num,by omega,HI⟩
            case measure=>simp[intOf];omega
       ·have hov':(outV eds==3)=false:=by simpa using hov
        generalize outV eds=OV at*;clear hP hli hov;have Rr:=R0.row #[.bool eh,.slice e1 ebs.length e4,.slice e2 ers.length e5,.slice e3 eds.length e6];have hsr:(Tryz.prog.info? 49).map (·.size)=some (#[.bool eh,.slice e1 ebs.length e4,.slice e2 ers.length e5,.slice e3 eds.length e6]:Array Value).size:=z0k;have hUr:=z0d wr w.heap.size #[.bool eh,.slice e1 ebs.length e4,.slice e2 ers.length e5,.slice e3 eds.length e6];have HZ:Hid (instK.own (wr.setRow w.heap.size #[.bool eh,.slice e1 ebs.length e4,.slice e2 ers.length e5,.slice e3 eds.length e6]) (⟨eh,.slice e1 ebs.length e4,ebs,.slice e2 ers.length e5,ers,.slice e3 eds.length e6,eds⟩:InstQ)∧Src B (wr.setRow w.heap.size #[.bool eh,.slice e1 ebs.length e4,.slice e2 ers.length e5,.slice e3 eds.length e6]) b (T+2600)∧w.grownBy (wr.setRow w.heap.size #[.bool eh,.slice e1 ebs.length e4,.slice e2 ers.length e5,.slice e3 eds.length e6]) (some b)):=by
         refine⟨instK.own_out oq hUr (fun k hk hk'=>by simp only[List.mem_singleton]at hk';have:=low k hk;omega),?_,?_⟩
         ·exact(hS.out hUr (by simp only[List.mem_singleton];omega) (fun k hk=>by simp only[List.mem_singleton]at hk;omega)).mono (by omega)
         ·exact z0g (z0I hg) hUr (fun k hk=>by simp only[List.mem_singleton]at hk;omega)
        have HQ:Hid (insF (InstQ.e (⟨eh,.slice e1 ebs.length e4,ebs,.slice e2 ers.length e5,ers,.slice e3 eds.length e6,eds⟩:InstQ))=0∧(instK.foot (⟨eh,.slice e1 ebs.length e4,ebs,.slice e2 ers.length e5,ers,.slice e3 eds.length e6,eds⟩:InstQ)).Nodup∧∀k∈instK.foot (⟨eh,.slice e1 ebs.length e4,ebs,.slice e2 ers.length e5,ers,.slice e3 eds.length e6,eds⟩:InstQ),w.heap.size≤k):=⟨hi,nq,fun k hk=>by have:=low k hk;omega⟩
        have p0:=Bx.cell 0 _ rfl;have p1:=Bx.cell 1 _ rfl;have p2:=Bx.cell 2 _ rfl;have p3:=Bx.cell 3 _ rfl;clear oq nq low hS hg hi hUr Bx
        go_wp2_with (first|(refine z0b (by kernel_rfl) 49 _ _ rfl _ #[.bool eh,.slice e1 ebs.length e4,.slice e2 ers.length e5,.slice e3 eds.length e6] rfl rfl 49 _ R0 hsr rfl (by simp[Value.oneCell']) ?_))
        have q0:=Rr.cell 0 _ rfl;have q1:=Rr.cell 1 _ rfl;have q2:=Rr.cell 2 _ rfl;have q3:=Rr.cell 3 _ rfl;exact bodyPost_ret (v:=.agg #[.bool eh,.slice e1 ebs.length e4,.slice e2 ers.length e5,.slice e3 eds.length e6]) (by simp[results,Tryz.results113,go_sem,q0,q1,q2,q3]) rfl ⟨(⟨eh,.slice e1 ebs.length e4,ebs,.slice e2 ers.length e5,ers,.slice e3 eds.length e6,eds⟩:InstQ),rfl,HQ.out.1,HZ.out.1,HQ.out.2.1,HQ.out.2.2,HZ.out.2.1,HZ.out.2.2⟩
      ·have hr4i:¬(rd:Int)<4:=by omega
       clear hP hli;have Rr:=R0.row #[.bool eh,.slice e1 ebs.length e4,.slice e2 ers.length e5,.slice e3 eds.length e6];have hsr:(Tryz.prog.info? 49).map (·.size)=some (#[.bool eh,.slice e1 ebs.length e4,.slice e2 ers.length e5,.slice e3 eds.length e6]:Array Value).size:=z0k;have hUr:=z0d wr w.heap.size #[.bool eh,.slice e1 ebs.length e4,.slice e2 ers.length e5,.slice e3 eds.length e6];have HZ:Hid (instK.own (wr.setRow w.heap.size #[.bool eh,.slice e1 ebs.length e4,.slice e2 ers.length e5,.slice e3 eds.length e6]) (⟨eh,.slice e1 ebs.length e4,ebs,.slice e2 ers.length e5,ers,.slice e3 eds.length e6,eds⟩:InstQ)∧Src B (wr.setRow w.heap.size #[.bool eh,.slice e1 ebs.length e4,.slice e2 ers.length e5,.slice e3 eds.length e6]) b (T+2600)∧w.grownBy (wr.setRow w.heap.size #[.bool eh,.slice e1 ebs.length e4,.slice e2 ers.length e5,.slice e3 eds.length e6]) (some b)):=by
        refine⟨instK.own_out oq hUr (fun k hk hk'=>by simp only[List.mem_singleton]at hk';have:=low k hk;omega),?_,?_⟩
        ·exact(hS.out hUr (by simp only[List.mem_singleton];omega) (fun k hk=>by simp only[List.mem_singleton]at hk;omega)).mono (by omega)
        ·exact z0g (z0I hg) hUr (fun k hk=>by simp only[List.mem_singleton]at hk;omega)
       have HQ:Hid (insF (InstQ.e (⟨eh,.slice e1 ebs.length e4,ebs,.slice e2 ers.length e5,ers,.slice e3 eds.length e6,eds⟩:InstQ))=0∧(instK.foot (⟨eh,.slice e1 ebs.length e4,ebs,.slice e2 ers.length e5,ers,.slice e3 eds.length e6,eds⟩:InstQ)).Nodup∧∀k∈instK.foot (⟨eh,.slice e1 ebs.length e4,ebs,.slice e2 ers.length e5,ers,.slice e3 eds.length e6,eds⟩:InstQ),w.heap.size≤k):=⟨hi,nq,fun k hk=>by have:=low k hk;omega⟩
       have p0:=Bx.cell 0 _ rfl;have p1:=Bx.cell 1 _ rfl;have p2:=Bx.cell 2 _ rfl;have p3:=Bx.cell 3 _ rfl;clear oq nq low hS hg hi hUr Bx
       go_wp2_with (first|(refine z0b (by kernel_rfl) 49 _ _ rfl _ #[.bool eh,.slice e1 ebs.length e4,.slice e2 ers.length e5,.slice e3 eds.length e6] rfl rfl 49 _ R0 hsr rfl (by simp[Value.oneCell']) ?_))
       have q0:=Rr.cell 0 _ rfl;have q1:=Rr.cell 1 _ rfl;have q2:=Rr.cell 2 _ rfl;have q3:=Rr.cell 3 _ rfl;exact bodyPost_ret (v:=.agg #[.bool eh,.slice e1 ebs.length e4,.slice e2 ers.length e5,.slice e3 eds.length e6]) (by simp[results,Tryz.results113,go_sem,q0,q1,q2,q3]) rfl ⟨(⟨eh,.slice e1 ebs.length e4,ebs,.slice e2 ers.length e5,ers,.slice e3 eds.length e6,eds⟩:InstQ),rfl,HQ.out.1,HZ.out.1,HQ.out.2.1,HQ.out.2.2,HZ.out.2.1,HZ.out.2.2⟩
end Go.Proofs.YtfpponhjhbfbeaaGreatDoor
