/- Texts joined,with what the laws reach alone. -/
import Derived.Test.YtciofogeiohleaaGreatDoorCOAJ
import Derived.Test.YtciofogeiohleaaGreatDoorCOAK
set_option linter.unusedVariables false
set_option linter.unusedSimpArgs false
set_option maxRecDepth 100000
set_option maxHeartbeats 16000000
namespace Go.Proofs.YtciofogeiohleaaGreatDoor
open Go.RowKit Go.BigFrame
theorem z1Z(B b T:Nat)(n:Int)(w:World)(hS:Src B w b T)(hT:T≤1099511627776)(hn:n≤1099511627776):
  Calls Tryz.prog 46 #[.pointer (some ⟨b,0,none⟩),.int .i64 n] w fun e w'=>∃t:Bool,e=.returned (.bool t)∧Src B w' b (T+1)∧w.grownBy w' (some b):=by
 go_enter Tryz.func46,Tryz.ntmps46
 go_wp2_with fail
 refine(z0m B b T n w hS hT hn).mono ?_;rintro e w1 ⟨r,rfl,hr,hS1,hg⟩
 go_wp2
 go_ret;exact⟨_,rfl,hS1,hg⟩
theorem z4q(x y:Int)(w:World):Calls Tryz.prog 175 #[.int .i64 x,.int .i64 y] w fun e w'=>∃z:Int,e=.returned (.int .i64 z)∧w'=w:=by
 by_cases h:x<y
 ·go_enter Tryz.func175,Tryz.ntmps175
  go_wp2
  go_ret;first|exact⟨_,rfl,rfl⟩|exact⟨⟨_,rfl⟩,rfl⟩|exact⟨_,rfl⟩
 ·go_enter Tryz.func175,Tryz.ntmps175
  go_wp2
  go_ret;first|exact⟨_,rfl,rfl⟩|exact⟨⟨_,rfl⟩,rfl⟩|exact⟨_,rfl⟩
theorem z7v(bs:List TxnQ)(h:∀p∈bs,p.acts.length≤3):nmL TxnQ.n bs≤3*bs.length:=by
 induction bs with
 |nil=>simp[nmL]
 |cons p r ih=>
  have h1:=h p (by simp);have:=ih (fun q hq=>h q (List.mem_cons_of_mem _ hq));simp only[nmL,List.map_cons,List.sum_cons,List.length_cons,TxnQ.n]at this⊢;omega
theorem z9t(h:Bool)(a1:Option Addr)(n1 c1:Nat)(a2:Option Addr)(n2 c2:Nat)(a3:Option Addr)(n3 c3:Nat)(w:World):(Instr.field 83 (.agg #[.int .i64 0,.int .i64 0,.bool false,.bool false,.int .i64 0,.bool h,.slice a1 n1 c1,.slice a2 n2 c2,.slice a3 n3 c3]) 2).run Tryz.prog w=.ok (.agg #[.bool h,.slice a1 n1 c1,.slice a2 n2 c2,.slice a3 n3 c3]) w:=by kernel_rfl
structure EndI (B b T g:Nat) (w wr:World) (q:InstQ):Prop where
 ins:insF q.e=0
 own:instK.own wr q
 nd:(instK.foot q).Nodup
 low:∀k∈instK.foot q,w.heap.size<k∧k≠g
 box:Blk wr g 49 #[.bool q.has,q.vb,q.vr,q.vd]
 res:Blk wr w.heap.size 49 #[.bool false,.slice none 0 0,.slice none 0 0,.slice none 0 0]
 src:Src B wr b T
 grown:Out [b] w wr
theorem Out.trans2{b g:Nat}{w wr w':World}(h:Out [b] w wr)(h':Out [g] wr w')(hg:∀k∈[g],w.heap.size<k):Out [b] w w':=
 ⟨h'.os.trans h.os,h'.tape.trans h.tape,h'.output.trans h.output,Nat.le_trans h.size h'.size,fun k hk hn=>(h'.block k (Nat.lt_of_lt_of_le hk h.size) (fun e=>by have:=hg k e;omega)).trans (h.block k hk hn)⟩
theorem z6A(B b T:Nat)(w:World)(hS:Src B w b T)(hT:T≤400000):
  Calls Tryz.prog 150 #[.pointer (some ⟨b,0,none⟩)] w fun e w'=>∃q:InstQ,e=.returned (.agg #[.bool q.has,q.vb,q.vr,q.vd])∧insF q.e=0∧instK.own w' q∧(instK.foot q).Nodup∧(∀k∈instK.foot q,w.heap.size≤k)∧Src B w' b (T+2600)∧w.grownBy w' (some b):=by
 have aN:=hS.lt;have aw:Below w.heap.size w (w.alloc (.cells #[.bool false,.slice none 0 0,.slice none 0 0,.slice none 0 0] 49)):=by go_grown
 have R0:=Blk.new w 49 #[.bool false,.slice none 0 0,.slice none 0 0,.slice none 0 0];have hg:Out [b] w (w.alloc (.cells #[.bool false,.slice none 0 0,.slice none 0 0,.slice none 0 0] 49)):=Out.of_below aw;replace hS:=hS.below aw;clear aw;go_enter Tryz.func150,Tryz.ntmps150
 go_wp2_with fail
 generalize w.alloc (.cells #[.bool false,.slice none 0 0,.slice none 0 0,.slice none 0 0] 49)=W at*;refine(z4m W).mono ?_;rintro e x1 ⟨q,rfl,eq,oq,nq,gq,ap⟩;have hW:=R0.lt;replace R0:=R0.below ap;replace hS:=hS.below ap;replace hg:=hg.call ap;have hm:=instK.own_lt oq;have hi:insF q.e=0:=by rw[eq];exact z6y
 have aO:w.heap.size<x1.heap.size:=R0.lt;have ar:Hid (q.has=false):=by have:=congrArg InstE.has eq;exact this
 have au:∀k∈instK.foot q,w.heap.size<k∧k<x1.heap.size:=fun k hk=>⟨by have:=gq k hk;omega,hm k hk⟩
 clear eq gq hm;obtain⟨eh,eb,r,er,s,ed,d⟩:=q;obtain⟨e1,e4,rfl⟩:∃a c,eb=.slice a r.length c:=oq.1.shape;obtain⟨e2,e5,rfl⟩:∃a c,er=.slice a s.length c:=oq.2.1.shape;obtain⟨e3,e6,rfl⟩:∃a c,ed=.slice a d.length c:=oq.2.2.shape;have aI:Hid (eh=false):=ar.out;clear ar;have an:Below x1.heap.size x1 (x1.alloc (.cells #[.bool eh,.slice e1 r.length e4,.slice e2 s.length e5,.slice e3 d.length e6] 49)):=by go_grown
 have Bx:=Blk.new x1 49 #[.bool eh,.slice e1 r.length e4,.slice e2 s.length e5,.slice e3 d.length e6];replace R0:=R0.below an;replace hS:=hS.below an;replace hg:=hg.call an;replace oq:=instK.own_out (F:=[]) oq (Out.of_below an) (fun _ _=>by simp)
 go_wp2_with fail
 generalize ae:x1.heap.size=g at*;generalize x1.alloc (.cells #[.bool eh,.slice e1 r.length e4,.slice e2 s.length e5,.slice e3 d.length e6] 49)=X1 at*;clear an ap;have G:∀k∈instK.foot (⟨eh,.slice e1 r.length e4,r,.slice e2 s.length e5,s,.slice e3 d.length e6,d⟩:InstQ),w.heap.size<k∧k≠g:=fun k hk=>by have:=au k hk;omega
 clear au;refine(z1Z B b T 5 X1 hS (by omega) (by omega)).mono ?_;rintro e x2 ⟨tt,rfl,V,X⟩;have hU:Out [b] X1 x2:=Out.of_grown X;replace hS:=V;replace Bx:=Bx.outs hU (fun hk=>by simp only[List.mem_singleton]at hk;omega);replace R0:=R0.outs hU (fun hk=>by simp only[List.mem_singleton]at hk;omega);replace oq:=instK.own_out oq hU (fun k hk I=>by simp only[List.mem_singleton]at I;have:=G k hk;omega);replace hg:=hg.trans hU;clear hU V X
 cases tt with
 |true=>
  go_wp2_with fail
  refine(z2j B b (T+1) 5 x2 hS (by omega) (by omega)).mono ?_;rintro e x4 ⟨q4,rfl,h4,o4,n4,g4,V,X⟩;have hU:Out [b] x2 x4:=Out.of_grown X;have aK:=Bx.lt;replace Bx:=Bx.outs hU (fun hk=>by simp only[List.mem_singleton]at hk;omega);replace R0:=R0.outs hU (fun hk=>by simp only[List.mem_singleton]at hk;omega);replace hg:=hg.trans hU;have E:∀k∈instK.foot q4,w.heap.size<k∧k≠g:=fun k hk=>by have:=g4 k hk;omega
  replace hS:=V;clear hU V X oq nq G hi g4;obtain⟨fh,fb,x,fr,z,fd,y⟩:=q4;obtain⟨f1,f4,rfl⟩:∃a c,fb=.slice a x.length c:=o4.1.shape;obtain⟨f2,f5,rfl⟩:∃a c,fr=.slice a z.length c:=o4.2.1.shape;obtain⟨f3,f6,rfl⟩:∃a c,fd=.slice a y.length c:=o4.2.2.shape;have Br:=Bx.row #[.bool fh,.slice f1 x.length f4,.slice f2 z.length f5,.slice f3 y.length f6];have L:(Tryz.prog.info? 49).map (·.size)=some (#[.bool fh,.slice f1 x.length f4,.slice f2 z.length f5,.slice f3 y.length f6]:Array Value).size:=z0l;have C:=z0f x4 g #[.bool fh,.slice f1 x.length f4,.slice f2 z.length f5,.slice f3 y.length f6];have O:Hid (EndI B b (T+1+2500) g w (x4.setRow g #[.bool fh,.slice f1 x.length f4,.slice f2 z.length f5,.slice f3 y.length f6]) (⟨fh,.slice f1 x.length f4,x,.slice f2 z.length f5,z,.slice f3 y.length f6,y⟩:InstQ)):=⟨h4,instK.own_out o4 C (fun k hk I=>by simp only[List.mem_singleton]at I;have:=E k hk;omega),n4,E,Br,R0.outs C (fun hk=>by simp only[List.mem_singleton]at hk;omega),hS.out C (by simp only[List.mem_singleton];omega) (fun k hk=>by simp only[List.mem_singleton]at hk;omega),(hg).trans2 C (fun k hk=>by simp only[List.mem_singleton]at hk;omega)⟩
  clear Br C;clear o4 n4 E R0 hg hS h4
  go_wp2_with (first|(refine z0d (by kernel_rfl) 49 _ _ rfl _ #[.bool fh,.slice f1 x.length f4,.slice f2 z.length f5,.slice f3 y.length f6] rfl rfl 49 _ Bx L rfl (by simp[Value.oneCell']) ?_))
  have am:Hid (EndI B b (T+2501+0) g w (x4.setRow g #[.bool fh,.slice f1 x.length f4,.slice f2 z.length f5,.slice f3 y.length f6]) (⟨fh,.slice f1 x.length f4,x,.slice f2 z.length f5,z,.slice f3 y.length f6,y⟩:InstQ)):=O;clear O Bx L;have Y:w.heap.size<g:=by omega
  go_loopw[5] (fun c wr=>∃ (n:Nat) (q:InstQ),c=.int .i64 n∧n≤3∧Hid (EndI B b (T+2501+n) g w wr q)) (fun c _=>3-(intOf c).toNat)
  case atStart=>exact⟨0,_,rfl,by omega,am⟩
  case round=>
   clear am;obtain⟨n,q,rfl,hn,HI⟩:=hrel;by_cases ai:n<3
   ·have N:(n:Int)<3:=by omega
    obtain⟨hi,oq,nq,G,Bx,R0,hS,hg⟩:=HI.out;clear HI;obtain⟨eh,eb,r,er,s,ed,d⟩:=q;obtain⟨e1,e4,rfl⟩:∃a c,eb=.slice a r.length c:=oq.1.shape;obtain⟨e2,e5,rfl⟩:∃a c,er=.slice a s.length c:=oq.2.1.shape;obtain⟨e3,e6,rfl⟩:∃a c,ed=.slice a d.length c:=oq.2.2.shape;dsimp only at Bx;have ae:=Bx.lt;have af:w.heap.size<g:=Y
    go_wp2_with fail
    refine(z0m B b (T+2501+n) 9 wr hS (by omega) (by omega)).mono ?_;rintro e x2 ⟨r9,rfl,ao,V,X⟩;have hU:Out [b] wr x2:=Out.of_grown X;replace hS:=V;replace Bx:=Bx.outs hU (fun hk=>by simp only[List.mem_singleton]at hk;omega);replace R0:=R0.outs hU (fun hk=>by simp only[List.mem_singleton]at hk;omega);replace oq:=instK.own_out oq hU (fun k hk I=>by simp only[List.mem_singleton]at I;have:=G k hk;omega);replace hg:=hg.trans hU;clear hU V X ao
    go_wp2_with fail
    refine(z4q (0) r9 x2).mono ?_;rintro e x3 ⟨mv,rfl,U⟩;replace U:=U.symm;subst U
    go_wp2_with fail
    have ah:g<x2.heap.size:=Bx.lt;refine(z1Y g 0 (⟨eh,.slice e1 r.length e4,r,.slice e2 s.length e5,s,.slice e3 d.length e6,d⟩:InstQ) n mv x2 (⟨⟨Bx.cell 0 _ rfl,Bx.cell 1 _ rfl,Bx.cell 2 _ rfl,Bx.cell 3 _ rfl⟩,instK.own_rd oq⟩:InstP _ g 0 (⟨eh,.slice e1 r.length e4,r,.slice e2 s.length e5,s,.slice e3 d.length e6,d⟩:InstQ)) Bx.lt (by rw[z0F];have:=z0w hi;omega) hi).mono ?_;rintro e x4 ⟨q4,rfl,J,o4,n4,g4,A⟩;have M:Hid (frC (InstQ.e (⟨eh,.slice e1 r.length e4,r,.slice e2 s.length e5,s,.slice e3 d.length e6,d⟩:InstQ)) n mv=0→insF q4.e=0):=fun h9=>by rw[J];exact z2O h9
    clear J;generalize frC (InstQ.e (⟨eh,.slice e1 r.length e4,r,.slice e2 s.length e5,s,.slice e3 d.length e6,d⟩:InstQ)) n mv=D at*;have al:x2.heap.size≤x4.heap.size:=A.size;have l4:=instK.own_lt o4;have hU:Out [] x2 x4:=Out.of_below A;replace hS:=hS.below A;replace Bx:=Bx.below A;replace R0:=R0.below A;replace oq:=instK.own_out oq hU (fun _ _=>by simp);replace hg:=hg.call A;clear A hU;obtain⟨fh,fb,x,fr,z,fd,y⟩:=q4;obtain⟨f1,f4,rfl⟩:∃a c,fb=.slice a x.length c:=o4.1.shape;obtain⟨f2,f5,rfl⟩:∃a c,fr=.slice a z.length c:=o4.2.1.shape;obtain⟨f3,f6,rfl⟩:∃a c,fd=.slice a y.length c:=o4.2.2.shape;have A:Below x4.heap.size x4 (x4.alloc (.cells #[.int .i64 D,.int .i64 0,.bool false,.bool false,.int .i64 0,.bool fh,.slice f1 x.length f4,.slice f2 z.length f5,.slice f3 y.length f6] 83)):=by go_grown
    have G8:=Blk.new x4 83 #[.int .i64 D,.int .i64 0,.bool false,.bool false,.int .i64 0,.bool fh,.slice f1 x.length f4,.slice f2 z.length f5,.slice f3 y.length f6];have hU:Out [] x4 (x4.alloc (.cells #[.int .i64 D,.int .i64 0,.bool false,.bool false,.int .i64 0,.bool fh,.slice f1 x.length f4,.slice f2 z.length f5,.slice f3 y.length f6] 83)):=Out.of_below A;replace hS:=hS.below A;replace Bx:=Bx.below A;replace R0:=R0.below A;replace oq:=instK.own_out oq hU (fun _ _=>by simp);replace o4:=instK.own_out o4 hU (fun _ _=>by simp);replace hg:=hg.call A;have E:∀k∈instK.foot (⟨fh,.slice f1 x.length f4,x,.slice f2 z.length f5,z,.slice f3 y.length f6,y⟩:InstQ),w.heap.size<k∧k≠g:=fun k hk=>by have:=g4 k hk;have:=l4 k hk;omega
    have r0:=G8.cell 0 _ rfl;clear A hU g4 l4;by_cases hD:D=0
    ·have h4:=M.out hD;have aa:(D==0)=true:=by rw[hD];rfl
     clear hD;have r5:=G8.cell 5 _ rfl;have r6:=G8.cell 6 _ rfl;have r7:=G8.cell 7 _ rfl;have r8:=G8.cell 8 _ rfl;have Br:=Bx.row #[.bool fh,.slice f1 x.length f4,.slice f2 z.length f5,.slice f3 y.length f6];have L:(Tryz.prog.info? 49).map (·.size)=some (#[.bool fh,.slice f1 x.length f4,.slice f2 z.length f5,.slice f3 y.length f6]:Array Value).size:=z0l;have C:=z0f (x4.alloc (.cells #[.int .i64 D,.int .i64 0,.bool false,.bool false,.int .i64 0,.bool fh,.slice f1 x.length f4,.slice f2 z.length f5,.slice f3 y.length f6] 83)) g #[.bool fh,.slice f1 x.length f4,.slice f2 z.length f5,.slice f3 y.length f6];have O:Hid (EndI B b (T+2501+(n+1)) g w ((x4.alloc (.cells #[.int .i64 D,.int .i64 0,.bool false,.bool false,.int .i64 0,.bool fh,.slice f1 x.length f4,.slice f2 z.length f5,.slice f3 y.length f6] 83)).setRow g #[.bool fh,.slice f1 x.length f4,.slice f2 z.length f5,.slice f3 y.length f6]) (⟨fh,.slice f1 x.length f4,x,.slice f2 z.length f5,z,.slice f3 y.length f6,y⟩:InstQ)):=⟨h4,instK.own_out o4 C (fun k hk I=>by simp only[List.mem_singleton]at I;have:=E k hk;omega),n4,E,Br,R0.outs C (fun hk=>by simp only[List.mem_singleton]at hk;omega),hS.out C (by simp only[List.mem_singleton];omega) (fun k hk=>by simp only[List.mem_singleton]at hk;omega),(hg).trans2 C (fun k hk=>by simp only[List.mem_singleton]at hk;omega)⟩
     clear Br C;clear o4 n4 E R0 hg hS h4 oq nq G hi M
     go_wp2_with (first|(refine z0d (by kernel_rfl) 49 _ _ rfl _ #[.bool fh,.slice f1 x.length f4,.slice f2 z.length f5,.slice f3 y.length f6] rfl rfl 49 _ Bx L rfl (by simp[Value.oneCell']) ?_))
     clear r0 r5 r6 r7 r8 G8 Bx L;go_roundw
     case rel=>exact⟨n+1,_,by go_num,by omega,O⟩
     case measure=>simp[intOf];omega
    ·have aa:(D==0)=false:=by simpa using hD
     have Z:Hid (EndI B b (T+2501+(n+1)) g w (x4.alloc (.cells #[.int .i64 D,.int .i64 0,.bool false,.bool false,.int .i64 0,.bool fh,.slice f1 x.length f4,.slice f2 z.length f5,.slice f3 y.length f6] 83)) (⟨eh,.slice e1 r.length e4,r,.slice e2 s.length e5,s,.slice e3 d.length e6,d⟩:InstQ)):=⟨hi,oq,nq,G,Bx,R0,hS,hg⟩
     clear o4 n4 E R0 hg hS oq nq G hi M Bx
     go_wp2
     clear r0 G8;go_roundw
     case rel=>exact⟨n+1,_,by go_num,by omega,Z⟩
     case measure=>simp[intOf];omega
   ·have N:¬(n:Int)<3:=by omega
    obtain rfl:n=3:=by omega
    go_wp2
    go_loopw[7] (fun c wr=>∃ (n:Nat) (q:InstQ),c=.int .i64 n∧n≤4∧Hid (EndI B b (T+2501+3) g w wr q)) (fun c _=>4-(intOf c).toNat)
    case atStart=>exact⟨0,_,rfl,by omega,HI⟩
    case round=>
     clear HI;obtain⟨rd,q,rfl,aF,HI⟩:=hrel;obtain⟨hi,oq,nq,G,Bx,R0,hS,hg⟩:=HI.out;clear HI;obtain⟨eh,eb,r,er,s,ed,d⟩:=q;obtain⟨e1,e4,rfl⟩:∃a c,eb=.slice a r.length c:=oq.1.shape;obtain⟨e2,e5,rfl⟩:∃a c,er=.slice a s.length c:=oq.2.1.shape;obtain⟨e3,e6,rfl⟩:∃a c,ed=.slice a d.length c:=oq.2.2.shape;dsimp only at Bx;have ae:=Bx.lt;have af:w.heap.size<g:=Y;have ab:InstQ.n (⟨eh,.slice e1 r.length e4,r,.slice e2 s.length e5,s,.slice e3 d.length e6,d⟩:InstQ)≤1048576:=(by rw[z0F];have:=z0w hi;omega)
     have hP:=(⟨⟨Bx.cell 0 _ rfl,Bx.cell 1 _ rfl,Bx.cell 2 _ rfl,Bx.cell 3 _ rfl⟩,instK.own_rd oq⟩:InstP _ g 0 (⟨eh,.slice e1 r.length e4,r,.slice e2 s.length e5,s,.slice e3 d.length e6,d⟩:InstQ))
     by_cases aE:rd<4
     ·have ak:(rd:Int)<4:=by omega
      go_wp2_with fail
      refine(z0U g 0 (⟨eh,.slice e1 r.length e4,r,.slice e2 s.length e5,s,.slice e3 d.length e6,d⟩:InstQ) wr hP ab).mono ?_;rintro e x3 ⟨rfl,U⟩;replace U:=U.symm;subst U;dsimp only;by_cases ad:outV d=3
      ·have aj:(outV d==3)=true:=by rw[ad];rfl
       have ag:Hid (EndI B b (T+2501+3) g w wr (⟨eh,.slice e1 r.length e4,r,.slice e2 s.length e5,s,.slice e3 d.length e6,d⟩:InstQ)):=⟨hi,oq,nq,G,Bx,R0,hS,hg⟩
       clear oq nq G Bx R0 hS hg hi hP ab;generalize outV d=OV at*;clear ad
       go_wp2
       go_loopw[8] (fun c wr=>∃ (n:Nat) (q:InstQ),c=.int .i64 n∧n≤3∧Hid (EndI B b (T+2501+3) g w wr q)) (fun c _=>3-(intOf c).toNat)
       case atStart=>exact⟨0,_,rfl,by omega,ag⟩
       case round=>
        clear ag;obtain⟨n,q,rfl,hn,HI⟩:=hrel;by_cases ai:n<3
        ·have N:(n:Int)<3:=by omega
         obtain⟨hi,oq,nq,G,Bx,R0,hS,hg⟩:=HI.out;clear HI;obtain⟨eh,eb,r,er,s,ed,d⟩:=q;obtain⟨e1,e4,rfl⟩:∃a c,eb=.slice a r.length c:=oq.1.shape;obtain⟨e2,e5,rfl⟩:∃a c,er=.slice a s.length c:=oq.2.1.shape;obtain⟨e3,e6,rfl⟩:∃a c,ed=.slice a d.length c:=oq.2.2.shape;dsimp only at Bx;have ae:=Bx.lt;have af:w.heap.size<g:=Y
         go_wp2_with fail
         have ah:g<wr.heap.size:=Bx.lt;refine(z00 g 0 (⟨eh,.slice e1 r.length e4,r,.slice e2 s.length e5,s,.slice e3 d.length e6,d⟩:InstQ) n rd 7 wr (⟨⟨Bx.cell 0 _ rfl,Bx.cell 1 _ rfl,Bx.cell 2 _ rfl,Bx.cell 3 _ rfl⟩,instK.own_rd oq⟩:InstP _ g 0 (⟨eh,.slice e1 r.length e4,r,.slice e2 s.length e5,s,.slice e3 d.length e6,d⟩:InstQ)) Bx.lt (by rw[z0F];have:=z0w hi;omega) hi).mono ?_;rintro e x4 ⟨q4,rfl,J,o4,n4,g4,A⟩;have M:Hid (prC (InstQ.e (⟨eh,.slice e1 r.length e4,r,.slice e2 s.length e5,s,.slice e3 d.length e6,d⟩:InstQ)) n rd 7=0→insF q4.e=0):=fun h9=>by rw[J];exact(fun h=>(z1f h).1) h9
         clear J;generalize prC (InstQ.e (⟨eh,.slice e1 r.length e4,r,.slice e2 s.length e5,s,.slice e3 d.length e6,d⟩:InstQ)) n rd 7=D at*;have al:wr.heap.size≤x4.heap.size:=A.size;have l4:=instK.own_lt o4;have hU:Out [] wr x4:=Out.of_below A;replace hS:=hS.below A;replace Bx:=Bx.below A;replace R0:=R0.below A;replace oq:=instK.own_out oq hU (fun _ _=>by simp);replace hg:=hg.call A;clear A hU;obtain⟨fh,fb,x,fr,z,fd,y⟩:=q4;obtain⟨f1,f4,rfl⟩:∃a c,fb=.slice a x.length c:=o4.1.shape;obtain⟨f2,f5,rfl⟩:∃a c,fr=.slice a z.length c:=o4.2.1.shape;obtain⟨f3,f6,rfl⟩:∃a c,fd=.slice a y.length c:=o4.2.2.shape;have A:Below x4.heap.size x4 (x4.alloc (.cells #[.int .i64 D,.int .i64 0,.bool false,.bool false,.int .i64 0,.bool fh,.slice f1 x.length f4,.slice f2 z.length f5,.slice f3 y.length f6] 83)):=by go_grown
         have G8:=Blk.new x4 83 #[.int .i64 D,.int .i64 0,.bool false,.bool false,.int .i64 0,.bool fh,.slice f1 x.length f4,.slice f2 z.length f5,.slice f3 y.length f6];have hU:Out [] x4 (x4.alloc (.cells #[.int .i64 D,.int .i64 0,.bool false,.bool false,.int .i64 0,.bool fh,.slice f1 x.length f4,.slice f2 z.length f5,.slice f3 y.length f6] 83)):=Out.of_below A;replace hS:=hS.below A;replace Bx:=Bx.below A;replace R0:=R0.below A;replace oq:=instK.own_out oq hU (fun _ _=>by simp);replace o4:=instK.own_out o4 hU (fun _ _=>by simp);replace hg:=hg.call A;have E:∀k∈instK.foot (⟨fh,.slice f1 x.length f4,x,.slice f2 z.length f5,z,.slice f3 y.length f6,y⟩:InstQ),w.heap.size<k∧k≠g:=fun k hk=>by have:=g4 k hk;have:=l4 k hk;omega
         have r0:=G8.cell 0 _ rfl;clear A hU g4 l4;by_cases hD:D=0
         ·have h4:=M.out hD;have aa:(D==0)=true:=by rw[hD];rfl
          clear hD;have r5:=G8.cell 5 _ rfl;have r6:=G8.cell 6 _ rfl;have r7:=G8.cell 7 _ rfl;have r8:=G8.cell 8 _ rfl;have Br:=Bx.row #[.bool fh,.slice f1 x.length f4,.slice f2 z.length f5,.slice f3 y.length f6];have L:(Tryz.prog.info? 49).map (·.size)=some (#[.bool fh,.slice f1 x.length f4,.slice f2 z.length f5,.slice f3 y.length f6]:Array Value).size:=z0l;have C:=z0f (x4.alloc (.cells #[.int .i64 D,.int .i64 0,.bool false,.bool false,.int .i64 0,.bool fh,.slice f1 x.length f4,.slice f2 z.length f5,.slice f3 y.length f6] 83)) g #[.bool fh,.slice f1 x.length f4,.slice f2 z.length f5,.slice f3 y.length f6];have O:Hid (EndI B b (T+2501+3) g w ((x4.alloc (.cells #[.int .i64 D,.int .i64 0,.bool false,.bool false,.int .i64 0,.bool fh,.slice f1 x.length f4,.slice f2 z.length f5,.slice f3 y.length f6] 83)).setRow g #[.bool fh,.slice f1 x.length f4,.slice f2 z.length f5,.slice f3 y.length f6]) (⟨fh,.slice f1 x.length f4,x,.slice f2 z.length f5,z,.slice f3 y.length f6,y⟩:InstQ)):=⟨h4,instK.own_out o4 C (fun k hk I=>by simp only[List.mem_singleton]at I;have:=E k hk;omega),n4,E,Br,R0.outs C (fun hk=>by simp only[List.mem_singleton]at hk;omega),hS.out C (by simp only[List.mem_singleton];omega) (fun k hk=>by simp only[List.mem_singleton]at hk;omega),(hg).trans2 C (fun k hk=>by simp only[List.mem_singleton]at hk;omega)⟩
          clear Br C;clear o4 n4 E R0 hg hS h4 oq nq G hi M
          go_wp2_with (first|(refine z0d (by kernel_rfl) 49 _ _ rfl _ #[.bool fh,.slice f1 x.length f4,.slice f2 z.length f5,.slice f3 y.length f6] rfl rfl 49 _ Bx L rfl (by simp[Value.oneCell']) ?_))
          clear r0 r5 r6 r7 r8 G8 Bx L;go_roundw
          case rel=>exact⟨n+1,_,by go_num,by omega,O⟩
          case measure=>simp[intOf];omega
         ·have aa:(D==0)=false:=by simpa using hD
          have Z:Hid (EndI B b (T+2501+3) g w (x4.alloc (.cells #[.int .i64 D,.int .i64 0,.bool false,.bool false,.int .i64 0,.bool fh,.slice f1 x.length f4,.slice f2 z.length f5,.slice f3 y.length f6] 83)) (⟨eh,.slice e1 r.length e4,r,.slice e2 s.length e5,s,.slice e3 d.length e6,d⟩:InstQ)):=⟨hi,oq,nq,G,Bx,R0,hS,hg⟩
          clear o4 n4 E R0 hg hS oq nq G hi M Bx
          go_wp2
          clear r0 G8;go_roundw
          case rel=>exact⟨n+1,_,by go_num,by omega,Z⟩
          case measure=>simp[intOf];omega
        ·have N:¬(n:Int)<3:=by omega
         go_wp2
         go_loopw[10] (fun c wr=>∃ (n:Nat) (q:InstQ),c=.int .i64 n∧n≤3∧Hid (EndI B b (T+2501+3) g w wr q)) (fun c _=>3-(intOf c).toNat)
         case atStart=>exact⟨0,_,rfl,by omega,HI⟩
         case round=>
          clear HI;obtain⟨n,q,rfl,hn,HI⟩:=hrel;by_cases ai:n<3
          ·have N:(n:Int)<3:=by omega
           obtain⟨hi,oq,nq,G,Bx,R0,hS,hg⟩:=HI.out;clear HI;obtain⟨eh,eb,r,er,s,ed,d⟩:=q;obtain⟨e1,e4,rfl⟩:∃a c,eb=.slice a r.length c:=oq.1.shape;obtain⟨e2,e5,rfl⟩:∃a c,er=.slice a s.length c:=oq.2.1.shape;obtain⟨e3,e6,rfl⟩:∃a c,ed=.slice a d.length c:=oq.2.2.shape;dsimp only at Bx;have ae:=Bx.lt;have af:w.heap.size<g:=Y
           go_wp2_with fail
           have ah:g<wr.heap.size:=Bx.lt;refine(z1N g 0 (⟨eh,.slice e1 r.length e4,r,.slice e2 s.length e5,s,.slice e3 d.length e6,d⟩:InstQ) n rd 7 0 wr (⟨⟨Bx.cell 0 _ rfl,Bx.cell 1 _ rfl,Bx.cell 2 _ rfl,Bx.cell 3 _ rfl⟩,instK.own_rd oq⟩:InstP _ g 0 (⟨eh,.slice e1 r.length e4,r,.slice e2 s.length e5,s,.slice e3 d.length e6,d⟩:InstQ)) Bx.lt (by rw[z0F];have:=z0w hi;omega) hi).mono ?_;rintro e x4 ⟨q4,rfl,J,o4,n4,g4,A⟩;have M:Hid (goC (InstQ.e (⟨eh,.slice e1 r.length e4,r,.slice e2 s.length e5,s,.slice e3 d.length e6,d⟩:InstQ)) n rd 7 0=0→insF q4.e=0):=fun h9=>by rw[J];exact(fun h=>(z50 h).1) h9
           clear J;generalize goC (InstQ.e (⟨eh,.slice e1 r.length e4,r,.slice e2 s.length e5,s,.slice e3 d.length e6,d⟩:InstQ)) n rd 7 0=D at*;generalize goZ (InstQ.e (⟨eh,.slice e1 r.length e4,r,.slice e2 s.length e5,s,.slice e3 d.length e6,d⟩:InstQ)) n rd 7 0=K0 at*;generalize goD (InstQ.e (⟨eh,.slice e1 r.length e4,r,.slice e2 s.length e5,s,.slice e3 d.length e6,d⟩:InstQ)) n rd 7 0=K1 at*;generalize goK (InstQ.e (⟨eh,.slice e1 r.length e4,r,.slice e2 s.length e5,s,.slice e3 d.length e6,d⟩:InstQ)) n rd 7 0=K2 at*;generalize goV (InstQ.e (⟨eh,.slice e1 r.length e4,r,.slice e2 s.length e5,s,.slice e3 d.length e6,d⟩:InstQ)) n rd 7 0=K3 at*;have al:wr.heap.size≤x4.heap.size:=A.size;have l4:=instK.own_lt o4;have hU:Out [] wr x4:=Out.of_below A;replace hS:=hS.below A;replace Bx:=Bx.below A;replace R0:=R0.below A;replace oq:=instK.own_out oq hU (fun _ _=>by simp);replace hg:=hg.call A;clear A hU;obtain⟨fh,fb,x,fr,z,fd,y⟩:=q4;obtain⟨f1,f4,rfl⟩:∃a c,fb=.slice a x.length c:=o4.1.shape;obtain⟨f2,f5,rfl⟩:∃a c,fr=.slice a z.length c:=o4.2.1.shape;obtain⟨f3,f6,rfl⟩:∃a c,fd=.slice a y.length c:=o4.2.2.shape;have A:Below x4.heap.size x4 (x4.alloc (.cells #[.int .i64 D,.int .i64 K0,.bool K1,.bool K2,.int .i64 K3,.bool fh,.slice f1 x.length f4,.slice f2 z.length f5,.slice f3 y.length f6] 83)):=by go_grown
           have G8:=Blk.new x4 83 #[.int .i64 D,.int .i64 K0,.bool K1,.bool K2,.int .i64 K3,.bool fh,.slice f1 x.length f4,.slice f2 z.length f5,.slice f3 y.length f6];have hU:Out [] x4 (x4.alloc (.cells #[.int .i64 D,.int .i64 K0,.bool K1,.bool K2,.int .i64 K3,.bool fh,.slice f1 x.length f4,.slice f2 z.length f5,.slice f3 y.length f6] 83)):=Out.of_below A;replace hS:=hS.below A;replace Bx:=Bx.below A;replace R0:=R0.below A;replace oq:=instK.own_out oq hU (fun _ _=>by simp);replace o4:=instK.own_out o4 hU (fun _ _=>by simp);replace hg:=hg.call A;have E:∀k∈instK.foot (⟨fh,.slice f1 x.length f4,x,.slice f2 z.length f5,z,.slice f3 y.length f6,y⟩:InstQ),w.heap.size<k∧k≠g:=fun k hk=>by have:=g4 k hk;have:=l4 k hk;omega
           have r0:=G8.cell 0 _ rfl;clear A hU g4 l4;by_cases hD:D=0
           ·have h4:=M.out hD;have aa:(D==0)=true:=by rw[hD];rfl
            clear hD;have r5:=G8.cell 5 _ rfl;have r6:=G8.cell 6 _ rfl;have r7:=G8.cell 7 _ rfl;have r8:=G8.cell 8 _ rfl;have Br:=Bx.row #[.bool fh,.slice f1 x.length f4,.slice f2 z.length f5,.slice f3 y.length f6];have L:(Tryz.prog.info? 49).map (·.size)=some (#[.bool fh,.slice f1 x.length f4,.slice f2 z.length f5,.slice f3 y.length f6]:Array Value).size:=z0l;have C:=z0f (x4.alloc (.cells #[.int .i64 D,.int .i64 K0,.bool K1,.bool K2,.int .i64 K3,.bool fh,.slice f1 x.length f4,.slice f2 z.length f5,.slice f3 y.length f6] 83)) g #[.bool fh,.slice f1 x.length f4,.slice f2 z.length f5,.slice f3 y.length f6];have O:Hid (EndI B b (T+2501+3) g w ((x4.alloc (.cells #[.int .i64 D,.int .i64 K0,.bool K1,.bool K2,.int .i64 K3,.bool fh,.slice f1 x.length f4,.slice f2 z.length f5,.slice f3 y.length f6] 83)).setRow g #[.bool fh,.slice f1 x.length f4,.slice f2 z.length f5,.slice f3 y.length f6]) (⟨fh,.slice f1 x.length f4,x,.slice f2 z.length f5,z,.slice f3 y.length f6,y⟩:InstQ)):=⟨h4,instK.own_out o4 C (fun k hk I=>by simp only[List.mem_singleton]at I;have:=E k hk;omega),n4,E,Br,R0.outs C (fun hk=>by simp only[List.mem_singleton]at hk;omega),hS.out C (by simp only[List.mem_singleton];omega) (fun k hk=>by simp only[List.mem_singleton]at hk;omega),(hg).trans2 C (fun k hk=>by simp only[List.mem_singleton]at hk;omega)⟩
            clear Br C;clear o4 n4 E R0 hg hS h4 oq nq G hi M
            go_wp2_with (first|(refine z0d (by kernel_rfl) 49 _ _ rfl _ #[.bool fh,.slice f1 x.length f4,.slice f2 z.length f5,.slice f3 y.length f6] rfl rfl 49 _ Bx L rfl (by simp[Value.oneCell']) ?_))
            clear r0 r5 r6 r7 r8 G8 Bx L;go_roundw
            case rel=>exact⟨n+1,_,by go_num,by omega,O⟩
            case measure=>simp[intOf];omega
           ·have aa:(D==0)=false:=by simpa using hD
            have Z:Hid (EndI B b (T+2501+3) g w (x4.alloc (.cells #[.int .i64 D,.int .i64 K0,.bool K1,.bool K2,.int .i64 K3,.bool fh,.slice f1 x.length f4,.slice f2 z.length f5,.slice f3 y.length f6] 83)) (⟨eh,.slice e1 r.length e4,r,.slice e2 s.length e5,s,.slice e3 d.length e6,d⟩:InstQ)):=⟨hi,oq,nq,G,Bx,R0,hS,hg⟩
            clear o4 n4 E R0 hg hS oq nq G hi M Bx
            go_wp2
            clear r0 G8;go_roundw
            case rel=>exact⟨n+1,_,by go_num,by omega,Z⟩
            case measure=>simp[intOf];omega
          ·have N:¬(n:Int)<3:=by omega
           go_wp2
           go_roundw
           case rel=>exact⟨rd+1,_,by go_num,by omega,HI⟩
           case measure=>simp[intOf];omega
      ·have aj:(outV d==3)=false:=by simpa using ad
       generalize outV d=OV at*;clear hP ab ad;have Rr:=R0.row #[.bool eh,.slice e1 r.length e4,.slice e2 s.length e5,.slice e3 d.length e6];have L:(Tryz.prog.info? 49).map (·.size)=some (#[.bool eh,.slice e1 r.length e4,.slice e2 s.length e5,.slice e3 d.length e6]:Array Value).size:=z0l;have C:=z0f wr w.heap.size #[.bool eh,.slice e1 r.length e4,.slice e2 s.length e5,.slice e3 d.length e6];have HZ:Hid (instK.own (wr.setRow w.heap.size #[.bool eh,.slice e1 r.length e4,.slice e2 s.length e5,.slice e3 d.length e6]) (⟨eh,.slice e1 r.length e4,r,.slice e2 s.length e5,s,.slice e3 d.length e6,d⟩:InstQ)∧Src B (wr.setRow w.heap.size #[.bool eh,.slice e1 r.length e4,.slice e2 s.length e5,.slice e3 d.length e6]) b (T+2600)∧w.grownBy (wr.setRow w.heap.size #[.bool eh,.slice e1 r.length e4,.slice e2 s.length e5,.slice e3 d.length e6]) (some b)):=by
        refine⟨instK.own_out oq C (fun k hk I=>by simp only[List.mem_singleton]at I;have:=G k hk;omega),?_,?_⟩
        ·exact(hS.out C (by simp only[List.mem_singleton];omega) (fun k hk=>by simp only[List.mem_singleton]at hk;omega)).mono (by omega)
        ·exact z0k (z0O hg) C (fun k hk=>by simp only[List.mem_singleton]at hk;omega)
       have HQ:Hid (insF (InstQ.e (⟨eh,.slice e1 r.length e4,r,.slice e2 s.length e5,s,.slice e3 d.length e6,d⟩:InstQ))=0∧(instK.foot (⟨eh,.slice e1 r.length e4,r,.slice e2 s.length e5,s,.slice e3 d.length e6,d⟩:InstQ)).Nodup∧∀k∈instK.foot (⟨eh,.slice e1 r.length e4,r,.slice e2 s.length e5,s,.slice e3 d.length e6,d⟩:InstQ),w.heap.size≤k):=⟨hi,nq,fun k hk=>by have:=G k hk;omega⟩
       obtain⟨p0,p1,p2,p3⟩:=Bx.cel4;clear oq nq G hS hg hi C Bx
       go_wp2_with (first|(refine z0d (by kernel_rfl) 49 _ _ rfl _ #[.bool eh,.slice e1 r.length e4,.slice e2 s.length e5,.slice e3 d.length e6] rfl rfl 49 _ R0 L rfl (by simp[Value.oneCell']) ?_))
       obtain⟨q0,q1,q2,q3⟩:=Rr.cel4;exact bodyPost_ret (v:=.agg #[.bool eh,.slice e1 r.length e4,.slice e2 s.length e5,.slice e3 d.length e6]) (by simp[results,Tryz.results150,go_sem,q0,q1,q2,q3]) rfl ⟨(⟨eh,.slice e1 r.length e4,r,.slice e2 s.length e5,s,.slice e3 d.length e6,d⟩:InstQ),rfl,HQ.out.1,HZ.out.1,HQ.out.2.1,HQ.out.2.2,HZ.out.2.1,HZ.out.2.2⟩
     ·have ak:¬(rd:Int)<4:=by omega
      clear hP ab;have Rr:=R0.row #[.bool eh,.slice e1 r.length e4,.slice e2 s.length e5,.slice e3 d.length e6];have L:(Tryz.prog.info? 49).map (·.size)=some (#[.bool eh,.slice e1 r.length e4,.slice e2 s.length e5,.slice e3 d.length e6]:Array Value).size:=z0l;have C:=z0f wr w.heap.size #[.bool eh,.slice e1 r.length e4,.slice e2 s.length e5,.slice e3 d.length e6];have HZ:Hid (instK.own (wr.setRow w.heap.size #[.bool eh,.slice e1 r.length e4,.slice e2 s.length e5,.slice e3 d.length e6]) (⟨eh,.slice e1 r.length e4,r,.slice e2 s.length e5,s,.slice e3 d.length e6,d⟩:InstQ)∧Src B (wr.setRow w.heap.size #[.bool eh,.slice e1 r.length e4,.slice e2 s.length e5,.slice e3 d.length e6]) b (T+2600)∧w.grownBy (wr.setRow w.heap.size #[.bool eh,.slice e1 r.length e4,.slice e2 s.length e5,.slice e3 d.length e6]) (some b)):=by
       refine⟨instK.own_out oq C (fun k hk I=>by simp only[List.mem_singleton]at I;have:=G k hk;omega),?_,?_⟩
       ·exact(hS.out C (by simp only[List.mem_singleton];omega) (fun k hk=>by simp only[List.mem_singleton]at hk;omega)).mono (by omega)
       ·exact z0k (z0O hg) C (fun k hk=>by simp only[List.mem_singleton]at hk;omega)
      have HQ:Hid (insF (InstQ.e (⟨eh,.slice e1 r.length e4,r,.slice e2 s.length e5,s,.slice e3 d.length e6,d⟩:InstQ))=0∧(instK.foot (⟨eh,.slice e1 r.length e4,r,.slice e2 s.length e5,s,.slice e3 d.length e6,d⟩:InstQ)).Nodup∧∀k∈instK.foot (⟨eh,.slice e1 r.length e4,r,.slice e2 s.length e5,s,.slice e3 d.length e6,d⟩:InstQ),w.heap.size≤k):=⟨hi,nq,fun k hk=>by have:=G k hk;omega⟩
      obtain⟨p0,p1,p2,p3⟩:=Bx.cel4;clear oq nq G hS hg hi C Bx
      go_wp2_with (first|(refine z0d (by kernel_rfl) 49 _ _ rfl _ #[.bool eh,.slice e1 r.length e4,.slice e2 s.length e5,.slice e3 d.length e6] rfl rfl 49 _ R0 L rfl (by simp[Value.oneCell']) ?_))
      obtain⟨q0,q1,q2,q3⟩:=Rr.cel4;exact bodyPost_ret (v:=.agg #[.bool eh,.slice e1 r.length e4,.slice e2 s.length e5,.slice e3 d.length e6]) (by simp[results,Tryz.results150,go_sem,q0,q1,q2,q3]) rfl ⟨(⟨eh,.slice e1 r.length e4,r,.slice e2 s.length e5,s,.slice e3 d.length e6,d⟩:InstQ),rfl,HQ.out.1,HZ.out.1,HQ.out.2.1,HQ.out.2.2,HZ.out.2.1,HZ.out.2.2⟩
 |false=>
  go_wp2_with fail
  refine(z3I B b (T+1) x2 hS (by omega)).mono ?_;rintro e x3 ⟨vb,bs,rfl,aq,aG,aB,oB,nB,gB,V,X⟩;have hU:Out [b] x2 x3:=Out.of_grown X;replace hS:=V;replace Bx:=Bx.outs hU (fun hk=>by simp only[List.mem_singleton]at hk;omega);replace R0:=R0.outs hU (fun hk=>by simp only[List.mem_singleton]at hk;omega);replace oq:=instK.own_out oq hU (fun k hk I=>by simp only[List.mem_singleton]at I;have:=G k hk;omega);replace hg:=hg.trans hU;clear hU V X nB gB;have aC:bs.length+nmL TxnQ.n bs≤1048576:=by
   have h9:nmL TxnQ.n bs≤3*bs.length:=z7v bs aB;omega
  have ay:sbC (InstQ.e (⟨eh,.slice e1 r.length e4,r,.slice e2 s.length e5,s,.slice e3 d.length e6,d⟩:InstQ)) (bs.map TxnQ.e)=0:=by unfold sbC;rw[if_pos hi,if_neg (by show¬eh=true;rw[aI.out];decide)];exact aq
  have aD:=z5Y g 0 (⟨eh,.slice e1 r.length e4,r,.slice e2 s.length e5,s,.slice e3 d.length e6,d⟩:InstQ) vb bs x3 ⟨⟨Bx.cell 0 _ rfl,Bx.cell 1 _ rfl,Bx.cell 2 _ rfl,Bx.cell 3 _ rfl⟩,instK.own_rd oq⟩ Bx.lt (by rw[z0F];have:=z0w hi;omega) hi oB.at aC;obtain⟨aL,aM,rfl⟩:=oB.shape
  go_wp2_with fail
  refine aD.mono ?_;rintro e x4 ⟨q4,rfl,J,o4,n4,g4,A⟩;rw[ay];have h4:insF q4.e=0:=by rw[J];exact z4V (z8v ay)
  have aK:=Bx.lt;replace hS:=hS.below A;replace Bx:=Bx.below A;replace R0:=R0.below A;replace hg:=hg.call A;have E:∀k∈instK.foot q4,w.heap.size<k∧k≠g:=fun k hk=>by have:=g4 k hk;omega
  clear A oq nq G hi g4 J aD ay aq aG aB oB aC;obtain⟨fh,fb,x,fr,z,fd,y⟩:=q4;obtain⟨f1,f4,rfl⟩:∃a c,fb=.slice a x.length c:=o4.1.shape;obtain⟨f2,f5,rfl⟩:∃a c,fr=.slice a z.length c:=o4.2.1.shape;obtain⟨f3,f6,rfl⟩:∃a c,fd=.slice a y.length c:=o4.2.2.shape;have aH:=z9t fh f1 x.length f4 f2 z.length f5 f3 y.length f6;have Br:=Bx.row #[.bool fh,.slice f1 x.length f4,.slice f2 z.length f5,.slice f3 y.length f6];have L:(Tryz.prog.info? 49).map (·.size)=some (#[.bool fh,.slice f1 x.length f4,.slice f2 z.length f5,.slice f3 y.length f6]:Array Value).size:=z0l;have C:=z0f x4 g #[.bool fh,.slice f1 x.length f4,.slice f2 z.length f5,.slice f3 y.length f6];have O:Hid (EndI B b (T+1+50) g w (x4.setRow g #[.bool fh,.slice f1 x.length f4,.slice f2 z.length f5,.slice f3 y.length f6]) (⟨fh,.slice f1 x.length f4,x,.slice f2 z.length f5,z,.slice f3 y.length f6,y⟩:InstQ)):=⟨h4,instK.own_out o4 C (fun k hk I=>by simp only[List.mem_singleton]at I;have:=E k hk;omega),n4,E,Br,R0.outs C (fun hk=>by simp only[List.mem_singleton]at hk;omega),hS.out C (by simp only[List.mem_singleton];omega) (fun k hk=>by simp only[List.mem_singleton]at hk;omega),(hg).trans2 C (fun k hk=>by simp only[List.mem_singleton]at hk;omega)⟩
  clear Br C;have aA:=hS.out (z0f x4 g #[.bool fh,.slice f1 x.length f4,.slice f2 z.length f5,.slice f3 y.length f6]) (by simp only[List.mem_singleton];omega) (fun k hk=>by simp only[List.mem_singleton]at hk;omega);clear o4 n4 E R0 hg hS h4
  go_wp2_with (first|(refine z0d (by kernel_rfl) 49 _ _ rfl _ #[.bool fh,.slice f1 x.length f4,.slice f2 z.length f5,.slice f3 y.length f6] rfl rfl 49 _ Bx L rfl (by simp[Value.oneCell']) ?_)|fail)
  clear aH L Bx;generalize x4.setRow g #[.bool fh,.slice f1 x.length f4,.slice f2 z.length f5,.slice f3 y.length f6]=X5 at*;refine(z0m B b (T+1+50) 5 X5 aA (by omega) (by omega)).mono ?_;rintro e x6 ⟨r5,rfl,ax,V,X⟩;have am:Hid (EndI B b (T+52+0) g w x6 (⟨fh,.slice f1 x.length f4,x,.slice f2 z.length f5,z,.slice f3 y.length f6,y⟩:InstQ)):=by
   obtain⟨hi,oq,nq,G,Bx,R0,hS,hg⟩:=O.out;have hU:Out [b] X5 x6:=Out.of_grown X;exact⟨hi,instK.own_out oq hU (fun k hk I=>by simp only[List.mem_singleton]at I;have:=G k hk;omega),nq,G,Bx.outs hU (fun hk=>by simp only[List.mem_singleton]at hk;omega),R0.outs hU (fun hk=>by simp only[List.mem_singleton]at hk;omega),V,hg.trans hU⟩
  clear O V X aA;have Y:w.heap.size<g:=by omega
  have av:=ax.1;have az:=ax.2.1 (by omega);clear ax;obtain hz|hz:r5<4∨r5=4:=by omega
  ·have hq:r5 / 4=0:=by omega
   have aJ:r5.tdiv 4=0:=by rw[Int.tdiv_eq_ediv_of_nonneg av];exact hq
   go_wp2
   clear hq aJ hz av az;go_loopw[5] (fun c wr=>∃ (n:Nat) (q:InstQ),c=.int .i64 n∧n≤3∧Hid (EndI B b (T+52+n) g w wr q)) (fun c _=>3-(intOf c).toNat)
   case atStart=>exact⟨0,_,rfl,by omega,am⟩
   case round=>
    clear am;obtain⟨n,q,rfl,hn,HI⟩:=hrel;by_cases ai:n<3
    ·have N:(n:Int)<3:=by omega
     obtain⟨hi,oq,nq,G,Bx,R0,hS,hg⟩:=HI.out;clear HI;obtain⟨eh,eb,r,er,s,ed,d⟩:=q;obtain⟨e1,e4,rfl⟩:∃a c,eb=.slice a r.length c:=oq.1.shape;obtain⟨e2,e5,rfl⟩:∃a c,er=.slice a s.length c:=oq.2.1.shape;obtain⟨e3,e6,rfl⟩:∃a c,ed=.slice a d.length c:=oq.2.2.shape;dsimp only at Bx;have ae:=Bx.lt;have af:w.heap.size<g:=Y
     go_wp2_with fail
     refine(z0m B b (T+52+n) 9 wr hS (by omega) (by omega)).mono ?_;rintro e x2 ⟨r9,rfl,ao,V,X⟩;have hU:Out [b] wr x2:=Out.of_grown X;replace hS:=V;replace Bx:=Bx.outs hU (fun hk=>by simp only[List.mem_singleton]at hk;omega);replace R0:=R0.outs hU (fun hk=>by simp only[List.mem_singleton]at hk;omega);replace oq:=instK.own_out oq hU (fun k hk I=>by simp only[List.mem_singleton]at I;have:=G k hk;omega);replace hg:=hg.trans hU;clear hU V X ao
     go_wp2_with fail
     refine(z4q (1) r9 x2).mono ?_;rintro e x3 ⟨mv,rfl,U⟩;replace U:=U.symm;subst U
     go_wp2_with fail
     have ah:g<x2.heap.size:=Bx.lt;refine(z1Y g 0 (⟨eh,.slice e1 r.length e4,r,.slice e2 s.length e5,s,.slice e3 d.length e6,d⟩:InstQ) n mv x2 (⟨⟨Bx.cell 0 _ rfl,Bx.cell 1 _ rfl,Bx.cell 2 _ rfl,Bx.cell 3 _ rfl⟩,instK.own_rd oq⟩:InstP _ g 0 (⟨eh,.slice e1 r.length e4,r,.slice e2 s.length e5,s,.slice e3 d.length e6,d⟩:InstQ)) Bx.lt (by rw[z0F];have:=z0w hi;omega) hi).mono ?_;rintro e x4 ⟨q4,rfl,J,o4,n4,g4,A⟩;have M:Hid (frC (InstQ.e (⟨eh,.slice e1 r.length e4,r,.slice e2 s.length e5,s,.slice e3 d.length e6,d⟩:InstQ)) n mv=0→insF q4.e=0):=fun h9=>by rw[J];exact z2O h9
     clear J;generalize frC (InstQ.e (⟨eh,.slice e1 r.length e4,r,.slice e2 s.length e5,s,.slice e3 d.length e6,d⟩:InstQ)) n mv=D at*;have al:x2.heap.size≤x4.heap.size:=A.size;have l4:=instK.own_lt o4;have hU:Out [] x2 x4:=Out.of_below A;replace hS:=hS.below A;replace Bx:=Bx.below A;replace R0:=R0.below A;replace oq:=instK.own_out oq hU (fun _ _=>by simp);replace hg:=hg.call A;clear A hU;obtain⟨fh,fb,x,fr,z,fd,y⟩:=q4;obtain⟨f1,f4,rfl⟩:∃a c,fb=.slice a x.length c:=o4.1.shape;obtain⟨f2,f5,rfl⟩:∃a c,fr=.slice a z.length c:=o4.2.1.shape;obtain⟨f3,f6,rfl⟩:∃a c,fd=.slice a y.length c:=o4.2.2.shape;have A:Below x4.heap.size x4 (x4.alloc (.cells #[.int .i64 D,.int .i64 0,.bool false,.bool false,.int .i64 0,.bool fh,.slice f1 x.length f4,.slice f2 z.length f5,.slice f3 y.length f6] 83)):=by go_grown
     have G8:=Blk.new x4 83 #[.int .i64 D,.int .i64 0,.bool false,.bool false,.int .i64 0,.bool fh,.slice f1 x.length f4,.slice f2 z.length f5,.slice f3 y.length f6];have hU:Out [] x4 (x4.alloc (.cells #[.int .i64 D,.int .i64 0,.bool false,.bool false,.int .i64 0,.bool fh,.slice f1 x.length f4,.slice f2 z.length f5,.slice f3 y.length f6] 83)):=Out.of_below A;replace hS:=hS.below A;replace Bx:=Bx.below A;replace R0:=R0.below A;replace oq:=instK.own_out oq hU (fun _ _=>by simp);replace o4:=instK.own_out o4 hU (fun _ _=>by simp);replace hg:=hg.call A;have E:∀k∈instK.foot (⟨fh,.slice f1 x.length f4,x,.slice f2 z.length f5,z,.slice f3 y.length f6,y⟩:InstQ),w.heap.size<k∧k≠g:=fun k hk=>by have:=g4 k hk;have:=l4 k hk;omega
     have r0:=G8.cell 0 _ rfl;clear A hU g4 l4;by_cases hD:D=0
     ·have h4:=M.out hD;have aa:(D==0)=true:=by rw[hD];rfl
      clear hD;have r5:=G8.cell 5 _ rfl;have r6:=G8.cell 6 _ rfl;have r7:=G8.cell 7 _ rfl;have r8:=G8.cell 8 _ rfl;have Br:=Bx.row #[.bool fh,.slice f1 x.length f4,.slice f2 z.length f5,.slice f3 y.length f6];have L:(Tryz.prog.info? 49).map (·.size)=some (#[.bool fh,.slice f1 x.length f4,.slice f2 z.length f5,.slice f3 y.length f6]:Array Value).size:=z0l;have C:=z0f (x4.alloc (.cells #[.int .i64 D,.int .i64 0,.bool false,.bool false,.int .i64 0,.bool fh,.slice f1 x.length f4,.slice f2 z.length f5,.slice f3 y.length f6] 83)) g #[.bool fh,.slice f1 x.length f4,.slice f2 z.length f5,.slice f3 y.length f6];have O:Hid (EndI B b (T+52+(n+1)) g w ((x4.alloc (.cells #[.int .i64 D,.int .i64 0,.bool false,.bool false,.int .i64 0,.bool fh,.slice f1 x.length f4,.slice f2 z.length f5,.slice f3 y.length f6] 83)).setRow g #[.bool fh,.slice f1 x.length f4,.slice f2 z.length f5,.slice f3 y.length f6]) (⟨fh,.slice f1 x.length f4,x,.slice f2 z.length f5,z,.slice f3 y.length f6,y⟩:InstQ)):=⟨h4,instK.own_out o4 C (fun k hk I=>by simp only[List.mem_singleton]at I;have:=E k hk;omega),n4,E,Br,R0.outs C (fun hk=>by simp only[List.mem_singleton]at hk;omega),hS.out C (by simp only[List.mem_singleton];omega) (fun k hk=>by simp only[List.mem_singleton]at hk;omega),(hg).trans2 C (fun k hk=>by simp only[List.mem_singleton]at hk;omega)⟩
      clear Br C;clear o4 n4 E R0 hg hS h4 oq nq G hi M
      go_wp2_with (first|(refine z0d (by kernel_rfl) 49 _ _ rfl _ #[.bool fh,.slice f1 x.length f4,.slice f2 z.length f5,.slice f3 y.length f6] rfl rfl 49 _ Bx L rfl (by simp[Value.oneCell']) ?_))
      clear r0 r5 r6 r7 r8 G8 Bx L;go_roundw
      case rel=>exact⟨n+1,_,by go_num,by omega,O⟩
      case measure=>simp[intOf];omega
     ·have aa:(D==0)=false:=by simpa using hD
      have Z:Hid (EndI B b (T+52+(n+1)) g w (x4.alloc (.cells #[.int .i64 D,.int .i64 0,.bool false,.bool false,.int .i64 0,.bool fh,.slice f1 x.length f4,.slice f2 z.length f5,.slice f3 y.length f6] 83)) (⟨eh,.slice e1 r.length e4,r,.slice e2 s.length e5,s,.slice e3 d.length e6,d⟩:InstQ)):=⟨hi,oq,nq,G,Bx,R0,hS,hg⟩
      clear o4 n4 E R0 hg hS oq nq G hi M Bx
      go_wp2
      clear r0 G8;go_roundw
      case rel=>exact⟨n+1,_,by go_num,by omega,Z⟩
      case measure=>simp[intOf];omega
    ·have N:¬(n:Int)<3:=by omega
     obtain rfl:n=3:=by omega
     go_wp2
     go_loopw[7] (fun c wr=>∃ (n:Nat) (q:InstQ),c=.int .i64 n∧n≤4∧Hid (EndI B b (T+52+3) g w wr q)) (fun c _=>4-(intOf c).toNat)
     case atStart=>exact⟨0,_,rfl,by omega,HI⟩
     case round=>
      clear HI;obtain⟨rd,q,rfl,aF,HI⟩:=hrel;obtain⟨hi,oq,nq,G,Bx,R0,hS,hg⟩:=HI.out;clear HI;obtain⟨eh,eb,r,er,s,ed,d⟩:=q;obtain⟨e1,e4,rfl⟩:∃a c,eb=.slice a r.length c:=oq.1.shape;obtain⟨e2,e5,rfl⟩:∃a c,er=.slice a s.length c:=oq.2.1.shape;obtain⟨e3,e6,rfl⟩:∃a c,ed=.slice a d.length c:=oq.2.2.shape;dsimp only at Bx;have ae:=Bx.lt;have af:w.heap.size<g:=Y;have ab:InstQ.n (⟨eh,.slice e1 r.length e4,r,.slice e2 s.length e5,s,.slice e3 d.length e6,d⟩:InstQ)≤1048576:=(by rw[z0F];have:=z0w hi;omega)
      have hP:=(⟨⟨Bx.cell 0 _ rfl,Bx.cell 1 _ rfl,Bx.cell 2 _ rfl,Bx.cell 3 _ rfl⟩,instK.own_rd oq⟩:InstP _ g 0 (⟨eh,.slice e1 r.length e4,r,.slice e2 s.length e5,s,.slice e3 d.length e6,d⟩:InstQ))
      by_cases aE:rd<4
      ·have ak:(rd:Int)<4:=by omega
       go_wp2_with fail
       refine(z0U g 0 (⟨eh,.slice e1 r.length e4,r,.slice e2 s.length e5,s,.slice e3 d.length e6,d⟩:InstQ) wr hP ab).mono ?_;rintro e x3 ⟨rfl,U⟩;replace U:=U.symm;subst U;dsimp only;by_cases ad:outV d=3
       ·have aj:(outV d==3)=true:=by rw[ad];rfl
        have ag:Hid (EndI B b (T+52+3) g w wr (⟨eh,.slice e1 r.length e4,r,.slice e2 s.length e5,s,.slice e3 d.length e6,d⟩:InstQ)):=⟨hi,oq,nq,G,Bx,R0,hS,hg⟩
        clear oq nq G Bx R0 hS hg hi hP ab;generalize outV d=OV at*;clear ad
        go_wp2
        go_loopw[8] (fun c wr=>∃ (n:Nat) (q:InstQ),c=.int .i64 n∧n≤3∧Hid (EndI B b (T+52+3) g w wr q)) (fun c _=>3-(intOf c).toNat)
        case atStart=>exact⟨0,_,rfl,by omega,ag⟩
        case round=>
         clear ag;obtain⟨n,q,rfl,hn,HI⟩:=hrel;by_cases ai:n<3
         ·have N:(n:Int)<3:=by omega
          obtain⟨hi,oq,nq,G,Bx,R0,hS,hg⟩:=HI.out;clear HI;obtain⟨eh,eb,r,er,s,ed,d⟩:=q;obtain⟨e1,e4,rfl⟩:∃a c,eb=.slice a r.length c:=oq.1.shape;obtain⟨e2,e5,rfl⟩:∃a c,er=.slice a s.length c:=oq.2.1.shape;obtain⟨e3,e6,rfl⟩:∃a c,ed=.slice a d.length c:=oq.2.2.shape;dsimp only at Bx;have ae:=Bx.lt;have af:w.heap.size<g:=Y
          go_wp2_with fail
          have ah:g<wr.heap.size:=Bx.lt;refine(z00 g 0 (⟨eh,.slice e1 r.length e4,r,.slice e2 s.length e5,s,.slice e3 d.length e6,d⟩:InstQ) n rd 7 wr (⟨⟨Bx.cell 0 _ rfl,Bx.cell 1 _ rfl,Bx.cell 2 _ rfl,Bx.cell 3 _ rfl⟩,instK.own_rd oq⟩:InstP _ g 0 (⟨eh,.slice e1 r.length e4,r,.slice e2 s.length e5,s,.slice e3 d.length e6,d⟩:InstQ)) Bx.lt (by rw[z0F];have:=z0w hi;omega) hi).mono ?_;rintro e x4 ⟨q4,rfl,J,o4,n4,g4,A⟩;have M:Hid (prC (InstQ.e (⟨eh,.slice e1 r.length e4,r,.slice e2 s.length e5,s,.slice e3 d.length e6,d⟩:InstQ)) n rd 7=0→insF q4.e=0):=fun h9=>by rw[J];exact(fun h=>(z1f h).1) h9
          clear J;generalize prC (InstQ.e (⟨eh,.slice e1 r.length e4,r,.slice e2 s.length e5,s,.slice e3 d.length e6,d⟩:InstQ)) n rd 7=D at*;have al:wr.heap.size≤x4.heap.size:=A.size;have l4:=instK.own_lt o4;have hU:Out [] wr x4:=Out.of_below A;replace hS:=hS.below A;replace Bx:=Bx.below A;replace R0:=R0.below A;replace oq:=instK.own_out oq hU (fun _ _=>by simp);replace hg:=hg.call A;clear A hU;obtain⟨fh,fb,x,fr,z,fd,y⟩:=q4;obtain⟨f1,f4,rfl⟩:∃a c,fb=.slice a x.length c:=o4.1.shape;obtain⟨f2,f5,rfl⟩:∃a c,fr=.slice a z.length c:=o4.2.1.shape;obtain⟨f3,f6,rfl⟩:∃a c,fd=.slice a y.length c:=o4.2.2.shape;have A:Below x4.heap.size x4 (x4.alloc (.cells #[.int .i64 D,.int .i64 0,.bool false,.bool false,.int .i64 0,.bool fh,.slice f1 x.length f4,.slice f2 z.length f5,.slice f3 y.length f6] 83)):=by go_grown
          have G8:=Blk.new x4 83 #[.int .i64 D,.int .i64 0,.bool false,.bool false,.int .i64 0,.bool fh,.slice f1 x.length f4,.slice f2 z.length f5,.slice f3 y.length f6];have hU:Out [] x4 (x4.alloc (.cells #[.int .i64 D,.int .i64 0,.bool false,.bool false,.int .i64 0,.bool fh,.slice f1 x.length f4,.slice f2 z.length f5,.slice f3 y.length f6] 83)):=Out.of_below A;replace hS:=hS.below A;replace Bx:=Bx.below A;replace R0:=R0.below A;replace oq:=instK.own_out oq hU (fun _ _=>by simp);replace o4:=instK.own_out o4 hU (fun _ _=>by simp);replace hg:=hg.call A;have E:∀k∈instK.foot (⟨fh,.slice f1 x.length f4,x,.slice f2 z.length f5,z,.slice f3 y.length f6,y⟩:InstQ),w.heap.size<k∧k≠g:=fun k hk=>by have:=g4 k hk;have:=l4 k hk;omega
          have r0:=G8.cell 0 _ rfl;clear A hU g4 l4;by_cases hD:D=0
          ·have h4:=M.out hD;have aa:(D==0)=true:=by rw[hD];rfl
           clear hD;have r5:=G8.cell 5 _ rfl;have r6:=G8.cell 6 _ rfl;have r7:=G8.cell 7 _ rfl;have r8:=G8.cell 8 _ rfl;have Br:=Bx.row #[.bool fh,.slice f1 x.length f4,.slice f2 z.length f5,.slice f3 y.length f6];have L:(Tryz.prog.info? 49).map (·.size)=some (#[.bool fh,.slice f1 x.length f4,.slice f2 z.length f5,.slice f3 y.length f6]:Array Value).size:=z0l;have C:=z0f (x4.alloc (.cells #[.int .i64 D,.int .i64 0,.bool false,.bool false,.int .i64 0,.bool fh,.slice f1 x.length f4,.slice f2 z.length f5,.slice f3 y.length f6] 83)) g #[.bool fh,.slice f1 x.length f4,.slice f2 z.length f5,.slice f3 y.length f6];have O:Hid (EndI B b (T+52+3) g w ((x4.alloc (.cells #[.int .i64 D,.int .i64 0,.bool false,.bool false,.int .i64 0,.bool fh,.slice f1 x.length f4,.slice f2 z.length f5,.slice f3 y.length f6] 83)).setRow g #[.bool fh,.slice f1 x.length f4,.slice f2 z.length f5,.slice f3 y.length f6]) (⟨fh,.slice f1 x.length f4,x,.slice f2 z.length f5,z,.slice f3 y.length f6,y⟩:InstQ)):=⟨h4,instK.own_out o4 C (fun k hk I=>by simp only[List.mem_singleton]at I;have:=E k hk;omega),n4,E,Br,R0.outs C (fun hk=>by simp only[List.mem_singleton]at hk;omega),hS.out C (by simp only[List.mem_singleton];omega) (fun k hk=>by simp only[List.mem_singleton]at hk;omega),(hg).trans2 C (fun k hk=>by simp only[List.mem_singleton]at hk;omega)⟩
           clear Br C;clear o4 n4 E R0 hg hS h4 oq nq G hi M
           go_wp2_with (first|(refine z0d (by kernel_rfl) 49 _ _ rfl _ #[.bool fh,.slice f1 x.length f4,.slice f2 z.length f5,.slice f3 y.length f6] rfl rfl 49 _ Bx L rfl (by simp[Value.oneCell']) ?_))
           clear r0 r5 r6 r7 r8 G8 Bx L;go_roundw
           case rel=>exact⟨n+1,_,by go_num,by omega,O⟩
           case measure=>simp[intOf];omega
          ·have aa:(D==0)=false:=by simpa using hD
           have Z:Hid (EndI B b (T+52+3) g w (x4.alloc (.cells #[.int .i64 D,.int .i64 0,.bool false,.bool false,.int .i64 0,.bool fh,.slice f1 x.length f4,.slice f2 z.length f5,.slice f3 y.length f6] 83)) (⟨eh,.slice e1 r.length e4,r,.slice e2 s.length e5,s,.slice e3 d.length e6,d⟩:InstQ)):=⟨hi,oq,nq,G,Bx,R0,hS,hg⟩
           clear o4 n4 E R0 hg hS oq nq G hi M Bx
           go_wp2
           clear r0 G8;go_roundw
           case rel=>exact⟨n+1,_,by go_num,by omega,Z⟩
           case measure=>simp[intOf];omega
         ·have N:¬(n:Int)<3:=by omega
          go_wp2
          go_loopw[10] (fun c wr=>∃ (n:Nat) (q:InstQ),c=.int .i64 n∧n≤3∧Hid (EndI B b (T+52+3) g w wr q)) (fun c _=>3-(intOf c).toNat)
          case atStart=>exact⟨0,_,rfl,by omega,HI⟩
          case round=>
           clear HI;obtain⟨n,q,rfl,hn,HI⟩:=hrel;by_cases ai:n<3
           ·have N:(n:Int)<3:=by omega
            obtain⟨hi,oq,nq,G,Bx,R0,hS,hg⟩:=HI.out;clear HI;obtain⟨eh,eb,r,er,s,ed,d⟩:=q;obtain⟨e1,e4,rfl⟩:∃a c,eb=.slice a r.length c:=oq.1.shape;obtain⟨e2,e5,rfl⟩:∃a c,er=.slice a s.length c:=oq.2.1.shape;obtain⟨e3,e6,rfl⟩:∃a c,ed=.slice a d.length c:=oq.2.2.shape;dsimp only at Bx;have ae:=Bx.lt;have af:w.heap.size<g:=Y
            go_wp2_with fail
            have ah:g<wr.heap.size:=Bx.lt;refine(z1N g 0 (⟨eh,.slice e1 r.length e4,r,.slice e2 s.length e5,s,.slice e3 d.length e6,d⟩:InstQ) n rd 7 0 wr (⟨⟨Bx.cell 0 _ rfl,Bx.cell 1 _ rfl,Bx.cell 2 _ rfl,Bx.cell 3 _ rfl⟩,instK.own_rd oq⟩:InstP _ g 0 (⟨eh,.slice e1 r.length e4,r,.slice e2 s.length e5,s,.slice e3 d.length e6,d⟩:InstQ)) Bx.lt (by rw[z0F];have:=z0w hi;omega) hi).mono ?_;rintro e x4 ⟨q4,rfl,J,o4,n4,g4,A⟩;have M:Hid (goC (InstQ.e (⟨eh,.slice e1 r.length e4,r,.slice e2 s.length e5,s,.slice e3 d.length e6,d⟩:InstQ)) n rd 7 0=0→insF q4.e=0):=fun h9=>by rw[J];exact(fun h=>(z50 h).1) h9
            clear J;generalize goC (InstQ.e (⟨eh,.slice e1 r.length e4,r,.slice e2 s.length e5,s,.slice e3 d.length e6,d⟩:InstQ)) n rd 7 0=D at*;generalize goZ (InstQ.e (⟨eh,.slice e1 r.length e4,r,.slice e2 s.length e5,s,.slice e3 d.length e6,d⟩:InstQ)) n rd 7 0=K0 at*;generalize goD (InstQ.e (⟨eh,.slice e1 r.length e4,r,.slice e2 s.length e5,s,.slice e3 d.length e6,d⟩:InstQ)) n rd 7 0=K1 at*;generalize goK (InstQ.e (⟨eh,.slice e1 r.length e4,r,.slice e2 s.length e5,s,.slice e3 d.length e6,d⟩:InstQ)) n rd 7 0=K2 at*;generalize goV (InstQ.e (⟨eh,.slice e1 r.length e4,r,.slice e2 s.length e5,s,.slice e3 d.length e6,d⟩:InstQ)) n rd 7 0=K3 at*;have al:wr.heap.size≤x4.heap.size:=A.size;have l4:=instK.own_lt o4;have hU:Out [] wr x4:=Out.of_below A;replace hS:=hS.below A;replace Bx:=Bx.below A;replace R0:=R0.below A;replace oq:=instK.own_out oq hU (fun _ _=>by simp);replace hg:=hg.call A;clear A hU;obtain⟨fh,fb,x,fr,z,fd,y⟩:=q4;obtain⟨f1,f4,rfl⟩:∃a c,fb=.slice a x.length c:=o4.1.shape;obtain⟨f2,f5,rfl⟩:∃a c,fr=.slice a z.length c:=o4.2.1.shape;obtain⟨f3,f6,rfl⟩:∃a c,fd=.slice a y.length c:=o4.2.2.shape;have A:Below x4.heap.size x4 (x4.alloc (.cells #[.int .i64 D,.int .i64 K0,.bool K1,.bool K2,.int .i64 K3,.bool fh,.slice f1 x.length f4,.slice f2 z.length f5,.slice f3 y.length f6] 83)):=by go_grown
            have G8:=Blk.new x4 83 #[.int .i64 D,.int .i64 K0,.bool K1,.bool K2,.int .i64 K3,.bool fh,.slice f1 x.length f4,.slice f2 z.length f5,.slice f3 y.length f6];have hU:Out [] x4 (x4.alloc (.cells #[.int .i64 D,.int .i64 K0,.bool K1,.bool K2,.int .i64 K3,.bool fh,.slice f1 x.length f4,.slice f2 z.length f5,.slice f3 y.length f6] 83)):=Out.of_below A;replace hS:=hS.below A;replace Bx:=Bx.below A;replace R0:=R0.below A;replace oq:=instK.own_out oq hU (fun _ _=>by simp);replace o4:=instK.own_out o4 hU (fun _ _=>by simp);replace hg:=hg.call A;have E:∀k∈instK.foot (⟨fh,.slice f1 x.length f4,x,.slice f2 z.length f5,z,.slice f3 y.length f6,y⟩:InstQ),w.heap.size<k∧k≠g:=fun k hk=>by have:=g4 k hk;have:=l4 k hk;omega
            have r0:=G8.cell 0 _ rfl;clear A hU g4 l4;by_cases hD:D=0
            ·have h4:=M.out hD;have aa:(D==0)=true:=by rw[hD];rfl
             clear hD;have r5:=G8.cell 5 _ rfl;have r6:=G8.cell 6 _ rfl;have r7:=G8.cell 7 _ rfl;have r8:=G8.cell 8 _ rfl;have Br:=Bx.row #[.bool fh,.slice f1 x.length f4,.slice f2 z.length f5,.slice f3 y.length f6];have L:(Tryz.prog.info? 49).map (·.size)=some (#[.bool fh,.slice f1 x.length f4,.slice f2 z.length f5,.slice f3 y.length f6]:Array Value).size:=z0l;have C:=z0f (x4.alloc (.cells #[.int .i64 D,.int .i64 K0,.bool K1,.bool K2,.int .i64 K3,.bool fh,.slice f1 x.length f4,.slice f2 z.length f5,.slice f3 y.length f6] 83)) g #[.bool fh,.slice f1 x.length f4,.slice f2 z.length f5,.slice f3 y.length f6];have O:Hid (EndI B b (T+52+3) g w ((x4.alloc (.cells #[.int .i64 D,.int .i64 K0,.bool K1,.bool K2,.int .i64 K3,.bool fh,.slice f1 x.length f4,.slice f2 z.length f5,.slice f3 y.length f6] 83)).setRow g #[.bool fh,.slice f1 x.length f4,.slice f2 z.length f5,.slice f3 y.length f6]) (⟨fh,.slice f1 x.length f4,x,.slice f2 z.length f5,z,.slice f3 y.length f6,y⟩:InstQ)):=⟨h4,instK.own_out o4 C (fun k hk I=>by simp only[List.mem_singleton]at I;have:=E k hk;omega),n4,E,Br,R0.outs C (fun hk=>by simp only[List.mem_singleton]at hk;omega),hS.out C (by simp only[List.mem_singleton];omega) (fun k hk=>by simp only[List.mem_singleton]at hk;omega),(hg).trans2 C (fun k hk=>by simp only[List.mem_singleton]at hk;omega)⟩
             clear Br C;clear o4 n4 E R0 hg hS h4 oq nq G hi M
             go_wp2_with (first|(refine z0d (by kernel_rfl) 49 _ _ rfl _ #[.bool fh,.slice f1 x.length f4,.slice f2 z.length f5,.slice f3 y.length f6] rfl rfl 49 _ Bx L rfl (by simp[Value.oneCell']) ?_))
             clear r0 r5 r6 r7 r8 G8 Bx L;go_roundw
             case rel=>exact⟨n+1,_,by go_num,by omega,O⟩
             case measure=>simp[intOf];omega
            ·have aa:(D==0)=false:=by simpa using hD
             have Z:Hid (EndI B b (T+52+3) g w (x4.alloc (.cells #[.int .i64 D,.int .i64 K0,.bool K1,.bool K2,.int .i64 K3,.bool fh,.slice f1 x.length f4,.slice f2 z.length f5,.slice f3 y.length f6] 83)) (⟨eh,.slice e1 r.length e4,r,.slice e2 s.length e5,s,.slice e3 d.length e6,d⟩:InstQ)):=⟨hi,oq,nq,G,Bx,R0,hS,hg⟩
             clear o4 n4 E R0 hg hS oq nq G hi M Bx
             go_wp2
             clear r0 G8;go_roundw
             case rel=>exact⟨n+1,_,by go_num,by omega,Z⟩
             case measure=>simp[intOf];omega
           ·have N:¬(n:Int)<3:=by omega
            go_wp2
            go_roundw
            case rel=>exact⟨rd+1,_,by go_num,by omega,HI⟩
            case measure=>simp[intOf];omega
       ·have aj:(outV d==3)=false:=by simpa using ad
        generalize outV d=OV at*;clear hP ab ad;have Rr:=R0.row #[.bool eh,.slice e1 r.length e4,.slice e2 s.length e5,.slice e3 d.length e6];have L:(Tryz.prog.info? 49).map (·.size)=some (#[.bool eh,.slice e1 r.length e4,.slice e2 s.length e5,.slice e3 d.length e6]:Array Value).size:=z0l;have C:=z0f wr w.heap.size #[.bool eh,.slice e1 r.length e4,.slice e2 s.length e5,.slice e3 d.length e6];have HZ:Hid (instK.own (wr.setRow w.heap.size #[.bool eh,.slice e1 r.length e4,.slice e2 s.length e5,.slice e3 d.length e6]) (⟨eh,.slice e1 r.length e4,r,.slice e2 s.length e5,s,.slice e3 d.length e6,d⟩:InstQ)∧Src B (wr.setRow w.heap.size #[.bool eh,.slice e1 r.length e4,.slice e2 s.length e5,.slice e3 d.length e6]) b (T+2600)∧w.grownBy (wr.setRow w.heap.size #[.bool eh,.slice e1 r.length e4,.slice e2 s.length e5,.slice e3 d.length e6]) (some b)):=by
         refine⟨instK.own_out oq C (fun k hk I=>by simp only[List.mem_singleton]at I;have:=G k hk;omega),?_,?_⟩
         ·exact(hS.out C (by simp only[List.mem_singleton];omega) (fun k hk=>by simp only[List.mem_singleton]at hk;omega)).mono (by omega)
         ·exact z0k (z0O hg) C (fun k hk=>by simp only[List.mem_singleton]at hk;omega)
        have HQ:Hid (insF (InstQ.e (⟨eh,.slice e1 r.length e4,r,.slice e2 s.length e5,s,.slice e3 d.length e6,d⟩:InstQ))=0∧(instK.foot (⟨eh,.slice e1 r.length e4,r,.slice e2 s.length e5,s,.slice e3 d.length e6,d⟩:InstQ)).Nodup∧∀k∈instK.foot (⟨eh,.slice e1 r.length e4,r,.slice e2 s.length e5,s,.slice e3 d.length e6,d⟩:InstQ),w.heap.size≤k):=⟨hi,nq,fun k hk=>by have:=G k hk;omega⟩
        obtain⟨p0,p1,p2,p3⟩:=Bx.cel4;clear oq nq G hS hg hi C Bx
        go_wp2_with (first|(refine z0d (by kernel_rfl) 49 _ _ rfl _ #[.bool eh,.slice e1 r.length e4,.slice e2 s.length e5,.slice e3 d.length e6] rfl rfl 49 _ R0 L rfl (by simp[Value.oneCell']) ?_))
        obtain⟨q0,q1,q2,q3⟩:=Rr.cel4;exact bodyPost_ret (v:=.agg #[.bool eh,.slice e1 r.length e4,.slice e2 s.length e5,.slice e3 d.length e6]) (by simp[results,Tryz.results150,go_sem,q0,q1,q2,q3]) rfl ⟨(⟨eh,.slice e1 r.length e4,r,.slice e2 s.length e5,s,.slice e3 d.length e6,d⟩:InstQ),rfl,HQ.out.1,HZ.out.1,HQ.out.2.1,HQ.out.2.2,HZ.out.2.1,HZ.out.2.2⟩
      ·have ak:¬(rd:Int)<4:=by omega
       clear hP ab;have Rr:=R0.row #[.bool eh,.slice e1 r.length e4,.slice e2 s.length e5,.slice e3 d.length e6];have L:(Tryz.prog.info? 49).map (·.size)=some (#[.bool eh,.slice e1 r.length e4,.slice e2 s.length e5,.slice e3 d.length e6]:Array Value).size:=z0l;have C:=z0f wr w.heap.size #[.bool eh,.slice e1 r.length e4,.slice e2 s.length e5,.slice e3 d.length e6];have HZ:Hid (instK.own (wr.setRow w.heap.size #[.bool eh,.slice e1 r.length e4,.slice e2 s.length e5,.slice e3 d.length e6]) (⟨eh,.slice e1 r.length e4,r,.slice e2 s.length e5,s,.slice e3 d.length e6,d⟩:InstQ)∧Src B (wr.setRow w.heap.size #[.bool eh,.slice e1 r.length e4,.slice e2 s.length e5,.slice e3 d.length e6]) b (T+2600)∧w.grownBy (wr.setRow w.heap.size #[.bool eh,.slice e1 r.length e4,.slice e2 s.length e5,.slice e3 d.length e6]) (some b)):=by
        refine⟨instK.own_out oq C (fun k hk I=>by simp only[List.mem_singleton]at I;have:=G k hk;omega),?_,?_⟩
        ·exact(hS.out C (by simp only[List.mem_singleton];omega) (fun k hk=>by simp only[List.mem_singleton]at hk;omega)).mono (by omega)
        ·exact z0k (z0O hg) C (fun k hk=>by simp only[List.mem_singleton]at hk;omega)
       have HQ:Hid (insF (InstQ.e (⟨eh,.slice e1 r.length e4,r,.slice e2 s.length e5,s,.slice e3 d.length e6,d⟩:InstQ))=0∧(instK.foot (⟨eh,.slice e1 r.length e4,r,.slice e2 s.length e5,s,.slice e3 d.length e6,d⟩:InstQ)).Nodup∧∀k∈instK.foot (⟨eh,.slice e1 r.length e4,r,.slice e2 s.length e5,s,.slice e3 d.length e6,d⟩:InstQ),w.heap.size≤k):=⟨hi,nq,fun k hk=>by have:=G k hk;omega⟩
       obtain⟨p0,p1,p2,p3⟩:=Bx.cel4;clear oq nq G hS hg hi C Bx
       go_wp2_with (first|(refine z0d (by kernel_rfl) 49 _ _ rfl _ #[.bool eh,.slice e1 r.length e4,.slice e2 s.length e5,.slice e3 d.length e6] rfl rfl 49 _ R0 L rfl (by simp[Value.oneCell']) ?_))
       obtain⟨q0,q1,q2,q3⟩:=Rr.cel4;exact bodyPost_ret (v:=.agg #[.bool eh,.slice e1 r.length e4,.slice e2 s.length e5,.slice e3 d.length e6]) (by simp[results,Tryz.results150,go_sem,q0,q1,q2,q3]) rfl ⟨(⟨eh,.slice e1 r.length e4,r,.slice e2 s.length e5,s,.slice e3 d.length e6,d⟩:InstQ),rfl,HQ.out.1,HZ.out.1,HQ.out.2.1,HQ.out.2.2,HZ.out.2.1,HZ.out.2.2⟩
  ·subst hz
   go_wp2
   clear av az;go_loopw[5] (fun c wr=>∃ (n:Nat) (q:InstQ),c=.int .i64 n∧n≤3∧Hid (EndI B b (T+52+n) g w wr q)) (fun c _=>3-(intOf c).toNat)
   case atStart=>exact⟨0,_,rfl,by omega,am⟩
   case round=>
    clear am;obtain⟨n,q,rfl,hn,HI⟩:=hrel;by_cases ai:n<3
    ·have N:(n:Int)<3:=by omega
     obtain⟨hi,oq,nq,G,Bx,R0,hS,hg⟩:=HI.out;clear HI;obtain⟨eh,eb,r,er,s,ed,d⟩:=q;obtain⟨e1,e4,rfl⟩:∃a c,eb=.slice a r.length c:=oq.1.shape;obtain⟨e2,e5,rfl⟩:∃a c,er=.slice a s.length c:=oq.2.1.shape;obtain⟨e3,e6,rfl⟩:∃a c,ed=.slice a d.length c:=oq.2.2.shape;dsimp only at Bx;have ae:=Bx.lt;have af:w.heap.size<g:=Y
     go_wp2_with fail
     refine(z0m B b (T+52+n) 9 wr hS (by omega) (by omega)).mono ?_;rintro e x2 ⟨r9,rfl,ao,V,X⟩;have hU:Out [b] wr x2:=Out.of_grown X;replace hS:=V;replace Bx:=Bx.outs hU (fun hk=>by simp only[List.mem_singleton]at hk;omega);replace R0:=R0.outs hU (fun hk=>by simp only[List.mem_singleton]at hk;omega);replace oq:=instK.own_out oq hU (fun k hk I=>by simp only[List.mem_singleton]at I;have:=G k hk;omega);replace hg:=hg.trans hU;clear hU V X ao
     go_wp2_with fail
     refine(z4q (0) r9 x2).mono ?_;rintro e x3 ⟨mv,rfl,U⟩;replace U:=U.symm;subst U
     go_wp2_with fail
     have ah:g<x2.heap.size:=Bx.lt;refine(z1Y g 0 (⟨eh,.slice e1 r.length e4,r,.slice e2 s.length e5,s,.slice e3 d.length e6,d⟩:InstQ) n mv x2 (⟨⟨Bx.cell 0 _ rfl,Bx.cell 1 _ rfl,Bx.cell 2 _ rfl,Bx.cell 3 _ rfl⟩,instK.own_rd oq⟩:InstP _ g 0 (⟨eh,.slice e1 r.length e4,r,.slice e2 s.length e5,s,.slice e3 d.length e6,d⟩:InstQ)) Bx.lt (by rw[z0F];have:=z0w hi;omega) hi).mono ?_;rintro e x4 ⟨q4,rfl,J,o4,n4,g4,A⟩;have M:Hid (frC (InstQ.e (⟨eh,.slice e1 r.length e4,r,.slice e2 s.length e5,s,.slice e3 d.length e6,d⟩:InstQ)) n mv=0→insF q4.e=0):=fun h9=>by rw[J];exact z2O h9
     clear J;generalize frC (InstQ.e (⟨eh,.slice e1 r.length e4,r,.slice e2 s.length e5,s,.slice e3 d.length e6,d⟩:InstQ)) n mv=D at*;have al:x2.heap.size≤x4.heap.size:=A.size;have l4:=instK.own_lt o4;have hU:Out [] x2 x4:=Out.of_below A;replace hS:=hS.below A;replace Bx:=Bx.below A;replace R0:=R0.below A;replace oq:=instK.own_out oq hU (fun _ _=>by simp);replace hg:=hg.call A;clear A hU;obtain⟨fh,fb,x,fr,z,fd,y⟩:=q4;obtain⟨f1,f4,rfl⟩:∃a c,fb=.slice a x.length c:=o4.1.shape;obtain⟨f2,f5,rfl⟩:∃a c,fr=.slice a z.length c:=o4.2.1.shape;obtain⟨f3,f6,rfl⟩:∃a c,fd=.slice a y.length c:=o4.2.2.shape;have A:Below x4.heap.size x4 (x4.alloc (.cells #[.int .i64 D,.int .i64 0,.bool false,.bool false,.int .i64 0,.bool fh,.slice f1 x.length f4,.slice f2 z.length f5,.slice f3 y.length f6] 83)):=by go_grown
     have G8:=Blk.new x4 83 #[.int .i64 D,.int .i64 0,.bool false,.bool false,.int .i64 0,.bool fh,.slice f1 x.length f4,.slice f2 z.length f5,.slice f3 y.length f6];have hU:Out [] x4 (x4.alloc (.cells #[.int .i64 D,.int .i64 0,.bool false,.bool false,.int .i64 0,.bool fh,.slice f1 x.length f4,.slice f2 z.length f5,.slice f3 y.length f6] 83)):=Out.of_below A;replace hS:=hS.below A;replace Bx:=Bx.below A;replace R0:=R0.below A;replace oq:=instK.own_out oq hU (fun _ _=>by simp);replace o4:=instK.own_out o4 hU (fun _ _=>by simp);replace hg:=hg.call A;have E:∀k∈instK.foot (⟨fh,.slice f1 x.length f4,x,.slice f2 z.length f5,z,.slice f3 y.length f6,y⟩:InstQ),w.heap.size<k∧k≠g:=fun k hk=>by have:=g4 k hk;have:=l4 k hk;omega
     have r0:=G8.cell 0 _ rfl;clear A hU g4 l4;by_cases hD:D=0
     ·have h4:=M.out hD;have aa:(D==0)=true:=by rw[hD];rfl
      clear hD;have r5:=G8.cell 5 _ rfl;have r6:=G8.cell 6 _ rfl;have r7:=G8.cell 7 _ rfl;have r8:=G8.cell 8 _ rfl;have Br:=Bx.row #[.bool fh,.slice f1 x.length f4,.slice f2 z.length f5,.slice f3 y.length f6];have L:(Tryz.prog.info? 49).map (·.size)=some (#[.bool fh,.slice f1 x.length f4,.slice f2 z.length f5,.slice f3 y.length f6]:Array Value).size:=z0l;have C:=z0f (x4.alloc (.cells #[.int .i64 D,.int .i64 0,.bool false,.bool false,.int .i64 0,.bool fh,.slice f1 x.length f4,.slice f2 z.length f5,.slice f3 y.length f6] 83)) g #[.bool fh,.slice f1 x.length f4,.slice f2 z.length f5,.slice f3 y.length f6];have O:Hid (EndI B b (T+52+(n+1)) g w ((x4.alloc (.cells #[.int .i64 D,.int .i64 0,.bool false,.bool false,.int .i64 0,.bool fh,.slice f1 x.length f4,.slice f2 z.length f5,.slice f3 y.length f6] 83)).setRow g #[.bool fh,.slice f1 x.length f4,.slice f2 z.length f5,.slice f3 y.length f6]) (⟨fh,.slice f1 x.length f4,x,.slice f2 z.length f5,z,.slice f3 y.length f6,y⟩:InstQ)):=⟨h4,instK.own_out o4 C (fun k hk I=>by simp only[List.mem_singleton]at I;have:=E k hk;omega),n4,E,Br,R0.outs C (fun hk=>by simp only[List.mem_singleton]at hk;omega),hS.out C (by simp only[List.mem_singleton];omega) (fun k hk=>by simp only[List.mem_singleton]at hk;omega),(hg).trans2 C (fun k hk=>by simp only[List.mem_singleton]at hk;omega)⟩
      clear Br C;clear o4 n4 E R0 hg hS h4 oq nq G hi M
      go_wp2_with (first|(refine z0d (by kernel_rfl) 49 _ _ rfl _ #[.bool fh,.slice f1 x.length f4,.slice f2 z.length f5,.slice f3 y.length f6] rfl rfl 49 _ Bx L rfl (by simp[Value.oneCell']) ?_))
      clear r0 r5 r6 r7 r8 G8 Bx L;go_roundw
      case rel=>exact⟨n+1,_,by go_num,by omega,O⟩
      case measure=>simp[intOf];omega
     ·have aa:(D==0)=false:=by simpa using hD
      have Z:Hid (EndI B b (T+52+(n+1)) g w (x4.alloc (.cells #[.int .i64 D,.int .i64 0,.bool false,.bool false,.int .i64 0,.bool fh,.slice f1 x.length f4,.slice f2 z.length f5,.slice f3 y.length f6] 83)) (⟨eh,.slice e1 r.length e4,r,.slice e2 s.length e5,s,.slice e3 d.length e6,d⟩:InstQ)):=⟨hi,oq,nq,G,Bx,R0,hS,hg⟩
      clear o4 n4 E R0 hg hS oq nq G hi M Bx
      go_wp2
      clear r0 G8;go_roundw
      case rel=>exact⟨n+1,_,by go_num,by omega,Z⟩
      case measure=>simp[intOf];omega
    ·have N:¬(n:Int)<3:=by omega
     obtain rfl:n=3:=by omega
     go_wp2
     go_loopw[7] (fun c wr=>∃ (n:Nat) (q:InstQ),c=.int .i64 n∧n≤4∧Hid (EndI B b (T+52+3) g w wr q)) (fun c _=>4-(intOf c).toNat)
     case atStart=>exact⟨0,_,rfl,by omega,HI⟩
     case round=>
      clear HI;obtain⟨rd,q,rfl,aF,HI⟩:=hrel;obtain⟨hi,oq,nq,G,Bx,R0,hS,hg⟩:=HI.out;clear HI;obtain⟨eh,eb,r,er,s,ed,d⟩:=q;obtain⟨e1,e4,rfl⟩:∃a c,eb=.slice a r.length c:=oq.1.shape;obtain⟨e2,e5,rfl⟩:∃a c,er=.slice a s.length c:=oq.2.1.shape;obtain⟨e3,e6,rfl⟩:∃a c,ed=.slice a d.length c:=oq.2.2.shape;dsimp only at Bx;have ae:=Bx.lt;have af:w.heap.size<g:=Y;have ab:InstQ.n (⟨eh,.slice e1 r.length e4,r,.slice e2 s.length e5,s,.slice e3 d.length e6,d⟩:InstQ)≤1048576:=(by rw[z0F];have:=z0w hi;omega)
      have hP:=(⟨⟨Bx.cell 0 _ rfl,Bx.cell 1 _ rfl,Bx.cell 2 _ rfl,Bx.cell 3 _ rfl⟩,instK.own_rd oq⟩:InstP _ g 0 (⟨eh,.slice e1 r.length e4,r,.slice e2 s.length e5,s,.slice e3 d.length e6,d⟩:InstQ))
      by_cases aE:rd<4
      ·have ak:(rd:Int)<4:=by omega
       go_wp2_with fail
       refine(z0U g 0 (⟨eh,.slice e1 r.length e4,r,.slice e2 s.length e5,s,.slice e3 d.length e6,d⟩:InstQ) wr hP ab).mono ?_;rintro e x3 ⟨rfl,U⟩;replace U:=U.symm;subst U;dsimp only;by_cases ad:outV d=3
       ·have aj:(outV d==3)=true:=by rw[ad];rfl
        have ag:Hid (EndI B b (T+52+3) g w wr (⟨eh,.slice e1 r.length e4,r,.slice e2 s.length e5,s,.slice e3 d.length e6,d⟩:InstQ)):=⟨hi,oq,nq,G,Bx,R0,hS,hg⟩
        clear oq nq G Bx R0 hS hg hi hP ab;generalize outV d=OV at*;clear ad
        go_wp2
        go_loopw[8] (fun c wr=>∃ (n:Nat) (q:InstQ),c=.int .i64 n∧n≤3∧Hid (EndI B b (T+52+3) g w wr q)) (fun c _=>3-(intOf c).toNat)
        case atStart=>exact⟨0,_,rfl,by omega,ag⟩
        case round=>
         clear ag;obtain⟨n,q,rfl,hn,HI⟩:=hrel;by_cases ai:n<3
         ·have N:(n:Int)<3:=by omega
          obtain⟨hi,oq,nq,G,Bx,R0,hS,hg⟩:=HI.out;clear HI;obtain⟨eh,eb,r,er,s,ed,d⟩:=q;obtain⟨e1,e4,rfl⟩:∃a c,eb=.slice a r.length c:=oq.1.shape;obtain⟨e2,e5,rfl⟩:∃a c,er=.slice a s.length c:=oq.2.1.shape;obtain⟨e3,e6,rfl⟩:∃a c,ed=.slice a d.length c:=oq.2.2.shape;dsimp only at Bx;have ae:=Bx.lt;have af:w.heap.size<g:=Y
          go_wp2_with fail
          have ah:g<wr.heap.size:=Bx.lt;refine(z00 g 0 (⟨eh,.slice e1 r.length e4,r,.slice e2 s.length e5,s,.slice e3 d.length e6,d⟩:InstQ) n rd 7 wr (⟨⟨Bx.cell 0 _ rfl,Bx.cell 1 _ rfl,Bx.cell 2 _ rfl,Bx.cell 3 _ rfl⟩,instK.own_rd oq⟩:InstP _ g 0 (⟨eh,.slice e1 r.length e4,r,.slice e2 s.length e5,s,.slice e3 d.length e6,d⟩:InstQ)) Bx.lt (by rw[z0F];have:=z0w hi;omega) hi).mono ?_;rintro e x4 ⟨q4,rfl,J,o4,n4,g4,A⟩;have M:Hid (prC (InstQ.e (⟨eh,.slice e1 r.length e4,r,.slice e2 s.length e5,s,.slice e3 d.length e6,d⟩:InstQ)) n rd 7=0→insF q4.e=0):=fun h9=>by rw[J];exact(fun h=>(z1f h).1) h9
          clear J;generalize prC (InstQ.e (⟨eh,.slice e1 r.length e4,r,.slice e2 s.length e5,s,.slice e3 d.length e6,d⟩:InstQ)) n rd 7=D at*;have al:wr.heap.size≤x4.heap.size:=A.size;have l4:=instK.own_lt o4;have hU:Out [] wr x4:=Out.of_below A;replace hS:=hS.below A;replace Bx:=Bx.below A;replace R0:=R0.below A;replace oq:=instK.own_out oq hU (fun _ _=>by simp);replace hg:=hg.call A;clear A hU;obtain⟨fh,fb,x,fr,z,fd,y⟩:=q4;obtain⟨f1,f4,rfl⟩:∃a c,fb=.slice a x.length c:=o4.1.shape;obtain⟨f2,f5,rfl⟩:∃a c,fr=.slice a z.length c:=o4.2.1.shape;obtain⟨f3,f6,rfl⟩:∃a c,fd=.slice a y.length c:=o4.2.2.shape;have A:Below x4.heap.size x4 (x4.alloc (.cells #[.int .i64 D,.int .i64 0,.bool false,.bool false,.int .i64 0,.bool fh,.slice f1 x.length f4,.slice f2 z.length f5,.slice f3 y.length f6] 83)):=by go_grown
          have G8:=Blk.new x4 83 #[.int .i64 D,.int .i64 0,.bool false,.bool false,.int .i64 0,.bool fh,.slice f1 x.length f4,.slice f2 z.length f5,.slice f3 y.length f6];have hU:Out [] x4 (x4.alloc (.cells #[.int .i64 D,.int .i64 0,.bool false,.bool false,.int .i64 0,.bool fh,.slice f1 x.length f4,.slice f2 z.length f5,.slice f3 y.length f6] 83)):=Out.of_below A;replace hS:=hS.below A;replace Bx:=Bx.below A;replace R0:=R0.below A;replace oq:=instK.own_out oq hU (fun _ _=>by simp);replace o4:=instK.own_out o4 hU (fun _ _=>by simp);replace hg:=hg.call A;have E:∀k∈instK.foot (⟨fh,.slice f1 x.length f4,x,.slice f2 z.length f5,z,.slice f3 y.length f6,y⟩:InstQ),w.heap.size<k∧k≠g:=fun k hk=>by have:=g4 k hk;have:=l4 k hk;omega
          have r0:=G8.cell 0 _ rfl;clear A hU g4 l4;by_cases hD:D=0
          ·have h4:=M.out hD;have aa:(D==0)=true:=by rw[hD];rfl
           clear hD;have r5:=G8.cell 5 _ rfl;have r6:=G8.cell 6 _ rfl;have r7:=G8.cell 7 _ rfl;have r8:=G8.cell 8 _ rfl;have Br:=Bx.row #[.bool fh,.slice f1 x.length f4,.slice f2 z.length f5,.slice f3 y.length f6];have L:(Tryz.prog.info? 49).map (·.size)=some (#[.bool fh,.slice f1 x.length f4,.slice f2 z.length f5,.slice f3 y.length f6]:Array Value).size:=z0l;have C:=z0f (x4.alloc (.cells #[.int .i64 D,.int .i64 0,.bool false,.bool false,.int .i64 0,.bool fh,.slice f1 x.length f4,.slice f2 z.length f5,.slice f3 y.length f6] 83)) g #[.bool fh,.slice f1 x.length f4,.slice f2 z.length f5,.slice f3 y.length f6];have O:Hid (EndI B b (T+52+3) g w ((x4.alloc (.cells #[.int .i64 D,.int .i64 0,.bool false,.bool false,.int .i64 0,.bool fh,.slice f1 x.length f4,.slice f2 z.length f5,.slice f3 y.length f6] 83)).setRow g #[.bool fh,.slice f1 x.length f4,.slice f2 z.length f5,.slice f3 y.length f6]) (⟨fh,.slice f1 x.length f4,x,.slice f2 z.length f5,z,.slice f3 y.length f6,y⟩:InstQ)):=⟨h4,instK.own_out o4 C (fun k hk I=>by simp only[List.mem_singleton]at I;have:=E k hk;omega),n4,E,Br,R0.outs C (fun hk=>by simp only[List.mem_singleton]at hk;omega),hS.out C (by simp only[List.mem_singleton];omega) (fun k hk=>by simp only[List.mem_singleton]at hk;omega),(hg).trans2 C (fun k hk=>by simp only[List.mem_singleton]at hk;omega)⟩
           clear Br C;clear o4 n4 E R0 hg hS h4 oq nq G hi M
           go_wp2_with (first|(refine z0d (by kernel_rfl) 49 _ _ rfl _ #[.bool fh,.slice f1 x.length f4,.slice f2 z.length f5,.slice f3 y.length f6] rfl rfl 49 _ Bx L rfl (by simp[Value.oneCell']) ?_))
           clear r0 r5 r6 r7 r8 G8 Bx L;go_roundw
           case rel=>exact⟨n+1,_,by go_num,by omega,O⟩
           case measure=>simp[intOf];omega
          ·have aa:(D==0)=false:=by simpa using hD
           have Z:Hid (EndI B b (T+52+3) g w (x4.alloc (.cells #[.int .i64 D,.int .i64 0,.bool false,.bool false,.int .i64 0,.bool fh,.slice f1 x.length f4,.slice f2 z.length f5,.slice f3 y.length f6] 83)) (⟨eh,.slice e1 r.length e4,r,.slice e2 s.length e5,s,.slice e3 d.length e6,d⟩:InstQ)):=⟨hi,oq,nq,G,Bx,R0,hS,hg⟩
           clear o4 n4 E R0 hg hS oq nq G hi M Bx
           go_wp2
           clear r0 G8;go_roundw
           case rel=>exact⟨n+1,_,by go_num,by omega,Z⟩
           case measure=>simp[intOf];omega
         ·have N:¬(n:Int)<3:=by omega
          go_wp2
          go_loopw[10] (fun c wr=>∃ (n:Nat) (q:InstQ),c=.int .i64 n∧n≤3∧Hid (EndI B b (T+52+3) g w wr q)) (fun c _=>3-(intOf c).toNat)
          case atStart=>exact⟨0,_,rfl,by omega,HI⟩
          case round=>
           clear HI;obtain⟨n,q,rfl,hn,HI⟩:=hrel;by_cases ai:n<3
           ·have N:(n:Int)<3:=by omega
            obtain⟨hi,oq,nq,G,Bx,R0,hS,hg⟩:=HI.out;clear HI;obtain⟨eh,eb,r,er,s,ed,d⟩:=q;obtain⟨e1,e4,rfl⟩:∃a c,eb=.slice a r.length c:=oq.1.shape;obtain⟨e2,e5,rfl⟩:∃a c,er=.slice a s.length c:=oq.2.1.shape;obtain⟨e3,e6,rfl⟩:∃a c,ed=.slice a d.length c:=oq.2.2.shape;dsimp only at Bx;have ae:=Bx.lt;have af:w.heap.size<g:=Y
            go_wp2_with fail
            have ah:g<wr.heap.size:=Bx.lt;refine(z1N g 0 (⟨eh,.slice e1 r.length e4,r,.slice e2 s.length e5,s,.slice e3 d.length e6,d⟩:InstQ) n rd 7 0 wr (⟨⟨Bx.cell 0 _ rfl,Bx.cell 1 _ rfl,Bx.cell 2 _ rfl,Bx.cell 3 _ rfl⟩,instK.own_rd oq⟩:InstP _ g 0 (⟨eh,.slice e1 r.length e4,r,.slice e2 s.length e5,s,.slice e3 d.length e6,d⟩:InstQ)) Bx.lt (by rw[z0F];have:=z0w hi;omega) hi).mono ?_;rintro e x4 ⟨q4,rfl,J,o4,n4,g4,A⟩;have M:Hid (goC (InstQ.e (⟨eh,.slice e1 r.length e4,r,.slice e2 s.length e5,s,.slice e3 d.length e6,d⟩:InstQ)) n rd 7 0=0→insF q4.e=0):=fun h9=>by rw[J];exact(fun h=>(z50 h).1) h9
            clear J;generalize goC (InstQ.e (⟨eh,.slice e1 r.length e4,r,.slice e2 s.length e5,s,.slice e3 d.length e6,d⟩:InstQ)) n rd 7 0=D at*;generalize goZ (InstQ.e (⟨eh,.slice e1 r.length e4,r,.slice e2 s.length e5,s,.slice e3 d.length e6,d⟩:InstQ)) n rd 7 0=K0 at*;generalize goD (InstQ.e (⟨eh,.slice e1 r.length e4,r,.slice e2 s.length e5,s,.slice e3 d.length e6,d⟩:InstQ)) n rd 7 0=K1 at*;generalize goK (InstQ.e (⟨eh,.slice e1 r.length e4,r,.slice e2 s.length e5,s,.slice e3 d.length e6,d⟩:InstQ)) n rd 7 0=K2 at*;generalize goV (InstQ.e (⟨eh,.slice e1 r.length e4,r,.slice e2 s.length e5,s,.slice e3 d.length e6,d⟩:InstQ)) n rd 7 0=K3 at*;have al:wr.heap.size≤x4.heap.size:=A.size;have l4:=instK.own_lt o4;have hU:Out [] wr x4:=Out.of_below A;replace hS:=hS.below A;replace Bx:=Bx.below A;replace R0:=R0.below A;replace oq:=instK.own_out oq hU (fun _ _=>by simp);replace hg:=hg.call A;clear A hU;obtain⟨fh,fb,x,fr,z,fd,y⟩:=q4;obtain⟨f1,f4,rfl⟩:∃a c,fb=.slice a x.length c:=o4.1.shape;obtain⟨f2,f5,rfl⟩:∃a c,fr=.slice a z.length c:=o4.2.1.shape;obtain⟨f3,f6,rfl⟩:∃a c,fd=.slice a y.length c:=o4.2.2.shape;have A:Below x4.heap.size x4 (x4.alloc (.cells #[.int .i64 D,.int .i64 K0,.bool K1,.bool K2,.int .i64 K3,.bool fh,.slice f1 x.length f4,.slice f2 z.length f5,.slice f3 y.length f6] 83)):=by go_grown
            have G8:=Blk.new x4 83 #[.int .i64 D,.int .i64 K0,.bool K1,.bool K2,.int .i64 K3,.bool fh,.slice f1 x.length f4,.slice f2 z.length f5,.slice f3 y.length f6];have hU:Out [] x4 (x4.alloc (.cells #[.int .i64 D,.int .i64 K0,.bool K1,.bool K2,.int .i64 K3,.bool fh,.slice f1 x.length f4,.slice f2 z.length f5,.slice f3 y.length f6] 83)):=Out.of_below A;replace hS:=hS.below A;replace Bx:=Bx.below A;replace R0:=R0.below A;replace oq:=instK.own_out oq hU (fun _ _=>by simp);replace o4:=instK.own_out o4 hU (fun _ _=>by simp);replace hg:=hg.call A;have E:∀k∈instK.foot (⟨fh,.slice f1 x.length f4,x,.slice f2 z.length f5,z,.slice f3 y.length f6,y⟩:InstQ),w.heap.size<k∧k≠g:=fun k hk=>by have:=g4 k hk;have:=l4 k hk;omega
            have r0:=G8.cell 0 _ rfl;clear A hU g4 l4;by_cases hD:D=0
            ·have h4:=M.out hD;have aa:(D==0)=true:=by rw[hD];rfl
             clear hD;have r5:=G8.cell 5 _ rfl;have r6:=G8.cell 6 _ rfl;have r7:=G8.cell 7 _ rfl;have r8:=G8.cell 8 _ rfl;have Br:=Bx.row #[.bool fh,.slice f1 x.length f4,.slice f2 z.length f5,.slice f3 y.length f6];have L:(Tryz.prog.info? 49).map (·.size)=some (#[.bool fh,.slice f1 x.length f4,.slice f2 z.length f5,.slice f3 y.length f6]:Array Value).size:=z0l;have C:=z0f (x4.alloc (.cells #[.int .i64 D,.int .i64 K0,.bool K1,.bool K2,.int .i64 K3,.bool fh,.slice f1 x.length f4,.slice f2 z.length f5,.slice f3 y.length f6] 83)) g #[.bool fh,.slice f1 x.length f4,.slice f2 z.length f5,.slice f3 y.length f6];have O:Hid (EndI B b (T+52+3) g w ((x4.alloc (.cells #[.int .i64 D,.int .i64 K0,.bool K1,.bool K2,.int .i64 K3,.bool fh,.slice f1 x.length f4,.slice f2 z.length f5,.slice f3 y.length f6] 83)).setRow g #[.bool fh,.slice f1 x.length f4,.slice f2 z.length f5,.slice f3 y.length f6]) (⟨fh,.slice f1 x.length f4,x,.slice f2 z.length f5,z,.slice f3 y.length f6,y⟩:InstQ)):=⟨h4,instK.own_out o4 C (fun k hk I=>by simp only[List.mem_singleton]at I;have:=E k hk;omega),n4,E,Br,R0.outs C (fun hk=>by simp only[List.mem_singleton]at hk;omega),hS.out C (by simp only[List.mem_singleton];omega) (fun k hk=>by simp only[List.mem_singleton]at hk;omega),(hg).trans2 C (fun k hk=>by simp only[List.mem_singleton]at hk;omega)⟩
             clear Br C;clear o4 n4 E R0 hg hS h4 oq nq G hi M
             go_wp2_with (first|(refine z0d (by kernel_rfl) 49 _ _ rfl _ #[.bool fh,.slice f1 x.length f4,.slice f2 z.length f5,.slice f3 y.length f6] rfl rfl 49 _ Bx L rfl (by simp[Value.oneCell']) ?_))
             clear r0 r5 r6 r7 r8 G8 Bx L;go_roundw
             case rel=>exact⟨n+1,_,by go_num,by omega,O⟩
             case measure=>simp[intOf];omega
            ·have aa:(D==0)=false:=by simpa using hD
             have Z:Hid (EndI B b (T+52+3) g w (x4.alloc (.cells #[.int .i64 D,.int .i64 K0,.bool K1,.bool K2,.int .i64 K3,.bool fh,.slice f1 x.length f4,.slice f2 z.length f5,.slice f3 y.length f6] 83)) (⟨eh,.slice e1 r.length e4,r,.slice e2 s.length e5,s,.slice e3 d.length e6,d⟩:InstQ)):=⟨hi,oq,nq,G,Bx,R0,hS,hg⟩
             clear o4 n4 E R0 hg hS oq nq G hi M Bx
             go_wp2
             clear r0 G8;go_roundw
             case rel=>exact⟨n+1,_,by go_num,by omega,Z⟩
             case measure=>simp[intOf];omega
           ·have N:¬(n:Int)<3:=by omega
            go_wp2
            go_roundw
            case rel=>exact⟨rd+1,_,by go_num,by omega,HI⟩
            case measure=>simp[intOf];omega
       ·have aj:(outV d==3)=false:=by simpa using ad
        generalize outV d=OV at*;clear hP ab ad;have Rr:=R0.row #[.bool eh,.slice e1 r.length e4,.slice e2 s.length e5,.slice e3 d.length e6];have L:(Tryz.prog.info? 49).map (·.size)=some (#[.bool eh,.slice e1 r.length e4,.slice e2 s.length e5,.slice e3 d.length e6]:Array Value).size:=z0l;have C:=z0f wr w.heap.size #[.bool eh,.slice e1 r.length e4,.slice e2 s.length e5,.slice e3 d.length e6];have HZ:Hid (instK.own (wr.setRow w.heap.size #[.bool eh,.slice e1 r.length e4,.slice e2 s.length e5,.slice e3 d.length e6]) (⟨eh,.slice e1 r.length e4,r,.slice e2 s.length e5,s,.slice e3 d.length e6,d⟩:InstQ)∧Src B (wr.setRow w.heap.size #[.bool eh,.slice e1 r.length e4,.slice e2 s.length e5,.slice e3 d.length e6]) b (T+2600)∧w.grownBy (wr.setRow w.heap.size #[.bool eh,.slice e1 r.length e4,.slice e2 s.length e5,.slice e3 d.length e6]) (some b)):=by
         refine⟨instK.own_out oq C (fun k hk I=>by simp only[List.mem_singleton]at I;have:=G k hk;omega),?_,?_⟩
         ·exact(hS.out C (by simp only[List.mem_singleton];omega) (fun k hk=>by simp only[List.mem_singleton]at hk;omega)).mono (by omega)
         ·exact z0k (z0O hg) C (fun k hk=>by simp only[List.mem_singleton]at hk;omega)
        have HQ:Hid (insF (InstQ.e (⟨eh,.slice e1 r.length e4,r,.slice e2 s.length e5,s,.slice e3 d.length e6,d⟩:InstQ))=0∧(instK.foot (⟨eh,.slice e1 r.length e4,r,.slice e2 s.length e5,s,.slice e3 d.length e6,d⟩:InstQ)).Nodup∧∀k∈instK.foot (⟨eh,.slice e1 r.length e4,r,.slice e2 s.length e5,s,.slice e3 d.length e6,d⟩:InstQ),w.heap.size≤k):=⟨hi,nq,fun k hk=>by have:=G k hk;omega⟩
        obtain⟨p0,p1,p2,p3⟩:=Bx.cel4;clear oq nq G hS hg hi C Bx
        go_wp2_with (first|(refine z0d (by kernel_rfl) 49 _ _ rfl _ #[.bool eh,.slice e1 r.length e4,.slice e2 s.length e5,.slice e3 d.length e6] rfl rfl 49 _ R0 L rfl (by simp[Value.oneCell']) ?_))
        obtain⟨q0,q1,q2,q3⟩:=Rr.cel4;exact bodyPost_ret (v:=.agg #[.bool eh,.slice e1 r.length e4,.slice e2 s.length e5,.slice e3 d.length e6]) (by simp[results,Tryz.results150,go_sem,q0,q1,q2,q3]) rfl ⟨(⟨eh,.slice e1 r.length e4,r,.slice e2 s.length e5,s,.slice e3 d.length e6,d⟩:InstQ),rfl,HQ.out.1,HZ.out.1,HQ.out.2.1,HQ.out.2.2,HZ.out.2.1,HZ.out.2.2⟩
      ·have ak:¬(rd:Int)<4:=by omega
       clear hP ab;have Rr:=R0.row #[.bool eh,.slice e1 r.length e4,.slice e2 s.length e5,.slice e3 d.length e6];have L:(Tryz.prog.info? 49).map (·.size)=some (#[.bool eh,.slice e1 r.length e4,.slice e2 s.length e5,.slice e3 d.length e6]:Array Value).size:=z0l;have C:=z0f wr w.heap.size #[.bool eh,.slice e1 r.length e4,.slice e2 s.length e5,.slice e3 d.length e6];have HZ:Hid (instK.own (wr.setRow w.heap.size #[.bool eh,.slice e1 r.length e4,.slice e2 s.length e5,.slice e3 d.length e6]) (⟨eh,.slice e1 r.length e4,r,.slice e2 s.length e5,s,.slice e3 d.length e6,d⟩:InstQ)∧Src B (wr.setRow w.heap.size #[.bool eh,.slice e1 r.length e4,.slice e2 s.length e5,.slice e3 d.length e6]) b (T+2600)∧w.grownBy (wr.setRow w.heap.size #[.bool eh,.slice e1 r.length e4,.slice e2 s.length e5,.slice e3 d.length e6]) (some b)):=by
        refine⟨instK.own_out oq C (fun k hk I=>by simp only[List.mem_singleton]at I;have:=G k hk;omega),?_,?_⟩
        ·exact(hS.out C (by simp only[List.mem_singleton];omega) (fun k hk=>by simp only[List.mem_singleton]at hk;omega)).mono (by omega)
        ·exact z0k (z0O hg) C (fun k hk=>by simp only[List.mem_singleton]at hk;omega)
       have HQ:Hid (insF (InstQ.e (⟨eh,.slice e1 r.length e4,r,.slice e2 s.length e5,s,.slice e3 d.length e6,d⟩:InstQ))=0∧(instK.foot (⟨eh,.slice e1 r.length e4,r,.slice e2 s.length e5,s,.slice e3 d.length e6,d⟩:InstQ)).Nodup∧∀k∈instK.foot (⟨eh,.slice e1 r.length e4,r,.slice e2 s.length e5,s,.slice e3 d.length e6,d⟩:InstQ),w.heap.size≤k):=⟨hi,nq,fun k hk=>by have:=G k hk;omega⟩
       obtain⟨p0,p1,p2,p3⟩:=Bx.cel4;clear oq nq G hS hg hi C Bx
       go_wp2_with (first|(refine z0d (by kernel_rfl) 49 _ _ rfl _ #[.bool eh,.slice e1 r.length e4,.slice e2 s.length e5,.slice e3 d.length e6] rfl rfl 49 _ R0 L rfl (by simp[Value.oneCell']) ?_))
       obtain⟨q0,q1,q2,q3⟩:=Rr.cel4;exact bodyPost_ret (v:=.agg #[.bool eh,.slice e1 r.length e4,.slice e2 s.length e5,.slice e3 d.length e6]) (by simp[results,Tryz.results150,go_sem,q0,q1,q2,q3]) rfl ⟨(⟨eh,.slice e1 r.length e4,r,.slice e2 s.length e5,s,.slice e3 d.length e6,d⟩:InstQ),rfl,HQ.out.1,HZ.out.1,HQ.out.2.1,HQ.out.2.2,HZ.out.2.1,HZ.out.2.2⟩
end Go.Proofs.YtciofogeiohleaaGreatDoor
