/- Texts joined,with what the laws reach alone. -/
import Derived.Test.YtfpponhjhbfbeaaGreatDoorSOAT
set_option linter.unusedVariables false
set_option linter.unusedSimpArgs false
set_option maxRecDepth 100000
set_option maxHeartbeats 4000000
namespace Go.Proofs.YtfpponhjhbfbeaaGreatDoor
open Go.RowKit Go.BigFrame
theorem z0I{w w':World}{b:Nat}(h:Out [b] w w'):w.grownBy w' (some b):=⟨h.os,h.tape,h.output,h.size,fun k hk hne=>h.block k hk (by simp only[List.mem_singleton];intro e;exact hne (by rw[e]))⟩
structure DrawI (B b T g:Nat) (w wr:World) (j:Nat) (q:InstQ):Prop where
 ins:insF q.e=0
 own:instK.own wr q
 nd:(instK.foot q).Nodup
 low:∀k∈instK.foot q,w.heap.size<k∧k≠g
 box:Blk wr g 49 #[.bool q.has,q.vb,q.vr,q.vd]
 res:Blk wr w.heap.size 49 #[.bool false,.slice none 0 0,.slice none 0 0,.slice none 0 0]
 src:Src B wr b (T+1+60*(40-j))
 grown:Out [b] w wr
theorem z14(B b T:Nat)(n:Int)(w:World)(hS:Src B w b T)(hT:T≤600000)(hn:n≤40):
  Calls Tryz.prog 56 #[.pointer (some ⟨b,0,none⟩),.int .i64 n] w fun e w'=>∃q:InstQ,e=.returned (.agg #[.bool q.has,q.vb,q.vr,q.vd])∧insF q.e=0∧instK.own w' q∧(instK.foot q).Nodup∧(∀k∈instK.foot q,w.heap.size≤k)∧Src B w' b (T+2500)∧w.grownBy w' (some b):=by
 have hlt:=hS.lt;have hb0:Below w.heap.size w (w.alloc (.cells #[.bool false,.slice none 0 0,.slice none 0 0,.slice none 0 0] 49)):=by go_grown
 have R0:=Blk.new w 49 #[.bool false,.slice none 0 0,.slice none 0 0,.slice none 0 0];have hg:Out [b] w (w.alloc (.cells #[.bool false,.slice none 0 0,.slice none 0 0,.slice none 0 0] 49)):=Out.of_below hb0;replace hS:=hS.below hb0;clear hb0;go_enter Tryz.func56,Tryz.ntmps56
 go_wp2_with fail
 generalize w.alloc (.cells #[.bool false,.slice none 0 0,.slice none 0 0,.slice none 0 0] 49)=W at*;refine(z3S W).mono ?_;rintro e x1 ⟨q,rfl,eq,oq,nq,gq,hb1⟩;have hW:=R0.lt;replace R0:=R0.below hb1;replace hS:=hS.below hb1;replace hg:=hg.trans (Out.of_below hb1);have hm:=instK.own_lt oq;have hi:insF q.e=0:=by rw[eq];exact z51
 have hw1:w.heap.size<x1.heap.size:=R0.lt;clear eq;obtain⟨ch,cb,cbs,cr,crs,cd,cds⟩:=q;obtain⟨c1,c4,rfl⟩:∃a c,cb=.slice a cbs.length c:=oq.1.shape;obtain⟨c2,c5,rfl⟩:∃a c,cr=.slice a crs.length c:=oq.2.1.shape;obtain⟨c3,c6,rfl⟩:∃a c,cd=.slice a cds.length c:=oq.2.2.shape;have hbA:Below x1.heap.size x1 (x1.alloc (.cells #[.bool ch,.slice c1 cbs.length c4,.slice c2 crs.length c5,.slice c3 cds.length c6] 49)):=by go_grown
 have Bx:=Blk.new x1 49 #[.bool ch,.slice c1 cbs.length c4,.slice c2 crs.length c5,.slice c3 cds.length c6];replace R0:=R0.below hbA;replace hS:=hS.below hbA;replace hg:=hg.trans (Out.of_below hbA);replace oq:=instK.own_out (F:=[]) oq (Out.of_below hbA) (fun _ _=>by simp)
 go_wp2_with fail
 generalize hgx:x1.heap.size=g at*;generalize x1.alloc (.cells #[.bool ch,.slice c1 cbs.length c4,.slice c2 crs.length c5,.slice c3 cds.length c6] 49)=X1 at*;clear hbA hb1 hgx;refine(z0h B b T n X1 hS (by omega) (by omega)).mono ?_;rintro e x2 ⟨r,rfl,hr,hSn,hgn⟩;obtain⟨j0,rfl⟩:=Int.eq_ofNat_of_zero_le hr.1;have hj0:j0≤40:=by
  rcases Int.lt_or_le n 1 with h9|h9
  ·have:=hr.2.2 h9;omega
  ·have:=hr.2.1 h9;omega
 have hU:Out [b] X1 x2:=Out.of_grown hgn;have HI0:Hid (DrawI B b T g w x2 j0 (⟨ch,.slice c1 cbs.length c4,cbs,.slice c2 crs.length c5,crs,.slice c3 cds.length c6,cds⟩:InstQ)):=⟨hi,instK.own_out oq hU (fun k hk hk'=>by simp only[List.mem_singleton]at hk';have:=gq k hk;omega),nq,fun k hk=>⟨by have:=gq k hk;omega,by have:=hm k hk;omega⟩,Bx.outs hU (fun hk=>by simp only[List.mem_singleton]at hk;omega),R0.outs hU (fun hk=>by simp only[List.mem_singleton]at hk;omega),hSn.mono (by omega),hg.trans hU⟩
 clear hi oq nq gq hm Bx R0 hg hS hSn hgn hU hr hW
 go_wp2
 go_loopw[6] (fun c wr=>∃ (j:Nat) (q:InstQ),c=.int .i64 j∧j≤40∧Hid (DrawI B b T g w wr j q)) (fun c _=>(intOf c).toNat)
 case atStart=>exact⟨j0,_,rfl,hj0,HI0⟩
 case round=>
  clear HI0 hj0;obtain⟨j,q,rfl,hj,HI⟩:=hrel;obtain⟨hi,oq,nq,low,Bx,R0,hS,hg⟩:=HI.out;clear HI;have hsz:=hg.size;have hgx:=Bx.lt;obtain⟨eh,eb,ebs,er,ers,ed,eds⟩:=q;obtain⟨e1,e4,rfl⟩:∃a c,eb=.slice a ebs.length c:=oq.1.shape;obtain⟨e2,e5,rfl⟩:∃a c,er=.slice a ers.length c:=oq.2.1.shape;obtain⟨e3,e6,rfl⟩:∃a c,ed=.slice a eds.length c:=oq.2.2.shape;dsimp only at Bx;have p0:=Bx.cell 0 _ rfl;have p1:=Bx.cell 1 _ rfl;have p2:=Bx.cell 2 _ rfl;have p3:=Bx.cell 3 _ rfl;by_cases hpos:0<j
  ·go_wp2_with fail
   clear p0 p1 p2 p3;refine(z6Y B b (T+1+60*(40-j)) (⟨eh,.slice e1 ebs.length e4,ebs,.slice e2 ers.length e5,ers,.slice e3 eds.length e6,eds⟩:InstQ) wr hS (by omega) oq nq hi (fun hk=>by have:=low b hk;omega)).mono ?_;rintro e x4 ⟨q4,rfl,h4,o4,n4,f4,hSn,hgn⟩;have hU:Out [b] wr x4:=Out.of_grown hgn;have hs4:=hU.size;have Bx4:=Bx.outs hU (fun hk=>by simp only[List.mem_singleton]at hk;omega);have R4:=R0.outs hU (fun hk=>by simp only[List.mem_singleton]at hk;omega);have hg4:=hg.trans hU;have low4:∀k∈instK.foot q4,w.heap.size<k∧k≠g:=fun k hk=>by
    rcases f4 k hk with h|h
    ·exact low k h
    ·omega
   clear oq nq low Bx R0 hg hS hi f4 hgn hU;obtain⟨fh,fb,fbs,fr,frs,fd,fds⟩:=q4;obtain⟨f1,f4,rfl⟩:∃a c,fb=.slice a fbs.length c:=o4.1.shape;obtain⟨f2,f5,rfl⟩:∃a c,fr=.slice a frs.length c:=o4.2.1.shape;obtain⟨f3,f6,rfl⟩:∃a c,fd=.slice a fds.length c:=o4.2.2.shape;have Br:=Bx4.row #[.bool fh,.slice f1 fbs.length f4,.slice f2 frs.length f5,.slice f3 fds.length f6];have hsr:(Tryz.prog.info? 49).map (·.size)=some (#[.bool fh,.slice f1 fbs.length f4,.slice f2 frs.length f5,.slice f3 fds.length f6]:Array Value).size:=z0k;have hUr:=z0d x4 g #[.bool fh,.slice f1 fbs.length f4,.slice f2 frs.length f5,.slice f3 fds.length f6];have HI5:Hid (DrawI B b T g w (x4.setRow g #[.bool fh,.slice f1 fbs.length f4,.slice f2 frs.length f5,.slice f3 fds.length f6]) (j-1) (⟨fh,.slice f1 fbs.length f4,fbs,.slice f2 frs.length f5,frs,.slice f3 fds.length f6,fds⟩:InstQ)):=⟨h4,instK.own_out o4 hUr (fun k hk hk'=>by simp only[List.mem_singleton]at hk';have:=low4 k hk;omega),n4,low4,Br,R4.outs hUr (fun hk=>by simp only[List.mem_singleton]at hk;omega),(hSn.out hUr (by simp only[List.mem_singleton];omega) (fun k hk=>by simp only[List.mem_singleton]at hk;omega)).mono (by omega),⟨hUr.os.trans hg4.os,hUr.tape.trans hg4.tape,hUr.output.trans hg4.output,Nat.le_trans hg4.size hUr.size,fun k hk hne=>(hUr.block k (Nat.lt_of_lt_of_le hk hg4.size) (by simp only[List.mem_singleton];omega)).trans (hg4.block k hk hne)⟩⟩
   clear o4 n4 low4 R4 hg4 hSn h4 Br hUr
   go_wp2_with (first|(refine z0b (by kernel_rfl) 49 _ _ rfl _ #[.bool fh,.slice f1 fbs.length f4,.slice f2 frs.length f5,.slice f3 fds.length f6] rfl rfl 49 _ Bx4 hsr rfl (by simp[Value.oneCell']) ?_))
   go_roundw
   case rel=>exact⟨j-1,_,by go_num,by omega,HI5⟩
   case measure=>simp[intOf];omega
  ·have Rr:=R0.row #[.bool eh,.slice e1 ebs.length e4,.slice e2 ers.length e5,.slice e3 eds.length e6];have hsr:(Tryz.prog.info? 49).map (·.size)=some (#[.bool eh,.slice e1 ebs.length e4,.slice e2 ers.length e5,.slice e3 eds.length e6]:Array Value).size:=z0k;have hUr:=z0d wr w.heap.size #[.bool eh,.slice e1 ebs.length e4,.slice e2 ers.length e5,.slice e3 eds.length e6];have HZ:Hid (instK.own (wr.setRow w.heap.size #[.bool eh,.slice e1 ebs.length e4,.slice e2 ers.length e5,.slice e3 eds.length e6]) (⟨eh,.slice e1 ebs.length e4,ebs,.slice e2 ers.length e5,ers,.slice e3 eds.length e6,eds⟩:InstQ)∧Src B (wr.setRow w.heap.size #[.bool eh,.slice e1 ebs.length e4,.slice e2 ers.length e5,.slice e3 eds.length e6]) b (T+2500)∧w.grownBy (wr.setRow w.heap.size #[.bool eh,.slice e1 ebs.length e4,.slice e2 ers.length e5,.slice e3 eds.length e6]) (some b)):=by
    refine⟨instK.own_out oq hUr (fun k hk hk'=>by simp only[List.mem_singleton]at hk';have:=low k hk;omega),?_,?_⟩
    ·exact(hS.out hUr (by simp only[List.mem_singleton];omega) (fun k hk=>by simp only[List.mem_singleton]at hk;omega)).mono (by omega)
    ·exact z0g (z0I hg) hUr (fun k hk=>by simp only[List.mem_singleton]at hk;omega)
   have HQ:Hid (insF (InstQ.e (⟨eh,.slice e1 ebs.length e4,ebs,.slice e2 ers.length e5,ers,.slice e3 eds.length e6,eds⟩:InstQ))=0∧(instK.foot (⟨eh,.slice e1 ebs.length e4,ebs,.slice e2 ers.length e5,ers,.slice e3 eds.length e6,eds⟩:InstQ)).Nodup∧∀k∈instK.foot (⟨eh,.slice e1 ebs.length e4,ebs,.slice e2 ers.length e5,ers,.slice e3 eds.length e6,eds⟩:InstQ),w.heap.size≤k):=⟨hi,nq,fun k hk=>by have:=low k hk;omega⟩
   clear oq nq low hS hg hi hUr
   go_wp2_with (first|(refine z0b (by kernel_rfl) 49 _ _ rfl _ #[.bool eh,.slice e1 ebs.length e4,.slice e2 ers.length e5,.slice e3 eds.length e6] rfl rfl 49 _ R0 hsr rfl (by simp[Value.oneCell']) ?_))
   have q0:=Rr.cell 0 _ rfl;have q1:=Rr.cell 1 _ rfl;have q2:=Rr.cell 2 _ rfl;have q3:=Rr.cell 3 _ rfl;exact bodyPost_ret (v:=.agg #[.bool eh,.slice e1 ebs.length e4,.slice e2 ers.length e5,.slice e3 eds.length e6]) (by simp[results,Tryz.results56,go_sem,q0,q1,q2,q3]) rfl ⟨(⟨eh,.slice e1 ebs.length e4,ebs,.slice e2 ers.length e5,ers,.slice e3 eds.length e6,eds⟩:InstQ),rfl,HQ.out.1,HZ.out.1,HQ.out.2.1,HQ.out.2.2,HZ.out.2.1,HZ.out.2.2⟩
theorem z7Y{k y v:Int}(hk:1≤k∧k≤4)(hy:1≤y∧y≤20)(hv:-1000≤v∧v≤1000)(h3:k=3→v=0):actF ⟨k,y,v⟩=0:=by
 have a:inW k 1 4=true:=by simp[inW];omega
 have b:inW y 1 20=true:=by simp[inW];omega
 have c:inW v (-1000) 1000=true:=by simp[inW];omega
 unfold actF;dsimp only;rw[a,b,c];by_cases e:k=3
 ·simp[e,h3 e]
 ·simp[e]
theorem z8O{zs:List ActD}(h:∀z∈zs,actF z=0):z17 zs=0:=by
 induction zs with
 |nil=>rfl
 |cons x r ih=>
  simp only[z17];rw[if_pos (h x (by simp))];exact ih (fun z hz=>h z (by simp[hz]))
theorem z9E{i s q:Int}{zs:List ActD}(hi:1≤i∧i≤200)(hs:1≤s∧s≤9)(hq:1≤q∧q≤99)(hl:1≤zs.length∧zs.length≤4)(h:∀z∈zs,actF z=0):txnF i s q zs=0:=by
 have a:inW i 1 200=true:=by simp[inW];omega
 have b:inW s 1 9=true:=by simp[inW];omega
 have c:inW q 1 99=true:=by simp[inW];omega
 unfold txnF;rw[a,b,c,if_neg (by simp),if_neg (by omega)];exact z8O h
theorem z4d(B b T:Nat)(w:World)(hS:Src B w b T)(hT:T≤1000000):
  Calls Tryz.prog 117 #[.pointer (some ⟨b,0,none⟩)] w fun e w'=>∃k y z:Int,e=.returned (.agg #[.int .i64 k,.int .i64 y,.int .i64 z])∧actF ⟨k,y,z⟩=0∧Src B w' b (T+3)∧w.grownBy w' (some b):=by
 have hlt:=hS.lt;have B0:=Blk.new w 137 #[.int .i64 0,.int .i64 0,.int .i64 0];have hg:w.grownBy (w.alloc (.cells #[.int .i64 0,.int .i64 0,.int .i64 0] 137)) (some b):=World.grownBy_alloc w _ _;replace hS:Src B (w.alloc (.cells #[.int .i64 0,.int .i64 0,.int .i64 0] 137)) b T:=hS.below (by go_grown);go_enter Tryz.func117,Tryz.ntmps117
 go_wp2_with fail
 have hs1:w.heap.size+1=(w.alloc (.cells #[.int .i64 0,.int .i64 0,.int .i64 0] 137)).heap.size:=by simp
 generalize w.alloc (.cells #[.int .i64 0,.int .i64 0,.int .i64 0] 137)=W1 at B0 hg hS hs1;try simp only[hs1]
 replace hs1:w.heap.size<W1.heap.size:=by omega
 have hltp:=hS.lt;have hbA:Below W1.heap.size W1 (W1.alloc (.cells #[.int .i64 1,.int .i64 1,.int .i64 2,.int .i64 2,.int .i64 3,.int .i64 4] 2)):=by go_grown
 replace B0:=B0.below hbA;replace hg:=hg.trans (World.grownBy_alloc W1 (.cells #[.int .i64 1,.int .i64 1,.int .i64 2,.int .i64 2,.int .i64 3,.int .i64 4] 2) (some b));refine(z0W B b T W1.heap.size _ [1,1,2,2,3,4] _ (hS.below (by go_grown)) (by omega) (World.ownsRow_lit W1 _ 6 (Nat.le_refl _) (by decide) rfl) (by simp) (by simp) (by simp[Value.ownBlock];omega)).mono ?_;rintro e w3 ⟨k,rfl,hmem,hSn,hgn⟩;replace B0:=B0.grown hgn (by simp;omega);replace hg:=hg.trans hgn;replace hS:=hSn;have hsz_w3:=hgn.size;clear hgn hSn;have hk4:1≤k∧k≤4:=by simp at hmem;omega
 clear hmem
 go_wp2_with fail
 refine(z0h B b (T+1) 4 w3 hS (by omega) (by omega)).mono ?_;rintro e w4 ⟨r,rfl,hr,hSn,hgn⟩;have r1:=hr.1;have r2:=hr.2.1 (by omega);replace B0:=B0.grown hgn (by simp;omega);replace hg:=hg.trans hgn;replace hS:=hSn;have hsz_w4:=hgn.size;clear hgn hSn;clear hr;have hbA:Below w4.heap.size w4 (w4.alloc (.cells #[.int .i64 k,.int .i64 (1+r),.int .i64 0] 137)):=by go_grown
 have B1:=Blk.new w4 137 #[.int .i64 k,.int .i64 (1+r),.int .i64 0];have hlt4:=B0.lt;have B0w:=B0;have hSw:=hS;have hgw:=hg;replace B0:=B0.below hbA;replace hS:=hS.below hbA;have hsw:=hg.size;replace hg:=z0c hg (hbA.mono hsw);have q0:=B1.cell 0 _ rfl;clear hbA;by_cases hk:k=3
 ·have hk':(k !=3)=false:=by simp[hk]
  have p0:=B0w.cell 0 _ rfl;have p1:=B0w.cell 1 _ rfl;have p2:=B0w.cell 2 _ rfl;have f0:=B0w.frozen 0;have f1:=B0w.frozen 1;have f2:=B0w.frozen 2;have HK:Hid (k=3):=hk;clear B0 B1 B0w hS hg hk q0
  go_wp2
  refine bodyPost_ret (v:=.agg #[.int .i64 k,.int .i64 (1+r),.int .i64 0]) (by simp[results,Tryz.results117,go_sem,p0,p1,p2,hlt4]) rfl ?_;have hbE:∀O,Below w.heap.size w4 ((((w4.setCell ⟨w.heap.size,0,none⟩ (.int .i64 k)).setCell ⟨w.heap.size,1,none⟩ (.int .i64 (1+r))).setCell ⟨w.heap.size,2,none⟩ (.int .i64 0)).alloc O):=fun O=>
   ((((Below.refl _ _).setCell (p:=⟨w.heap.size,0,none⟩) (Nat.le_refl _) _).setCell (p:=⟨w.heap.size,1,none⟩) (Nat.le_refl _) _).setCell (p:=⟨w.heap.size,2,none⟩) (Nat.le_refl _) _).alloc (by simp[World.setCell];omega) O
  exact⟨_,_,_,rfl,z7Y hk4 (by omega) (by omega) (fun _=>rfl),(hSw.low (hbE _) hlt.2).mono (by omega),z0c hgw (hbE _)⟩
 ·have hk':(k !=3)=true:=by simp[bne_iff_ne,hk]
  clear B0w hSw hgw
  go_wp2_with fail
  clear q0;have hs5:w4.heap.size+1=(w4.alloc (.cells #[.int .i64 k,.int .i64 (1+r),.int .i64 0] 137)).heap.size:=by simp
  generalize w4.alloc (.cells #[.int .i64 k,.int .i64 (1+r),.int .i64 0] 137)=W5 at*;simp only[hs5];clear hs5;have hltp:=hS.lt;have hbA:Below W5.heap.size W5 (W5.alloc (.cells #[.int .i64 0,.int .i64 1,.int .i64 5,.int .i64 (-3),.int .i64 1000] 2)):=by go_grown
  replace B0:=B0.below hbA;replace B1:=B1.below hbA;replace hg:=hg.trans (World.grownBy_alloc W5 (.cells #[.int .i64 0,.int .i64 1,.int .i64 5,.int .i64 (-3),.int .i64 1000] 2) (some b));refine(z0W B b (T+1+1) W5.heap.size _ [0,1,5,-3,1000] _ (hS.below (by go_grown)) (by omega) (World.ownsRow_lit W5 _ 5 (Nat.le_refl _) (by decide) rfl) (by simp) (by simp) (by simp[Value.ownBlock];omega)).mono ?_;rintro e w6 ⟨z,rfl,hmem,hSn,hgn⟩;replace B0:=B0.grown hgn (by simp;omega);replace B1:=B1.grown hgn (by simp;omega);replace hg:=hg.trans hgn;replace hS:=hSn;have hsz_w6:=hgn.size;clear hgn hSn;have hz4:-1000≤z∧z≤1000:=by simp at hmem;omega
  clear hmem;have hsb:w4.heap.size<w6.heap.size:=B1.lt;have q0:=B1.cell 0 _ rfl;have q1:=B1.cell 1 _ rfl;have q2:=B1.cell 2 _ rfl;have g2:=B1.frozen 2;have p0:=B0.cell 0 _ rfl;have p1:=B0.cell 1 _ rfl;have p2:=B0.cell 2 _ rfl;have f0:=B0.frozen 0;have f1:=B0.frozen 1;have f2:=B0.frozen 2;have hne0:w.heap.size≠w4.heap.size:=by omega
  have HK:Hid (k≠3):=hk;clear B0 B1 hk
  go_wp2
  refine bodyPost_ret (v:=.agg #[.int .i64 k,.int .i64 (1+r),.int .i64 z]) (by simp[results,Tryz.results117,go_sem,p0,p1,p2]) rfl ?_;have hbE:Below w.heap.size w6 ((((w6.setCell ⟨w4.heap.size,2,none⟩ (.int .i64 z)).setCell ⟨w.heap.size,0,none⟩ (.int .i64 k)).setCell ⟨w.heap.size,1,none⟩ (.int .i64 (1+r))).setCell ⟨w.heap.size,2,none⟩ (.int .i64 z)):=by
   exact((((Below.refl _ _).setCell (p:=⟨w4.heap.size,2,none⟩) (show w.heap.size≤w4.heap.size by omega) _).setCell (p:=⟨w.heap.size,0,none⟩) (Nat.le_refl _) _).setCell (p:=⟨w.heap.size,1,none⟩) (Nat.le_refl _) _).setCell (p:=⟨w.heap.size,2,none⟩) (Nat.le_refl _) _
  exact⟨_,_,_,rfl,z7Y hk4 (by omega) hz4 (fun e=>absurd e HK.out),(hS.low hbE hlt.2).mono (by omega),z0c hg hbE⟩
theorem z52(B b T:Nat)(w:World)(hS:Src B w b T)(hT:T≤900000):
  Calls Tryz.prog 76 #[.pointer (some ⟨b,0,none⟩)] w fun e w'=>∃ (i s q:Int) (a:Option Addr) (c:Nat) (xs:List ActD),e=.returned (.agg #[.int .i64 i,.int .i64 s,.int .i64 q,.slice a xs.length c])∧txnF i s q xs=0∧xs.length≤3∧
   w'.ownsRow w.heap.size 137 3 (.slice a xs.length c) xs.length (z0f xs)∧Src B w' b (T+13)∧w.grownBy w' (some b):=by
 have hlt:=hS.lt;have B0:=Blk.new w 44 #[.int .i64 0,.int .i64 0,.int .i64 0,.slice none 0 0];have hg:w.grownBy (w.alloc (.cells #[.int .i64 0,.int .i64 0,.int .i64 0,.slice none 0 0] 44)) (some b):=World.grownBy_alloc w _ _;replace hS:Src B (w.alloc (.cells #[.int .i64 0,.int .i64 0,.int .i64 0,.slice none 0 0] 44)) b T:=hS.below (by go_grown);go_enter Tryz.func76,Tryz.ntmps76
 go_wp2_with fail
 generalize w.alloc (.cells #[.int .i64 0,.int .i64 0,.int .i64 0,.slice none 0 0] 44)=W1 at B0 hg hS;refine(z0h B b T 12 W1 hS (by omega) (by omega)).mono ?_;rintro e w3 ⟨r,rfl,hr,hSn,hgn⟩;have r1:=hr.1;have r2:=hr.2.1 (by omega);replace B0:=B0.grown hgn (by simp;omega);replace hg:=hg.trans hgn;replace hS:=hSn;have hsz_w3:=hgn.size;clear hgn hSn;clear hr
 go_wp2_with fail
 refine(z0h B b (T+1) 3 w3 hS (by omega) (by omega)).mono ?_;rintro e w4 ⟨s,rfl,hr,hSn,hgn⟩;have s1:=hr.1;have s2:=hr.2.1 (by omega);replace B0:=B0.grown hgn (by simp;omega);replace hg:=hg.trans hgn;replace hS:=hSn;have hsz_w4:=hgn.size;clear hgn hSn;clear hr
 go_wp2_with fail
 refine(z0h B b (T+1+1) 4 w4 hS (by omega) (by omega)).mono ?_;rintro e w5 ⟨q,rfl,hr,hSn,hgn⟩;have q1:=hr.1;have q2:=hr.2.1 (by omega);replace B0:=B0.grown hgn (by simp;omega);replace hg:=hg.trans hgn;replace hS:=hSn;have hsz_w5:=hgn.size;clear hgn hSn;clear hr;have hbA:Below w5.heap.size w5 (w5.alloc (.cells #[.int .i64 (1+r),.int .i64 (1+s),.int .i64 (1+q),.slice none 0 0] 44)):=by go_grown
 have Bt:=Blk.new w5 44 #[.int .i64 (1+r),.int .i64 (1+s),.int .i64 (1+q),.slice none 0 0];have hr5:w.heap.size<w5.heap.size:=B0.lt;replace B0:=B0.below hbA;replace hS:=hS.below hbA;replace hg:=z0c hg (hbA.mono hg.size)
 go_wp2_with fail
 have hs6:(w5.alloc (.cells #[.int .i64 (1+r),.int .i64 (1+s),.int .i64 (1+q),.slice none 0 0] 44)).heap.size=w5.heap.size+1:=by simp
 generalize w5.alloc (.cells #[.int .i64 (1+r),.int .i64 (1+s),.int .i64 (1+q),.slice none 0 0] 44)=W6 at B0 Bt hS hg hs6;clear hbA;refine(z0h B b (T+1+1+1) 3 W6 hS (by omega) (by omega)).mono ?_;rintro e w7 ⟨k,rfl,hr,hSn,hgn⟩;have k1:=hr.1;have k2:=hr.2.1 (by omega);replace B0:=B0.grown hgn (by simp;omega);replace Bt:=Bt.grown hgn (by simp;omega);replace hg:=hg.trans hgn;replace hS:=hSn;have hsz_w7:=hgn.size;clear hgn hSn;clear hr;obtain⟨j0,rfl⟩:=Int.eq_ofNat_of_zero_le k1;have hj0:j0≤2:=by omega
 have hs7:w5.heap.size+1≤w7.heap.size:=by omega
 clear k1 k2 hs6 hsz_w7 hsz_w3 hsz_w4 hsz_w5;have hr0:(0:Int)≤1+r∧1+r≤100:=by omega
 go_wp2
 go_loopw[4] (fun c wr=>∃ (j:Nat) (xs:List ActD) (a1:Option Addr) (c1:Nat),c=.int .i64 j∧Hid (∀z∈xs,actF z=0)∧j+xs.length≤3∧1≤j+xs.length∧Blk wr w.heap.size 44 #[.int .i64 0,.int .i64 0,.int .i64 0,.slice none 0 0]∧Blk wr w5.heap.size 44 #[.int .i64 (1+r),.int .i64 (1+s),.int .i64 (1+q),.slice a1 xs.length c1]∧wr.ownsRow (w5.heap.size+1) 137 3 (.slice a1 xs.length c1) xs.length (z0f xs)∧Src B wr b (T+4+3*xs.length)∧w.grownBy wr (some b)∧w5.heap.size+1≤wr.heap.size) (fun c _=>(intOf c).toNat)
 case atStart=>exact⟨j0+1,[],none,0,by go_num,fun z hz=>by simp at hz,by simp;omega,by simp,B0,Bt,World.ownsRow_nil _ _ _ _,hS,hg,hs7⟩
 case round=>
  clear B0 Bt hS hg hs7;obtain⟨j,xs,a1,c1,rfl,HX,hj3,hj1,B0,Bt,ho,hS,hg,hsz⟩:=hrel;by_cases hpos:0<j
  ·have hnb:some b≠Value.ownBlock (.slice a1 xs.length c1):=z2p ho (Or.inl (by omega));have t3:wr.cell? ⟨w5.heap.size,3,none⟩=some (.slice a1 xs.length c1):=Bt.cell 3 _ rfl;generalize hP:(fun u:World=>u.cell? ⟨w5.heap.size,3,none⟩=some (.slice a1 xs.length c1))=PP;have hP0:PP wr:=by subst hP;exact t3
   have cc0:∀u:KeepP PP,u.val.cell? ⟨w5.heap.size,3,none⟩=some (.slice a1 xs.length c1):=fun u=>by have:=u.isP;subst hP;exact this
   have hnn:Nonempty (KeepP PP):=⟨⟨wr,hP0⟩⟩
   go_wp2_with fail
   refine z3O (S:=fun w'=>∃u:KeepP PP,w'=u.val) (R:=fun _ _=>False) 7 (by kernel_rfl) (fun _ _ _ _ h=>h.elim) ?_;have hPd:PP wr.drew:=by subst hP;exact hP0
   refine sgX [(0,3)] 5 (by kernel_rfl) ⟨⟨wr.drew,hPd⟩,rfl⟩ ?_;simp only[pkE];repeat go_big_quiet_step (fail)
   refine wpQuiet_nil ?_;clear cc0 hnn hP0 t3 hPd;replace Bt:Blk wr.drew w5.heap.size 44 #[.int .i64 (1+r),.int .i64 (1+s),.int .i64 (1+q),.slice a1 xs.length c1]:=Bt;replace B0:Blk wr.drew w.heap.size 44 #[.int .i64 0,.int .i64 0,.int .i64 0,.slice none 0 0]:=B0;replace ho:=ho.drew;have hdr:Below wr.heap.size wr wr.drew:=(Below.refl _ _).drew;replace hS:=hS.below hdr;replace hg:=z0c hg (hdr.mono hg.size);have keepP:∀u:World,Blk u w5.heap.size 44 #[.int .i64 (1+r),.int .i64 (1+s),.int .i64 (1+q),.slice a1 xs.length c1]→PP u:=by
    intro u hu;subst hP;exact hu.cell 3 _ rfl
   clear hP hdr;have hszd:w5.heap.size+1≤wr.drew.heap.size:=hsz;generalize wr.drew=wd at Bt B0 ho hS hg hszd;refine clX 3 (some 25) 117 #[.pointer (some ⟨b,0,none⟩)] 4 (by kernel_rfl) rfl ?_;refine(z4d B b (T+4+3*xs.length) wd hS (by omega)).mono ?_;rintro e w8 ⟨k,y,z,rfl,hF,hSn,hgn⟩;have HX2:Hid (∀u∈xs++[(⟨k,y,z⟩:ActD)],actF u=0):=by
    intro u hu;rcases List.mem_append.1 hu with hu|hu
    ·exact HX.out u hu
    ·simp only[List.mem_singleton]at hu;subst hu;exact hF
   clear HX hF;refine Or.inl ⟨_,rfl,?_⟩;replace Bt:=Bt.grown hgn (by simp;omega);replace B0:=B0.grown hgn (by simp;omega);replace ho:=ho.kept hgn (Or.inr (fun e=>hnb e.symm));replace hg:=hg.trans hgn;replace hS:=hSn;have hsz8:w5.heap.size+1≤w8.heap.size:=Nat.le_trans hszd hgn.size;clear hgn hSn hsz hszd;refine⟨⟨⟨w8,keepP _ Bt⟩,rfl⟩,?_⟩;simp only[Act.put,pgE,pjE];have hbA:Below w8.heap.size w8 (w8.alloc (.cells #[.int .i64 k,.int .i64 y,.int .i64 z] 137)):=by go_grown
   refine onX 4 3 rfl (by kernel_rfl) ?_
   go_wp2
   replace Bt:=Bt.below hbA;replace B0:=B0.below hbA;replace hS:=hS.below hbA;replace hg:=z0c hg (hbA.mono hg.size);refine ThenX.to ⟨Or.inr ⟨⟨_,keepP _ Bt⟩,rfl⟩,?_⟩;have hsA:(w5.heap.size+1)≤(w8.alloc (.cells #[.int .i64 k,.int .i64 y,.int .i64 z] 137)).heap.size:=by simp;omega
   have hsrc:∀j u,[Value.int .i64 k,.int .i64 y,.int .i64 z][j]?=some u→(w8.alloc (.cells #[.int .i64 k,.int .i64 y,.int .i64 z] 137)).cell? ((⟨w8.heap.size,0,none⟩:Addr).add j)=some u:=by
    intro j u hj;match j,hj with|0,hj=>simp at hj;subst hj;simp[Addr.add]|1,hj=>simp at hj;subst hj;simp[Addr.add]|2,hj=>simp at hj;subst hj;simp[Addr.add]
   replace ho:=z0j ho hbA;generalize w8.alloc (.cells #[.int .i64 k,.int .i64 y,.int .i64 z] 137)=wb at hbA Bt B0 hS hg hsA hsrc ho;obtain⟨i0,hi,hz0,hz1,hz2⟩:=info_parts z2E;refine onX 5 2 rfl (by kernel_rfl) ?_;refine wpList_append_own _ rfl _ _ 42 rfl (w5.heap.size+1) 137 i0 (.agg #[.int .i64 0,.int .i64 0,.int .i64 0]) 3 24 Tryz.underlying42 hi hz0 hz1 hz2 rfl (by decide) _ xs.length (z0f xs) rfl ho ⟨w8.heap.size,0,none⟩ 1 1 [.int .i64 k,.int .i64 y,.int .i64 z] rfl rfl hsrc ?c2 ?c3 ?c4 ?c5 ?_
   case c2=>intro u hu;simp at hu;rcases hu with rfl|rfl|rfl<;>rfl
   case c3=>unfold maxLen;omega
   case c4=>omega
   case c5=>exact hsA
   intro v' wc hown hgrow _;obtain⟨a2,c2,rfl⟩:=z0l hown;have hgo:∀j,(Value.slice a1 xs.length c1).ownBlock=some j→(w5.heap.size+1)≤j:=fun j hj=>(ho.lt j hj).1
   have hBc:Below (w5.heap.size+1) wb wc:=(Below.refl _ _).grown hgrow hsA hgo;have hsc:(w5.heap.size+1)≤wc.heap.size:=Nat.le_trans hsA hBc.size;replace Bt:Blk wc w5.heap.size 44 #[.int .i64 (1+r),.int .i64 (1+s),.int .i64 (1+q),.slice a1 xs.length c1]:=(hBc.block _ (by omega)).trans Bt;replace B0:Blk wc w.heap.size 44 #[.int .i64 0,.int .i64 0,.int .i64 0,.slice none 0 0]:=(hBc.block _ (by omega)).trans B0;replace hS:=hS.low hBc (by omega);replace hg:=z0c hg (hBc.mono (by omega));clear hgrow hgo hBc ho hbA hsrc
   go_wp2
   refine ThenX.to ⟨Or.inr ⟨⟨_,keepP _ Bt⟩,rfl⟩,?_⟩;simp only[Act.put,pgE,pjE];refine onX 6 1 rfl (by kernel_rfl) ?_
   go_wp2
   refine ThenX.to ⟨Or.inr ⟨⟨_,keepP _ Bt⟩,rfl⟩,?_⟩;refine onX 7 0 rfl (by kernel_rfl) ?_;have t3:=Bt.cell 3 _ rfl;have t4:=Bt.frozen 3
   go_wp2
   clear t3 t4 keepP;refine ThenX.to ⟨Or.inl (by kernel_rfl),?_⟩;refine z9u (by kernel_rfl) ?_;have hbS:Below w5.heap.size wc (wc.setCell ⟨w5.heap.size,3,none⟩ (.slice a2 (xs.length+1) c2)):=(Below.refl _ _).setCell (p:=⟨w5.heap.size,3,none⟩) (Nat.le_refl _) _;replace Bt:Blk (wc.setCell ⟨w5.heap.size,3,none⟩ (.slice a2 (xs.length+1) c2)) w5.heap.size 44 #[.int .i64 (1+r),.int .i64 (1+s),.int .i64 (1+q),.slice a2 (xs.length+1) c2]:=by
    have:=Go.Joins.block_setCell (i:=3) (v:=.slice a2 (xs.length+1) c2) Bt;unfold Blk;simpa using this
   replace B0:=(hbS.block _ (by omega)).trans B0;have ho:=ownsRow_setCell_below (a:=⟨w5.heap.size,3,none⟩) hown (by dsimp only;omega) (.slice a2 (xs.length+1) c2);replace hS:=hS.low hbS (by omega);replace hg:=z0c hg (hbS.mono (by omega));have hszN:(w5.heap.size+1)≤(wc.setCell ⟨w5.heap.size,3,none⟩ (.slice a2 (xs.length+1) c2)).heap.size:=by simpa[World.setCell]using hsc
   clear hsc hsA hown hi hz0 hz1 hz2 hbS;generalize wc.setCell ⟨w5.heap.size,3,none⟩ (.slice a2 (xs.length+1) c2)=w9 at Bt B0 ho hS hg hszN;have ho2:w9.ownsRow (w5.heap.size+1) 137 3 (.slice a2 (xs.length+1) c2) (xs.length+1) (z0f (xs++[⟨k,y,z⟩])):=by rw[z1t];exact ho
   clear ho
   go_wp2
   go_roundw
   case rel=>
    refine⟨j-1,xs++[⟨k,y,z⟩],a2,c2,by go_num,HX2,by simp;omega,by simp;omega,B0,by simpa using Bt,by simpa using ho2,hS.mono (by simp;omega),hg,hszN⟩
   case measure=>simp[intOf];omega
  ·have p0:=B0.cell 0 _ rfl;have p1:=B0.cell 1 _ rfl;have p2:=B0.cell 2 _ rfl;have p3:=B0.cell 3 _ rfl;have f0:=B0.frozen 0;have f1:=B0.frozen 1;have f2:=B0.frozen 2;have f3:=B0.frozen 3;have q0:=Bt.cell 0 _ rfl;have q1:=Bt.cell 1 _ rfl;have q2:=Bt.cell 2 _ rfl;have q3:=Bt.cell 3 _ rfl;clear B0 Bt
   go_wp2
   refine bodyPost_ret (v:=.agg #[.int .i64 (1+r),.int .i64 (1+s),.int .i64 (1+q),.slice a1 xs.length c1]) (by simp[results,Tryz.results76,go_sem,p0,p1,p2,p3]) rfl ?_;have hbE:∀v0 v1 v2 v3:Value,Below (w.heap.size) wr ((((wr.setCell ⟨w.heap.size,0,none⟩ v0).setCell ⟨w.heap.size,1,none⟩ v1).setCell ⟨w.heap.size,2,none⟩ v2).setCell ⟨w.heap.size,3,none⟩ v3):=fun v0 v1 v2 v3=>
    ((((Below.refl _ _).setCell (p:=⟨w.heap.size,0,none⟩) (Nat.le_refl _) _).setCell (p:=⟨w.heap.size,1,none⟩) (Nat.le_refl _) _).setCell (p:=⟨w.heap.size,2,none⟩) (Nat.le_refl _) _).setCell (p:=⟨w.heap.size,3,none⟩) (Nat.le_refl _) _
   refine⟨_,_,_,a1,c1,xs,rfl,z9E (by omega) (by omega) (by omega) (by omega) HX.out,by omega,?_,(hS.low (hbE _ _ _ _) hlt.2).mono (by omega),z0c hg (hbE _ _ _ _)⟩;refine z0J (base:=w5.heap.size+1) ?_ (by omega);repeat' (refine ownsRow_setCell_below ?_ (by dsimp only;omega) _)
   exact ho
def RB(j:Nat)(ps:List TxnQ):Prop:=(∀p∈ps,p.acts.length≤3)∧(∀t∈ps.map TxnQ.e,t.F=0)∧((ps.map TxnQ.e).map TxnD.id).Nodup∧(0<j∨0<ps.length)
theorem z6E:∀ {ds:List TxnD},(∀t∈ds,t.F=0)→allF ds=0
 |[],_=>rfl
 |x::r,h=>by
  rw[allF,if_pos (h x (by simp))];exact z6E (fun t ht=>h t (List.mem_cons_of_mem _ ht))
theorem q0n{ps:List TxnQ}(h1:∀t∈ps.map TxnQ.e,t.F=0)(h2:((ps.map TxnQ.e).map TxnD.id).Nodup)(h3:0<ps.length)(h4:ps.length≤3):batF (ps.map TxnQ.e)=0:=by
 unfold batF;rw[List.length_map,if_neg (by omega),if_pos (z6E h1),if_pos h2]
theorem z3j(B b T:Nat)(w:World)(hS:Src B w b T)(hT:T≤800000):
  Calls Tryz.prog 95 #[.pointer (some ⟨b,0,none⟩)] w fun e w'=>∃ (v:Value) (ps:List TxnQ),e=.returned v∧batF (ps.map TxnQ.e)=0∧ps.length≤3∧(∀p∈ps,p.acts.length≤3)∧txnK.Own w' v ps∧(txnK.fp v ps).Nodup∧(∀k∈txnK.fp v ps,w.heap.size≤k)∧Src B w' b (T+50)∧w.grownBy w' (some b):=by
 obtain⟨i0,hi,hz0,hz1,hz2⟩:=info_parts z1q;have hlt:=hS.lt;obtain⟨ho0,hk0⟩:=z0U (World.ownsRow_lit (e:=44) (size:=4) w #[] 0 (Nat.le_refl _) (by decide) rfl);have hg:w.grownBy (w.alloc (.cells #[] 44)) (some b):=World.grownBy_alloc w _ _;replace hS:Src B (w.alloc (.cells #[] 44)) b T:=hS.below (by go_grown);have hR0:txnK.Own (w.alloc (.cells #[] 44)) (.slice (some ⟨w.heap.size,0,none⟩) 0 0) ([]:List TxnQ):=⟨ho0,fun p hp=>by simp at hp⟩
 have hN0:Hid ((txnK.fp (.slice (some ⟨w.heap.size,0,none⟩) 0 0) ([]:List TxnQ)).Nodup∧∀k∈txnK.fp (.slice (some ⟨w.heap.size,0,none⟩) 0 0) ([]:List TxnQ),w.heap.size≤k):=by
  constructor
  ·simp[Kind.fp,blk,Value.ownBlock]
  ·intro k hk;simp[Kind.fp,blk,Value.ownBlock]at hk;omega
 go_enter Tryz.func95,Tryz.ntmps95
 go_wp2_with fail
 generalize w.alloc (.cells #[] 44)=W1 at hR0 hg hS;refine(z0h B b T 3 W1 hS (by omega) (by omega)).mono ?_;rintro e w3 ⟨r,rfl,hr,hSn,hgn⟩;obtain⟨j0,rfl⟩:=Int.eq_ofNat_of_zero_le hr.1;have hj0:j0≤2:=by have:=hr.2.1 (by omega);omega
 replace hR0:=hR0.out (Out.of_grown hgn) (fun k hk hk' => by
  simp only[Option.toList,List.mem_singleton]at hk';have:=hN0.out.2 k hk;omega)
 replace hg:=hg.trans hgn;replace hS:=hSn;clear hgn hSn hr ho0 hk0
 go_wp2
 go_loopw[3,4] (fun v c wr=>∃ (j:Nat) (ps:List TxnQ),c=.int .i64 j∧j≤3∧j+ps.length≤3∧Hid (RB j ps)∧txnK.Own wr v ps∧Hid ((txnK.fp v ps).Nodup∧∀k∈txnK.fp v ps,w.heap.size≤k)∧Src B wr b (T+1+13*(3-j))∧w.grownBy wr (some b)) (fun _ c _=>(intOf c).toNat)
 case atStart=>exact⟨1+j0,[],by go_num,by omega,by simp;omega,(⟨by simp,by simp,by simp,Or.inl (by omega)⟩:RB (1+j0) []),hR0,hN0,hS.mono (by omega),hg⟩
 case round=>
  clear hR0 hS hg hN0;obtain⟨j,ps,rfl,hj3,hj,HP,hR,HN,hS,hg⟩:=hrel;have hsz:=hg.size;obtain⟨a1,c1,rfl⟩:=hR.shape;by_cases hpos:0<j
  ·go_wp2_with fail
   refine(z52 B b (T+1+13*(3-j)) wr hS (by omega)).mono ?_;rintro e w4 ⟨i,s,q,a,c,xs,rfl,hx1,hx3,ho,hSn,hgn⟩;obtain⟨oA,gA⟩:=z4P ho;have HF:Hid (∀x∈txnK.fp (.slice a1 ps.length c1) ps,x<wr.heap.size):=hR.lt;replace hR:=hR.out (Out.of_grown hgn) (fun k hk hk' => by
    simp only[Option.toList,List.mem_singleton]at hk';have:=HN.out.2 k hk;omega)
   replace hg:=hg.trans hgn;replace hS:=hSn;clear hgn hSn ho;have hbA:Below w4.heap.size w4 (w4.alloc (.cells #[.int .i64 i,.int .i64 s,.int .i64 q,.slice a xs.length c] 44)):=by go_grown
   have Bt:=Blk.new w4 44 #[.int .i64 i,.int .i64 s,.int .i64 q,.slice a xs.length c];have hsz4:=hg.size;replace hR:=hR.below hbA;replace oA:=oA.below hbA;replace hS:=hS.below hbA;replace hg:=z0c hg (hbA.mono hsz4);clear hbA
   go_wp2_with fail
   generalize w4.alloc (.cells #[.int .i64 i,.int .i64 s,.int .i64 q,.slice a xs.length c] 44)=W5 at*;have hW:Below W5.heap.size W5 W5.drew:=(Below.refl _ _).drew;have hnn:Nonempty (Lat W5):=⟨⟨W5,Below.refl _ _⟩⟩
   have k0:=Bt.lat 0 _ rfl;have hL60:((ps.map TxnQ.e).length:Nat)≤60:=by rw[List.length_map];omega
   refine z0i (S:=fun w'=>∃u:Lat W5,w'=u.val) (by kernel_rfl) ?_;refine sgr [(0,1),(2,2)] 3 (by kernel_rfl) ⟨⟨_,hW⟩,rfl⟩ ?_;simp only[pkE];repeat go_big_quiet_step (fail)
   refine wpQuiet_nil ?_;refine cla 1 (some 17) 130 #[.slice a1 ps.length c1] 2 (by kernel_rfl) ?_;refine(z3I _ (ps.map TxnQ.e) _ (z1T (hR.below hW).at) hL60).mono ?_;rintro e w6 ⟨ba,bc,rfl,hoI,hb6⟩;replace hW:=hW.trans (hb6.mono hW.size);clear hb6;refine⟨_,rfl,⟨⟨_,hW⟩,rfl⟩,?_⟩;simp only[Act.put,pgE,pjE];have hIl:((ps.map TxnQ.e).map TxnD.id).length≤1048576:=by rw[List.length_map];omega
   generalize hL:(ps.map TxnQ.e).map TxnD.id=L at*;have HLL:Hid ((ps.map TxnQ.e).map TxnD.id=L):=hL;clear hL;refine cla 4 (some 20) 129 #[.slice ba L.length bc,.int .i64 i] 1 (by kernel_rfl) ?_;refine(z2I ba bc L i w6 (Row.own hoI) hIl).mono ?_;rintro e w7 ⟨rfl,hw7⟩;replace hw7:=hw7.symm;subst hw7;refine⟨_,rfl,⟨⟨_,hW⟩,rfl⟩,?_⟩;simp only[Act.put,pgE,pjE];refine sgr [(5,1)] 0 (by kernel_rfl) ⟨⟨_,hW⟩,rfl⟩ ?_;simp only[pkE];repeat go_big_quiet_step (fail)
   refine wpQuiet_nil ?_;refine z0n (by kernel_rfl) ?_;have hsz5:=hg.size;replace hR:=hR.below hW;replace oA:=oA.below hW;replace hS:=hS.below hW;replace Bt:=Bt.below hW;replace hg:=z0c hg (hW.mono hsz5);clear hW hnn k0 hoI hL60 hIl;generalize hix0:idxI L i=ix at*;have HIX:Hid (idxI L i=ix):=hix0;clear hix0;by_cases hix:ix<0
   ·have p0:=Bt.cell 0 _ rfl;have p1:=Bt.cell 1 _ rfl;have p2:=Bt.cell 2 _ rfl;have p3:=Bt.cell 3 _ rfl;have hbA:Below w6.heap.size w6 (w6.alloc (.cells #[.int .i64 i,.int .i64 s,.int .i64 q,.slice a xs.length c] 44)):=by go_grown
    have hsz6:=hg.size;have hR2:=hR.below hbA;have oA2:=oA.below hbA;have hrow0:=hR2.1
    go_wp2_with (at_builtin;refine wpList_append_own_at _ rfl _ _ 27 rfl 0 44 i0 (.agg #[.int .i64 0,.int .i64 0,.int .i64 0,.slice none 0 0]) 4 48 Tryz.underlying27 hi hz0 hz1 hz2 rfl (by decide) _ ps.length (txnK.row ps) rfl hrow0 ⟨w6.heap.size,0,none⟩ 1 1 [.int .i64 i,.int .i64 s,.int .i64 q,.slice a xs.length c] rfl rfl ?c1 ?c2 ?c3 ?c4 ?c5 ?_)
    all_goals try(case c1=>intro j u hj;match j,hj with|0,hj=>simp at hj;subst hj;simp[Addr.add]|1,hj=>simp at hj;subst hj;simp[Addr.add]|2,hj=>simp at hj;subst hj;simp[Addr.add]|3,hj=>simp at hj;subst hj;simp[Addr.add])
    all_goals try(case c2=>intro u hu;simp at hu;rcases hu with rfl|rfl|rfl|rfl<;>rfl)
    all_goals try(case c3=>unfold maxLen;omega)
    all_goals try(case c4=>omega)
    all_goals try(case c5=>first|omega|(simp;omega))
    intro v' w8 hown hgrow hnil hat;clear p0 p1 p2 p3;obtain ⟨hO5,hn5,hlo5,hou⟩:=hR2.snoc (p:=(⟨i,s,q,.slice a xs.length c,xs⟩:TxnQ)) (B:=w.heap.size) HN.out.1 HN.out.2 oA2 (by show (actK.fp _ _).Nodup;rw [z3u];exact z09 _) (fun x hx hx' => by
     have h1:=gA x hx;have h2:=HF.out x hx';omega) (fun x hx=>by have:=gA x hx;omega) (by simp;omega) hown hgrow (by rw [World.size_alloc];exact hat)
    have HP5:Hid (RB (j-1) (ps++[(⟨i,s,q,.slice a xs.length c,xs⟩:TxnQ)])):=by
     obtain⟨r1,r2,r3,r4⟩:=HP.out;refine⟨?_,?_,?_,Or.inr (by simp)⟩
     ·intro p hp;simp only[List.mem_append,List.mem_singleton]at hp;rcases hp with hp|rfl
      ·exact r1 p hp
      ·exact hx3
     ·intro t ht;simp only[List.map_append,List.mem_append,List.map_cons,List.map_nil,List.mem_singleton]at ht;rcases ht with ht|rfl
      ·exact r2 t ht
      ·exact hx1
     ·rw[List.map_append,List.map_append,List.nodup_append];refine⟨r3,by simp,?_⟩;intro x hx y hy e;simp only[List.map_cons,List.map_nil,List.mem_singleton]at hy;have hi9:x=i:=by rw[e,hy];rfl
      rw[hi9,HLL.out]at hx;have h9:=z7s hx;have h8:idxI L i=ix:=HIX.out;omega
    have HN5:Hid (_∧_):=And.intro hn5 hlo5;have hFlo:∀k∈blk (.slice a1 ps.length c1),w.heap.size≤k:=fun k hk=>HN.out.2 k (by simp only[Kind.fp,List.mem_append];exact Or.inl hk)
    have hg8:=z0g (z0c hg (hbA.mono hsz6)) hou hFlo;have hS8:=(hS.below hbA).out hou (fun hk=>by have:=hFlo b hk;omega) (fun k hk=>by have:=hFlo k hk;omega);have hl5:(ps++[(⟨i,s,q,.slice a xs.length c,xs⟩:TxnQ)]).length=ps.length+1:=by simp
    have HL5:Hid ((ps++[(⟨i,s,q,.slice a xs.length c,xs⟩:TxnQ)]).length=ps.length+1):=hl5;clear hl5 hn5 hlo5 hR hR2 oA oA2 hown hgrow hat hnil hou hbA hg hS hrow0 Bt gA HF hFlo;generalize ps++[(⟨i,s,q,.slice a xs.length c,xs⟩:TxnQ)]=ps' at*
    go_wp2
    go_roundw
    case rel=>exact⟨j-1,ps',by go_num,by omega,by have:=HL5.out;omega,HP5,hO5,HN5,hS8.mono (by omega),hg8⟩
    case measure=>simp[intOf];omega
   ·have HP6:Hid (RB (j-1) ps):=by
     obtain⟨r1,r2,r3,r4⟩:=HP.out;refine⟨r1,r2,r3,Or.inr ?_⟩
     cases ps with
     |nil=>
      have hL0:L=[]:=by rw[←HLL.out];rfl
      have h8:idxI L i=ix:=HIX.out;rw[hL0,z6l (by simp)]at h8;omega
     |cons p r=>simp
    clear Bt oA gA HF
    go_wp2
    go_roundw
    case rel=>exact⟨j-1,ps,by go_num,by omega,by omega,HP6,hR,HN,hS.mono (by omega),hg⟩
    case measure=>simp[intOf];omega
  ·go_wp2
   go_ret;have hj0:j=0:=by omega
   obtain⟨r1,r2,r3,r4⟩:=HP.out;exact⟨_,ps,rfl,q0n r2 r3 (by omega) (by omega),by omega,r1,hR,HN.out.1,HN.out.2,hS.mono (by omega),hg⟩
end Go.Proofs.YtfpponhjhbfbeaaGreatDoor
