import Derived.Test.YtjjoahhnkpjolaaGreatDoorONBK
import Derived.Test.YtjjoahhnkpjolaaGreatDoorONAX
set_option linter.unusedVariables false
set_option linter.unusedSimpArgs false
set_option maxRecDepth 100000
set_option maxHeartbeats 16000000
namespace Go.Proofs.YtjjoahhnkpjolaaGreatDoor
open Go.RowKit Go.BigFrame
open List renaming mem_append_right->P,mem_singleton->j
open Blk renaming new->s
open Out renaming of_below->i
open IntKind renaming i64->Q
open Value renaming int->R,slice->G
open Go.Proofs.Tryz renaming prog->H
open Go.Proofs.Tryz
def q4u:CluQ:=⟨G none 0 0,[],G none 0 0,[]⟩
theorem q4v(w:World):cluK.own w q4u∧cluK.foot q4u=[]:=by
 obtain⟨h1,h2⟩:=Kind.own_nil (K:=instK) w;obtain⟨h3,h4⟩:=Kind.own_nil (K:=nodeK) w;exact⟨⟨h1,h3⟩,by show instK.fp (G none 0 0) []++nodeK.fp (G none 0 0) []=_;rw[h2,h4];rfl⟩
theorem z1i(w:World)(B:Nat):cluK.own w q4u∧(cluK.foot q4u).Nodup∧∀k∈cluK.foot q4u,B≤k:=by
 obtain⟨h1,h2⟩:=q4v w;exact⟨h1,by rw[h2];simp,by rw[h2];simp⟩
theorem z6Z(D:Int)(w:World):
  Calls H 29 #[R Q D] w fun e w'=>e=.returned (.agg #[R Q D,R Q 0,G none 0 0,G none 0 0])∧Below w.heap.size w w':=by
 have Rb:=s w 36 #[R Q 0,R Q 0,G none 0 0,G none 0 0];have b0:Below w.heap.size w (w.alloc (.cells #[R Q 0,R Q 0,G none 0 0,G none 0 0] 36)):=by go_grown
 go_enter func29,ntmps29;have Rr:=Rb.row #[R Q D,R Q 0,G none 0 0,G none 0 0];have U:=z0x (w.alloc (.cells #[R Q 0,R Q 0,G none 0 0,G none 0 0] 36)) (w.heap.size) #[R Q D,R Q 0,G none 0 0,G none 0 0];have b3:=Out.keep b0 U b0.size (fun k hk=>by simp only[j]at hk;omega);have hsr:(H.info? 36).map (·.size)=some (#[R Q D,R Q 0,G none 0 0,G none 0 0]:Array Value).size:=by kernel_rfl
 go_wp2_with (refine z0A (by kernel_rfl) 36 _ _ rfl _ #[R Q D,R Q 0,G none 0 0,G none 0 0] rfl rfl 36 _ Rb hsr rfl (by simp[Value.oneCell']) ?_)
 obtain⟨r0,r1,r2,r3⟩:=Rr.cel4;exact bodyPost_ret (v:=.agg #[R Q D,R Q 0,G none 0 0,G none 0 0]) (by simp[results,results29,go_sem,r0,r1,r2,r3]) rfl ⟨rfl,b3⟩
theorem z93(b:Nat)(p:CluQ)(w:World)(hB:Blk w b 31 #[p.vo,p.vm])(h:cluK.own w p)(hz:cluF p.e=0)(hl:p.n≤1048576):
  Calls H 30 #[.pointer (some ⟨b,0,none⟩)] w fun e w'=>∃q:CluQ,e=.returned (.agg #[R Q (opnC p.e),R Q 0,q.vo,q.vm])∧q.e=opnE p.e∧cluK.own w' q∧(cluK.foot q).Nodup∧(∀k∈cluK.foot q,w.heap.size≤k)∧Below w.heap.size w w':=by
 have af:p.ord.length+nmL InstQ.n p.ord≤1048576:=by unfold CluQ.n at hl;omega
 have ag:ordF (p.ord.map InstQ.e)=0:=(z3e hz).1;have X:=fun w h=>q1q p.vo p.ord w h af ag
 have A:=fun w h=>z92 p w h hz hl
 have Z:=fun(w':World) (hb:Below w.heap.size w w')=>cluK.own_out (F:=[]) (w':=w') h (i hb) (fun _ _=>by simp)
 have J:niC p.e.ord≠0→opnC p.e=niC p.e.ord∧opnE p.e=⟨[],[]⟩:=fun h1=>q3s hz h1
 have L:niC p.e.ord=0→opnC p.e=0∧opnE p.e=⟨niO p.e.ord,p.e.mem⟩:=fun h1=>q3t hz h1
 have Y:p.e.ord=p.ord.map InstQ.e:=rfl;have ah:p.e.mem=p.mem.map NodeQ.e:=rfl;have ae:CluQ.e p=⟨p.ord.map InstQ.e,p.mem.map NodeQ.e⟩:=rfl;rw[Y]at J;rw[Y,ah]at L;rw[ae]at A;generalize opnC p.e=D at*;generalize opnE p.e=E at*;clear Y ah ag hz hl af ae;obtain⟨vo,ab,vm,ai⟩:=p;obtain⟨a0,k0,rfl⟩:∃a c,vo=G a ab.length c:=h.1.shape;obtain⟨a1,k1,rfl⟩:∃a c,vm=G a ai.length c:=h.2.shape;dsimp only at X A Z J L hB;generalize niC (ab.map InstQ.e)=C at*;generalize niO (ab.map InstQ.e)=O at*;have N:Hid _:=J;have T:Hid _:=L;have ad:Hid _:=X;have M:Hid _:=A;have V:Hid _:=Z;clear J L X A Z;have am:=hB.lt;have Rb:=s w 36 #[R Q 0,R Q 0,G none 0 0,G none 0 0];have b0:Below w.heap.size w (w.alloc (.cells #[R Q 0,R Q 0,G none 0 0,G none 0 0] 36)):=by go_grown
 have A0:=hB.below b0;have c0:=A0.cell 0 _ rfl;go_enter func30,ntmps30
 go_wp2_with fail
 clear c0;generalize w.alloc (.cells #[R Q 0,R Q 0,G none 0 0,G none 0 0] 36)=W at*;refine(ad.out W (h.1.at.below b0)).mono ?_;rintro e w1 ⟨v',qs,rfl,eq,oq,nq,gq,hb⟩;have an:=hb.size;have I:=oq.lt;have al:=Rb.lt;replace A0:=A0.below hb;replace Rb:=Rb.below hb;replace b0:=b0.trans (hb.mono b0.size);clear hb ad;obtain⟨xa,xc,rfl⟩:=oq.shape;by_cases hC:C=0
 case neg=>
  have ak:(C !=0)=true:=by simpa using hC
  have HE:=N.out hC;have z:Hid (D=C∧E=⟨[],[]⟩):=HE;clear HE N T M V oq nq gq I eq hC
  go_wp2_with fail
  refine(z6Z C w1).mono ?_;rintro e w2 ⟨rfl,hb⟩;replace Rb:=Rb.below hb;replace b0:=b0.trans (hb.mono b0.size);clear hb;have Rr:=Rb.row #[R Q C,R Q 0,G none 0 0,G none 0 0];have U:=z0x (w2) (w.heap.size) #[R Q C,R Q 0,G none 0 0,G none 0 0];have b3:=Out.keep b0 U b0.size (fun k hk=>by simp only[j]at hk;omega);have aa:(H.info? 36).map (·.size)=some (#[R Q C,R Q 0,G none 0 0,G none 0 0]:Array Value).size:=by kernel_rfl
  go_wp2_with (refine z0A (by kernel_rfl) 36 _ _ rfl _ #[R Q C,R Q 0,G none 0 0,G none 0 0] rfl rfl 36 _ Rb aa rfl (by simp[Value.oneCell']) ?_)
  obtain⟨r0,r1,r2,r3⟩:=Rr.cel4;exact bodyPost_ret (v:=.agg #[R Q C,R Q 0,G none 0 0,G none 0 0]) (by simp[results,results30,go_sem,r0,r1,r2,r3]) rfl ⟨q4u,by first|(rw[z.out.1];done)|(rw[z.out.1];rfl),by first|(rw[z.out.2];done)|(rw[z.out.2];rfl),(z1i _ 0).1,(z1i w 0).2.1,(z1i w w.heap.size).2.2,b3⟩
 subst hC;have ak:((0:Int) !=0)=false:=by decide
 have z:Hid (D=0∧E=⟨O,ai.map NodeQ.e⟩):=T.out rfl;clear N T;obtain⟨c0,c1⟩:=A0.cel2
 go_wp2_with fail
 clear c0 c1;refine(M.out w1 (V.out w1 b0)).mono ?_;rintro e w2 ⟨q2,rfl,e2,o2,n2,g2,hb⟩;have ao:=hb.size;replace oq:=oq.below hb;replace Rb:=Rb.below hb;replace b0:=b0.trans (hb.mono b0.size);clear hb M V A0;obtain⟨wo,aj,wm,d⟩:=q2;obtain⟨ya,yc,rfl⟩:∃a c,wo=G a aj.length c:=o2.1.shape;obtain⟨za,zc,rfl⟩:∃a c,wm=G a d.length c:=o2.2.shape;have l2:=o2.2.lt;have HQ:Hid (CluQ.e (⟨G xa qs.length xc,qs,G za d.length zc,d⟩:CluQ)=E∧(cluK.foot (⟨G xa qs.length xc,qs,G za d.length zc,d⟩:CluQ)).Nodup∧(∀k∈cluK.foot (⟨G xa qs.length xc,qs,G za d.length zc,d⟩:CluQ),w.heap.size<k∧k<w2.heap.size)):=by
  refine⟨?_,?_,fun k hk=>?_⟩
  ·rw[z.out.2];simp only[CluQ.e,CluE.mk.injEq]at e2⊢;exact⟨eq,e2.2⟩
  ·refine List.nodup_append.2 ⟨nq,(List.nodup_append.1 n2).2.1,fun x hx y hy e=>?_⟩;have:=I x hx;have:=g2 y (P _ hy);omega
  ·rcases List.mem_append.1 hk with hk|hk
   ·have:=gq k hk;have:=I k hk;omega
   ·have:=g2 k (P _ hk);have:=l2 k hk;omega
 have om:=o2.2;clear e2 o2 n2 g2 l2 eq nq gq I;have Bx:=s w2 31 #[G xa qs.length xc,G za d.length zc];have hX:Below w2.heap.size w2 (w2.alloc (.cells #[G xa qs.length xc,G za d.length zc] 31)):=by go_grown
 replace Rb:=Rb.below hX;replace oq:=oq.below hX;replace om:=om.below hX;replace b0:=b0.trans (hX.mono b0.size);have ap:=hX.size;obtain⟨s0,s1⟩:=Bx.cel2;have Rr:=Rb.row #[R Q 0,R Q 0,G xa qs.length xc,G za d.length zc];have U:=z0x ((w2.alloc (.cells #[G xa qs.length xc,G za d.length zc] 31))) (w.heap.size) #[R Q 0,R Q 0,G xa qs.length xc,G za d.length zc];have b3:=Out.keep b0 U b0.size (fun k hk=>by simp only[j]at hk;omega);have aa:(H.info? 36).map (·.size)=some (#[R Q 0,R Q 0,G xa qs.length xc,G za d.length zc]:Array Value).size:=by kernel_rfl
 replace oq:=oq.out U (fun k hk=>by have:=HQ.out.2.2 k (List.mem_append_left _ hk);simp only[j];omega);replace om:=om.out U (fun k hk=>by have:=HQ.out.2.2 k (P _ hk);simp only[j];omega)
 go_wp2_with (refine z0A (by kernel_rfl) 36 _ _ rfl _ #[R Q 0,R Q 0,G xa qs.length xc,G za d.length zc] rfl rfl 36 _ Rb aa rfl (by simp[Value.oneCell']) ?_)
 obtain⟨r0,r1,r2,r3⟩:=Rr.cel4;exact bodyPost_ret (v:=.agg #[R Q 0,R Q 0,G xa qs.length xc,G za d.length zc]) (by simp[results,results30,go_sem,r0,r1,r2,r3]) rfl ⟨(⟨G xa qs.length xc,qs,G za d.length zc,d⟩:CluQ),by first|(rw[z.out.1];done)|(rw[z.out.1];rfl),HQ.out.1,⟨oq,om⟩,HQ.out.2.1,fun k hk=>by have:=HQ.out.2.2 k hk;omega,b3⟩
theorem z48(p:CluQ)(w:World)(h:cluK.own w p)(hl:p.n≤1048576):
  Calls H 11 #[.agg #[p.vo,p.vm]] w fun e w'=>∃q:CluQ,e=.returned (.agg #[R Q (opnC p.e),R Q 0,q.vo,q.vm])∧q.e=opnE p.e∧cluK.own w' q∧(cluK.foot q).Nodup∧(∀k∈cluK.foot q,w.heap.size≤k)∧Below w.heap.size w w':=by
 have hf:=fun b w hB h=>z84 b p w hB h hl
 have M:=fun b w hB h hz=>z93 b p w hB h hz hl
 have N:=fun(w':World) (hb:Below w.heap.size w w')=>cluK.own_out (F:=[]) (w':=w') h (i hb) (fun _ _=>by simp)
 have V:cluF p.e≠0→opnC p.e=cluF p.e∧opnE p.e=⟨[],[]⟩:=fun h1=>z91 h1
 generalize opnC p.e=D at*;generalize opnE p.e=E at*;generalize cluF p.e=C at*;clear hl;obtain⟨vo,z,vm,y⟩:=p;obtain⟨a0,k0,rfl⟩:∃a c,vo=G a z.length c:=h.1.shape;obtain⟨a1,k1,rfl⟩:∃a c,vm=G a y.length c:=h.2.shape;dsimp only at hf M N;have J:Hid _:=V;have L:Hid _:=M;have HF:Hid _:=hf;have I:Hid _:=N;clear V M hf N;have b0:Below w.heap.size w ((w.alloc (.cells #[G a0 z.length k0,G a1 y.length k1] 31)).alloc (.cells #[R Q 0,R Q 0,G none 0 0,G none 0 0] 36)):=by go_grown
 have A0:=(s w 31 #[G a0 z.length k0,G a1 y.length k1]).below (w':=(w.alloc (.cells #[G a0 z.length k0,G a1 y.length k1] 31)).alloc (.cells #[R Q 0,R Q 0,G none 0 0,G none 0 0] 36)) (by go_grown);have Rb:=s (w.alloc (.cells #[G a0 z.length k0,G a1 y.length k1] 31)) 36 #[R Q 0,R Q 0,G none 0 0,G none 0 0];simp only[World.size_alloc]at Rb;go_enter func11,ntmps11
 go_wp2_with fail
 generalize (w.alloc (.cells #[G a0 z.length k0,G a1 y.length k1] 31)).alloc (.cells #[R Q 0,R Q 0,G none 0 0,G none 0 0] 36)=W at*;refine(HF.out _ W A0 (I.out W b0)).mono ?_;rintro e w1 ⟨rfl,hb⟩;replace A0:=A0.below hb;replace Rb:=Rb.below hb;replace b0:=b0.trans (hb.mono b0.size);clear hb HF;by_cases hC:C=0
 case neg=>
  have X:(C !=0)=true:=by simpa using hC
  have A:Hid (D=C∧E=⟨[],[]⟩):=J.out hC;clear J L I hC A0
  go_wp2_with fail
  refine(z6Z C w1).mono ?_;rintro e w2 ⟨rfl,hb⟩;replace Rb:=Rb.below hb;replace b0:=b0.trans (hb.mono b0.size);clear hb;have Rr:=Rb.row #[R Q C,R Q 0,G none 0 0,G none 0 0];have U:=z0x (w2) (w.heap.size+1) #[R Q C,R Q 0,G none 0 0,G none 0 0];have b3:=Out.keep b0 U b0.size (fun k hk=>by simp only[j]at hk;omega);have O:(H.info? 36).map (·.size)=some (#[R Q C,R Q 0,G none 0 0,G none 0 0]:Array Value).size:=by kernel_rfl
  go_wp2_with (refine z0A (by kernel_rfl) 36 _ _ rfl _ #[R Q C,R Q 0,G none 0 0,G none 0 0] rfl rfl 36 _ Rb O rfl (by simp[Value.oneCell']) ?_)
  obtain⟨r0,r1,r2,r3⟩:=Rr.cel4;exact bodyPost_ret (v:=.agg #[R Q C,R Q 0,G none 0 0,G none 0 0]) (by simp[results,results11,go_sem,r0,r1,r2,r3]) rfl ⟨q4u,by first|(rw[A.out.1];done)|(rw[A.out.1];rfl),by first|(rw[A.out.2];done)|(rw[A.out.2];rfl),(z1i _ 0).1,(z1i w 0).2.1,(z1i w w.heap.size).2.2,b3⟩
 have X:(C !=0)=false:=by simp[hC]
 have T:=L.out _ w1 A0 (I.out w1 b0) hC;clear J L I hC
 go_wp2_with fail
 refine T.mono ?_;rintro e w2 ⟨q2,rfl,e2,o2,n2,g2,hb⟩;have Z:=b0.size;have Y:=Rb.lt;replace Rb:=Rb.below hb;replace b0:=b0.trans (hb.mono b0.size);clear hb A0;obtain⟨wo,x,wm,d⟩:=q2;obtain⟨ya,yc,rfl⟩:∃a c,wo=G a x.length c:=o2.1.shape;obtain⟨za,zc,rfl⟩:∃a c,wm=G a d.length c:=o2.2.shape;have Rr:=Rb.row #[R Q D,R Q 0,G ya x.length yc,G za d.length zc];have U:=z0x (w2) (w.heap.size+1) #[R Q D,R Q 0,G ya x.length yc,G za d.length zc];have b3:=Out.keep b0 U b0.size (fun k hk=>by simp only[j]at hk;omega);have O:(H.info? 36).map (·.size)=some (#[R Q D,R Q 0,G ya x.length yc,G za d.length zc]:Array Value).size:=by kernel_rfl
 replace o2:=cluK.own_out o2 U (fun k hk=>by have:=g2 k hk;simp only[j];omega)
 go_wp2_with (refine z0A (by kernel_rfl) 36 _ _ rfl _ #[R Q D,R Q 0,G ya x.length yc,G za d.length zc] rfl rfl 36 _ Rb O rfl (by simp[Value.oneCell']) ?_)
 obtain⟨r0,r1,r2,r3⟩:=Rr.cel4;exact bodyPost_ret (v:=.agg #[R Q D,R Q 0,G ya x.length yc,G za d.length zc]) (by simp[results,results11,go_sem,r0,r1,r2,r3]) rfl ⟨⟨G ya x.length yc,x,G za d.length zc,d⟩,rfl,e2,o2,n2,fun k hk=>by have:=g2 k hk;omega,b3⟩
theorem z49(p:CluQ)(w:World)(hG:RulO w)(hT:ErrT w)(h:cluK.own w p)(hl:p.n≤1048576):
  Calls H 12 #[.agg #[p.vo,p.vm]] w fun e w'=>∃q:CluQ,e=.returned (.agg #[R Q (opnC p.e),R Q 0,q.vo,q.vm])∧q.e=opnE p.e∧cluK.own w' q∧(cluK.foot q).Nodup∧(∀k∈cluK.foot q,w.heap.size≤k)∧Below w.heap.size w w':=by
 have ad:=fun w hG hT h=>z6z p w hG hT h hl
 have ae:=fun(w':World) (hb:Below w.heap.size w w')=>cluK.own_out (F:=[]) (w':=w') h (i hb) (fun _ _=>by simp)
 have ai:cluF p.e≠0→opnC p.e=cluF p.e∧opnE p.e=⟨[],[]⟩:=fun h1=>z91 h1
 have ak:cluF p.e=0→niC p.e.ord≠0→opnC p.e=niC p.e.ord∧opnE p.e=⟨[],[]⟩:=fun hz h1=>q3s hz h1
 have al:cluF p.e=0→niC p.e.ord=0→opnC p.e=0∧opnE p.e=⟨niO p.e.ord,p.e.mem⟩:=fun hz h1=>q3t hz h1
 have A:=fun(q:CluQ) (hq:q.e=p.e) w hG h=>z3i q.vo q.ord w hG h (by have:=q4p hq;unfold CluQ.n at this hl;omega)
 have af:Hid (∀q:CluQ,q.e=p.e→q.ord.map InstQ.e=p.e.ord∧q.mem.map NodeQ.e=p.e.mem):=fun q hq=>by rw[←hq];exact⟨rfl,rfl⟩
 generalize opnC p.e=D at*;generalize opnE p.e=E at*;generalize cluF p.e=C at*;generalize p.e=pe at*;clear hl;obtain⟨vo,J,vm,I⟩:=p;obtain⟨a0,k0,rfl⟩:∃a c,vo=G a J.length c:=h.1.shape;obtain⟨a1,k1,rfl⟩:∃a c,vm=G a I.length c:=h.2.shape;dsimp only at ad ae;have O:Hid _:=ai;have T:Hid _:=ak;have X:Hid _:=al;have Y:Hid _:=ad;have V:Hid _:=A;have aa:Hid _:=ae;clear ai ak al ad A ae;have b0:Below w.heap.size w ((w.alloc (.cells #[G a0 J.length k0,G a1 I.length k1] 31)).alloc (.cells #[R Q 0,R Q 0,G none 0 0,G none 0 0] 36)):=by go_grown
 have A0:=(s w 31 #[G a0 J.length k0,G a1 I.length k1]).below (w':=(w.alloc (.cells #[G a0 J.length k0,G a1 I.length k1] 31)).alloc (.cells #[R Q 0,R Q 0,G none 0 0,G none 0 0] 36)) (by go_grown);have Rb:=s (w.alloc (.cells #[G a0 J.length k0,G a1 I.length k1] 31)) 36 #[R Q 0,R Q 0,G none 0 0,G none 0 0];simp only[World.size_alloc]at Rb;obtain⟨c0,c1⟩:=A0.cel2;go_enter func12,ntmps12
 go_wp2_with fail
 clear c0 c1;generalize (w.alloc (.cells #[G a0 J.length k0,G a1 I.length k1] 31)).alloc (.cells #[R Q 0,R Q 0,G none 0 0,G none 0 0] 36)=W at*;refine(Y.out W (hG.below b0).r (hT.below b0) (aa.out W b0)).mono ?_;rintro e w1 (⟨hC,rfl,hb⟩|⟨hC,g,q,rfl,Bg,eq,oq,nq,gq,ar,hb⟩)
 ·replace Rb:=Rb.below hb;replace b0:=b0.trans (hb.mono b0.size);have ah:(C !=0)=true:=by simpa using hC
  have z:Hid (D=C∧E=⟨[],[]⟩):=O.out hC;clear O T X Y V aa hC A0 hb;have Rr:=Rb.row #[R Q C,R Q 0,G none 0 0,G none 0 0];have U:=z0x (w1) (w.heap.size+1) #[R Q C,R Q 0,G none 0 0,G none 0 0];have b3:=Out.keep b0 U b0.size (fun k hk=>by simp only[j]at hk;omega);have N:(H.info? 36).map (·.size)=some (#[R Q C,R Q 0,G none 0 0,G none 0 0]:Array Value).size:=by kernel_rfl
  go_wp2_with (refine z0A (by kernel_rfl) 36 _ _ rfl _ #[R Q C,R Q 0,G none 0 0,G none 0 0] rfl rfl 36 _ Rb N rfl (by simp[Value.oneCell']) ?_)
  obtain⟨r0,r1,r2,r3⟩:=Rr.cel4;exact bodyPost_ret (v:=.agg #[R Q C,R Q 0,G none 0 0,G none 0 0]) (by simp[results,results12,go_sem,r0,r1,r2,r3]) rfl ⟨q4u,by first|(rw[z.out.1];done)|(rw[z.out.1];rfl),by first|(rw[z.out.2];done)|(rw[z.out.2];rfl),(z1i _ 0).1,(z1i w 0).2.1,(z1i w w.heap.size).2.2,b3⟩
 have av:=b0.size;have aq:=Rb.lt;replace Rb:=Rb.below hb;have aw:=hb.size;replace b0:=b0.trans (hb.mono b0.size);clear hb O Y aa A0;have ah:(C !=0)=false:=by simp[hC]
 have L:Hid _:=T.out hC;have M:Hid _:=X.out hC;have A:=V.out q eq;have Z:=af.out q eq;rw[Z.1]at A;have ag:Hid (q.mem.map NodeQ.e=pe.mem):=Z.2;clear T X V af Z hC eq;obtain⟨wo,am,wm,d⟩:=q;obtain⟨ya,yc,rfl⟩:∃a c,wo=G a am.length c:=oq.1.shape;obtain⟨za,zc,rfl⟩:∃a c,wm=G a d.length c:=oq.2.shape;dsimp only at A Bg ag;generalize niC pe.ord=NC at*;generalize niO pe.ord=NO at*;have c0:=Bg.cell 0 _ rfl
 go_wp2_with fail
 clear c0 ah;refine(A w1 (hG.below b0) oq.1.at).mono ?_;rintro e w2 ⟨v',qs,rfl,eq,on,nn,gn,hb⟩;obtain⟨xa,xc,rfl⟩:=on.shape;have au:=Bg.lt;have ab:=oq.2.lt;have aj:=on.lt;have ax:=hb.size;have om:=oq.2.below hb;replace Bg:=Bg.below hb;replace Rb:=Rb.below hb;replace b0:=b0.trans (hb.mono b0.size);clear hb A;have HQ:Hid (qs.map InstQ.e=NO∧(cluK.foot (⟨G xa qs.length xc,qs,G za d.length zc,d⟩:CluQ)).Nodup∧∀k∈cluK.foot (⟨G xa qs.length xc,qs,G za d.length zc,d⟩:CluQ),w.heap.size+2≤k∧k<w2.heap.size∧k≠g):=by
  refine⟨eq,?_,fun k hk=>?_⟩
  ·refine List.nodup_append.2 ⟨nn,(List.nodup_append.1 nq).2.1,fun x hx y hy e=>?_⟩;have:=gn x hx;have:=ab y hy;omega
  ·rcases List.mem_append.1 hk with hk|hk
   ·have:=gn k hk;have:=aj k hk;omega
   ·have:=gq k (P _ hk);have:=ab k hk;omega
 clear eq nn gn nq gq ab aj oq;have Bo:=s w2 67 #[R Q NC,G xa qs.length xc];have hX:Below w2.heap.size w2 (w2.alloc (.cells #[R Q NC,G xa qs.length xc] 67)):=by go_grown
 replace Bg:=Bg.below hX;replace Rb:=Rb.below hX;replace on:=on.below hX;replace om:=om.below hX;replace b0:=b0.trans (hX.mono b0.size);have ay:=hX.size;obtain⟨d0,d1⟩:=Bo.cel2;by_cases hN:NC=0
 case neg=>
  have ap:(NC !=0)=true:=by simpa using hN
  have z:Hid (D=NC∧E=⟨[],[]⟩):=L.out hN;clear L M hN HQ on om;have Rr:=Rb.row #[R Q NC,R Q 0,G none 0 0,G none 0 0];have U:=z0x (w2.alloc (.cells #[R Q NC,G xa qs.length xc] 67)) (w.heap.size+1) #[R Q NC,R Q 0,G none 0 0,G none 0 0];have b3:=Out.keep b0 U b0.size (fun k hk=>by simp only[j]at hk;omega);have N:(H.info? 36).map (·.size)=some (#[R Q NC,R Q 0,G none 0 0,G none 0 0]:Array Value).size:=by kernel_rfl
  go_wp2_with (refine z0A (by kernel_rfl) 36 _ _ rfl _ #[R Q NC,R Q 0,G none 0 0,G none 0 0] rfl rfl 36 _ Rb N rfl (by simp[Value.oneCell']) ?_)
  obtain⟨r0,r1,r2,r3⟩:=Rr.cel4;exact bodyPost_ret (v:=.agg #[R Q NC,R Q 0,G none 0 0,G none 0 0]) (by simp[results,results12,go_sem,r0,r1,r2,r3]) rfl ⟨q4u,by first|(rw[z.out.1];done)|(rw[z.out.1];rfl),by first|(rw[z.out.2];done)|(rw[z.out.2];rfl),(z1i _ 0).1,(z1i w 0).2.1,(z1i w w.heap.size).2.2,b3⟩
 subst hN;have ap:((0:Int) !=0)=false:=by decide
 have z:Hid (D=0∧E=⟨NO,pe.mem⟩):=M.out rfl;clear L M hX;have u0:=Bg.cell 0 _ rfl;have u1:=Bg.frozen 0;have an:Blk ((w2.alloc (.cells #[R Q 0,G xa qs.length xc] 67)).setCell ⟨g,0,none⟩ (G xa qs.length xc)) g 31 #[G xa qs.length xc,G za d.length zc]:=Bg.set 0 (G xa qs.length xc);have U1:=Out.setCell (w2.alloc (.cells #[R Q 0,G xa qs.length xc] 67)) g 0 (G xa qs.length xc);replace Rb:=(U1.block _ Rb.lt (by simp only[j];omega)).trans Rb;replace Rb:Blk ((w2.alloc (.cells #[R Q 0,G xa qs.length xc] 67)).setCell ⟨g,0,none⟩ (G xa qs.length xc)) (w.heap.size+1) 36 #[R Q 0,R Q 0,G none 0 0,G none 0 0]:=Rb;replace on:=on.out U1 (fun k hk=>by have:=HQ.out.2.2 k (List.mem_append_left _ hk);simp only[j];omega);replace om:=om.out U1 (fun k hk=>by have:=HQ.out.2.2 k (P _ hk);simp only[j];omega);replace b0:=Out.keep b0 U1 b0.size (fun k hk=>by simp only[j]at hk;omega);obtain⟨s0,s1⟩:=an.cel2;have hE:CluQ.e (⟨G xa qs.length xc,qs,G za d.length zc,d⟩:CluQ)=E:=by
  rw[z.out.2];simp only[CluQ.e,HQ.out.1,ag.out]
 have ao:Hid (CluQ.e (⟨G xa qs.length xc,qs,G za d.length zc,d⟩:CluQ)=E):=hE;clear hE;have Rr:=Rb.row #[R Q 0,R Q 0,G xa qs.length xc,G za d.length zc];have U:=z0x (((w2.alloc (.cells #[R Q 0,G xa qs.length xc] 67)).setCell ⟨g,0,none⟩ (G xa qs.length xc))) (w.heap.size+1) #[R Q 0,R Q 0,G xa qs.length xc,G za d.length zc];have b3:=Out.keep b0 U b0.size (fun k hk=>by simp only[j]at hk;omega);have N:(H.info? 36).map (·.size)=some (#[R Q 0,R Q 0,G xa qs.length xc,G za d.length zc]:Array Value).size:=by kernel_rfl
 replace on:=on.out U (fun k hk=>by have:=HQ.out.2.2 k (List.mem_append_left _ hk);simp only[j];omega);replace om:=om.out U (fun k hk=>by have:=HQ.out.2.2 k (P _ hk);simp only[j];omega)
 go_wp2_with (refine z0A (by kernel_rfl) 36 _ _ rfl _ #[R Q 0,R Q 0,G xa qs.length xc,G za d.length zc] rfl rfl 36 _ Rb N rfl (by simp[Value.oneCell']) ?_)
 obtain⟨r0,r1,r2,r3⟩:=Rr.cel4;exact bodyPost_ret (v:=.agg #[R Q 0,R Q 0,G xa qs.length xc,G za d.length zc]) (by simp[results,results12,go_sem,r0,r1,r2,r3]) rfl ⟨(⟨G xa qs.length xc,qs,G za d.length zc,d⟩:CluQ),by first|(rw[z.out.1];done)|(rw[z.out.1];rfl),ao.out,⟨on,om⟩,HQ.out.2.1,fun k hk=>by have:=HQ.out.2.2 k hk;omega,b3⟩
theorem Blk.outs12{w w':World}{b:Nat}{t:TypeId}{cs:Array Value}{F:List Nat}(h:Blk w b t cs)(hU:Out F w w')(hF:b∉F):Blk w' b t cs:=(hU.block b h.lt hF).trans h
theorem z6A(p:CluQ)(x:CluE)(hx:p.e=x)(w:World)(h:cluK.own w p)(hl:p.n≤1048576):
  Calls H 11 #[.agg #[p.vo,p.vm]] w fun e w'=>∃q:CluQ,e=.returned (.agg #[R Q (opnC x),R Q (0),q.vo,q.vm])∧q.e=opnE x∧cluK.own w' q∧(cluK.foot q).Nodup∧(∀k∈cluK.foot q,w.heap.size≤k)∧Below w.heap.size w w':=by
 subst hx;exact z48 p w h hl
theorem z6B(p:CluQ)(x:CluE)(hx:p.e=x)(w:World)(hG:RulO w)(hT:ErrT w)(h:cluK.own w p)(hl:p.n≤1048576):
  Calls H 12 #[.agg #[p.vo,p.vm]] w fun e w'=>∃q:CluQ,e=.returned (.agg #[R Q (opnC x),R Q (0),q.vo,q.vm])∧q.e=opnE x∧cluK.own w' q∧(cluK.foot q).Nodup∧(∀k∈cluK.foot q,w.heap.size≤k)∧Below w.heap.size w w':=by
 subst hx;exact z49 p w hG hT h hl
theorem q5O(p:CluQ)(w:World)(hG:RulO w)(hT:ErrT w)(hp:cluK.rd w p)(hw:p.wf):
  Calls H 4 #[.agg #[p.vo,p.vm]] w fun e w'=>e=.returned (.bool true)∧Below w.heap.size w w':=by
 have aH:=fun w h=>z9B p 1048576 w h hw (by omega) (by omega)
 have aI:=fun w h hl=>z9C p w h hl
 have aG:=fun a (ha:CluQ.e a=p.e) w h hl=>z6A a _ ha w h hl
 have aD:=fun a (ha:CluQ.e a=p.e) w hG hT h hl=>z6B a _ ha w hG hT h hl
 have aP:∀q:CluQ,q.e=opnE p.e→q.n≤1048576:=fun q hq=>q6R hq
 have aO:∀a:CluQ,a.e=p.e→a.n=p.n:=fun q hq=>q4p hq
 have aM:=fun(a b:CluQ) (ha:a.e=p.e) (hb:b.e=p.e) w h h' hl=>z5E a b w h h' (ha.trans hb.symm) hl
 have av:=fun(w':World) hb=>cluK.rd_below (w':=w') hp hb
 generalize opnE p.e=E at*;generalize aW:(0:Int)=A at aG aD;clear aW;generalize opnC p.e=D at*;generalize a6:p.e=pe at*;generalize a7:p.n=pn at*;obtain⟨vo,ao,vm,an⟩:=p;obtain⟨a0,k0,rfl⟩:∃a c,vo=G a ao.length c:=hp.1.shape;obtain⟨a1,k1,rfl⟩:∃a c,vm=G a an.length c:=hp.2.shape;dsimp only at aH aI av;have b0:Below w.heap.size w (w.alloc (.cells #[G a0 ao.length k0,G a1 an.length k1] 25)):=by go_grown
 have A0:=s w 25 #[G a0 ao.length k0,G a1 an.length k1];have bo:=A0.lt;obtain⟨p0,p1⟩:=A0.cel2;go_enter func4,ntmps4
 go_wp2_with fail
 clear p0 p1;generalize w.alloc (.cells #[G a0 ao.length k0,G a1 an.length k1] 25)=W at*;refine(aH W (av W b0)).mono ?_;rintro e w1 ⟨r,rfl,hr,hb⟩;have bv:=hb.size;replace A0:=A0.below hb;replace b0:=b0.trans (hb.mono b0.size);clear hb;clear aH;by_cases aN:r<0
 ·go_wp2
  go_ret;exact⟨rfl,b0⟩
 have hl:((pn:Nat):Int)+r=1048576:=hr (by omega);clear hr;replace hl:pn≤1048576:=by omega
 have ad:Hid _:=aI;clear aI;have az:Hid _:=aG;clear aG;have ay:Hid _:=aD;clear aD;have ak:Hid _:=aP;clear aP;have aj:Hid _:=aO;clear aO;have aL:Hid _:=aM;clear aM;have ab:Hid _:=av;clear av;clear a6 a7;obtain⟨p0,p1⟩:=A0.cel2
 go_wp2_with fail
 clear p0 p1;clear aN;refine(ad.out _ (ab.out _ b0) hl).mono ?_;rintro e w2 ⟨q1,rfl,e1,o1,_,_,hb⟩;have bw:=hb.size;replace A0:=A0.below hb;replace b0:=b0.trans (hb.mono b0.size);clear hb
 go_wp2_with fail
 refine(az.out q1 e1 _ o1 (by rw[aj.out q1 e1];exact hl)).mono ?_;rintro e w3 ⟨qs,rfl,es,os,ns,gs,hb⟩;have bx:=hb.size;have us:∀k∈cluK.foot qs,w2.heap.size≤k∧k<w3.heap.size:=fun k hk=>⟨gs k hk,cluK.own_lt os k hk⟩
 replace A0:=A0.below hb;replace b0:=b0.trans (hb.mono b0.size);clear hb;clear o1 e1 az gs ns;have bs:CluQ.n qs≤1048576:=ak.out qs es;obtain⟨bh,L,bd,J⟩:=qs;obtain⟨ae,ag,rfl⟩:∃a c,bh=G a L.length c:=os.1.shape;obtain⟨af,ah,rfl⟩:∃a c,bd=G a J.length c:=os.2.shape;have S0:=s w3 36 #[R Q D,R Q A,G ae L.length ag,G af J.length ah];have hb:Below w3.heap.size w3 (w3.alloc (.cells #[R Q D,R Q A,G ae L.length ag,G af J.length ah] 36)):=by go_grown
 replace A0:=A0.below hb;replace os:=cluK.own_out (F:=[]) os (i hb) (fun _ _=>by simp);replace b0:=b0.trans (hb.mono b0.size);clear hb;obtain⟨p0,p1⟩:=A0.cel2
 go_wp2_with fail
 clear p0 p1;generalize w3.alloc (.cells #[R Q D,R Q A,G ae L.length ag,G af J.length ah] 36)=W3 at*;have bp:=S0.lt;refine(ad.out _ (ab.out _ b0) hl).mono ?_;rintro e w4 ⟨q3,rfl,e3,o3,n3,g3,hb⟩;have bz:=hb.size;have u3:∀k∈cluK.foot q3,W3.heap.size≤k∧k<w4.heap.size:=fun k hk=>⟨g3 k hk,cluK.own_lt o3 k hk⟩
 replace A0:=A0.below hb;replace S0:=S0.below hb;replace os:=cluK.own_out (F:=[]) os (i hb) (fun _ _=>by simp);replace b0:=b0.trans (hb.mono b0.size);clear hb;clear g3;have aE:CluQ.n q3≤1048576:=by rw[aj.out q3 e3];exact hl
 have aC:=fun w hG hT h=>ay.out q3 e3 w hG hT h aE
 have aA:=fun q' a8 w h h'=>aL.out q3 q' e3 a8 w h h' aE
 obtain⟨be,z,ba,y⟩:=q3;obtain⟨X,Z,rfl⟩:∃a c,be=G a z.length c:=o3.1.shape;obtain⟨Y,aa,rfl⟩:∃a c,ba=G a y.length c:=o3.2.shape;dsimp only at aC aA;have aK:Hid _:=aC;have aJ:Hid _:=aA;clear aC aA;have X0:=s w4 31 #[G X z.length Z,G Y y.length aa];have hb:Below w4.heap.size w4 (w4.alloc (.cells #[G X z.length Z,G Y y.length aa] 31)):=by go_grown
 replace A0:=A0.below hb;replace S0:=S0.below hb;replace os:=cluK.own_out (F:=[]) os (i hb) (fun _ _=>by simp);replace o3:=cluK.own_out (F:=[]) o3 (i hb) (fun _ _=>by simp);replace b0:=b0.trans (hb.mono b0.size);clear hb;obtain⟨p0,p1⟩:=X0.cel2
 go_wp2_with fail
 clear p0 p1;generalize w4.alloc (.cells #[G X z.length Z,G Y y.length aa] 31)=W4 at*;have bq:=X0.lt;refine(aK.out W4 (hG.below b0) (hT.below b0) o3).mono ?_;rintro e w5 ⟨qi,rfl,ei,oi,ni,gi,hb⟩;have bA:=hb.size;have ui:∀k∈cluK.foot qi,W4.heap.size≤k∧k<w5.heap.size:=fun k hk=>⟨gi k hk,cluK.own_lt oi k hk⟩
 replace A0:=A0.below hb;replace S0:=S0.below hb;replace X0:=X0.below hb;replace os:=cluK.own_out (F:=[]) os (i hb) (fun _ _=>by simp);replace o3:=cluK.own_out (F:=[]) o3 (i hb) (fun _ _=>by simp);replace b0:=b0.trans (hb.mono b0.size);clear hb;clear aK gi;have au:CluQ.n qi≤1048576:=ak.out qi ei;obtain⟨bg,x,bc,d⟩:=qi;obtain⟨M,O,rfl⟩:∃a c,bg=G a x.length c:=oi.1.shape;obtain⟨N,T,rfl⟩:∃a c,bc=G a d.length c:=oi.2.shape;have Y0:=s w5 36 #[R Q D,R Q A,G M x.length O,G N d.length T];have hb:Below w5.heap.size w5 (w5.alloc (.cells #[R Q D,R Q A,G M x.length O,G N d.length T] 36)):=by go_grown
 replace A0:=A0.below hb;replace S0:=S0.below hb;replace X0:=X0.below hb;replace os:=cluK.own_out (F:=[]) os (i hb) (fun _ _=>by simp);replace o3:=cluK.own_out (F:=[]) o3 (i hb) (fun _ _=>by simp);replace oi:=cluK.own_out (F:=[]) oi (i hb) (fun _ _=>by simp);replace b0:=b0.trans (hb.mono b0.size);clear hb;obtain⟨r0,r1,r2,r3⟩:=S0.cel4
 go_wp2_with fail
 clear r0 r1 r2 r3;generalize w5.alloc (.cells #[R Q D,R Q A,G M x.length O,G N d.length T] 36)=W5 at*;have br:=Y0.lt;refine(q2W D A (⟨G M x.length O,x,G N d.length T,d⟩:CluQ) (⟨G ae L.length ag,L,G af J.length ah,J⟩:CluQ) _ (cluK.own_rd oi) (cluK.own_rd os) (ei.trans es.symm) au).mono ?_;rintro e w6 ⟨rfl,hb⟩;replace A0:=A0.below hb;replace S0:=S0.below hb;replace X0:=X0.below hb;replace Y0:=Y0.below hb;replace os:=cluK.own_out (F:=[]) os (i hb) (fun _ _=>by simp);replace o3:=cluK.own_out (F:=[]) o3 (i hb) (fun _ _=>by simp);replace oi:=cluK.own_out (F:=[]) oi (i hb) (fun _ _=>by simp);replace b0:=b0.trans (hb.mono b0.size);clear hb
 go_wp2_with fail
 have hW:Below w6.heap.size w6 w6.drew:=(Below.refl _ _).drew;have a2:Nonempty (Lat w6):=⟨⟨w6,Below.refl _ _⟩⟩
 obtain⟨aQ,aR⟩:=A0.lts2;obtain⟨aS,aT⟩:=X0.lts2;refine z0d (S:=fun w'=>∃u:Lat w6,w'=u.val) (by kernel_rfl) ?_;refine sgr [(0,2)] 3 (by kernel_rfl) ⟨⟨_,hW⟩,rfl⟩ ?_;simp only[pkE];repeat go_big_quiet_step (fail)
 refine wpQuiet_nil ?_;refine cla 2 (some 29) 8 #[.agg #[G a0 ao.length k0,G a1 an.length k1]] 2 (by kernel_rfl) ?_;refine(ad.out _ (ab.out _ (b0.trans (hW.mono b0.size))) hl).mono ?_;rintro e w9 ⟨q9,rfl,e9,o9,_,_,al⟩;replace hW:=hW.trans (al.mono hW.size);clear al;refine⟨_,rfl,⟨⟨_,hW⟩,rfl⟩,?_⟩;simp only[Act.put,pjE];refine cla 3 (some 30) 10 #[.agg #[G X z.length Z,G Y y.length aa],.agg #[q9.vo,q9.vm]] 1 (by kernel_rfl) ?_;refine(aJ.out q9 e9 _ (cluK.rd_below (cluK.own_rd o3) hW) (cluK.own_rd o9)).mono ?_;rintro e w7 ⟨rfl,al⟩;replace hW:=hW.trans (al.mono hW.size);clear al;refine⟨_,rfl,⟨⟨_,hW⟩,rfl⟩,?_⟩;simp only[Act.put,pjE];refine sgr [(4,1)] 0 (by kernel_rfl) ⟨⟨_,hW⟩,rfl⟩ ?_;simp only[pkE];repeat go_big_quiet_step (fail)
 refine wpQuiet_nil ?_;refine z0h (by kernel_rfl) ?_;clear a2 aQ aR aS aT e9 o9 aJ;have bm:=hW.size;replace A0:=A0.below hW;replace S0:=S0.below hW;replace X0:=X0.below hW;replace Y0:=Y0.below hW;replace os:=cluK.own_out (F:=[]) os (i hW) (fun _ _=>by simp);replace o3:=cluK.own_out (F:=[]) o3 (i hW) (fun _ _=>by simp);replace oi:=cluK.own_out (F:=[]) oi (i hW) (fun _ _=>by simp);replace b0:=b0.trans (hW.mono b0.size);clear hW;obtain⟨p0,p1⟩:=X0.cel2
 go_wp2_with fail
 clear p0 p1;have aY:=q0u (⟨G X z.length Z,z,G Y y.length aa,y⟩:CluQ);refine(z31 (⟨G X z.length Z,z,G Y y.length aa,y⟩:CluQ) 1 w7 o3 n3 aE (by omega) (by omega)).mono ?_;rintro e w8 ⟨rfl,_,hU⟩;have bB:=hU.size;have I:∀k,k∈cluK.foot (⟨G X z.length Z,z,G Y y.length aa,y⟩:CluQ)→W3.heap.size≤k∧k<w4.heap.size:=u3;replace A0:=A0.outs12 hU (fun hk=>by have:=I _ hk;omega);replace S0:=S0.outs12 hU (fun hk=>by have:=I _ hk;omega);replace X0:=X0.outs12 hU (fun hk=>by have:=I _ hk;omega);replace Y0:=Y0.outs12 hU (fun hk=>by have:=I _ hk;omega);replace os:=cluK.own_out os hU (fun k hk am=>by have:=I _ am;have:=us k hk;omega);replace oi:=cluK.own_out oi hU (fun k hk am=>by have:=I _ am;have:=ui k hk;omega);replace b0:=Out.keep b0 hU b0.size (fun k hk=>by have:=I _ hk;omega);clear I hU;clear o3;generalize aU:(nmClu (⟨G X z.length Z,z,G Y y.length aa,y⟩:CluQ):Int)=M3 at*;have bj:0≤M3∧M3≤4194304:=by omega
 have bl:¬(1+M3<0):=by omega
 clear aY aU;obtain⟨p0,p1,p2,p3⟩:=Y0.cel4;obtain⟨r0,r1,r2,r3⟩:=S0.cel4
 go_wp2_with fail
 clear p0 p1 p2 p3;clear r0 r1 r2 r3;refine(q2W D A (⟨G M x.length O,x,G N d.length T,d⟩:CluQ) (⟨G ae L.length ag,L,G af J.length ah,J⟩:CluQ) _ (cluK.own_rd oi) (cluK.own_rd os) (ei.trans es.symm) au).mono ?_;rintro e w9 ⟨rfl,hb⟩;replace A0:=A0.below hb;replace S0:=S0.below hb;replace X0:=X0.below hb;replace Y0:=Y0.below hb;replace os:=cluK.own_out (F:=[]) os (i hb) (fun _ _=>by simp);replace oi:=cluK.own_out (F:=[]) oi (i hb) (fun _ _=>by simp);replace b0:=b0.trans (hb.mono b0.size);clear hb;obtain⟨p0,p1,p2,p3⟩:=Y0.cel4
 go_wp2_with fail
 clear p0 p1 p2 p3;have aZ:=q0u (⟨G M x.length O,x,G N d.length T,d⟩:CluQ);refine(q4b D A (⟨G M x.length O,x,G N d.length T,d⟩:CluQ) 1 w9 oi ni au (by omega) (by omega)).mono ?_;rintro e ai ⟨rfl,om,hU⟩;have I:∀k,k∈cluK.foot (⟨G M x.length O,x,G N d.length T,d⟩:CluQ)→W4.heap.size≤k∧k<w5.heap.size:=ui;replace A0:=A0.outs12 hU (fun hk=>by have:=I _ hk;omega);replace S0:=S0.outs12 hU (fun hk=>by have:=I _ hk;omega);replace X0:=X0.outs12 hU (fun hk=>by have:=I _ hk;omega);replace Y0:=Y0.outs12 hU (fun hk=>by have:=I _ hk;omega);replace os:=cluK.own_out os hU (fun k hk am=>by have:=I _ am;have:=us k hk;omega);replace b0:=Out.keep b0 hU b0.size (fun k hk=>by have:=I _ hk;omega);clear I hU;clear oi;have rm:=cluK.own_rd om;clear om;have aF:Hid (∀w',Below ai.heap.size ai w'→cluK.rd w' (mkClu 1 (⟨G M x.length O,x,G N d.length T,d⟩:CluQ))):=fun w' hb=>cluK.rd_below rm hb
 have C:Below ai.heap.size ai ai:=Below.refl _ _;have aB:=fun w h=>q4c D A (⟨G M x.length O,x,G N d.length T,d⟩:CluQ) 1 w h au (by omega) (by omega)
 generalize aV:(nmClu (⟨G M x.length O,x,G N d.length T,d⟩:CluQ):Int)=Mi at*;have bk:0≤Mi∧Mi≤3145728:=by omega
 have bu:¬(1+Mi<0):=by omega
 have bt:((1+Mi) !=(1+Mi))=false:=by simp
 clear aZ aV rm;obtain⟨p0,p1,p2,p3⟩:=Y0.cel4
 go_wp2_with fail
 clear p0 p1 p2 p3;refine(aB ai (aF.out _ C)).mono ?_;rintro e bC ⟨rfl,hb⟩;replace C:=C.trans (hb.mono C.size);replace A0:=A0.below hb;replace S0:=S0.below hb;replace X0:=X0.below hb;replace Y0:=Y0.below hb;replace os:=cluK.own_out (F:=[]) os (i hb) (fun _ _=>by simp);replace b0:=b0.trans (hb.mono b0.size);clear hb;obtain⟨p0,p1⟩:=A0.cel2
 go_wp2_with fail
 clear p0 p1;refine(ad.out _ (ab.out _ b0) hl).mono ?_;rintro e bD ⟨q5,rfl,e5,o5,_,_,hb⟩;replace C:=C.trans (hb.mono C.size);replace A0:=A0.below hb;replace S0:=S0.below hb;replace X0:=X0.below hb;replace Y0:=Y0.below hb;replace os:=cluK.own_out (F:=[]) os (i hb) (fun _ _=>by simp);replace b0:=b0.trans (hb.mono b0.size);clear hb
 go_wp2_with fail
 refine(ay.out q5 e5 _ (hG.below b0) (hT.below b0) o5 (by rw[aj.out q5 e5];exact hl)).mono ?_;rintro e ap ⟨qh,rfl,eh,oh,_,_,hb⟩;replace C:=C.trans (hb.mono C.size);replace A0:=A0.below hb;replace S0:=S0.below hb;replace X0:=X0.below hb;replace Y0:=Y0.below hb;replace os:=cluK.own_out (F:=[]) os (i hb) (fun _ _=>by simp);replace b0:=b0.trans (hb.mono b0.size);clear hb;clear o5 e5;have aX:CluQ.n qh≤1048576:=ak.out qh eh;obtain⟨bf,V,bb,U⟩:=qh;obtain⟨aq,aw,rfl⟩:∃a c,bf=G a V.length c:=oh.1.shape;obtain⟨ar,ax,rfl⟩:∃a c,bb=G a U.length c:=oh.2.shape;have H0:=s ap 36 #[R Q D,R Q A,G aq V.length aw,G ar U.length ax];have hb:Below ap.heap.size ap (ap.alloc (.cells #[R Q D,R Q A,G aq V.length aw,G ar U.length ax] 36)):=by go_grown
 replace C:=C.trans (hb.mono C.size);replace A0:=A0.below hb;replace S0:=S0.below hb;replace X0:=X0.below hb;replace Y0:=Y0.below hb;replace os:=cluK.own_out (F:=[]) os (i hb) (fun _ _=>by simp);replace oh:=cluK.own_out (F:=[]) oh (i hb) (fun _ _=>by simp);replace b0:=b0.trans (hb.mono b0.size);clear hb;obtain⟨r0,r1,r2,r3⟩:=S0.cel4
 go_wp2_with fail
 clear r0 r1 r2 r3;generalize ap.alloc (.cells #[R Q D,R Q A,G aq V.length aw,G ar U.length ax] 36)=bn at*;refine(q2W D A (⟨G aq V.length aw,V,G ar U.length ax,U⟩:CluQ) (⟨G ae L.length ag,L,G af J.length ah,J⟩:CluQ) _ (cluK.own_rd oh) (cluK.own_rd os) (eh.trans es.symm) aX).mono ?_;rintro e bi ⟨rfl,hb⟩;replace C:=C.trans (hb.mono C.size);replace A0:=A0.below hb;replace S0:=S0.below hb;replace X0:=X0.below hb;replace Y0:=Y0.below hb;replace os:=cluK.own_out (F:=[]) os (i hb) (fun _ _=>by simp);replace oh:=cluK.own_out (F:=[]) oh (i hb) (fun _ _=>by simp);replace b0:=b0.trans (hb.mono b0.size);clear hb;clear H0;obtain⟨p0,p1,p2,p3⟩:=Y0.cel4
 go_wp2_with fail
 clear p0 p1 p2 p3;refine(aB bi (aF.out _ C)).mono ?_;rintro e bE ⟨rfl,hb⟩;replace b0:=b0.trans (hb.mono b0.size);clear hb aB aF C S0 Y0 X0 A0 os oh
 go_wp2
 go_ret;exact⟨rfl,b0⟩
end Go.Proofs.YtjjoahhnkpjolaaGreatDoor
