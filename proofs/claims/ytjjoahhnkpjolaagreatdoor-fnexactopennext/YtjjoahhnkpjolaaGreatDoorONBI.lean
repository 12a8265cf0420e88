import Derived.Test.YtjjoahhnkpjolaaGreatDoorONBH
import Derived.Test.YtjjoahhnkpjolaaGreatDoorONAW
set_option linter.unusedVariables false
set_option linter.unusedSimpArgs false
set_option maxRecDepth 100000
set_option maxHeartbeats 8000000
namespace Go.Proofs.YtjjoahhnkpjolaaGreatDoor
open Go.RowKit Go.BigFrame
open IntKind renaming i64->G
open Value renaming int->Q,slice->K
open Go.Proofs.Tryz
theorem q0F{t:TxnD}(h:t.F=0):0<t.acts.length:=(z04 (show txnF t.id t.session t.seq t.acts=0 from h)).1.1
theorem q5N{p:RepQ}(h:repF p.e=0):(∀t∈p.done,0<t.acts.length)∧∀t∈p.tent,0<t.acts.length:=by
 obtain⟨_,_,_,h1,h2,_⟩:=z4e h;exact⟨fun t ht=>q0F (h1 _ (List.mem_map.2 ⟨t,ht,rfl⟩)),fun t ht=>q0F (h2 _ (List.mem_map.2 ⟨t,ht,rfl⟩))⟩
theorem z7V(kn sf:Int)(p:RepQ)(w:World)(hp:repK.own w p)(hl:p.n≤1048576)(ag:(∀t∈p.done,0<t.acts.length)∧∀t∈p.tent,0<t.acts.length):
  Calls Tryz.prog 56 #[.agg #[Q G kn,Q G sf,p.vd,p.vb,p.vt,p.vu,p.vn]] w fun e w'=>∃q:RepQ,e=.returned (.agg #[Q G kn,Q G sf,q.vd,q.vb,q.vt,q.vu,q.vn])∧q.e=p.e∧repK.own w' q∧(repK.foot q).Nodup∧(∀k∈repK.foot q,w.heap.size≤k)∧Below w.heap.size w w':=by
 have aa:=fun w h=>z47 p w h hl ag
 have ab:=fun(w':World) (hb:Below w.heap.size w w')=>repK.own_out (F:=[]) (w':=w') hp (Out.of_below hb) (fun _ _=>by simp)
 clear ag hl;generalize p.e=PE at*;obtain⟨vd,done,vb,base,vt,Y,vu,D,vn,Z⟩:=p;obtain⟨a0,k0,rfl⟩:∃a c,vd=K a done.length c:=hp.1.shape;obtain⟨a1,k1,rfl⟩:∃a c,vb=K a base.length c:=hp.2.1.shape;obtain⟨a2,k2,rfl⟩:∃a c,vt=K a Y.length c:=hp.2.2.1.shape;obtain⟨a3,k3,rfl⟩:∃a c,vu=K a D.length c:=hp.2.2.2.1.shape;obtain⟨a4,k4,rfl⟩:∃a c,vn=K a Z.length c:=hp.2.2.2.2.shape;dsimp only at aa ab;have ad:Hid _:=aa;have ae:Hid _:=ab;clear aa ab hp;have b0:Below w.heap.size w ((w.alloc (.cells #[Q G kn,Q G sf,K a0 done.length k0,K a1 base.length k1,K a2 Y.length k2,K a3 D.length k3,K a4 Z.length k4] 58)).alloc (.cells #[Q G 0,Q G 0,K none 0 0,K none 0 0,K none 0 0,K none 0 0,K none 0 0] 58)):=by go_grown
 have A:=(Blk.new w 58 #[Q G kn,Q G sf,K a0 done.length k0,K a1 base.length k1,K a2 Y.length k2,K a3 D.length k3,K a4 Z.length k4]).below (w':=(w.alloc (.cells #[Q G kn,Q G sf,K a0 done.length k0,K a1 base.length k1,K a2 Y.length k2,K a3 D.length k3,K a4 Z.length k4] 58)).alloc (.cells #[Q G 0,Q G 0,K none 0 0,K none 0 0,K none 0 0,K none 0 0,K none 0 0] 58)) (by go_grown);have R:=Blk.new (w.alloc (.cells #[Q G kn,Q G sf,K a0 done.length k0,K a1 base.length k1,K a2 Y.length k2,K a3 D.length k3,K a4 Z.length k4] 58)) 58 #[Q G 0,Q G 0,K none 0 0,K none 0 0,K none 0 0,K none 0 0,K none 0 0];simp only[World.size_alloc]at R;obtain⟨p0,p1,p2,p3,p4,p5,p6⟩:=A.cel7;go_enter func56,ntmps56
 go_wp2_with fail
 clear p0 p1 p2 p3 p4 p5 p6;generalize (w.alloc (.cells #[Q G kn,Q G sf,K a0 done.length k0,K a1 base.length k1,K a2 Y.length k2,K a3 D.length k3,K a4 Z.length k4] 58)).alloc (.cells #[Q G 0,Q G 0,K none 0 0,K none 0 0,K none 0 0,K none 0 0,K none 0 0] 58)=W at*;have aq:=R.lt;refine(ad.out W (ae.out W b0)).mono ?_;rintro e w1 ⟨q9,rfl,E0,O0,N0,G0,hb⟩;replace A:=A.below hb;replace R:=R.below hb;replace b0:=b0.trans (hb.mono b0.size);clear hb ad ae;obtain⟨am,y,al,x,ao,z,ap,d,an,C⟩:=q9;obtain⟨E,N,rfl⟩:∃a c,am=K a y.length c:=O0.1.shape;obtain⟨I,O,rfl⟩:∃a c,al=K a x.length c:=O0.2.1.shape;obtain⟨J,T,rfl⟩:∃a c,ao=K a z.length c:=O0.2.2.1.shape;obtain⟨L,U,rfl⟩:∃a c,ap=K a d.length c:=O0.2.2.2.1.shape;obtain⟨M,X,rfl⟩:∃a c,an=K a C.length c:=O0.2.2.2.2.shape;have U1:=q0l w1 w.heap.size (K E y.length N) (K I x.length O) (K J z.length T) (K L d.length U) (K M C.length X);have A2:=A.mid5 (K E y.length N) (K I x.length O) (K J z.length T) (K L d.length U) (K M C.length X);have R2:Blk _ _ _ _:=(U1.block _ R.lt (by simp)).trans R;have OW:=repK.own_out O0 U1 (fun k hk=>by have:=G0 k hk;simp;omega);have af:=Out.keep b0 U1 b0.size (fun k hk=>by simp at hk;omega);have ak:(Tryz.prog.info? 56).map (·.size)=some (#[K E y.length N,K I x.length O,K J z.length T,K L d.length U,K M C.length X]:Array Value).size:=by kernel_rfl
 have aj:(Tryz.prog.info? 58).map (·.size)=some (#[Q G kn,Q G sf,K E y.length N,K I x.length O,K J z.length T,K L d.length U,K M C.length X]:Array Value).size:=by kernel_rfl
 generalize hV:w1.setCells w.heap.size 2 [K E y.length N,K I x.length O,K J z.length T,K L d.length U,K M C.length X]=V at*;have R3:=R2.row #[Q G kn,Q G sf,K E y.length N,K I x.length O,K J z.length T,K L d.length U,K M C.length X];have U3:=z5D V (w.heap.size+1) #[Q G kn,Q G sf,K E y.length N,K I x.length O,K J z.length T,K L d.length U,K M C.length X];have ah:=repK.own_out OW U3 (fun k hk=>by have:=G0 k hk;simp;omega);have ai:=Out.keep af U3 af.size (fun k hk=>by simp at hk;omega);obtain⟨q0,q1,q2,q3,q4,q5,q6⟩:=A2.cel7
 go_wp2_with (first|(refine q4E (by kernel_rfl) 56 _ _ rfl _ 2 #[K E y.length N,K I x.length O,K J z.length T,K L d.length U,K M C.length X] rfl rfl 58 _ A ak (by simp) (by simp[Value.oneCell']) ?_;(try dsimp only);rw[hV])|(refine z0A (by kernel_rfl) 58 _ _ rfl _ #[Q G kn,Q G sf,K E y.length N,K I x.length O,K J z.length T,K L d.length U,K M C.length X] rfl rfl 58 _ R2 aj rfl (by simp[Value.oneCell']) ?_))
 obtain⟨r0,r1,r2,r3,r4,r5,r6⟩:=R3.cel7;exact bodyPost_ret (v:=.agg #[Q G kn,Q G sf,K E y.length N,K I x.length O,K J z.length T,K L d.length U,K M C.length X]) (by simp[results,results56,go_sem,r0,r1,r2,r3,r4,r5,r6]) rfl ⟨_,rfl,E0,ah,N0,fun k hk=>by have:=G0 k hk;omega,ai⟩
theorem q4L{r:RepE}(h:repF r=0):mkR r.done r.tent=r:=by
 obtain⟨h1,h2,h3,_⟩:=z4e h;obtain⟨d,b,t,u,n⟩:=r;dsimp only at h1 h2 h3;unfold mkR;dsimp only;rw[←h1,←h2,←h3]
theorem z90(kn sf:Int)(p:RepQ)(w:World)(h:repK.own w p)(hF:repF p.e=0):
  Calls Tryz.prog 95 #[.agg #[Q G kn,Q G sf,p.vd,p.vb,p.vt,p.vu,p.vn]] w fun e w'=>∃q:RepQ,e=.returned (.agg #[Q G kn,Q G sf,q.vd,q.vb,q.vt,q.vu,q.vn])∧q.e=p.e∧repK.own w' q∧(repK.foot q).Nodup∧(∀k∈repK.foot q,w.heap.size≤k)∧Below w.heap.size w w':=by
 have I:=z4e hF;have hz:=(z7R hF).1;have aa:Hid (mkR (p.done.map TxnQ.e) (p.tent.map TxnQ.e)=p.e):=q4L hF;have ab:=fun w h1 h2=>z6X p.vd p.vt p.done p.tent w h1 h2 (fun t ht=>I.2.2.2.1 _ (List.mem_map.2 ⟨t,ht,rfl⟩)) (fun t ht=>I.2.2.2.2.1 _ (List.mem_map.2 ⟨t,ht,rfl⟩)) (by have:=hz.1;simp[RepQ.e]at this;omega) (by have:=hz.2;simp[RepQ.e]at this;omega)
 rw[aa.out]at ab;have ad:=fun(w':World) (hb:Below w.heap.size w w')=>repK.own_out (F:=[]) (w':=w') h (Out.of_below hb) (fun _ _=>by simp)
 generalize p.e=PE at*;clear I hz hF aa;obtain⟨vd,done,vb,base,vt,A,vu,x,vn,E⟩:=p;obtain⟨a0,k0,rfl⟩:∃a c,vd=K a done.length c:=h.1.shape;obtain⟨a1,k1,rfl⟩:∃a c,vb=K a base.length c:=h.2.1.shape;obtain⟨a2,k2,rfl⟩:∃a c,vt=K a A.length c:=h.2.2.1.shape;obtain⟨a3,k3,rfl⟩:∃a c,vu=K a x.length c:=h.2.2.2.1.shape;obtain⟨a4,k4,rfl⟩:∃a c,vn=K a E.length c:=h.2.2.2.2.shape;dsimp only at ab ad;have aa:Hid _:=ab;have ae:Hid _:=ad;clear ab ad h;have hX:Below w.heap.size w (w.alloc (.cells #[Q G kn,Q G sf,K a0 done.length k0,K a1 base.length k1,K a2 A.length k2,K a3 x.length k3,K a4 E.length k4] 58)):=by go_grown
 have A0:=Blk.new w 58 #[Q G kn,Q G sf,K a0 done.length k0,K a1 base.length k1,K a2 A.length k2,K a3 x.length k3,K a4 E.length k4];have RB:=Blk.new (w.alloc (.cells #[Q G kn,Q G sf,K a0 done.length k0,K a1 base.length k1,K a2 A.length k2,K a3 x.length k3,K a4 E.length k4] 58)) 58 #[Q G 0,Q G 0,K none 0 0,K none 0 0,K none 0 0,K none 0 0,K none 0 0];have hW:Below (w.alloc (.cells #[Q G kn,Q G sf,K a0 done.length k0,K a1 base.length k1,K a2 A.length k2,K a3 x.length k3,K a4 E.length k4] 58)).heap.size (w.alloc (.cells #[Q G kn,Q G sf,K a0 done.length k0,K a1 base.length k1,K a2 A.length k2,K a3 x.length k3,K a4 E.length k4] 58)) ((w.alloc (.cells #[Q G kn,Q G sf,K a0 done.length k0,K a1 base.length k1,K a2 A.length k2,K a3 x.length k3,K a4 E.length k4] 58)).alloc (.cells #[Q G 0,Q G 0,K none 0 0,K none 0 0,K none 0 0,K none 0 0,K none 0 0] 58)):=(Below.refl _ _).alloc (Nat.le_refl _) _;have af:Hid ((w.alloc (.cells #[Q G kn,Q G sf,K a0 done.length k0,K a1 base.length k1,K a2 A.length k2,K a3 x.length k3,K a4 E.length k4] 58)).heap.size=w.heap.size+1):=World.size_alloc _ _;simp only[World.size_alloc]at RB;have b0:Below w.heap.size w ((w.alloc (.cells #[Q G kn,Q G sf,K a0 done.length k0,K a1 base.length k1,K a2 A.length k2,K a3 x.length k3,K a4 E.length k4] 58)).alloc (.cells #[Q G 0,Q G 0,K none 0 0,K none 0 0,K none 0 0,K none 0 0,K none 0 0] 58)):=by go_grown
 obtain⟨c0,c1,c2,c3,c4,c5,c6⟩:=A0.lts7;go_enter func95,ntmps95
 go_wp2_with fail
 generalize an:w.alloc (.cells #[Q G kn,Q G sf,K a0 done.length k0,K a1 base.length k1,K a2 A.length k2,K a3 x.length k3,K a4 E.length k4] 58)=X at*;have ap:Nonempty (Lat X):=⟨⟨X,Below.refl _ _⟩⟩
 generalize ao:X.alloc (.cells #[Q G 0,Q G 0,K none 0 0,K none 0 0,K none 0 0,K none 0 0,K none 0 0] 58)=Y at*;replace RB:Blk Y.drew _ _ _:=RB;replace hW:Below X.heap.size X Y.drew:=hW.drew;replace b0:Below w.heap.size w Y.drew:=b0.drew;refine z0d (S:=fun w'=>∃u:Lat X,w'=u.val) (by kernel_rfl) ?_;refine sgr [(0,10)] 3 (by kernel_rfl) ⟨⟨_,hW⟩,rfl⟩ ?_;simp only[pkE];repeat go_big_quiet_step (fail)
 refine wpQuiet_nil ?_;clear c0 c1 c2 c3 c4 c5 c6;generalize Y.drew=wd at*;refine cla 10 (some 13) 117 #[K a0 done.length k0,K a2 A.length k2] 2 (by kernel_rfl) ?_;refine(aa.out wd (ae.out wd b0).1.at (ae.out wd b0).2.2.1.at).mono ?_;rintro e w3 ⟨q9,rfl,e9,o9,n9,g9,hb⟩;have am:=RB.lt;replace RB:=RB.below hb;have aq:=b0.size;replace hW:=hW.trans (hb.mono hW.size);replace b0:=b0.trans (hb.mono b0.size);have HQ:Hid (q9.e=PE∧(repK.foot q9).Nodup∧∀k∈repK.foot q9,w.heap.size≤k∧k≠w.heap.size+1):=⟨e9,n9,fun k hk=>by have:=g9 k hk;omega⟩
 clear hb g9 e9 n9;obtain⟨ai,z,ah,y,ak,C,al,d,aj,D⟩:=q9;obtain⟨J,T,rfl⟩:∃a c,ai=K a z.length c:=o9.1.shape;obtain⟨L,U,rfl⟩:∃a c,ah=K a y.length c:=o9.2.1.shape;obtain⟨M,V,rfl⟩:∃a c,ak=K a C.length c:=o9.2.2.1.shape;obtain⟨N,W,rfl⟩:∃a c,al=K a d.length c:=o9.2.2.2.1.shape;obtain⟨O,Z,rfl⟩:∃a c,aj=K a D.length c:=o9.2.2.2.2.shape;refine⟨_,rfl,⟨⟨_,hW⟩,rfl⟩,?_⟩;simp only[Act.put,pgE,pjE];refine sgr [(11,1)] 1 (by kernel_rfl) ⟨⟨_,hW⟩,rfl⟩ ?_;simp only[pkE];repeat go_big_quiet_step (fail)
 refine wpQuiet_nil ?_;refine ona 12 0 rfl (by kernel_rfl) ?_;have Rz:=RB.row #[Q G kn,Q G sf,K J z.length T,K L y.length U,K M C.length V,K N d.length W,K O D.length Z];have oz:=repK.own_out o9 (z5D _ (w.heap.size+1) #[Q G kn,Q G sf,K J z.length T,K L y.length U,K M C.length V,K N d.length W,K O D.length Z]) (fun k hk=>by have:=HQ.out.2.2 k hk;simp;omega);replace hW:=z0o (g:=w.heap.size+1) hW (by rw[af.out];exact Nat.le_refl _) #[Q G kn,Q G sf,K J z.length T,K L y.length U,K M C.length V,K N d.length W,K O D.length Z];replace b0:=z0o (g:=w.heap.size+1) b0 (by omega) #[Q G kn,Q G sf,K J z.length T,K L y.length U,K M C.length V,K N d.length W,K O D.length Z];have ag:(Tryz.prog.info? 58).map (·.size)=some (#[Q G kn,Q G sf,K J z.length T,K L y.length U,K M C.length V,K N d.length W,K O D.length Z]:Array Value).size:=by kernel_rfl
 refine z0A (by kernel_rfl) 58 _ _ rfl _ #[Q G kn,Q G sf,K J z.length T,K L y.length U,K M C.length V,K N d.length W,K O D.length Z] rfl rfl 58 _ RB ag rfl (by simp[Value.oneCell']) ?_;refine ThenGo.to ⟨⟨⟨_,hW⟩,rfl⟩,?_⟩;refine z0h (by kernel_rfl) ?_;obtain⟨r0,r1,r2,r3,r4,r5,r6⟩:=Rz.cel7
 go_wp2
 exact bodyPost_ret (v:=.agg #[Q G kn,Q G sf,K J z.length T,K L y.length U,K M C.length V,K N d.length W,K O D.length Z]) (by simp[results,results95,go_sem,r0,r1,r2,r3,r4,r5,r6]) rfl ⟨_,rfl,HQ.out.1,oz,HQ.out.2.1,fun k hk=>(HQ.out.2.2 k hk).1,b0⟩
theorem q0G{ds:List InstE}:∀ {ns:List NodeE},z2u ds ns=0→∀n∈ns,nodF ds n.kn n.sf n.rep=0
 |[],_,n,hn=>by simp at hn
 |m::r,h,n,hn=>by
  unfold z2u at h;by_cases h0:nodF ds m.kn m.sf m.rep=0
  ·rw[if_pos h0]at h;rcases List.mem_cons.1 hn with e|hn
   ·rw[e];exact h0
   ·exact q0G h n hn
  ·rw[if_neg h0]at h;exact absurd h h0
theorem z3e{c:CluE}(h:cluF c=0):ordF c.ord=0∧c.mem.length=3∧∀n∈c.mem,nodF c.ord n.kn n.sf n.rep=0:=by
 unfold cluF at h;by_cases h0:ordF c.ord=0
 ·rw[if_pos h0]at h;by_cases h3:c.mem.length=3
  ·rw[if_pos h3]at h;exact⟨h0,h3,q0G h⟩
  ·rw[if_neg h3]at h;exact absurd h (by decide)
 ·rw[if_neg h0]at h;exact absurd h h0
theorem q1H{q:NodeQ}{ds:List InstE}(h:nodF ds q.e.kn q.e.sf q.e.rep=0):q.n≤1000:=by
 obtain⟨_,_,_,h3,_⟩:=z7U h;obtain⟨_,_,_,h4,h5,_,_,_,_,h6,h7⟩:=z4e h3;exact z7S (q4L h3).symm h4 h5 (by omega) (by omega)
def opnC(c:CluE):Int:=if cluF c=0 then niC c.ord else cluF c
def opnE(c:CluE):CluE:=if opnC c=0 then⟨niO c.ord,c.mem⟩else⟨[],[]⟩
theorem z91{c:CluE}(h:cluF c≠0):opnC c=cluF c∧opnE c=⟨[],[]⟩:=by
 have e:opnC c=cluF c:=if_neg h;refine⟨e,?_⟩;unfold opnE;rw[e,if_neg h]
theorem q3s{c:CluE}(h:cluF c=0)(h1:niC c.ord≠0):opnC c=niC c.ord∧opnE c=⟨[],[]⟩:=by
 have e:opnC c=niC c.ord:=if_pos h;refine⟨e,?_⟩;unfold opnE;rw[e,if_neg h1]
theorem q3t{c:CluE}(h:cluF c=0)(h1:niC c.ord=0):opnC c=0∧opnE c=⟨niO c.ord,c.mem⟩:=by
 have e:opnC c=0:=(if_pos h).trans h1;refine⟨e,?_⟩;unfold opnE;rw[if_pos e]
theorem q0H{α:Type}(n:α→Nat)(c:Nat)(ps:List α)(h:∀p∈ps,n p≤c):nmL n ps≤c*ps.length:=by
 induction ps with
 |nil=>simp[nmL]
 |cons p r ih=>
  have h1:=h p (by simp);have h2:=ih (fun q hq=>h q (List.mem_cons_of_mem _ hq));simp only[nmL,List.map_cons,List.sum_cons,List.length_cons]at h2⊢;rw[Nat.mul_add];omega
theorem q4r{α:Type}(n:α→Nat)(ps:List α)(p:α)(h:p∈ps):n p≤nmL n ps:=by
 induction ps with
 |nil=>simp at h
 |cons q r ih=>
  simp only[nmL,List.map_cons,List.sum_cons];rcases List.mem_cons.1 h with rfl|h
  ·omega
  ·have:=ih h;unfold nmL at this;omega
theorem q6R{c:CluE}{q:CluQ}(h:q.e=opnE c):q.n≤1048576:=by
 by_cases h0:cluF c=0
 ·by_cases h1:niC c.ord=0
  ·rw[(q3t h0 h1).2]at h;obtain⟨ho,h3,hn⟩:=z3e h0;simp only[CluQ.e,CluE.mk.injEq]at h;have l1:=congrArg List.length h.2;rw[List.length_map]at l1;have n1:nmL NodeQ.n q.mem≤1000 * q.mem.length:=q0H _ _ _ (fun p hp=>by
    have hm:p.e∈c.mem:=by rw[←h.2];exact List.mem_map.2 ⟨p,hp,rfl⟩
    exact q1H (hn _ hm))
   rcases z9P c.ord with⟨h2,_⟩|⟨_,_,h2,_⟩|⟨_,_,_,h2,_⟩|⟨_,_,h4,_,e2⟩
   ·exact absurd ho h2
   ·rw[h1]at h2;exact absurd h2 (by decide)
   ·rw[h1]at h2;exact absurd h2 (by decide)
   ·have hle:=((z15 _).1 ho).1;have l2:=congrArg List.length h.1;rw[e2,List.length_map,List.length_append,List.length_singleton]at l2;have n2:nmL InstQ.n q.ord≤60 * q.ord.length:=q0H _ _ _ (fun p hp=>by
     have hm:p.e∈c.ord++[q2R]:=by rw[←e2,←h.1];exact List.mem_map.2 ⟨p,hp,rfl⟩
     rw[q5t];rcases List.mem_append.1 hm with hm|hm
     ·exact q2I (z1L ho _ hm)
     ·rw [List.mem_singleton.1 hm];decide)
    unfold CluQ.n;omega
  ·rw[(q3s h0 h1).2]at h;have:=q4p (p:=q) (q:=⟨K none 0 0,[],K none 0 0,[]⟩) h;rw[this];decide
 ·rw[(z91 h0).2]at h;have:=q4p (p:=q) (q:=⟨K none 0 0,[],K none 0 0,[]⟩) h;rw[this];decide
end Go.Proofs.YtjjoahhnkpjolaaGreatDoor
