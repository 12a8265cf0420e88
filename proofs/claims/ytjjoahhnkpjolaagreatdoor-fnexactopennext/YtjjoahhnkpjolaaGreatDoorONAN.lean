import Derived.Test.YtjjoahhnkpjolaaGreatDoorONAM
set_option linter.unusedVariables false
set_option linter.unusedSimpArgs false
set_option maxRecDepth 100000
set_option maxHeartbeats 4000000
namespace Go.Proofs.YtjjoahhnkpjolaaGreatDoor
open Go.RowKit Go.BigFrame
open InstQ renaming e->H,n->P
open Nat renaming le_refl->s,zero_le->t
open Out renaming setCell->o
open List renaming take_succ_eq_append_getElem->g
open IntKind renaming i64->G
open Value renaming int->F,slice->K
open Go.Proofs.Tryz renaming prog->Q
open Go.Proofs.Tryz
theorem q3U(kn sf:Int)(p:RepQ)(c:Int)(w:World)(h:repK.rd w p)(hn:RepQ.wf p)(h0:0≤c)(h1:c≤1048576):
  Calls Q 39 #[.agg #[F G kn,F G sf,p.vd,p.vb,p.vt,p.vu,p.vn],F G c] w fun e w'=>∃r:Int,e=.returned (F G r)∧(¬r<0→(RepQ.n p:Int)+r=c)∧Below w.heap.size w w':=by
 have hm:=fun w h=>z9l p c w h hn h0 h1
 have hr:=fun(w':World) hb=>repK.rd_below (w':=w') h hb
 generalize (RepQ.n p:Int)=NP at*;clear hn;obtain⟨vd,done,vb,base,vt,x,vu,d,vn,y⟩:=p;obtain⟨a0,k0,rfl⟩:∃a c,vd=K a done.length c:=h.1.shape;obtain⟨a1,k1,rfl⟩:∃a c,vb=K a base.length c:=h.2.1.shape;obtain⟨a2,k2,rfl⟩:∃a c,vt=K a x.length c:=h.2.2.1.shape;obtain⟨a3,k3,rfl⟩:∃a c,vu=K a d.length c:=h.2.2.2.1.shape;obtain⟨a4,k4,rfl⟩:∃a c,vn=K a y.length c:=h.2.2.2.2.shape;dsimp only at hm;have hB:Below w.heap.size w (w.alloc (.cells #[F G kn,F G sf,K a0 done.length k0,K a1 base.length k1,K a2 x.length k2,K a3 d.length k3,K a4 y.length k4] 84)):=by go_grown
 have B:=Blk.new w 84 #[F G kn,F G sf,K a0 done.length k0,K a1 base.length k1,K a2 x.length k2,K a3 d.length k3,K a4 y.length k4];obtain⟨q0,q1,q2,q3,q4,q5,q6⟩:=B.cel7;go_enter func39,ntmps39
 go_wp2_with fail
 clear q0 q1 q2 q3 q4 q5 q6 B;have z:=hr _ hB;generalize w.alloc (.cells #[F G kn,F G sf,K a0 done.length k0,K a1 base.length k1,K a2 x.length k2,K a3 d.length k3,K a4 y.length k4] 84)=W at*;refine(hm W z).mono ?_;rintro e w1 ⟨r,rfl,hq,hb⟩;replace hB:=hB.trans (hb.mono hB.size);by_cases A:r<0
 ·go_wp2
  go_ret;exact⟨_,rfl,fun h=>absurd h (by decide),hB⟩
 ·go_wp2
  go_ret;exact⟨_,rfl,hq,hB⟩
theorem q3V(kn sf:Int)(p:RepQ)(w:World)(h:repK.rd w p)(hl:RepQ.n p≤1048576):
  Calls Q 43 #[.agg #[F G kn,F G sf,p.vd,p.vb,p.vt,p.vu,p.vn]] w fun e w'=>∃p':RepQ,e=.returned (.agg #[F G kn,F G sf,p'.vd,p'.vb,p'.vt,p'.vu,p'.vn])∧p'.e=p.e∧repK.own w' p'∧(repK.foot p').Nodup∧(∀k∈repK.foot p',w.heap.size≤k)∧Below w.heap.size w w':=by
 have hm:=fun w h=>z9n p w h hl
 have hr:=fun(w':World) hb=>repK.rd_below (w':=w') h hb
 generalize p.e=PE at*;obtain⟨vd,done,vb,base,vt,x,vu,d,vn,y⟩:=p;obtain⟨a0,k0,rfl⟩:∃a c,vd=K a done.length c:=h.1.shape;obtain⟨a1,k1,rfl⟩:∃a c,vb=K a base.length c:=h.2.1.shape;obtain⟨a2,k2,rfl⟩:∃a c,vt=K a x.length c:=h.2.2.1.shape;obtain⟨a3,k3,rfl⟩:∃a c,vu=K a d.length c:=h.2.2.2.1.shape;obtain⟨a4,k4,rfl⟩:∃a c,vn=K a y.length c:=h.2.2.2.2.shape;dsimp only at hm;clear hl;have hB:Below w.heap.size w (((w.alloc (.cells #[F G kn,F G sf,K a0 done.length k0,K a1 base.length k1,K a2 x.length k2,K a3 d.length k3,K a4 y.length k4] 84)).alloc (.cells #[F G 0,F G 0,K none 0 0,K none 0 0,K none 0 0,K none 0 0,K none 0 0] 58)).alloc (.cells #[F G kn,F G sf,K none 0 0,K none 0 0,K none 0 0,K none 0 0,K none 0 0] 58)):=by go_grown
 have R:=(Blk.new (w.alloc (.cells #[F G kn,F G sf,K a0 done.length k0,K a1 base.length k1,K a2 x.length k2,K a3 d.length k3,K a4 y.length k4] 84)) 58 #[F G 0,F G 0,K none 0 0,K none 0 0,K none 0 0,K none 0 0,K none 0 0]).below (w':=(((w.alloc (.cells #[F G kn,F G sf,K a0 done.length k0,K a1 base.length k1,K a2 x.length k2,K a3 d.length k3,K a4 y.length k4] 84)).alloc (.cells #[F G 0,F G 0,K none 0 0,K none 0 0,K none 0 0,K none 0 0,K none 0 0] 58)).alloc (.cells #[F G kn,F G sf,K none 0 0,K none 0 0,K none 0 0,K none 0 0,K none 0 0] 58))) (by go_grown);have O:=Blk.new ((w.alloc (.cells #[F G kn,F G sf,K a0 done.length k0,K a1 base.length k1,K a2 x.length k2,K a3 d.length k3,K a4 y.length k4] 84)).alloc (.cells #[F G 0,F G 0,K none 0 0,K none 0 0,K none 0 0,K none 0 0,K none 0 0] 58)) 58 #[F G kn,F G sf,K none 0 0,K none 0 0,K none 0 0,K none 0 0,K none 0 0];have hS:(((w.alloc (.cells #[F G kn,F G sf,K a0 done.length k0,K a1 base.length k1,K a2 x.length k2,K a3 d.length k3,K a4 y.length k4] 84)).alloc (.cells #[F G 0,F G 0,K none 0 0,K none 0 0,K none 0 0,K none 0 0,K none 0 0] 58)).alloc (.cells #[F G kn,F G sf,K none 0 0,K none 0 0,K none 0 0,K none 0 0,K none 0 0] 58)).heap.size=w.heap.size+3:=by simp only[World.size_alloc]
 simp only[World.size_alloc]at R O;have B:=(Blk.new w 84 #[F G kn,F G sf,K a0 done.length k0,K a1 base.length k1,K a2 x.length k2,K a3 d.length k3,K a4 y.length k4]).below (w':=(((w.alloc (.cells #[F G kn,F G sf,K a0 done.length k0,K a1 base.length k1,K a2 x.length k2,K a3 d.length k3,K a4 y.length k4] 84)).alloc (.cells #[F G 0,F G 0,K none 0 0,K none 0 0,K none 0 0,K none 0 0,K none 0 0] 58)).alloc (.cells #[F G 0,F G 0,K none 0 0,K none 0 0,K none 0 0,K none 0 0,K none 0 0] 58))) (by go_grown);obtain⟨q0,q1,q2,q3,q4,q5,q6⟩:=B.cel7;go_enter func43,ntmps43
 go_wp2_with fail
 clear q0 q1 q2 q3 q4 q5 q6 B;have A:=hr _ hB;generalize (((w.alloc (.cells #[F G kn,F G sf,K a0 done.length k0,K a1 base.length k1,K a2 x.length k2,K a3 d.length k3,K a4 y.length k4] 84)).alloc (.cells #[F G 0,F G 0,K none 0 0,K none 0 0,K none 0 0,K none 0 0,K none 0 0] 58)).alloc (.cells #[F G kn,F G sf,K none 0 0,K none 0 0,K none 0 0,K none 0 0,K none 0 0] 58))=W at*;refine(hm W A).mono ?_;rintro e w1 ⟨q,rfl,E0,O0,N0,G0,hb⟩;replace hB:=hB.trans (hb.mono hB.size);replace R:=R.below hb;replace O:=O.below hb;have U:=hb.size;clear hb hm hr A;obtain⟨L,qd,J,qb,N,qt,T,qu,M,qn⟩:=q;obtain⟨x0,z0,rfl⟩:∃a c,L=K a qd.length c:=O0.1.shape;obtain⟨x1,z1,rfl⟩:∃a c,J=K a qb.length c:=O0.2.1.shape;obtain⟨x2,z2,rfl⟩:∃a c,N=K a qt.length c:=O0.2.2.1.shape;obtain⟨x3,z3,rfl⟩:∃a c,T=K a qu.length c:=O0.2.2.2.1.shape;obtain⟨x4,z4,rfl⟩:∃a c,M=K a qn.length c:=O0.2.2.2.2.shape;have U1:=q0l w1 (w.heap.size+1+1) (K x0 qd.length z0) (K x1 qb.length z1) (K x2 qt.length z2) (K x3 qu.length z3) (K x4 qn.length z4);have O2:=O.mid5 (K x0 qd.length z0) (K x1 qb.length z1) (K x2 qt.length z2) (K x3 qu.length z3) (K x4 qn.length z4);have R2:Blk _ _ _ _:=(U1.block _ R.lt (by simp)).trans R;have OW:=repK.own_out O0 U1 (fun k hk=>by have:=G0 k hk;simp;omega);have z:=Out.keep hB U1 hB.size (fun k hk=>by simp at hk;omega);have I:(Q.info? 56).map (·.size)=some (#[K x0 qd.length z0,K x1 qb.length z1,K x2 qt.length z2,K x3 qu.length z3,K x4 qn.length z4]:Array Value).size:=by kernel_rfl
 have E:(Q.info? 58).map (·.size)=some (#[F G kn,F G sf,K x0 qd.length z0,K x1 qb.length z1,K x2 qt.length z2,K x3 qu.length z3,K x4 qn.length z4]:Array Value).size:=by kernel_rfl
 generalize hV:w1.setCells (w.heap.size+1+1) 2 [K x0 qd.length z0,K x1 qb.length z1,K x2 qt.length z2,K x3 qu.length z3,K x4 qn.length z4]=V at*;have R3:=R2.row #[F G kn,F G sf,K x0 qd.length z0,K x1 qb.length z1,K x2 qt.length z2,K x3 qu.length z3,K x4 qn.length z4];have U3:=z5D V (w.heap.size+1) #[F G kn,F G sf,K x0 qd.length z0,K x1 qb.length z1,K x2 qt.length z2,K x3 qu.length z3,K x4 qn.length z4];have C:=repK.own_out OW U3 (fun k hk=>by have:=G0 k hk;simp;omega);have D:=Out.keep z U3 z.size (fun k hk=>by simp at hk;omega);obtain⟨q0,q1,q2,q3,q4,q5,q6⟩:=O2.cel7
 go_wp2_with (first|(refine q4E (by kernel_rfl) 56 _ _ rfl _ 2 #[K x0 qd.length z0,K x1 qb.length z1,K x2 qt.length z2,K x3 qu.length z3,K x4 qn.length z4] rfl rfl 58 _ O I (by simp) (by simp[Value.oneCell']) ?_;(try dsimp only);rw[hV])|(refine z0A (by kernel_rfl) 58 _ _ rfl _ #[F G kn,F G sf,K x0 qd.length z0,K x1 qb.length z1,K x2 qt.length z2,K x3 qu.length z3,K x4 qn.length z4] rfl rfl 58 _ R2 E rfl (by simp[Value.oneCell']) ?_))
 obtain⟨r0,r1,r2,r3,r4,r5,r6⟩:=R3.cel7;exact bodyPost_ret (v:=.agg #[F G kn,F G sf,K x0 qd.length z0,K x1 qb.length z1,K x2 qt.length z2,K x3 qu.length z3,K x4 qn.length z4]) (by simp[results,results43,go_sem,r0,r1,r2,r3,r4,r5,r6]) rfl ⟨_,rfl,E0,C,N0,fun k hk=>by have:=G0 k hk;omega,D⟩
theorem q3W(kn sf:Int)(p p':RepQ)(w:World)(h:repK.rd w p)(h':repK.rd w p')(he:p.e=p'.e)(hl:RepQ.n p≤1048576):
  Calls Q 52 #[.agg #[F G kn,F G sf,p.vd,p.vb,p.vt,p.vu,p.vn],.agg #[F G kn,F G sf,p'.vd,p'.vb,p'.vt,p'.vu,p'.vn]] w fun e w'=>e=.returned (.bool true)∧Below w.heap.size w w':=by
 have hm:=fun w h h'=>z9m p p' w h h' he hl
 have hr:=fun(w':World) hb=>repK.rd_below (w':=w') h hb
 have Z:=fun(w':World) hb=>repK.rd_below (w':=w') h' hb
 obtain⟨vd,done,vb,base,vt,C,vu,x,vn,E⟩:=p;obtain⟨a0,k0,rfl⟩:∃a c,vd=K a done.length c:=h.1.shape;obtain⟨a1,k1,rfl⟩:∃a c,vb=K a base.length c:=h.2.1.shape;obtain⟨a2,k2,rfl⟩:∃a c,vt=K a C.length c:=h.2.2.1.shape;obtain⟨a3,k3,rfl⟩:∃a c,vu=K a x.length c:=h.2.2.2.1.shape;obtain⟨a4,k4,rfl⟩:∃a c,vn=K a E.length c:=h.2.2.2.2.shape;obtain⟨ad,z,ab,y,af,A,ag,d,ae,D⟩:=p';obtain⟨I,O,rfl⟩:∃a c,ad=K a z.length c:=h'.1.shape;obtain⟨J,T,rfl⟩:∃a c,ab=K a y.length c:=h'.2.1.shape;obtain⟨L,U,rfl⟩:∃a c,af=K a A.length c:=h'.2.2.1.shape;obtain⟨M,V,rfl⟩:∃a c,ag=K a d.length c:=h'.2.2.2.1.shape;obtain⟨N,X,rfl⟩:∃a c,ae=K a D.length c:=h'.2.2.2.2.shape;dsimp only at hm;clear he hl;have hB:Below w.heap.size w ((w.alloc (.cells #[F G kn,F G sf,K a0 done.length k0,K a1 base.length k1,K a2 C.length k2,K a3 x.length k3,K a4 E.length k4] 58)).alloc (.cells #[F G kn,F G sf,K I z.length O,K J y.length T,K L A.length U,K M d.length V,K N D.length X] 58)):=by go_grown
 have B:=(Blk.new w 58 #[F G kn,F G sf,K a0 done.length k0,K a1 base.length k1,K a2 C.length k2,K a3 x.length k3,K a4 E.length k4]).below (w':=(w.alloc (.cells #[F G kn,F G sf,K a0 done.length k0,K a1 base.length k1,K a2 C.length k2,K a3 x.length k3,K a4 E.length k4] 58)).alloc (.cells #[F G kn,F G sf,K I z.length O,K J y.length T,K L A.length U,K M d.length V,K N D.length X] 58)) (by go_grown);have B':=Blk.new (w.alloc (.cells #[F G kn,F G sf,K a0 done.length k0,K a1 base.length k1,K a2 C.length k2,K a3 x.length k3,K a4 E.length k4] 58)) 58 #[F G kn,F G sf,K I z.length O,K J y.length T,K L A.length U,K M d.length V,K N D.length X];simp only[World.size_alloc]at B';obtain⟨q0,q1,q2,q3,q4,q5,q6⟩:=B.cel7;have s0:=B'.cell 0 _ rfl;have s1:=B'.cell 1 _ rfl;have s2:=B'.cell 2 _ rfl;have s3:=B'.cell 3 _ rfl;have s4:=B'.cell 4 _ rfl;have s5:=B'.cell 5 _ rfl;have s6:=B'.cell 6 _ rfl;have n0:(kn !=kn)=false:=by simp
 have n1:(sf !=sf)=false:=by simp
 go_enter func52,ntmps52
 go_wp2_with fail
 clear q0 q1 q2 q3 q4 q5 q6 s0 s1 s2 s3 s4 s5 s6 B B';have aa:=hr _ hB;have Y:=Z _ hB;generalize ((w.alloc (.cells #[F G kn,F G sf,K a0 done.length k0,K a1 base.length k1,K a2 C.length k2,K a3 x.length k3,K a4 E.length k4] 58)).alloc (.cells #[F G kn,F G sf,K I z.length O,K J y.length T,K L A.length U,K M d.length V,K N D.length X] 58))=W at*;refine(hm W aa Y).mono ?_;rintro e w3 ⟨rfl,hb⟩;replace hB:=hB.trans (hb.mono hB.size)
 go_wp2
 go_ret;exact⟨rfl,hB⟩
theorem z1H:(Q.info? 89).map (fun i=>(i.zero,i.size,i.bytes))=some (some (.agg #[.bool false,K none 0 0,K none 0 0,K none 0 0]),4,80):=by kernel_rfl
theorem z7m(v:Value)(ps:List InstQ)(c:Int)(w:World)(h:instK.At w v ps)(hn:ps.length≤9223372036854775807)(J:∀p∈ps,InstQ.wf p)(h0:0≤c)(h1:c≤1048576):
  Calls Q 20 #[v,F G c] w fun e w'=>∃r:Int,e=.returned (F G r)∧(¬r<0→((ps.length+nmL P ps:Nat):Int)+r=c)∧Below w.heap.size w w':=by
 obtain⟨a,cap,rfl⟩:=h.shape;by_cases U:c-ps.length<0
 ·go_enter func20,ntmps20
  go_wp2
  go_ret;exact⟨_,rfl,fun h=>by omega,Below.refl _ _⟩
 ·go_enter func20,ntmps20
  go_wp2
  go_loopw[1,5] (fun l i wr=>∃ (k:Nat) (x:Int),k≤ps.length∧i=F G k∧l=F G x∧0≤x∧x≤1048576∧Hid (ps.length+nmL P (ps.take k)+x=c)∧Below w.heap.size w wr) (fun _ i _=>ps.length-(intOf i).toNat)
  case atStart=>exact⟨0,c-ps.length,t _,rfl,by go_num,by omega,by omega,show _=_ by simp[nmL];omega,Below.refl _ _⟩
  case round=>
   obtain⟨k,x,hk,rfl,rfl,N,O,HS,hb⟩:=hrel;by_cases z:k<ps.length
   ·obtain⟨b,T,rfl,W,hc,M⟩:=(h.below hb).cell (by decide) k z;have d:∀j x,(instK.cells ps[k])[j]?=some x→wr.cell? ⟨b,T+k*4+j,none⟩=some x:=hc;have c0:=d 0 (.bool ps[k].has) rfl;have c1:=d 1 (ps[k].vb) rfl;have c2:=d 2 (ps[k].vr) rfl;have c3:=d 3 (ps[k].vd) rfl;have hs:=z0S P ps k z;have HN:=J _ (List.getElem_mem z);have A:Hid (∀y:Int,(P ps[k]:Int)+y=x→ps.length+nmL P (ps.take (k+1))+y=c):=by
     intro y hy;have:=HS.out;omega
    clear HS hs hc d;generalize ps[k]=p at*;have E:=z79 p x wr M HN N O;generalize P p=m at*;rw[Nat.add_zero]at c0
    go_wp2_with fail
    refine E.mono ?_;rintro e w2 ⟨r,rfl,hr,C⟩;replace hb:=hb.trans (C.mono hb.size);clear C E c0 c1 c2 c3;by_cases V:r<0
    ·go_wp2
     go_ret;exact⟨_,rfl,fun h=>by omega,hb⟩
    ·have D:=hr (by omega);have HR:Hid (ps.length+nmL P (ps.take (k+1))+r=c):=A.out r D;have L:r≤1048576:=by omega
     clear A hr D
     go_wp2
     go_roundw
     case rel=>exact⟨k+1,r,by omega,by go_num,rfl,by omega,L,HR.out,hb⟩
     case measure=>simp[intOf];omega
   ·have I:k=ps.length:=by omega
    subst I;rw[List.take_length]at HS
    go_wp2
    go_ret;exact⟨_,rfl,fun _=>by have:=HS.out;omega,hb⟩
theorem z7n(v v':Value)(ps qs:List InstQ)(w:World)(h:instK.At w v ps)(h':instK.At w v' qs)(he:ps.map H=qs.map H)(hl:(ps.length+nmL P ps)≤1048576):
  Calls Q 27 #[v,v'] w fun e w'=>e=.returned (.bool true)∧Below w.heap.size w w':=by
 obtain⟨a,cap,rfl⟩:=h.shape;obtain⟨a',T,rfl⟩:=h'.shape;have y:qs.length=ps.length:=by
  have:=congrArg List.length he;simpa using this.symm
 rw[y]at h'⊢;have HL:Hid (qs.length=ps.length):=y;clear y;go_enter func27,ntmps27
 go_wp2
 go_loopw[5] (fun i wr=>∃k:Nat,k≤ps.length∧i=F G k∧Below w.heap.size w wr) (fun i _=>ps.length-(intOf i).toNat)
 case atStart=>exact⟨0,t _,rfl,Below.refl _ _⟩
 case round=>
  obtain⟨k,hk,rfl,hb⟩:=hrel;by_cases C:k<ps.length
  ·have z:k<qs.length:=by have:=HL.out;omega
   obtain⟨b,O,rfl,V,hc,J⟩:=(h.below hb).cell (by decide) k C;obtain⟨b',L,rfl,U,hd,A⟩:=(h'.below hb).cell (by decide) k z;have c:∀j x,(instK.cells ps[k])[j]?=some x→wr.cell? ⟨b,O+k*4+j,none⟩=some x:=hc;have d:∀j x,(instK.cells qs[k])[j]?=some x→wr.cell? ⟨b',L+k*4+j,none⟩=some x:=hd;have c0:=c 0 (.bool ps[k].has) rfl;have d0:=d 0 (.bool qs[k].has) rfl;have c1:=c 1 (ps[k].vb) rfl;have d1:=d 1 (qs[k].vb) rfl;have c2:=c 2 (ps[k].vr) rfl;have d2:=d 2 (qs[k].vr) rfl;have c3:=c 3 (ps[k].vd) rfl;have d3:=d 3 (qs[k].vd) rfl;have I:H ps[k]=H qs[k]:=by
    have:=congrArg (·[k]?) he;simpa[C,z]using this
   have N:=z01 P ps k C;clear hc c hd d;generalize ps[k]=p at*;generalize qs[k]=p' at*;have D:=fun w h1 h2=>z8a p p' w h1 h2 I (show P p≤1048576 by omega)
   clear I N;rw[Nat.add_zero]at c0 d0;have k0:=z0a c0;have l0:=z0a d0;have k1:=z0a c1;have l1:=z0a d1;have k2:=z0a c2;have l2:=z0a d2;have k3:=z0a c3;have l3:=z0a d3;clear c0 d0 c1 d1 c2 d2 c3 d3;have hW:Below wr.heap.size wr wr.drew:=(Below.refl _ _).drew;have M:Nonempty (Lat wr):=⟨⟨wr,Below.refl _ _⟩⟩
   go_wp2_with fail
   refine z0d (S:=fun w'=>∃u:Lat wr,w'=u.val) (by kernel_rfl) ?_;refine sgr [(0,8)] 2 (by kernel_rfl) ⟨⟨_,hW⟩,rfl⟩ ?_;simp only[pkE];repeat go_big_quiet_step (fail)
   refine wpQuiet_nil ?_;refine cla 8 (some 25) 51 #[.agg #[.bool p.has,p.vb,p.vr,p.vd],.agg #[.bool p'.has,p'.vb,p'.vr,p'.vd]] 1 (by kernel_rfl) ?_;refine(D _ (instK.rd_below J hW) (instK.rd_below A hW)).mono ?_;rintro e w2 ⟨rfl,E⟩;replace hW:=hW.trans (E.mono hW.size);clear E;refine⟨_,rfl,⟨⟨_,hW⟩,rfl⟩,?_⟩;simp only[Act.put,pjE];refine sgr [(9,1)] 0 (by kernel_rfl) ⟨⟨_,hW⟩,rfl⟩ ?_;simp only[pkE];repeat go_big_quiet_step (fail)
   refine wpQuiet_nil ?_;refine z0h (by kernel_rfl) ?_;replace hb:=hb.trans (hW.mono hb.size);clear k0 l0 k1 l1 k2 l2 k3 l3 hW M J A D
   go_wp2
   go_roundw
   case rel=>exact⟨k+1,by omega,by go_num,hb⟩
   case measure=>simp[intOf];omega
  ·go_wp2
   go_ret;exact⟨rfl,hb⟩
theorem z7o(v:Value)(ps:List InstQ)(w:World)(h:instK.At w v ps)(hl:(ps.length+nmL P ps)≤1048576):
  Calls Q 23 #[v] w fun e w'=>∃v' qs,e=.returned v'∧qs.map H=ps.map H∧instK.Own w' v' qs∧(instK.fp v' qs).Nodup∧(∀k∈instK.fp v' qs,w.heap.size≤k)∧Below w.heap.size w w':=by
 obtain⟨a,cap,rfl⟩:=h.shape;obtain⟨i0,hi,ao,ap,aq⟩:=info_parts z1H;have M:i0.bytes*ps.length≤281474976710656:=by rw[aq];omega
 have ae:ps.length≤maxLen:=by unfold maxLen;omega
 go_enter func23,ntmps23
 go_wp2_with (at_make;refine wpList_make_full _ rfl _ _ 28 rfl w.heap.size 89 i0 (.agg #[.bool false,K none 0 0,K none 0 0,K none 0 0]) 4 Tryz.underlying28 hi ao ap _ _ _ _ ps.length rfl rfl rfl rfl M ae (s _) ?_)
 intro w1 O I;have Z:Below w.heap.size w w1:=(Below.refl _ _).grown I (s _) (by simp);have hO:instK.Own w1 (K (some ⟨w.heap.size,0,none⟩) ps.length ps.length) (List.replicate ps.length (⟨false,K none 0 0,[],K none 0 0,[],K none 0 0,[]⟩:InstQ)):=by
  refine⟨?_,fun p hp=>?_⟩
  ·rw[List.length_replicate,←z3O (⟨false,K none 0 0,[],K none 0 0,[],K none 0 0,[]⟩:InstQ) _ (by decide)];exact z0r O (t _)
  ·rw[(List.mem_replicate.1 hp).2];exact⟨⟨World.ownsRow_nil _ _ _ _,fun p hp=>by simp at hp⟩,⟨World.ownsRow_nil _ _ _ _,fun p hp=>by simp at hp⟩,⟨World.ownsRow_nil _ _ _ _,fun p hp=>by simp at hp⟩⟩
 have hF:instK.fp (K (some ⟨w.heap.size,0,none⟩) ps.length ps.length) (List.replicate ps.length (⟨false,K none 0 0,[],K none 0 0,[],K none 0 0,[]⟩:InstQ))=[w.heap.size]:=z75 rfl;have HN:Hid ((instK.fp (K (some ⟨w.heap.size,0,none⟩) ps.length ps.length) (List.replicate ps.length (⟨false,K none 0 0,[],K none 0 0,[],K none 0 0,[]⟩:InstQ))).Nodup):=by rw[hF];show List.Nodup _;simp
 have HG:Hid (∀x∈instK.fp (K (some ⟨w.heap.size,0,none⟩) ps.length ps.length) (List.replicate ps.length (⟨false,K none 0 0,[],K none 0 0,[],K none 0 0,[]⟩:InstQ)),w.heap.size≤x):=by rw[hF];intro x hx;simp at hx;omega
 have HZ:Hid (∀j (hj:j<(List.replicate ps.length (⟨false,K none 0 0,[],K none 0 0,[],K none 0 0,[]⟩:InstQ)).length),0≤j→(List.replicate ps.length (⟨false,K none 0 0,[],K none 0 0,[],K none 0 0,[]⟩:InstQ))[j]=(⟨false,K none 0 0,[],K none 0 0,[],K none 0 0,[]⟩:InstQ)):=fun j hj _=>by simp
 have af:(List.replicate ps.length (⟨false,K none 0 0,[],K none 0 0,[],K none 0 0,[]⟩:InstQ)).length=ps.length:=by simp
 clear O I hF;generalize List.replicate ps.length (⟨false,K none 0 0,[],K none 0 0,[],K none 0 0,[]⟩:InstQ)=aj at*;have HE:Hid ((aj.take 0).map H=(ps.take 0).map H):=show _=_ by simp
 go_wp2
 go_loopw [4] (fun i wr=>∃ (k:Nat) (qs:List InstQ),k≤ps.length∧i=F G k∧Hid (qs.length=ps.length)∧Hid ((qs.take k).map H=(ps.take k).map H)∧Hid (∀ j (hj:j < qs.length),k≤j→qs[j]=(⟨false,K none 0 0,[],K none 0 0,[],K none 0 0,[]⟩:InstQ))∧instK.Own wr (K (some ⟨w.heap.size,0,none⟩) ps.length ps.length) qs ∧
  Hid ((instK.fp (K (some ⟨w.heap.size,0,none⟩) ps.length ps.length) qs).Nodup)∧Hid (∀ x∈instK.fp (K (some ⟨w.heap.size,0,none⟩) ps.length ps.length) qs,w.heap.size≤x)∧Below w.heap.size w wr) (fun i _=>ps.length - (intOf i).toNat)
 case atStart=>exact⟨0,aj,t _,rfl,af,HE,HZ,hO,HN,HG,Z⟩
 case round=>
  clear HE HZ hO HN HG Z af;obtain⟨k,qs,hk,rfl,HQ,HE,HZ,hO,HN,HG,hb⟩:=hrel;by_cases W:k<ps.length
  ·have c:k<qs.length:=by have:=HQ.out;omega
   have D:=HZ.out k c (s _);obtain⟨b,ar,rfl,au,hc,ag⟩:=(h.below hb).cell (by decide) k W;have E:∀j x,(instK.cells ps[k])[j]?=some x→wr.cell? ⟨b,ar+k*4+j,none⟩=some x:=hc;have c0:=E 0 (.bool ps[k].has) rfl;have c1:=E 1 (ps[k].vb) rfl;have c2:=E 2 (ps[k].vr) rfl;have c3:=E 3 (ps[k].vd) rfl;have ax:=z01 P ps k W;have Y:Hid (∀p':InstQ,p'.e=H ps[k]→((qs.set k p').take (k+1)).map H=(ps.take (k+1)).map H):=by
    intro p' am;have h1:=HE.out;rw[g W,g (show k<(qs.set k p').length by simpa using c)];simp only[List.map_append,List.map_cons,List.map_nil,List.getElem_set_self,am,List.take_set_of_le (s k),h1]
   clear hc E;generalize ps[k]=p at*;have ah:=z8b p wr ag (by omega);rw[Nat.add_zero]at c0
   go_wp2_with fail
   refine ah.mono ?_;rintro e w2 ⟨p',rfl,X,d,J,y,aa⟩;obtain⟨x0,x1,y1,x2,y2,x3,y3⟩:=p';obtain⟨o1,o2,o3⟩:txnK.Own w2 x1 y1∧roundK.Own w2 x2 y2∧intK.Own w2 x3 y3:=And.intro d.1 d.2;obtain⟨a1,b1,rfl⟩:=o1.shape;obtain⟨a2,b2,rfl⟩:=o2.shape;obtain⟨a3,b3,rfl⟩:=o3.shape;clear o1 o2 o3;dsimp only;generalize hP:(⟨x0,K a1 y1.length b1,y1,K a2 y2.length b2,y2,K a3 y3.length b3,y3⟩:InstQ)=p' at X d J y;have U:instK.cells p'=[.bool x0,K a1 y1.length b1,K a2 y2.length b2,K a3 y3.length b3]:=by rw[←hP];rfl
   have z:=hO.below aa;obtain⟨e0,f0⟩:=z.cell k c 0 _ (by rw[D];rfl);obtain⟨e1,f1⟩:=z.cell k c 1 _ (by rw[D];rfl);obtain⟨e2,f2⟩:=z.cell k c 2 _ (by rw[D];rfl);obtain⟨e3,f3⟩:=z.cell k c 3 _ (by rw[D];rfl);have ad:∀j,k*instK.size+j=k*4+j:=fun j=>rfl
   rw[ad]at e0 f0 e1 f1 e2 f2 e3 f3;rw[Nat.add_zero]at e0 f0;have A:=z.1;have hQ:=HQ.out;rw[hQ]at A;have C:=z1R A (k*4) [.bool x0,K a1 y1.length b1,K a2 y2.length b2,K a3 y3.length b3];rw[←U]at C;have V:∀x∈instK.fp (K (some ⟨w.heap.size,0,none⟩) ps.length ps.length) qs,x<wr.heap.size:=hO.lt;have ab:w.heap.size∈instK.fp (K (some ⟨w.heap.size,0,none⟩) ps.length ps.length) qs:=by simp[Kind.fp,blk,Value.ownBlock]
   have av:w.heap.size<wr.heap.size:=V _ ab;have L:=HN.out;have N:∀x∈instK.foot p',x∉instK.fp (K (some ⟨w.heap.size,0,none⟩) ps.length ps.length) qs:=fun x hx an=>by have:=y x hx;have:=V x an;omega
   have T:instK.Own ((((w2.setCell ⟨w.heap.size,k*4,none⟩ (.bool x0)).setCell ⟨w.heap.size,k*4+1,none⟩ (K a1 y1.length b1)).setCell ⟨w.heap.size,k*4+2,none⟩ (K a2 y2.length b2)).setCell ⟨w.heap.size,k*4+3,none⟩ (K a3 y3.length b3)) (K (some ⟨w.heap.size,0,none⟩) ps.length ps.length) (qs.set k p'):=by
    refine Kind.Own.put z k c p' ?_ ((((o _ _ _ _).trans (o _ _ _ _)).trans (o _ _ _ _)).trans (o _ _ _ _)) ?_ d ?_
    ·rw[hQ];rw[U]at C⊢;exact C
    ·intro q hq x hx ai;simp only[Kind.fp,blk,Value.ownBlock,Option.toList,List.cons_append,List.nil_append,List.nodup_cons]at L;exact L.1 (List.mem_flatMap.2 ⟨q,hq,ai▸hx⟩)
    ·intro x hx ai;have:=y x hx;omega
   have R:Hid (instK.Own ((((w2.setCell ⟨w.heap.size,k*4,none⟩ (.bool x0)).setCell ⟨w.heap.size,k*4+1,none⟩ (K a1 y1.length b1)).setCell ⟨w.heap.size,k*4+2,none⟩ (K a2 y2.length b2)).setCell ⟨w.heap.size,k*4+3,none⟩ (K a3 y3.length b3)) (K (some ⟨w.heap.size,0,none⟩) ps.length ps.length) (qs.set k p')∧Below w.heap.size w ((((w2.setCell ⟨w.heap.size,k*4,none⟩ (.bool x0)).setCell ⟨w.heap.size,k*4+1,none⟩ (K a1 y1.length b1)).setCell ⟨w.heap.size,k*4+2,none⟩ (K a2 y2.length b2)).setCell ⟨w.heap.size,k*4+3,none⟩ (K a3 y3.length b3))):=by
    refine⟨T,?_⟩;have ak:=hb.trans (aa.mono hb.size);exact((((ak.setCell (p:=⟨w.heap.size,k*4,none⟩) (s _) _).setCell (p:=⟨w.heap.size,k*4+1,none⟩) (s _) _).setCell (p:=⟨w.heap.size,k*4+2,none⟩) (s _) _).setCell (p:=⟨w.heap.size,k*4+3,none⟩) (s _) _)
   have R1:Hid ((instK.fp (K (some ⟨w.heap.size,0,none⟩) ps.length ps.length) (qs.set k p')).Nodup):=z2E L k c p' (by rw[D];rfl) J N;have R2:Hid (∀x∈instK.fp (K (some ⟨w.heap.size,0,none⟩) ps.length ps.length) (qs.set k p'),w.heap.size≤x):=by
    intro x hx;simp only[Kind.fp,List.mem_append]at hx;rcases hx with hx|hx
    ·exact HG.out x (by simp only[Kind.fp,List.mem_append];exact Or.inl hx)
    ·rcases z1E c hx with hx|hx
     ·exact HG.out x (by simp only[Kind.fp,List.mem_append];exact Or.inr hx)
     ·have:=y x hx;omega
   have R3:Hid (∀j (hj:j<(qs.set k p').length),k+1≤j→(qs.set k p')[j]=(⟨false,K none 0 0,[],K none 0 0,[],K none 0 0,[]⟩:InstQ)):=fun j hj aw=>by
    rw[List.getElem_set_ne (by omega)];exact HZ.out j (by simpa using hj) (by omega)
   have R4:Hid ((qs.set k p').length=ps.length):=by rw[List.length_set];exact HQ.out
   have R5:Hid (((qs.set k p').take (k+1)).map H=(ps.take (k+1)).map H):=Y.out p' X;clear T C A hQ z hO HN HG HZ HE HQ Y L N d J y V ab hb D ag ah X ad U hP
   go_wp2
   go_roundw
   case rel=>exact⟨k+1,qs.set k p',by omega,by go_num,R4.out,R5.out,R3.out,R.out.1,R1.out,R2.out,R.out.2⟩
   case measure=>simp[intOf];omega
  ·have al:k=ps.length:=by omega
   subst al;have hQ:=HQ.out;have hE:=HE.out;rw[List.take_length,List.take_of_length_le (by omega)]at hE;clear HE HZ
   go_wp2
   go_ret;exact⟨_,qs,rfl,hE,hO,HN.out,HG.out,hb⟩
structure NodeQ where
 kn:Int
 sf:Int
 vd:Value
 done:List TxnQ
 vb:Value
 base:List ItemD
 vt:Value
 tent:List TxnQ
 vu:Value
 undos:List USQ
 vn:Value
 now:List ItemD
structure NodeE where
 kn:Int
 sf:Int
 rep:RepE
def NodeQ.r(p:NodeQ):RepQ:=⟨p.vd,p.done,p.vb,p.base,p.vt,p.tent,p.vu,p.undos,p.vn,p.now⟩
def NodeQ.of(kn sf:Int)(r:RepQ):NodeQ:=⟨kn,sf,r.vd,r.done,r.vb,r.base,r.vt,r.tent,r.vu,r.undos,r.vn,r.now⟩
def NodeQ.e(p:NodeQ):NodeE:=⟨p.kn,p.sf,p.r.e⟩
def NodeQ.n(p:NodeQ):Nat:=p.r.n
def NodeQ.wf(p:NodeQ):Prop:=p.r.wf
def nodeK:Kind NodeQ where
 ty:=58
 size:=7
 cells p:=[F G p.kn,F G p.sf,p.vd,p.vb,p.vt,p.vu,p.vn]
 own w p:=repK.own w p.r
 rd w p:=repK.rd w p.r
 foot p:=repK.foot p.r
 len _:=rfl
 own_rd h:=repK.own_rd h
 own_out h ho hd:=repK.own_out h ho hd
 own_lt h:=repK.own_lt h
 rd_below h hb:=repK.rd_below h hb
theorem z4n:(Q.info? 58).map (fun i=>(i.zero,i.size,i.bytes))=some (some (.agg #[F G 0,F G 0,K none 0 0,K none 0 0,K none 0 0,K none 0 0,K none 0 0]),7,136):=by kernel_rfl
theorem q3X(p:NodeQ)(c:Int)(w:World)(h:nodeK.rd w p)(hn:NodeQ.wf p)(h0:0≤c)(h1:c≤1048576):
  Calls Q 39 #[.agg #[F G p.kn,F G p.sf,p.vd,p.vb,p.vt,p.vu,p.vn],F G c] w fun e w'=>∃r:Int,e=.returned (F G r)∧(¬r<0→(NodeQ.n p:Int)+r=c)∧Below w.heap.size w w':=
 q3U p.kn p.sf p.r c w h hn h0 h1
theorem q3Y(p p':NodeQ)(w:World)(h:nodeK.rd w p)(h':nodeK.rd w p')(he:p.e=p'.e)(hl:NodeQ.n p≤1048576):
  Calls Q 52 #[.agg #[F G p.kn,F G p.sf,p.vd,p.vb,p.vt,p.vu,p.vn],.agg #[F G p'.kn,F G p'.sf,p'.vd,p'.vb,p'.vt,p'.vu,p'.vn]] w fun e w'=>e=.returned (.bool true)∧Below w.heap.size w w':=by
 simp only[NodeQ.e,NodeE.mk.injEq]at he;obtain⟨e1,e2,e3⟩:=he;rw[←e1,←e2];exact q3W p.kn p.sf p.r p'.r w h h' e3 hl
theorem q3Z(p:NodeQ)(w:World)(h:nodeK.rd w p)(hl:NodeQ.n p≤1048576):
  Calls Q 43 #[.agg #[F G p.kn,F G p.sf,p.vd,p.vb,p.vt,p.vu,p.vn]] w fun e w'=>∃p':NodeQ,e=.returned (.agg #[F G p'.kn,F G p'.sf,p'.vd,p'.vb,p'.vt,p'.vu,p'.vn])∧p'.e=p.e∧nodeK.own w' p'∧(nodeK.foot p').Nodup∧(∀k∈nodeK.foot p',w.heap.size≤k)∧Below w.heap.size w w':=by
 refine(q3V p.kn p.sf p.r w h hl).mono ?_;rintro e w' ⟨q,rfl,hE,hO,hN,hG,hb⟩;refine⟨NodeQ.of p.kn p.sf q,rfl,?_,hO,hN,hG,hb⟩;show(⟨p.kn,p.sf,q.e⟩:NodeE)=⟨p.kn,p.sf,p.r.e⟩
 rw[hE]
theorem q2u(v:Value)(ps:List NodeQ)(c:Int)(w:World)(h:nodeK.At w v ps)(hn:ps.length≤9223372036854775807)(J:∀p∈ps,NodeQ.wf p)(h0:0≤c)(h1:c≤1048576):
  Calls Q 21 #[v,F G c] w fun e w'=>∃r:Int,e=.returned (F G r)∧(¬r<0→((ps.length+nmL NodeQ.n ps:Nat):Int)+r=c)∧Below w.heap.size w w':=by
 obtain⟨a,cap,rfl⟩:=h.shape;by_cases U:c-ps.length<0
 ·go_enter func21,ntmps21
  go_wp2
  go_ret;exact⟨_,rfl,fun h=>by omega,Below.refl _ _⟩
 ·go_enter func21,ntmps21
  go_wp2
  go_loopw[1,5] (fun l i wr=>∃ (k:Nat) (x:Int),k≤ps.length∧i=F G k∧l=F G x∧0≤x∧x≤1048576∧Hid (ps.length+nmL NodeQ.n (ps.take k)+x=c)∧Below w.heap.size w wr) (fun _ i _=>ps.length-(intOf i).toNat)
  case atStart=>exact⟨0,c-ps.length,t _,rfl,by go_num,by omega,by omega,show _=_ by simp[nmL];omega,Below.refl _ _⟩
  case round=>
   obtain⟨k,x,hk,rfl,rfl,N,O,HS,hb⟩:=hrel;by_cases z:k<ps.length
   ·obtain⟨b,T,rfl,W,hc,M⟩:=(h.below hb).cell (by decide) k z;have d:∀j x,(nodeK.cells ps[k])[j]?=some x→wr.cell? ⟨b,T+k*7+j,none⟩=some x:=hc;have c0:=d 0 (F G ps[k].kn) rfl;have c1:=d 1 (F G ps[k].sf) rfl;have c2:=d 2 (ps[k].vd) rfl;have c3:=d 3 (ps[k].vb) rfl;have c4:=d 4 (ps[k].vt) rfl;have c5:=d 5 (ps[k].vu) rfl;have c6:=d 6 (ps[k].vn) rfl;have hs:=z0S NodeQ.n ps k z;have HN:=J _ (List.getElem_mem z);have A:Hid (∀y:Int,(NodeQ.n ps[k]:Int)+y=x→ps.length+nmL NodeQ.n (ps.take (k+1))+y=c):=by
     intro y hy;have:=HS.out;omega
    clear HS hs hc d;generalize ps[k]=p at*;have E:=q3X p x wr M HN N O;generalize NodeQ.n p=m at*;rw[Nat.add_zero]at c0
    go_wp2_with fail
    refine E.mono ?_;rintro e w2 ⟨r,rfl,hr,C⟩;replace hb:=hb.trans (C.mono hb.size);clear C E c0 c1 c2 c3 c4 c5 c6;by_cases V:r<0
    ·go_wp2
     go_ret;exact⟨_,rfl,fun h=>by omega,hb⟩
    ·have D:=hr (by omega);have HR:Hid (ps.length+nmL NodeQ.n (ps.take (k+1))+r=c):=A.out r D;have L:r≤1048576:=by omega
     clear A hr D
     go_wp2
     go_roundw
     case rel=>exact⟨k+1,r,by omega,by go_num,rfl,by omega,L,HR.out,hb⟩
     case measure=>simp[intOf];omega
   ·have I:k=ps.length:=by omega
    subst I;rw[List.take_length]at HS
    go_wp2
    go_ret;exact⟨_,rfl,fun _=>by have:=HS.out;omega,hb⟩
theorem q2v(v v':Value)(ps qs:List NodeQ)(w:World)(h:nodeK.At w v ps)(h':nodeK.At w v' qs)(he:ps.map NodeQ.e=qs.map NodeQ.e)(hl:(ps.length+nmL NodeQ.n ps)≤1048576):
  Calls Q 28 #[v,v'] w fun e w'=>e=.returned (.bool true)∧Below w.heap.size w w':=by
 obtain⟨a,cap,rfl⟩:=h.shape;obtain⟨a',T,rfl⟩:=h'.shape;have y:qs.length=ps.length:=by
  have:=congrArg List.length he;simpa using this.symm
 rw[y]at h'⊢;have HL:Hid (qs.length=ps.length):=y;clear y;go_enter func28,ntmps28
 go_wp2
 go_loopw[5] (fun i wr=>∃k:Nat,k≤ps.length∧i=F G k∧Below w.heap.size w wr) (fun i _=>ps.length-(intOf i).toNat)
 case atStart=>exact⟨0,t _,rfl,Below.refl _ _⟩
 case round=>
  obtain⟨k,hk,rfl,hb⟩:=hrel;by_cases C:k<ps.length
  ·have z:k<qs.length:=by have:=HL.out;omega
   obtain⟨b,O,rfl,V,hc,J⟩:=(h.below hb).cell (by decide) k C;obtain⟨b',L,rfl,U,hd,A⟩:=(h'.below hb).cell (by decide) k z;have c:∀j x,(nodeK.cells ps[k])[j]?=some x→wr.cell? ⟨b,O+k*7+j,none⟩=some x:=hc;have d:∀j x,(nodeK.cells qs[k])[j]?=some x→wr.cell? ⟨b',L+k*7+j,none⟩=some x:=hd;have c0:=c 0 (F G ps[k].kn) rfl;have d0:=d 0 (F G qs[k].kn) rfl;have c1:=c 1 (F G ps[k].sf) rfl;have d1:=d 1 (F G qs[k].sf) rfl;have c2:=c 2 (ps[k].vd) rfl;have d2:=d 2 (qs[k].vd) rfl;have c3:=c 3 (ps[k].vb) rfl;have d3:=d 3 (qs[k].vb) rfl;have c4:=c 4 (ps[k].vt) rfl;have d4:=d 4 (qs[k].vt) rfl;have c5:=c 5 (ps[k].vu) rfl;have d5:=d 5 (qs[k].vu) rfl;have c6:=c 6 (ps[k].vn) rfl;have d6:=d 6 (qs[k].vn) rfl;have I:NodeQ.e ps[k]=NodeQ.e qs[k]:=by
    have:=congrArg (·[k]?) he;simpa[C,z]using this
   have N:=z01 NodeQ.n ps k C;clear hc c hd d;generalize ps[k]=p at*;generalize qs[k]=p' at*;have D:=fun w h1 h2=>q3Y p p' w h1 h2 I (show NodeQ.n p≤1048576 by omega)
   clear I N;rw[Nat.add_zero]at c0 d0;have k0:=z0a c0;have l0:=z0a d0;have k1:=z0a c1;have l1:=z0a d1;have k2:=z0a c2;have l2:=z0a d2;have k3:=z0a c3;have l3:=z0a d3;have k4:=z0a c4;have l4:=z0a d4;have k5:=z0a c5;have l5:=z0a d5;have k6:=z0a c6;have l6:=z0a d6;clear c0 d0 c1 d1 c2 d2 c3 d3 c4 d4 c5 d5 c6 d6;have hW:Below wr.heap.size wr wr.drew:=(Below.refl _ _).drew;have M:Nonempty (Lat wr):=⟨⟨wr,Below.refl _ _⟩⟩
   go_wp2_with fail
   refine z0d (S:=fun w'=>∃u:Lat wr,w'=u.val) (by kernel_rfl) ?_;refine sgr [(0,8)] 2 (by kernel_rfl) ⟨⟨_,hW⟩,rfl⟩ ?_;simp only[pkE];repeat go_big_quiet_step (fail)
   refine wpQuiet_nil ?_;refine cla 8 (some 25) 52 #[.agg #[F G p.kn,F G p.sf,p.vd,p.vb,p.vt,p.vu,p.vn],.agg #[F G p'.kn,F G p'.sf,p'.vd,p'.vb,p'.vt,p'.vu,p'.vn]] 1 (by kernel_rfl) ?_;refine(D _ (nodeK.rd_below J hW) (nodeK.rd_below A hW)).mono ?_;rintro e w2 ⟨rfl,E⟩;replace hW:=hW.trans (E.mono hW.size);clear E;refine⟨_,rfl,⟨⟨_,hW⟩,rfl⟩,?_⟩;simp only[Act.put,pjE];refine sgr [(9,1)] 0 (by kernel_rfl) ⟨⟨_,hW⟩,rfl⟩ ?_;simp only[pkE];repeat go_big_quiet_step (fail)
   refine wpQuiet_nil ?_;refine z0h (by kernel_rfl) ?_;replace hb:=hb.trans (hW.mono hb.size);clear k0 l0 k1 l1 k2 l2 k3 l3 k4 l4 k5 l5 k6 l6 hW M J A D
   go_wp2
   go_roundw
   case rel=>exact⟨k+1,by omega,by go_num,hb⟩
   case measure=>simp[intOf];omega
  ·go_wp2
   go_ret;exact⟨rfl,hb⟩
theorem q2w(v:Value)(ps:List NodeQ)(w:World)(h:nodeK.At w v ps)(hl:(ps.length+nmL NodeQ.n ps)≤1048576):
  Calls Q 24 #[v] w fun e w'=>∃v' qs,e=.returned v'∧qs.map NodeQ.e=ps.map NodeQ.e∧nodeK.Own w' v' qs∧(nodeK.fp v' qs).Nodup∧(∀k∈nodeK.fp v' qs,w.heap.size≤k)∧Below w.heap.size w w':=by
 obtain⟨a,cap,rfl⟩:=h.shape;obtain⟨i0,hi,ao,ap,aq⟩:=info_parts z4n;have M:i0.bytes*ps.length≤281474976710656:=by rw[aq];omega
 have ae:ps.length≤maxLen:=by unfold maxLen;omega
 go_enter func24,ntmps24
 go_wp2_with (at_make;refine wpList_make_full _ rfl _ _ 29 rfl w.heap.size 58 i0 (.agg #[F G 0,F G 0,K none 0 0,K none 0 0,K none 0 0,K none 0 0,K none 0 0]) 7 Tryz.underlying29 hi ao ap _ _ _ _ ps.length rfl rfl rfl rfl M ae (s _) ?_)
 intro w1 O I;have Z:Below w.heap.size w w1:=(Below.refl _ _).grown I (s _) (by simp);have hO:nodeK.Own w1 (K (some ⟨w.heap.size,0,none⟩) ps.length ps.length) (List.replicate ps.length (⟨0,0,K none 0 0,[],K none 0 0,[],K none 0 0,[],K none 0 0,[],K none 0 0,[]⟩:NodeQ)):=by
  refine⟨?_,fun p hp=>?_⟩
  ·rw[List.length_replicate,←z3O (⟨0,0,K none 0 0,[],K none 0 0,[],K none 0 0,[],K none 0 0,[],K none 0 0,[]⟩:NodeQ) _ (by decide)];exact z0r O (t _)
  ·rw[(List.mem_replicate.1 hp).2];exact⟨(Kind.own_nil _).1,(Kind.own_nil _).1,(Kind.own_nil _).1,(Kind.own_nil _).1,(Kind.own_nil _).1⟩
 have hF:nodeK.fp (K (some ⟨w.heap.size,0,none⟩) ps.length ps.length) (List.replicate ps.length (⟨0,0,K none 0 0,[],K none 0 0,[],K none 0 0,[],K none 0 0,[],K none 0 0,[]⟩:NodeQ))=[w.heap.size]:=z75 rfl;have HN:Hid ((nodeK.fp (K (some ⟨w.heap.size,0,none⟩) ps.length ps.length) (List.replicate ps.length (⟨0,0,K none 0 0,[],K none 0 0,[],K none 0 0,[],K none 0 0,[],K none 0 0,[]⟩:NodeQ))).Nodup):=by rw[hF];show List.Nodup _;simp
 have HG:Hid (∀x∈nodeK.fp (K (some ⟨w.heap.size,0,none⟩) ps.length ps.length) (List.replicate ps.length (⟨0,0,K none 0 0,[],K none 0 0,[],K none 0 0,[],K none 0 0,[],K none 0 0,[]⟩:NodeQ)),w.heap.size≤x):=by rw[hF];intro x hx;simp at hx;omega
 have HZ:Hid (∀j (hj:j<(List.replicate ps.length (⟨0,0,K none 0 0,[],K none 0 0,[],K none 0 0,[],K none 0 0,[],K none 0 0,[]⟩:NodeQ)).length),0≤j→(List.replicate ps.length (⟨0,0,K none 0 0,[],K none 0 0,[],K none 0 0,[],K none 0 0,[],K none 0 0,[]⟩:NodeQ))[j]=(⟨0,0,K none 0 0,[],K none 0 0,[],K none 0 0,[],K none 0 0,[],K none 0 0,[]⟩:NodeQ)):=fun j hj _=>by simp
 have af:(List.replicate ps.length (⟨0,0,K none 0 0,[],K none 0 0,[],K none 0 0,[],K none 0 0,[],K none 0 0,[]⟩:NodeQ)).length=ps.length:=by simp
 clear O I hF;generalize List.replicate ps.length (⟨0,0,K none 0 0,[],K none 0 0,[],K none 0 0,[],K none 0 0,[],K none 0 0,[]⟩:NodeQ)=aj at*;have HE:Hid ((aj.take 0).map NodeQ.e=(ps.take 0).map NodeQ.e):=show _=_ by simp
 go_wp2
 go_loopw [4] (fun i wr=>∃ (k:Nat) (qs:List NodeQ),k≤ps.length∧i=F G k∧Hid (qs.length=ps.length)∧Hid ((qs.take k).map NodeQ.e=(ps.take k).map NodeQ.e)∧Hid (∀ j (hj:j < qs.length),k≤j→qs[j]=(⟨0,0,K none 0 0,[],K none 0 0,[],K none 0 0,[],K none 0 0,[],K none 0 0,[]⟩:NodeQ))∧nodeK.Own wr (K (some ⟨w.heap.size,0,none⟩) ps.length ps.length) qs ∧
  Hid ((nodeK.fp (K (some ⟨w.heap.size,0,none⟩) ps.length ps.length) qs).Nodup)∧Hid (∀ x∈nodeK.fp (K (some ⟨w.heap.size,0,none⟩) ps.length ps.length) qs,w.heap.size≤x)∧Below w.heap.size w wr) (fun i _=>ps.length - (intOf i).toNat)
 case atStart=>exact⟨0,aj,t _,rfl,af,HE,HZ,hO,HN,HG,Z⟩
 case round=>
  clear HE HZ hO HN HG Z af;obtain⟨k,qs,hk,rfl,HQ,HE,HZ,hO,HN,HG,hb⟩:=hrel;by_cases W:k<ps.length
  ·have c:k<qs.length:=by have:=HQ.out;omega
   have z:=HZ.out k c (s _);obtain⟨b,ar,rfl,au,hc,ag⟩:=(h.below hb).cell (by decide) k W;have A:∀j x,(nodeK.cells ps[k])[j]?=some x→wr.cell? ⟨b,ar+k*7+j,none⟩=some x:=hc;have c0:=A 0 (F G ps[k].kn) rfl;have c1:=A 1 (F G ps[k].sf) rfl;have c2:=A 2 (ps[k].vd) rfl;have c3:=A 3 (ps[k].vb) rfl;have c4:=A 4 (ps[k].vt) rfl;have c5:=A 5 (ps[k].vu) rfl;have c6:=A 6 (ps[k].vn) rfl;have ax:=z01 NodeQ.n ps k W;have Y:Hid (∀p':NodeQ,p'.e=NodeQ.e ps[k]→((qs.set k p').take (k+1)).map NodeQ.e=(ps.take (k+1)).map NodeQ.e):=by
    intro p' am;have h1:=HE.out;rw[g W,g (show k<(qs.set k p').length by simpa using c)];simp only[List.map_append,List.map_cons,List.map_nil,List.getElem_set_self,am,List.take_set_of_le (s k),h1]
   clear hc A;generalize ps[k]=p at*;have ah:=q3Z p wr ag (by omega);rw[Nat.add_zero]at c0
   go_wp2_with fail
   refine ah.mono ?_;rintro e w2 ⟨p',rfl,X,y,J,C,aa⟩;obtain⟨x0,x1,x2,y2,x3,y3,x4,y4,x5,y5,x6,y6⟩:=p';obtain⟨o2,o3,o4,o5,o6⟩:txnK.Own w2 x2 y2∧itemK.Own w2 x3 y3∧txnK.Own w2 x4 y4∧ussK.Own w2 x5 y5∧itemK.Own w2 x6 y6:=id y;obtain⟨a2,b2,rfl⟩:=o2.shape;obtain⟨a3,b3,rfl⟩:=o3.shape;obtain⟨a4,b4,rfl⟩:=o4.shape;obtain⟨a5,b5,rfl⟩:=o5.shape;obtain⟨a6,b6,rfl⟩:=o6.shape;clear o2 o3 o4 o5 o6;dsimp only;generalize hP:(⟨x0,x1,K a2 y2.length b2,y2,K a3 y3.length b3,y3,K a4 y4.length b4,y4,K a5 y5.length b5,y5,K a6 y6.length b6,y6⟩:NodeQ)=p' at X y J C;have U:nodeK.cells p'=[F G x0,F G x1,K a2 y2.length b2,K a3 y3.length b3,K a4 y4.length b4,K a5 y5.length b5,K a6 y6.length b6]:=by rw[←hP];rfl
   have d:=hO.below aa;obtain⟨e0,f0⟩:=d.cell k c 0 _ (by rw[z];rfl);obtain⟨e1,f1⟩:=d.cell k c 1 _ (by rw[z];rfl);obtain⟨e2,f2⟩:=d.cell k c 2 _ (by rw[z];rfl);obtain⟨e3,f3⟩:=d.cell k c 3 _ (by rw[z];rfl);obtain⟨e4,f4⟩:=d.cell k c 4 _ (by rw[z];rfl);obtain⟨e5,f5⟩:=d.cell k c 5 _ (by rw[z];rfl);obtain⟨e6,f6⟩:=d.cell k c 6 _ (by rw[z];rfl);have ad:∀j,k*nodeK.size+j=k*7+j:=fun j=>rfl
   rw[ad]at e0 f0 e1 f1 e2 f2 e3 f3 e4 f4 e5 f5 e6 f6;rw[Nat.add_zero]at e0 f0;have D:=d.1;have hQ:=HQ.out;rw[hQ]at D;have E:=z1R D (k*7) [F G x0,F G x1,K a2 y2.length b2,K a3 y3.length b3,K a4 y4.length b4,K a5 y5.length b5,K a6 y6.length b6];rw[←U]at E;have V:∀x∈nodeK.fp (K (some ⟨w.heap.size,0,none⟩) ps.length ps.length) qs,x<wr.heap.size:=hO.lt;have ab:w.heap.size∈nodeK.fp (K (some ⟨w.heap.size,0,none⟩) ps.length ps.length) qs:=by simp[Kind.fp,blk,Value.ownBlock]
   have av:w.heap.size<wr.heap.size:=V _ ab;have L:=HN.out;have N:∀x∈nodeK.foot p',x∉nodeK.fp (K (some ⟨w.heap.size,0,none⟩) ps.length ps.length) qs:=fun x hx an=>by have:=C x hx;have:=V x an;omega
   have T:nodeK.Own (((((((w2.setCell ⟨w.heap.size,k*7,none⟩ (F G x0)).setCell ⟨w.heap.size,k*7+1,none⟩ (F G x1)).setCell ⟨w.heap.size,k*7+2,none⟩ (K a2 y2.length b2)).setCell ⟨w.heap.size,k*7+3,none⟩ (K a3 y3.length b3)).setCell ⟨w.heap.size,k*7+4,none⟩ (K a4 y4.length b4)).setCell ⟨w.heap.size,k*7+5,none⟩ (K a5 y5.length b5)).setCell ⟨w.heap.size,k*7+6,none⟩ (K a6 y6.length b6)) (K (some ⟨w.heap.size,0,none⟩) ps.length ps.length) (qs.set k p'):=by
    refine Kind.Own.put d k c p' ?_ (((((((o _ _ _ _).trans (o _ _ _ _)).trans (o _ _ _ _)).trans (o _ _ _ _)).trans (o _ _ _ _)).trans (o _ _ _ _)).trans (o _ _ _ _)) ?_ y ?_
    ·rw[hQ];rw[U]at E⊢;exact E
    ·intro q hq x hx ai;simp only[Kind.fp,blk,Value.ownBlock,Option.toList,List.cons_append,List.nil_append,List.nodup_cons]at L;exact L.1 (List.mem_flatMap.2 ⟨q,hq,ai▸hx⟩)
    ·intro x hx ai;have:=C x hx;omega
   have R:Hid (nodeK.Own (((((((w2.setCell ⟨w.heap.size,k*7,none⟩ (F G x0)).setCell ⟨w.heap.size,k*7+1,none⟩ (F G x1)).setCell ⟨w.heap.size,k*7+2,none⟩ (K a2 y2.length b2)).setCell ⟨w.heap.size,k*7+3,none⟩ (K a3 y3.length b3)).setCell ⟨w.heap.size,k*7+4,none⟩ (K a4 y4.length b4)).setCell ⟨w.heap.size,k*7+5,none⟩ (K a5 y5.length b5)).setCell ⟨w.heap.size,k*7+6,none⟩ (K a6 y6.length b6)) (K (some ⟨w.heap.size,0,none⟩) ps.length ps.length) (qs.set k p')∧Below w.heap.size w (((((((w2.setCell ⟨w.heap.size,k*7,none⟩ (F G x0)).setCell ⟨w.heap.size,k*7+1,none⟩ (F G x1)).setCell ⟨w.heap.size,k*7+2,none⟩ (K a2 y2.length b2)).setCell ⟨w.heap.size,k*7+3,none⟩ (K a3 y3.length b3)).setCell ⟨w.heap.size,k*7+4,none⟩ (K a4 y4.length b4)).setCell ⟨w.heap.size,k*7+5,none⟩ (K a5 y5.length b5)).setCell ⟨w.heap.size,k*7+6,none⟩ (K a6 y6.length b6))):=by
    refine⟨T,?_⟩;have ak:=hb.trans (aa.mono hb.size);exact(((((((ak.setCell (p:=⟨w.heap.size,k*7,none⟩) (s _) _).setCell (p:=⟨w.heap.size,k*7+1,none⟩) (s _) _).setCell (p:=⟨w.heap.size,k*7+2,none⟩) (s _) _).setCell (p:=⟨w.heap.size,k*7+3,none⟩) (s _) _).setCell (p:=⟨w.heap.size,k*7+4,none⟩) (s _) _).setCell (p:=⟨w.heap.size,k*7+5,none⟩) (s _) _).setCell (p:=⟨w.heap.size,k*7+6,none⟩) (s _) _)
   have R1:Hid ((nodeK.fp (K (some ⟨w.heap.size,0,none⟩) ps.length ps.length) (qs.set k p')).Nodup):=z2E L k c p' (by rw[z];rfl) J N;have R2:Hid (∀x∈nodeK.fp (K (some ⟨w.heap.size,0,none⟩) ps.length ps.length) (qs.set k p'),w.heap.size≤x):=by
    intro x hx;simp only[Kind.fp,List.mem_append]at hx;rcases hx with hx|hx
    ·exact HG.out x (by simp only[Kind.fp,List.mem_append];exact Or.inl hx)
    ·rcases z1E c hx with hx|hx
     ·exact HG.out x (by simp only[Kind.fp,List.mem_append];exact Or.inr hx)
     ·have:=C x hx;omega
   have R3:Hid (∀j (hj:j<(qs.set k p').length),k+1≤j→(qs.set k p')[j]=(⟨0,0,K none 0 0,[],K none 0 0,[],K none 0 0,[],K none 0 0,[],K none 0 0,[]⟩:NodeQ)):=fun j hj aw=>by
    rw[List.getElem_set_ne (by omega)];exact HZ.out j (by simpa using hj) (by omega)
   have R4:Hid ((qs.set k p').length=ps.length):=by rw[List.length_set];exact HQ.out
   have R5:Hid (((qs.set k p').take (k+1)).map NodeQ.e=(ps.take (k+1)).map NodeQ.e):=Y.out p' X;clear T E D hQ d hO HN HG HZ HE HQ Y L N y J C V ab hb z ag ah X ad U hP
   go_wp2
   go_roundw
   case rel=>exact⟨k+1,qs.set k p',by omega,by go_num,R4.out,R5.out,R3.out,R.out.1,R1.out,R2.out,R.out.2⟩
   case measure=>simp[intOf];omega
  ·have al:k=ps.length:=by omega
   subst al;have hQ:=HQ.out;have hE:=HE.out;rw[List.take_length,List.take_of_length_le (by omega)]at hE;clear HE HZ
   go_wp2
   go_ret;exact⟨_,qs,rfl,hE,hO,HN.out,HG.out,hb⟩
end Go.Proofs.YtjjoahhnkpjolaaGreatDoor
