/- Texts joined,with what the laws reach alone. -/
import Derived.Test.YtlkpdgjnhkjpjaaGreatDoorSCAT
set_option linter.unusedVariables false
set_option linter.unusedSimpArgs false
set_option maxRecDepth 100000
set_option maxHeartbeats 4000000
namespace Go.Proofs.YtlkpdgjnhkjpjaaGreatDoor
open Go.RowKit Go.BigFrame
theorem q3k(kn sf:Int)(p:RepQ)(c:Int)(w:World)(h:repK.rd w p)(hn:RepQ.wf p)(h0:0≤c)(h1:c≤1048576):
  Calls Tryz.prog 36 #[.agg #[.int .i64 kn,.int .i64 sf,p.vd,p.vb,p.vt,p.vu,p.vn],.int .i64 c] w fun e w'=>∃r:Int,e=.returned (.int .i64 r)∧(¬r<0→(RepQ.n p:Int)+r=c)∧Below w.heap.size w w':=by
 have hm:=fun w h=>z9e p c w h hn h0 h1
 have hr:=fun(w':World) hb=>repK.rd_below (w':=w') h hb
 generalize (RepQ.n p:Int)=NP at*;clear hn;obtain⟨vd,done,vb,base,vt,x,vu,d,vn,y⟩:=p;obtain⟨a0,k0,rfl⟩:∃a c,vd=.slice a done.length c:=h.1.shape;obtain⟨a1,k1,rfl⟩:∃a c,vb=.slice a base.length c:=h.2.1.shape;obtain⟨a2,k2,rfl⟩:∃a c,vt=.slice a x.length c:=h.2.2.1.shape;obtain⟨a3,k3,rfl⟩:∃a c,vu=.slice a d.length c:=h.2.2.2.1.shape;obtain⟨a4,k4,rfl⟩:∃a c,vn=.slice a y.length c:=h.2.2.2.2.shape;dsimp only at hm;have hB:Below w.heap.size w (w.alloc (.cells #[.int .i64 kn,.int .i64 sf,.slice a0 done.length k0,.slice a1 base.length k1,.slice a2 x.length k2,.slice a3 d.length k3,.slice a4 y.length k4] 63)):=by go_grown
 have B:=Blk.new w 63 #[.int .i64 kn,.int .i64 sf,.slice a0 done.length k0,.slice a1 base.length k1,.slice a2 x.length k2,.slice a3 d.length k3,.slice a4 y.length k4];obtain⟨q0,q1,q2,q3,q4,q5,q6⟩:=B.cel7;go_enter Tryz.func36,Tryz.ntmps36
 go_wp2_with fail
 clear q0 q1 q2 q3 q4 q5 q6 B;have z:=hr _ hB;generalize w.alloc (.cells #[.int .i64 kn,.int .i64 sf,.slice a0 done.length k0,.slice a1 base.length k1,.slice a2 x.length k2,.slice a3 d.length k3,.slice a4 y.length k4] 63)=W at*;refine(hm W z).mono ?_;rintro e w1 ⟨r,rfl,hq,hb⟩;replace hB:=hB.trans (hb.mono hB.size);by_cases A:r<0
 ·go_wp2
  go_ret;exact⟨_,rfl,fun h=>absurd h (by decide),hB⟩
 ·go_wp2
  go_ret;exact⟨_,rfl,hq,hB⟩
theorem q3l(kn sf:Int)(p:RepQ)(w:World)(h:repK.rd w p)(hl:RepQ.n p≤1048576):
  Calls Tryz.prog 38 #[.agg #[.int .i64 kn,.int .i64 sf,p.vd,p.vb,p.vt,p.vu,p.vn]] w fun e w'=>∃p':RepQ,e=.returned (.agg #[.int .i64 kn,.int .i64 sf,p'.vd,p'.vb,p'.vt,p'.vu,p'.vn])∧p'.e=p.e∧repK.own w' p'∧(repK.foot p').Nodup∧(∀k∈repK.foot p',w.heap.size≤k)∧Below w.heap.size w w':=by
 have hm:=fun w h=>z9g p w h hl
 have hr:=fun(w':World) hb=>repK.rd_below (w':=w') h hb
 generalize p.e=PE at*;obtain⟨vd,done,vb,base,vt,x,vu,d,vn,y⟩:=p;obtain⟨a0,k0,rfl⟩:∃a c,vd=.slice a done.length c:=h.1.shape;obtain⟨a1,k1,rfl⟩:∃a c,vb=.slice a base.length c:=h.2.1.shape;obtain⟨a2,k2,rfl⟩:∃a c,vt=.slice a x.length c:=h.2.2.1.shape;obtain⟨a3,k3,rfl⟩:∃a c,vu=.slice a d.length c:=h.2.2.2.1.shape;obtain⟨a4,k4,rfl⟩:∃a c,vn=.slice a y.length c:=h.2.2.2.2.shape;dsimp only at hm;clear hl;have hB:Below w.heap.size w (((w.alloc (.cells #[.int .i64 kn,.int .i64 sf,.slice a0 done.length k0,.slice a1 base.length k1,.slice a2 x.length k2,.slice a3 d.length k3,.slice a4 y.length k4] 63)).alloc (.cells #[.int .i64 0,.int .i64 0,.slice none 0 0,.slice none 0 0,.slice none 0 0,.slice none 0 0,.slice none 0 0] 31)).alloc (.cells #[.int .i64 kn,.int .i64 sf,.slice none 0 0,.slice none 0 0,.slice none 0 0,.slice none 0 0,.slice none 0 0] 31)):=by go_grown
 have R:=(Blk.new (w.alloc (.cells #[.int .i64 kn,.int .i64 sf,.slice a0 done.length k0,.slice a1 base.length k1,.slice a2 x.length k2,.slice a3 d.length k3,.slice a4 y.length k4] 63)) 31 #[.int .i64 0,.int .i64 0,.slice none 0 0,.slice none 0 0,.slice none 0 0,.slice none 0 0,.slice none 0 0]).below (w':=(((w.alloc (.cells #[.int .i64 kn,.int .i64 sf,.slice a0 done.length k0,.slice a1 base.length k1,.slice a2 x.length k2,.slice a3 d.length k3,.slice a4 y.length k4] 63)).alloc (.cells #[.int .i64 0,.int .i64 0,.slice none 0 0,.slice none 0 0,.slice none 0 0,.slice none 0 0,.slice none 0 0] 31)).alloc (.cells #[.int .i64 kn,.int .i64 sf,.slice none 0 0,.slice none 0 0,.slice none 0 0,.slice none 0 0,.slice none 0 0] 31))) (by go_grown);have O:=Blk.new ((w.alloc (.cells #[.int .i64 kn,.int .i64 sf,.slice a0 done.length k0,.slice a1 base.length k1,.slice a2 x.length k2,.slice a3 d.length k3,.slice a4 y.length k4] 63)).alloc (.cells #[.int .i64 0,.int .i64 0,.slice none 0 0,.slice none 0 0,.slice none 0 0,.slice none 0 0,.slice none 0 0] 31)) 31 #[.int .i64 kn,.int .i64 sf,.slice none 0 0,.slice none 0 0,.slice none 0 0,.slice none 0 0,.slice none 0 0];have hS:(((w.alloc (.cells #[.int .i64 kn,.int .i64 sf,.slice a0 done.length k0,.slice a1 base.length k1,.slice a2 x.length k2,.slice a3 d.length k3,.slice a4 y.length k4] 63)).alloc (.cells #[.int .i64 0,.int .i64 0,.slice none 0 0,.slice none 0 0,.slice none 0 0,.slice none 0 0,.slice none 0 0] 31)).alloc (.cells #[.int .i64 kn,.int .i64 sf,.slice none 0 0,.slice none 0 0,.slice none 0 0,.slice none 0 0,.slice none 0 0] 31)).heap.size=w.heap.size+3:=by simp only[World.size_alloc]
 simp only[World.size_alloc]at R O;have B:=(Blk.new w 63 #[.int .i64 kn,.int .i64 sf,.slice a0 done.length k0,.slice a1 base.length k1,.slice a2 x.length k2,.slice a3 d.length k3,.slice a4 y.length k4]).below (w':=(((w.alloc (.cells #[.int .i64 kn,.int .i64 sf,.slice a0 done.length k0,.slice a1 base.length k1,.slice a2 x.length k2,.slice a3 d.length k3,.slice a4 y.length k4] 63)).alloc (.cells #[.int .i64 0,.int .i64 0,.slice none 0 0,.slice none 0 0,.slice none 0 0,.slice none 0 0,.slice none 0 0] 31)).alloc (.cells #[.int .i64 0,.int .i64 0,.slice none 0 0,.slice none 0 0,.slice none 0 0,.slice none 0 0,.slice none 0 0] 31))) (by go_grown);obtain⟨q0,q1,q2,q3,q4,q5,q6⟩:=B.cel7;go_enter Tryz.func38,Tryz.ntmps38
 go_wp2_with fail
 clear q0 q1 q2 q3 q4 q5 q6 B;have A:=hr _ hB;generalize (((w.alloc (.cells #[.int .i64 kn,.int .i64 sf,.slice a0 done.length k0,.slice a1 base.length k1,.slice a2 x.length k2,.slice a3 d.length k3,.slice a4 y.length k4] 63)).alloc (.cells #[.int .i64 0,.int .i64 0,.slice none 0 0,.slice none 0 0,.slice none 0 0,.slice none 0 0,.slice none 0 0] 31)).alloc (.cells #[.int .i64 kn,.int .i64 sf,.slice none 0 0,.slice none 0 0,.slice none 0 0,.slice none 0 0,.slice none 0 0] 31))=W at*;refine(hm W A).mono ?_;rintro e w1 ⟨q,rfl,E0,O0,N0,G0,hb⟩;replace hB:=hB.trans (hb.mono hB.size);replace R:=R.below hb;replace O:=O.below hb;have Y:=hb.size;clear hb hm hr A;obtain⟨N,qd,M,qb,U,qt,X,qu,T,qn⟩:=q;obtain⟨x0,z0,rfl⟩:∃a c,N=.slice a qd.length c:=O0.1.shape;obtain⟨x1,z1,rfl⟩:∃a c,M=.slice a qb.length c:=O0.2.1.shape;obtain⟨x2,z2,rfl⟩:∃a c,U=.slice a qt.length c:=O0.2.2.1.shape;obtain⟨x3,z3,rfl⟩:∃a c,X=.slice a qu.length c:=O0.2.2.2.1.shape;obtain⟨x4,z4,rfl⟩:∃a c,T=.slice a qn.length c:=O0.2.2.2.2.shape;have U1:=z9S w1 (w.heap.size+1+1) (.slice x0 qd.length z0) (.slice x1 qb.length z1) (.slice x2 qt.length z2) (.slice x3 qu.length z3) (.slice x4 qn.length z4);have O2:=O.mid5 (.slice x0 qd.length z0) (.slice x1 qb.length z1) (.slice x2 qt.length z2) (.slice x3 qu.length z3) (.slice x4 qn.length z4);have R2:Blk _ _ _ _:=(U1.block _ R.lt (by simp)).trans R;have OW:=repK.own_out O0 U1 (fun k hk=>by have:=G0 k hk;simp;omega);have z:=Out.keep hB U1 hB.size (fun k hk=>by simp at hk;omega);have L:(Tryz.prog.info? 29).map (·.size)=some (#[.slice x0 qd.length z0,.slice x1 qb.length z1,.slice x2 qt.length z2,.slice x3 qu.length z3,.slice x4 qn.length z4]:Array Value).size:=by kernel_rfl
 have J:(Tryz.prog.info? 31).map (·.size)=some (#[.int .i64 kn,.int .i64 sf,.slice x0 qd.length z0,.slice x1 qb.length z1,.slice x2 qt.length z2,.slice x3 qu.length z3,.slice x4 qn.length z4]:Array Value).size:=by kernel_rfl
 generalize hV:w1.setCells (w.heap.size+1+1) 2 [.slice x0 qd.length z0,.slice x1 qb.length z1,.slice x2 qt.length z2,.slice x3 qu.length z3,.slice x4 qn.length z4]=V at*;have R3:=R2.row #[.int .i64 kn,.int .i64 sf,.slice x0 qd.length z0,.slice x1 qb.length z1,.slice x2 qt.length z2,.slice x3 qu.length z3,.slice x4 qn.length z4];have U3:=z1w V (w.heap.size+1) #[.int .i64 kn,.int .i64 sf,.slice x0 qd.length z0,.slice x1 qb.length z1,.slice x2 qt.length z2,.slice x3 qu.length z3,.slice x4 qn.length z4];have C:=repK.own_out OW U3 (fun k hk=>by have:=G0 k hk;simp;omega);have I:=Out.keep z U3 z.size (fun k hk=>by simp at hk;omega);obtain⟨q0,q1,q2,q3,q4,q5,q6⟩:=O2.cel7
 go_wp2_with (first|(refine q3Q (by kernel_rfl) 29 _ _ rfl _ 2 #[.slice x0 qd.length z0,.slice x1 qb.length z1,.slice x2 qt.length z2,.slice x3 qu.length z3,.slice x4 qn.length z4] rfl rfl 31 _ O L (by simp) (by simp[Value.oneCell']) ?_;(try dsimp only);rw[hV])|(refine z0K (by kernel_rfl) 31 _ _ rfl _ #[.int .i64 kn,.int .i64 sf,.slice x0 qd.length z0,.slice x1 qb.length z1,.slice x2 qt.length z2,.slice x3 qu.length z3,.slice x4 qn.length z4] rfl rfl 31 _ R2 J rfl (by simp[Value.oneCell']) ?_))
 obtain⟨r0,r1,r2,r3,r4,r5,r6⟩:=R3.cel7;exact bodyPost_ret (v:=.agg #[.int .i64 kn,.int .i64 sf,.slice x0 qd.length z0,.slice x1 qb.length z1,.slice x2 qt.length z2,.slice x3 qu.length z3,.slice x4 qn.length z4]) (by simp[results,Tryz.results38,go_sem,r0,r1,r2,r3,r4,r5,r6]) rfl ⟨_,rfl,E0,C,N0,fun k hk=>by have:=G0 k hk;omega,I⟩
theorem z9U(kn sf:Int)(p p':RepQ)(w:World)(h:repK.rd w p)(h':repK.rd w p')(he:p.e=p'.e)(hl:RepQ.n p≤1048576):
  Calls Tryz.prog 41 #[.agg #[.int .i64 kn,.int .i64 sf,p.vd,p.vb,p.vt,p.vu,p.vn],.agg #[.int .i64 kn,.int .i64 sf,p'.vd,p'.vb,p'.vt,p'.vu,p'.vn]] w fun e w'=>e=.returned (.bool true)∧Below w.heap.size w w':=by
 have hm:=fun w h h'=>z9f p p' w h h' he hl
 have hr:=fun(w':World) hb=>repK.rd_below (w':=w') h hb
 have ab:=fun(w':World) hb=>repK.rd_below (w':=w') h' hb
 obtain⟨vd,done,vb,base,vt,C,vu,x,vn,J⟩:=p;obtain⟨a0,k0,rfl⟩:∃a c,vd=.slice a done.length c:=h.1.shape;obtain⟨a1,k1,rfl⟩:∃a c,vb=.slice a base.length c:=h.2.1.shape;obtain⟨a2,k2,rfl⟩:∃a c,vt=.slice a C.length c:=h.2.2.1.shape;obtain⟨a3,k3,rfl⟩:∃a c,vu=.slice a x.length c:=h.2.2.2.1.shape;obtain⟨a4,k4,rfl⟩:∃a c,vn=.slice a J.length c:=h.2.2.2.2.shape;obtain⟨af,z,ae,y,ah,A,ai,d,ag,I⟩:=p';obtain⟨L,U,rfl⟩:∃a c,af=.slice a z.length c:=h'.1.shape;obtain⟨M,V,rfl⟩:∃a c,ae=.slice a y.length c:=h'.2.1.shape;obtain⟨N,X,rfl⟩:∃a c,ah=.slice a A.length c:=h'.2.2.1.shape;obtain⟨O,Y,rfl⟩:∃a c,ai=.slice a d.length c:=h'.2.2.2.1.shape;obtain⟨T,Z,rfl⟩:∃a c,ag=.slice a I.length c:=h'.2.2.2.2.shape;dsimp only at hm;clear he hl;have hB:Below w.heap.size w ((w.alloc (.cells #[.int .i64 kn,.int .i64 sf,.slice a0 done.length k0,.slice a1 base.length k1,.slice a2 C.length k2,.slice a3 x.length k3,.slice a4 J.length k4] 31)).alloc (.cells #[.int .i64 kn,.int .i64 sf,.slice L z.length U,.slice M y.length V,.slice N A.length X,.slice O d.length Y,.slice T I.length Z] 31)):=by go_grown
 have B:=(Blk.new w 31 #[.int .i64 kn,.int .i64 sf,.slice a0 done.length k0,.slice a1 base.length k1,.slice a2 C.length k2,.slice a3 x.length k3,.slice a4 J.length k4]).below (w':=(w.alloc (.cells #[.int .i64 kn,.int .i64 sf,.slice a0 done.length k0,.slice a1 base.length k1,.slice a2 C.length k2,.slice a3 x.length k3,.slice a4 J.length k4] 31)).alloc (.cells #[.int .i64 kn,.int .i64 sf,.slice L z.length U,.slice M y.length V,.slice N A.length X,.slice O d.length Y,.slice T I.length Z] 31)) (by go_grown);have B':=Blk.new (w.alloc (.cells #[.int .i64 kn,.int .i64 sf,.slice a0 done.length k0,.slice a1 base.length k1,.slice a2 C.length k2,.slice a3 x.length k3,.slice a4 J.length k4] 31)) 31 #[.int .i64 kn,.int .i64 sf,.slice L z.length U,.slice M y.length V,.slice N A.length X,.slice O d.length Y,.slice T I.length Z];simp only[World.size_alloc]at B';obtain⟨q0,q1,q2,q3,q4,q5,q6⟩:=B.cel7;have s0:=B'.cell 0 _ rfl;have s1:=B'.cell 1 _ rfl;have s2:=B'.cell 2 _ rfl;have s3:=B'.cell 3 _ rfl;have s4:=B'.cell 4 _ rfl;have s5:=B'.cell 5 _ rfl;have s6:=B'.cell 6 _ rfl;have n0:(kn !=kn)=false:=by simp
 have n1:(sf !=sf)=false:=by simp
 go_enter Tryz.func41,Tryz.ntmps41
 go_wp2_with fail
 clear q0 q1 q2 q3 q4 q5 q6 s0 s1 s2 s3 s4 s5 s6 B B';have ad:=hr _ hB;have aa:=ab _ hB;generalize ((w.alloc (.cells #[.int .i64 kn,.int .i64 sf,.slice a0 done.length k0,.slice a1 base.length k1,.slice a2 C.length k2,.slice a3 x.length k3,.slice a4 J.length k4] 31)).alloc (.cells #[.int .i64 kn,.int .i64 sf,.slice L z.length U,.slice M y.length V,.slice N A.length X,.slice O d.length Y,.slice T I.length Z] 31))=W at*;refine(hm W ad aa).mono ?_;rintro e w3 ⟨rfl,hb⟩;replace hB:=hB.trans (hb.mono hB.size)
 go_wp2
 go_ret;exact⟨rfl,hB⟩
theorem z6u(kn sf:Int)(p:RepQ)(c:Int)(w:World)(h:repK.own w p)(z:(repK.foot p).Nodup)(hl:RepQ.n p≤1048576)(h0:0≤c)(h1:c≤1000000000):
  Calls Tryz.prog 43 #[.agg #[.int .i64 kn,.int .i64 sf,p.vd,p.vb,p.vt,p.vu,p.vn],.int .i64 c] w fun e w'=>e=.returned (.int .i64 (c+(nmRep p:Int)))∧repK.own w' (mkRep c p)∧Out (repK.foot p) w w':=by
 have hm:=fun w h=>z7k p c w h z hl h0 h1
 have hr:=fun(w':World) (hb:Below w.heap.size w w')=>repK.own_out (F:=[]) (w':=w') h (Out.of_below hb) (fun _ _=>by simp)
 generalize mkRep c p=M at*;generalize nmRep p=NR at*;generalize repK.foot p=FT at*;obtain⟨vd,done,vb,base,vt,x,vu,d,vn,y⟩:=p;obtain⟨a0,k0,rfl⟩:∃a c,vd=.slice a done.length c:=h.1.shape;obtain⟨a1,k1,rfl⟩:∃a c,vb=.slice a base.length c:=h.2.1.shape;obtain⟨a2,k2,rfl⟩:∃a c,vt=.slice a x.length c:=h.2.2.1.shape;obtain⟨a3,k3,rfl⟩:∃a c,vu=.slice a d.length c:=h.2.2.2.1.shape;obtain⟨a4,k4,rfl⟩:∃a c,vn=.slice a y.length c:=h.2.2.2.2.shape;dsimp only at hm;have hB:Below w.heap.size w (w.alloc (.cells #[.int .i64 kn,.int .i64 sf,.slice a0 done.length k0,.slice a1 base.length k1,.slice a2 x.length k2,.slice a3 d.length k3,.slice a4 y.length k4] 31)):=by go_grown
 have B:=Blk.new w 31 #[.int .i64 kn,.int .i64 sf,.slice a0 done.length k0,.slice a1 base.length k1,.slice a2 x.length k2,.slice a3 d.length k3,.slice a4 y.length k4];obtain⟨q0,q1,q2,q3,q4,q5,q6⟩:=B.cel7;go_enter Tryz.func43,Tryz.ntmps43
 go_wp2_with fail
 clear q0 q1 q2 q3 q4 q5 q6 B;have A:=hr _ hB;generalize w.alloc (.cells #[.int .i64 kn,.int .i64 sf,.slice a0 done.length k0,.slice a1 base.length k1,.slice a2 x.length k2,.slice a3 d.length k3,.slice a4 y.length k4] 31)=W at*;refine(hm W A).mono ?_;rintro e w1 ⟨rfl,O,u⟩
 go_wp2
 go_ret;exact⟨rfl,O,(Out.of_below hB).trans u⟩
theorem q0L(kn sf:Int)(p:RepQ)(c:Int)(w:World)(h:repK.rd w (mkRep c p))(hl:RepQ.n p≤1048576)(h0:0≤c)(h1:c≤1000000000):
  Calls Tryz.prog 89 #[.agg #[.int .i64 kn,.int .i64 sf,p.vd,p.vb,p.vt,p.vu,p.vn],.int .i64 c] w fun e w'=>e=.returned (.int .i64 (c+(nmRep p:Int)))∧Below w.heap.size w w':=by
 have hm:=fun w h=>z7l p c w h hl h0 h1
 have hr:=fun(w':World) hb=>repK.rd_below (w':=w') h hb
 have hs:=z8r h;generalize mkRep c p=M at*;generalize nmRep p=NR at*;clear hl;obtain⟨vd,done,vb,base,vt,tent,vu,undos,vn,now⟩:=p;obtain⟨⟨a0,l0,k0,rfl⟩,⟨a1,l1,k1,rfl⟩,⟨a2,l2,k2,rfl⟩,⟨a3,l3,k3,rfl⟩,⟨a4,l4,k4,rfl⟩⟩:=hs;dsimp only at hm;have hB:Below w.heap.size w (w.alloc (.cells #[.int .i64 kn,.int .i64 sf,.slice a0 l0 k0,.slice a1 l1 k1,.slice a2 l2 k2,.slice a3 l3 k3,.slice a4 l4 k4] 31)):=by go_grown
 have B:=Blk.new w 31 #[.int .i64 kn,.int .i64 sf,.slice a0 l0 k0,.slice a1 l1 k1,.slice a2 l2 k2,.slice a3 l3 k3,.slice a4 l4 k4];obtain⟨q0,q1,q2,q3,q4,q5,q6⟩:=B.cel7;have hg:¬c+(NR:Int)<0:=by omega
 go_enter Tryz.func89,Tryz.ntmps89
 go_wp2_with fail
 clear q0 q1 q2 q3 q4 q5 q6 B;have hr0:=hr _ hB;generalize w.alloc (.cells #[.int .i64 kn,.int .i64 sf,.slice a0 l0 k0,.slice a1 l1 k1,.slice a2 l2 k2,.slice a3 l3 k3,.slice a4 l4 k4] 31)=W at*;refine(hm W hr0).mono ?_;rintro e w1 ⟨rfl,hb⟩;replace hB:=hB.trans (hb.mono hB.size)
 go_wp2
 go_ret;exact⟨rfl,hB⟩
theorem q17(co an kn sf:Int)(p p':RepQ)(w:World)(h:repK.rd w p)(h':repK.rd w p')(he:p.e=p'.e)(hl:RepQ.n p≤1048576):
  Calls Tryz.prog 39 #[.agg #[.int .i64 co,.int .i64 an,.int .i64 kn,.int .i64 sf,p.vd,p.vb,p.vt,p.vu,p.vn],.agg #[.int .i64 co,.int .i64 an,.int .i64 kn,.int .i64 sf,p'.vd,p'.vb,p'.vt,p'.vu,p'.vn]] w fun e w'=>e=.returned (.bool true)∧Below w.heap.size w w':=by
 have hm:=fun w h h'=>z9U kn sf p p' w h h' he hl
 have hr:=fun(w':World) hb=>repK.rd_below (w':=w') h hb
 have ab:=fun(w':World) hb=>repK.rd_below (w':=w') h' hb
 obtain⟨vd,done,vb,base,vt,C,vu,x,vn,J⟩:=p;obtain⟨a0,k0,rfl⟩:∃a c,vd=.slice a done.length c:=h.1.shape;obtain⟨a1,k1,rfl⟩:∃a c,vb=.slice a base.length c:=h.2.1.shape;obtain⟨a2,k2,rfl⟩:∃a c,vt=.slice a C.length c:=h.2.2.1.shape;obtain⟨a3,k3,rfl⟩:∃a c,vu=.slice a x.length c:=h.2.2.2.1.shape;obtain⟨a4,k4,rfl⟩:∃a c,vn=.slice a J.length c:=h.2.2.2.2.shape;obtain⟨af,z,ae,y,ah,A,ai,d,ag,I⟩:=p';obtain⟨L,U,rfl⟩:∃a c,af=.slice a z.length c:=h'.1.shape;obtain⟨M,V,rfl⟩:∃a c,ae=.slice a y.length c:=h'.2.1.shape;obtain⟨N,X,rfl⟩:∃a c,ah=.slice a A.length c:=h'.2.2.1.shape;obtain⟨O,Y,rfl⟩:∃a c,ai=.slice a d.length c:=h'.2.2.2.1.shape;obtain⟨T,Z,rfl⟩:∃a c,ag=.slice a I.length c:=h'.2.2.2.2.shape;dsimp only at hm;clear he hl;have hB:Below w.heap.size w ((w.alloc (.cells #[.int .i64 co,.int .i64 an,.int .i64 kn,.int .i64 sf,.slice a0 done.length k0,.slice a1 base.length k1,.slice a2 C.length k2,.slice a3 x.length k3,.slice a4 J.length k4] 35)).alloc (.cells #[.int .i64 co,.int .i64 an,.int .i64 kn,.int .i64 sf,.slice L z.length U,.slice M y.length V,.slice N A.length X,.slice O d.length Y,.slice T I.length Z] 35)):=by go_grown
 have B:=(Blk.new w 35 #[.int .i64 co,.int .i64 an,.int .i64 kn,.int .i64 sf,.slice a0 done.length k0,.slice a1 base.length k1,.slice a2 C.length k2,.slice a3 x.length k3,.slice a4 J.length k4]).below (w':=(w.alloc (.cells #[.int .i64 co,.int .i64 an,.int .i64 kn,.int .i64 sf,.slice a0 done.length k0,.slice a1 base.length k1,.slice a2 C.length k2,.slice a3 x.length k3,.slice a4 J.length k4] 35)).alloc (.cells #[.int .i64 co,.int .i64 an,.int .i64 kn,.int .i64 sf,.slice L z.length U,.slice M y.length V,.slice N A.length X,.slice O d.length Y,.slice T I.length Z] 35)) (by go_grown);have B':=Blk.new (w.alloc (.cells #[.int .i64 co,.int .i64 an,.int .i64 kn,.int .i64 sf,.slice a0 done.length k0,.slice a1 base.length k1,.slice a2 C.length k2,.slice a3 x.length k3,.slice a4 J.length k4] 35)) 35 #[.int .i64 co,.int .i64 an,.int .i64 kn,.int .i64 sf,.slice L z.length U,.slice M y.length V,.slice N A.length X,.slice O d.length Y,.slice T I.length Z];simp only[World.size_alloc]at B';obtain⟨q0,q1,q2,q3,q4,q5,q6,q7,q8⟩:=B.cel9;have s0:=B'.cell 0 _ rfl;have s1:=B'.cell 1 _ rfl;have s2:=B'.cell 2 _ rfl;have s3:=B'.cell 3 _ rfl;have s4:=B'.cell 4 _ rfl;have s5:=B'.cell 5 _ rfl;have s6:=B'.cell 6 _ rfl;have s7:=B'.cell 7 _ rfl;have s8:=B'.cell 8 _ rfl;have n0:(co !=co)=false:=by simp
 have n1:(an !=an)=false:=by simp
 have n2:(kn !=kn)=false:=by simp
 have n3:(sf !=sf)=false:=by simp
 go_enter Tryz.func39,Tryz.ntmps39
 go_wp2_with fail
 clear q0 q1 q2 q3 q4 q5 q6 q7 q8 s0 s1 s2 s3 s4 s5 s6 s7 s8 B B';have ad:=hr _ hB;have aa:=ab _ hB;generalize ((w.alloc (.cells #[.int .i64 co,.int .i64 an,.int .i64 kn,.int .i64 sf,.slice a0 done.length k0,.slice a1 base.length k1,.slice a2 C.length k2,.slice a3 x.length k3,.slice a4 J.length k4] 35)).alloc (.cells #[.int .i64 co,.int .i64 an,.int .i64 kn,.int .i64 sf,.slice L z.length U,.slice M y.length V,.slice N A.length X,.slice O d.length Y,.slice T I.length Z] 35))=W at*;refine(hm W ad aa).mono ?_;rintro e w3 ⟨rfl,hb⟩;replace hB:=hB.trans (hb.mono hB.size)
 go_wp2
 go_ret;exact⟨rfl,hB⟩
theorem q3m(co an kn sf:Int)(p:RepQ)(c:Int)(w:World)(h:repK.own w p)(z:(repK.foot p).Nodup)(hl:RepQ.n p≤1048576)(h0:0≤c)(h1:c≤1000000000):
  Calls Tryz.prog 44 #[.agg #[.int .i64 co,.int .i64 an,.int .i64 kn,.int .i64 sf,p.vd,p.vb,p.vt,p.vu,p.vn],.int .i64 c] w fun e w'=>e=.returned (.int .i64 (c+(nmRep p:Int)))∧repK.own w' (mkRep c p)∧Out (repK.foot p) w w':=by
 have hm:=fun w h=>z6u kn sf p c w h z hl h0 h1
 have hr:=fun(w':World) (hb:Below w.heap.size w w')=>repK.own_out (F:=[]) (w':=w') h (Out.of_below hb) (fun _ _=>by simp)
 generalize mkRep c p=M at*;generalize nmRep p=NR at*;generalize repK.foot p=FT at*;obtain⟨vd,done,vb,base,vt,x,vu,d,vn,y⟩:=p;obtain⟨a0,k0,rfl⟩:∃a c,vd=.slice a done.length c:=h.1.shape;obtain⟨a1,k1,rfl⟩:∃a c,vb=.slice a base.length c:=h.2.1.shape;obtain⟨a2,k2,rfl⟩:∃a c,vt=.slice a x.length c:=h.2.2.1.shape;obtain⟨a3,k3,rfl⟩:∃a c,vu=.slice a d.length c:=h.2.2.2.1.shape;obtain⟨a4,k4,rfl⟩:∃a c,vn=.slice a y.length c:=h.2.2.2.2.shape;dsimp only at hm;have hB:Below w.heap.size w (w.alloc (.cells #[.int .i64 co,.int .i64 an,.int .i64 kn,.int .i64 sf,.slice a0 done.length k0,.slice a1 base.length k1,.slice a2 x.length k2,.slice a3 d.length k3,.slice a4 y.length k4] 35)):=by go_grown
 have B:=Blk.new w 35 #[.int .i64 co,.int .i64 an,.int .i64 kn,.int .i64 sf,.slice a0 done.length k0,.slice a1 base.length k1,.slice a2 x.length k2,.slice a3 d.length k3,.slice a4 y.length k4];obtain⟨q0,q1,q2,q3,q4,q5,q6,q7,q8⟩:=B.cel9;go_enter Tryz.func44,Tryz.ntmps44
 go_wp2_with fail
 clear q0 q1 q2 q3 q4 q5 q6 q7 q8 B;have A:=hr _ hB;generalize w.alloc (.cells #[.int .i64 co,.int .i64 an,.int .i64 kn,.int .i64 sf,.slice a0 done.length k0,.slice a1 base.length k1,.slice a2 x.length k2,.slice a3 d.length k3,.slice a4 y.length k4] 35)=W at*;refine(hm W A).mono ?_;rintro e w1 ⟨rfl,O,u⟩
 go_wp2
 go_ret;exact⟨rfl,O,(Out.of_below hB).trans u⟩
theorem q3n(co an kn sf:Int)(p:RepQ)(c:Int)(w:World)(h:repK.rd w (mkRep c p))(hl:RepQ.n p≤1048576)(h0:0≤c)(h1:c≤1000000000):
  Calls Tryz.prog 45 #[.agg #[.int .i64 co,.int .i64 an,.int .i64 kn,.int .i64 sf,p.vd,p.vb,p.vt,p.vu,p.vn],.int .i64 c] w fun e w'=>e=.returned (.int .i64 (c+(nmRep p:Int)))∧Below w.heap.size w w':=by
 have hm:=fun w h=>q0L kn sf p c w h hl h0 h1
 have hr:=fun(w':World) hb=>repK.rd_below (w':=w') h hb
 have hs:=z8r h;generalize mkRep c p=M at*;generalize nmRep p=NR at*;clear hl;obtain⟨vd,done,vb,base,vt,tent,vu,undos,vn,now⟩:=p;obtain⟨⟨a0,l0,k0,rfl⟩,⟨a1,l1,k1,rfl⟩,⟨a2,l2,k2,rfl⟩,⟨a3,l3,k3,rfl⟩,⟨a4,l4,k4,rfl⟩⟩:=hs;dsimp only at hm;have hB:Below w.heap.size w (w.alloc (.cells #[.int .i64 co,.int .i64 an,.int .i64 kn,.int .i64 sf,.slice a0 l0 k0,.slice a1 l1 k1,.slice a2 l2 k2,.slice a3 l3 k3,.slice a4 l4 k4] 35)):=by go_grown
 have B:=Blk.new w 35 #[.int .i64 co,.int .i64 an,.int .i64 kn,.int .i64 sf,.slice a0 l0 k0,.slice a1 l1 k1,.slice a2 l2 k2,.slice a3 l3 k3,.slice a4 l4 k4];obtain⟨q0,q1,q2,q3,q4,q5,q6,q7,q8⟩:=B.cel9;have hg:¬c+(NR:Int)<0:=by omega
 go_enter Tryz.func45,Tryz.ntmps45
 go_wp2_with fail
 clear q0 q1 q2 q3 q4 q5 q6 q7 q8 B;have hr0:=hr _ hB;generalize w.alloc (.cells #[.int .i64 co,.int .i64 an,.int .i64 kn,.int .i64 sf,.slice a0 l0 k0,.slice a1 l1 k1,.slice a2 l2 k2,.slice a3 l3 k3,.slice a4 l4 k4] 35)=W at*;refine(hm W hr0).mono ?_;rintro e w1 ⟨rfl,hb⟩;replace hB:=hB.trans (hb.mono hB.size)
 go_wp2
 go_ret;exact⟨rfl,hB⟩
section
open Go.Deep Go.ChangeShapes Go.WideShapes
section
variable {H:Type} {enc:TypeId × Value→H} {w:World} {base:Nat} {spare:Nat→Bool} {held:Bool}
theorem q0M(n:Nat)(l:List Value)(y:DataW H × List MemPlace)(h:DataW.trod enc Tryz.prog w base spare held n 123 l=some y):∃p:InstQ,l=instK.cells p∧instK.rd w p∧InstQ.wf p:=by
 obtain⟨p,e,h1,h2⟩:=z55 h;exact⟨p,e,h1,h2⟩
theorem q4L{r:Reach}{b0:Nat}{v:Value}{d:DataW H}{p:List MemPlace}(hv:Value.okWide Tryz.prog w r b0 56 v)(h:DataW.Trod enc Tryz.prog w base spare held 56 v d p):
  ∃ps:List InstQ,instK.At w v ps∧ps.length≤9223372036854775807∧∀p∈ps,InstQ.wf p:=by
 obtain⟨a0,len0,cap0,rfl⟩:=okWide_slice Tryz.underlying56 hv;obtain⟨fuel,hf⟩:=h;obtain⟨v,ps,e,h1,h2,h3⟩:=z1G instK InstQ.wf Tryz.underlying56 (by kernel_rfl) (by decide) q0M hf;simp[Value.cells]at e;rw[←e]at h1;exact⟨ps,h1,h2,h3⟩
end
section
variable {H:Type} {enc:TypeId × Value→H} {w:World} {base:Nat} {spare:Nat→Bool} {held:Bool}
theorem z8s{P:Program}{t:TypeId}{f0 f1 f2 f3 f4:Field}{fuel:Nat}{cs:List Value}{x:DataW H × List MemPlace}(ht:P.underlying t=some (.struct #[f0,f1,f2,f3,f4]))(h:DataW.trod enc P w base spare held fuel t cs=some x):
  ∃y0 y1 y2 y3 y4 n,cs.length=P.cellsOf t∧DataW.trod enc P w base spare held n f0.type ((cs.drop f0.offset).take (P.cellsOf f0.type))=some y0∧
   DataW.trod enc P w base spare held n f1.type ((cs.drop f1.offset).take (P.cellsOf f1.type))=some y1∧DataW.trod enc P w base spare held n f2.type ((cs.drop f2.offset).take (P.cellsOf f2.type))=some y2∧
   DataW.trod enc P w base spare held n f3.type ((cs.drop f3.offset).take (P.cellsOf f3.type))=some y3∧DataW.trod enc P w base spare held n f4.type ((cs.drop f4.offset).take (P.cellsOf f4.type))=some y4:=by
 obtain⟨xs,n,_,rfl,hl,hlen,hf⟩:=DataW.trod_struct ht h
 match xs,hlen with
 |[y0,y1,y2,y3,y4],_=>exact⟨y0,y1,y2,y3,y4,n,hl,by simpa using hf 0 f0 rfl,by simpa using hf 1 f1 rfl,by simpa using hf 2 f2 rfl,by simpa using hf 3 f3 rfl,by simpa using hf 4 f4 rfl⟩
theorem q18{fuel:Nat}{cs:List Value}{x:DataW H × List MemPlace}(h:DataW.trod enc Tryz.prog w base spare held fuel 270 cs=some x):∃z:ItemD,cs=z.cells:=by
 obtain⟨y0,y1,n,_,hl,h0,h1⟩:=trod_struct2 Tryz.underlying270 h;rw[show Tryz.prog.cellsOf 270=2 by kernel_rfl]at hl;have e:Tryz.prog.cellsOf 2=1:=by kernel_rfl
 match cs,hl with
 |[c0,c1],_=>
  simp only[e,List.drop_zero,List.drop_succ_cons,List.take_succ_cons,List.take_zero]at h0 h1;obtain⟨k,e0,_⟩:=DataW.trod_int Tryz.underlying2 h0;obtain⟨y,e1,_⟩:=DataW.trod_int Tryz.underlying2 h1;simp only[List.cons.injEq,and_true]at e0 e1;exact⟨⟨k,y⟩,by rw[e0,e1];rfl⟩
theorem q19{fuel:Nat}{cs:List Value}{x:DataW H × List MemPlace}(h:DataW.trod enc Tryz.prog w base spare held fuel 329 cs=some x):∃z:UndoD,cs=z.cells:=by
 obtain⟨y0,y1,y2,n,_,hl,h0,h1,h2⟩:=trod_struct3 Tryz.underlying329 h;rw[show Tryz.prog.cellsOf 329=3 by kernel_rfl]at hl;have e:Tryz.prog.cellsOf 2=1:=by kernel_rfl
 have e':Tryz.prog.cellsOf 4=1:=by kernel_rfl
 match cs,hl with
 |[c0,c1,c2],_=>
  simp only[e,e',List.drop_zero,List.drop_succ_cons,List.take_succ_cons,List.take_zero]at h0 h1 h2;obtain⟨k,e0,_⟩:=DataW.trod_int Tryz.underlying2 h0;obtain⟨y,e1,_⟩:=DataW.trod_bool Tryz.underlying4 h1;obtain⟨v,e2,_⟩:=DataW.trod_int Tryz.underlying2 h2;simp only[List.cons.injEq,and_true]at e0 e1 e2;exact⟨⟨k,y,v⟩,by rw[e0,e1,e2];rfl⟩
theorem q0N(n:Nat)(l:List Value)(y:DataW H × List MemPlace)(h:DataW.trod enc Tryz.prog w base spare held n 270 l=some y):∃p:ItemD,l=itemK.cells p∧itemK.rd w p∧True:=by
 obtain⟨z,e⟩:=q18 h;exact⟨z,e,trivial,trivial⟩
theorem z5x{fuel:Nat}{cs:List Value}{x:DataW H × List MemPlace}(h:DataW.trod enc Tryz.prog w base spare held fuel 58 cs=some x):
  ∃ (v:Value) (zs:List ItemD),cs=[v]∧itemK.At w v zs∧zs.length≤9223372036854775807:=by
 obtain⟨v,ps,h1,h2,h3,_⟩:=z1G itemK (fun _=>True) Tryz.underlying58 (by kernel_rfl) (by decide) q0N h;exact⟨v,ps,h1,h2,h3⟩
theorem q0O(n:Nat)(l:List Value)(y:DataW H × List MemPlace)(h:DataW.trod enc Tryz.prog w base spare held n 329 l=some y):∃p:UndoD,l=undoK.cells p∧undoK.rd w p∧True:=by
 obtain⟨z,e⟩:=q19 h;exact⟨z,e,trivial,trivial⟩
theorem z9p(n:Nat)(l:List Value)(y:DataW H × List MemPlace)(h:DataW.trod enc Tryz.prog w base spare held n 267 l=some y):∃p:USQ,l=ussK.cells p∧ussK.rd w p∧USQ.wf p:=by
 obtain⟨v,ps,h1,h2,h3,_⟩:=z1G undoK (fun _=>True) Tryz.underlying267 (by kernel_rfl) (by decide) q0O h;exact⟨⟨v,ps⟩,h1,h2,h3⟩
theorem q2a{fuel:Nat}{cs:List Value}{x:DataW H × List MemPlace}(h:DataW.trod enc Tryz.prog w base spare held fuel 59 cs=some x):
  ∃ (v:Value) (ps:List USQ),cs=[v]∧ussK.At w v ps∧ps.length≤9223372036854775807∧∀p∈ps,USQ.wf p:=
 z1G ussK USQ.wf Tryz.underlying59 (by kernel_rfl) (by decide) z9p h
theorem z7m{fuel:Nat}{cs:List Value}{x:DataW H × List MemPlace}(h:DataW.trod enc Tryz.prog w base spare held fuel 61 cs=some x):
  ∃p:RepQ,cs=[p.vd,p.vb,p.vt,p.vu,p.vn]∧repK.rd w p∧p.wf:=by
 obtain⟨y0,y1,y2,y3,y4,n,hl,h0,h1,h2,h3,h4⟩:=z8s Tryz.underlying61 h;rw[show Tryz.prog.cellsOf 61=5 by kernel_rfl]at hl;have e:Tryz.prog.cellsOf 57=1:=by kernel_rfl
 have e':Tryz.prog.cellsOf 58=1:=by kernel_rfl
 have e2:Tryz.prog.cellsOf 59=1:=by kernel_rfl
 match cs,hl with
 |[c0,c1,c2,c3,c4],_=>
  simp only[e,e',e2,List.drop_zero,List.drop_succ_cons,List.take_succ_cons,List.take_zero]at h0 h1 h2 h3 h4;obtain⟨v0,z0,e0,a0,l0,w0⟩:=z38 h0;obtain⟨v1,z1,e1,a1,l1⟩:=z5x h1;obtain⟨v2,z2,e2,a2,l2,w2⟩:=z38 h2;obtain⟨v3,z3,e3,a3,l3,w3⟩:=q2a h3;obtain⟨v4,z4,e4,a4,l4⟩:=z5x h4;simp only[List.cons.injEq,and_true]at e0 e1 e2 e3 e4;exact⟨⟨v0,z0,v1,z1,v2,z2,v3,z3,v4,z4⟩,by rw[e0,e1,e2,e3,e4],⟨a0,a1,a2,a3,a4⟩,⟨⟨l0,w0⟩,l1,⟨l2,w2⟩,⟨l3,w3⟩,l4⟩⟩
end
section
variable {H:Type} {enc:TypeId × Value→H} {w:World} {base:Nat} {spare:Nat→Bool} {held:Bool}
theorem z59{fuel:Nat}{cs:List Value}{x:DataW H × List MemPlace}(h:DataW.trod enc Tryz.prog w base spare held fuel 63 cs=some x):
  ∃ (kn sf:Int) (p:RepQ),cs=[.int .i64 kn,.int .i64 sf,p.vd,p.vb,p.vt,p.vu,p.vn]∧repK.rd w p∧p.wf:=by
 obtain⟨y0,y1,y2,n,_,hl,h0,h1,h2⟩:=trod_struct3 Tryz.underlying63 h;rw[show Tryz.prog.cellsOf 63=7 by kernel_rfl]at hl;have e:Tryz.prog.cellsOf 2=1:=by kernel_rfl
 have e':Tryz.prog.cellsOf 61=5:=by kernel_rfl
 match cs,hl with
 |[c0,c1,c2,c3,c4,c5,c6],_=>
  simp only[e,e',List.drop_zero,List.drop_succ_cons,List.take_succ_cons,List.take_zero]at h0 h1 h2;obtain⟨k,e0,_⟩:=DataW.trod_int Tryz.underlying2 h0;obtain⟨s,e1,_⟩:=DataW.trod_int Tryz.underlying2 h1;obtain⟨p,e2,r,wf⟩:=z7m h2;simp only[List.cons.injEq,and_true]at e0 e1 e2;exact⟨k,s,p,by rw[e0,e1,e2.1,e2.2.1,e2.2.2.1,e2.2.2.2.1,e2.2.2.2.2],r,wf⟩
theorem q5E{r:Reach}{b0:Nat}{v:Value}{d:DataW H}{p:List MemPlace}(hv:Value.okWide Tryz.prog w r b0 63 v)(h:DataW.Trod enc Tryz.prog w base spare held 63 v d p):
  ∃ (kn sf:Int) (q:RepQ),v=.agg #[.int .i64 kn,.int .i64 sf,q.vd,q.vb,q.vt,q.vu,q.vn]∧repK.rd w q∧q.wf:=by
 obtain⟨cs,rfl,hsz⟩:=okWide_struct Tryz.underlying63 hv;obtain⟨fuel,hf⟩:=h;obtain⟨kn,sf,q,e,h1,h2⟩:=z59 hf;refine⟨kn,sf,q,?_,h1,h2⟩
 congr 1
 apply Array.ext';simpa[Value.cells]using e
end
end
section
open Go.ChangeShapes Go.WideShapes
theorem q44 {W : World} (h : laidMet Tryz.prog [("loop.example/g00631/impl.rules", Rows.laid_loop_example_g00631_impl_rules)] W) : Rul W := by
 obtain⟨g,t,cs,fuel,p,hg,ht,hvar,hd⟩:=Lib.laidMet.reads h (List.mem_singleton.2 rfl);obtain rfl:=Option.some.inj (gRul.symm.trans hg);obtain rfl:=Option.some.inj (tRul.symm.trans ht);unfold Rows.laid_loop_example_g00631_impl_rules at hd;have e:∀i,i<5→∃fuel' d q,_∧_:=fun i hi=>Lib.array_elem Tryz.underlying402 hd i hi
 rw[q5p]at e;obtain⟨f0,d0,q0,r0,s0⟩:=e 0 (by omega);obtain⟨f1,d1,q1,r1,s1⟩:=e 1 (by omega);obtain⟨f2,d2,q2,r2,s2⟩:=e 2 (by omega);obtain⟨f3,d3,q3,r3,s3⟩:=e 3 (by omega);obtain⟨f4,d4,q4,r4,s4⟩:=e 4 (by omega);simp only[List.getElem?_cons_zero,List.getElem?_cons_succ,Option.some.injEq]at r0 r1 r2 r3 r4;subst r0 r1 r2 r3 r4;have t0:=z1Y s0;have t1:=z1Y s1;have t2:=z1Y s2;have t3:=z1Y s3;have t4:=z1Y s4;have hall:cs.toList.take 35=q5T:=by
  rw[show 35=0*7+7+7+7+7+7 from rfl,List.take_add,List.take_add,List.take_add,List.take_add];rw[show 0*7+7+7+7+7=4*7 from rfl,show 0*7+7+7+7=3*7 from rfl,show 0*7+7+7=2*7 from rfl,show 0*7+7=1*7 from rfl,t1,t2,t3,t4];have t0':List.take (1*7) cs.toList=_:=t0;rw[t0'];rfl
 intro i v hv;have hi:i<35:=by
  have:=(List.getElem?_eq_some_iff.1 hv).1;simpa[q5T]using this
 rw[World.var?_cell hg hvar i,←Array.getElem?_toList];rw[←hall,List.getElem?_take,if_pos hi]at hv;exact hv
end
end Go.Proofs.YtlkpdgjnhkjpjaaGreatDoor
