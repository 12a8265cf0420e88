import Derived.Test.YtjjoahhnkpjolaaGreatDoorONAE
set_option linter.unusedVariables false
set_option linter.unusedSimpArgs false
set_option maxRecDepth 100000
set_option maxHeartbeats 4000000
namespace Go.Proofs.YtjjoahhnkpjolaaGreatDoor
open Go.RowKit Go.BigFrame
open Nat renaming le_refl->Q
open List renaming mem_append_right->H,mem_append_left->s
open Blk renaming new->l
open IntKind renaming i64->S
open Value renaming int->G,slice->K
open Go.Proofs.Tryz renaming prog->F
open Go.Proofs.Tryz
structure RepQ where
 vd:Value
 done:List TxnQ
 vb:Value
 base:List ItemD
 vt:Value
 tent:List TxnQ
 vu:Value
 undos:List USQ
 vn:Value
 now:List ItemD
structure RepE where
 done:List TxnD
 base:List ItemD
 tent:List TxnD
 undos:List (List UndoD)
 now:List ItemD
def RepQ.e(p:RepQ):RepE:=⟨p.done.map TxnQ.e,p.base,p.tent.map TxnQ.e,p.undos.map USQ.e,p.now⟩
def repK:Kind RepQ where
 ty:=56
 size:=5
 cells p:=[p.vd,p.vb,p.vt,p.vu,p.vn]
 own w p:=txnK.Own w p.vd p.done∧itemK.Own w p.vb p.base∧txnK.Own w p.vt p.tent∧ussK.Own w p.vu p.undos∧itemK.Own w p.vn p.now
 rd w p:=txnK.At w p.vd p.done∧itemK.At w p.vb p.base∧txnK.At w p.vt p.tent∧ussK.At w p.vu p.undos∧itemK.At w p.vn p.now
 foot p:=txnK.fp p.vd p.done++(itemK.fp p.vb p.base++(txnK.fp p.vt p.tent++(ussK.fp p.vu p.undos++itemK.fp p.vn p.now)))
 len _:=rfl
 own_rd h:=⟨h.1.at,h.2.1.at,h.2.2.1.at,h.2.2.2.1.at,h.2.2.2.2.at⟩
 own_out h ho hd:=⟨h.1.out ho (fun k hk=>hd k (s _ hk)),h.2.1.out ho (fun k hk=>hd k (H _ (s _ hk))),h.2.2.1.out ho (fun k hk=>hd k (H _ (H _ (s _ hk)))),h.2.2.2.1.out ho (fun k hk=>hd k (H _ (H _ (H _ (s _ hk))))),h.2.2.2.2.out ho (fun k hk=>hd k (H _ (H _ (H _ (H _ hk)))))⟩
 own_lt h k hk:=by
  rcases List.mem_append.1 hk with hk|hk
  ·exact h.1.lt k hk
  rcases List.mem_append.1 hk with hk|hk
  ·exact h.2.1.lt k hk
  rcases List.mem_append.1 hk with hk|hk
  ·exact h.2.2.1.lt k hk
  rcases List.mem_append.1 hk with hk|hk
  ·exact h.2.2.2.1.lt k hk
  ·exact h.2.2.2.2.lt k hk
 rd_below h hb:=⟨h.1.below hb,h.2.1.below hb,h.2.2.1.below hb,h.2.2.2.1.below hb,h.2.2.2.2.below hb⟩
def RepQ.n(p:RepQ):Nat:=(p.done.length+nmL TxnQ.n p.done)+p.base.length+(p.tent.length+nmL TxnQ.n p.tent)+(p.undos.length+nmL USQ.n p.undos)+p.now.length
def RepQ.wf(p:RepQ):Prop:=(p.done.length≤9223372036854775807∧∀q∈p.done,TxnQ.wf q)∧p.base.length≤9223372036854775807∧(p.tent.length≤9223372036854775807∧∀q∈p.tent,TxnQ.wf q)∧(p.undos.length≤9223372036854775807∧∀q∈p.undos,USQ.wf q)∧p.now.length≤9223372036854775807
theorem z9l(p:RepQ)(c:Int)(w:World)(h:repK.rd w p)(hn:RepQ.wf p)(h0:0≤c)(h1:c≤1048576):
  Calls F 68 #[.agg #[p.vd,p.vb,p.vt,p.vu,p.vn],G S c] w fun e w'=>∃r:Int,e=.returned (G S r)∧(¬r<0→(RepQ.n p:Int)+r=c)∧Below w.heap.size w w':=by
 obtain⟨vd,done,vb,base,vt,x,vu,d,vn,y⟩:=p;obtain⟨V,X,Y,Z,aa⟩:txnK.At w vd done∧itemK.At w vb base∧txnK.At w vt x∧ussK.At w vu d∧itemK.At w vn y:=h;obtain⟨z,ab,A,C,ad⟩:(done.length≤9223372036854775807∧∀p∈done,TxnQ.wf p)∧base.length≤9223372036854775807∧(x.length≤9223372036854775807∧∀p∈x,TxnQ.wf p)∧(d.length≤9223372036854775807∧∀p∈d,USQ.wf p)∧y.length≤9223372036854775807:=hn;obtain⟨a0,k0,rfl⟩:=V.shape;obtain⟨a1,k1,rfl⟩:=X.shape;obtain⟨a2,k2,rfl⟩:=Y.shape;obtain⟨a3,k3,rfl⟩:=Z.shape;obtain⟨a4,k4,rfl⟩:=aa.shape;have B:=l w 82 #[K a0 done.length k0,K a1 base.length k1,K a2 x.length k2,K a3 d.length k3,K a4 y.length k4];have hB:Below w.heap.size w (w.alloc (.cells #[K a0 done.length k0,K a1 base.length k1,K a2 x.length k2,K a3 d.length k3,K a4 y.length k4] 82)):=by go_grown
 dsimp only[RepQ.n];go_enter func68,ntmps68
 go_wp2_with fail
 generalize w.alloc (.cells #[K a0 done.length k0,K a1 base.length k1,K a2 x.length k2,K a3 d.length k3,K a4 y.length k4] 82)=W at*;refine(z68 _ done c W (V.below hB) z.1 z.2 (by omega) (by omega)).mono ?_;rintro e w0 ⟨r0,rfl,ae,D⟩;replace B:=B.below D;replace hB:=hB.trans (D.mono hB.size);clear D;by_cases M:r0<0
 ·go_wp2
  go_ret;exact⟨_,rfl,fun h=>by omega,hB⟩
 have aj:=ae M;clear ae;have p1:=B.cell 1 _ rfl
 go_wp2_with fail
 clear p1;refine(z8e _ base r0 w0 (X.below hB) ab (by omega) (by omega)).mono ?_;rintro e w1 ⟨r1,rfl,af,E⟩;replace B:=B.below E;replace hB:=hB.trans (E.mono hB.size);clear E;by_cases N:r1<0
 ·go_wp2
  go_ret;exact⟨_,rfl,fun h=>by omega,hB⟩
 have ak:=af N;clear af;have p2:=B.cell 2 _ rfl
 go_wp2_with fail
 clear p2;refine(z68 _ x r1 w1 (Y.below hB) A.1 A.2 (by omega) (by omega)).mono ?_;rintro e w2 ⟨r2,rfl,ag,I⟩;replace B:=B.below I;replace hB:=hB.trans (I.mono hB.size);clear I;by_cases O:r2<0
 ·go_wp2
  go_ret;exact⟨_,rfl,fun h=>by omega,hB⟩
 have al:=ag O;clear ag;have p3:=B.cell 3 _ rfl
 go_wp2_with fail
 clear p3;refine(q40 _ d r2 w2 (Z.below hB) C.1 C.2 (by omega) (by omega)).mono ?_;rintro e w3 ⟨r3,rfl,ah,J⟩;replace B:=B.below J;replace hB:=hB.trans (J.mono hB.size);clear J;by_cases T:r3<0
 ·go_wp2
  go_ret;exact⟨_,rfl,fun h=>by omega,hB⟩
 have am:=ah T;clear ah;have p4:=B.cell 4 _ rfl
 go_wp2_with fail
 clear p4;refine(z8e _ y r3 w3 (aa.below hB) ad (by omega) (by omega)).mono ?_;rintro e w4 ⟨r4,rfl,ai,L⟩;replace B:=B.below L;replace hB:=hB.trans (L.mono hB.size);clear L;by_cases U:r4<0
 ·go_wp2
  go_ret;exact⟨_,rfl,fun h=>by omega,hB⟩
 have an:=ai U;clear ai
 go_wp2
 go_ret;exact⟨_,rfl,fun _=>by omega,hB⟩
theorem z9m(p p':RepQ)(w:World)(h:repK.rd w p)(h':repK.rd w p')(he:p.e=p'.e)(hl:RepQ.n p≤1048576):
  Calls F 92 #[.agg #[p.vd,p.vb,p.vt,p.vu,p.vn],.agg #[p'.vd,p'.vb,p'.vt,p'.vu,p'.vn]] w fun e w'=>e=.returned (.bool true)∧Below w.heap.size w w':=by
 obtain⟨vd,done,vb,base,vt,A,vu,d,vn,z⟩:=p;obtain⟨an,x,am,M,ap,y,aq,c,ao,al⟩:=p';simp only[RepQ.e,RepE.mk.injEq]at he;obtain⟨N,ar,O,T,au⟩:=he;dsimp only[RepQ.n]at hl;obtain⟨aa,ab,ad,ae,af⟩:txnK.At w vd done∧itemK.At w vb base∧txnK.At w vt A∧ussK.At w vu d∧itemK.At w vn z:=h;obtain⟨U,V,X,Y,Z⟩:txnK.At w an x∧itemK.At w am M∧txnK.At w ap y∧ussK.At w aq c∧itemK.At w ao al:=h';subst ar;subst au;have ag:=fun w h1 h2=>z69 vd an done x w h1 h2 N (by omega)
 have ah:=fun w h1 h2=>z8g vb am base w h1 h2 (by omega)
 have ai:=fun w h1 h2=>z69 vt ap A y w h1 h2 O (by omega)
 have aj:=fun w h1 h2=>q41 vu aq d c w h1 h2 T (by omega)
 have ak:=fun w h1 h2=>z8g vn ao z w h1 h2 (by omega)
 obtain⟨a0,k0,rfl⟩:=aa.shape;obtain⟨b0,m0,rfl⟩:=U.shape;obtain⟨a1,k1,rfl⟩:=ab.shape;obtain⟨b1,m1,rfl⟩:=V.shape;obtain⟨a2,k2,rfl⟩:=ad.shape;obtain⟨b2,m2,rfl⟩:=X.shape;obtain⟨a3,k3,rfl⟩:=ae.shape;obtain⟨b3,m3,rfl⟩:=Y.shape;obtain⟨a4,k4,rfl⟩:=af.shape;obtain⟨b4,m4,rfl⟩:=Z.shape;have B:=(l w 56 #[K a0 done.length k0,K a1 base.length k1,K a2 A.length k2,K a3 d.length k3,K a4 z.length k4]).below (w':=(w.alloc (.cells #[K a0 done.length k0,K a1 base.length k1,K a2 A.length k2,K a3 d.length k3,K a4 z.length k4] 56)).alloc (.cells #[K b0 x.length m0,K b1 base.length m1,K b2 y.length m2,K b3 c.length m3,K b4 z.length m4] 56)) (by go_grown);have C:=l (w.alloc (.cells #[K a0 done.length k0,K a1 base.length k1,K a2 A.length k2,K a3 d.length k3,K a4 z.length k4] 56)) 56 #[K b0 x.length m0,K b1 base.length m1,K b2 y.length m2,K b3 c.length m3,K b4 z.length m4];have hB:Below w.heap.size w ((w.alloc (.cells #[K a0 done.length k0,K a1 base.length k1,K a2 A.length k2,K a3 d.length k3,K a4 z.length k4] 56)).alloc (.cells #[K b0 x.length m0,K b1 base.length m1,K b2 y.length m2,K b3 c.length m3,K b4 z.length m4] 56)):=by go_grown
 rw[World.size_alloc]at C;clear N O T;go_enter func92,ntmps92
 go_wp2_with fail
 generalize (w.alloc (.cells #[K a0 done.length k0,K a1 base.length k1,K a2 A.length k2,K a3 d.length k3,K a4 z.length k4] 56)).alloc (.cells #[K b0 x.length m0,K b1 base.length m1,K b2 y.length m2,K b3 c.length m3,K b4 z.length m4] 56)=W at*;refine(ag W (aa.below hB) (U.below hB)).mono ?_;rintro e w0 ⟨rfl,D⟩;replace B:=B.below D;replace C:=C.below D;replace hB:=hB.trans (D.mono hB.size);clear D ag;have p1:=B.cell 1 _ rfl;have q1:=C.cell 1 _ rfl
 go_wp2_with fail
 clear p1 q1;refine(ah w0 (ab.below hB) (V.below hB)).mono ?_;rintro e w1 ⟨rfl,E⟩;replace B:=B.below E;replace C:=C.below E;replace hB:=hB.trans (E.mono hB.size);clear E ah;have p2:=B.cell 2 _ rfl;have q2:=C.cell 2 _ rfl
 go_wp2_with fail
 clear p2 q2;refine(ai w1 (ad.below hB) (X.below hB)).mono ?_;rintro e w2 ⟨rfl,I⟩;replace B:=B.below I;replace C:=C.below I;replace hB:=hB.trans (I.mono hB.size);clear I ai;have p3:=B.cell 3 _ rfl;have q3:=C.cell 3 _ rfl
 go_wp2_with fail
 clear p3 q3;refine(aj w2 (ae.below hB) (Y.below hB)).mono ?_;rintro e w3 ⟨rfl,J⟩;replace B:=B.below J;replace C:=C.below J;replace hB:=hB.trans (J.mono hB.size);clear J aj;have p4:=B.cell 4 _ rfl;have q4:=C.cell 4 _ rfl
 go_wp2_with fail
 clear p4 q4;refine(ak w3 (af.below hB) (Z.below hB)).mono ?_;rintro e w4 ⟨rfl,L⟩;replace B:=B.below L;replace C:=C.below L;replace hB:=hB.trans (L.mono hB.size);clear L ak
 go_wp2
 go_ret;exact⟨rfl,hB⟩
theorem z3o{A B:List Nat}{m:Nat}(hA:∀k∈A,k<m)(hB:∀k∈B,m≤k):∀a∈A,∀b∈B,a≠b:=fun a ha b hb e=>by
 have:=hA a ha;have:=hB b hb;omega
theorem z9n(p:RepQ)(w:World)(h:repK.rd w p)(hl:RepQ.n p≤1048576):
  Calls F 79 #[.agg #[p.vd,p.vb,p.vt,p.vu,p.vn]] w fun e w'=>∃p':RepQ,e=.returned (.agg #[p'.vd,p'.vb,p'.vt,p'.vu,p'.vn])∧p'.e=p.e∧repK.own w' p'∧(repK.foot p').Nodup∧(∀k∈repK.foot p',w.heap.size≤k)∧Below w.heap.size w w':=by
 obtain⟨vd,done,vb,base,vt,E,vu,c,vn,y⟩:=p;dsimp only[RepQ.n]at hl;obtain⟨N,O,T,U,V⟩:txnK.At w vd done∧itemK.At w vb base∧txnK.At w vt E∧ussK.At w vu c∧itemK.At w vn y:=h;have X:=fun w h1=>z7a vd done w h1 (by omega)
 have Y:=fun w h1=>z8f vb base w h1 (by omega)
 have Z:=fun w h1=>z7a vt E w h1 (by omega)
 have aa:=fun w h1=>q42 vu c w h1 (by omega)
 have ab:=fun w h1=>z8f vn y w h1 (by omega)
 obtain⟨a0,k0,rfl⟩:=N.shape;obtain⟨a1,k1,rfl⟩:=O.shape;obtain⟨a2,k2,rfl⟩:=T.shape;obtain⟨a3,k3,rfl⟩:=U.shape;obtain⟨a4,k4,rfl⟩:=V.shape;have B:=(l w 82 #[K a0 done.length k0,K a1 base.length k1,K a2 E.length k2,K a3 c.length k3,K a4 y.length k4]).below (w':=((w.alloc (.cells #[K a0 done.length k0,K a1 base.length k1,K a2 E.length k2,K a3 c.length k3,K a4 y.length k4] 82)).alloc (.cells #[K none 0 0,K none 0 0,K none 0 0,K none 0 0,K none 0 0] 56)).alloc (.cells #[K none 0 0,K none 0 0,K none 0 0,K none 0 0,K none 0 0] 56)) (by go_grown);have C:=(l (w.alloc (.cells #[K a0 done.length k0,K a1 base.length k1,K a2 E.length k2,K a3 c.length k3,K a4 y.length k4] 82)) 56 #[K none 0 0,K none 0 0,K none 0 0,K none 0 0,K none 0 0]).below (w':=((w.alloc (.cells #[K a0 done.length k0,K a1 base.length k1,K a2 E.length k2,K a3 c.length k3,K a4 y.length k4] 82)).alloc (.cells #[K none 0 0,K none 0 0,K none 0 0,K none 0 0,K none 0 0] 56)).alloc (.cells #[K none 0 0,K none 0 0,K none 0 0,K none 0 0,K none 0 0] 56)) (by go_grown);have D:=l ((w.alloc (.cells #[K a0 done.length k0,K a1 base.length k1,K a2 E.length k2,K a3 c.length k3,K a4 y.length k4] 82)).alloc (.cells #[K none 0 0,K none 0 0,K none 0 0,K none 0 0,K none 0 0] 56)) 56 #[K none 0 0,K none 0 0,K none 0 0,K none 0 0,K none 0 0];have hB:Below w.heap.size w (((w.alloc (.cells #[K a0 done.length k0,K a1 base.length k1,K a2 E.length k2,K a3 c.length k3,K a4 y.length k4] 82)).alloc (.cells #[K none 0 0,K none 0 0,K none 0 0,K none 0 0,K none 0 0] 56)).alloc (.cells #[K none 0 0,K none 0 0,K none 0 0,K none 0 0,K none 0 0] 56)):=by go_grown
 simp only[World.size_alloc]at C D;have hS:w.heap.size+3≤(((w.alloc (.cells #[K a0 done.length k0,K a1 base.length k1,K a2 E.length k2,K a3 c.length k3,K a4 y.length k4] 82)).alloc (.cells #[K none 0 0,K none 0 0,K none 0 0,K none 0 0,K none 0 0] 56)).alloc (.cells #[K none 0 0,K none 0 0,K none 0 0,K none 0 0,K none 0 0] 56)).heap.size:=by simp only[World.size_alloc];omega
 go_enter func79,ntmps79
 go_wp2_with fail
 generalize ((w.alloc (.cells #[K a0 done.length k0,K a1 base.length k1,K a2 E.length k2,K a3 c.length k3,K a4 y.length k4] 82)).alloc (.cells #[K none 0 0,K none 0 0,K none 0 0,K none 0 0,K none 0 0] 56)).alloc (.cells #[K none 0 0,K none 0 0,K none 0 0,K none 0 0,K none 0 0] 56)=W at*;refine(X W (N.below hB)).mono ?_;rintro e y0 ⟨v0,q0,rfl,E0,O0,N0,G0,hb⟩;replace B:=B.below hb;replace C:=C.below hb;replace D:=D.below hb;replace hB:=hB.trans (hb.mono hB.size);have s0:=hb.size;obtain⟨x0,z0,rfl⟩:=O0.shape;clear hb X;have p1:=B.cell 1 _ rfl;have d0:=D.cell 0 _ rfl;have f0:=D.frozen 0
 go_wp2_with fail
 clear p1 d0 f0;have U0:=(Out.refl [w.heap.size+1,w.heap.size+1+1] y0).set (b:=w.heap.size+1+1) (j:=0) (u:=K x0 q0.length z0) (by simp);replace D:=D.set 0 (K x0 q0.length z0);replace B:=B.other (b':=w.heap.size+1+1) (by omega) 0 (K x0 q0.length z0);replace C:=C.other (b':=w.heap.size+1+1) (by omega) 0 (K x0 q0.length z0);replace hB:=hB.setCell (p:=⟨w.heap.size+1+1,0,none⟩) (by show w.heap.size≤w.heap.size+1+1;omega) (K x0 q0.length z0);simp only[pjE]at D;have t0:=U0.size;generalize y0.setCell ⟨w.heap.size+1+1,0,none⟩ (K x0 q0.length z0)=V0 at*;refine(Y V0 (O.below hB)).mono ?_;rintro e y1 ⟨v1,rfl,O1,N1,G1,hb⟩;replace U0:=U0.call hb;replace B:=B.below hb;replace C:=C.below hb;replace D:=D.below hb;replace hB:=hB.trans (hb.mono hB.size);have s1:=hb.size;obtain⟨x1,z1,rfl⟩:=O1.shape;clear hb Y;have p2:=B.cell 2 _ rfl;have d1:=D.cell 1 _ rfl;have f1:=D.frozen 1
 go_wp2_with fail
 clear p2 d1 f1;have U1:=(Out.refl [w.heap.size+1,w.heap.size+1+1] y1).set (b:=w.heap.size+1+1) (j:=1) (u:=K x1 base.length z1) (by simp);replace U0:=U0.set (b:=w.heap.size+1+1) (j:=1) (u:=K x1 base.length z1) (by simp);replace D:=D.set 1 (K x1 base.length z1);replace B:=B.other (b':=w.heap.size+1+1) (by omega) 1 (K x1 base.length z1);replace C:=C.other (b':=w.heap.size+1+1) (by omega) 1 (K x1 base.length z1);replace hB:=hB.setCell (p:=⟨w.heap.size+1+1,1,none⟩) (by show w.heap.size≤w.heap.size+1+1;omega) (K x1 base.length z1);simp only[pjE]at D;have t1:=U1.size;generalize y1.setCell ⟨w.heap.size+1+1,1,none⟩ (K x1 base.length z1)=V1 at*;refine(Z V1 (T.below hB)).mono ?_;rintro e y2 ⟨v2,q2,rfl,E2,O2,N2,G2,hb⟩;replace U0:=U0.call hb;replace U1:=U1.call hb;replace B:=B.below hb;replace C:=C.below hb;replace D:=D.below hb;replace hB:=hB.trans (hb.mono hB.size);have s2:=hb.size;obtain⟨x2,z2,rfl⟩:=O2.shape;clear hb Z;have p3:=B.cell 3 _ rfl;have d2:=D.cell 2 _ rfl;have f2:=D.frozen 2
 go_wp2_with fail
 clear p3 d2 f2;have U2:=(Out.refl [w.heap.size+1,w.heap.size+1+1] y2).set (b:=w.heap.size+1+1) (j:=2) (u:=K x2 q2.length z2) (by simp);replace U0:=U0.set (b:=w.heap.size+1+1) (j:=2) (u:=K x2 q2.length z2) (by simp);replace U1:=U1.set (b:=w.heap.size+1+1) (j:=2) (u:=K x2 q2.length z2) (by simp);replace D:=D.set 2 (K x2 q2.length z2);replace B:=B.other (b':=w.heap.size+1+1) (by omega) 2 (K x2 q2.length z2);replace C:=C.other (b':=w.heap.size+1+1) (by omega) 2 (K x2 q2.length z2);replace hB:=hB.setCell (p:=⟨w.heap.size+1+1,2,none⟩) (by show w.heap.size≤w.heap.size+1+1;omega) (K x2 q2.length z2);simp only[pjE]at D;have t2:=U2.size;generalize y2.setCell ⟨w.heap.size+1+1,2,none⟩ (K x2 q2.length z2)=V2 at*;refine(aa V2 (U.below hB)).mono ?_;rintro e y3 ⟨v3,q3,rfl,E3,O3,N3,G3,hb⟩;replace U0:=U0.call hb;replace U1:=U1.call hb;replace U2:=U2.call hb;replace B:=B.below hb;replace C:=C.below hb;replace D:=D.below hb;replace hB:=hB.trans (hb.mono hB.size);have s3:=hb.size;obtain⟨x3,z3,rfl⟩:=O3.shape;clear hb aa;have p4:=B.cell 4 _ rfl;have d3:=D.cell 3 _ rfl;have f3:=D.frozen 3
 go_wp2_with fail
 clear p4 d3 f3;have U3:=(Out.refl [w.heap.size+1,w.heap.size+1+1] y3).set (b:=w.heap.size+1+1) (j:=3) (u:=K x3 q3.length z3) (by simp);replace U0:=U0.set (b:=w.heap.size+1+1) (j:=3) (u:=K x3 q3.length z3) (by simp);replace U1:=U1.set (b:=w.heap.size+1+1) (j:=3) (u:=K x3 q3.length z3) (by simp);replace U2:=U2.set (b:=w.heap.size+1+1) (j:=3) (u:=K x3 q3.length z3) (by simp);replace D:=D.set 3 (K x3 q3.length z3);replace B:=B.other (b':=w.heap.size+1+1) (by omega) 3 (K x3 q3.length z3);replace C:=C.other (b':=w.heap.size+1+1) (by omega) 3 (K x3 q3.length z3);replace hB:=hB.setCell (p:=⟨w.heap.size+1+1,3,none⟩) (by show w.heap.size≤w.heap.size+1+1;omega) (K x3 q3.length z3);simp only[pjE]at D;have t3:=U3.size;generalize y3.setCell ⟨w.heap.size+1+1,3,none⟩ (K x3 q3.length z3)=V3 at*;refine(ab V3 (V.below hB)).mono ?_;rintro e y4 ⟨v4,rfl,O4,N4,G4,hb⟩;replace U0:=U0.call hb;replace U1:=U1.call hb;replace U2:=U2.call hb;replace U3:=U3.call hb;replace B:=B.below hb;replace C:=C.below hb;replace D:=D.below hb;replace hB:=hB.trans (hb.mono hB.size);have s4:=hb.size;obtain⟨x4,z4,rfl⟩:=O4.shape;clear hb ab;clear B;have d0:=D.cell 0 _ rfl;have f0:=D.frozen 0;have c0:=C.cell 0 _ rfl;have g0:=C.frozen 0;have d1:=D.cell 1 _ rfl;have f1:=D.frozen 1;have c1:=C.cell 1 _ rfl;have g1:=C.frozen 1;have d2:=D.cell 2 _ rfl;have f2:=D.frozen 2;have c2:=C.cell 2 _ rfl;have g2:=C.frozen 2;have d3:=D.cell 3 _ rfl;have f3:=D.frozen 3;have c3:=C.cell 3 _ rfl;have g3:=C.frozen 3;have d4:=D.cell 4 _ rfl;have f4:=D.frozen 4;have c4:=C.cell 4 _ rfl;have g4:=C.frozen 4;have R:Hid (∀j u j' u' L M I J z A d x,repK.own ((((((y4.setCell ⟨w.heap.size+1+1,j,none⟩ u).setCell ⟨w.heap.size+1,j',none⟩ u').setCell ⟨w.heap.size+1,L,none⟩ M).setCell ⟨w.heap.size+1,I,none⟩ J).setCell ⟨w.heap.size+1,z,none⟩ A).setCell ⟨w.heap.size+1,d,none⟩ x) ⟨K x0 q0.length z0,q0,K x1 base.length z1,base,K x2 q2.length z2,q2,K x3 q3.length z3,q3,K x4 y.length z4,y⟩∧Below w.heap.size w ((((((y4.setCell ⟨w.heap.size+1+1,j,none⟩ u).setCell ⟨w.heap.size+1,j',none⟩ u').setCell ⟨w.heap.size+1,L,none⟩ M).setCell ⟨w.heap.size+1,I,none⟩ J).setCell ⟨w.heap.size+1,z,none⟩ A).setCell ⟨w.heap.size+1,d,none⟩ x)):=by
  intro j u j' u' L M I J z A d x;have X0:=((((((U0.set (b:=w.heap.size+1+1) (j:=j) (u:=u) (by simp)).set (b:=w.heap.size+1) (j:=j') (u:=u') (by simp)).set (b:=w.heap.size+1) (j:=L) (u:=M) (by simp)).set (b:=w.heap.size+1) (j:=I) (u:=J) (by simp)).set (b:=w.heap.size+1) (j:=z) (u:=A) (by simp)).set (b:=w.heap.size+1) (j:=d) (u:=x) (by simp))
  have X1:=((((((U1.set (b:=w.heap.size+1+1) (j:=j) (u:=u) (by simp)).set (b:=w.heap.size+1) (j:=j') (u:=u') (by simp)).set (b:=w.heap.size+1) (j:=L) (u:=M) (by simp)).set (b:=w.heap.size+1) (j:=I) (u:=J) (by simp)).set (b:=w.heap.size+1) (j:=z) (u:=A) (by simp)).set (b:=w.heap.size+1) (j:=d) (u:=x) (by simp))
  have X2:=((((((U2.set (b:=w.heap.size+1+1) (j:=j) (u:=u) (by simp)).set (b:=w.heap.size+1) (j:=j') (u:=u') (by simp)).set (b:=w.heap.size+1) (j:=L) (u:=M) (by simp)).set (b:=w.heap.size+1) (j:=I) (u:=J) (by simp)).set (b:=w.heap.size+1) (j:=z) (u:=A) (by simp)).set (b:=w.heap.size+1) (j:=d) (u:=x) (by simp))
  have X3:=((((((U3.set (b:=w.heap.size+1+1) (j:=j) (u:=u) (by simp)).set (b:=w.heap.size+1) (j:=j') (u:=u') (by simp)).set (b:=w.heap.size+1) (j:=L) (u:=M) (by simp)).set (b:=w.heap.size+1) (j:=I) (u:=J) (by simp)).set (b:=w.heap.size+1) (j:=z) (u:=A) (by simp)).set (b:=w.heap.size+1) (j:=d) (u:=x) (by simp))
  have X4:=(((((((Out.refl [w.heap.size+1,w.heap.size+1+1] y4).set (b:=w.heap.size+1+1) (j:=j) (u:=u) (by simp)).set (b:=w.heap.size+1) (j:=j') (u:=u') (by simp)).set (b:=w.heap.size+1) (j:=L) (u:=M) (by simp)).set (b:=w.heap.size+1) (j:=I) (u:=J) (by simp)).set (b:=w.heap.size+1) (j:=z) (u:=A) (by simp)).set (b:=w.heap.size+1) (j:=d) (u:=x) (by simp))
  refine⟨⟨O0.out X0 (fun k hk=>?_),O1.out X1 (fun k hk=>?_),O2.out X2 (fun k hk=>?_),O3.out X3 (fun k hk=>?_),O4.out X4 (fun k hk=>?_)⟩,?_⟩
  ·have:=G0 k hk;simp only[List.mem_cons,List.not_mem_nil,or_false];omega
  ·have:=G1 k hk;simp only[List.mem_cons,List.not_mem_nil,or_false];omega
  ·have:=G2 k hk;simp only[List.mem_cons,List.not_mem_nil,or_false];omega
  ·have:=G3 k hk;simp only[List.mem_cons,List.not_mem_nil,or_false];omega
  ·have:=G4 k hk;simp only[List.mem_cons,List.not_mem_nil,or_false];omega
  ·exact((((((hB.setCell (p:=⟨w.heap.size+1+1,j,none⟩) (by show w.heap.size≤w.heap.size+1+1;omega) u).setCell (p:=⟨w.heap.size+1,j',none⟩) (by show w.heap.size≤w.heap.size+1;omega) u').setCell (p:=⟨w.heap.size+1,L,none⟩) (by show w.heap.size≤w.heap.size+1;omega) M).setCell (p:=⟨w.heap.size+1,I,none⟩) (by show w.heap.size≤w.heap.size+1;omega) J).setCell (p:=⟨w.heap.size+1,z,none⟩) (by show w.heap.size≤w.heap.size+1;omega) A).setCell (p:=⟨w.heap.size+1,d,none⟩) (by show w.heap.size≤w.heap.size+1;omega) x)
 have R1:Hid ((repK.foot ⟨K x0 q0.length z0,q0,K x1 base.length z1,base,K x2 q2.length z2,q2,K x3 q3.length z3,q3,K x4 y.length z4,y⟩).Nodup∧(∀k∈repK.foot ⟨K x0 q0.length z0,q0,K x1 base.length z1,base,K x2 q2.length z2,q2,K x3 q3.length z3,q3,K x4 y.length z4,y⟩,w.heap.size≤k)):=by
  have L0:=O0.lt;have L1:=O1.lt;have L2:=O2.lt;have L3:=O3.lt;have L4:=O4.lt;have T0:=U0.size;have T1:=U1.size;have T2:=U2.size;have T3:=U3.size;refine⟨?_,?_⟩
  ·show List.Nodup (_++_);exact List.nodup_append.2 ⟨N0,List.nodup_append.2 ⟨N1,List.nodup_append.2 ⟨N2,List.nodup_append.2 ⟨N3,N4,z3o (m:=(V3).heap.size) (fun k hk=>by have:=L3 k hk;omega) (fun k hk=>by have:=G4 k hk;omega)⟩,z3o (m:=(V2).heap.size) (fun k hk=>by have:=L2 k hk;omega) (fun k hk=>by rcases List.mem_append.1 hk with hk|hk<;>first|(have:=G3 k hk;omega)|(have:=G4 k hk;omega))⟩,z3o (m:=(V1).heap.size) (fun k hk=>by have:=L1 k hk;omega) (fun k hk=>by rcases List.mem_append.1 hk with hk|hk<;>first|(have:=G2 k hk;omega)|(rcases List.mem_append.1 hk with hk|hk<;>first|(have:=G3 k hk;omega)|(have:=G4 k hk;omega)))⟩,z3o (m:=(V0).heap.size) (fun k hk=>by have:=L0 k hk;omega) (fun k hk=>by rcases List.mem_append.1 hk with hk|hk<;>first|(have:=G1 k hk;omega)|(rcases List.mem_append.1 hk with hk|hk<;>first|(have:=G2 k hk;omega)|(rcases List.mem_append.1 hk with hk|hk<;>first|(have:=G3 k hk;omega)|(have:=G4 k hk;omega))))⟩
  ·exact(fun k hk=>by rcases List.mem_append.1 hk with hk|hk<;>first|(have:=G0 k hk;omega)|(rcases List.mem_append.1 hk with hk|hk<;>first|(have:=G1 k hk;omega)|(rcases List.mem_append.1 hk with hk|hk<;>first|(have:=G2 k hk;omega)|(rcases List.mem_append.1 hk with hk|hk<;>first|(have:=G3 k hk;omega)|(have:=G4 k hk;omega)))))
 have R2:Hid (RepQ.e ⟨K x0 q0.length z0,q0,K x1 base.length z1,base,K x2 q2.length z2,q2,K x3 q3.length z3,q3,K x4 y.length z4,y⟩=RepQ.e ⟨K a0 done.length k0,done,K a1 base.length k1,base,K a2 E.length k2,E,K a3 c.length k3,c,K a4 y.length k4,y⟩):=show _=_ by simp only[RepQ.e,E0,E2,E3]
 clear O0 N0 G0 O1 N1 G1 O2 N2 G2 O3 N3 G3 O4 N4 G4 U0 U1 U2 U3 E0 E2 E3 hB C D N O T U V
 go_wp2
 exact bodyPost_ret (v:=.agg #[K x0 q0.length z0,K x1 base.length z1,K x2 q2.length z2,K x3 q3.length z3,K x4 y.length z4]) (by simp[results,results79,go_sem,c0,c1,c2,c3,c4]) rfl ⟨⟨K x0 q0.length z0,q0,K x1 base.length z1,base,K x2 q2.length z2,q2,K x3 q3.length z3,q3,K x4 y.length z4,y⟩,rfl,R2.out,(R.out _ _ _ _ _ _ _ _ _ _ _ _).1,R1.out.1,R1.out.2,(R.out _ _ _ _ _ _ _ _ _ _ _ _).2⟩
def q6B:List Value:=[
 G S 2,G S 0,G S 0,G S 0,.bool true,.bool false,G S 0,
 G S 0,G S 2,G S 1,G S 0,.bool true,.bool false,G S 1,
 G S 1,G S 0,G S 2,G S 0,.bool false,.bool false,G S 0,
 G S 0,G S 1,G S 2,G S 0,.bool false,.bool false,G S 1,
 G S 0,G S 0,G S 2,G S 0,.bool false,.bool true,G S 0]
def Rul(w:World):Prop:=∀i v,q6B[i]?=some v→w.cell? ⟨2,i,none⟩=some v
theorem Rul.below{w w':World}(h:Rul w)(hb:Below w.heap.size w w'):Rul w':=by
 intro i v hv;have h1:=h i v hv;rw[hb.cell (p:=⟨2,i,none⟩) (World.block_lt_of_cell? w ⟨2,i,none⟩ h1)];exact h1
abbrev fl(n:Int):Nat:=floatOfInt FloatKind.f64 n
theorem q43:∀a∈[(0:Int),1,2,3],∀b∈[(0:Int),1,2,3],(FloatKind.f64.format.order (fl a) (fl b)==some .gt||FloatKind.f64.format.order (fl a) (fl b)==some .eq)=decide (b≤a):=by decide+kernel
theorem q44:∀a∈[(0:Int),1,2,3],(FloatKind.f64.format.order (fl a) 0==some .gt)=decide (0<a):=by decide+kernel
theorem q3v{a:Int}(h:0≤a∧a≤3):a∈[(0:Int),1,2,3]:=by
 have:a=0∨a=1∨a=2∨a=3:=by omega
 rcases this with rfl|rfl|rfl|rfl<;>simp
theorem q4x{a b:Int}(ha:0≤a∧a≤3)(hb:0≤b∧b≤3):(FloatKind.f64.format.order (fl a) (fl b)==some .gt||FloatKind.f64.format.order (fl a) (fl b)==some .eq)=decide (b≤a):=q43 a (q3v ha) b (q3v hb)
theorem q4y{a:Int}(ha:0≤a∧a≤3):(FloatKind.f64.format.order (fl a) 0==some .gt)=decide (0<a):=q44 a (q3v ha)
def q5P(zi oi pr:Int)(d k:Bool)(vl:Int):Value:=.agg #[G S zi,G S oi,G S pr,G S 0,.bool d,.bool k,G S vl]
theorem q3E(zi oi pr:Int)(d k:Bool)(vl z o:Int)(w:World)(hzi:0≤zi∧zi≤3)(hoi:0≤oi∧oi≤3)(hz:0≤z∧z≤3)(ho:0≤o∧o≤3):
  Calls F 272 #[q5P zi oi pr d k vl,.complex .f64 (fl z) (fl o)] w fun e w'=>e=.returned (.bool (decide (zi≤z) && decide (oi≤o)))∧Below w.heap.size w w':=by
 have f1:=q4x hz hzi;have f2:=q4x ho hoi;unfold q5P;generalize fl z=z0 at f1⊢;generalize fl o=o0 at f2⊢;dsimp only[fl]at f1 f2;by_cases h1:zi≤z
 ·have d1:decide (zi≤z)=true:=decide_eq_true h1;rw[d1]at f1⊢;generalize decide (oi≤o)=t at f2⊢;clear h1 d1 hzi hoi hz ho;go_enter func272,ntmps272
  go_wp2
  go_ret;exact⟨by simp[f2],by go_grown⟩
 ·have d1:decide (zi≤z)=false:=decide_eq_false h1;rw[d1]at f1⊢;clear h1 d1 hzi hoi hz ho f2;go_enter func272,ntmps272
  go_wp2
  go_ret;exact⟨by simp,by go_grown⟩
def rz(k:Nat):Int:=[2,0,1,0,0].getD k 0
def ro(k:Nat):Int:=[0,2,0,1,0].getD k 0
def rp(k:Nat):Int:=[0,1,2,2,2].getD k 0
def rd(k:Nat):Bool:=[true,true,false,false,false].getD k false
def rc(k:Nat):Bool:=[false,false,false,false,true].getD k false
def rv(k:Nat):Int:=[0,1,0,1,0].getD k 0
def q5Z(k:Nat):Value:=q5P (rz k) (ro k) (rp k) (rd k) (rc k) (rv k)
def q3F(k:Nat)(z o:Int):Bool:=decide (rz k≤z) && decide (ro k≤o)
def pick5(z o:Int):Nat:=if 2≤z then 0 else if 2≤o then 1 else if 1≤z then 2 else if 1≤o then 3 else 4
theorem q6C:∀z∈[(0:Int),1,2,3],∀o∈[(0:Int),1,2,3],pick5 z o≤4∧∀k,k<5→k≤pick5 z o→(q3F k z o=true→k=pick5 z o)∧(q3F k z o=false→k+1≤pick5 z o):=by decide+kernel
theorem q45{z o:Int}(hz:0≤z∧z≤3)(ho:0≤o∧o≤3):pick5 z o≤4∧∀k,k<5→k≤pick5 z o→(q3F k z o=true→k=pick5 z o)∧(q3F k z o=false→k+1≤pick5 z o):=q6C z (q3v hz) o (q3v ho)
theorem q50{w:World}(h:Rul w)(k:Nat)(hk:k<5):w.cell? ⟨2,k*7,none⟩=some (G S (rz k))∧w.cell? ⟨2,k*7+1,none⟩=some (G S (ro k))∧w.cell? ⟨2,k*7+2,none⟩=some (G S (rp k))∧w.cell? ⟨2,k*7+3,none⟩=some (G S 0)∧
  w.cell? ⟨2,k*7+4,none⟩=some (.bool (rd k))∧w.cell? ⟨2,k*7+5,none⟩=some (.bool (rc k))∧w.cell? ⟨2,k*7+6,none⟩=some (G S (rv k)):=by
 match k,hk with
 |0,_=>exact⟨h _ _ rfl,h _ _ rfl,h _ _ rfl,h _ _ rfl,h _ _ rfl,h _ _ rfl,h _ _ rfl⟩
 |1,_=>exact⟨h _ _ rfl,h _ _ rfl,h _ _ rfl,h _ _ rfl,h _ _ rfl,h _ _ rfl,h _ _ rfl⟩
 |2,_=>exact⟨h _ _ rfl,h _ _ rfl,h _ _ rfl,h _ _ rfl,h _ _ rfl,h _ _ rfl,h _ _ rfl⟩
 |3,_=>exact⟨h _ _ rfl,h _ _ rfl,h _ _ rfl,h _ _ rfl,h _ _ rfl,h _ _ rfl,h _ _ rfl⟩
 |4,_=>exact⟨h _ _ rfl,h _ _ rfl,h _ _ rfl,h _ _ rfl,h _ _ rfl,h _ _ rfl,h _ _ rfl⟩
theorem q6T(k:Nat)(hk:k<5):(0≤rz k∧rz k≤3)∧(0≤ro k∧ro k≤3):=by
 match k,hk with
 |0,_=>decide
 |1,_=>decide
 |2,_=>decide
 |3,_=>decide
 |4,_=>decide
theorem z5v(z o:Int)(w:World)(hG:Rul w)(hz:0≤z∧z≤3)(ho:0≤o∧o≤3):
  Calls F 256 #[.complex .f64 (fl z) (fl o)] w fun e w'=>e=.returned (q5Z (pick5 z o))∧Below w.heap.size w w':=by
 obtain⟨hp,D⟩:=q45 hz ho;generalize hE:pick5 z o=E at hp D⊢;clear hE;have x:=fun k (hk:k<5) w=>q3E (rz k) (ro k) (rp k) (rd k) (rc k) (rv k) z o w (q6T k hk).1 (q6T k hk).2 hz ho
 generalize fl z=z0 at x⊢;generalize fl o=o0 at x⊢;go_enter func256,ntmps256
 go_wp2
 have Bx:=l w 351 #[G S 0,G S 0,G S 0,G S 0,.bool false,.bool false,G S 0];have hB:Below w.heap.size w (w.alloc (.cells #[G S 0,G S 0,G S 0,G S 0,.bool false,.bool false,G S 0] 351)):=by go_grown
 generalize w.alloc (.cells #[G S 0,G S 0,G S 0,G S 0,.bool false,.bool false,G S 0] 351)=W at*;go_loopw[3] (fun i wr=>∃k:Nat,k<5∧k≤E∧i=G S k∧Below W.heap.size W wr) (fun i _=>5-(intOf i).toNat)
 case atStart=>exact⟨0,by omega,Nat.zero_le _,rfl,Below.refl _ _⟩
 case round=>
  obtain⟨k,hk,J,rfl,hb⟩:=hrel;replace hB:=hB.trans (hb.mono hB.size);replace Bx:=Bx.below hb;obtain⟨c0,c1,c2,c3,c4,c5,c6⟩:=q50 (hG.below hB) k hk;obtain⟨hy,hn⟩:=D k hk J;have HY:Hid (q3F k z o=true→k=E):=hy;have HN:Hid (q3F k z o=false→k+1≤E):=hn;have hf:=x k hk wr;rw[show(decide (rz k≤z) && decide (ro k≤o))=q3F k z o from rfl]at hf;clear x D hy hn;unfold q5P at hf;have HV:Hid (q5Z k=.agg #[G S (rz k),G S (ro k),G S (rp k),G S 0,.bool (rd k),.bool (rc k),G S (rv k)]):=rfl;generalize rz k=a0 at*;generalize ro k=a1 at*;generalize rp k=a2 at*;generalize rd k=a4 at*;generalize rc k=a5 at*;generalize rv k=a6 at*
  go_wp2_with fail
  refine hf.mono ?_;rintro e w2 ⟨rfl,c⟩;have d:=World.block_lt_of_cell? wr ⟨2,k*7,none⟩ c0;dsimp only at d;replace c0:=(c.cell (p:=⟨2,k*7,none⟩) d).trans c0;replace c1:=(c.cell (p:=⟨2,k*7+1,none⟩) d).trans c1;replace c2:=(c.cell (p:=⟨2,k*7+2,none⟩) d).trans c2;replace c3:=(c.cell (p:=⟨2,k*7+3,none⟩) d).trans c3;replace c4:=(c.cell (p:=⟨2,k*7+4,none⟩) d).trans c4;replace c5:=(c.cell (p:=⟨2,k*7+5,none⟩) d).trans c5;replace c6:=(c.cell (p:=⟨2,k*7+6,none⟩) d).trans c6;replace Bx:=Bx.below c;replace hB:=hB.trans (c.mono hB.size);replace hb:=hb.trans (c.mono hb.size);clear hf c d;by_cases A:q3F k z o=true
  ·have y:=HY.out A;clear HY HN;rw[A];obtain⟨p0,p1,p2,p3,p4,p5,p6⟩:=Bx.cel7;obtain⟨f0,f1,f2,f3,f4,f5,f6⟩:=Bx.frz7;have hV:Hid (q5Z E=.agg #[G S a0,G S a1,G S a2,G S 0,.bool a4,.bool a5,G S a6]):=by rw[←y];exact HV.out
   have I:=((((((hB.setCell (p:=⟨w.heap.size,0,none⟩) (Q _) (G S a0)).setCell (p:=⟨w.heap.size,1,none⟩) (Q _) (G S a1)).setCell (p:=⟨w.heap.size,2,none⟩) (Q _) (G S a2)).setCell (p:=⟨w.heap.size,3,none⟩) (Q _) (G S 0)).setCell (p:=⟨w.heap.size,4,none⟩) (Q _) (.bool a4)).setCell (p:=⟨w.heap.size,5,none⟩) (Q _) (.bool a5)).setCell (p:=⟨w.heap.size,6,none⟩) (Q _) (G S a6);have HB:Hid (Below w.heap.size w _):=I;clear Bx hB hb I y HV
   go_wp2
   exact bodyPost_ret (v:=.agg #[G S a0,G S a1,G S a2,G S 0,.bool a4,.bool a5,G S a6]) (by simp[results,results256,go_sem,p0,p1,p2,p3,p4,p5,p6]) rfl ⟨by rw[hV.out],HB.out⟩
  ·have C:q3F k z o=false:=by simpa using A
   have y:=HN.out C;clear HY HN A;rw[C];clear c0 c1 c2 c3 c4 c5 c6 Bx hB
   go_wp2
   go_roundw
   case rel=>exact⟨k+1,by omega,y,by go_num,hb⟩
   case measure=>simp[intOf];omega
def z2y(zs:List Int)(m:Int):Bool:=isQ m && (cnt m zs 3==0)
theorem q14{m:Int}(h:isQ m=true):inB m 0 7=true:=by
 unfold isQ at h;rw[Bool.and_eq_true]at h;exact h.1
theorem z5d{zs:List Int}{m:Int}(h:z2y zs m=true):inB m 0 7=true:=by
 unfold z2y at h;rw[Bool.and_eq_true]at h;exact q14 h.1
theorem q6D(zs:List Int):vfault zs 2=vf zs 2:=by simp[vfault,inB]
theorem q51(zs:List Int):vfault zs 1=vf zs 1:=by simp[vfault,inB]
theorem z5w(a:Option Addr)(cap:Nat)(zs:List Int)(m:Int)(w:World)(h:Row .i64 w a zs)(hl:zs.length=3):
  Calls F 255 #[K a 3 cap,G S m] w fun e w'=>e=.returned (.bool (z2y zs m))∧w'=w:=by
 have hq:=z70 m w;have hvo:=z1X a cap zs 3 w h hl;unfold z2y;by_cases h1:isQ m=true
 ·obtain⟨q1,q2,q3⟩:=z87 (q14 h1) zs 3;rw[h1]at hq⊢;rw[←q3];clear q1 q2 q3 h1;generalize vot zs 3=u at*;go_enter func255,ntmps255
  go_wp2_with (first|(go_at_call 271;refine hq.mono ?_;rintro e w' ⟨rfl,rfl⟩)|(go_at_call 209;refine hvo.mono ?_;rintro e w' ⟨rfl,rfl⟩))
  go_ret;exact⟨by simp,rfl⟩
 ·have h1':isQ m=false:=by simpa using h1
  rw[h1']at hq⊢;clear h1 h1';go_enter func255,ntmps255
  go_wp2_with (go_at_call 271;refine hq.mono ?_;rintro e w' ⟨rfl,rfl⟩)
  go_ret;exact⟨by simp,rfl⟩
theorem z2F(a:Option Addr)(cap:Nat)(zs:List Int)(m:Int)(w:World)(h:Row .i64 w a zs)(hl:zs.length=3)(hm:inB m 0 7=true):
  Calls F 254 #[K a 3 cap,G S m] w fun e w'=>e=.returned (.complex .f64 (fl (cnt m zs 0)) (fl (cnt m zs 1)))∧w'=w:=by
 obtain⟨q1,q2,_⟩:=z87 hm zs 0;obtain⟨r1,r2,_⟩:=z87 hm zs 1;have hn0:=z2g _ w q1;have hn1:=z2g _ w r1;rw[q2]at hn0;rw[r2]at hn1;have hv0:=z1X a cap zs 0 w h hl;have hv1:=z1X a cap zs 1 w h hl;clear q1 q2 r1 r2;generalize vot zs 0=u0 at*;generalize vot zs 1=u1 at*;generalize cnt m zs 0=c0 at*;generalize cnt m zs 1=c1 at*;go_enter func254,ntmps254
 go_wp2_with fail
 refine hv0.mono ?_;rintro e w' ⟨rfl,hw⟩;replace hw:=hw.symm;subst hw
 go_wp2_with fail
 refine hn0.mono ?_;rintro e w' ⟨rfl,hw⟩;replace hw:=hw.symm;subst hw
 go_wp2_with fail
 refine hv1.mono ?_;rintro e w' ⟨rfl,hw⟩;replace hw:=hw.symm;subst hw
 go_wp2_with fail
 refine hn1.mono ?_;rintro e w' ⟨rfl,hw⟩;replace hw:=hw.symm;subst hw
 go_wp2
 go_ret;exact⟨rfl,rfl⟩
def pr2(z o:Int):Int:=if 2≤z then 0 else if 2≤o then 1 else 2
def pfC(zs:List Int)(m:Int):Int:=if vf zs 1=0 then(if z2y zs m then 0 else 10)else vf zs 1
def pfV(zs:List Int)(m:Int):Int:=if pfC zs m=0 then pr2 (cnt m zs 0) (cnt m zs 1)else 0
theorem q52:∀z∈[(0:Int),1,2,3],∀o∈[(0:Int),1,2,3],rp (pick5 z o)=pr2 z o:=by decide+kernel
theorem q46(a0 a1 a2 a3:Int)(a4 a5:Bool)(a6:Int)(w:World):(Instr.field 351 (.agg #[G S a0,G S a1,G S a2,G S a3,.bool a4,.bool a5,G S a6]) 2).run F w=.ok (G S a2) w:=by kernel_rfl
theorem q47(a0 a1 a2 a3:Int)(a4 a5:Bool)(a6:Int)(w:World):(Instr.field 351 (.agg #[G S a0,G S a1,G S a2,G S a3,.bool a4,.bool a5,G S a6]) 3).run F w=.ok (.agg #[G S a3,.bool a4,.bool a5,G S a6]) w:=by kernel_rfl
theorem z8h(a:Option Addr)(cap:Nat)(zs:List Int)(m:Int)(w:World)(hG:Rul w)(h:Row .i64 w a zs)(hm:zs.length≤9223372036854775807):
  Calls F 232 #[K a zs.length cap,G S m] w fun e w'=>e=.returned (.agg #[G S (pfC zs m),G S (pfV zs m)])∧Below w.heap.size w w':=by
 have hB:Below w.heap.size w (w.alloc (.cells #[G S 0,G S 0] 42)):=by go_grown
 have hv:=fun w h=>z0E a cap zs 1 w h hm
 rw[q51]at hv;by_cases h0:vf zs 1=0
 ·have hl:=z07 h0;rw[h0]at hv;rw[hl]at hv⊢;have hh:=z5w a cap zs m _ (h.below hB) hl;by_cases h1:z2y zs m=true
  ·have e1:pfC zs m=0:=by simp[pfC,h0,h1]
   have e2:pfV zs m=pr2 (cnt m zs 0) (cnt m zs 1):=by simp[pfV,e1]
   have e3:=q52 _ (q3v (z2v m zs 0)) _ (q3v (z2v m zs 1));have hc:=z2F a cap zs m _ (h.below hB) hl (z5d h1);have hr:=z5v _ _ _ (hG.below hB) (z2v m zs 0) (z2v m zs 1);rw[e1,e2,←e3];rw[h1]at hh;clear e1 e2 e3 h0 hl h1;unfold q5Z q5P at hr;generalize pick5 (cnt m zs 0) (cnt m zs 1)=E at*;generalize fl (cnt m zs 0)=z0 at*;generalize fl (cnt m zs 1)=o0 at*;generalize rz E=a0 at*;generalize ro E=a1 at*;generalize rp E=a2 at*;generalize rd E=a4 at*;generalize rc E=a5 at*;generalize rv E=a6 at*;have Bx:=l w 42 #[G S 0,G S 0];have hv1:=hv _ (h.below hB);clear hv;go_enter func232,ntmps232
   go_wp2_with fail
   generalize w.alloc (.cells #[G S 0,G S 0] 42)=W at*;refine hv1.mono ?_;rintro e w' ⟨rfl,hw⟩;replace hw:=hw.symm;subst hw
   go_wp2_with fail
   refine hh.mono ?_;rintro e w' ⟨rfl,hw⟩;replace hw:=hw.symm;subst hw
   go_wp2_with fail
   refine hc.mono ?_;rintro e w' ⟨rfl,hw⟩;replace hw:=hw.symm;subst hw
   go_wp2_with fail
   refine hr.mono ?_;rintro e w' ⟨rfl,hb⟩;replace Bx:=Bx.below hb;replace hB:=hB.trans (hb.mono hB.size);obtain⟨p0,p1⟩:=Bx.cel2;obtain⟨f0,f1⟩:=Bx.frz2;have hfl:=q46 a0 a1 a2 0 a4 a5 a6 w';clear hb hv1 hh hc hr Bx
   go_wp2
   exact bodyPost_ret (v:=.agg #[G S 0,G S a2]) (by simp[results,results232,go_sem,p0,p1]) rfl ⟨rfl,(hB.setCell (p:=⟨w.heap.size,0,none⟩) (Q _) _).setCell (p:=⟨w.heap.size,1,none⟩) (Q _) _⟩
  ·have h1':z2y zs m=false:=by simpa using h1
   have e1:pfC zs m=10:=by simp[pfC,h0,h1']
   have e2:pfV zs m=0:=by simp[pfV,e1]
   rw[e1,e2];rw[h1']at hh;clear e1 e2 h0 hl h1;go_enter func232,ntmps232
   go_wp2_with (first|(go_at_call 168;refine(hv _ (h.below (by go_grown))).mono ?_;rintro e w' ⟨rfl,rfl⟩)|(go_at_call 255;refine hh.mono ?_;rintro e w' ⟨rfl,rfl⟩))
   exact bodyPost_ret (v:=.agg #[G S 10,G S 0]) (by simp[results,results232,go_sem]) rfl ⟨rfl,by go_grown⟩
 ·have e1:pfC zs m=vf zs 1:=by simp[pfC,h0]
  have e2:pfV zs m=0:=by simp[pfV,e1,h0]
  rw[e1,e2];clear e1 e2;have h0':(vf zs 1 !=0)=true:=by simpa using h0
  clear h0;generalize vf zs 1=c at*;go_enter func232,ntmps232
  go_wp2_with (go_at_call 168;refine(hv _ (h.below (by go_grown))).mono ?_;rintro e w' ⟨rfl,rfl⟩)
  exact bodyPost_ret (v:=.agg #[G S c,G S 0]) (by simp[results,results232,go_sem]) rfl ⟨rfl,by go_grown⟩
theorem z5x(a:Option Addr)(cap:Nat)(zs:List Int)(m:Int)(w:World)(h:Row .i64 w a zs)(hl:zs.length=3):
  Calls F 221 #[K a 3 cap,G S m] w fun e w'=>e=.returned (.bool (z2y zs m))∧Below w.heap.size w w':=by
 have hq:=z71 m w;unfold z2y;by_cases h1:isQ m=true
 ·have hvo:=fun w h=>z0H a cap zs m 3 w h hl (q14 h1)
  rw[h1]at hq⊢;clear h1;generalize cnt m zs 3=u at*;go_enter func221,ntmps221
  go_wp2_with fail
  refine hq.mono ?_;rintro e w1 ⟨rfl,b1⟩;have hv1:=hvo w1 (h.below b1);clear hvo hq
  go_wp2_with fail
  refine hv1.mono ?_;rintro e w2 ⟨rfl,b2⟩;replace b2:=b1.trans (b2.mono b1.size);clear hv1
  go_wp2
  go_ret;exact⟨by simp,b2⟩
 ·have h1':isQ m=false:=by simpa using h1
  rw[h1']at hq⊢;clear h1 h1';go_enter func221,ntmps221
  go_wp2_with (go_at_call 239;refine hq.mono ?_;rintro e w' ⟨rfl,b1⟩)
  go_ret;exact⟨by simp,b1⟩
theorem z6j(a:Option Addr)(cap:Nat)(zs:List Int)(m:Int)(w:World)(h:Row .i64 w a zs)(hl:zs.length=3)(hm:inB m 0 7=true):
  Calls F 222 #[K a 3 cap,G S m] w fun e w'=>e=.returned (G S (pr2 (cnt m zs 0) (cnt m zs 1)))∧Below w.heap.size w w':=by
 have hc0:=fun w h=>z0H a cap zs m 0 w h hl hm
 have hc1:=fun w h=>z0H a cap zs m 1 w h hl hm
 generalize cnt m zs 0=z at*;generalize cnt m zs 1=o at*;generalize hE:pr2 z o=E;unfold pr2 at hE;have h0:=hc0 w h;clear hc0;by_cases hz:2≤z
 ·rw[if_pos hz]at hE;have HE:Hid (E=0):=hE.symm;clear hc1 hE;go_enter func222,ntmps222
  go_wp2
  refine wp_loop_rounds 1 ?_;rw[rounds_succ]
  go_wp2_with fail
  refine h0.mono ?_;rintro e w1 ⟨rfl,b1⟩;clear h0
  go_wp2
  go_ret;exact⟨by rw[HE.out];rfl,b1⟩
 ·rw[if_neg hz]at hE;have HE:Hid (E=if 2≤o then 1 else 2):=hE.symm;clear hE;go_enter func222,ntmps222
  go_wp2
  refine wp_loop_rounds 3 ?_;rw[rounds_succ]
  go_wp2_with fail
  refine h0.mono ?_;rintro e w1 ⟨rfl,b1⟩;have h1:=hc1 w1 (h.below b1);clear h0 hc1;by_cases ho:2≤o
  ·have HE2:Hid (E=1):=HE.out.trans (if_pos ho);clear HE
   go_wp2_with fail
   rw[rounds_succ]
   go_wp2_with fail
   refine h1.mono ?_;rintro e w2 ⟨rfl,b2⟩;replace b2:=b1.trans (b2.mono b1.size);clear h1
   go_wp2
   go_ret;exact⟨by rw[HE2.out];rfl,b2⟩
  ·have HE2:Hid (E=2):=HE.out.trans (if_neg ho);clear HE
   go_wp2_with fail
   rw[rounds_succ]
   go_wp2_with fail
   refine h1.mono ?_;rintro e w2 ⟨rfl,b2⟩;replace b2:=b1.trans (b2.mono b1.size);clear h1
   go_wp2
   rw[rounds_succ]
   go_wp2
   go_ret;exact⟨by rw[HE2.out];rfl,b2⟩
theorem z8i(a:Option Addr)(cap:Nat)(zs:List Int)(m:Int)(w:World)(h:Row .i64 w a zs)(hm:zs.length≤9223372036854775807):
  Calls F 193 #[K a zs.length cap,G S m] w fun e w'=>e=.returned (.agg #[G S (pfC zs m),G S (pfV zs m)])∧Below w.heap.size w w':=by
 obtain⟨C,hC⟩:∃C,pfC zs m=C:=⟨_,rfl⟩
 obtain⟨V,hV⟩:∃V,pfV zs m=V:=⟨_,rfl⟩
 have HC:Hid (pfC zs m=C∧pfV zs m=V):=And.intro hC hV;rw[hC,hV];clear hC hV;have hB:Below w.heap.size w (w.alloc (.cells #[G S 0,G S 0] 42)):=by go_grown
 have Bx:=l w 42 #[G S 0,G S 0];have hv:=z08 a cap zs 1 _ (h.below hB) hm;go_enter func193,ntmps193
 go_wp2_with fail
 generalize w.alloc (.cells #[G S 0,G S 0] 42)=W at*;refine hv.mono ?_;rintro e w1 ⟨rfl,hb⟩;replace Bx:=Bx.below hb;replace hB:=hB.trans (hb.mono hB.size);clear hv hb;by_cases h0:vf zs 1=0
 ·have hl:=z07 h0;have hh:=z5x a cap zs m w1 (h.below hB) hl;rw[h0,hl];by_cases h1:z2y zs m=true
  ·have HE:Hid (C=0∧V=pr2 (cnt m zs 0) (cnt m zs 1)):=by
    obtain⟨e1,e2⟩:=HC.out;have e3:pfC zs m=0:=by simp[pfC,h0,h1]
    exact⟨e1.symm.trans e3,e2.symm.trans (by simp[pfV,e3])⟩
   have hp:=fun w h=>z6j a cap zs m w h hl (z5d h1)
   rw[h1]at hh;clear h0 hl h1 HC;generalize pr2 (cnt m zs 0) (cnt m zs 1)=P at*
   go_wp2_with fail
   refine hh.mono ?_;rintro e w2 ⟨rfl,hb⟩;replace Bx:=Bx.below hb;replace hB:=hB.trans (hb.mono hB.size);have hp2:=hp w2 (h.below hB);clear hh hb hp
   go_wp2_with fail
   refine hp2.mono ?_;rintro e w3 ⟨rfl,hb⟩;replace Bx:=Bx.below hb;replace hB:=hB.trans (hb.mono hB.size);obtain⟨p0,p1⟩:=Bx.cel2;obtain⟨f0,f1⟩:=Bx.frz2;clear hp2 hb Bx
   go_wp2
   exact bodyPost_ret (v:=.agg #[G S 0,G S P]) (by simp[results,results193,go_sem,p0,p1]) rfl ⟨by rw[HE.out.1,HE.out.2],(hB.setCell (p:=⟨w.heap.size,0,none⟩) (Q _) _).setCell (p:=⟨w.heap.size,1,none⟩) (Q _) _⟩
  ·have h1':z2y zs m=false:=by simpa using h1
   have HE:Hid (C=10∧V=0):=by
    obtain⟨e1,e2⟩:=HC.out;have e3:pfC zs m=10:=by simp[pfC,h0,h1']
    exact⟨e1.symm.trans e3,e2.symm.trans (by simp[pfV,e3])⟩
   rw[h1']at hh;clear h0 hl h1 HC
   go_wp2_with fail
   refine hh.mono ?_;rintro e w2 ⟨rfl,hb⟩;replace Bx:=Bx.below hb;replace hB:=hB.trans (hb.mono hB.size);obtain⟨p0,p1⟩:=Bx.cel2;obtain⟨f0,f1⟩:=Bx.frz2;clear hh hb Bx
   go_wp2
   exact bodyPost_ret (v:=.agg #[G S 10,G S 0]) (by simp[results,results193,go_sem,p0,p1]) rfl ⟨by rw[HE.out.1,HE.out.2],(hB.setCell (p:=⟨w.heap.size,0,none⟩) (Q _) _).setCell (p:=⟨w.heap.size,1,none⟩) (Q _) _⟩
 ·have HE:Hid (C=vf zs 1∧V=0):=by
   obtain⟨e1,e2⟩:=HC.out;have e3:pfC zs m=vf zs 1:=by simp[pfC,h0]
   exact⟨e1.symm.trans e3,e2.symm.trans (by simp[pfV,e3,h0])⟩
  have h0':(vf zs 1 !=0)=true:=by simpa using h0
  clear h0 HC;generalize vf zs 1=c at*;obtain⟨p0,p1⟩:=Bx.cel2;obtain⟨f0,f1⟩:=Bx.frz2;clear Bx
  go_wp2
  exact bodyPost_ret (v:=.agg #[G S c,G S 0]) (by simp[results,results193,go_sem,p0,p1]) rfl ⟨by rw[HE.out.1,HE.out.2],(hB.setCell (p:=⟨w.heap.size,0,none⟩) (Q _) _).setCell (p:=⟨w.heap.size,1,none⟩) (Q _) _⟩
end Go.Proofs.YtjjoahhnkpjolaaGreatDoor
