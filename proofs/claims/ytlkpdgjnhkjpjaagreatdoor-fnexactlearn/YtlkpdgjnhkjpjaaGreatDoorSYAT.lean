import Derived.Test.YtlkpdgjnhkjpjaaGreatDoorSYAS
set_option linter.unusedVariables false
set_option linter.unusedSimpArgs false
set_option maxRecDepth 100000
set_option maxHeartbeats 4000000
namespace Go.Proofs.YtlkpdgjnhkjpjaaGreatDoor
open Go.RowKit Go.BigFrame
open RepQ renaming n->Q
open List renaming mem_append_right->E,mem_append_left->j
open Blk renaming new->o
open IntKind renaming i64->S
open Value renaming int->D,slice->K
open Go.Proofs.Tryz renaming prog->G
open Go.Proofs.Tryz
def mkRep(c:Int):RepQ→RepQ
 |⟨vd,done,vb,base,vt,tent,vu,undos,vn,now⟩=>⟨vd,mkL z0W nmTxn (c) done,vb,mkItems (c+((nmL nmTxn done:Nat):Int)) base,vt,mkL z0W nmTxn (c+((nmL nmTxn done:Nat):Int)+((base.length*2:Nat):Int)) tent,vu,mkL z2Q nmUs (c+((nmL nmTxn done:Nat):Int)+((base.length*2:Nat):Int)+((nmL nmTxn tent:Nat):Int)) undos,vn,mkItems (c+((nmL nmTxn done:Nat):Int)+((base.length*2:Nat):Int)+((nmL nmTxn tent:Nat):Int)+((nmL nmUs undos:Nat):Int)) now⟩
def nmRep:RepQ→Nat
 |⟨vd,done,vb,base,vt,tent,vu,undos,vn,now⟩=>nmL nmTxn done+base.length*2+nmL nmTxn tent+nmL nmUs undos+now.length*2
theorem z3e(ps:List TxnQ):nmL nmTxn ps≤3*(ps.length+nmL TxnQ.n ps):=by
 induction ps with
 |nil=>simp[nmL]
 |cons p r ih=>
  simp only[nmL,List.map_cons,List.sum_cons,List.length_cons]at ih⊢;simp only[nmTxn,TxnQ.n]at ih⊢;omega
theorem z7B(ps:List USQ):nmL nmUs ps≤3*(ps.length+nmL USQ.n ps):=by
 induction ps with
 |nil=>simp[nmL]
 |cons p r ih=>
  simp only[nmL,List.map_cons,List.sum_cons,List.length_cons]at ih⊢;simp only[nmUs,USQ.n]at ih⊢;omega
theorem z7C(p:RepQ)(c:Int)(w:World)(h:repK.own w p)(ae:(repK.foot p).Nodup)(hl:Q p≤1048576)(h0:0≤c)(h1:c≤1000000000):
  Calls G 88 #[.agg #[p.vd,p.vb,p.vt,p.vu,p.vn],D S c] w fun e w'=>e=.returned (D S (c+(nmRep p:Int)))∧repK.own w' (mkRep c p)∧Out (repK.foot p) w w':=by
 obtain⟨vd,y,vb,base,vt,z,vu,x,vn,A⟩:=p;obtain⟨o0,o1,o2,o3,o4⟩:txnK.Own w vd y∧itemK.Own w vb base∧txnK.Own w vt z∧ussK.Own w vu x∧itemK.Own w vn A:=h;obtain⟨n0,r0,x0⟩:=List.nodup_append.1 ae;obtain⟨n1,r1,x1⟩:=List.nodup_append.1 r0;obtain⟨n2,r2,x2⟩:=List.nodup_append.1 r1;obtain⟨n3,n4,x3⟩:=List.nodup_append.1 r2;have af:∀k∈itemK.fp vb base,k∉txnK.fp vd y:=fun k hk C=>x0 k C k (j _ hk) rfl
 have aj:∀k∈txnK.fp vd y,k∉itemK.fp vb base:=fun k C hk=>x0 k C k (j _ hk) rfl
 have ag:∀k∈txnK.fp vt z,k∉txnK.fp vd y:=fun k hk C=>x0 k C k (E _ (j _ hk)) rfl
 have an:∀k∈txnK.fp vd y,k∉txnK.fp vt z:=fun k C hk=>x0 k C k (E _ (j _ hk)) rfl
 have ah:∀k∈ussK.fp vu x,k∉txnK.fp vd y:=fun k hk C=>x0 k C k (E _ (E _ (j _ hk))) rfl
 have ar:∀k∈txnK.fp vd y,k∉ussK.fp vu x:=fun k C hk=>x0 k C k (E _ (E _ (j _ hk))) rfl
 have ai:∀k∈itemK.fp vn A,k∉txnK.fp vd y:=fun k hk C=>x0 k C k (E _ (E _ (E _ hk))) rfl
 have ax:∀k∈txnK.fp vd y,k∉itemK.fp vn A:=fun k C hk=>x0 k C k (E _ (E _ (E _ hk))) rfl
 have ak:∀k∈txnK.fp vt z,k∉itemK.fp vb base:=fun k hk C=>x1 k C k (j _ hk) rfl
 have ao:∀k∈itemK.fp vb base,k∉txnK.fp vt z:=fun k C hk=>x1 k C k (j _ hk) rfl
 have al:∀k∈ussK.fp vu x,k∉itemK.fp vb base:=fun k hk C=>x1 k C k (E _ (j _ hk)) rfl
 have au:∀k∈itemK.fp vb base,k∉ussK.fp vu x:=fun k C hk=>x1 k C k (E _ (j _ hk)) rfl
 have am:∀k∈itemK.fp vn A,k∉itemK.fp vb base:=fun k hk C=>x1 k C k (E _ (E _ hk)) rfl
 have ay:∀k∈itemK.fp vb base,k∉itemK.fp vn A:=fun k C hk=>x1 k C k (E _ (E _ hk)) rfl
 have ap:∀k∈ussK.fp vu x,k∉txnK.fp vt z:=fun k hk C=>x2 k C k (j _ hk) rfl
 have av:∀k∈txnK.fp vt z,k∉ussK.fp vu x:=fun k C hk=>x2 k C k (j _ hk) rfl
 have aq:∀k∈itemK.fp vn A,k∉txnK.fp vt z:=fun k hk C=>x2 k C k (E _ hk) rfl
 have az:∀k∈txnK.fp vt z,k∉itemK.fp vn A:=fun k C hk=>x2 k C k (E _ hk) rfl
 have aw:∀k∈itemK.fp vn A,k∉ussK.fp vu x:=fun k hk C=>x3 k C k hk rfl
 have aA:∀k∈ussK.fp vu x,k∉itemK.fp vn A:=fun k C hk=>x3 k C k hk rfl
 have n0:(txnK.fp vd y).Nodup:=n0;have n1:(itemK.fp vb base).Nodup:=n1;have n2:(txnK.fp vt z).Nodup:=n2;have n3:(ussK.fp vu x).Nodup:=n3;have n4:(itemK.fp vn A).Nodup:=n4;clear ae r0 r1 r2 x0 x1 x2 x3;dsimp only[Q]at hl;have t0:=z3e y;have t2:=z3e z;have t3:=z7B x;have N:Hid (∀ {w w':World},Out (txnK.fp vd y) w w'→Out (repK.foot ⟨vd,y,vb,base,vt,z,vu,x,vn,A⟩) w w'):=fun h=>h.mono (fun k hk=>(j _ hk))
 have O:Hid (∀ {w w':World},Out (itemK.fp vb base) w w'→Out (repK.foot ⟨vd,y,vb,base,vt,z,vu,x,vn,A⟩) w w'):=fun h=>h.mono (fun k hk=>(E _ (j _ hk)))
 have T:Hid (∀ {w w':World},Out (txnK.fp vt z) w w'→Out (repK.foot ⟨vd,y,vb,base,vt,z,vu,x,vn,A⟩) w w'):=fun h=>h.mono (fun k hk=>(E _ (E _ (j _ hk))))
 have U:Hid (∀ {w w':World},Out (ussK.fp vu x) w w'→Out (repK.foot ⟨vd,y,vb,base,vt,z,vu,x,vn,A⟩) w w'):=fun h=>h.mono (fun k hk=>(E _ (E _ (E _ (j _ hk)))))
 have V:Hid (∀ {w w':World},Out (itemK.fp vn A) w w'→Out (repK.foot ⟨vd,y,vb,base,vt,z,vu,x,vn,A⟩) w w'):=fun h=>h.mono (fun k hk=>(E _ (E _ (E _ (E _ hk)))))
 have Y:=fun w h=>z4u vd y (c) w h n0 (by omega) (by omega) (by omega)
 have Z:=fun w h=>z5D vb base (c+((nmL nmTxn y:Nat):Int)) w h (by omega) (by omega) (by omega)
 have aa:=fun w h=>z4u vt z (c+((nmL nmTxn y:Nat):Int)+((base.length*2:Nat):Int)) w h n2 (by omega) (by omega) (by omega)
 have ab:=fun w h=>q2E vu x (c+((nmL nmTxn y:Nat):Int)+((base.length*2:Nat):Int)+((nmL nmTxn z:Nat):Int)) w h n3 (by omega) (by omega) (by omega)
 have ad:=fun w h=>z5D vn A (c+((nmL nmTxn y:Nat):Int)+((base.length*2:Nat):Int)+((nmL nmTxn z:Nat):Int)+((nmL nmUs x:Nat):Int)) w h (by omega) (by omega) (by omega)
 have e0:∀c,txnK.fp vd (mkL z0W nmTxn c y)=txnK.fp vd y:=fun c=>z75 z20 _ _ _
 have e1:∀c,itemK.fp vb (mkItems c base)=itemK.fp vb base:=fun c=>q0U c vb base
 have e2:∀c,txnK.fp vt (mkL z0W nmTxn c z)=txnK.fp vt z:=fun c=>z75 z20 _ _ _
 have e3:∀c,ussK.fp vu (mkL z2Q nmUs c x)=ussK.fp vu x:=fun c=>z75 z8M _ _ _
 have HR:Hid (∀w',txnK.Own w' vd (mkL z0W nmTxn (c) y)→itemK.Own w' vb (mkItems (c+((nmL nmTxn y:Nat):Int)) base)→txnK.Own w' vt (mkL z0W nmTxn (c+((nmL nmTxn y:Nat):Int)+((base.length*2:Nat):Int)) z)→ussK.Own w' vu (mkL z2Q nmUs (c+((nmL nmTxn y:Nat):Int)+((base.length*2:Nat):Int)+((nmL nmTxn z:Nat):Int)) x)→itemK.Own w' vn (mkItems (c+((nmL nmTxn y:Nat):Int)+((base.length*2:Nat):Int)+((nmL nmTxn z:Nat):Int)+((nmL nmUs x:Nat):Int)) A)→repK.own w' (mkRep c ⟨vd,y,vb,base,vt,z,vu,x,vn,A⟩)):=fun w' a b c d e=>⟨a,b,c,d,e⟩
 have HS:Hid ((c+((nmL nmTxn y:Nat):Int)+((base.length*2:Nat):Int)+((nmL nmTxn z:Nat):Int)+((nmL nmUs x:Nat):Int)+((A.length*2:Nat):Int):Int)=c+(nmRep ⟨vd,y,vb,base,vt,z,vu,x,vn,A⟩:Int)):=show _=_ by dsimp only[nmRep];omega
 obtain⟨a0,k0,rfl⟩:=o0.shape;obtain⟨a1,k1,rfl⟩:=o1.shape;obtain⟨a2,k2,rfl⟩:=o2.shape;obtain⟨a3,k3,rfl⟩:=o3.shape;obtain⟨a4,k4,rfl⟩:=o4.shape;have B:=o w 29 #[K a0 y.length k0,K a1 base.length k1,K a2 z.length k2,K a3 x.length k3,K a4 A.length k4];have hB:Below w.heap.size w (w.alloc (.cells #[K a0 y.length k0,K a1 base.length k1,K a2 z.length k2,K a3 x.length k3,K a4 A.length k4] 29)):=by go_grown
 have I:=o0.lt;have J:=o1.lt;have L:=o2.lt;have M:=o3.lt;have X:=o4.lt;have HB:Hid (w.heap.size∉txnK.fp (K a0 y.length k0) y∧w.heap.size∉itemK.fp (K a1 base.length k1) base∧w.heap.size∉txnK.fp (K a2 z.length k2) z∧w.heap.size∉ussK.fp (K a3 x.length k3) x):=⟨fun e=>Nat.lt_irrefl _ (I _ e),fun e=>Nat.lt_irrefl _ (J _ e),fun e=>Nat.lt_irrefl _ (L _ e),fun e=>Nat.lt_irrefl _ (M _ e)⟩
 clear I J L M X t0 t2 t3;replace o0:=o0.below hB;replace o1:=o1.below hB;replace o2:=o2.below hB;replace o3:=o3.below hB;replace o4:=o4.below hB;have HU:Hid (Out (repK.foot ⟨K a0 y.length k0,y,K a1 base.length k1,base,K a2 z.length k2,z,K a3 x.length k3,x,K a4 A.length k4,A⟩) w _):=Out.of_below hB;clear hB;generalize nmRep ⟨K a0 y.length k0,y,K a1 base.length k1,base,K a2 z.length k2,z,K a3 x.length k3,x,K a4 A.length k4,A⟩=NR at*;generalize mkRep c ⟨K a0 y.length k0,y,K a1 base.length k1,base,K a2 z.length k2,z,K a3 x.length k3,x,K a4 A.length k4,A⟩=MR at*;generalize ((nmL nmTxn y:Nat):Int)=C0 at*;generalize ((base.length*2:Nat):Int)=C1 at*;generalize ((nmL nmTxn z:Nat):Int)=C2 at*;generalize ((nmL nmUs x:Nat):Int)=C3 at*;generalize ((A.length*2:Nat):Int)=C4 at*;have p0:=B.cell 0 _ rfl;go_enter func88,ntmps88
 go_wp2_with fail
 generalize w.alloc (.cells #[K a0 y.length k0,K a1 base.length k1,K a2 z.length k2,K a3 x.length k3,K a4 A.length k4] 29)=W at*;clear p0;refine(Y W o0).mono ?_;rintro e w1 ⟨rfl,O0,u0⟩;replace o1:=o1.out u0 af;replace o2:=o2.out u0 ag;replace o3:=o3.out u0 ah;replace o4:=o4.out u0 ai;replace B:Blk w1 _ _ _:=(u0.block _ B.lt HB.out.1).trans B;have HV:Hid (Out (repK.foot ⟨K a0 y.length k0,y,K a1 base.length k1,base,K a2 z.length k2,z,K a3 x.length k3,x,K a4 A.length k4,A⟩) w w1):=HU.out.trans (N.out u0);clear HU;have HU:=HV;clear HV Y o0 u0;have q:=B.cell 1 _ rfl
 go_wp2_with fail
 clear q;refine(Z w1 o1).mono ?_;rintro e w2 ⟨rfl,O1,u1⟩;replace O0:=O0.out u1 (by rw[e0];exact aj);replace o2:=o2.out u1 ak;replace o3:=o3.out u1 al;replace o4:=o4.out u1 am;replace B:Blk w2 _ _ _:=(u1.block _ B.lt HB.out.2.1).trans B;have HV:Hid (Out (repK.foot ⟨K a0 y.length k0,y,K a1 base.length k1,base,K a2 z.length k2,z,K a3 x.length k3,x,K a4 A.length k4,A⟩) w w2):=HU.out.trans (O.out u1);clear HU;have HU:=HV;clear HV Z o1 u1;have q:=B.cell 2 _ rfl
 go_wp2_with fail
 clear q;refine(aa w2 o2).mono ?_;rintro e w3 ⟨rfl,O2,u2⟩;replace O0:=O0.out u2 (by rw[e0];exact an);replace O1:=O1.out u2 (by rw[e1];exact ao);replace o3:=o3.out u2 ap;replace o4:=o4.out u2 aq;replace B:Blk w3 _ _ _:=(u2.block _ B.lt HB.out.2.2.1).trans B;have HV:Hid (Out (repK.foot ⟨K a0 y.length k0,y,K a1 base.length k1,base,K a2 z.length k2,z,K a3 x.length k3,x,K a4 A.length k4,A⟩) w w3):=HU.out.trans (T.out u2);clear HU;have HU:=HV;clear HV aa o2 u2;have q:=B.cell 3 _ rfl
 go_wp2_with fail
 clear q;refine(ab w3 o3).mono ?_;rintro e w4 ⟨rfl,O3,u3⟩;replace O0:=O0.out u3 (by rw[e0];exact ar);replace O1:=O1.out u3 (by rw[e1];exact au);replace O2:=O2.out u3 (by rw[e2];exact av);replace o4:=o4.out u3 aw;replace B:Blk w4 _ _ _:=(u3.block _ B.lt HB.out.2.2.2).trans B;have HV:Hid (Out (repK.foot ⟨K a0 y.length k0,y,K a1 base.length k1,base,K a2 z.length k2,z,K a3 x.length k3,x,K a4 A.length k4,A⟩) w w4):=HU.out.trans (U.out u3);clear HU;have HU:=HV;clear HV ab o3 u3;have q:=B.cell 4 _ rfl
 go_wp2_with fail
 clear q;refine(ad w4 o4).mono ?_;rintro e w5 ⟨rfl,O4,u4⟩;replace O0:=O0.out u4 (by rw[e0];exact ax);replace O1:=O1.out u4 (by rw[e1];exact ay);replace O2:=O2.out u4 (by rw[e2];exact az);replace O3:=O3.out u4 (by rw[e3];exact aA);have HV:Hid (Out (repK.foot ⟨K a0 y.length k0,y,K a1 base.length k1,base,K a2 z.length k2,z,K a3 x.length k3,x,K a4 A.length k4,A⟩) w w5):=HU.out.trans (V.out u4);clear HU;have HU:=HV;clear HV ad o4 u4;have R:=HR.out w5 O0 O1 O2 O3 O4;clear B O0 O1 O2 O3 O4 HB HR N O T U V e0 e1 e2 e3
 go_wp2
 go_ret;exact⟨by rw[HS.out];rfl,R,HU.out⟩
theorem z7D(p:RepQ)(c:Int)(w:World)(h:repK.rd w (mkRep c p))(hl:Q p≤1048576)(h0:0≤c)(h1:c≤1000000000):
  Calls G 145 #[.agg #[p.vd,p.vb,p.vt,p.vu,p.vn],D S c] w fun e w'=>e=.returned (D S (c+(nmRep p:Int)))∧Below w.heap.size w w':=by
 obtain⟨vd,d,vb,base,vt,x,vu,y,vn,z⟩:=p;obtain⟨o0,o1,o2,o3,o4⟩:txnK.At w vd (mkL z0W nmTxn (c) d)∧itemK.At w vb (mkItems (c+((nmL nmTxn d:Nat):Int)) base)∧txnK.At w vt (mkL z0W nmTxn (c+((nmL nmTxn d:Nat):Int)+((base.length*2:Nat):Int)) x)∧ussK.At w vu (mkL z2Q nmUs (c+((nmL nmTxn d:Nat):Int)+((base.length*2:Nat):Int)+((nmL nmTxn x:Nat):Int)) y)∧itemK.At w vn (mkItems (c+((nmL nmTxn d:Nat):Int)+((base.length*2:Nat):Int)+((nmL nmTxn x:Nat):Int)+((nmL nmUs y:Nat):Int)) z):=h;dsimp only[Q]at hl;have t0:=z3e d;have t2:=z3e x;have t3:=z7B y;have A:=fun w h=>z6N vd d (c) w h (by omega) (by omega) (by omega)
 have C:=fun w h=>z5E vb base (c+((nmL nmTxn d:Nat):Int)) w h (by omega) (by omega) (by omega)
 have I:=fun w h=>z6N vt x (c+((nmL nmTxn d:Nat):Int)+((base.length*2:Nat):Int)) w h (by omega) (by omega) (by omega)
 have J:=fun w h=>q2F vu y (c+((nmL nmTxn d:Nat):Int)+((base.length*2:Nat):Int)+((nmL nmTxn x:Nat):Int)) w h (by omega) (by omega) (by omega)
 have L:=fun w h=>z5E vn z (c+((nmL nmTxn d:Nat):Int)+((base.length*2:Nat):Int)+((nmL nmTxn x:Nat):Int)+((nmL nmUs y:Nat):Int)) w h (by omega) (by omega) (by omega)
 have HS:Hid ((c+((nmL nmTxn d:Nat):Int)+((base.length*2:Nat):Int)+((nmL nmTxn x:Nat):Int)+((nmL nmUs y:Nat):Int)+((z.length*2:Nat):Int):Int)=c+(nmRep ⟨vd,d,vb,base,vt,x,vu,y,vn,z⟩:Int)):=show _=_ by dsimp only[nmRep];omega
 have g1:¬c+((nmL nmTxn d:Nat):Int)<0:=by omega
 have g2:¬c+((nmL nmTxn d:Nat):Int)+((base.length*2:Nat):Int)<0:=by omega
 have g3:¬c+((nmL nmTxn d:Nat):Int)+((base.length*2:Nat):Int)+((nmL nmTxn x:Nat):Int)<0:=by omega
 have g4:¬c+((nmL nmTxn d:Nat):Int)+((base.length*2:Nat):Int)+((nmL nmTxn x:Nat):Int)+((nmL nmUs y:Nat):Int)<0:=by omega
 have g5:¬c+((nmL nmTxn d:Nat):Int)+((base.length*2:Nat):Int)+((nmL nmTxn x:Nat):Int)+((nmL nmUs y:Nat):Int)+((z.length*2:Nat):Int)<0:=by omega
 obtain⟨a0,k0,rfl⟩:=o0.shape;obtain⟨a1,k1,rfl⟩:=o1.shape;obtain⟨a2,k2,rfl⟩:=o2.shape;obtain⟨a3,k3,rfl⟩:=o3.shape;obtain⟨a4,k4,rfl⟩:=o4.shape;generalize M:(mkL z0W nmTxn (c) d).length=L0 at*;generalize N:(mkItems (c+((nmL nmTxn d:Nat):Int)) base).length=L1 at*;generalize O:(mkL z0W nmTxn (c+((nmL nmTxn d:Nat):Int)+((base.length*2:Nat):Int)) x).length=L2 at*;generalize T:(mkL z2Q nmUs (c+((nmL nmTxn d:Nat):Int)+((base.length*2:Nat):Int)+((nmL nmTxn x:Nat):Int)) y).length=L3 at*;generalize U:(mkItems (c+((nmL nmTxn d:Nat):Int)+((base.length*2:Nat):Int)+((nmL nmTxn x:Nat):Int)+((nmL nmUs y:Nat):Int)) z).length=L4 at*;generalize mkL z0W nmTxn (c) d=M0 at*;generalize mkItems (c+((nmL nmTxn d:Nat):Int)) base=M1 at*;generalize mkL z0W nmTxn (c+((nmL nmTxn d:Nat):Int)+((base.length*2:Nat):Int)) x=M2 at*;generalize mkL z2Q nmUs (c+((nmL nmTxn d:Nat):Int)+((base.length*2:Nat):Int)+((nmL nmTxn x:Nat):Int)) y=M3 at*;generalize mkItems (c+((nmL nmTxn d:Nat):Int)+((base.length*2:Nat):Int)+((nmL nmTxn x:Nat):Int)+((nmL nmUs y:Nat):Int)) z=M4 at*;clear M N O T U t0 t2 t3;generalize ((nmL nmTxn d:Nat):Int)=C0 at*;generalize ((base.length*2:Nat):Int)=C1 at*;generalize ((nmL nmTxn x:Nat):Int)=C2 at*;generalize ((nmL nmUs y:Nat):Int)=C3 at*;generalize ((z.length*2:Nat):Int)=C4 at*;generalize nmRep _=NR at*;have B:=o w 29 #[K a0 L0 k0,K a1 L1 k1,K a2 L2 k2,K a3 L3 k3,K a4 L4 k4];have hB:Below w.heap.size w (w.alloc (.cells #[K a0 L0 k0,K a1 L1 k1,K a2 L2 k2,K a3 L3 k3,K a4 L4 k4] 29)):=by go_grown
 have p0:=B.cell 0 _ rfl;go_enter func145,ntmps145
 go_wp2_with fail
 generalize w.alloc (.cells #[K a0 L0 k0,K a1 L1 k1,K a2 L2 k2,K a3 L3 k3,K a4 L4 k4] 29)=W at*;clear p0;refine(A W (o0.below hB)).mono ?_;rintro e w1 ⟨rfl,hb⟩;replace B:=B.below hb;replace hB:=hB.trans (hb.mono hB.size);clear A hb;have q:=B.cell 1 _ rfl
 go_wp2_with fail
 clear q;refine(C w1 (o1.below hB)).mono ?_;rintro e w2 ⟨rfl,hb⟩;replace B:=B.below hb;replace hB:=hB.trans (hb.mono hB.size);clear C hb;have q:=B.cell 2 _ rfl
 go_wp2_with fail
 clear q;refine(I w2 (o2.below hB)).mono ?_;rintro e w3 ⟨rfl,hb⟩;replace B:=B.below hb;replace hB:=hB.trans (hb.mono hB.size);clear I hb;have q:=B.cell 3 _ rfl
 go_wp2_with fail
 clear q;refine(J w3 (o3.below hB)).mono ?_;rintro e w4 ⟨rfl,hb⟩;replace B:=B.below hb;replace hB:=hB.trans (hb.mono hB.size);clear J hb;have q:=B.cell 4 _ rfl
 go_wp2_with fail
 clear q;refine(L w4 (o4.below hB)).mono ?_;rintro e w5 ⟨rfl,hb⟩;replace B:=B.below hb;replace hB:=hB.trans (hb.mono hB.size);clear L hb;clear B
 go_wp2
 go_ret;exact⟨by rw[HS.out];rfl,hB⟩
theorem z8N{p:RepQ}{c:Int}{w:World}(h:repK.rd w (mkRep c p)):(∃a l k,p.vd=K a l k)∧(∃a l k,p.vb=K a l k)∧(∃a l k,p.vt=K a l k)∧(∃a l k,p.vu=K a l k)∧(∃a l k,p.vn=K a l k):=by
 obtain⟨vd,done,vb,base,vt,tent,vu,undos,vn,now⟩:=p;obtain⟨h0,h1,h2,h3,h4⟩:=h;obtain⟨a0,k0,e0⟩:=h0.shape;obtain⟨a1,k1,e1⟩:=h1.shape;obtain⟨a2,k2,e2⟩:=h2.shape;obtain⟨a3,k3,e3⟩:=h3.shape;obtain⟨a4,k4,e4⟩:=h4.shape;exact⟨⟨_,_,_,e0⟩,⟨_,_,_,e1⟩,⟨_,_,_,e2⟩,⟨_,_,_,e3⟩,⟨_,_,_,e4⟩⟩
theorem q32(kn sf:Int)(p:RepQ)(c:Int)(w:World)(h:repK.rd w p)(hn:RepQ.wf p)(h0:0≤c)(h1:c≤1048576):
  Calls G 36 #[.agg #[D S kn,D S sf,p.vd,p.vb,p.vt,p.vu,p.vn],D S c] w fun e w'=>∃r:Int,e=.returned (D S r)∧(¬r<0→(Q p:Int)+r=c)∧Below w.heap.size w w':=by
 have hm:=fun w h=>z9E p c w h hn h0 h1
 have hr:=fun(w':World) hb=>repK.rd_below (w':=w') h hb
 generalize (Q p:Int)=NP at*;clear hn;obtain⟨vd,x,vb,base,vt,y,vu,d,vn,z⟩:=p;obtain⟨a0,k0,rfl⟩:∃a c,vd=K a x.length c:=h.1.shape;obtain⟨a1,k1,rfl⟩:∃a c,vb=K a base.length c:=h.2.1.shape;obtain⟨a2,k2,rfl⟩:∃a c,vt=K a y.length c:=h.2.2.1.shape;obtain⟨a3,k3,rfl⟩:∃a c,vu=K a d.length c:=h.2.2.2.1.shape;obtain⟨a4,k4,rfl⟩:∃a c,vn=K a z.length c:=h.2.2.2.2.shape;dsimp only at hm;have hB:Below w.heap.size w (w.alloc (.cells #[D S kn,D S sf,K a0 x.length k0,K a1 base.length k1,K a2 y.length k2,K a3 d.length k3,K a4 z.length k4] 63)):=by go_grown
 have B:=o w 63 #[D S kn,D S sf,K a0 x.length k0,K a1 base.length k1,K a2 y.length k2,K a3 d.length k3,K a4 z.length k4];obtain⟨q0,q1,q2,q3,q4,q5,q6⟩:=B.cel7;go_enter func36,ntmps36
 go_wp2_with fail
 clear q0 q1 q2 q3 q4 q5 q6 B;have A:=hr _ hB;generalize w.alloc (.cells #[D S kn,D S sf,K a0 x.length k0,K a1 base.length k1,K a2 y.length k2,K a3 d.length k3,K a4 z.length k4] 63)=W at*;refine(hm W A).mono ?_;rintro e w1 ⟨r,rfl,hq,hb⟩;replace hB:=hB.trans (hb.mono hB.size);by_cases C:r<0
 ·go_wp2
  go_ret;exact⟨_,rfl,fun h=>absurd h (by decide),hB⟩
 ·go_wp2
  go_ret;exact⟨_,rfl,hq,hB⟩
theorem q33(kn sf:Int)(p:RepQ)(w:World)(h:repK.rd w p)(hl:Q p≤1048576):
  Calls G 38 #[.agg #[D S kn,D S sf,p.vd,p.vb,p.vt,p.vu,p.vn]] w fun e w'=>∃p':RepQ,e=.returned (.agg #[D S kn,D S sf,p'.vd,p'.vb,p'.vt,p'.vu,p'.vn])∧p'.e=p.e∧repK.own w' p'∧(repK.foot p').Nodup∧(∀k∈repK.foot p',w.heap.size≤k)∧Below w.heap.size w w':=by
 have hm:=fun w h=>z9G p w h hl
 have hr:=fun(w':World) hb=>repK.rd_below (w':=w') h hb
 generalize p.e=PE at*;obtain⟨vd,x,vb,base,vt,y,vu,d,vn,z⟩:=p;obtain⟨a0,k0,rfl⟩:∃a c,vd=K a x.length c:=h.1.shape;obtain⟨a1,k1,rfl⟩:∃a c,vb=K a base.length c:=h.2.1.shape;obtain⟨a2,k2,rfl⟩:∃a c,vt=K a y.length c:=h.2.2.1.shape;obtain⟨a3,k3,rfl⟩:∃a c,vu=K a d.length c:=h.2.2.2.1.shape;obtain⟨a4,k4,rfl⟩:∃a c,vn=K a z.length c:=h.2.2.2.2.shape;dsimp only at hm;clear hl;have hB:Below w.heap.size w (((w.alloc (.cells #[D S kn,D S sf,K a0 x.length k0,K a1 base.length k1,K a2 y.length k2,K a3 d.length k3,K a4 z.length k4] 63)).alloc (.cells #[D S 0,D S 0,K none 0 0,K none 0 0,K none 0 0,K none 0 0,K none 0 0] 31)).alloc (.cells #[D S kn,D S sf,K none 0 0,K none 0 0,K none 0 0,K none 0 0,K none 0 0] 31)):=by go_grown
 have R:=(o (w.alloc (.cells #[D S kn,D S sf,K a0 x.length k0,K a1 base.length k1,K a2 y.length k2,K a3 d.length k3,K a4 z.length k4] 63)) 31 #[D S 0,D S 0,K none 0 0,K none 0 0,K none 0 0,K none 0 0,K none 0 0]).below (w':=(((w.alloc (.cells #[D S kn,D S sf,K a0 x.length k0,K a1 base.length k1,K a2 y.length k2,K a3 d.length k3,K a4 z.length k4] 63)).alloc (.cells #[D S 0,D S 0,K none 0 0,K none 0 0,K none 0 0,K none 0 0,K none 0 0] 31)).alloc (.cells #[D S kn,D S sf,K none 0 0,K none 0 0,K none 0 0,K none 0 0,K none 0 0] 31))) (by go_grown);have O:=o ((w.alloc (.cells #[D S kn,D S sf,K a0 x.length k0,K a1 base.length k1,K a2 y.length k2,K a3 d.length k3,K a4 z.length k4] 63)).alloc (.cells #[D S 0,D S 0,K none 0 0,K none 0 0,K none 0 0,K none 0 0,K none 0 0] 31)) 31 #[D S kn,D S sf,K none 0 0,K none 0 0,K none 0 0,K none 0 0,K none 0 0];have hS:(((w.alloc (.cells #[D S kn,D S sf,K a0 x.length k0,K a1 base.length k1,K a2 y.length k2,K a3 d.length k3,K a4 z.length k4] 63)).alloc (.cells #[D S 0,D S 0,K none 0 0,K none 0 0,K none 0 0,K none 0 0,K none 0 0] 31)).alloc (.cells #[D S kn,D S sf,K none 0 0,K none 0 0,K none 0 0,K none 0 0,K none 0 0] 31)).heap.size=w.heap.size+3:=by simp only[World.size_alloc]
 simp only[World.size_alloc]at R O;have B:=(o w 63 #[D S kn,D S sf,K a0 x.length k0,K a1 base.length k1,K a2 y.length k2,K a3 d.length k3,K a4 z.length k4]).below (w':=(((w.alloc (.cells #[D S kn,D S sf,K a0 x.length k0,K a1 base.length k1,K a2 y.length k2,K a3 d.length k3,K a4 z.length k4] 63)).alloc (.cells #[D S 0,D S 0,K none 0 0,K none 0 0,K none 0 0,K none 0 0,K none 0 0] 31)).alloc (.cells #[D S 0,D S 0,K none 0 0,K none 0 0,K none 0 0,K none 0 0,K none 0 0] 31))) (by go_grown);obtain⟨q0,q1,q2,q3,q4,q5,q6⟩:=B.cel7;go_enter func38,ntmps38
 go_wp2_with fail
 clear q0 q1 q2 q3 q4 q5 q6 B;have C:=hr _ hB;generalize (((w.alloc (.cells #[D S kn,D S sf,K a0 x.length k0,K a1 base.length k1,K a2 y.length k2,K a3 d.length k3,K a4 z.length k4] 63)).alloc (.cells #[D S 0,D S 0,K none 0 0,K none 0 0,K none 0 0,K none 0 0,K none 0 0] 31)).alloc (.cells #[D S kn,D S sf,K none 0 0,K none 0 0,K none 0 0,K none 0 0,K none 0 0] 31))=W at*;refine(hm W C).mono ?_;rintro e w1 ⟨q,rfl,E0,O0,N0,G0,hb⟩;replace hB:=hB.trans (hb.mono hB.size);replace R:=R.below hb;replace O:=O.below hb;have Z:=hb.size;clear hb hm hr C;obtain⟨T,qd,N,qb,X,qt,Y,qu,U,qn⟩:=q;obtain⟨x0,z0,rfl⟩:∃a c,T=K a qd.length c:=O0.1.shape;obtain⟨x1,z1,rfl⟩:∃a c,N=K a qb.length c:=O0.2.1.shape;obtain⟨x2,z2,rfl⟩:∃a c,X=K a qt.length c:=O0.2.2.1.shape;obtain⟨x3,z3,rfl⟩:∃a c,Y=K a qu.length c:=O0.2.2.2.1.shape;obtain⟨x4,z4,rfl⟩:∃a c,U=K a qn.length c:=O0.2.2.2.2.shape;have U1:=q0l w1 (w.heap.size+1+1) (K x0 qd.length z0) (K x1 qb.length z1) (K x2 qt.length z2) (K x3 qu.length z3) (K x4 qn.length z4);have O2:=O.mid5 (K x0 qd.length z0) (K x1 qb.length z1) (K x2 qt.length z2) (K x3 qu.length z3) (K x4 qn.length z4);have R2:Blk _ _ _ _:=(U1.block _ R.lt (by simp)).trans R;have OW:=repK.own_out O0 U1 (fun k hk=>by have:=G0 k hk;simp;omega);have A:=Out.keep hB U1 hB.size (fun k hk=>by simp at hk;omega);have M:(G.info? 29).map (·.size)=some (#[K x0 qd.length z0,K x1 qb.length z1,K x2 qt.length z2,K x3 qu.length z3,K x4 qn.length z4]:Array Value).size:=by kernel_rfl
 have L:(G.info? 31).map (·.size)=some (#[D S kn,D S sf,K x0 qd.length z0,K x1 qb.length z1,K x2 qt.length z2,K x3 qu.length z3,K x4 qn.length z4]:Array Value).size:=by kernel_rfl
 generalize hV:w1.setCells (w.heap.size+1+1) 2 [K x0 qd.length z0,K x1 qb.length z1,K x2 qt.length z2,K x3 qu.length z3,K x4 qn.length z4]=V at*;have R3:=R2.row #[D S kn,D S sf,K x0 qd.length z0,K x1 qb.length z1,K x2 qt.length z2,K x3 qu.length z3,K x4 qn.length z4];have U3:=z1I V (w.heap.size+1) #[D S kn,D S sf,K x0 qd.length z0,K x1 qb.length z1,K x2 qt.length z2,K x3 qu.length z3,K x4 qn.length z4];have I:=repK.own_out OW U3 (fun k hk=>by have:=G0 k hk;simp;omega);have J:=Out.keep A U3 A.size (fun k hk=>by simp at hk;omega);obtain⟨q0,q1,q2,q3,q4,q5,q6⟩:=O2.cel7
 go_wp2_with (first|(refine q4y (by kernel_rfl) 29 _ _ rfl _ 2 #[K x0 qd.length z0,K x1 qb.length z1,K x2 qt.length z2,K x3 qu.length z3,K x4 qn.length z4] rfl rfl 31 _ O M (by simp) (by simp[Value.oneCell']) ?_;(try dsimp only);rw[hV])|(refine z0r (by kernel_rfl) 31 _ _ rfl _ #[D S kn,D S sf,K x0 qd.length z0,K x1 qb.length z1,K x2 qt.length z2,K x3 qu.length z3,K x4 qn.length z4] rfl rfl 31 _ R2 L rfl (by simp[Value.oneCell']) ?_))
 obtain⟨r0,r1,r2,r3,r4,r5,r6⟩:=R3.cel7;exact bodyPost_ret (v:=.agg #[D S kn,D S sf,K x0 qd.length z0,K x1 qb.length z1,K x2 qt.length z2,K x3 qu.length z3,K x4 qn.length z4]) (by simp[results,results38,go_sem,r0,r1,r2,r3,r4,r5,r6]) rfl ⟨_,rfl,E0,I,N0,fun k hk=>by have:=G0 k hk;omega,J⟩
theorem q0m(kn sf:Int)(p p':RepQ)(w:World)(h:repK.rd w p)(h':repK.rd w p')(he:p.e=p'.e)(hl:Q p≤1048576):
  Calls G 41 #[.agg #[D S kn,D S sf,p.vd,p.vb,p.vt,p.vu,p.vn],.agg #[D S kn,D S sf,p'.vd,p'.vb,p'.vt,p'.vu,p'.vn]] w fun e w'=>e=.returned (.bool true)∧Below w.heap.size w w':=by
 have hm:=fun w h h'=>z9F p p' w h h' he hl
 have hr:=fun(w':World) hb=>repK.rd_below (w':=w') h hb
 have ad:=fun(w':World) hb=>repK.rd_below (w':=w') h' hb
 obtain⟨vd,C,vb,base,vt,I,vu,x,vn,L⟩:=p;obtain⟨a0,k0,rfl⟩:∃a c,vd=K a C.length c:=h.1.shape;obtain⟨a1,k1,rfl⟩:∃a c,vb=K a base.length c:=h.2.1.shape;obtain⟨a2,k2,rfl⟩:∃a c,vt=K a I.length c:=h.2.2.1.shape;obtain⟨a3,k3,rfl⟩:∃a c,vu=K a x.length c:=h.2.2.2.1.shape;obtain⟨a4,k4,rfl⟩:∃a c,vn=K a L.length c:=h.2.2.2.2.shape;obtain⟨ag,z,af,y,ai,A,aj,d,ah,J⟩:=p';obtain⟨M,V,rfl⟩:∃a c,ag=K a z.length c:=h'.1.shape;obtain⟨N,X,rfl⟩:∃a c,af=K a y.length c:=h'.2.1.shape;obtain⟨O,Y,rfl⟩:∃a c,ai=K a A.length c:=h'.2.2.1.shape;obtain⟨T,Z,rfl⟩:∃a c,aj=K a d.length c:=h'.2.2.2.1.shape;obtain⟨U,aa,rfl⟩:∃a c,ah=K a J.length c:=h'.2.2.2.2.shape;dsimp only at hm;clear he hl;have hB:Below w.heap.size w ((w.alloc (.cells #[D S kn,D S sf,K a0 C.length k0,K a1 base.length k1,K a2 I.length k2,K a3 x.length k3,K a4 L.length k4] 31)).alloc (.cells #[D S kn,D S sf,K M z.length V,K N y.length X,K O A.length Y,K T d.length Z,K U J.length aa] 31)):=by go_grown
 have B:=(o w 31 #[D S kn,D S sf,K a0 C.length k0,K a1 base.length k1,K a2 I.length k2,K a3 x.length k3,K a4 L.length k4]).below (w':=(w.alloc (.cells #[D S kn,D S sf,K a0 C.length k0,K a1 base.length k1,K a2 I.length k2,K a3 x.length k3,K a4 L.length k4] 31)).alloc (.cells #[D S kn,D S sf,K M z.length V,K N y.length X,K O A.length Y,K T d.length Z,K U J.length aa] 31)) (by go_grown);have B':=o (w.alloc (.cells #[D S kn,D S sf,K a0 C.length k0,K a1 base.length k1,K a2 I.length k2,K a3 x.length k3,K a4 L.length k4] 31)) 31 #[D S kn,D S sf,K M z.length V,K N y.length X,K O A.length Y,K T d.length Z,K U J.length aa];simp only[World.size_alloc]at B';obtain⟨q0,q1,q2,q3,q4,q5,q6⟩:=B.cel7;have s0:=B'.cell 0 _ rfl;have s1:=B'.cell 1 _ rfl;have s2:=B'.cell 2 _ rfl;have s3:=B'.cell 3 _ rfl;have s4:=B'.cell 4 _ rfl;have s5:=B'.cell 5 _ rfl;have s6:=B'.cell 6 _ rfl;have n0:(kn !=kn)=false:=by simp
 have n1:(sf !=sf)=false:=by simp
 go_enter func41,ntmps41
 go_wp2_with fail
 clear q0 q1 q2 q3 q4 q5 q6 s0 s1 s2 s3 s4 s5 s6 B B';have ae:=hr _ hB;have ab:=ad _ hB;generalize ((w.alloc (.cells #[D S kn,D S sf,K a0 C.length k0,K a1 base.length k1,K a2 I.length k2,K a3 x.length k3,K a4 L.length k4] 31)).alloc (.cells #[D S kn,D S sf,K M z.length V,K N y.length X,K O A.length Y,K T d.length Z,K U J.length aa] 31))=W at*;refine(hm W ae ab).mono ?_;rintro e w3 ⟨rfl,hb⟩;replace hB:=hB.trans (hb.mono hB.size)
 go_wp2
 go_ret;exact⟨rfl,hB⟩
theorem z6S(kn sf:Int)(p:RepQ)(c:Int)(w:World)(h:repK.own w p)(A:(repK.foot p).Nodup)(hl:Q p≤1048576)(h0:0≤c)(h1:c≤1000000000):
  Calls G 43 #[.agg #[D S kn,D S sf,p.vd,p.vb,p.vt,p.vu,p.vn],D S c] w fun e w'=>e=.returned (D S (c+(nmRep p:Int)))∧repK.own w' (mkRep c p)∧Out (repK.foot p) w w':=by
 have hm:=fun w h=>z7C p c w h A hl h0 h1
 have hr:=fun(w':World) (hb:Below w.heap.size w w')=>repK.own_out (F:=[]) (w':=w') h (Out.of_below hb) (fun _ _=>by simp)
 generalize mkRep c p=M at*;generalize nmRep p=NR at*;generalize repK.foot p=FT at*;obtain⟨vd,x,vb,base,vt,y,vu,d,vn,z⟩:=p;obtain⟨a0,k0,rfl⟩:∃a c,vd=K a x.length c:=h.1.shape;obtain⟨a1,k1,rfl⟩:∃a c,vb=K a base.length c:=h.2.1.shape;obtain⟨a2,k2,rfl⟩:∃a c,vt=K a y.length c:=h.2.2.1.shape;obtain⟨a3,k3,rfl⟩:∃a c,vu=K a d.length c:=h.2.2.2.1.shape;obtain⟨a4,k4,rfl⟩:∃a c,vn=K a z.length c:=h.2.2.2.2.shape;dsimp only at hm;have hB:Below w.heap.size w (w.alloc (.cells #[D S kn,D S sf,K a0 x.length k0,K a1 base.length k1,K a2 y.length k2,K a3 d.length k3,K a4 z.length k4] 31)):=by go_grown
 have B:=o w 31 #[D S kn,D S sf,K a0 x.length k0,K a1 base.length k1,K a2 y.length k2,K a3 d.length k3,K a4 z.length k4];obtain⟨q0,q1,q2,q3,q4,q5,q6⟩:=B.cel7;go_enter func43,ntmps43
 go_wp2_with fail
 clear q0 q1 q2 q3 q4 q5 q6 B;have C:=hr _ hB;generalize w.alloc (.cells #[D S kn,D S sf,K a0 x.length k0,K a1 base.length k1,K a2 y.length k2,K a3 d.length k3,K a4 z.length k4] 31)=W at*;refine(hm W C).mono ?_;rintro e w1 ⟨rfl,O,u⟩
 go_wp2
 go_ret;exact⟨rfl,O,(Out.of_below hB).trans u⟩
theorem q1j(kn sf:Int)(p:RepQ)(c:Int)(w:World)(h:repK.rd w (mkRep c p))(hl:Q p≤1048576)(h0:0≤c)(h1:c≤1000000000):
  Calls G 89 #[.agg #[D S kn,D S sf,p.vd,p.vb,p.vt,p.vu,p.vn],D S c] w fun e w'=>e=.returned (D S (c+(nmRep p:Int)))∧Below w.heap.size w w':=by
 have hm:=fun w h=>z7D p c w h hl h0 h1
 have hr:=fun(w':World) hb=>repK.rd_below (w':=w') h hb
 have hs:=z8N h;generalize mkRep c p=M at*;generalize nmRep p=NR at*;clear hl;obtain⟨vd,done,vb,base,vt,tent,vu,undos,vn,now⟩:=p;obtain⟨⟨a0,l0,k0,rfl⟩,⟨a1,l1,k1,rfl⟩,⟨a2,l2,k2,rfl⟩,⟨a3,l3,k3,rfl⟩,⟨a4,l4,k4,rfl⟩⟩:=hs;dsimp only at hm;have hB:Below w.heap.size w (w.alloc (.cells #[D S kn,D S sf,K a0 l0 k0,K a1 l1 k1,K a2 l2 k2,K a3 l3 k3,K a4 l4 k4] 31)):=by go_grown
 have B:=o w 31 #[D S kn,D S sf,K a0 l0 k0,K a1 l1 k1,K a2 l2 k2,K a3 l3 k3,K a4 l4 k4];obtain⟨q0,q1,q2,q3,q4,q5,q6⟩:=B.cel7;have hg:¬c+(NR:Int)<0:=by omega
 go_enter func89,ntmps89
 go_wp2_with fail
 clear q0 q1 q2 q3 q4 q5 q6 B;have hr0:=hr _ hB;generalize w.alloc (.cells #[D S kn,D S sf,K a0 l0 k0,K a1 l1 k1,K a2 l2 k2,K a3 l3 k3,K a4 l4 k4] 31)=W at*;refine(hm W hr0).mono ?_;rintro e w1 ⟨rfl,hb⟩;replace hB:=hB.trans (hb.mono hB.size)
 go_wp2
 go_ret;exact⟨rfl,hB⟩
theorem q2G(co an kn sf:Int)(p p':RepQ)(w:World)(h:repK.rd w p)(h':repK.rd w p')(he:p.e=p'.e)(hl:Q p≤1048576):
  Calls G 39 #[.agg #[D S co,D S an,D S kn,D S sf,p.vd,p.vb,p.vt,p.vu,p.vn],.agg #[D S co,D S an,D S kn,D S sf,p'.vd,p'.vb,p'.vt,p'.vu,p'.vn]] w fun e w'=>e=.returned (.bool true)∧Below w.heap.size w w':=by
 have hm:=fun w h h'=>q0m kn sf p p' w h h' he hl
 have hr:=fun(w':World) hb=>repK.rd_below (w':=w') h hb
 have ad:=fun(w':World) hb=>repK.rd_below (w':=w') h' hb
 obtain⟨vd,C,vb,base,vt,I,vu,x,vn,L⟩:=p;obtain⟨a0,k0,rfl⟩:∃a c,vd=K a C.length c:=h.1.shape;obtain⟨a1,k1,rfl⟩:∃a c,vb=K a base.length c:=h.2.1.shape;obtain⟨a2,k2,rfl⟩:∃a c,vt=K a I.length c:=h.2.2.1.shape;obtain⟨a3,k3,rfl⟩:∃a c,vu=K a x.length c:=h.2.2.2.1.shape;obtain⟨a4,k4,rfl⟩:∃a c,vn=K a L.length c:=h.2.2.2.2.shape;obtain⟨ag,z,af,y,ai,A,aj,d,ah,J⟩:=p';obtain⟨M,V,rfl⟩:∃a c,ag=K a z.length c:=h'.1.shape;obtain⟨N,X,rfl⟩:∃a c,af=K a y.length c:=h'.2.1.shape;obtain⟨O,Y,rfl⟩:∃a c,ai=K a A.length c:=h'.2.2.1.shape;obtain⟨T,Z,rfl⟩:∃a c,aj=K a d.length c:=h'.2.2.2.1.shape;obtain⟨U,aa,rfl⟩:∃a c,ah=K a J.length c:=h'.2.2.2.2.shape;dsimp only at hm;clear he hl;have hB:Below w.heap.size w ((w.alloc (.cells #[D S co,D S an,D S kn,D S sf,K a0 C.length k0,K a1 base.length k1,K a2 I.length k2,K a3 x.length k3,K a4 L.length k4] 35)).alloc (.cells #[D S co,D S an,D S kn,D S sf,K M z.length V,K N y.length X,K O A.length Y,K T d.length Z,K U J.length aa] 35)):=by go_grown
 have B:=(o w 35 #[D S co,D S an,D S kn,D S sf,K a0 C.length k0,K a1 base.length k1,K a2 I.length k2,K a3 x.length k3,K a4 L.length k4]).below (w':=(w.alloc (.cells #[D S co,D S an,D S kn,D S sf,K a0 C.length k0,K a1 base.length k1,K a2 I.length k2,K a3 x.length k3,K a4 L.length k4] 35)).alloc (.cells #[D S co,D S an,D S kn,D S sf,K M z.length V,K N y.length X,K O A.length Y,K T d.length Z,K U J.length aa] 35)) (by go_grown);have B':=o (w.alloc (.cells #[D S co,D S an,D S kn,D S sf,K a0 C.length k0,K a1 base.length k1,K a2 I.length k2,K a3 x.length k3,K a4 L.length k4] 35)) 35 #[D S co,D S an,D S kn,D S sf,K M z.length V,K N y.length X,K O A.length Y,K T d.length Z,K U J.length aa];simp only[World.size_alloc]at B';obtain⟨q0,q1,q2,q3,q4,q5,q6,q7,q8⟩:=B.cel9;have s0:=B'.cell 0 _ rfl;have s1:=B'.cell 1 _ rfl;have s2:=B'.cell 2 _ rfl;have s3:=B'.cell 3 _ rfl;have s4:=B'.cell 4 _ rfl;have s5:=B'.cell 5 _ rfl;have s6:=B'.cell 6 _ rfl;have s7:=B'.cell 7 _ rfl;have s8:=B'.cell 8 _ rfl;have n0:(co !=co)=false:=by simp
 have n1:(an !=an)=false:=by simp
 have n2:(kn !=kn)=false:=by simp
 have n3:(sf !=sf)=false:=by simp
 go_enter func39,ntmps39
 go_wp2_with fail
 clear q0 q1 q2 q3 q4 q5 q6 q7 q8 s0 s1 s2 s3 s4 s5 s6 s7 s8 B B';have ae:=hr _ hB;have ab:=ad _ hB;generalize ((w.alloc (.cells #[D S co,D S an,D S kn,D S sf,K a0 C.length k0,K a1 base.length k1,K a2 I.length k2,K a3 x.length k3,K a4 L.length k4] 35)).alloc (.cells #[D S co,D S an,D S kn,D S sf,K M z.length V,K N y.length X,K O A.length Y,K T d.length Z,K U J.length aa] 35))=W at*;refine(hm W ae ab).mono ?_;rintro e w3 ⟨rfl,hb⟩;replace hB:=hB.trans (hb.mono hB.size)
 go_wp2
 go_ret;exact⟨rfl,hB⟩
theorem q34(co an kn sf:Int)(p:RepQ)(c:Int)(w:World)(h:repK.own w p)(A:(repK.foot p).Nodup)(hl:Q p≤1048576)(h0:0≤c)(h1:c≤1000000000):
  Calls G 44 #[.agg #[D S co,D S an,D S kn,D S sf,p.vd,p.vb,p.vt,p.vu,p.vn],D S c] w fun e w'=>e=.returned (D S (c+(nmRep p:Int)))∧repK.own w' (mkRep c p)∧Out (repK.foot p) w w':=by
 have hm:=fun w h=>z6S kn sf p c w h A hl h0 h1
 have hr:=fun(w':World) (hb:Below w.heap.size w w')=>repK.own_out (F:=[]) (w':=w') h (Out.of_below hb) (fun _ _=>by simp)
 generalize mkRep c p=M at*;generalize nmRep p=NR at*;generalize repK.foot p=FT at*;obtain⟨vd,x,vb,base,vt,y,vu,d,vn,z⟩:=p;obtain⟨a0,k0,rfl⟩:∃a c,vd=K a x.length c:=h.1.shape;obtain⟨a1,k1,rfl⟩:∃a c,vb=K a base.length c:=h.2.1.shape;obtain⟨a2,k2,rfl⟩:∃a c,vt=K a y.length c:=h.2.2.1.shape;obtain⟨a3,k3,rfl⟩:∃a c,vu=K a d.length c:=h.2.2.2.1.shape;obtain⟨a4,k4,rfl⟩:∃a c,vn=K a z.length c:=h.2.2.2.2.shape;dsimp only at hm;have hB:Below w.heap.size w (w.alloc (.cells #[D S co,D S an,D S kn,D S sf,K a0 x.length k0,K a1 base.length k1,K a2 y.length k2,K a3 d.length k3,K a4 z.length k4] 35)):=by go_grown
 have B:=o w 35 #[D S co,D S an,D S kn,D S sf,K a0 x.length k0,K a1 base.length k1,K a2 y.length k2,K a3 d.length k3,K a4 z.length k4];obtain⟨q0,q1,q2,q3,q4,q5,q6,q7,q8⟩:=B.cel9;go_enter func44,ntmps44
 go_wp2_with fail
 clear q0 q1 q2 q3 q4 q5 q6 q7 q8 B;have C:=hr _ hB;generalize w.alloc (.cells #[D S co,D S an,D S kn,D S sf,K a0 x.length k0,K a1 base.length k1,K a2 y.length k2,K a3 d.length k3,K a4 z.length k4] 35)=W at*;refine(hm W C).mono ?_;rintro e w1 ⟨rfl,O,u⟩
 go_wp2
 go_ret;exact⟨rfl,O,(Out.of_below hB).trans u⟩
theorem q35(co an kn sf:Int)(p:RepQ)(c:Int)(w:World)(h:repK.rd w (mkRep c p))(hl:Q p≤1048576)(h0:0≤c)(h1:c≤1000000000):
  Calls G 45 #[.agg #[D S co,D S an,D S kn,D S sf,p.vd,p.vb,p.vt,p.vu,p.vn],D S c] w fun e w'=>e=.returned (D S (c+(nmRep p:Int)))∧Below w.heap.size w w':=by
 have hm:=fun w h=>q1j kn sf p c w h hl h0 h1
 have hr:=fun(w':World) hb=>repK.rd_below (w':=w') h hb
 have hs:=z8N h;generalize mkRep c p=M at*;generalize nmRep p=NR at*;clear hl;obtain⟨vd,done,vb,base,vt,tent,vu,undos,vn,now⟩:=p;obtain⟨⟨a0,l0,k0,rfl⟩,⟨a1,l1,k1,rfl⟩,⟨a2,l2,k2,rfl⟩,⟨a3,l3,k3,rfl⟩,⟨a4,l4,k4,rfl⟩⟩:=hs;dsimp only at hm;have hB:Below w.heap.size w (w.alloc (.cells #[D S co,D S an,D S kn,D S sf,K a0 l0 k0,K a1 l1 k1,K a2 l2 k2,K a3 l3 k3,K a4 l4 k4] 35)):=by go_grown
 have B:=o w 35 #[D S co,D S an,D S kn,D S sf,K a0 l0 k0,K a1 l1 k1,K a2 l2 k2,K a3 l3 k3,K a4 l4 k4];obtain⟨q0,q1,q2,q3,q4,q5,q6,q7,q8⟩:=B.cel9;have hg:¬c+(NR:Int)<0:=by omega
 go_enter func45,ntmps45
 go_wp2_with fail
 clear q0 q1 q2 q3 q4 q5 q6 q7 q8 B;have hr0:=hr _ hB;generalize w.alloc (.cells #[D S co,D S an,D S kn,D S sf,K a0 l0 k0,K a1 l1 k1,K a2 l2 k2,K a3 l3 k3,K a4 l4 k4] 35)=W at*;refine(hm W hr0).mono ?_;rintro e w1 ⟨rfl,hb⟩;replace hB:=hB.trans (hb.mono hB.size)
 go_wp2
 go_ret;exact⟨rfl,hB⟩
theorem q6Y{ps qs:List USQ}(h:ps.map USQ.e=qs.map USQ.e):ps.length+nmL USQ.n ps=qs.length+nmL USQ.n qs:=by
 have e:∀l:List USQ,nmL USQ.n l=nmL List.length (l.map USQ.e):=fun l=>by simp only[nmL,List.map_map];rfl
 have hl:ps.length=qs.length:=by simpa using congrArg List.length h
 rw[e,e,h,hl]
theorem q6v{ps qs:List TxnQ}(h:ps.map TxnQ.e=qs.map TxnQ.e):ps.length+nmL TxnQ.n ps=qs.length+nmL TxnQ.n qs:=by
 have e:∀l:List TxnQ,nmL TxnQ.n l=nmL TxnD.n (l.map TxnQ.e):=fun l=>by simp only[nmL,List.map_map];rfl
 have hl:ps.length=qs.length:=by simpa using congrArg List.length h
 rw[e,e,h,hl]
theorem q6w{p q:RepQ}(h:p.e=q.e):p.n=q.n:=by
 simp only[RepQ.e,RepE.mk.injEq]at h;obtain⟨h0,h1,h2,h3,h4⟩:=h;simp only[Q];have a0:=q6v h0;have a2:=q6v h2;have a3:=q6Y h3;rw[h1,h4];omega
section
open Go.ChangeShapes Go.WideShapes
theorem q5X {W : World} (h : laidMet G [("loop.example/g00631/impl.rules", Rows.laid_loop_example_g00631_impl_rules)] W) : Rul W := by
 obtain⟨g,t,cs,fuel,p,hg,ht,hvar,hd⟩:=Lib.laidMet.reads h (List.mem_singleton.2 rfl);obtain rfl:=Option.some.inj (gRul.symm.trans hg);obtain rfl:=Option.some.inj (tRul.symm.trans ht);unfold Rows.laid_loop_example_g00631_impl_rules at hd;have e:∀i,i<5→∃fuel' d q,_∧_:=fun i hi=>Lib.array_elem Tryz.underlying402 hd i hi
 rw[q6i]at e;obtain⟨f0,d0,q0,r0,s0⟩:=e 0 (by omega);obtain⟨f1,d1,q1,r1,s1⟩:=e 1 (by omega);obtain⟨f2,d2,q2,r2,s2⟩:=e 2 (by omega);obtain⟨f3,d3,q3,r3,s3⟩:=e 3 (by omega);obtain⟨f4,d4,q4,r4,s4⟩:=e 4 (by omega);simp only[List.getElem?_cons_zero,List.getElem?_cons_succ,Option.some.injEq]at r0 r1 r2 r3 r4;subst r0 r1 r2 r3 r4;have t0:=z2f s0;have t1:=z2f s1;have t2:=z2f s2;have t3:=z2f s3;have t4:=z2f s4;have hall:cs.toList.take 35=q6O:=by
  rw[show 35=0*7+7+7+7+7+7 from rfl,List.take_add,List.take_add,List.take_add,List.take_add];rw[show 0*7+7+7+7+7=4*7 from rfl,show 0*7+7+7+7=3*7 from rfl,show 0*7+7+7=2*7 from rfl,show 0*7+7=1*7 from rfl,t1,t2,t3,t4];have t0':List.take (1*7) cs.toList=_:=t0;rw[t0'];rfl
 intro i v hv;have hi:i<35:=by
  have:=(List.getElem?_eq_some_iff.1 hv).1;simpa[q6O]using this
 rw[World.var?_cell hg hvar i,←Array.getElem?_toList];rw[←hall,List.getElem?_take,if_pos hi]at hv;exact hv
end
section
open Go.Deep Go.ChangeShapes Go.WideShapes
section
variable {H:Type} {enc:TypeId × Value→H} {w:World} {base:Nat} {spare:Nat→Bool} {held:Bool}
theorem z8O{P:Program}{t:TypeId}{f0 f1 f2 f3 f4:Field}{fuel:Nat}{cs:List Value}{x:DataW H × List MemPlace}(ht:P.underlying t=some (.struct #[f0,f1,f2,f3,f4]))(h:DataW.trod enc P w base spare held fuel t cs=some x):
  ∃y0 y1 y2 y3 y4 n,cs.length=P.cellsOf t∧DataW.trod enc P w base spare held n f0.type ((cs.drop f0.offset).take (P.cellsOf f0.type))=some y0∧
   DataW.trod enc P w base spare held n f1.type ((cs.drop f1.offset).take (P.cellsOf f1.type))=some y1∧DataW.trod enc P w base spare held n f2.type ((cs.drop f2.offset).take (P.cellsOf f2.type))=some y2∧
   DataW.trod enc P w base spare held n f3.type ((cs.drop f3.offset).take (P.cellsOf f3.type))=some y3∧DataW.trod enc P w base spare held n f4.type ((cs.drop f4.offset).take (P.cellsOf f4.type))=some y4:=by
 obtain⟨xs,n,_,rfl,hl,hlen,hf⟩:=DataW.trod_struct ht h
 match xs,hlen with
 |[y0,y1,y2,y3,y4],_=>exact⟨y0,y1,y2,y3,y4,n,hl,by simpa using hf 0 f0 rfl,by simpa using hf 1 f1 rfl,by simpa using hf 2 f2 rfl,by simpa using hf 3 f3 rfl,by simpa using hf 4 f4 rfl⟩
theorem q2H{fuel:Nat}{cs:List Value}{x:DataW H × List MemPlace}(h:DataW.trod enc G w base spare held fuel 270 cs=some x):∃z:ItemD,cs=z.cells:=by
 obtain⟨y0,y1,n,_,hl,h0,h1⟩:=trod_struct2 Tryz.underlying270 h;rw[show G.cellsOf 270=2 by kernel_rfl]at hl;have e:G.cellsOf 2=1:=by kernel_rfl
 match cs,hl with
 |[c0,c1],_=>
  simp only[e,List.drop_zero,List.drop_succ_cons,List.take_succ_cons,List.take_zero]at h0 h1;obtain⟨k,e0,_⟩:=DataW.trod_int Tryz.underlying2 h0;obtain⟨y,e1,_⟩:=DataW.trod_int Tryz.underlying2 h1;simp only[List.cons.injEq,and_true]at e0 e1;exact⟨⟨k,y⟩,by rw[e0,e1];rfl⟩
theorem q2I{fuel:Nat}{cs:List Value}{x:DataW H × List MemPlace}(h:DataW.trod enc G w base spare held fuel 329 cs=some x):∃z:UndoD,cs=z.cells:=by
 obtain⟨y0,y1,y2,n,_,hl,h0,h1,h2⟩:=trod_struct3 Tryz.underlying329 h;rw[show G.cellsOf 329=3 by kernel_rfl]at hl;have e:G.cellsOf 2=1:=by kernel_rfl
 have e':G.cellsOf 4=1:=by kernel_rfl
 match cs,hl with
 |[c0,c1,c2],_=>
  simp only[e,e',List.drop_zero,List.drop_succ_cons,List.take_succ_cons,List.take_zero]at h0 h1 h2;obtain⟨k,e0,_⟩:=DataW.trod_int Tryz.underlying2 h0;obtain⟨y,e1,_⟩:=DataW.trod_bool Tryz.underlying4 h1;obtain⟨v,e2,_⟩:=DataW.trod_int Tryz.underlying2 h2;simp only[List.cons.injEq,and_true]at e0 e1 e2;exact⟨⟨k,y,v⟩,by rw[e0,e1,e2];rfl⟩
theorem q1k(n:Nat)(l:List Value)(y:DataW H × List MemPlace)(h:DataW.trod enc G w base spare held n 270 l=some y):∃p:ItemD,l=itemK.cells p∧itemK.rd w p∧True:=by
 obtain⟨z,e⟩:=q2H h;exact⟨z,e,trivial,trivial⟩
theorem z5T{fuel:Nat}{cs:List Value}{x:DataW H × List MemPlace}(h:DataW.trod enc G w base spare held fuel 58 cs=some x):
  ∃ (v:Value) (zs:List ItemD),cs=[v]∧itemK.At w v zs∧zs.length≤9223372036854775807:=by
 obtain⟨v,ps,h1,h2,h3,_⟩:=z38 itemK (fun _=>True) Tryz.underlying58 (by kernel_rfl) (by decide) q1k h;exact⟨v,ps,h1,h2,h3⟩
theorem q1l(n:Nat)(l:List Value)(y:DataW H × List MemPlace)(h:DataW.trod enc G w base spare held n 329 l=some y):∃p:UndoD,l=undoK.cells p∧undoK.rd w p∧True:=by
 obtain⟨z,e⟩:=q2I h;exact⟨z,e,trivial,trivial⟩
theorem z9O(n:Nat)(l:List Value)(y:DataW H × List MemPlace)(h:DataW.trod enc G w base spare held n 267 l=some y):∃p:USQ,l=ussK.cells p∧ussK.rd w p∧USQ.wf p:=by
 obtain⟨v,ps,h1,h2,h3,_⟩:=z38 undoK (fun _=>True) Tryz.underlying267 (by kernel_rfl) (by decide) q1l h;exact⟨⟨v,ps⟩,h1,h2,h3⟩
theorem q2J{fuel:Nat}{cs:List Value}{x:DataW H × List MemPlace}(h:DataW.trod enc G w base spare held fuel 59 cs=some x):
  ∃ (v:Value) (ps:List USQ),cs=[v]∧ussK.At w v ps∧ps.length≤9223372036854775807∧∀p∈ps,USQ.wf p:=
 z38 ussK USQ.wf Tryz.underlying59 (by kernel_rfl) (by decide) z9O h
theorem z7E{fuel:Nat}{cs:List Value}{x:DataW H × List MemPlace}(h:DataW.trod enc G w base spare held fuel 61 cs=some x):
  ∃p:RepQ,cs=[p.vd,p.vb,p.vt,p.vu,p.vn]∧repK.rd w p∧p.wf:=by
 obtain⟨y0,y1,y2,y3,y4,n,hl,h0,h1,h2,h3,h4⟩:=z8O Tryz.underlying61 h;rw[show G.cellsOf 61=5 by kernel_rfl]at hl;have e:G.cellsOf 57=1:=by kernel_rfl
 have e':G.cellsOf 58=1:=by kernel_rfl
 have e2:G.cellsOf 59=1:=by kernel_rfl
 match cs,hl with
 |[c0,c1,c2,c3,c4],_=>
  simp only[e,e',e2,List.drop_zero,List.drop_succ_cons,List.take_succ_cons,List.take_zero]at h0 h1 h2 h3 h4;obtain⟨v0,z0,e0,a0,l0,w0⟩:=z6O h0;obtain⟨v1,z1,e1,a1,l1⟩:=z5T h1;obtain⟨v2,z2,e2,a2,l2,w2⟩:=z6O h2;obtain⟨v3,z3,e3,a3,l3,w3⟩:=q2J h3;obtain⟨v4,z4,e4,a4,l4⟩:=z5T h4;simp only[List.cons.injEq,and_true]at e0 e1 e2 e3 e4;exact⟨⟨v0,z0,v1,z1,v2,z2,v3,z3,v4,z4⟩,by rw[e0,e1,e2,e3,e4],⟨a0,a1,a2,a3,a4⟩,⟨⟨l0,w0⟩,l1,⟨l2,w2⟩,⟨l3,w3⟩,l4⟩⟩
end
section
variable {H:Type} {enc:TypeId × Value→H} {w:World} {base:Nat} {spare:Nat→Bool} {held:Bool}
theorem z6r{fuel:Nat}{cs:List Value}{x:DataW H × List MemPlace}(h:DataW.trod enc G w base spare held fuel 63 cs=some x):
  ∃ (kn sf:Int) (p:RepQ),cs=[D S kn,D S sf,p.vd,p.vb,p.vt,p.vu,p.vn]∧repK.rd w p∧p.wf:=by
 obtain⟨y0,y1,y2,n,_,hl,h0,h1,h2⟩:=trod_struct3 Tryz.underlying63 h;rw[show G.cellsOf 63=7 by kernel_rfl]at hl;have e:G.cellsOf 2=1:=by kernel_rfl
 have e':G.cellsOf 61=5:=by kernel_rfl
 match cs,hl with
 |[c0,c1,c2,c3,c4,c5,c6],_=>
  simp only[e,e',List.drop_zero,List.drop_succ_cons,List.take_succ_cons,List.take_zero]at h0 h1 h2;obtain⟨k,e0,_⟩:=DataW.trod_int Tryz.underlying2 h0;obtain⟨s,e1,_⟩:=DataW.trod_int Tryz.underlying2 h1;obtain⟨p,e2,r,wf⟩:=z7E h2;simp only[List.cons.injEq,and_true]at e0 e1 e2;exact⟨k,s,p,by rw[e0,e1,e2.1,e2.2.1,e2.2.2.1,e2.2.2.2.1,e2.2.2.2.2],r,wf⟩
theorem q6x{r:Reach}{b0:Nat}{v:Value}{d:DataW H}{p:List MemPlace}(hv:Value.okWide G w r b0 63 v)(h:DataW.Trod enc G w base spare held 63 v d p):
  ∃ (kn sf:Int) (q:RepQ),v=.agg #[D S kn,D S sf,q.vd,q.vb,q.vt,q.vu,q.vn]∧repK.rd w q∧q.wf:=by
 obtain⟨cs,rfl,hsz⟩:=okWide_struct Tryz.underlying63 hv;obtain⟨fuel,hf⟩:=h;obtain⟨kn,sf,q,e,h1,h2⟩:=z6r hf;refine⟨kn,sf,q,?_,h1,h2⟩
 congr 1
 apply Array.ext';simpa[Value.cells]using e
end
end
end Go.Proofs.YtlkpdgjnhkjpjaaGreatDoor
