import Derived.Test.YtlkpdgjnhkjpjaaGreatDoorSUAU
set_option linter.unusedVariables false
set_option linter.unusedSimpArgs false
set_option maxRecDepth 100000
set_option maxHeartbeats 4000000
namespace Go.Proofs.YtlkpdgjnhkjpjaaGreatDoor
open Go.RowKit Go.BigFrame
open RepQ renaming n->j
open List renaming mem_append_right->i,mem_append_left->o
open Blk renaming new->m
open IntKind renaming i64->S
open Value renaming int->G,slice->K
open Go.Proofs.Tryz renaming prog->Q
open Go.Proofs.Tryz
def mkRep(c:Int):RepQ→RepQ
 |⟨vd,done,vb,base,vt,tent,vu,undos,vn,now⟩=>⟨vd,mkL z0O nmTxn (c) done,vb,mkItems (c+((nmL nmTxn done:Nat):Int)) base,vt,mkL z0O nmTxn (c+((nmL nmTxn done:Nat):Int)+((base.length*2:Nat):Int)) tent,vu,mkL z2L nmUs (c+((nmL nmTxn done:Nat):Int)+((base.length*2:Nat):Int)+((nmL nmTxn tent:Nat):Int)) undos,vn,mkItems (c+((nmL nmTxn done:Nat):Int)+((base.length*2:Nat):Int)+((nmL nmTxn tent:Nat):Int)+((nmL nmUs undos:Nat):Int)) now⟩
def nmRep:RepQ→Nat
 |⟨vd,done,vb,base,vt,tent,vu,undos,vn,now⟩=>nmL nmTxn done+base.length*2+nmL nmTxn tent+nmL nmUs undos+now.length*2
theorem z2Z(ps:List TxnQ):nmL nmTxn ps≤3*(ps.length+nmL TxnQ.n ps):=by
 induction ps with
 |nil=>simp[nmL]
 |cons p r ih=>
  simp only[nmL,List.map_cons,List.sum_cons,List.length_cons]at ih⊢;simp only[nmTxn,TxnQ.n]at ih⊢;omega
theorem z7y(ps:List USQ):nmL nmUs ps≤3*(ps.length+nmL USQ.n ps):=by
 induction ps with
 |nil=>simp[nmL]
 |cons p r ih=>
  simp only[nmL,List.map_cons,List.sum_cons,List.length_cons]at ih⊢;simp only[nmUs,USQ.n]at ih⊢;omega
theorem z7z(p:RepQ)(c:Int)(w:World)(h:repK.own w p)(aa:(repK.foot p).Nodup)(hl:j p≤1048576)(h0:0≤c)(h1:c≤1000000000):
  Calls Q 88 #[.agg #[p.vd,p.vb,p.vt,p.vu,p.vn],G S c] w fun e w'=>e=.returned (G S (c+(nmRep p:Int)))∧repK.own w' (mkRep c p)∧Out (repK.foot p) w w':=by
 obtain⟨vd,done,vb,base,vt,y,vu,x,vn,z⟩:=p;obtain⟨o0,o1,o2,o3,o4⟩:txnK.Own w vd done∧itemK.Own w vb base∧txnK.Own w vt y∧ussK.Own w vu x∧itemK.Own w vn z:=h;obtain⟨n0,r0,x0⟩:=List.nodup_append.1 aa;obtain⟨n1,r1,x1⟩:=List.nodup_append.1 r0;obtain⟨n2,r2,x2⟩:=List.nodup_append.1 r1;obtain⟨n3,n4,x3⟩:=List.nodup_append.1 r2;have ab:∀k∈itemK.fp vb base,k∉txnK.fp vd done:=fun k hk A=>x0 k A k (o _ hk) rfl
 have ag:∀k∈txnK.fp vd done,k∉itemK.fp vb base:=fun k A hk=>x0 k A k (o _ hk) rfl
 have ad:∀k∈txnK.fp vt y,k∉txnK.fp vd done:=fun k hk A=>x0 k A k (i _ (o _ hk)) rfl
 have ak:∀k∈txnK.fp vd done,k∉txnK.fp vt y:=fun k A hk=>x0 k A k (i _ (o _ hk)) rfl
 have ae:∀k∈ussK.fp vu x,k∉txnK.fp vd done:=fun k hk A=>x0 k A k (i _ (i _ (o _ hk))) rfl
 have ao:∀k∈txnK.fp vd done,k∉ussK.fp vu x:=fun k A hk=>x0 k A k (i _ (i _ (o _ hk))) rfl
 have af:∀k∈itemK.fp vn z,k∉txnK.fp vd done:=fun k hk A=>x0 k A k (i _ (i _ (i _ hk))) rfl
 have au:∀k∈txnK.fp vd done,k∉itemK.fp vn z:=fun k A hk=>x0 k A k (i _ (i _ (i _ hk))) rfl
 have ah:∀k∈txnK.fp vt y,k∉itemK.fp vb base:=fun k hk A=>x1 k A k (o _ hk) rfl
 have al:∀k∈itemK.fp vb base,k∉txnK.fp vt y:=fun k A hk=>x1 k A k (o _ hk) rfl
 have ai:∀k∈ussK.fp vu x,k∉itemK.fp vb base:=fun k hk A=>x1 k A k (i _ (o _ hk)) rfl
 have ap:∀k∈itemK.fp vb base,k∉ussK.fp vu x:=fun k A hk=>x1 k A k (i _ (o _ hk)) rfl
 have aj:∀k∈itemK.fp vn z,k∉itemK.fp vb base:=fun k hk A=>x1 k A k (i _ (i _ hk)) rfl
 have av:∀k∈itemK.fp vb base,k∉itemK.fp vn z:=fun k A hk=>x1 k A k (i _ (i _ hk)) rfl
 have am:∀k∈ussK.fp vu x,k∉txnK.fp vt y:=fun k hk A=>x2 k A k (o _ hk) rfl
 have aq:∀k∈txnK.fp vt y,k∉ussK.fp vu x:=fun k A hk=>x2 k A k (o _ hk) rfl
 have an:∀k∈itemK.fp vn z,k∉txnK.fp vt y:=fun k hk A=>x2 k A k (i _ hk) rfl
 have aw:∀k∈txnK.fp vt y,k∉itemK.fp vn z:=fun k A hk=>x2 k A k (i _ hk) rfl
 have ar:∀k∈itemK.fp vn z,k∉ussK.fp vu x:=fun k hk A=>x3 k A k hk rfl
 have ax:∀k∈ussK.fp vu x,k∉itemK.fp vn z:=fun k A hk=>x3 k A k hk rfl
 have n0:(txnK.fp vd done).Nodup:=n0;have n1:(itemK.fp vb base).Nodup:=n1;have n2:(txnK.fp vt y).Nodup:=n2;have n3:(ussK.fp vu x).Nodup:=n3;have n4:(itemK.fp vn z).Nodup:=n4;clear aa r0 r1 r2 x0 x1 x2 x3;dsimp only[j]at hl;have t0:=z2Z done;have t2:=z2Z y;have t3:=z7y x;have J:Hid (∀ {w w':World},Out (txnK.fp vd done) w w'→Out (repK.foot ⟨vd,done,vb,base,vt,y,vu,x,vn,z⟩) w w'):=fun h=>h.mono (fun k hk=>(o _ hk))
 have L:Hid (∀ {w w':World},Out (itemK.fp vb base) w w'→Out (repK.foot ⟨vd,done,vb,base,vt,y,vu,x,vn,z⟩) w w'):=fun h=>h.mono (fun k hk=>(i _ (o _ hk)))
 have M:Hid (∀ {w w':World},Out (txnK.fp vt y) w w'→Out (repK.foot ⟨vd,done,vb,base,vt,y,vu,x,vn,z⟩) w w'):=fun h=>h.mono (fun k hk=>(i _ (i _ (o _ hk))))
 have N:Hid (∀ {w w':World},Out (ussK.fp vu x) w w'→Out (repK.foot ⟨vd,done,vb,base,vt,y,vu,x,vn,z⟩) w w'):=fun h=>h.mono (fun k hk=>(i _ (i _ (i _ (o _ hk)))))
 have O:Hid (∀ {w w':World},Out (itemK.fp vn z) w w'→Out (repK.foot ⟨vd,done,vb,base,vt,y,vu,x,vn,z⟩) w w'):=fun h=>h.mono (fun k hk=>(i _ (i _ (i _ (i _ hk)))))
 have U:=fun w h=>z4e vd done (c) w h n0 (by omega) (by omega) (by omega)
 have V:=fun w h=>z5l vb base (c+((nmL nmTxn done:Nat):Int)) w h (by omega) (by omega) (by omega)
 have X:=fun w h=>z4e vt y (c+((nmL nmTxn done:Nat):Int)+((base.length*2:Nat):Int)) w h n2 (by omega) (by omega) (by omega)
 have Y:=fun w h=>q2L vu x (c+((nmL nmTxn done:Nat):Int)+((base.length*2:Nat):Int)+((nmL nmTxn y:Nat):Int)) w h n3 (by omega) (by omega) (by omega)
 have Z:=fun w h=>z5l vn z (c+((nmL nmTxn done:Nat):Int)+((base.length*2:Nat):Int)+((nmL nmTxn y:Nat):Int)+((nmL nmUs x:Nat):Int)) w h (by omega) (by omega) (by omega)
 have e0:∀c,txnK.fp vd (mkL z0O nmTxn c done)=txnK.fp vd done:=fun c=>z74 z2S _ _ _
 have e1:∀c,itemK.fp vb (mkItems c base)=itemK.fp vb base:=fun c=>q0W c vb base
 have e2:∀c,txnK.fp vt (mkL z0O nmTxn c y)=txnK.fp vt y:=fun c=>z74 z2S _ _ _
 have e3:∀c,ussK.fp vu (mkL z2L nmUs c x)=ussK.fp vu x:=fun c=>z74 z8Q _ _ _
 have HR:Hid (∀w',txnK.Own w' vd (mkL z0O nmTxn (c) done)→itemK.Own w' vb (mkItems (c+((nmL nmTxn done:Nat):Int)) base)→txnK.Own w' vt (mkL z0O nmTxn (c+((nmL nmTxn done:Nat):Int)+((base.length*2:Nat):Int)) y)→ussK.Own w' vu (mkL z2L nmUs (c+((nmL nmTxn done:Nat):Int)+((base.length*2:Nat):Int)+((nmL nmTxn y:Nat):Int)) x)→itemK.Own w' vn (mkItems (c+((nmL nmTxn done:Nat):Int)+((base.length*2:Nat):Int)+((nmL nmTxn y:Nat):Int)+((nmL nmUs x:Nat):Int)) z)→repK.own w' (mkRep c ⟨vd,done,vb,base,vt,y,vu,x,vn,z⟩)):=fun w' a b c d e=>⟨a,b,c,d,e⟩
 have HS:Hid ((c+((nmL nmTxn done:Nat):Int)+((base.length*2:Nat):Int)+((nmL nmTxn y:Nat):Int)+((nmL nmUs x:Nat):Int)+((z.length*2:Nat):Int):Int)=c+(nmRep ⟨vd,done,vb,base,vt,y,vu,x,vn,z⟩:Int)):=show _=_ by dsimp only[nmRep];omega
 obtain⟨a0,k0,rfl⟩:=o0.shape;obtain⟨a1,k1,rfl⟩:=o1.shape;obtain⟨a2,k2,rfl⟩:=o2.shape;obtain⟨a3,k3,rfl⟩:=o3.shape;obtain⟨a4,k4,rfl⟩:=o4.shape;have B:=m w 29 #[K a0 done.length k0,K a1 base.length k1,K a2 y.length k2,K a3 x.length k3,K a4 z.length k4];have hB:Below w.heap.size w (w.alloc (.cells #[K a0 done.length k0,K a1 base.length k1,K a2 y.length k2,K a3 x.length k3,K a4 z.length k4] 29)):=by go_grown
 have C:=o0.lt;have D:=o1.lt;have E:=o2.lt;have I:=o3.lt;have T:=o4.lt;have HB:Hid (w.heap.size∉txnK.fp (K a0 done.length k0) done∧w.heap.size∉itemK.fp (K a1 base.length k1) base∧w.heap.size∉txnK.fp (K a2 y.length k2) y∧w.heap.size∉ussK.fp (K a3 x.length k3) x):=⟨fun e=>Nat.lt_irrefl _ (C _ e),fun e=>Nat.lt_irrefl _ (D _ e),fun e=>Nat.lt_irrefl _ (E _ e),fun e=>Nat.lt_irrefl _ (I _ e)⟩
 clear C D E I T t0 t2 t3;replace o0:=o0.below hB;replace o1:=o1.below hB;replace o2:=o2.below hB;replace o3:=o3.below hB;replace o4:=o4.below hB;have HU:Hid (Out (repK.foot ⟨K a0 done.length k0,done,K a1 base.length k1,base,K a2 y.length k2,y,K a3 x.length k3,x,K a4 z.length k4,z⟩) w _):=Out.of_below hB;clear hB;generalize nmRep ⟨K a0 done.length k0,done,K a1 base.length k1,base,K a2 y.length k2,y,K a3 x.length k3,x,K a4 z.length k4,z⟩=NR at*;generalize mkRep c ⟨K a0 done.length k0,done,K a1 base.length k1,base,K a2 y.length k2,y,K a3 x.length k3,x,K a4 z.length k4,z⟩=MR at*;generalize ((nmL nmTxn done:Nat):Int)=C0 at*;generalize ((base.length*2:Nat):Int)=C1 at*;generalize ((nmL nmTxn y:Nat):Int)=C2 at*;generalize ((nmL nmUs x:Nat):Int)=C3 at*;generalize ((z.length*2:Nat):Int)=C4 at*;have p0:=B.cell 0 _ rfl;go_enter func88,ntmps88
 go_wp2_with fail
 generalize w.alloc (.cells #[K a0 done.length k0,K a1 base.length k1,K a2 y.length k2,K a3 x.length k3,K a4 z.length k4] 29)=W at*;clear p0;refine(U W o0).mono ?_;rintro e w1 ⟨rfl,O0,u0⟩;replace o1:=o1.out u0 ab;replace o2:=o2.out u0 ad;replace o3:=o3.out u0 ae;replace o4:=o4.out u0 af;replace B:Blk w1 _ _ _:=(u0.block _ B.lt HB.out.1).trans B;have HV:Hid (Out (repK.foot ⟨K a0 done.length k0,done,K a1 base.length k1,base,K a2 y.length k2,y,K a3 x.length k3,x,K a4 z.length k4,z⟩) w w1):=HU.out.trans (J.out u0);clear HU;have HU:=HV;clear HV U o0 u0;have q:=B.cell 1 _ rfl
 go_wp2_with fail
 clear q;refine(V w1 o1).mono ?_;rintro e w2 ⟨rfl,O1,u1⟩;replace O0:=O0.out u1 (by rw[e0];exact ag);replace o2:=o2.out u1 ah;replace o3:=o3.out u1 ai;replace o4:=o4.out u1 aj;replace B:Blk w2 _ _ _:=(u1.block _ B.lt HB.out.2.1).trans B;have HV:Hid (Out (repK.foot ⟨K a0 done.length k0,done,K a1 base.length k1,base,K a2 y.length k2,y,K a3 x.length k3,x,K a4 z.length k4,z⟩) w w2):=HU.out.trans (L.out u1);clear HU;have HU:=HV;clear HV V o1 u1;have q:=B.cell 2 _ rfl
 go_wp2_with fail
 clear q;refine(X w2 o2).mono ?_;rintro e w3 ⟨rfl,O2,u2⟩;replace O0:=O0.out u2 (by rw[e0];exact ak);replace O1:=O1.out u2 (by rw[e1];exact al);replace o3:=o3.out u2 am;replace o4:=o4.out u2 an;replace B:Blk w3 _ _ _:=(u2.block _ B.lt HB.out.2.2.1).trans B;have HV:Hid (Out (repK.foot ⟨K a0 done.length k0,done,K a1 base.length k1,base,K a2 y.length k2,y,K a3 x.length k3,x,K a4 z.length k4,z⟩) w w3):=HU.out.trans (M.out u2);clear HU;have HU:=HV;clear HV X o2 u2;have q:=B.cell 3 _ rfl
 go_wp2_with fail
 clear q;refine(Y w3 o3).mono ?_;rintro e w4 ⟨rfl,O3,u3⟩;replace O0:=O0.out u3 (by rw[e0];exact ao);replace O1:=O1.out u3 (by rw[e1];exact ap);replace O2:=O2.out u3 (by rw[e2];exact aq);replace o4:=o4.out u3 ar;replace B:Blk w4 _ _ _:=(u3.block _ B.lt HB.out.2.2.2).trans B;have HV:Hid (Out (repK.foot ⟨K a0 done.length k0,done,K a1 base.length k1,base,K a2 y.length k2,y,K a3 x.length k3,x,K a4 z.length k4,z⟩) w w4):=HU.out.trans (N.out u3);clear HU;have HU:=HV;clear HV Y o3 u3;have q:=B.cell 4 _ rfl
 go_wp2_with fail
 clear q;refine(Z w4 o4).mono ?_;rintro e w5 ⟨rfl,O4,u4⟩;replace O0:=O0.out u4 (by rw[e0];exact au);replace O1:=O1.out u4 (by rw[e1];exact av);replace O2:=O2.out u4 (by rw[e2];exact aw);replace O3:=O3.out u4 (by rw[e3];exact ax);have HV:Hid (Out (repK.foot ⟨K a0 done.length k0,done,K a1 base.length k1,base,K a2 y.length k2,y,K a3 x.length k3,x,K a4 z.length k4,z⟩) w w5):=HU.out.trans (O.out u4);clear HU;have HU:=HV;clear HV Z o4 u4;have R:=HR.out w5 O0 O1 O2 O3 O4;clear B O0 O1 O2 O3 O4 HB HR J L M N O e0 e1 e2 e3
 go_wp2
 go_ret;exact⟨by rw[HS.out];rfl,R,HU.out⟩
theorem z7A(p:RepQ)(c:Int)(w:World)(h:repK.rd w (mkRep c p))(hl:j p≤1048576)(h0:0≤c)(h1:c≤1000000000):
  Calls Q 145 #[.agg #[p.vd,p.vb,p.vt,p.vu,p.vn],G S c] w fun e w'=>e=.returned (G S (c+(nmRep p:Int)))∧Below w.heap.size w w':=by
 obtain⟨vd,done,vb,base,vt,d,vu,x,vn,y⟩:=p;obtain⟨o0,o1,o2,o3,o4⟩:txnK.At w vd (mkL z0O nmTxn (c) done)∧itemK.At w vb (mkItems (c+((nmL nmTxn done:Nat):Int)) base)∧txnK.At w vt (mkL z0O nmTxn (c+((nmL nmTxn done:Nat):Int)+((base.length*2:Nat):Int)) d)∧ussK.At w vu (mkL z2L nmUs (c+((nmL nmTxn done:Nat):Int)+((base.length*2:Nat):Int)+((nmL nmTxn d:Nat):Int)) x)∧itemK.At w vn (mkItems (c+((nmL nmTxn done:Nat):Int)+((base.length*2:Nat):Int)+((nmL nmTxn d:Nat):Int)+((nmL nmUs x:Nat):Int)) y):=h;dsimp only[j]at hl;have t0:=z2Z done;have t2:=z2Z d;have t3:=z7y x;have z:=fun w h=>z6C vd done (c) w h (by omega) (by omega) (by omega)
 have A:=fun w h=>z5m vb base (c+((nmL nmTxn done:Nat):Int)) w h (by omega) (by omega) (by omega)
 have C:=fun w h=>z6C vt d (c+((nmL nmTxn done:Nat):Int)+((base.length*2:Nat):Int)) w h (by omega) (by omega) (by omega)
 have D:=fun w h=>q2M vu x (c+((nmL nmTxn done:Nat):Int)+((base.length*2:Nat):Int)+((nmL nmTxn d:Nat):Int)) w h (by omega) (by omega) (by omega)
 have E:=fun w h=>z5m vn y (c+((nmL nmTxn done:Nat):Int)+((base.length*2:Nat):Int)+((nmL nmTxn d:Nat):Int)+((nmL nmUs x:Nat):Int)) w h (by omega) (by omega) (by omega)
 have HS:Hid ((c+((nmL nmTxn done:Nat):Int)+((base.length*2:Nat):Int)+((nmL nmTxn d:Nat):Int)+((nmL nmUs x:Nat):Int)+((y.length*2:Nat):Int):Int)=c+(nmRep ⟨vd,done,vb,base,vt,d,vu,x,vn,y⟩:Int)):=show _=_ by dsimp only[nmRep];omega
 have g1:¬c+((nmL nmTxn done:Nat):Int)<0:=by omega
 have g2:¬c+((nmL nmTxn done:Nat):Int)+((base.length*2:Nat):Int)<0:=by omega
 have g3:¬c+((nmL nmTxn done:Nat):Int)+((base.length*2:Nat):Int)+((nmL nmTxn d:Nat):Int)<0:=by omega
 have g4:¬c+((nmL nmTxn done:Nat):Int)+((base.length*2:Nat):Int)+((nmL nmTxn d:Nat):Int)+((nmL nmUs x:Nat):Int)<0:=by omega
 have g5:¬c+((nmL nmTxn done:Nat):Int)+((base.length*2:Nat):Int)+((nmL nmTxn d:Nat):Int)+((nmL nmUs x:Nat):Int)+((y.length*2:Nat):Int)<0:=by omega
 obtain⟨a0,k0,rfl⟩:=o0.shape;obtain⟨a1,k1,rfl⟩:=o1.shape;obtain⟨a2,k2,rfl⟩:=o2.shape;obtain⟨a3,k3,rfl⟩:=o3.shape;obtain⟨a4,k4,rfl⟩:=o4.shape;generalize I:(mkL z0O nmTxn (c) done).length=L0 at*;generalize J:(mkItems (c+((nmL nmTxn done:Nat):Int)) base).length=L1 at*;generalize L:(mkL z0O nmTxn (c+((nmL nmTxn done:Nat):Int)+((base.length*2:Nat):Int)) d).length=L2 at*;generalize M:(mkL z2L nmUs (c+((nmL nmTxn done:Nat):Int)+((base.length*2:Nat):Int)+((nmL nmTxn d:Nat):Int)) x).length=L3 at*;generalize N:(mkItems (c+((nmL nmTxn done:Nat):Int)+((base.length*2:Nat):Int)+((nmL nmTxn d:Nat):Int)+((nmL nmUs x:Nat):Int)) y).length=L4 at*;generalize mkL z0O nmTxn (c) done=M0 at*;generalize mkItems (c+((nmL nmTxn done:Nat):Int)) base=M1 at*;generalize mkL z0O nmTxn (c+((nmL nmTxn done:Nat):Int)+((base.length*2:Nat):Int)) d=M2 at*;generalize mkL z2L nmUs (c+((nmL nmTxn done:Nat):Int)+((base.length*2:Nat):Int)+((nmL nmTxn d:Nat):Int)) x=M3 at*;generalize mkItems (c+((nmL nmTxn done:Nat):Int)+((base.length*2:Nat):Int)+((nmL nmTxn d:Nat):Int)+((nmL nmUs x:Nat):Int)) y=M4 at*;clear I J L M N t0 t2 t3;generalize ((nmL nmTxn done:Nat):Int)=C0 at*;generalize ((base.length*2:Nat):Int)=C1 at*;generalize ((nmL nmTxn d:Nat):Int)=C2 at*;generalize ((nmL nmUs x:Nat):Int)=C3 at*;generalize ((y.length*2:Nat):Int)=C4 at*;generalize nmRep _=NR at*;have B:=m w 29 #[K a0 L0 k0,K a1 L1 k1,K a2 L2 k2,K a3 L3 k3,K a4 L4 k4];have hB:Below w.heap.size w (w.alloc (.cells #[K a0 L0 k0,K a1 L1 k1,K a2 L2 k2,K a3 L3 k3,K a4 L4 k4] 29)):=by go_grown
 have p0:=B.cell 0 _ rfl;go_enter func145,ntmps145
 go_wp2_with fail
 generalize w.alloc (.cells #[K a0 L0 k0,K a1 L1 k1,K a2 L2 k2,K a3 L3 k3,K a4 L4 k4] 29)=W at*;clear p0;refine(z W (o0.below hB)).mono ?_;rintro e w1 ⟨rfl,hb⟩;replace B:=B.below hb;replace hB:=hB.trans (hb.mono hB.size);clear z hb;have q:=B.cell 1 _ rfl
 go_wp2_with fail
 clear q;refine(A w1 (o1.below hB)).mono ?_;rintro e w2 ⟨rfl,hb⟩;replace B:=B.below hb;replace hB:=hB.trans (hb.mono hB.size);clear A hb;have q:=B.cell 2 _ rfl
 go_wp2_with fail
 clear q;refine(C w2 (o2.below hB)).mono ?_;rintro e w3 ⟨rfl,hb⟩;replace B:=B.below hb;replace hB:=hB.trans (hb.mono hB.size);clear C hb;have q:=B.cell 3 _ rfl
 go_wp2_with fail
 clear q;refine(D w3 (o3.below hB)).mono ?_;rintro e w4 ⟨rfl,hb⟩;replace B:=B.below hb;replace hB:=hB.trans (hb.mono hB.size);clear D hb;have q:=B.cell 4 _ rfl
 go_wp2_with fail
 clear q;refine(E w4 (o4.below hB)).mono ?_;rintro e w5 ⟨rfl,hb⟩;replace B:=B.below hb;replace hB:=hB.trans (hb.mono hB.size);clear E hb;clear B
 go_wp2
 go_ret;exact⟨by rw[HS.out];rfl,hB⟩
theorem z8R{p:RepQ}{c:Int}{w:World}(h:repK.rd w (mkRep c p)):(∃a l k,p.vd=K a l k)∧(∃a l k,p.vb=K a l k)∧(∃a l k,p.vt=K a l k)∧(∃a l k,p.vu=K a l k)∧(∃a l k,p.vn=K a l k):=by
 obtain⟨vd,done,vb,base,vt,tent,vu,undos,vn,now⟩:=p;obtain⟨h0,h1,h2,h3,h4⟩:=h;obtain⟨a0,k0,e0⟩:=h0.shape;obtain⟨a1,k1,e1⟩:=h1.shape;obtain⟨a2,k2,e2⟩:=h2.shape;obtain⟨a3,k3,e3⟩:=h3.shape;obtain⟨a4,k4,e4⟩:=h4.shape;exact⟨⟨_,_,_,e0⟩,⟨_,_,_,e1⟩,⟨_,_,_,e2⟩,⟨_,_,_,e3⟩,⟨_,_,_,e4⟩⟩
theorem q38(kn sf:Int)(p:RepQ)(c:Int)(w:World)(h:repK.rd w p)(hn:RepQ.wf p)(h0:0≤c)(h1:c≤1048576):
  Calls Q 36 #[.agg #[G S kn,G S sf,p.vd,p.vb,p.vt,p.vu,p.vn],G S c] w fun e w'=>∃r:Int,e=.returned (G S r)∧(¬r<0→(j p:Int)+r=c)∧Below w.heap.size w w':=by
 have hm:=fun w h=>z9H p c w h hn h0 h1
 have hr:=fun(w':World) hb=>repK.rd_below (w':=w') h hb
 generalize (j p:Int)=NP at*;clear hn;obtain⟨vd,done,vb,base,vt,x,vu,d,vn,y⟩:=p;obtain⟨a0,k0,rfl⟩:∃a c,vd=K a done.length c:=h.1.shape;obtain⟨a1,k1,rfl⟩:∃a c,vb=K a base.length c:=h.2.1.shape;obtain⟨a2,k2,rfl⟩:∃a c,vt=K a x.length c:=h.2.2.1.shape;obtain⟨a3,k3,rfl⟩:∃a c,vu=K a d.length c:=h.2.2.2.1.shape;obtain⟨a4,k4,rfl⟩:∃a c,vn=K a y.length c:=h.2.2.2.2.shape;dsimp only at hm;have hB:Below w.heap.size w (w.alloc (.cells #[G S kn,G S sf,K a0 done.length k0,K a1 base.length k1,K a2 x.length k2,K a3 d.length k3,K a4 y.length k4] 63)):=by go_grown
 have B:=m w 63 #[G S kn,G S sf,K a0 done.length k0,K a1 base.length k1,K a2 x.length k2,K a3 d.length k3,K a4 y.length k4];obtain⟨q0,q1,q2,q3,q4,q5,q6⟩:=B.cel7;go_enter func36,ntmps36
 go_wp2_with fail
 clear q0 q1 q2 q3 q4 q5 q6 B;have z:=hr _ hB;generalize w.alloc (.cells #[G S kn,G S sf,K a0 done.length k0,K a1 base.length k1,K a2 x.length k2,K a3 d.length k3,K a4 y.length k4] 63)=W at*;refine(hm W z).mono ?_;rintro e w1 ⟨r,rfl,hq,hb⟩;replace hB:=hB.trans (hb.mono hB.size);by_cases A:r<0
 ·go_wp2
  go_ret;exact⟨_,rfl,fun h=>absurd h (by decide),hB⟩
 ·go_wp2
  go_ret;exact⟨_,rfl,hq,hB⟩
theorem q39(kn sf:Int)(p:RepQ)(w:World)(h:repK.rd w p)(hl:j p≤1048576):
  Calls Q 38 #[.agg #[G S kn,G S sf,p.vd,p.vb,p.vt,p.vu,p.vn]] w fun e w'=>∃p':RepQ,e=.returned (.agg #[G S kn,G S sf,p'.vd,p'.vb,p'.vt,p'.vu,p'.vn])∧p'.e=p.e∧repK.own w' p'∧(repK.foot p').Nodup∧(∀k∈repK.foot p',w.heap.size≤k)∧Below w.heap.size w w':=by
 have hm:=fun w h=>z9J p w h hl
 have hr:=fun(w':World) hb=>repK.rd_below (w':=w') h hb
 generalize p.e=PE at*;obtain⟨vd,done,vb,base,vt,x,vu,d,vn,y⟩:=p;obtain⟨a0,k0,rfl⟩:∃a c,vd=K a done.length c:=h.1.shape;obtain⟨a1,k1,rfl⟩:∃a c,vb=K a base.length c:=h.2.1.shape;obtain⟨a2,k2,rfl⟩:∃a c,vt=K a x.length c:=h.2.2.1.shape;obtain⟨a3,k3,rfl⟩:∃a c,vu=K a d.length c:=h.2.2.2.1.shape;obtain⟨a4,k4,rfl⟩:∃a c,vn=K a y.length c:=h.2.2.2.2.shape;dsimp only at hm;clear hl;have hB:Below w.heap.size w (((w.alloc (.cells #[G S kn,G S sf,K a0 done.length k0,K a1 base.length k1,K a2 x.length k2,K a3 d.length k3,K a4 y.length k4] 63)).alloc (.cells #[G S 0,G S 0,K none 0 0,K none 0 0,K none 0 0,K none 0 0,K none 0 0] 31)).alloc (.cells #[G S kn,G S sf,K none 0 0,K none 0 0,K none 0 0,K none 0 0,K none 0 0] 31)):=by go_grown
 have R:=(m (w.alloc (.cells #[G S kn,G S sf,K a0 done.length k0,K a1 base.length k1,K a2 x.length k2,K a3 d.length k3,K a4 y.length k4] 63)) 31 #[G S 0,G S 0,K none 0 0,K none 0 0,K none 0 0,K none 0 0,K none 0 0]).below (w':=(((w.alloc (.cells #[G S kn,G S sf,K a0 done.length k0,K a1 base.length k1,K a2 x.length k2,K a3 d.length k3,K a4 y.length k4] 63)).alloc (.cells #[G S 0,G S 0,K none 0 0,K none 0 0,K none 0 0,K none 0 0,K none 0 0] 31)).alloc (.cells #[G S kn,G S sf,K none 0 0,K none 0 0,K none 0 0,K none 0 0,K none 0 0] 31))) (by go_grown);have O:=m ((w.alloc (.cells #[G S kn,G S sf,K a0 done.length k0,K a1 base.length k1,K a2 x.length k2,K a3 d.length k3,K a4 y.length k4] 63)).alloc (.cells #[G S 0,G S 0,K none 0 0,K none 0 0,K none 0 0,K none 0 0,K none 0 0] 31)) 31 #[G S kn,G S sf,K none 0 0,K none 0 0,K none 0 0,K none 0 0,K none 0 0];have hS:(((w.alloc (.cells #[G S kn,G S sf,K a0 done.length k0,K a1 base.length k1,K a2 x.length k2,K a3 d.length k3,K a4 y.length k4] 63)).alloc (.cells #[G S 0,G S 0,K none 0 0,K none 0 0,K none 0 0,K none 0 0,K none 0 0] 31)).alloc (.cells #[G S kn,G S sf,K none 0 0,K none 0 0,K none 0 0,K none 0 0,K none 0 0] 31)).heap.size=w.heap.size+3:=by simp only[World.size_alloc]
 simp only[World.size_alloc]at R O;have B:=(m w 63 #[G S kn,G S sf,K a0 done.length k0,K a1 base.length k1,K a2 x.length k2,K a3 d.length k3,K a4 y.length k4]).below (w':=(((w.alloc (.cells #[G S kn,G S sf,K a0 done.length k0,K a1 base.length k1,K a2 x.length k2,K a3 d.length k3,K a4 y.length k4] 63)).alloc (.cells #[G S 0,G S 0,K none 0 0,K none 0 0,K none 0 0,K none 0 0,K none 0 0] 31)).alloc (.cells #[G S 0,G S 0,K none 0 0,K none 0 0,K none 0 0,K none 0 0,K none 0 0] 31))) (by go_grown);obtain⟨q0,q1,q2,q3,q4,q5,q6⟩:=B.cel7;go_enter func38,ntmps38
 go_wp2_with fail
 clear q0 q1 q2 q3 q4 q5 q6 B;have A:=hr _ hB;generalize (((w.alloc (.cells #[G S kn,G S sf,K a0 done.length k0,K a1 base.length k1,K a2 x.length k2,K a3 d.length k3,K a4 y.length k4] 63)).alloc (.cells #[G S 0,G S 0,K none 0 0,K none 0 0,K none 0 0,K none 0 0,K none 0 0] 31)).alloc (.cells #[G S kn,G S sf,K none 0 0,K none 0 0,K none 0 0,K none 0 0,K none 0 0] 31))=W at*;refine(hm W A).mono ?_;rintro e w1 ⟨q,rfl,E0,O0,N0,G0,hb⟩;replace hB:=hB.trans (hb.mono hB.size);replace R:=R.below hb;replace O:=O.below hb;have U:=hb.size;clear hb hm hr A;obtain⟨L,qd,J,qb,N,qt,T,qu,M,qn⟩:=q;obtain⟨x0,z0,rfl⟩:∃a c,L=K a qd.length c:=O0.1.shape;obtain⟨x1,z1,rfl⟩:∃a c,J=K a qb.length c:=O0.2.1.shape;obtain⟨x2,z2,rfl⟩:∃a c,N=K a qt.length c:=O0.2.2.1.shape;obtain⟨x3,z3,rfl⟩:∃a c,T=K a qu.length c:=O0.2.2.2.1.shape;obtain⟨x4,z4,rfl⟩:∃a c,M=K a qn.length c:=O0.2.2.2.2.shape;have U1:=z7x w1 (w.heap.size+1+1) (K x0 qd.length z0) (K x1 qb.length z1) (K x2 qt.length z2) (K x3 qu.length z3) (K x4 qn.length z4);have O2:=O.mid5 (K x0 qd.length z0) (K x1 qb.length z1) (K x2 qt.length z2) (K x3 qu.length z3) (K x4 qn.length z4);have R2:Blk _ _ _ _:=(U1.block _ R.lt (by simp)).trans R;have OW:=repK.own_out O0 U1 (fun k hk=>by have:=G0 k hk;simp;omega);have z:=Out.keep hB U1 hB.size (fun k hk=>by simp at hk;omega);have I:(Q.info? 29).map (·.size)=some (#[K x0 qd.length z0,K x1 qb.length z1,K x2 qt.length z2,K x3 qu.length z3,K x4 qn.length z4]:Array Value).size:=by kernel_rfl
 have E:(Q.info? 31).map (·.size)=some (#[G S kn,G S sf,K x0 qd.length z0,K x1 qb.length z1,K x2 qt.length z2,K x3 qu.length z3,K x4 qn.length z4]:Array Value).size:=by kernel_rfl
 generalize hV:w1.setCells (w.heap.size+1+1) 2 [K x0 qd.length z0,K x1 qb.length z1,K x2 qt.length z2,K x3 qu.length z3,K x4 qn.length z4]=V at*;have R3:=R2.row #[G S kn,G S sf,K x0 qd.length z0,K x1 qb.length z1,K x2 qt.length z2,K x3 qu.length z3,K x4 qn.length z4];have U3:=z0R V (w.heap.size+1) #[G S kn,G S sf,K x0 qd.length z0,K x1 qb.length z1,K x2 qt.length z2,K x3 qu.length z3,K x4 qn.length z4];have C:=repK.own_out OW U3 (fun k hk=>by have:=G0 k hk;simp;omega);have D:=Out.keep z U3 z.size (fun k hk=>by simp at hk;omega);obtain⟨q0,q1,q2,q3,q4,q5,q6⟩:=O2.cel7
 go_wp2_with (first|(refine q0r (by kernel_rfl) 29 _ _ rfl _ 2 #[K x0 qd.length z0,K x1 qb.length z1,K x2 qt.length z2,K x3 qu.length z3,K x4 qn.length z4] rfl rfl 31 _ O I (by simp) (by simp[Value.oneCell']) ?_;(try dsimp only);rw[hV])|(refine z0s (by kernel_rfl) 31 _ _ rfl _ #[G S kn,G S sf,K x0 qd.length z0,K x1 qb.length z1,K x2 qt.length z2,K x3 qu.length z3,K x4 qn.length z4] rfl rfl 31 _ R2 E rfl (by simp[Value.oneCell']) ?_))
 obtain⟨r0,r1,r2,r3,r4,r5,r6⟩:=R3.cel7;exact bodyPost_ret (v:=.agg #[G S kn,G S sf,K x0 qd.length z0,K x1 qb.length z1,K x2 qt.length z2,K x3 qu.length z3,K x4 qn.length z4]) (by simp[results,results38,go_sem,r0,r1,r2,r3,r4,r5,r6]) rfl ⟨_,rfl,E0,C,N0,fun k hk=>by have:=G0 k hk;omega,D⟩
theorem q0s(kn sf:Int)(p p':RepQ)(w:World)(h:repK.rd w p)(h':repK.rd w p')(he:p.e=p'.e)(hl:j p≤1048576):
  Calls Q 41 #[.agg #[G S kn,G S sf,p.vd,p.vb,p.vt,p.vu,p.vn],.agg #[G S kn,G S sf,p'.vd,p'.vb,p'.vt,p'.vu,p'.vn]] w fun e w'=>e=.returned (.bool true)∧Below w.heap.size w w':=by
 have hm:=fun w h h'=>z9I p p' w h h' he hl
 have hr:=fun(w':World) hb=>repK.rd_below (w':=w') h hb
 have Z:=fun(w':World) hb=>repK.rd_below (w':=w') h' hb
 obtain⟨vd,done,vb,base,vt,C,vu,x,vn,E⟩:=p;obtain⟨a0,k0,rfl⟩:∃a c,vd=K a done.length c:=h.1.shape;obtain⟨a1,k1,rfl⟩:∃a c,vb=K a base.length c:=h.2.1.shape;obtain⟨a2,k2,rfl⟩:∃a c,vt=K a C.length c:=h.2.2.1.shape;obtain⟨a3,k3,rfl⟩:∃a c,vu=K a x.length c:=h.2.2.2.1.shape;obtain⟨a4,k4,rfl⟩:∃a c,vn=K a E.length c:=h.2.2.2.2.shape;obtain⟨ad,z,ab,y,af,A,ag,d,ae,D⟩:=p';obtain⟨I,O,rfl⟩:∃a c,ad=K a z.length c:=h'.1.shape;obtain⟨J,T,rfl⟩:∃a c,ab=K a y.length c:=h'.2.1.shape;obtain⟨L,U,rfl⟩:∃a c,af=K a A.length c:=h'.2.2.1.shape;obtain⟨M,V,rfl⟩:∃a c,ag=K a d.length c:=h'.2.2.2.1.shape;obtain⟨N,X,rfl⟩:∃a c,ae=K a D.length c:=h'.2.2.2.2.shape;dsimp only at hm;clear he hl;have hB:Below w.heap.size w ((w.alloc (.cells #[G S kn,G S sf,K a0 done.length k0,K a1 base.length k1,K a2 C.length k2,K a3 x.length k3,K a4 E.length k4] 31)).alloc (.cells #[G S kn,G S sf,K I z.length O,K J y.length T,K L A.length U,K M d.length V,K N D.length X] 31)):=by go_grown
 have B:=(m w 31 #[G S kn,G S sf,K a0 done.length k0,K a1 base.length k1,K a2 C.length k2,K a3 x.length k3,K a4 E.length k4]).below (w':=(w.alloc (.cells #[G S kn,G S sf,K a0 done.length k0,K a1 base.length k1,K a2 C.length k2,K a3 x.length k3,K a4 E.length k4] 31)).alloc (.cells #[G S kn,G S sf,K I z.length O,K J y.length T,K L A.length U,K M d.length V,K N D.length X] 31)) (by go_grown);have B':=m (w.alloc (.cells #[G S kn,G S sf,K a0 done.length k0,K a1 base.length k1,K a2 C.length k2,K a3 x.length k3,K a4 E.length k4] 31)) 31 #[G S kn,G S sf,K I z.length O,K J y.length T,K L A.length U,K M d.length V,K N D.length X];simp only[World.size_alloc]at B';obtain⟨q0,q1,q2,q3,q4,q5,q6⟩:=B.cel7;have s0:=B'.cell 0 _ rfl;have s1:=B'.cell 1 _ rfl;have s2:=B'.cell 2 _ rfl;have s3:=B'.cell 3 _ rfl;have s4:=B'.cell 4 _ rfl;have s5:=B'.cell 5 _ rfl;have s6:=B'.cell 6 _ rfl;have n0:(kn !=kn)=false:=by simp
 have n1:(sf !=sf)=false:=by simp
 go_enter func41,ntmps41
 go_wp2_with fail
 clear q0 q1 q2 q3 q4 q5 q6 s0 s1 s2 s3 s4 s5 s6 B B';have aa:=hr _ hB;have Y:=Z _ hB;generalize ((w.alloc (.cells #[G S kn,G S sf,K a0 done.length k0,K a1 base.length k1,K a2 C.length k2,K a3 x.length k3,K a4 E.length k4] 31)).alloc (.cells #[G S kn,G S sf,K I z.length O,K J y.length T,K L A.length U,K M d.length V,K N D.length X] 31))=W at*;refine(hm W aa Y).mono ?_;rintro e w3 ⟨rfl,hb⟩;replace hB:=hB.trans (hb.mono hB.size)
 go_wp2
 go_ret;exact⟨rfl,hB⟩
theorem z6H(kn sf:Int)(p:RepQ)(c:Int)(w:World)(h:repK.own w p)(z:(repK.foot p).Nodup)(hl:j p≤1048576)(h0:0≤c)(h1:c≤1000000000):
  Calls Q 43 #[.agg #[G S kn,G S sf,p.vd,p.vb,p.vt,p.vu,p.vn],G S c] w fun e w'=>e=.returned (G S (c+(nmRep p:Int)))∧repK.own w' (mkRep c p)∧Out (repK.foot p) w w':=by
 have hm:=fun w h=>z7z p c w h z hl h0 h1
 have hr:=fun(w':World) (hb:Below w.heap.size w w')=>repK.own_out (F:=[]) (w':=w') h (Out.of_below hb) (fun _ _=>by simp)
 generalize mkRep c p=M at*;generalize nmRep p=NR at*;generalize repK.foot p=FT at*;obtain⟨vd,done,vb,base,vt,x,vu,d,vn,y⟩:=p;obtain⟨a0,k0,rfl⟩:∃a c,vd=K a done.length c:=h.1.shape;obtain⟨a1,k1,rfl⟩:∃a c,vb=K a base.length c:=h.2.1.shape;obtain⟨a2,k2,rfl⟩:∃a c,vt=K a x.length c:=h.2.2.1.shape;obtain⟨a3,k3,rfl⟩:∃a c,vu=K a d.length c:=h.2.2.2.1.shape;obtain⟨a4,k4,rfl⟩:∃a c,vn=K a y.length c:=h.2.2.2.2.shape;dsimp only at hm;have hB:Below w.heap.size w (w.alloc (.cells #[G S kn,G S sf,K a0 done.length k0,K a1 base.length k1,K a2 x.length k2,K a3 d.length k3,K a4 y.length k4] 31)):=by go_grown
 have B:=m w 31 #[G S kn,G S sf,K a0 done.length k0,K a1 base.length k1,K a2 x.length k2,K a3 d.length k3,K a4 y.length k4];obtain⟨q0,q1,q2,q3,q4,q5,q6⟩:=B.cel7;go_enter func43,ntmps43
 go_wp2_with fail
 clear q0 q1 q2 q3 q4 q5 q6 B;have A:=hr _ hB;generalize w.alloc (.cells #[G S kn,G S sf,K a0 done.length k0,K a1 base.length k1,K a2 x.length k2,K a3 d.length k3,K a4 y.length k4] 31)=W at*;refine(hm W A).mono ?_;rintro e w1 ⟨rfl,O,u⟩
 go_wp2
 go_ret;exact⟨rfl,O,(Out.of_below hB).trans u⟩
theorem q1l(kn sf:Int)(p:RepQ)(c:Int)(w:World)(h:repK.rd w (mkRep c p))(hl:j p≤1048576)(h0:0≤c)(h1:c≤1000000000):
  Calls Q 89 #[.agg #[G S kn,G S sf,p.vd,p.vb,p.vt,p.vu,p.vn],G S c] w fun e w'=>e=.returned (G S (c+(nmRep p:Int)))∧Below w.heap.size w w':=by
 have hm:=fun w h=>z7A p c w h hl h0 h1
 have hr:=fun(w':World) hb=>repK.rd_below (w':=w') h hb
 have hs:=z8R h;generalize mkRep c p=M at*;generalize nmRep p=NR at*;clear hl;obtain⟨vd,done,vb,base,vt,tent,vu,undos,vn,now⟩:=p;obtain⟨⟨a0,l0,k0,rfl⟩,⟨a1,l1,k1,rfl⟩,⟨a2,l2,k2,rfl⟩,⟨a3,l3,k3,rfl⟩,⟨a4,l4,k4,rfl⟩⟩:=hs;dsimp only at hm;have hB:Below w.heap.size w (w.alloc (.cells #[G S kn,G S sf,K a0 l0 k0,K a1 l1 k1,K a2 l2 k2,K a3 l3 k3,K a4 l4 k4] 31)):=by go_grown
 have B:=m w 31 #[G S kn,G S sf,K a0 l0 k0,K a1 l1 k1,K a2 l2 k2,K a3 l3 k3,K a4 l4 k4];obtain⟨q0,q1,q2,q3,q4,q5,q6⟩:=B.cel7;have hg:¬c+(NR:Int)<0:=by omega
 go_enter func89,ntmps89
 go_wp2_with fail
 clear q0 q1 q2 q3 q4 q5 q6 B;have hr0:=hr _ hB;generalize w.alloc (.cells #[G S kn,G S sf,K a0 l0 k0,K a1 l1 k1,K a2 l2 k2,K a3 l3 k3,K a4 l4 k4] 31)=W at*;refine(hm W hr0).mono ?_;rintro e w1 ⟨rfl,hb⟩;replace hB:=hB.trans (hb.mono hB.size)
 go_wp2
 go_ret;exact⟨rfl,hB⟩
theorem q2N(co an kn sf:Int)(p p':RepQ)(w:World)(h:repK.rd w p)(h':repK.rd w p')(he:p.e=p'.e)(hl:j p≤1048576):
  Calls Q 39 #[.agg #[G S co,G S an,G S kn,G S sf,p.vd,p.vb,p.vt,p.vu,p.vn],.agg #[G S co,G S an,G S kn,G S sf,p'.vd,p'.vb,p'.vt,p'.vu,p'.vn]] w fun e w'=>e=.returned (.bool true)∧Below w.heap.size w w':=by
 have hm:=fun w h h'=>q0s kn sf p p' w h h' he hl
 have hr:=fun(w':World) hb=>repK.rd_below (w':=w') h hb
 have Z:=fun(w':World) hb=>repK.rd_below (w':=w') h' hb
 obtain⟨vd,done,vb,base,vt,C,vu,x,vn,E⟩:=p;obtain⟨a0,k0,rfl⟩:∃a c,vd=K a done.length c:=h.1.shape;obtain⟨a1,k1,rfl⟩:∃a c,vb=K a base.length c:=h.2.1.shape;obtain⟨a2,k2,rfl⟩:∃a c,vt=K a C.length c:=h.2.2.1.shape;obtain⟨a3,k3,rfl⟩:∃a c,vu=K a x.length c:=h.2.2.2.1.shape;obtain⟨a4,k4,rfl⟩:∃a c,vn=K a E.length c:=h.2.2.2.2.shape;obtain⟨ad,z,ab,y,af,A,ag,d,ae,D⟩:=p';obtain⟨I,O,rfl⟩:∃a c,ad=K a z.length c:=h'.1.shape;obtain⟨J,T,rfl⟩:∃a c,ab=K a y.length c:=h'.2.1.shape;obtain⟨L,U,rfl⟩:∃a c,af=K a A.length c:=h'.2.2.1.shape;obtain⟨M,V,rfl⟩:∃a c,ag=K a d.length c:=h'.2.2.2.1.shape;obtain⟨N,X,rfl⟩:∃a c,ae=K a D.length c:=h'.2.2.2.2.shape;dsimp only at hm;clear he hl;have hB:Below w.heap.size w ((w.alloc (.cells #[G S co,G S an,G S kn,G S sf,K a0 done.length k0,K a1 base.length k1,K a2 C.length k2,K a3 x.length k3,K a4 E.length k4] 35)).alloc (.cells #[G S co,G S an,G S kn,G S sf,K I z.length O,K J y.length T,K L A.length U,K M d.length V,K N D.length X] 35)):=by go_grown
 have B:=(m w 35 #[G S co,G S an,G S kn,G S sf,K a0 done.length k0,K a1 base.length k1,K a2 C.length k2,K a3 x.length k3,K a4 E.length k4]).below (w':=(w.alloc (.cells #[G S co,G S an,G S kn,G S sf,K a0 done.length k0,K a1 base.length k1,K a2 C.length k2,K a3 x.length k3,K a4 E.length k4] 35)).alloc (.cells #[G S co,G S an,G S kn,G S sf,K I z.length O,K J y.length T,K L A.length U,K M d.length V,K N D.length X] 35)) (by go_grown);have B':=m (w.alloc (.cells #[G S co,G S an,G S kn,G S sf,K a0 done.length k0,K a1 base.length k1,K a2 C.length k2,K a3 x.length k3,K a4 E.length k4] 35)) 35 #[G S co,G S an,G S kn,G S sf,K I z.length O,K J y.length T,K L A.length U,K M d.length V,K N D.length X];simp only[World.size_alloc]at B';obtain⟨q0,q1,q2,q3,q4,q5,q6,q7,q8⟩:=B.cel9;have s0:=B'.cell 0 _ rfl;have s1:=B'.cell 1 _ rfl;have s2:=B'.cell 2 _ rfl;have s3:=B'.cell 3 _ rfl;have s4:=B'.cell 4 _ rfl;have s5:=B'.cell 5 _ rfl;have s6:=B'.cell 6 _ rfl;have s7:=B'.cell 7 _ rfl;have s8:=B'.cell 8 _ rfl;have n0:(co !=co)=false:=by simp
 have n1:(an !=an)=false:=by simp
 have n2:(kn !=kn)=false:=by simp
 have n3:(sf !=sf)=false:=by simp
 go_enter func39,ntmps39
 go_wp2_with fail
 clear q0 q1 q2 q3 q4 q5 q6 q7 q8 s0 s1 s2 s3 s4 s5 s6 s7 s8 B B';have aa:=hr _ hB;have Y:=Z _ hB;generalize ((w.alloc (.cells #[G S co,G S an,G S kn,G S sf,K a0 done.length k0,K a1 base.length k1,K a2 C.length k2,K a3 x.length k3,K a4 E.length k4] 35)).alloc (.cells #[G S co,G S an,G S kn,G S sf,K I z.length O,K J y.length T,K L A.length U,K M d.length V,K N D.length X] 35))=W at*;refine(hm W aa Y).mono ?_;rintro e w3 ⟨rfl,hb⟩;replace hB:=hB.trans (hb.mono hB.size)
 go_wp2
 go_ret;exact⟨rfl,hB⟩
theorem q4a(co an kn sf:Int)(p:RepQ)(c:Int)(w:World)(h:repK.own w p)(z:(repK.foot p).Nodup)(hl:j p≤1048576)(h0:0≤c)(h1:c≤1000000000):
  Calls Q 44 #[.agg #[G S co,G S an,G S kn,G S sf,p.vd,p.vb,p.vt,p.vu,p.vn],G S c] w fun e w'=>e=.returned (G S (c+(nmRep p:Int)))∧repK.own w' (mkRep c p)∧Out (repK.foot p) w w':=by
 have hm:=fun w h=>z6H kn sf p c w h z hl h0 h1
 have hr:=fun(w':World) (hb:Below w.heap.size w w')=>repK.own_out (F:=[]) (w':=w') h (Out.of_below hb) (fun _ _=>by simp)
 generalize mkRep c p=M at*;generalize nmRep p=NR at*;generalize repK.foot p=FT at*;obtain⟨vd,done,vb,base,vt,x,vu,d,vn,y⟩:=p;obtain⟨a0,k0,rfl⟩:∃a c,vd=K a done.length c:=h.1.shape;obtain⟨a1,k1,rfl⟩:∃a c,vb=K a base.length c:=h.2.1.shape;obtain⟨a2,k2,rfl⟩:∃a c,vt=K a x.length c:=h.2.2.1.shape;obtain⟨a3,k3,rfl⟩:∃a c,vu=K a d.length c:=h.2.2.2.1.shape;obtain⟨a4,k4,rfl⟩:∃a c,vn=K a y.length c:=h.2.2.2.2.shape;dsimp only at hm;have hB:Below w.heap.size w (w.alloc (.cells #[G S co,G S an,G S kn,G S sf,K a0 done.length k0,K a1 base.length k1,K a2 x.length k2,K a3 d.length k3,K a4 y.length k4] 35)):=by go_grown
 have B:=m w 35 #[G S co,G S an,G S kn,G S sf,K a0 done.length k0,K a1 base.length k1,K a2 x.length k2,K a3 d.length k3,K a4 y.length k4];obtain⟨q0,q1,q2,q3,q4,q5,q6,q7,q8⟩:=B.cel9;go_enter func44,ntmps44
 go_wp2_with fail
 clear q0 q1 q2 q3 q4 q5 q6 q7 q8 B;have A:=hr _ hB;generalize w.alloc (.cells #[G S co,G S an,G S kn,G S sf,K a0 done.length k0,K a1 base.length k1,K a2 x.length k2,K a3 d.length k3,K a4 y.length k4] 35)=W at*;refine(hm W A).mono ?_;rintro e w1 ⟨rfl,O,u⟩
 go_wp2
 go_ret;exact⟨rfl,O,(Out.of_below hB).trans u⟩
theorem q4b(co an kn sf:Int)(p:RepQ)(c:Int)(w:World)(h:repK.rd w (mkRep c p))(hl:j p≤1048576)(h0:0≤c)(h1:c≤1000000000):
  Calls Q 45 #[.agg #[G S co,G S an,G S kn,G S sf,p.vd,p.vb,p.vt,p.vu,p.vn],G S c] w fun e w'=>e=.returned (G S (c+(nmRep p:Int)))∧Below w.heap.size w w':=by
 have hm:=fun w h=>q1l kn sf p c w h hl h0 h1
 have hr:=fun(w':World) hb=>repK.rd_below (w':=w') h hb
 have hs:=z8R h;generalize mkRep c p=M at*;generalize nmRep p=NR at*;clear hl;obtain⟨vd,done,vb,base,vt,tent,vu,undos,vn,now⟩:=p;obtain⟨⟨a0,l0,k0,rfl⟩,⟨a1,l1,k1,rfl⟩,⟨a2,l2,k2,rfl⟩,⟨a3,l3,k3,rfl⟩,⟨a4,l4,k4,rfl⟩⟩:=hs;dsimp only at hm;have hB:Below w.heap.size w (w.alloc (.cells #[G S co,G S an,G S kn,G S sf,K a0 l0 k0,K a1 l1 k1,K a2 l2 k2,K a3 l3 k3,K a4 l4 k4] 35)):=by go_grown
 have B:=m w 35 #[G S co,G S an,G S kn,G S sf,K a0 l0 k0,K a1 l1 k1,K a2 l2 k2,K a3 l3 k3,K a4 l4 k4];obtain⟨q0,q1,q2,q3,q4,q5,q6,q7,q8⟩:=B.cel9;have hg:¬c+(NR:Int)<0:=by omega
 go_enter func45,ntmps45
 go_wp2_with fail
 clear q0 q1 q2 q3 q4 q5 q6 q7 q8 B;have hr0:=hr _ hB;generalize w.alloc (.cells #[G S co,G S an,G S kn,G S sf,K a0 l0 k0,K a1 l1 k1,K a2 l2 k2,K a3 l3 k3,K a4 l4 k4] 35)=W at*;refine(hm W hr0).mono ?_;rintro e w1 ⟨rfl,hb⟩;replace hB:=hB.trans (hb.mono hB.size)
 go_wp2
 go_ret;exact⟨rfl,hB⟩
theorem q64{ps qs:List USQ}(h:ps.map USQ.e=qs.map USQ.e):ps.length+nmL USQ.n ps=qs.length+nmL USQ.n qs:=by
 have e:∀l:List USQ,nmL USQ.n l=nmL List.length (l.map USQ.e):=fun l=>by simp only[nmL,List.map_map];rfl
 have hl:ps.length=qs.length:=by simpa using congrArg List.length h
 rw[e,e,h,hl]
theorem q6C{ps qs:List TxnQ}(h:ps.map TxnQ.e=qs.map TxnQ.e):ps.length+nmL TxnQ.n ps=qs.length+nmL TxnQ.n qs:=by
 have e:∀l:List TxnQ,nmL TxnQ.n l=nmL TxnD.n (l.map TxnQ.e):=fun l=>by simp only[nmL,List.map_map];rfl
 have hl:ps.length=qs.length:=by simpa using congrArg List.length h
 rw[e,e,h,hl]
theorem q6D{p q:RepQ}(h:p.e=q.e):p.n=q.n:=by
 simp only[RepQ.e,RepE.mk.injEq]at h;obtain⟨h0,h1,h2,h3,h4⟩:=h;simp only[j];have a0:=q6C h0;have a2:=q6C h2;have a3:=q64 h3;rw[h1,h4];omega
section
open Go.Deep Go.ChangeShapes Go.WideShapes
section
variable {H:Type} {enc:TypeId × Value→H} {w:World} {base:Nat} {spare:Nat→Bool} {held:Bool}
theorem q1m(n:Nat)(l:List Value)(y:DataW H × List MemPlace)(h:DataW.trod enc Q w base spare held n 123 l=some y):∃p:InstQ,l=instK.cells p∧instK.rd w p∧InstQ.wf p:=by
 obtain⟨p,e,h1,h2⟩:=z6h h;exact⟨p,e,h1,h2⟩
theorem q5D{r:Reach}{b0:Nat}{v:Value}{d:DataW H}{p:List MemPlace}(hv:Value.okWide Q w r b0 56 v)(h:DataW.Trod enc Q w base spare held 56 v d p):
  ∃ps:List InstQ,instK.At w v ps∧ps.length≤9223372036854775807∧∀p∈ps,InstQ.wf p:=by
 obtain⟨a0,len0,cap0,rfl⟩:=okWide_slice Tryz.underlying56 hv;obtain⟨fuel,hf⟩:=h;obtain⟨v,ps,e,h1,h2,h3⟩:=z1S instK InstQ.wf Tryz.underlying56 (by kernel_rfl) (by decide) q1m hf;simp[Value.cells]at e;rw[←e]at h1;exact⟨ps,h1,h2,h3⟩
end
section
variable {H:Type} {enc:TypeId × Value→H} {w:World} {base:Nat} {spare:Nat→Bool} {held:Bool}
theorem z8S{P:Program}{t:TypeId}{f0 f1 f2 f3 f4:Field}{fuel:Nat}{cs:List Value}{x:DataW H × List MemPlace}(ht:P.underlying t=some (.struct #[f0,f1,f2,f3,f4]))(h:DataW.trod enc P w base spare held fuel t cs=some x):
  ∃y0 y1 y2 y3 y4 n,cs.length=P.cellsOf t∧DataW.trod enc P w base spare held n f0.type ((cs.drop f0.offset).take (P.cellsOf f0.type))=some y0∧
   DataW.trod enc P w base spare held n f1.type ((cs.drop f1.offset).take (P.cellsOf f1.type))=some y1∧DataW.trod enc P w base spare held n f2.type ((cs.drop f2.offset).take (P.cellsOf f2.type))=some y2∧
   DataW.trod enc P w base spare held n f3.type ((cs.drop f3.offset).take (P.cellsOf f3.type))=some y3∧DataW.trod enc P w base spare held n f4.type ((cs.drop f4.offset).take (P.cellsOf f4.type))=some y4:=by
 obtain⟨xs,n,_,rfl,hl,hlen,hf⟩:=DataW.trod_struct ht h
 match xs,hlen with
 |[y0,y1,y2,y3,y4],_=>exact⟨y0,y1,y2,y3,y4,n,hl,by simpa using hf 0 f0 rfl,by simpa using hf 1 f1 rfl,by simpa using hf 2 f2 rfl,by simpa using hf 3 f3 rfl,by simpa using hf 4 f4 rfl⟩
theorem q2O{fuel:Nat}{cs:List Value}{x:DataW H × List MemPlace}(h:DataW.trod enc Q w base spare held fuel 270 cs=some x):∃z:ItemD,cs=z.cells:=by
 obtain⟨y0,y1,n,_,hl,h0,h1⟩:=trod_struct2 Tryz.underlying270 h;rw[show Q.cellsOf 270=2 by kernel_rfl]at hl;have e:Q.cellsOf 2=1:=by kernel_rfl
 match cs,hl with
 |[c0,c1],_=>
  simp only[e,List.drop_zero,List.drop_succ_cons,List.take_succ_cons,List.take_zero]at h0 h1;obtain⟨k,e0,_⟩:=DataW.trod_int Tryz.underlying2 h0;obtain⟨y,e1,_⟩:=DataW.trod_int Tryz.underlying2 h1;simp only[List.cons.injEq,and_true]at e0 e1;exact⟨⟨k,y⟩,by rw[e0,e1];rfl⟩
theorem q2P{fuel:Nat}{cs:List Value}{x:DataW H × List MemPlace}(h:DataW.trod enc Q w base spare held fuel 329 cs=some x):∃z:UndoD,cs=z.cells:=by
 obtain⟨y0,y1,y2,n,_,hl,h0,h1,h2⟩:=trod_struct3 Tryz.underlying329 h;rw[show Q.cellsOf 329=3 by kernel_rfl]at hl;have e:Q.cellsOf 2=1:=by kernel_rfl
 have e':Q.cellsOf 4=1:=by kernel_rfl
 match cs,hl with
 |[c0,c1,c2],_=>
  simp only[e,e',List.drop_zero,List.drop_succ_cons,List.take_succ_cons,List.take_zero]at h0 h1 h2;obtain⟨k,e0,_⟩:=DataW.trod_int Tryz.underlying2 h0;obtain⟨y,e1,_⟩:=DataW.trod_bool Tryz.underlying4 h1;obtain⟨v,e2,_⟩:=DataW.trod_int Tryz.underlying2 h2;simp only[List.cons.injEq,and_true]at e0 e1 e2;exact⟨⟨k,y,v⟩,by rw[e0,e1,e2];rfl⟩
theorem q1n(n:Nat)(l:List Value)(y:DataW H × List MemPlace)(h:DataW.trod enc Q w base spare held n 270 l=some y):∃p:ItemD,l=itemK.cells p∧itemK.rd w p∧True:=by
 obtain⟨z,e⟩:=q2O h;exact⟨z,e,trivial,trivial⟩
theorem z5E{fuel:Nat}{cs:List Value}{x:DataW H × List MemPlace}(h:DataW.trod enc Q w base spare held fuel 58 cs=some x):
  ∃ (v:Value) (zs:List ItemD),cs=[v]∧itemK.At w v zs∧zs.length≤9223372036854775807:=by
 obtain⟨v,ps,h1,h2,h3,_⟩:=z1S itemK (fun _=>True) Tryz.underlying58 (by kernel_rfl) (by decide) q1n h;exact⟨v,ps,h1,h2,h3⟩
theorem q1o(n:Nat)(l:List Value)(y:DataW H × List MemPlace)(h:DataW.trod enc Q w base spare held n 329 l=some y):∃p:UndoD,l=undoK.cells p∧undoK.rd w p∧True:=by
 obtain⟨z,e⟩:=q2P h;exact⟨z,e,trivial,trivial⟩
theorem z9U(n:Nat)(l:List Value)(y:DataW H × List MemPlace)(h:DataW.trod enc Q w base spare held n 267 l=some y):∃p:USQ,l=ussK.cells p∧ussK.rd w p∧USQ.wf p:=by
 obtain⟨v,ps,h1,h2,h3,_⟩:=z1S undoK (fun _=>True) Tryz.underlying267 (by kernel_rfl) (by decide) q1o h;exact⟨⟨v,ps⟩,h1,h2,h3⟩
theorem q2Q{fuel:Nat}{cs:List Value}{x:DataW H × List MemPlace}(h:DataW.trod enc Q w base spare held fuel 59 cs=some x):
  ∃ (v:Value) (ps:List USQ),cs=[v]∧ussK.At w v ps∧ps.length≤9223372036854775807∧∀p∈ps,USQ.wf p:=
 z1S ussK USQ.wf Tryz.underlying59 (by kernel_rfl) (by decide) z9U h
theorem z7B{fuel:Nat}{cs:List Value}{x:DataW H × List MemPlace}(h:DataW.trod enc Q w base spare held fuel 61 cs=some x):
  ∃p:RepQ,cs=[p.vd,p.vb,p.vt,p.vu,p.vn]∧repK.rd w p∧p.wf:=by
 obtain⟨y0,y1,y2,y3,y4,n,hl,h0,h1,h2,h3,h4⟩:=z8S Tryz.underlying61 h;rw[show Q.cellsOf 61=5 by kernel_rfl]at hl;have e:Q.cellsOf 57=1:=by kernel_rfl
 have e':Q.cellsOf 58=1:=by kernel_rfl
 have e2:Q.cellsOf 59=1:=by kernel_rfl
 match cs,hl with
 |[c0,c1,c2,c3,c4],_=>
  simp only[e,e',e2,List.drop_zero,List.drop_succ_cons,List.take_succ_cons,List.take_zero]at h0 h1 h2 h3 h4;obtain⟨v0,z0,e0,a0,l0,w0⟩:=z4i h0;obtain⟨v1,z1,e1,a1,l1⟩:=z5E h1;obtain⟨v2,z2,e2,a2,l2,w2⟩:=z4i h2;obtain⟨v3,z3,e3,a3,l3,w3⟩:=q2Q h3;obtain⟨v4,z4,e4,a4,l4⟩:=z5E h4;simp only[List.cons.injEq,and_true]at e0 e1 e2 e3 e4;exact⟨⟨v0,z0,v1,z1,v2,z2,v3,z3,v4,z4⟩,by rw[e0,e1,e2,e3,e4],⟨a0,a1,a2,a3,a4⟩,⟨⟨l0,w0⟩,l1,⟨l2,w2⟩,⟨l3,w3⟩,l4⟩⟩
end
section
variable {H:Type} {enc:TypeId × Value→H} {w:World} {base:Nat} {spare:Nat→Bool} {held:Bool}
theorem z6l{fuel:Nat}{cs:List Value}{x:DataW H × List MemPlace}(h:DataW.trod enc Q w base spare held fuel 63 cs=some x):
  ∃ (kn sf:Int) (p:RepQ),cs=[G S kn,G S sf,p.vd,p.vb,p.vt,p.vu,p.vn]∧repK.rd w p∧p.wf:=by
 obtain⟨y0,y1,y2,n,_,hl,h0,h1,h2⟩:=trod_struct3 Tryz.underlying63 h;rw[show Q.cellsOf 63=7 by kernel_rfl]at hl;have e:Q.cellsOf 2=1:=by kernel_rfl
 have e':Q.cellsOf 61=5:=by kernel_rfl
 match cs,hl with
 |[c0,c1,c2,c3,c4,c5,c6],_=>
  simp only[e,e',List.drop_zero,List.drop_succ_cons,List.take_succ_cons,List.take_zero]at h0 h1 h2;obtain⟨k,e0,_⟩:=DataW.trod_int Tryz.underlying2 h0;obtain⟨s,e1,_⟩:=DataW.trod_int Tryz.underlying2 h1;obtain⟨p,e2,r,wf⟩:=z7B h2;simp only[List.cons.injEq,and_true]at e0 e1 e2;exact⟨k,s,p,by rw[e0,e1,e2.1,e2.2.1,e2.2.2.1,e2.2.2.2.1,e2.2.2.2.2],r,wf⟩
theorem q6E{r:Reach}{b0:Nat}{v:Value}{d:DataW H}{p:List MemPlace}(hv:Value.okWide Q w r b0 63 v)(h:DataW.Trod enc Q w base spare held 63 v d p):
  ∃ (kn sf:Int) (q:RepQ),v=.agg #[G S kn,G S sf,q.vd,q.vb,q.vt,q.vu,q.vn]∧repK.rd w q∧q.wf:=by
 obtain⟨cs,rfl,hsz⟩:=okWide_struct Tryz.underlying63 hv;obtain⟨fuel,hf⟩:=h;obtain⟨kn,sf,q,e,h1,h2⟩:=z6l hf;refine⟨kn,sf,q,?_,h1,h2⟩
 congr 1
 apply Array.ext';simpa[Value.cells]using e
end
end
end Go.Proofs.YtlkpdgjnhkjpjaaGreatDoor
