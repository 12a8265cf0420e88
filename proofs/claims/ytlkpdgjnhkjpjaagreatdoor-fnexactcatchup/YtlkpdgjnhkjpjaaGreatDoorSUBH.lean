import Derived.Test.YtlkpdgjnhkjpjaaGreatDoorSUBG
import Derived.Test.YtlkpdgjnhkjpjaaGreatDoorSUAU
set_option linter.unusedVariables false
set_option linter.unusedSimpArgs false
set_option maxRecDepth 100000
set_option maxHeartbeats 16000000
namespace Go.Proofs.YtlkpdgjnhkjpjaaGreatDoor
open Go.RowKit Go.BigFrame
open TxnQ renaming e->H,n->P
open InstQ renaming e->B
open List renaming length_map->j,length_append->o
open Act renaming put->i
open IntKind renaming i64->Q
open Value renaming int->R,slice->G
open Go.Proofs.Tryz
theorem z3Y:∀xs:List (List UndoD),sameUss xs xs=true
 |[]=>rfl
 |x::r=>by simp only[sameUss,z9K,z3Y r,Bool.and_self]
theorem z7N(x:RepE):sameRep x x=true:=by simp[sameRep,z4J,z9L,z3Y]
theorem q4n{D E:List TxnD}(h1:D.length≤16)(h2:E.length≤8)(h:lstF (D++E)=0):repF (mkR D E)=0:=by
 have hn:¬(16<(mkR D E).done.length∨8<(mkR D E).tent.length):=by show¬(16<D.length∨8<E.length);omega
 rw[z49 hn h];exact if_pos (z7N (mkR D E))
theorem z3Z{r:RepE}(h:repF r=0):r.base=allI [] r.done∧r.now=allI r.base r.tent∧r.undos=z6o r.base r.tent∧(∀t∈r.done,t.F=0)∧(∀t∈r.tent,t.F=0)∧r.base.length≤8∧Good r.base∧r.now.length≤8∧Good r.now∧r.done.length≤16∧r.tent.length≤8:=by
 have e:=q5S h;obtain⟨⟨l1,l2⟩,l3,_⟩:=z3b h;have hF:=q5O l3;have hD:∀t∈r.done,t.F=0:=fun t ht=>hF t (List.mem_append_left _ ht)
 have hE:∀t∈r.tent,t.F=0:=fun t ht=>hF t (List.mem_append_right _ ht)
 have e1:r.base=allI [] r.done:=congrArg RepE.base e;have e2:r.now=allI (allI [] r.done) r.tent:=congrArg RepE.now e;have e3:r.undos=z6o (allI [] r.done) r.tent:=congrArg RepE.undos e;have g:=z1h (xs:=[]) (by simp) z3a hD;have g2:=z1h g.1 g.2 hE;refine⟨e1,by rw[e1];exact e2,by rw[e1];exact e3,hD,hE,by rw[e1];exact g.1,by rw[e1];exact g.2,by rw[e2];exact g2.1,by rw[e2];exact g2.2,l1,l2⟩
theorem q5W{l:List TxnD}{t:TxnD}(h:l.Pairwise (fun a b=>stF a b=false))(hk:knw l t=false):(l++[t]).Pairwise (fun a b=>stF a b=false):=by
 rw[List.pairwise_append];refine⟨h,by simp,fun a ha b hb=>?_⟩;simp only[List.mem_singleton]at hb;subst hb;exact knw_false.1 hk a ha
theorem q3k{r:RepE}{fs:List TxnD}(h:dlC r fs=0):repF (mkR (r.done++fs) (plK r.tent fs))=0:=by
 obtain⟨h0,hf,hk,hn,hB,hF1,hF2,hl8⟩:=z7M h;obtain⟨⟨l1,l2⟩,l3,_⟩:=z3b h0;obtain⟨_,hA,hP⟩:=(z1g _).1 l3;obtain⟨_,_,hPf⟩:=(z1g _).1 hf;obtain⟨_,_,hPk⟩:=(z1g _).1 (q5U hB);obtain⟨p1,p2,p3⟩:=List.pairwise_append.1 hP;have hkf:=q6K hk;have hko:=q5V hB;refine q4n (by rw[o];exact hn) hl8 ?_;refine(z1g _).2 ⟨by rw[o,o];omega,fun x hx=>?_,?_⟩
 ·rcases List.mem_append.1 hx with hx|hx
  ·exact hF1 x hx
  ·exact hF2 x hx
 ·rw[List.pairwise_append,List.pairwise_append];refine⟨⟨p1,hPf,fun a ha b hb=>knw_false.1 (hkf b hb) a ha⟩,hPk,fun a ha b hb=>?_⟩;rcases List.mem_append.1 ha with ha|ha
  ·exact p3 a ha b (q0y hb)
  ·exact knw_false.1 (hko b hb) a ha
def nodF(ds:List InstE)(kn sf:Int)(r:RepE):Int:=
 if ordF ds=0 then(if(0≤kn∧kn≤(decN ds:Int))∧0≤sf∧sf≤kn then(if repF r=0 then(if sameTs r.done (defL ds kn.toNat)=true then 0 else 8)else repF r)else 3)else ordF ds
theorem z7O(ds:List InstE)(kn sf:Int)(r:RepE):(ordF ds≠0∧nodF ds kn sf r=ordF ds)∨(ordF ds=0∧¬(0≤kn∧kn≤(decN ds:Int))∧nodF ds kn sf r=3)∨
  (ordF ds=0∧(0≤kn∧kn≤(decN ds:Int))∧¬(0≤sf∧sf≤kn)∧nodF ds kn sf r=3)∨(ordF ds=0∧(0≤kn∧kn≤(decN ds:Int))∧(0≤sf∧sf≤kn)∧repF r≠0∧nodF ds kn sf r=repF r)∨
  (ordF ds=0∧(0≤kn∧kn≤(decN ds:Int))∧(0≤sf∧sf≤kn)∧repF r=0∧sameTs r.done (defL ds kn.toNat)=false∧nodF ds kn sf r=8)∨
  (ordF ds=0∧(0≤kn∧kn≤(decN ds:Int))∧(0≤sf∧sf≤kn)∧repF r=0∧sameTs r.done (defL ds kn.toNat)=true∧nodF ds kn sf r=0):=by
 unfold nodF;by_cases h0:ordF ds=0
 ·by_cases h1:0≤kn∧kn≤(decN ds:Int)
  ·by_cases h2:0≤sf∧sf≤kn
   ·by_cases h3:repF r=0
    ·cases h4:sameTs r.done (defL ds kn.toNat)<;>simp[h0,h1,h2,h3]
    ·simp[h0,h1,h2,h3]
   ·have h12:¬((0≤kn∧kn≤(decN ds:Int))∧0≤sf∧sf≤kn):=fun h=>h2 h.2
    right;right;left;exact⟨h0,h1,h2,by rw[if_pos h0,if_neg h12]⟩
  ·have h12:¬((0≤kn∧kn≤(decN ds:Int))∧0≤sf∧sf≤kn):=fun h=>h1 h.1
   right;left;exact⟨h0,h1,by rw[if_pos h0,if_neg h12]⟩
 ·left;exact⟨h0,by rw[if_neg h0]⟩
theorem z5Z:∀ {x y:List TxnD},sameTs x y=true→x=y
 |[],[],_=>rfl
 |[],y::s,h=>by simp[sameTs]at h
 |x::r,[],h=>by simp[sameTs]at h
 |x::r,y::s,h=>by
  simp only[sameTs,Bool.and_eq_true]at h;rw[q0z h.1,z5Z h.2]
theorem z1m{ds:List InstE}{kn sf:Int}{r:RepE}(h:nodF ds kn sf r=0):ordF ds=0∧(0≤kn∧kn≤(decN ds:Int))∧(0≤sf∧sf≤kn)∧repF r=0∧r.done=defL ds kn.toNat:=by
 rcases z7O ds kn sf r with⟨h0,h1⟩|⟨_,_,h1⟩|⟨_,_,_,h1⟩|⟨_,_,_,h0,h1⟩|⟨_,_,_,_,_,h1⟩|⟨a,b,c,d,e,_⟩
 ·exact absurd (h1.symm.trans h) h0
 ·rw[h]at h1;exact absurd h1 (by decide)
 ·rw[h]at h1;exact absurd h1 (by decide)
 ·exact absurd (h1.symm.trans h) h0
 ·rw[h]at h1;exact absurd h1 (by decide)
 ·exact⟨a,b,c,d,z5Z e⟩
theorem q6L{ds:List InstE}{kn sf:Int}{r:RepE}(h0:ordF ds=0)(h1:0≤kn∧kn≤(decN ds:Int))(h2:0≤sf∧sf≤kn)(h3:repF r=0)(h4:r.done=defL ds kn.toNat):nodF ds kn sf r=0:=by
 unfold nodF;rw[if_pos h0,if_pos ⟨h1,h2⟩,if_pos h3,h4,z4J,if_pos rfl]
theorem q3l:∀ (xs acc:List TxnD),acc.Pairwise (fun a b=>stF a b=false)→(onc acc xs).Pairwise (fun a b=>stF a b=false)
 |[],acc,h=>h
 |t::r,acc,h=>by
  rw[onc]
  cases hk:knw acc t
  ·exact q3l r _ (q5W h hk)
  ·exact q3l r _ h
theorem z9Z{ds:List InstE}(h:ordF ds=0)(m:Nat):(defL ds m).length≤16:=by
 have h1:=z7f (z30 (ds.take m)) [];have h2:=q2J (ds:=ds.take m) (fun x hx=>z2J h x (List.mem_of_mem_take hx));have h3:=((z2n ds).1 h).1.2;have h4:(ds.take m).length≤ds.length:=by rw[List.length_take];omega
 simp only[List.length_nil,Nat.zero_add]at h1;unfold defL;omega
theorem q3m{ds:List InstE}(h:ordF ds=0)(m:Nat):lstF (defL ds m)=0:=
 (z1g _).2 ⟨by have:=z9Z h m;omega,q5B (z2J h) m,q3l _ _ List.Pairwise.nil⟩
def morL(ds:List InstE)(kn:Int)(r:RepE):List TxnD:=(defL ds (kn+1).toNat).drop r.done.length
theorem z50{ds:List InstE}{kn sf:Int}{r:RepE}(h:nodF ds kn sf r=0):defL ds (kn+1).toNat=r.done++morL ds kn r:=by
 obtain⟨_,h1,_,_,h4⟩:=z1m h;obtain⟨zs,hz⟩:=q5k ds kn.toNat (kn+1).toNat (by omega);unfold morL;rw[h4,hz,List.drop_left]
theorem q3n{ds:List InstE}{kn:Int}{r:RepE}(h:ordF ds=0):lstF (morL ds kn r)=0:=q3j (q3m h _) (List.drop_sublist _ _)
theorem z7P{ds:List InstE}{kn sf:Int}{r:RepE}(h:nodF ds kn sf r=0):dlC r (morL ds kn r)=0:=by
 obtain⟨h0,h1,_,h3,h4⟩:=z1m h;have ha:=z50 h;have hl:=z9Z h0 (kn+1).toNat;obtain⟨_,_,hP⟩:=(z1g _).1 (q3m h0 (kn+1).toNat);rw[ha]at hP hl;rw[o]at hl;have hk:frK r.done (morL ds kn r)=false:=by
  unfold frK;rw[List.any_eq_false];intro t ht;have:knw r.done t=false:=knw_false.2 (fun a ha'=>(List.pairwise_append.1 hP).2.2 a ha' t ht);simp[this]
 unfold dlC;rw[if_pos h3,if_pos (q3n h0),hk,if_neg (by decide),if_neg (by omega)]
theorem q3o{ds:List InstE}{kn sf:Int}{r:RepE}(h:nodF ds kn sf r=0):dlE r (morL ds kn r)=mkR (defL ds (kn+1).toNat) (plK r.tent (morL ds kn r)):=by
 unfold dlE;rw[if_pos (z7P h),←z50 h]
theorem q4o{ds:List InstE}{kn sf:Int}{r:RepE}(h:nodF ds kn sf r=0)(hk:kn<(decN ds:Int)):nodF ds (kn+1) sf (dlE r (morL ds kn r))=0:=by
 obtain⟨h0,h1,h2,h3,h4⟩:=z1m h;refine q6L h0 ⟨by omega,by omega⟩ ⟨h2.1,by omega⟩ ?_ ?_
 ·have:=q3k (z7P h);rw[q3o h,z50 h];exact this
 ·rw[q3o h];rfl
def leC(ds:List InstE)(kn sf:Int)(x:RepE):Int:=if nodF ds kn sf x=0 then(if kn<(decN ds:Int)then 0 else 4)else nodF ds kn sf x
def leA(ds:List InstE)(kn sf:Int)(x:RepE):Int:=if leC ds kn sf x=0 then dlA x (morL ds kn x)else 0
def leK(ds:List InstE)(kn sf:Int)(x:RepE):Int:=if leC ds kn sf x=0 then kn+1 else 0
def leS(ds:List InstE)(kn sf:Int)(x:RepE):Int:=if leC ds kn sf x=0 then sf else 0
def leE(ds:List InstE)(kn sf:Int)(x:RepE):RepE:=if leC ds kn sf x=0 then dlE x (morL ds kn x)else⟨[],[],[],[],[]⟩
theorem q6M{ds:List InstE}{kn sf:Int}{x:RepE}(h:leC ds kn sf x≠0):leA ds kn sf x=0∧leK ds kn sf x=0∧leS ds kn sf x=0∧leE ds kn sf x=⟨[],[],[],[],[]⟩:=⟨if_neg h,if_neg h,if_neg h,if_neg h⟩
theorem le_n{ds:List InstE}{kn sf:Int}{x:RepE}(h:nodF ds kn sf x=0)(hk:¬kn<(decN ds:Int)):leC ds kn sf x=4∧leA ds kn sf x=0∧leK ds kn sf x=0∧leS ds kn sf x=0∧leE ds kn sf x=⟨[],[],[],[],[]⟩:=by
 have h1:leC ds kn sf x=4:=by unfold leC;rw[if_pos h,if_neg hk]
 exact⟨h1,q6M (by rw[h1];decide)⟩
theorem q7i{ds:List InstE}{kn sf:Int}{x:RepE}(h:nodF ds kn sf x=0)(hk:kn<(decN ds:Int)):leC ds kn sf x=0∧leA ds kn sf x=dlA x (morL ds kn x)∧leK ds kn sf x=kn+1∧leS ds kn sf x=sf∧leE ds kn sf x=dlE x (morL ds kn x):=by
 have h1:leC ds kn sf x=0:=by unfold leC;rw[if_pos h,if_pos hk]
 exact⟨h1,if_pos h1,if_pos h1,if_pos h1,if_pos h1⟩
theorem q68{ds:List InstE}{kn sf:Int}{x:RepE}(h:nodF ds kn sf x=0):diV ds=(decN ds:Int):=by
 unfold diV;rw[if_pos (z1m h).1]
theorem z7Q{ds:List InstE}{kn sf:Int}{r:RepE}(h:nodF ds kn sf r=0)(hk:kn<(decN ds:Int)):dfC ds (kn+1)=0∧dfT ds (kn+1)=r.done++morL ds kn r∧0≤kn∧kn≤4:=by
 obtain⟨h0,h1,h2,h3,h4⟩:=z1m h;have h5:decN ds≤ds.length:=by unfold decN;split<;>omega
 have h6:=((z2n ds).1 h0).1.2;rcases z7w ds (kn+1)with⟨a,_⟩|⟨_,a,_⟩|⟨_,_,a,b⟩
 ·exact absurd h0 a
 ·exact absurd (by omega) a
 ·exact⟨a,b.trans (z50 h),h1.1,by omega⟩
theorem q4p(v v':Value)(xs ys:List TxnQ)(w:World)(h:txnK.At w v xs)(h':txnK.At w v' ys)(hl:xs.length+nmL P xs≤1048576)(hl':ys.length+nmL P ys≤1048576):
  Calls Tryz.prog 18 #[v,v'] w fun e w'=>e=.returned (.bool (sameTs (xs.map H) (ys.map H)))∧Below w.heap.size w w':=
 z1I v v' _ _ w (z0C h) (z0C h') (by rw[j,z1k];omega) (by rw[j,z1k];omega)
theorem q3p(v v':Value)(xs ys:List TxnQ)(w:World)(h:txnK.At w v xs)(h':txnK.At w v' ys)(hl:xs.length+nmL P xs≤1048576)(hl':ys.length+nmL P ys≤1048576):
  Calls Tryz.prog 110 #[v,v'] w fun e w'=>e=.returned (.bool (sameTs (xs.map H) (ys.map H)))∧Below w.heap.size w w':=
 z1J v v' _ _ w (z0C h) (z0C h') (by rw[j,z1k];omega) (by rw[j,z1k];omega)
theorem z90(v:Value)(ps:List InstQ)(w:World)(h:instK.At w v ps)(hl:(ps.length+nmL InstQ.n ps)≤1048576)(h0:ordF (ps.map B)=0):
  Calls Tryz.prog 72 #[v] w fun e w'=>e=.returned (R Q (decN (ps.map B):Int))∧Below w.heap.size w w':=by
 have h1:=((z2n _).1 h0).1;rw[j]at h1;exact z7l v ps w h hl h1.1 h1.2
theorem q3q(v:Value)(ps:List InstQ)(n:Int)(w:World)(h:instK.At w v ps)(hl:(ps.length+nmL InstQ.n ps)≤1048576)(h0:ordF (ps.map B)=0)(hn:0≤n∧n≤(decN (ps.map B):Int)):
  Calls Tryz.prog 111 #[v,R Q n] w fun e w'=>∃v' qs,e=.returned v'∧qs.map H=defL (ps.map B) n.toNat∧txnK.Own w' v' qs∧(txnK.fp v' qs).Nodup∧(∀k∈txnK.fp v' qs,w.heap.size≤k)∧Below w.heap.size w w':=by
 have h1:=((z2n _).1 h0).1;have hm:=z2J h0;have hd:=q2s (ps.map B);rw[j]at h1 hd;obtain⟨m,rfl⟩:∃m:Nat,n=(m:Int):=⟨n.toNat,by omega⟩
 rw[Int.toNat_natCast];exact z6f v ps m w h (fun q hq=>q5o (hm _ (List.mem_map.2 ⟨q,hq,rfl⟩))) (fun q hq=>q7g (hm _ (List.mem_map.2 ⟨q,hq,rfl⟩))) (by omega) h1.2 hl
theorem q3r(x y:Int)(b b':Nat)(p q:RepQ)(w:World)(hP:Blk w b 29 #[p.vd,p.vb,p.vt,p.vu,p.vn])(hQ:Blk w b' 31 #[R Q x,R Q y,q.vd,q.vb,q.vt,q.vu,q.vn])(h:repK.rd w p)(h':repK.rd w q)(hl:p.n≤1048576)(z:q.n≤1048576):
  Calls Tryz.prog 171 #[.pointer (some ⟨b,0,none⟩),.pointer (some ⟨b',2,none⟩)] w fun e w'=>e=.returned (.bool (sameRep p.e q.e))∧Below w.heap.size w w':=by
 obtain⟨C,pd,A,pb,I,pt,J,pu,D,pn⟩:=p;obtain⟨p0,p5,rfl⟩:∃a c,C=G a pd.length c:=h.1.shape;obtain⟨p1,p6,rfl⟩:∃a c,A=G a pb.length c:=h.2.1.shape;obtain⟨p2,p7,rfl⟩:∃a c,I=G a pt.length c:=h.2.2.1.shape;obtain⟨p3,p8,rfl⟩:∃a c,J=G a pu.length c:=h.2.2.2.1.shape;obtain⟨p4,p9,rfl⟩:∃a c,D=G a pn.length c:=h.2.2.2.2.shape;obtain⟨M,qd,L,qb,O,qt,T,qu,N,qn⟩:=q;obtain⟨q0,q5,rfl⟩:∃a c,M=G a qd.length c:=h'.1.shape;obtain⟨q1,q6,rfl⟩:∃a c,L=G a qb.length c:=h'.2.1.shape;obtain⟨q2,q7,rfl⟩:∃a c,O=G a qt.length c:=h'.2.2.1.shape;obtain⟨q3,q8,rfl⟩:∃a c,T=G a qu.length c:=h'.2.2.2.1.shape;obtain⟨q4,q9,rfl⟩:∃a c,N=G a qn.length c:=h'.2.2.2.2.shape;dsimp only[RepQ.n]at hl z;have c0:=fun w h h'=>z1J (G p0 pd.length p5) (G q0 qd.length q5) (pd.map H) (qd.map H) w (z0C h) (z0C h') (by rw[j,z1k];omega) (by rw[j,z1k];omega)
 have c1:=fun w h h'=>z19 p1 q1 p6 q6 pb qb w h h' (by omega) (by omega)
 have c2:=fun w h h'=>z1J (G p2 pt.length p7) (G q2 qt.length q7) (pt.map H) (qt.map H) w (z0C h) (z0C h') (by rw[j,z1k];omega) (by rw[j,z1k];omega)
 have c3:=fun w h h'=>z5z (G p3 pu.length p8) (G q3 qu.length q8) pu qu w h h' (by omega) (by omega)
 have c4:=fun w h h'=>z19 p4 q4 p9 q9 pn qn w h h' (by omega) (by omega)
 obtain⟨r0,r1,r2,r3,r4⟩:txnK.At w (G p0 pd.length p5) pd∧itemK.At w (G p1 pb.length p6) pb∧txnK.At w (G p2 pt.length p7) pt∧ussK.At w (G p3 pu.length p8) pu∧itemK.At w (G p4 pn.length p9) pn:=h;obtain⟨s0,s1,s2,s3,s4⟩:txnK.At w (G q0 qd.length q5) qd∧itemK.At w (G q1 qb.length q6) qb∧txnK.At w (G q2 qt.length q7) qt∧ussK.At w (G q3 qu.length q8) qu∧itemK.At w (G q4 qn.length q9) qn:=h';replace r1:=(z05 r1).2;replace r4:=(z05 r4).2;replace s1:=(z05 s1).2;replace s4:=(z05 s4).2;have E:Hid (sameRep ⟨pd.map H,pb,pt.map H,pu.map USQ.e,pn⟩ ⟨qd.map H,qb,qt.map H,qu.map USQ.e,qn⟩=(sameTs (pd.map H) (qd.map H) && (sameIs pb qb && (sameTs (pt.map H) (qt.map H) && (sameUss (pu.map USQ.e) (qu.map USQ.e) && sameIs pn qn))))):=show _=_ from rfl
 dsimp only[RepQ.e];generalize sameTs (pd.map H) (qd.map H)=X0 at*;generalize sameIs pb qb=X1 at*;generalize sameTs (pt.map H) (qt.map H)=X2 at*;generalize sameUss (pu.map USQ.e) (qu.map USQ.e)=X3 at*;generalize sameIs pn qn=X4 at*;generalize sameRep ⟨pd.map H,pb,pt.map H,pu.map USQ.e,pn⟩ ⟨qd.map H,qb,qt.map H,qu.map USQ.e,qn⟩=S at*;have f0:=hP.lat 0 _ rfl;have g0:=hQ.lat 2 _ rfl;have f1:=hP.lat 1 _ rfl;have g1:=hQ.lat 3 _ rfl;have f2:=hP.lat 2 _ rfl;have g2:=hQ.lat 4 _ rfl;have f3:=hP.lat 3 _ rfl;have g3:=hQ.lat 5 _ rfl;have f4:=hP.lat 4 _ rfl;have g4:=hQ.lat 6 _ rfl;have hW:Below w.heap.size w w.drew:=(Below.refl _ _).drew;have U:Nonempty (Lat w):=⟨⟨w,Below.refl _ _⟩⟩
 go_enter func171,ntmps171
 go_wp2_with fail
 refine z0a (S:=fun w'=>∃u:Lat w,w'=u.val) (by kernel_rfl) ?_;refine sgr [(0,8)] 46 (by kernel_rfl) ⟨⟨_,hW⟩,rfl⟩ ?_;simp only[pkE];repeat go_big_quiet_step (fail)
 refine wpQuiet_nil ?_;refine cla 8 (some 13) 110 #[G p0 pd.length p5,G q0 qd.length q5] 45 (by kernel_rfl) ?_;refine(c0 _ (r0.below hW) (s0.below hW)).mono ?_;rintro e w9 ⟨rfl,d⟩;replace hW:=hW.trans (d.mono hW.size);clear d;refine⟨_,rfl,⟨⟨_,hW⟩,rfl⟩,?_⟩;simp only[i,pjE]
 cases X0
 all_goals
  refine sgr [(9,9)] 36 (by kernel_rfl) ⟨⟨_,hW⟩,rfl⟩ ?_;simp only[pkE];repeat go_big_quiet_step (fail)
  refine wpQuiet_nil ?_
 focus
  refine ska 18 (some 23) 35 (by kernel_rfl) ⟨⟨_,hW⟩,rfl⟩ ?_;simp only[i,pjE]
 rotate_left
 focus
  refine cla 18 (some 23) 110 #[G p2 pt.length p7,G q2 qt.length q7] 35 (by kernel_rfl) ?_;refine(c2 _ (r2.below hW) (s2.below hW)).mono ?_;rintro e w9 ⟨rfl,d⟩;replace hW:=hW.trans (d.mono hW.size);clear d;refine⟨_,rfl,⟨⟨_,hW⟩,rfl⟩,?_⟩;simp only[i,pjE]
  cases X2
 rotate_right
 all_goals
  refine sgr [(19,10)] 25 (by kernel_rfl) ⟨⟨_,hW⟩,rfl⟩ ?_;simp only[pkE];repeat go_big_quiet_step (fail)
  refine wpQuiet_nil ?_
 iterate 2
  focus
   refine ska 29 (some 34) 24 (by kernel_rfl) ⟨⟨_,hW⟩,rfl⟩ ?_;simp only[i,pjE]
  rotate_left
 focus
  refine cla 29 (some 34) 226 #[G p1 pb.length p6,G q1 qb.length q6] 24 (by kernel_rfl) ?_;refine(c1 _ (r1.below hW) (s1.below hW)).mono ?_;rintro e w9 ⟨rfl,d⟩;replace hW:=hW.trans (d.mono hW.size);clear d;refine⟨_,rfl,⟨⟨_,hW⟩,rfl⟩,?_⟩;simp only[i,pjE]
  cases X1
 rotate_right 2
 all_goals
  refine sgr [(30,10)] 14 (by kernel_rfl) ⟨⟨_,hW⟩,rfl⟩ ?_;simp only[pkE];repeat go_big_quiet_step (fail)
  refine wpQuiet_nil ?_
 iterate 3
  focus
   refine ska 40 (some 45) 13 (by kernel_rfl) ⟨⟨_,hW⟩,rfl⟩ ?_;simp only[i,pjE]
  rotate_left
 focus
  refine cla 40 (some 45) 226 #[G p4 pn.length p9,G q4 qn.length q9] 13 (by kernel_rfl) ?_;refine(c4 _ (r4.below hW) (s4.below hW)).mono ?_;rintro e w9 ⟨rfl,d⟩;replace hW:=hW.trans (d.mono hW.size);clear d;refine⟨_,rfl,⟨⟨_,hW⟩,rfl⟩,?_⟩;simp only[i,pjE]
  cases X4
 rotate_right 3
 all_goals
  refine sgr [(41,10)] 3 (by kernel_rfl) ⟨⟨_,hW⟩,rfl⟩ ?_;simp only[pkE];repeat go_big_quiet_step (fail)
  refine wpQuiet_nil ?_
 iterate 4
  focus
   refine ska 51 (some 56) 2 (by kernel_rfl) ⟨⟨_,hW⟩,rfl⟩ ?_;simp only[i,pjE]
  rotate_left
 focus
  refine cla 51 (some 56) 227 #[G p3 pu.length p8,G q3 qu.length q8] 2 (by kernel_rfl) ?_;refine(c3 _ (r3.below hW) (s3.below hW)).mono ?_;rintro e w9 ⟨rfl,d⟩;replace hW:=hW.trans (d.mono hW.size);clear d;refine⟨_,rfl,⟨⟨_,hW⟩,rfl⟩,?_⟩;simp only[i,pjE]
 rotate_right 4
 all_goals
  refine sgr [(52,2)] 0 (by kernel_rfl) ⟨⟨_,hW⟩,rfl⟩ ?_;simp only[pkE];repeat go_big_quiet_step (fail)
  refine wpQuiet_nil ?_
 all_goals
  refine z0e (by kernel_rfl) ?_
  go_wp2
  go_ret;exact⟨by rw[E.out];simp,hW⟩
theorem q3s(T U:Int)(b:Nat)(p:RepQ)(w:World)(hB:Blk w b 31 #[R Q T,R Q U,p.vd,p.vb,p.vt,p.vu,p.vn])(h:repK.own w p)(hl:p.n≤1048576):
  Calls Tryz.prog 109 #[.pointer (some ⟨b,2,none⟩)] w fun e w'=>e=.returned (R Q (repF p.e))∧Below w.heap.size w w':=by
 obtain⟨aK,pd,aJ,pb,aM,pt,aN,pu,aL,pn⟩:=p;obtain⟨p0,p5,rfl⟩:∃a c,aK=G a pd.length c:=h.1.shape;obtain⟨p1,p6,rfl⟩:∃a c,aJ=G a pb.length c:=h.2.1.shape;obtain⟨p2,p7,rfl⟩:∃a c,aM=G a pt.length c:=h.2.2.1.shape;obtain⟨p3,p8,rfl⟩:∃a c,aN=G a pu.length c:=h.2.2.2.1.shape;obtain⟨p4,p9,rfl⟩:∃a c,aL=G a pn.length c:=h.2.2.2.2.shape;dsimp only[RepQ.n]at hl;have h0:=repK.own_rd h;have V:∀q∈pd,z3q q:=fun q hq=>z5a (h.1.2 q hq)
 have W:∀q∈pt,z3q q:=fun q hq=>z5a (h.2.2.1.2 q hq)
 have nd:=h.1.niceV;have nt:=h.2.2.1.niceV;have hr:=fun(w':World) hb=>repK.rd_below (w':=w') h0 hb
 have aT:(pd.length:Int)≤1048576:=by omega
 have aU:(pt.length:Int)≤1048576:=by omega
 have q0:=hB.cell 2 _ rfl;have q2:=hB.cell 4 _ rfl;clear h h0;by_cases hm:16<pd.length∨8<pt.length
 ·have HC:Hid (repF (RepQ.e (⟨G p0 pd.length p5,pd,G p1 pb.length p6,pb,G p2 pt.length p7,pt,G p3 pu.length p8,pu,G p4 pn.length p9,pn⟩:RepQ))=2):=show _=_ from z7G (by simpa[RepQ.e]using hm)
  generalize repF (RepQ.e (⟨G p0 pd.length p5,pd,G p1 pb.length p6,pb,G p2 pt.length p7,pt,G p3 pu.length p8,pu,G p4 pn.length p9,pn⟩:RepQ))=c at*;clear hr V W nd nt;by_cases aP:16<pd.length
  ·have ax:(16:Int)<(pd.length:Int):=by omega
   go_enter func109,ntmps109
   go_wp2
   go_ret;exact⟨by first|(rw[HC.out];done)|(rw[HC.out];rfl)|(simp[HC.out]),Below.refl _ _⟩
  ·have ax:¬(16:Int)<(pd.length:Int):=by omega
   have i8:(8:Int)<(pt.length:Int):=by omega
   go_enter func109,ntmps109
   go_wp2
   go_ret;exact⟨by first|(rw[HC.out];done)|(rw[HC.out];rfl)|(simp[HC.out]),Below.refl _ _⟩
 have ax:¬(16:Int)<(pd.length:Int):=by omega
 have i8:¬(8:Int)<(pt.length:Int):=by omega
 have aO:pd.length≤16:=by omega
 have aS:pt.length≤8:=by omega
 have ad:¬(16<(pd.map H).length∨8<(pt.map H).length):=by simpa using hm
 have z:=Wrp.mk (z7H (r:=RepQ.e (⟨G p0 pd.length p5,pd,G p1 pb.length p6,pb,G p2 pt.length p7,pt,G p3 pu.length p8,pu,G p4 pn.length p9,pn⟩:RepQ)) ad);have A:=Wrp.mk (z49 (r:=RepQ.e (⟨G p0 pd.length p5,pd,G p1 pb.length p6,pb,G p2 pt.length p7,pt,G p3 pu.length p8,pu,G p4 pn.length p9,pn⟩:RepQ)) ad);dsimp only[RepQ.e]at z A⊢;clear hm ad;generalize repF _=CC at*;have ap:=fun(w':World) (hb:Below w.heap.size w w')=>z1C (G p0 pd.length p5) pd w' (hr w' hb).1 V (by omega)
 have aq:=fun(w':World) (hb:Below w.heap.size w w')=>z1C (G p2 pt.length p7) pt w' (hr w' hb).2.2.1 W (by omega)
 go_enter func109,ntmps109
 go_wp2_with fail
 clear q0 q2;have f0:=hB.lat 2 _ rfl;have f2:=hB.lat 4 _ rfl;have hW:Below w.heap.size w w.drew:=(Below.refl _ _).drew;have aw:Nonempty (Lat w):=⟨⟨w,Below.refl _ _⟩⟩
 refine z0a (S:=fun w'=>∃u:Lat w,w'=u.val) (by kernel_rfl) ?_;refine sgr [(0,4),(5,4)] 5 (by kernel_rfl) ⟨⟨_,hW⟩,rfl⟩ ?_;simp only[pkE];repeat go_big_quiet_step (fail)
 refine wpQuiet_nil ?_;refine cla 4 (some 23) 170 #[G p0 pd.length p5] 4 (by kernel_rfl) ?_;refine(ap _ hW).mono ?_;rintro e x1 ⟨v1,q1,rfl,e1,o1,n1,g1,d⟩;have ND:Hid (∀k,∀q∈q1,k∈txnK.foot q→k∉blk v1):=fun k q hq hk hb=>(List.nodup_append.1 n1).2.2 k hb k (List.mem_flatMap.2 ⟨q,hq,hk⟩) rfl
 clear n1;obtain⟨a1,k1,rfl⟩:=o1.shape;have aV:=hW.size;replace hW:=hW.trans (d.mono hW.size);clear d;refine⟨_,rfl,⟨⟨_,hW⟩,rfl⟩,?_⟩;simp only[i,pjE];refine cla 9 (some 28) 170 #[G p2 pt.length p7] 3 (by kernel_rfl) ?_;refine(aq _ hW).mono ?_;rintro e x2 ⟨v2,q2,rfl,e2,o2,_,g2,d⟩;obtain⟨a2,k2,rfl⟩:=o2.shape;have aW:=hW.size;have i1:=o1.lt;replace o1:=o1.below d;replace hW:=hW.trans (d.mono hW.size);clear d;refine⟨_,rfl,⟨⟨_,hW⟩,rfl⟩,?_⟩;simp only[i,pjE];have aX:=hW.size;obtain⟨i0,hi,aA,aB,aC⟩:=info_parts z1f;have l1:q1.length=pd.length:=by simpa using congrArg List.length e1
 have l2:q2.length=pt.length:=by simpa using congrArg List.length e2
 obtain⟨_,_,ee,I,ay⟩:=o2.at;simp only[Value.slice.injEq,true_and]at ee;obtain⟨rfl,rfl⟩:=ee;have w1:q1.length+q2.length≤maxLen:=by unfold maxLen;omega
 have w2:(q1.length+q2.length)*48≤140737488355328:=by omega
 clear l1 l2;refine ona 10 2 rfl (by kernel_rfl) ?_;refine z1c (K:=txnK) _ rfl _ _ 25 rfl i0 (.agg #[R Q 0,R Q 0,R Q 0,G none 0 0]) 48 Tryz.underlying25 hi aA aB aC rfl (by decide) 0 _ q1 rfl o1.1 _ q2 _ rfl I (z48 ay) (o2.niceV _ _ _ rfl) w1 w2 (by omega) ?_;intro v3 x3 af ar;have L:Out (blk (G a1 q1.length k1)) x2 x3:=Out.of_grown ar;have Y:∀x∈blk (G a1 q1.length k1),w.heap.size≤x∧x<x1.heap.size:=fun x hx=>⟨by have:=g1 x (by simp only[Kind.fp,List.mem_append];exact Or.inl hx);omega,i1 x (by simp only[Kind.fp,List.mem_append];exact Or.inl hx)⟩
 have Z:txnK.At x3 v3 (q1 ++ q2):=Kind.at_of_row af (fun q hq=>by
  rcases List.mem_append.1 hq with hq|hq
  ·exact txnK.own_rd (txnK.own_out (o1.2 q hq) L (fun k hk e=>ND.out k q hq hk e))
  ·exact txnK.own_rd (txnK.own_out (o2.2 q hq) L (fun k hk e=>by
    have:=g2 k (by simp only[Kind.fp,List.mem_append,List.mem_flatMap];exact Or.inr ⟨q,hq,hk⟩);have:=(Y k e).2;omega)))
 replace hW:=Out.keep hW L (by omega) (fun x hx=>(Y x hx).1);have az:=q4k af;obtain⟨a3,k3,rfl⟩:=Z.shape
 go_wp2
 refine ThenGo.to ⟨⟨⟨_,hW⟩,rfl⟩,?_⟩;have av:(q1++q2).length+nmL P (q1++q2)≤1048576:=by
  have e:nmL P (q1++q2)=nmL P q1+nmL P q2:=by simp[nmL]
  have s1:=q4J e1;have s2:=q4J e2;rw[o,e];omega
 have ab:=fun w h=>z9G (.slice a3 (q1++q2).length k3) (q1++q2) w h az av
 rw[List.map_append,e1,e2]at ab;simp only[i,pgE,pjE];refine cla 11 (some 30) 169 #[.slice a3 (q1++q2).length k3] 1 (by kernel_rfl) ?_;refine(ab _ Z).mono ?_;rintro e x4 ⟨rfl,d⟩;replace hW:=hW.trans (d.mono hW.size);clear d ab Z af ar L o1 o2 g1 g2 i1 Y I ay ND;refine⟨_,rfl,⟨⟨_,hW⟩,rfl⟩,?_⟩;simp only[i,pjE];refine sgr [(12,1)] 0 (by kernel_rfl) ⟨⟨_,hW⟩,rfl⟩ ?_;simp only[pkE];repeat go_big_quiet_step (fail)
 refine wpQuiet_nil ?_;refine z0e (by kernel_rfl) ?_;clear f0 f2 aw ap aq V W nd nt e1 e2 w1 w2;by_cases hL:lstF (pd.map H++pt.map H)=0
 case neg=>
  have HC:Hid (CC=lstF (pd.map H++pt.map H)):=z.out hL;clear z A;generalize lstF (pd.map H++pt.map H)=c at*;have aQ:(c !=0)=true:=by simpa using hL
  go_wp2
  go_ret;exact⟨by first|(rw[HC.out];done)|(rw[HC.out];rfl)|(simp[HC.out]),hW⟩
 have D:=q5O hL;have ai:∀q∈pd,(H q).F=0:=fun q hq=>D _ (List.mem_append_left _ (List.mem_map_of_mem hq))
 have ak:∀q∈pt,(H q).F=0:=fun q hq=>D _ (List.mem_append_right _ (List.mem_map_of_mem hq))
 have HC:=Wrp.mk (A.out hL);rw[hL];clear z A hL;have J:=hB.below hW;have N:=hr _ hW;have ae:=fun(w':World) (hb:Below x4.heap.size x4 w')=>z4m (G p0 pd.length p5) (G p2 pt.length p7) pd pt w' (N.1.below hb) (N.2.2.1.below hb) ai ak (by omega) (by omega)
 have aa:=hW;clear hW
 go_wp2_with fail
 generalize hX:x4=X at*;clear hX;try clear av
 generalize (q1++q2).length=QL;have f0:=J.lat 2 _ rfl;have f2:=J.lat 4 _ rfl;refine z0X [some 34,some 35,some 36,some 37,some 38,some 39,some 40,some 41,some 42,some 4] (fun vs w'=>∃ (m:RepQ) (g:Nat),vs=[.pointer (some ⟨b,2,none⟩),.pointer (some ⟨b,2,none⟩),.pointer (some ⟨b,2,none⟩),G p0 pd.length p5,.pointer (some ⟨b,2,none⟩),.pointer (some ⟨b,2,none⟩),.pointer (some ⟨b,4,none⟩),G p2 pt.length p7,.agg #[m.vd,m.vb,m.vt,m.vu,m.vn],.pointer (some ⟨g,0,none⟩)]∧X.heap.size≤g∧Blk w' g 29 #[m.vd,m.vb,m.vt,m.vu,m.vn]∧m.e=mkR (pd.map H) (pt.map H)∧repK.own w' m∧Below X.heap.size X w') ?_ ?_
 ·have hW:Below X.heap.size X X.drew:=(Below.refl _ _).drew;have aw:Nonempty (Lat X):=⟨⟨X,Below.refl _ _⟩⟩
  refine z0a (S:=fun w'=>∃u:Lat X,w'=u.val) (by kernel_rfl) ?_;refine sgr [(0,8)] 3 (by kernel_rfl) ⟨⟨_,hW⟩,rfl⟩ ?_;simp only[pkE];repeat go_big_quiet_step (fail)
  refine wpQuiet_nil ?_;clear f0 f2;generalize X.drew=wd at hW⊢;refine twa 8 9 2 (by kernel_rfl) ?_ ?_
  focus
   skip;refine opc 8 (some 42) 122 #[G p0 pd.length p5,G p2 pt.length p7] (by kernel_rfl) ?_;refine(ae _ hW).mono ?_;rintro e x1 ⟨m,rfl,em,om,nm,gm,hb⟩;clear nm;replace hW:=hW.trans (hb.mono hW.size);clear hb gm;refine⟨_,rfl,⟨⟨_,hW⟩,rfl⟩,?_⟩;simp only[i,pgE,pjE];refine ona 9 1 rfl (by kernel_rfl) ?_;have Bz:=Blk.new x1 29 #[G none 0 0,G none 0 0,G none 0 0,G none 0 0,G none 0 0];have aD:X.heap.size≤x1.heap.size:=hW.size;have C:Below x1.heap.size x1 (x1.alloc (.cells #[G none 0 0,G none 0 0,G none 0 0,G none 0 0,G none 0 0] 29)):=by go_grown
   have ag:∀k∈repK.foot m,k≠x1.heap.size:=fun k hk=>by have:=repK.own_lt om k hk;omega
   replace om:=repK.own_out (F:=[]) om (Out.of_below C) (fun _ _=>by simp);replace hW:=hW.trans (C.mono hW.size);clear C;have ah:=Bz.lt
   go_wp2
   refine ThenGo.to ⟨⟨⟨_,hW⟩,rfl⟩,?_⟩;generalize am:x1.heap.size=g at*;generalize x1.alloc (.cells #[G none 0 0,G none 0 0,G none 0 0,G none 0 0,G none 0 0] 29)=y1 at*;clear am
  rotate_left
  focus
   skip;refine z00 9 _ rfl ?_;have Bz:=Blk.new wd 29 #[G none 0 0,G none 0 0,G none 0 0,G none 0 0,G none 0 0];have aD:X.heap.size≤wd.heap.size:=hW.size;have C:Below wd.heap.size wd (wd.alloc (.cells #[G none 0 0,G none 0 0,G none 0 0,G none 0 0,G none 0 0] 29)):=by go_grown
   replace hW:=hW.trans (C.mono hW.size);clear C;have ah:=Bz.lt
   go_wp2
   refine ThenGo.to ⟨⟨⟨_,hW⟩,rfl⟩,?_⟩;generalize an:wd.heap.size=g at*;generalize wd.alloc (.cells #[G none 0 0,G none 0 0,G none 0 0,G none 0 0,G none 0 0] 29)=y2 at*;clear an;refine cla 8 (some 42) 122 #[G p0 pd.length p5,G p2 pt.length p7] 1 (by kernel_rfl) ?_;refine(ae _ hW).mono ?_;rintro e x2 ⟨m,rfl,em,om,nm,gm,hb⟩;clear nm;have ag:∀k∈repK.foot m,k≠g:=fun k hk=>by have:=gm k hk;have:=Bz.lt;omega
   replace Bz:=Bz.below hb;replace hW:=hW.trans (hb.mono hW.size);clear hb gm;refine⟨_,rfl,⟨⟨_,hW⟩,rfl⟩,?_⟩;simp only[i,pgE,pjE]
  rotate_left
  all_goals
   obtain⟨aF,md,aE,mb,aH,mt,aI,mu,aG,mn⟩:=m;obtain⟨s0,t0,rfl⟩:∃a c,aF=G a md.length c:=om.1.shape;obtain⟨s1,t1,rfl⟩:∃a c,aE=G a mb.length c:=om.2.1.shape;obtain⟨s2,t2,rfl⟩:∃a c,aH=G a mt.length c:=om.2.2.1.shape;obtain⟨s3,t3,rfl⟩:∃a c,aI=G a mu.length c:=om.2.2.2.1.shape;obtain⟨s4,t4,rfl⟩:∃a c,aG=G a mn.length c:=om.2.2.2.2.shape;refine ona 10 0 rfl (by kernel_rfl) ?_;have au:X.heap.size≤g:=by omega
   have Rz:=Bz.row #[G s0 md.length t0,G s1 mb.length t1,G s2 mt.length t2,G s3 mu.length t3,G s4 mn.length t4];have oz:=repK.own_out om (z0L _ g #[G s0 md.length t0,G s1 mb.length t1,G s2 mt.length t2,G s3 mu.length t3,G s4 mn.length t4]) (fun k hk=>by simp only[List.mem_singleton];exact ag k hk);replace hW:=z0j hW au #[G s0 md.length t0,G s1 mb.length t1,G s2 mt.length t2,G s3 mu.length t3,G s4 mn.length t4];refine z0s (by kernel_rfl) 29 _ _ rfl _ #[G s0 md.length t0,G s1 mb.length t1,G s2 mt.length t2,G s3 mu.length t3,G s4 mn.length t4] rfl rfl 29 _ Bz q3a rfl (by simp[Value.oneCell']) ?_;refine ThenGo.to ⟨⟨⟨_,hW⟩,rfl⟩,?_⟩;refine z0e (by kernel_rfl) ?_;refine⟨rfl,_,⟨_,g,rfl,au,Rz,em,oz,hW⟩,?_⟩;simp only[z1a,i,pgE,pjE];try rfl
 rintro vs w5 ⟨m,g,rfl,aR,Bg,em,om,M⟩;simp only[z1a,i,pjE];clear f0 f2 ae;have aj:∀t∈pd.map H,t.F=0:=fun t ht=>by obtain⟨q,hq,rfl⟩:=List.mem_map.1 ht;exact ai q hq
 have al:∀t∈pt.map H,t.F=0:=fun t ht=>by obtain⟨q,hq,rfl⟩:=List.mem_map.1 ht;exact ak q hq
 have O:=q3r T U g b m (⟨G p0 pd.length p5,pd,G p1 pb.length p6,pb,G p2 pt.length p7,pt,G p3 pu.length p8,pu,G p4 pn.length p9,pn⟩:RepQ) w5 Bg (J.below M) (repK.own_rd om) (repK.rd_below N M) (by have:=z7I em aj al (by rw[j];omega) (by rw[j];omega);omega) (by dsimp only[RepQ.n];omega);rw[em]at O;dsimp only[RepQ.e]at O;have E:=aa.trans (M.mono aa.size);clear om Bg J N em M aa
 go_wp2_with fail
 refine O.mono ?_;rintro e w6 ⟨rfl,ao⟩;replace E:=E.trans (ao.mono E.size);clear ao O
 cases hS:sameRep (mkR (pd.map H) (pt.map H)) ⟨pd.map H,pb,pt.map H,pu.map USQ.e,pn⟩with
 |false=>
  have h9:CC=(if sameRep (mkR (pd.map H) (pt.map H)) ⟨pd.map H,pb,pt.map H,pu.map USQ.e,pn⟩=true then 0 else 8):=HC.out;have y:Hid (CC=8):=show CC=8 by simpa[hS]using h9
  clear h9;clear HC
  go_wp2
  go_ret;exact⟨by first|(rw[y.out];done)|(rw[y.out];rfl)|(simp[y.out]),E⟩
 |true=>
  have h9:CC=(if sameRep (mkR (pd.map H) (pt.map H)) ⟨pd.map H,pb,pt.map H,pu.map USQ.e,pn⟩=true then 0 else 8):=HC.out;have y:Hid (CC=0):=show CC=0 by simpa[hS]using h9
  clear h9;clear HC
  go_wp2
  go_ret;exact⟨by first|(rw[y.out];done)|(rw[y.out];rfl)|(simp[y.out]),E⟩
theorem z4o(v:Value)(ps:List InstQ)(kn sf:Int)(p:RepQ)(w:World)(hG:Rul w)(hE:ErrT w)(h:instK.At w v ps)(Z:z1L v)(hl:(ps.length+nmL InstQ.n ps)≤1048576)(hp:repK.rd w p)(nd:z15 p.vd)(nt:z15 p.vt)(ab:p.n≤1048576):
  Calls Tryz.prog 17 #[v,.agg #[R Q kn,R Q sf,p.vd,p.vb,p.vt,p.vu,p.vn]] w fun e w'=>e=.returned (R Q (nodF (ps.map B) kn sf p.e))∧Below w.heap.size w w':=by
 have aa:=fun w hG h=>z1x v ps w hG h hl
 have I:=fun w hG h=>z10 v ps kn w hG h Z hl
 have L:=fun w hE h=>z3f p w hE h nd nt ab
 have ad:p.done.length+nmL P p.done≤1048576:=by
  have:p.done.length+nmL P p.done≤p.n:=by simp only[RepQ.n];omega
  omega
 have z:=fun v' (ys:List TxnQ) w h h' (hq:ys.map H=dfT (ps.map B) kn)=>q4p p.vd v' p.done ys w h h' ad (q5C hq hl)
 have y:=fun(w':World) hb=>repK.rd_below (w':=w') hp hb
 have d:=z7O (ps.map B) kn sf p.e;have J:=z7w (ps.map B) kn;have ae:p.e.done=p.done.map H:=rfl;rw[ae]at d;have X:Hid (ordF (ps.map B)=0→diV (ps.map B)=(decN (ps.map B):Int)):=fun h0=>by unfold diV;rw[if_pos h0]
 generalize nodF (ps.map B) kn sf p.e=D at*;generalize dfT (ps.map B) kn=DT at*;generalize dfC (ps.map B) kn=DC at*;generalize defL (ps.map B) kn.toNat=DL at*;generalize ordF (ps.map B)=C at*;generalize diV (ps.map B)=VV at*;generalize (decN (ps.map B):Int)=M at*;generalize repF p.e=RF at*;clear ae;obtain⟨vd,done,vb,base,vt,E,vu,x,vn,U⟩:=p;obtain⟨a0,k0,rfl⟩:∃a c,vd=G a done.length c:=hp.1.shape;obtain⟨a1,k1,rfl⟩:∃a c,vb=G a base.length c:=hp.2.1.shape;obtain⟨a2,k2,rfl⟩:∃a c,vt=G a E.length c:=hp.2.2.1.shape;obtain⟨a3,k3,rfl⟩:∃a c,vu=G a x.length c:=hp.2.2.2.1.shape;obtain⟨a4,k4,rfl⟩:∃a c,vn=G a U.length c:=hp.2.2.2.2.shape;obtain⟨va,vc,rfl⟩:=h.shape;dsimp only at L z y d;clear nd nt ab ad;have b0:Below w.heap.size w (w.alloc (.cells #[R Q kn,R Q sf,G a0 done.length k0,G a1 base.length k1,G a2 E.length k2,G a3 x.length k3,G a4 U.length k4] 31)):=by go_grown
 have A0:=Blk.new w 31 #[R Q kn,R Q sf,G a0 done.length k0,G a1 base.length k1,G a2 E.length k2,G a3 x.length k3,G a4 U.length k4];go_enter func17,ntmps17
 go_wp2_with fail
 generalize w.alloc (.cells #[R Q kn,R Q sf,G a0 done.length k0,G a1 base.length k1,G a2 E.length k2,G a3 x.length k3,G a4 U.length k4] 31)=W at*;refine(aa W (hG.below b0) (h.below b0)).mono ?_;rintro e w1 ⟨rfl,hb⟩;replace A0:=A0.below hb;replace b0:=b0.trans (hb.mono b0.size);clear hb aa;have S0:=Blk.new w1 53 #[R Q C,R Q VV];have hb:Below w1.heap.size w1 (w1.alloc (.cells #[R Q C,R Q VV] 53)):=by go_grown
 have A1:=A0.below hb;have b1:=b0.trans (hb.mono b0.size);by_cases hC:C=0
 case neg=>
  have aj:(C !=0)=true:=by simpa using hC
  have HD:Hid (D=C):=by
   rcases d with⟨_,e⟩|⟨h0,_⟩|⟨h0,_⟩|⟨h0,_⟩|⟨h0,_⟩|⟨h0,_⟩
   ·exact e
   all_goals exact absurd h0 hC
  clear d J X I L z y hC;obtain⟨q0,q1⟩:=S0.cel2
  go_wp2
  go_ret;exact⟨by first|(rw[HD.out];done)|(rw[HD.out];rfl),b1⟩
 have hV:=(X.out hC).symm;subst hC;subst hV;clear X;have aj:((0:Int) !=0)=false:=by decide
 obtain⟨q0,q1⟩:=S0.cel2;obtain⟨p0,p1,p2,p3,p4,p5,p6⟩:=A1.cel7
 go_wp2_with fail
 clear q0 q1;generalize w1.alloc (.cells #[R Q 0,R Q M] 53)=W1 at*;have O:=z0I kn 0 M W1;by_cases hk:0≤kn∧kn≤M
 case neg=>
  have HD:Hid (D=3):=by
   rcases d with⟨h0,_⟩|⟨_,_,e⟩|⟨_,h0,_⟩|⟨_,h0,_⟩|⟨_,h0,_⟩|⟨_,h0,_⟩
   ·exact absurd rfl h0
   ·exact e
   all_goals exact absurd h0 hk
  have hz:inW kn 0 M=false:=by unfold inW;simp only[Bool.and_eq_false_iff,decide_eq_false_iff_not];omega
  rw[hz]at O;clear d J I L z y hk hz;refine O.mono ?_;rintro e w2 ⟨rfl,rfl⟩
  go_wp2
  go_ret;exact⟨by first|(rw[HD.out];done)|(rw[HD.out];rfl),b1⟩
 have hz:inW kn 0 M=true:=by unfold inW;simp only[Bool.and_eq_true,decide_eq_true_eq];exact hk
 rw[hz]at O;refine O.mono ?_;rintro e w2 ⟨rfl,A⟩;replace A:=A.symm;subst A;clear O hz;have T:=z0I sf 0 kn W1
 go_wp2_with fail
 by_cases hs:0≤sf∧sf≤kn
 case neg=>
  have HD:Hid (D=3):=by
   rcases d with⟨h0,_⟩|⟨_,h0,_⟩|⟨_,_,_,e⟩|⟨_,_,h0,_⟩|⟨_,_,h0,_⟩|⟨_,_,h0,_⟩
   ·exact absurd rfl h0
   ·exact absurd hk h0
   ·exact e
   all_goals exact absurd h0 hs
  have hz:inW sf 0 kn=false:=by unfold inW;simp only[Bool.and_eq_false_iff,decide_eq_false_iff_not];omega
  rw[hz]at T;clear d J I L z y hk hz hs;refine T.mono ?_;rintro e w2 ⟨rfl,rfl⟩
  go_wp2
  go_ret;exact⟨by first|(rw[HD.out];done)|(rw[HD.out];rfl),b1⟩
 have hz:inW sf 0 kn=true:=by unfold inW;simp only[Bool.and_eq_true,decide_eq_true_eq];exact hs
 rw[hz]at T;refine T.mono ?_;rintro e w2 ⟨rfl,A⟩;replace A:=A.symm;subst A;clear T hz
 go_wp2_with fail
 clear p0 p1 p2 p3 p4 p5 p6;refine(L W1 (hE.below b1) (y W1 b1)).mono ?_;rintro e w3 ⟨rfl,V⟩;replace A1:=A1.below V;replace b1:=b1.trans (V.mono b1.size);clear V L hb S0 A0;by_cases hR:RF=0
 case neg=>
  have Y:(RF !=0)=true:=by simpa using hR
  have HD:Hid (D=RF):=by
   rcases d with⟨h0,_⟩|⟨_,h0,_⟩|⟨_,_,h0,_⟩|⟨_,_,_,_,e⟩|⟨_,_,_,h0,_⟩|⟨_,_,_,h0,_⟩
   ·exact absurd rfl h0
   ·exact absurd hk h0
   ·exact absurd hs h0
   ·exact e
   all_goals exact absurd h0 hR
  clear d J I z y hk hs hR
  go_wp2
  go_ret;exact⟨by first|(rw[HD.out];done)|(rw[HD.out];rfl),b1⟩
 subst hR;have Y:((0:Int) !=0)=false:=by decide
 have hT:DT=DL:=by
  rcases J with⟨h0,_⟩|⟨_,h0,_⟩|⟨_,_,_,e⟩
  ·exact absurd rfl h0
  ·exact absurd hk h0
  ·exact e
 subst hT;have HW:Hid ((sameTs (done.map H) DT=false∧D=8)∨(sameTs (done.map H) DT=true∧D=0)):=by
  rcases d with⟨h0,_⟩|⟨_,h0,_⟩|⟨_,_,h0,_⟩|⟨_,_,_,h0,_⟩|⟨_,_,_,_,e1,e2⟩|⟨_,_,_,_,e1,e2⟩
  ·exact absurd rfl h0
  ·exact absurd hk h0
  ·exact absurd hs h0
  ·exact absurd rfl h0
  ·exact Or.inl ⟨e1,e2⟩
  ·exact Or.inr ⟨e1,e2⟩
 clear d J hk hs;have af:Hid _:=I;have ai:Hid _:=z;have ah:Hid _:=y;have HH:Hid (instK.At w (G va ps.length vc) ps):=h;have ag:Hid (Rul w):=hG;clear I z y hE hl Z
 go_wp2_with fail
 clear Y;obtain⟨c0,c1,c2,c3,c4,c5,c6⟩:=A1.lts7;have hW:Below w3.heap.size w3 w3.drew:=(Below.refl _ _).drew;have ak:Nonempty (Lat w3):=⟨⟨w3,Below.refl _ _⟩⟩
 refine z0a (S:=fun w'=>∃u:Lat w3,w'=u.val) (by kernel_rfl) ?_;refine sgr [(0,6)] 4 (by kernel_rfl) ⟨⟨_,hW⟩,rfl⟩ ?_;simp only[pkE];repeat go_big_quiet_step (fail)
 refine wpQuiet_nil ?_;refine cla 6 (some 40) 32 #[G va ps.length vc,R Q kn] 3 (by kernel_rfl) ?_;refine(af.out _ (ag.out.below (b1.trans (hW.mono b1.size))) (HH.out.below (b1.trans (hW.mono b1.size)))).mono ?_;rintro e w9 ⟨vq,qs,rfl,eq,oq,_,_,N⟩;replace hW:=hW.trans (N.mono hW.size);obtain⟨xa,xc,rfl⟩:=oq.shape;clear N;refine⟨_,rfl,⟨⟨_,hW⟩,rfl⟩,?_⟩;simp only[i,pjE];refine qta 7 (some 41) (G xa qs.length xc) 2 (by kernel_rfl) (fun u _=>by kernel_rfl) ⟨⟨_,hW⟩,rfl⟩ ?_;simp only[i,pjE];refine cla 8 (some 42) 18 #[G a0 done.length k0,G xa qs.length xc] 1 (by kernel_rfl) ?_;refine(ai.out _ qs _ ((ah.out _ (b1.trans (hW.mono b1.size))).1) oq.at eq).mono ?_;rintro e w9 ⟨rfl,N⟩;replace hW:=hW.trans (N.mono hW.size);clear N;refine⟨_,rfl,⟨⟨_,hW⟩,rfl⟩,?_⟩;simp only[i,pjE];refine sgr [(9,1)] 0 (by kernel_rfl) ⟨⟨_,hW⟩,rfl⟩ ?_;simp only[pkE];repeat go_big_quiet_step (fail)
 refine wpQuiet_nil ?_;refine z0e (by kernel_rfl) ?_;have b2:=b1.trans (hW.mono b1.size);clear c0 c1 c2 c3 c4 c5 c6;clear oq hW ak;rcases HW.out with⟨e1,e2⟩|⟨e1,e2⟩
 ·rw[eq,e1];clear HW
  go_wp2
  go_ret;exact⟨by first|(rw[e2];done)|(rw[e2];rfl),b2⟩
 ·rw[eq,e1];clear HW
  go_wp2
  go_ret;exact⟨by first|(rw[e2];done)|(rw[e2];rfl),b2⟩
end Go.Proofs.YtlkpdgjnhkjpjaaGreatDoor
