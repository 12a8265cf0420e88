/- Texts joined,with what the laws reach alone. -/
import Derived.Test.YtlkpdgjnhkjpjaaGreatDoorSCBE
import Derived.Test.YtlkpdgjnhkjpjaaGreatDoorSCAS
set_option linter.unusedVariables false
set_option linter.unusedSimpArgs false
set_option maxRecDepth 100000
set_option maxHeartbeats 16000000
namespace Go.Proofs.YtlkpdgjnhkjpjaaGreatDoor
open Go.RowKit Go.BigFrame
def q3W:RepQ:=⟨.slice none 0 0,[],.slice none 0 0,[],.slice none 0 0,[],.slice none 0 0,[],.slice none 0 0,[]⟩
theorem z4X(w:World):repK.own w q3W∧repK.foot q3W=[]:=by
 refine⟨⟨(Kind.own_nil w).1,(Kind.own_nil w).1,(Kind.own_nil w).1,(Kind.own_nil w).1,(Kind.own_nil w).1⟩,?_⟩;show txnK.fp (.slice none 0 0) []++(itemK.fp (.slice none 0 0) []++(txnK.fp (.slice none 0 0) []++(ussK.fp (.slice none 0 0) []++itemK.fp (.slice none 0 0) [])))=[]
 rw[(Kind.own_nil (K:=txnK) w).2,(Kind.own_nil (K:=itemK) w).2,(Kind.own_nil (K:=ussK) w).2];rfl
theorem RecPost.row{w w':World}{vN iN vU iU:Value}{D E:List TxnD}(h:RecPost w w' vN iN vU iU D E){g:Nat}(hg:g<w.heap.size)(cs:Array Value):RecPost w (w'.setRow g cs) vN iN vU iU D E:=by
 obtain⟨ds,us,rb,B0,R,e1,e2,h1,h2⟩:=h;have hO:=z1F w' g cs;have nF:∀ {k},B0≤k→k∉[g]:=fun hk hm=>by simp only[List.mem_singleton]at hm;omega
 have hrb:rb∉[g]:=fun hm=>by simp only[List.mem_singleton]at hm;omega
 exact⟨ds,us,rb,B0,⟨(hO.block rb R.B.lt hrb).trans R.B,z0R R.oN hO (fun k hk=>nF (R.lN k hk)),R.aN,z0R R.oU hO (fun k hk=>nF (R.lU k hk)),fun p hp=>⟨(R.aU p hp).1,(R.aU p hp).2.out hO (fun k hk=>by rw[z0E]at hk;exact nF (R.d3 p hp k hk).1)⟩,R.jN.out hO (fun k hk=>by rw[z0l]at hk;exact nF (R.d1 k hk).1),R.jU.out hO (fun k hk=>by rw[z0l]at hk;exact nF (R.d2 k hk).1),R.nu,R.lN,R.lU,R.d1,R.d2,R.d3⟩,e1,e2,h1,h2⟩
theorem z3Q{α:Type}{f:α→α→Bool}{g:List α→List α→Bool}(h1:∀x r y s,g (x::r) (y::s)=(f x y && g r s))(h2:∀x r,g (x::r) []=false)(h3:∀y s,g [] (y::s)=false)(hf:∀x y,f x y=true→x=y):∀xs ys,g xs ys=true→xs=ys
 |[],[],_=>rfl
 |[],y::s,h=>by rw[h3]at h;cases h
 |x::r,[],h=>by rw[h2]at h;cases h
 |x::r,y::s,h=>by
  rw[h1,Bool.and_eq_true]at h;rw[hf x y h.1,z3Q h1 h2 h3 hf r s h.2]
theorem q0W (xs ys:List ActD) (h:sameAs xs ys=true):xs=ys:=z3Q (f:=z1H) (fun _ _ _ _=>rfl) (fun _ _=>rfl) (fun _ _=>rfl) (fun x y h=>by
 obtain⟨x0,x1,x2⟩:=x;obtain⟨y0,y1,y2⟩:=y;simp[z1H]at h;rw [h.1,h.2.1,h.2.2]) xs ys h
theorem z6A (xs ys:List TxnD) (h:sameTs xs ys=true):xs=ys:=z3Q (f:=z1j) (fun _ _ _ _=>rfl) (fun _ _=>rfl) (fun _ _=>rfl) (fun x y h=>by
 obtain⟨x0,x1,x2,x3⟩:=x;obtain⟨y0,y1,y2,y3⟩:=y;simp only[z1j,Bool.and_eq_true,beq_iff_eq]at h;rw [h.1.1.1,h.1.1.2,h.1.2,q0W _ _ h.2]) xs ys h
theorem q0X (xs ys:List UndoD) (h:sameUs xs ys=true):xs=ys:=z3Q (f:=z1S) (fun _ _ _ _=>rfl) (fun _ _=>rfl) (fun _ _=>rfl) (fun x y h=>by
 obtain⟨x0,x1,x2⟩:=x;obtain⟨y0,y1,y2⟩:=y;simp[z1S]at h;rw [h.1,h.2.1,h.2.2]) xs ys h
theorem z9v(xs ys:List (List UndoD))(h:sameUss xs ys=true):xs=ys:=z3Q (f:=sameUs) (fun _ _ _ _=>rfl) (fun _ _=>rfl) (fun _ _=>rfl) (fun x y h=>q0X x y h) xs ys h
theorem q0Y{x y:RepE}(h:sameRep x y=true):x=y:=by
 obtain⟨x0,x1,x2,x3,x4⟩:=x;obtain⟨y0,y1,y2,y3,y4⟩:=y;simp only[sameRep,Bool.and_eq_true]at h;rw[z6A _ _ h.1,z8e h.2.1,z6A _ _ h.2.2.1,z9v _ _ h.2.2.2.1,z8e h.2.2.2.2]
theorem q4X{r:RepE}(h:repF r=0):r=mkR r.done r.tent:=(q0Y (z90 h).2.2).symm
theorem q3v{x y:ActD}(h:z1H x y=true):x=y:=by
 obtain⟨a,b,c⟩:=x;obtain⟨a',b',c'⟩:=y;simp only[z1H,Bool.and_eq_true,beq_iff_eq]at h;obtain⟨rfl,rfl,rfl⟩:=h;rfl
theorem z8F:∀ {x y:List ActD},sameAs x y=true→x=y
 |[],[],_=>rfl
 |[],_::_,h=>by simp[sameAs]at h
 |_::_,[],h=>by simp[sameAs]at h
 |a::r,b::s,h=>by
  simp only[sameAs,Bool.and_eq_true]at h;rw[q3v h.1,z8F h.2]
theorem q3w{x y:TxnD}(h:z1j x y=true):x=y:=by
 obtain⟨a,b,c,d⟩:=x;obtain⟨a',b',c',d'⟩:=y;simp only[z1j,Bool.and_eq_true,beq_iff_eq]at h;obtain⟨⟨⟨rfl,rfl⟩,rfl⟩,h4⟩:=h;rw[z8F h4]
theorem q2C{r:RepE}(h:repF r=0):r.base=allI [] r.done∧r.now=allI r.base r.tent∧r.undos=z6d r.base r.tent∧(∀t∈r.done,t.F=0)∧(∀t∈r.tent,t.F=0)∧r.base.length≤8∧Good r.base∧r.now.length≤8∧Good r.now∧r.done.length≤16∧r.tent.length≤8:=by
 have e:=q4X h;obtain⟨⟨l1,l2⟩,l3,_⟩:=z90 h;have hF:=q4V l3;have hD:∀t∈r.done,t.F=0:=fun t ht=>hF t (List.mem_append_left _ ht)
 have hE:∀t∈r.tent,t.F=0:=fun t ht=>hF t (List.mem_append_right _ ht)
 have e1:r.base=allI [] r.done:=congrArg RepE.base e;have e2:r.now=allI (allI [] r.done) r.tent:=congrArg RepE.now e;have e3:r.undos=z6d (allI [] r.done) r.tent:=congrArg RepE.undos e;have g:=z1l (xs:=[]) (by simp) z3O hD;have g2:=z1l g.1 g.2 hE;refine⟨e1,by rw[e1];exact e2,by rw[e1];exact e3,hD,hE,by rw[e1];exact g.1,by rw[e1];exact g.2,by rw[e2];exact g2.1,by rw[e2];exact g2.2,l1,l2⟩
def nodF(ds:List InstE)(kn sf:Int)(r:RepE):Int:=
 if ordF ds=0 then(if(0≤kn∧kn≤(decN ds:Int))∧0≤sf∧sf≤kn then(if repF r=0 then(if sameTs r.done (defL ds kn.toNat)=true then 0 else 8)else repF r)else 3)else ordF ds
theorem z7x(ds:List InstE)(kn sf:Int)(r:RepE):(ordF ds≠0∧nodF ds kn sf r=ordF ds)∨(ordF ds=0∧¬(0≤kn∧kn≤(decN ds:Int))∧nodF ds kn sf r=3)∨
  (ordF ds=0∧(0≤kn∧kn≤(decN ds:Int))∧¬(0≤sf∧sf≤kn)∧nodF ds kn sf r=3)∨(ordF ds=0∧(0≤kn∧kn≤(decN ds:Int))∧(0≤sf∧sf≤kn)∧repF r≠0∧nodF ds kn sf r=repF r)∨
  (ordF ds=0∧(0≤kn∧kn≤(decN ds:Int))∧(0≤sf∧sf≤kn)∧repF r=0∧sameTs r.done (defL ds kn.toNat)=false∧nodF ds kn sf r=8)∨
  (ordF ds=0∧(0≤kn∧kn≤(decN ds:Int))∧(0≤sf∧sf≤kn)∧repF r=0∧sameTs r.done (defL ds kn.toNat)=true∧nodF ds kn sf r=0):=by
 unfold nodF;by_cases h0:ordF ds=0
 ·by_cases h1:0≤kn∧kn≤(decN ds:Int)
  ·by_cases h2:0≤sf∧sf≤kn
   ·by_cases h3:repF r=0
    ·cases h4:sameTs r.done (defL ds kn.toNat)<;>simp[h0,h1,h2,h3]
    ·simp[h0,h1,h2,h3]
   ·have h12:¬((0≤kn∧kn≤(decN ds:Int))∧0≤sf∧sf≤kn):=fun h=>h2 h.2
    right;right;left;exact⟨h0,h1,h2,by rw[if_pos h0,if_neg h12]⟩
  ·have h12:¬((0≤kn∧kn≤(decN ds:Int))∧0≤sf∧sf≤kn):=fun h=>h1 h.1
   right;left;exact⟨h0,h1,by rw[if_pos h0,if_neg h12]⟩
 ·left;exact⟨h0,by rw[if_neg h0]⟩
theorem z5O:∀ {x y:List TxnD},sameTs x y=true→x=y
 |[],[],_=>rfl
 |[],y::s,h=>by simp[sameTs]at h
 |x::r,[],h=>by simp[sameTs]at h
 |x::r,y::s,h=>by
  simp only[sameTs,Bool.and_eq_true]at h;rw[q3w h.1,z5O h.2]
theorem z2U{ds:List InstE}{kn sf:Int}{r:RepE}(h:nodF ds kn sf r=0):ordF ds=0∧(0≤kn∧kn≤(decN ds:Int))∧(0≤sf∧sf≤kn)∧repF r=0∧r.done=defL ds kn.toNat:=by
 rcases z7x ds kn sf r with⟨h0,h1⟩|⟨_,_,h1⟩|⟨_,_,_,h1⟩|⟨_,_,_,h0,h1⟩|⟨_,_,_,_,_,h1⟩|⟨a,b,c,d,e,_⟩
 ·exact absurd (h1.symm.trans h) h0
 ·rw[h]at h1;exact absurd h1 (by decide)
 ·rw[h]at h1;exact absurd h1 (by decide)
 ·exact absurd (h1.symm.trans h) h0
 ·rw[h]at h1;exact absurd h1 (by decide)
 ·exact⟨a,b,c,d,z5O e⟩
theorem z9w{ds:List InstE}(h:ordF ds=0)(m:Nat):(defL ds m).length≤16:=by
 have h1:=z6Y (z3R (ds.take m)) [];have h2:=q13 (ds:=ds.take m) (fun x hx=>z2d h x (List.mem_of_mem_take hx));have h3:=((z2c ds).1 h).1.2;have h4:(ds.take m).length≤ds.length:=by rw[List.length_take];omega
 simp only[List.length_nil,Nat.zero_add]at h1;unfold defL;omega
theorem q3x(v v':Value)(xs ys:List TxnQ)(w:World)(h:txnK.At w v xs)(h':txnK.At w v' ys)(hl:xs.length+nmL TxnQ.n xs≤1048576)(hl':ys.length+nmL TxnQ.n ys≤1048576):
  Calls Tryz.prog 18 #[v,v'] w fun e w'=>e=.returned (.bool (sameTs (xs.map TxnQ.e) (ys.map TxnQ.e)))∧Below w.heap.size w w':=
 z1y v v' _ _ w (z0v h) (z0v h') (by rw[List.length_map,z07];omega) (by rw[List.length_map,z07];omega)
theorem q2D(v v':Value)(xs ys:List TxnQ)(w:World)(h:txnK.At w v xs)(h':txnK.At w v' ys)(hl:xs.length+nmL TxnQ.n xs≤1048576)(hl':ys.length+nmL TxnQ.n ys≤1048576):
  Calls Tryz.prog 110 #[v,v'] w fun e w'=>e=.returned (.bool (sameTs (xs.map TxnQ.e) (ys.map TxnQ.e)))∧Below w.heap.size w w':=
 z1z v v' _ _ w (z0v h) (z0v h') (by rw[List.length_map,z07];omega) (by rw[List.length_map,z07];omega)
theorem q4Y(v:Value)(ps:List InstQ)(w:World)(h:instK.At w v ps)(hl:(ps.length+nmL InstQ.n ps)≤1048576)(h0:ordF (ps.map InstQ.e)=0):
  Calls Tryz.prog 72 #[v] w fun e w'=>e=.returned (.int .i64 (decN (ps.map InstQ.e):Int))∧Below w.heap.size w w':=by
 have h1:=((z2c _).1 h0).1;rw[List.length_map]at h1;exact z66 v ps w h hl h1.1 h1.2
theorem q2E(v:Value)(ps:List InstQ)(n:Int)(w:World)(h:instK.At w v ps)(hl:(ps.length+nmL InstQ.n ps)≤1048576)(h0:ordF (ps.map InstQ.e)=0)(hn:0≤n∧n≤(decN (ps.map InstQ.e):Int)):
  Calls Tryz.prog 111 #[v,.int .i64 n] w fun e w'=>∃v' qs,e=.returned v'∧qs.map TxnQ.e=defL (ps.map InstQ.e) n.toNat∧txnK.Own w' v' qs∧(txnK.fp v' qs).Nodup∧(∀k∈txnK.fp v' qs,w.heap.size≤k)∧Below w.heap.size w w':=by
 have h1:=((z2c _).1 h0).1;have hm:=z2d h0;have hd:=z6X (ps.map InstQ.e);rw[List.length_map]at h1 hd;obtain⟨m,rfl⟩:∃m:Nat,n=(m:Int):=⟨n.toNat,by omega⟩
 rw[Int.toNat_natCast];exact z50 v ps m w h (fun q hq=>q4A (hm _ (List.mem_map.2 ⟨q,hq,rfl⟩))) (fun q hq=>q6c (hm _ (List.mem_map.2 ⟨q,hq,rfl⟩))) (by omega) h1.2 hl
theorem q2F(x y:Int)(b b':Nat)(p q:RepQ)(w:World)(hP:Blk w b 29 #[p.vd,p.vb,p.vt,p.vu,p.vn])(hQ:Blk w b' 31 #[.int .i64 x,.int .i64 y,q.vd,q.vb,q.vt,q.vu,q.vn])(h:repK.rd w p)(h':repK.rd w q)(hl:p.n≤1048576)(z:q.n≤1048576):
  Calls Tryz.prog 171 #[.pointer (some ⟨b,0,none⟩),.pointer (some ⟨b',2,none⟩)] w fun e w'=>e=.returned (.bool (sameRep p.e q.e))∧Below w.heap.size w w':=by
 obtain⟨C,pd,A,pb,J,pt,L,pu,I,pn⟩:=p;obtain⟨p0,p5,rfl⟩:∃a c,C=.slice a pd.length c:=h.1.shape;obtain⟨p1,p6,rfl⟩:∃a c,A=.slice a pb.length c:=h.2.1.shape;obtain⟨p2,p7,rfl⟩:∃a c,J=.slice a pt.length c:=h.2.2.1.shape;obtain⟨p3,p8,rfl⟩:∃a c,L=.slice a pu.length c:=h.2.2.2.1.shape;obtain⟨p4,p9,rfl⟩:∃a c,I=.slice a pn.length c:=h.2.2.2.2.shape;obtain⟨N,qd,M,qb,T,qt,U,qu,O,qn⟩:=q;obtain⟨q0,q5,rfl⟩:∃a c,N=.slice a qd.length c:=h'.1.shape;obtain⟨q1,q6,rfl⟩:∃a c,M=.slice a qb.length c:=h'.2.1.shape;obtain⟨q2,q7,rfl⟩:∃a c,T=.slice a qt.length c:=h'.2.2.1.shape;obtain⟨q3,q8,rfl⟩:∃a c,U=.slice a qu.length c:=h'.2.2.2.1.shape;obtain⟨q4,q9,rfl⟩:∃a c,O=.slice a qn.length c:=h'.2.2.2.2.shape;dsimp only[RepQ.n]at hl z;have c0:=fun w h h'=>z1z (.slice p0 pd.length p5) (.slice q0 qd.length q5) (pd.map TxnQ.e) (qd.map TxnQ.e) w (z0v h) (z0v h') (by rw[List.length_map,z07];omega) (by rw[List.length_map,z07];omega)
 have c1:=fun w h h'=>z1W p1 q1 p6 q6 pb qb w h h' (by omega) (by omega)
 have c2:=fun w h h'=>z1z (.slice p2 pt.length p7) (.slice q2 qt.length q7) (pt.map TxnQ.e) (qt.map TxnQ.e) w (z0v h) (z0v h') (by rw[List.length_map,z07];omega) (by rw[List.length_map,z07];omega)
 have c3:=fun w h h'=>z5t (.slice p3 pu.length p8) (.slice q3 qu.length q8) pu qu w h h' (by omega) (by omega)
 have c4:=fun w h h'=>z1W p4 q4 p9 q9 pn qn w h h' (by omega) (by omega)
 obtain⟨r0,r1,r2,r3,r4⟩:txnK.At w (.slice p0 pd.length p5) pd∧itemK.At w (.slice p1 pb.length p6) pb∧txnK.At w (.slice p2 pt.length p7) pt∧ussK.At w (.slice p3 pu.length p8) pu∧itemK.At w (.slice p4 pn.length p9) pn:=h;obtain⟨s0,s1,s2,s3,s4⟩:txnK.At w (.slice q0 qd.length q5) qd∧itemK.At w (.slice q1 qb.length q6) qb∧txnK.At w (.slice q2 qt.length q7) qt∧ussK.At w (.slice q3 qu.length q8) qu∧itemK.At w (.slice q4 qn.length q9) qn:=h';replace r1:=(z0Z r1).2;replace r4:=(z0Z r4).2;replace s1:=(z0Z s1).2;replace s4:=(z0Z s4).2;have E:Hid (sameRep ⟨pd.map TxnQ.e,pb,pt.map TxnQ.e,pu.map USQ.e,pn⟩ ⟨qd.map TxnQ.e,qb,qt.map TxnQ.e,qu.map USQ.e,qn⟩=(sameTs (pd.map TxnQ.e) (qd.map TxnQ.e) && (sameIs pb qb && (sameTs (pt.map TxnQ.e) (qt.map TxnQ.e) && (sameUss (pu.map USQ.e) (qu.map USQ.e) && sameIs pn qn))))):=show _=_ from rfl
 dsimp only[RepQ.e];generalize sameTs (pd.map TxnQ.e) (qd.map TxnQ.e)=X0 at*;generalize sameIs pb qb=X1 at*;generalize sameTs (pt.map TxnQ.e) (qt.map TxnQ.e)=X2 at*;generalize sameUss (pu.map USQ.e) (qu.map USQ.e)=X3 at*;generalize sameIs pn qn=X4 at*;generalize sameRep ⟨pd.map TxnQ.e,pb,pt.map TxnQ.e,pu.map USQ.e,pn⟩ ⟨qd.map TxnQ.e,qb,qt.map TxnQ.e,qu.map USQ.e,qn⟩=S at*;have f0:=hP.lat 0 _ rfl;have g0:=hQ.lat 2 _ rfl;have f1:=hP.lat 1 _ rfl;have g1:=hQ.lat 3 _ rfl;have f2:=hP.lat 2 _ rfl;have g2:=hQ.lat 4 _ rfl;have f3:=hP.lat 3 _ rfl;have g3:=hQ.lat 5 _ rfl;have f4:=hP.lat 4 _ rfl;have g4:=hQ.lat 6 _ rfl;have hW:Below w.heap.size w w.drew:=(Below.refl _ _).drew;have V:Nonempty (Lat w):=⟨⟨w,Below.refl _ _⟩⟩
 go_enter Tryz.func171,Tryz.ntmps171
 go_wp2_with fail
 refine z0e (S:=fun w'=>∃u:Lat w,w'=u.val) (by kernel_rfl) ?_;refine sgr [(0,8)] 46 (by kernel_rfl) ⟨⟨_,hW⟩,rfl⟩ ?_;simp only[pkE];repeat go_big_quiet_step (fail)
 refine wpQuiet_nil ?_;refine cla 8 (some 13) 110 #[.slice p0 pd.length p5,.slice q0 qd.length q5] 45 (by kernel_rfl) ?_;refine(c0 _ (r0.below hW) (s0.below hW)).mono ?_;rintro e w9 ⟨rfl,d⟩;replace hW:=hW.trans (d.mono hW.size);clear d;refine⟨_,rfl,⟨⟨_,hW⟩,rfl⟩,?_⟩;simp only[Act.put,pjE]
 cases X0
 all_goals
  refine sgr [(9,9)] 36 (by kernel_rfl) ⟨⟨_,hW⟩,rfl⟩ ?_;simp only[pkE];repeat go_big_quiet_step (fail)
  refine wpQuiet_nil ?_
 focus
  refine ska 18 (some 23) 35 (by kernel_rfl) ⟨⟨_,hW⟩,rfl⟩ ?_;simp only[Act.put,pjE]
 rotate_left
 focus
  refine cla 18 (some 23) 110 #[.slice p2 pt.length p7,.slice q2 qt.length q7] 35 (by kernel_rfl) ?_;refine(c2 _ (r2.below hW) (s2.below hW)).mono ?_;rintro e w9 ⟨rfl,d⟩;replace hW:=hW.trans (d.mono hW.size);clear d;refine⟨_,rfl,⟨⟨_,hW⟩,rfl⟩,?_⟩;simp only[Act.put,pjE]
  cases X2
 rotate_right
 all_goals
  refine sgr [(19,10)] 25 (by kernel_rfl) ⟨⟨_,hW⟩,rfl⟩ ?_;simp only[pkE];repeat go_big_quiet_step (fail)
  refine wpQuiet_nil ?_
 iterate 2
  focus
   refine ska 29 (some 34) 24 (by kernel_rfl) ⟨⟨_,hW⟩,rfl⟩ ?_;simp only[Act.put,pjE]
  rotate_left
 focus
  refine cla 29 (some 34) 226 #[.slice p1 pb.length p6,.slice q1 qb.length q6] 24 (by kernel_rfl) ?_;refine(c1 _ (r1.below hW) (s1.below hW)).mono ?_;rintro e w9 ⟨rfl,d⟩;replace hW:=hW.trans (d.mono hW.size);clear d;refine⟨_,rfl,⟨⟨_,hW⟩,rfl⟩,?_⟩;simp only[Act.put,pjE]
  cases X1
 rotate_right 2
 all_goals
  refine sgr [(30,10)] 14 (by kernel_rfl) ⟨⟨_,hW⟩,rfl⟩ ?_;simp only[pkE];repeat go_big_quiet_step (fail)
  refine wpQuiet_nil ?_
 iterate 3
  focus
   refine ska 40 (some 45) 13 (by kernel_rfl) ⟨⟨_,hW⟩,rfl⟩ ?_;simp only[Act.put,pjE]
  rotate_left
 focus
  refine cla 40 (some 45) 226 #[.slice p4 pn.length p9,.slice q4 qn.length q9] 13 (by kernel_rfl) ?_;refine(c4 _ (r4.below hW) (s4.below hW)).mono ?_;rintro e w9 ⟨rfl,d⟩;replace hW:=hW.trans (d.mono hW.size);clear d;refine⟨_,rfl,⟨⟨_,hW⟩,rfl⟩,?_⟩;simp only[Act.put,pjE]
  cases X4
 rotate_right 3
 all_goals
  refine sgr [(41,10)] 3 (by kernel_rfl) ⟨⟨_,hW⟩,rfl⟩ ?_;simp only[pkE];repeat go_big_quiet_step (fail)
  refine wpQuiet_nil ?_
 iterate 4
  focus
   refine ska 51 (some 56) 2 (by kernel_rfl) ⟨⟨_,hW⟩,rfl⟩ ?_;simp only[Act.put,pjE]
  rotate_left
 focus
  refine cla 51 (some 56) 227 #[.slice p3 pu.length p8,.slice q3 qu.length q8] 2 (by kernel_rfl) ?_;refine(c3 _ (r3.below hW) (s3.below hW)).mono ?_;rintro e w9 ⟨rfl,d⟩;replace hW:=hW.trans (d.mono hW.size);clear d;refine⟨_,rfl,⟨⟨_,hW⟩,rfl⟩,?_⟩;simp only[Act.put,pjE]
 rotate_right 4
 all_goals
  refine sgr [(52,2)] 0 (by kernel_rfl) ⟨⟨_,hW⟩,rfl⟩ ?_;simp only[pkE];repeat go_big_quiet_step (fail)
  refine wpQuiet_nil ?_
 all_goals
  refine z0i (by kernel_rfl) ?_
  go_wp2
  go_ret;exact⟨by rw[E.out];simp,hW⟩
theorem q2G(V W:Int)(b:Nat)(p:RepQ)(w:World)(hB:Blk w b 31 #[.int .i64 V,.int .i64 W,p.vd,p.vb,p.vt,p.vu,p.vn])(h:repK.own w p)(hl:p.n≤1048576):
  Calls Tryz.prog 109 #[.pointer (some ⟨b,2,none⟩)] w fun e w'=>e=.returned (.int .i64 (repF p.e))∧Below w.heap.size w w':=by
 obtain⟨aM,pd,aL,pb,aO,pt,aP,pu,aN,pn⟩:=p;obtain⟨p0,p5,rfl⟩:∃a c,aM=.slice a pd.length c:=h.1.shape;obtain⟨p1,p6,rfl⟩:∃a c,aL=.slice a pb.length c:=h.2.1.shape;obtain⟨p2,p7,rfl⟩:∃a c,aO=.slice a pt.length c:=h.2.2.1.shape;obtain⟨p3,p8,rfl⟩:∃a c,aP=.slice a pu.length c:=h.2.2.2.1.shape;obtain⟨p4,p9,rfl⟩:∃a c,aN=.slice a pn.length c:=h.2.2.2.2.shape;dsimp only[RepQ.n]at hl;have h0:=repK.own_rd h;have Y:∀q∈pd,z8D q:=fun q hq=>z91 (h.1.2 q hq)
 have Z:∀q∈pt,z8D q:=fun q hq=>z91 (h.2.2.1.2 q hq)
 have nd:=h.1.niceV;have nt:=h.2.2.1.niceV;have hr:=fun(w':World) hb=>repK.rd_below (w':=w') h0 hb
 have aV:(pd.length:Int)≤1048576:=by omega
 have aW:(pt.length:Int)≤1048576:=by omega
 have q0:=hB.cell 2 _ rfl;have q2:=hB.cell 4 _ rfl;clear h h0;by_cases hm:16<pd.length∨8<pt.length
 ·have HC:Hid (repF (RepQ.e (⟨.slice p0 pd.length p5,pd,.slice p1 pb.length p6,pb,.slice p2 pt.length p7,pt,.slice p3 pu.length p8,pu,.slice p4 pn.length p9,pn⟩:RepQ))=2):=show _=_ from z7t (by simpa[RepQ.e]using hm)
  generalize repF (RepQ.e (⟨.slice p0 pd.length p5,pd,.slice p1 pb.length p6,pb,.slice p2 pt.length p7,pt,.slice p3 pu.length p8,pu,.slice p4 pn.length p9,pn⟩:RepQ))=c at*;clear hr Y Z nd nt;by_cases aR:16<pd.length
  ·have az:(16:Int)<(pd.length:Int):=by omega
   go_enter Tryz.func109,Tryz.ntmps109
   go_wp2
   go_ret;exact⟨by first|(rw[HC.out];done)|(rw[HC.out];rfl)|(simp[HC.out]),Below.refl _ _⟩
  ·have az:¬(16:Int)<(pd.length:Int):=by omega
   have i8:(8:Int)<(pt.length:Int):=by omega
   go_enter Tryz.func109,Tryz.ntmps109
   go_wp2
   go_ret;exact⟨by first|(rw[HC.out];done)|(rw[HC.out];rfl)|(simp[HC.out]),Below.refl _ _⟩
 have az:¬(16:Int)<(pd.length:Int):=by omega
 have i8:¬(8:Int)<(pt.length:Int):=by omega
 have aQ:pd.length≤16:=by omega
 have aU:pt.length≤8:=by omega
 have af:¬(16<(pd.map TxnQ.e).length∨8<(pt.map TxnQ.e).length):=by simpa using hm
 have z:=Wrp.mk (z7u (r:=RepQ.e (⟨.slice p0 pd.length p5,pd,.slice p1 pb.length p6,pb,.slice p2 pt.length p7,pt,.slice p3 pu.length p8,pu,.slice p4 pn.length p9,pn⟩:RepQ)) af);have A:=Wrp.mk (z7v (r:=RepQ.e (⟨.slice p0 pd.length p5,pd,.slice p1 pb.length p6,pb,.slice p2 pt.length p7,pt,.slice p3 pu.length p8,pu,.slice p4 pn.length p9,pn⟩:RepQ)) af);dsimp only[RepQ.e]at z A⊢;clear hm af;generalize repF _=CC at*;have ar:=fun(w':World) (hb:Below w.heap.size w w')=>z3f (.slice p0 pd.length p5) pd w' (hr w' hb).1 Y (by omega)
 have au:=fun(w':World) (hb:Below w.heap.size w w')=>z3f (.slice p2 pt.length p7) pt w' (hr w' hb).2.2.1 Z (by omega)
 go_enter Tryz.func109,Tryz.ntmps109
 go_wp2_with fail
 clear q0 q2;have f0:=hB.lat 2 _ rfl;have f2:=hB.lat 4 _ rfl;have hW:Below w.heap.size w w.drew:=(Below.refl _ _).drew;have ay:Nonempty (Lat w):=⟨⟨w,Below.refl _ _⟩⟩
 refine z0e (S:=fun w'=>∃u:Lat w,w'=u.val) (by kernel_rfl) ?_;refine sgr [(0,4),(5,4)] 5 (by kernel_rfl) ⟨⟨_,hW⟩,rfl⟩ ?_;simp only[pkE];repeat go_big_quiet_step (fail)
 refine wpQuiet_nil ?_;refine cla 4 (some 23) 170 #[.slice p0 pd.length p5] 4 (by kernel_rfl) ?_;refine(ar _ hW).mono ?_;rintro e x1 ⟨v1,q1,rfl,e1,o1,n1,g1,d⟩;have ND:Hid (∀k,∀q∈q1,k∈txnK.foot q→k∉blk v1):=fun k q hq hk hb=>(List.nodup_append.1 n1).2.2 k hb k (List.mem_flatMap.2 ⟨q,hq,hk⟩) rfl
 clear n1;obtain⟨a1,k1,rfl⟩:=o1.shape;have aX:=hW.size;replace hW:=hW.trans (d.mono hW.size);clear d;refine⟨_,rfl,⟨⟨_,hW⟩,rfl⟩,?_⟩;simp only[Act.put,pjE];refine cla 9 (some 28) 170 #[.slice p2 pt.length p7] 3 (by kernel_rfl) ?_;refine(au _ hW).mono ?_;rintro e x2 ⟨v2,q2,rfl,e2,o2,_,g2,d⟩;obtain⟨a2,k2,rfl⟩:=o2.shape;have aY:=hW.size;have i1:=o1.lt;replace o1:=o1.below d;replace hW:=hW.trans (d.mono hW.size);clear d;refine⟨_,rfl,⟨⟨_,hW⟩,rfl⟩,?_⟩;simp only[Act.put,pjE];have aZ:=hW.size;obtain⟨i0,hi,aC,aD,aE⟩:=info_parts z1p;have l1:q1.length=pd.length:=by simpa using congrArg List.length e1
 have l2:q2.length=pt.length:=by simpa using congrArg List.length e2
 obtain⟨_,_,ee,L,aA⟩:=o2.at;simp only[Value.slice.injEq,true_and]at ee;obtain⟨rfl,rfl⟩:=ee;have w1:q1.length+q2.length≤maxLen:=by unfold maxLen;omega
 have w2:(q1.length+q2.length)*48≤140737488355328:=by omega
 clear l1 l2;refine ona 10 2 rfl (by kernel_rfl) ?_;refine z1d (K:=txnK) _ rfl _ _ 25 rfl i0 (.agg #[.int .i64 0,.int .i64 0,.int .i64 0,.slice none 0 0]) 48 Tryz.underlying25 hi aC aD aE rfl (by decide) 0 _ q1 rfl o1.1 _ q2 _ rfl L (z7q aA) (o2.niceV _ _ _ rfl) w1 w2 (by omega) ?_;intro v3 x3 ah av;have N:Out (blk (.slice a1 q1.length k1)) x2 x3:=Out.of_grown av;have aa:∀x∈blk (.slice a1 q1.length k1),w.heap.size≤x∧x<x1.heap.size:=fun x hx=>⟨by have:=g1 x (by simp only[Kind.fp,List.mem_append];exact Or.inl hx);omega,i1 x (by simp only[Kind.fp,List.mem_append];exact Or.inl hx)⟩
 have ab:txnK.At x3 v3 (q1 ++ q2):=Kind.at_of_row ah (fun q hq=>by
  rcases List.mem_append.1 hq with hq|hq
  ·exact txnK.own_rd (txnK.own_out (o1.2 q hq) N (fun k hk e=>ND.out k q hq hk e))
  ·exact txnK.own_rd (txnK.own_out (o2.2 q hq) N (fun k hk e=>by
    have:=g2 k (by simp only[Kind.fp,List.mem_append,List.mem_flatMap];exact Or.inr ⟨q,hq,hk⟩);have:=(aa k e).2;omega)))
 replace hW:=Out.keep hW N (by omega) (fun x hx=>(aa x hx).1);have aB:=q3u ah;obtain⟨a3,k3,rfl⟩:=ab.shape
 go_wp2
 refine ThenGo.to ⟨⟨⟨_,hW⟩,rfl⟩,?_⟩;have ax:(q1++q2).length+nmL TxnQ.n (q1++q2)≤1048576:=by
  have e:nmL TxnQ.n (q1++q2)=nmL TxnQ.n q1+nmL TxnQ.n q2:=by simp[nmL]
  have s1:=q3V e1;have s2:=q3V e2;rw[List.length_append,e];omega
 have ae:=fun w h=>z9d (.slice a3 (q1++q2).length k3) (q1++q2) w h aB ax
 rw[List.map_append,e1,e2]at ae;simp only[Act.put,pgE,pjE];refine cla 11 (some 30) 169 #[.slice a3 (q1++q2).length k3] 1 (by kernel_rfl) ?_;refine(ae _ ab).mono ?_;rintro e x4 ⟨rfl,d⟩;replace hW:=hW.trans (d.mono hW.size);clear d ae ab ah av N o1 o2 g1 g2 i1 aa L aA ND;refine⟨_,rfl,⟨⟨_,hW⟩,rfl⟩,?_⟩;simp only[Act.put,pjE];refine sgr [(12,1)] 0 (by kernel_rfl) ⟨⟨_,hW⟩,rfl⟩ ?_;simp only[pkE];repeat go_big_quiet_step (fail)
 refine wpQuiet_nil ?_;refine z0i (by kernel_rfl) ?_;clear f0 f2 ay ar au Y Z nd nt e1 e2 w1 w2;by_cases hL:lstF (pd.map TxnQ.e++pt.map TxnQ.e)=0
 case neg=>
  have HC:Hid (CC=lstF (pd.map TxnQ.e++pt.map TxnQ.e)):=z.out hL;clear z A;generalize lstF (pd.map TxnQ.e++pt.map TxnQ.e)=c at*;have aS:(c !=0)=true:=by simpa using hL
  go_wp2
  go_ret;exact⟨by first|(rw[HC.out];done)|(rw[HC.out];rfl)|(simp[HC.out]),hW⟩
 have I:=q4V hL;have ak:∀q∈pd,(TxnQ.e q).F=0:=fun q hq=>I _ (List.mem_append_left _ (List.mem_map_of_mem hq))
 have am:∀q∈pt,(TxnQ.e q).F=0:=fun q hq=>I _ (List.mem_append_right _ (List.mem_map_of_mem hq))
 have HC:=Wrp.mk (A.out hL);rw[hL];clear z A hL;have M:=hB.below hW;have T:=hr _ hW;have ag:=fun(w':World) (hb:Below x4.heap.size x4 w')=>z6z (.slice p0 pd.length p5) (.slice p2 pt.length p7) pd pt w' (T.1.below hb) (T.2.2.1.below hb) ak am (by omega) (by omega)
 have ad:=hW;clear hW
 go_wp2_with fail
 generalize hX:x4=X at*;clear hX;try clear ax
 generalize (q1++q2).length=QL;have f0:=M.lat 2 _ rfl;have f2:=M.lat 4 _ rfl;refine z05 [some 34,some 35,some 36,some 37,some 38,some 39,some 40,some 41,some 42,some 4] (fun vs w'=>∃ (m:RepQ) (g:Nat),vs=[.pointer (some ⟨b,2,none⟩),.pointer (some ⟨b,2,none⟩),.pointer (some ⟨b,2,none⟩),.slice p0 pd.length p5,.pointer (some ⟨b,2,none⟩),.pointer (some ⟨b,2,none⟩),.pointer (some ⟨b,4,none⟩),.slice p2 pt.length p7,.agg #[m.vd,m.vb,m.vt,m.vu,m.vn],.pointer (some ⟨g,0,none⟩)]∧X.heap.size≤g∧Blk w' g 29 #[m.vd,m.vb,m.vt,m.vu,m.vn]∧m.e=mkR (pd.map TxnQ.e) (pt.map TxnQ.e)∧repK.own w' m∧Below X.heap.size X w') ?_ ?_
 ·have hW:Below X.heap.size X X.drew:=(Below.refl _ _).drew;have ay:Nonempty (Lat X):=⟨⟨X,Below.refl _ _⟩⟩
  refine z0e (S:=fun w'=>∃u:Lat X,w'=u.val) (by kernel_rfl) ?_;refine sgr [(0,8)] 3 (by kernel_rfl) ⟨⟨_,hW⟩,rfl⟩ ?_;simp only[pkE];repeat go_big_quiet_step (fail)
  refine wpQuiet_nil ?_;clear f0 f2;generalize X.drew=wd at hW⊢;refine twa 8 9 2 (by kernel_rfl) ?_ ?_
  focus
   skip;refine opc 8 (some 42) 122 #[.slice p0 pd.length p5,.slice p2 pt.length p7] (by kernel_rfl) ?_;refine(ag _ hW).mono ?_;rintro e x1 ⟨m,rfl,em,om,nm,gm,hb⟩;clear nm;replace hW:=hW.trans (hb.mono hW.size);clear hb gm;refine⟨_,rfl,⟨⟨_,hW⟩,rfl⟩,?_⟩;simp only[Act.put,pgE,pjE];refine ona 9 1 rfl (by kernel_rfl) ?_;have Bz:=Blk.new x1 29 #[.slice none 0 0,.slice none 0 0,.slice none 0 0,.slice none 0 0,.slice none 0 0];have aF:X.heap.size≤x1.heap.size:=hW.size;have C:Below x1.heap.size x1 (x1.alloc (.cells #[.slice none 0 0,.slice none 0 0,.slice none 0 0,.slice none 0 0,.slice none 0 0] 29)):=by go_grown
   have ai:∀k∈repK.foot m,k≠x1.heap.size:=fun k hk=>by have:=repK.own_lt om k hk;omega
   replace om:=repK.own_out (F:=[]) om (Out.of_below C) (fun _ _=>by simp);replace hW:=hW.trans (C.mono hW.size);clear C;have aj:=Bz.lt
   go_wp2
   refine ThenGo.to ⟨⟨⟨_,hW⟩,rfl⟩,?_⟩;generalize ao:x1.heap.size=g at*;generalize x1.alloc (.cells #[.slice none 0 0,.slice none 0 0,.slice none 0 0,.slice none 0 0,.slice none 0 0] 29)=y1 at*;clear ao
  rotate_left
  focus
   skip;refine z1c 9 _ rfl ?_;have Bz:=Blk.new wd 29 #[.slice none 0 0,.slice none 0 0,.slice none 0 0,.slice none 0 0,.slice none 0 0];have aF:X.heap.size≤wd.heap.size:=hW.size;have C:Below wd.heap.size wd (wd.alloc (.cells #[.slice none 0 0,.slice none 0 0,.slice none 0 0,.slice none 0 0,.slice none 0 0] 29)):=by go_grown
   replace hW:=hW.trans (C.mono hW.size);clear C;have aj:=Bz.lt
   go_wp2
   refine ThenGo.to ⟨⟨⟨_,hW⟩,rfl⟩,?_⟩;generalize ap:wd.heap.size=g at*;generalize wd.alloc (.cells #[.slice none 0 0,.slice none 0 0,.slice none 0 0,.slice none 0 0,.slice none 0 0] 29)=y2 at*;clear ap;refine cla 8 (some 42) 122 #[.slice p0 pd.length p5,.slice p2 pt.length p7] 1 (by kernel_rfl) ?_;refine(ag _ hW).mono ?_;rintro e x2 ⟨m,rfl,em,om,nm,gm,hb⟩;clear nm;have ai:∀k∈repK.foot m,k≠g:=fun k hk=>by have:=gm k hk;have:=Bz.lt;omega
   replace Bz:=Bz.below hb;replace hW:=hW.trans (hb.mono hW.size);clear hb gm;refine⟨_,rfl,⟨⟨_,hW⟩,rfl⟩,?_⟩;simp only[Act.put,pgE,pjE]
  rotate_left
  all_goals
   obtain⟨aH,md,aG,mb,aJ,mt,aK,mu,aI,mn⟩:=m;obtain⟨s0,t0,rfl⟩:∃a c,aH=.slice a md.length c:=om.1.shape;obtain⟨s1,t1,rfl⟩:∃a c,aG=.slice a mb.length c:=om.2.1.shape;obtain⟨s2,t2,rfl⟩:∃a c,aJ=.slice a mt.length c:=om.2.2.1.shape;obtain⟨s3,t3,rfl⟩:∃a c,aK=.slice a mu.length c:=om.2.2.2.1.shape;obtain⟨s4,t4,rfl⟩:∃a c,aI=.slice a mn.length c:=om.2.2.2.2.shape;refine ona 10 0 rfl (by kernel_rfl) ?_;have aw:X.heap.size≤g:=by omega
   have Rz:=Bz.row #[.slice s0 md.length t0,.slice s1 mb.length t1,.slice s2 mt.length t2,.slice s3 mu.length t3,.slice s4 mn.length t4];have oz:=repK.own_out om (z1F _ g #[.slice s0 md.length t0,.slice s1 mb.length t1,.slice s2 mt.length t2,.slice s3 mu.length t3,.slice s4 mn.length t4]) (fun k hk=>by simp only[List.mem_singleton];exact ai k hk);replace hW:=z0p hW aw #[.slice s0 md.length t0,.slice s1 mb.length t1,.slice s2 mt.length t2,.slice s3 mu.length t3,.slice s4 mn.length t4];refine z0K (by kernel_rfl) 29 _ _ rfl _ #[.slice s0 md.length t0,.slice s1 mb.length t1,.slice s2 mt.length t2,.slice s3 mu.length t3,.slice s4 mn.length t4] rfl rfl 29 _ Bz q2v rfl (by simp[Value.oneCell']) ?_;refine ThenGo.to ⟨⟨⟨_,hW⟩,rfl⟩,?_⟩;refine z0i (by kernel_rfl) ?_;refine⟨rfl,_,⟨_,g,rfl,aw,Rz,em,oz,hW⟩,?_⟩;simp only[z1n,Act.put,pgE,pjE];try rfl
 rintro vs w5 ⟨m,g,rfl,aT,Bg,em,om,O⟩;simp only[z1n,Act.put,pjE];clear f0 f2 ag;have al:∀t∈pd.map TxnQ.e,t.F=0:=fun t ht=>by obtain⟨q,hq,rfl⟩:=List.mem_map.1 ht;exact ak q hq
 have an:∀t∈pt.map TxnQ.e,t.F=0:=fun t ht=>by obtain⟨q,hq,rfl⟩:=List.mem_map.1 ht;exact am q hq
 have U:=q2F V W g b m (⟨.slice p0 pd.length p5,pd,.slice p1 pb.length p6,pb,.slice p2 pt.length p7,pt,.slice p3 pu.length p8,pu,.slice p4 pn.length p9,pn⟩:RepQ) w5 Bg (M.below O) (repK.own_rd om) (repK.rd_below T O) (by have:=z7w em al an (by rw[List.length_map];omega) (by rw[List.length_map];omega);omega) (by dsimp only[RepQ.n];omega);rw[em]at U;dsimp only[RepQ.e]at U;have J:=ad.trans (O.mono ad.size);clear om Bg M T em O ad
 go_wp2_with fail
 refine U.mono ?_;rintro e w6 ⟨rfl,aq⟩;replace J:=J.trans (aq.mono J.size);clear aq U
 cases hS:sameRep (mkR (pd.map TxnQ.e) (pt.map TxnQ.e)) ⟨pd.map TxnQ.e,pb,pt.map TxnQ.e,pu.map USQ.e,pn⟩with
 |false=>
  have h9:CC=(if sameRep (mkR (pd.map TxnQ.e) (pt.map TxnQ.e)) ⟨pd.map TxnQ.e,pb,pt.map TxnQ.e,pu.map USQ.e,pn⟩=true then 0 else 8):=HC.out;have y:Hid (CC=8):=show CC=8 by simpa[hS]using h9
  clear h9;clear HC
  go_wp2
  go_ret;exact⟨by first|(rw[y.out];done)|(rw[y.out];rfl)|(simp[y.out]),J⟩
 |true=>
  have h9:CC=(if sameRep (mkR (pd.map TxnQ.e) (pt.map TxnQ.e)) ⟨pd.map TxnQ.e,pb,pt.map TxnQ.e,pu.map USQ.e,pn⟩=true then 0 else 8):=HC.out;have y:Hid (CC=0):=show CC=0 by simpa[hS]using h9
  clear h9;clear HC
  go_wp2
  go_ret;exact⟨by first|(rw[y.out];done)|(rw[y.out];rfl)|(simp[y.out]),J⟩
theorem z4d(v:Value)(ps:List InstQ)(kn sf:Int)(p:RepQ)(w:World)(hG:Rul w)(hE:ErrT w)(h:instK.At w v ps)(aa:z5U v)(hl:(ps.length+nmL InstQ.n ps)≤1048576)(hp:repK.rd w p)(nd:z4c p.vd)(nt:z4c p.vt)(ad:p.n≤1048576):
  Calls Tryz.prog 17 #[v,.agg #[.int .i64 kn,.int .i64 sf,p.vd,p.vb,p.vt,p.vu,p.vn]] w fun e w'=>e=.returned (.int .i64 (nodF (ps.map InstQ.e) kn sf p.e))∧Below w.heap.size w w':=by
 have ab:=fun w hG h=>z1U v ps w hG h hl
 have J:=fun w hG h=>z1P v ps kn w hG h aa hl
 have N:=fun w hE h=>z2Y p w hE h nd nt ad
 have ae:p.done.length+nmL TxnQ.n p.done≤1048576:=by
  have:p.done.length+nmL TxnQ.n p.done≤p.n:=by simp only[RepQ.n];omega
  omega
 have z:=fun v' (ys:List TxnQ) w h h' (hq:ys.map TxnQ.e=dfT (ps.map InstQ.e) kn)=>q3x p.vd v' p.done ys w h h' ae (q52 hq hl)
 have y:=fun(w':World) hb=>repK.rd_below (w':=w') hp hb
 have d:=z7x (ps.map InstQ.e) kn sf p.e;have L:=z7h (ps.map InstQ.e) kn;have af:p.e.done=p.done.map TxnQ.e:=rfl;rw[af]at d;have Y:Hid (ordF (ps.map InstQ.e)=0→diV (ps.map InstQ.e)=(decN (ps.map InstQ.e):Int)):=fun h0=>by unfold diV;rw[if_pos h0]
 generalize nodF (ps.map InstQ.e) kn sf p.e=D at*;generalize dfT (ps.map InstQ.e) kn=DT at*;generalize dfC (ps.map InstQ.e) kn=DC at*;generalize defL (ps.map InstQ.e) kn.toNat=DL at*;generalize ordF (ps.map InstQ.e)=C at*;generalize diV (ps.map InstQ.e)=VV at*;generalize (decN (ps.map InstQ.e):Int)=M at*;generalize repF p.e=RF at*;clear af;obtain⟨vd,done,vb,base,vt,I,vu,x,vn,V⟩:=p;obtain⟨a0,k0,rfl⟩:∃a c,vd=.slice a done.length c:=hp.1.shape;obtain⟨a1,k1,rfl⟩:∃a c,vb=.slice a base.length c:=hp.2.1.shape;obtain⟨a2,k2,rfl⟩:∃a c,vt=.slice a I.length c:=hp.2.2.1.shape;obtain⟨a3,k3,rfl⟩:∃a c,vu=.slice a x.length c:=hp.2.2.2.1.shape;obtain⟨a4,k4,rfl⟩:∃a c,vn=.slice a V.length c:=hp.2.2.2.2.shape;obtain⟨va,vc,rfl⟩:=h.shape;dsimp only at N z y d;clear nd nt ad ae;have b0:Below w.heap.size w (w.alloc (.cells #[.int .i64 kn,.int .i64 sf,.slice a0 done.length k0,.slice a1 base.length k1,.slice a2 I.length k2,.slice a3 x.length k3,.slice a4 V.length k4] 31)):=by go_grown
 have A0:=Blk.new w 31 #[.int .i64 kn,.int .i64 sf,.slice a0 done.length k0,.slice a1 base.length k1,.slice a2 I.length k2,.slice a3 x.length k3,.slice a4 V.length k4];go_enter Tryz.func17,Tryz.ntmps17
 go_wp2_with fail
 generalize w.alloc (.cells #[.int .i64 kn,.int .i64 sf,.slice a0 done.length k0,.slice a1 base.length k1,.slice a2 I.length k2,.slice a3 x.length k3,.slice a4 V.length k4] 31)=W at*;refine(ab W (hG.below b0) (h.below b0)).mono ?_;rintro e w1 ⟨rfl,hb⟩;replace A0:=A0.below hb;replace b0:=b0.trans (hb.mono b0.size);clear hb ab;have S0:=Blk.new w1 53 #[.int .i64 C,.int .i64 VV];have hb:Below w1.heap.size w1 (w1.alloc (.cells #[.int .i64 C,.int .i64 VV] 53)):=by go_grown
 have A1:=A0.below hb;have b1:=b0.trans (hb.mono b0.size);by_cases hC:C=0
 case neg=>
  have ak:(C !=0)=true:=by simpa using hC
  have HD:Hid (D=C):=by
   rcases d with⟨_,e⟩|⟨h0,_⟩|⟨h0,_⟩|⟨h0,_⟩|⟨h0,_⟩|⟨h0,_⟩
   ·exact e
   all_goals exact absurd h0 hC
  clear d L Y J N z y hC;obtain⟨q0,q1⟩:=S0.cel2
  go_wp2
  go_ret;exact⟨by first|(rw[HD.out];done)|(rw[HD.out];rfl),b1⟩
 have hV:=(Y.out hC).symm;subst hC;subst hV;clear Y;have ak:((0:Int) !=0)=false:=by decide
 obtain⟨q0,q1⟩:=S0.cel2;obtain⟨p0,p1,p2,p3,p4,p5,p6⟩:=A1.cel7
 go_wp2_with fail
 clear q0 q1;generalize w1.alloc (.cells #[.int .i64 0,.int .i64 M] 53)=W1 at*;have T:=z0G kn 0 M W1;by_cases hk:0≤kn∧kn≤M
 case neg=>
  have HD:Hid (D=3):=by
   rcases d with⟨h0,_⟩|⟨_,_,e⟩|⟨_,h0,_⟩|⟨_,h0,_⟩|⟨_,h0,_⟩|⟨_,h0,_⟩
   ·exact absurd rfl h0
   ·exact e
   all_goals exact absurd h0 hk
  have hz:inW kn 0 M=false:=by unfold inW;simp only[Bool.and_eq_false_iff,decide_eq_false_iff_not];omega
  rw[hz]at T;clear d L J N z y hk hz;refine T.mono ?_;rintro e w2 ⟨rfl,rfl⟩
  go_wp2
  go_ret;exact⟨by first|(rw[HD.out];done)|(rw[HD.out];rfl),b1⟩
 have hz:inW kn 0 M=true:=by unfold inW;simp only[Bool.and_eq_true,decide_eq_true_eq];exact hk
 rw[hz]at T;refine T.mono ?_;rintro e w2 ⟨rfl,A⟩;replace A:=A.symm;subst A;clear T hz;have U:=z0G sf 0 kn W1
 go_wp2_with fail
 by_cases hs:0≤sf∧sf≤kn
 case neg=>
  have HD:Hid (D=3):=by
   rcases d with⟨h0,_⟩|⟨_,h0,_⟩|⟨_,_,_,e⟩|⟨_,_,h0,_⟩|⟨_,_,h0,_⟩|⟨_,_,h0,_⟩
   ·exact absurd rfl h0
   ·exact absurd hk h0
   ·exact e
   all_goals exact absurd h0 hs
  have hz:inW sf 0 kn=false:=by unfold inW;simp only[Bool.and_eq_false_iff,decide_eq_false_iff_not];omega
  rw[hz]at U;clear d L J N z y hk hz hs;refine U.mono ?_;rintro e w2 ⟨rfl,rfl⟩
  go_wp2
  go_ret;exact⟨by first|(rw[HD.out];done)|(rw[HD.out];rfl),b1⟩
 have hz:inW sf 0 kn=true:=by unfold inW;simp only[Bool.and_eq_true,decide_eq_true_eq];exact hs
 rw[hz]at U;refine U.mono ?_;rintro e w2 ⟨rfl,A⟩;replace A:=A.symm;subst A;clear U hz
 go_wp2_with fail
 clear p0 p1 p2 p3 p4 p5 p6;refine(N W1 (hE.below b1) (y W1 b1)).mono ?_;rintro e w3 ⟨rfl,X⟩;replace A1:=A1.below X;replace b1:=b1.trans (X.mono b1.size);clear X N hb S0 A0;by_cases hR:RF=0
 case neg=>
  have Z:(RF !=0)=true:=by simpa using hR
  have HD:Hid (D=RF):=by
   rcases d with⟨h0,_⟩|⟨_,h0,_⟩|⟨_,_,h0,_⟩|⟨_,_,_,_,e⟩|⟨_,_,_,h0,_⟩|⟨_,_,_,h0,_⟩
   ·exact absurd rfl h0
   ·exact absurd hk h0
   ·exact absurd hs h0
   ·exact e
   all_goals exact absurd h0 hR
  clear d L J z y hk hs hR
  go_wp2
  go_ret;exact⟨by first|(rw[HD.out];done)|(rw[HD.out];rfl),b1⟩
 subst hR;have Z:((0:Int) !=0)=false:=by decide
 have hT:DT=DL:=by
  rcases L with⟨h0,_⟩|⟨_,h0,_⟩|⟨_,_,_,e⟩
  ·exact absurd rfl h0
  ·exact absurd hk h0
  ·exact e
 subst hT;have HW:Hid ((sameTs (done.map TxnQ.e) DT=false∧D=8)∨(sameTs (done.map TxnQ.e) DT=true∧D=0)):=by
  rcases d with⟨h0,_⟩|⟨_,h0,_⟩|⟨_,_,h0,_⟩|⟨_,_,_,h0,_⟩|⟨_,_,_,_,e1,e2⟩|⟨_,_,_,_,e1,e2⟩
  ·exact absurd rfl h0
  ·exact absurd hk h0
  ·exact absurd hs h0
  ·exact absurd rfl h0
  ·exact Or.inl ⟨e1,e2⟩
  ·exact Or.inr ⟨e1,e2⟩
 clear d L hk hs;have ag:Hid _:=J;have aj:Hid _:=z;have ai:Hid _:=y;have HH:Hid (instK.At w (.slice va ps.length vc) ps):=h;have ah:Hid (Rul w):=hG;clear J z y hE hl aa
 go_wp2_with fail
 clear Z;obtain⟨c0,c1,c2,c3,c4,c5,c6⟩:=A1.lts7;have hW:Below w3.heap.size w3 w3.drew:=(Below.refl _ _).drew;have al:Nonempty (Lat w3):=⟨⟨w3,Below.refl _ _⟩⟩
 refine z0e (S:=fun w'=>∃u:Lat w3,w'=u.val) (by kernel_rfl) ?_;refine sgr [(0,6)] 4 (by kernel_rfl) ⟨⟨_,hW⟩,rfl⟩ ?_;simp only[pkE];repeat go_big_quiet_step (fail)
 refine wpQuiet_nil ?_;refine cla 6 (some 40) 32 #[.slice va ps.length vc,.int .i64 kn] 3 (by kernel_rfl) ?_;refine(ag.out _ (ah.out.below (b1.trans (hW.mono b1.size))) (HH.out.below (b1.trans (hW.mono b1.size)))).mono ?_;rintro e w9 ⟨vq,qs,rfl,eq,oq,_,_,O⟩;replace hW:=hW.trans (O.mono hW.size);obtain⟨xa,xc,rfl⟩:=oq.shape;clear O;refine⟨_,rfl,⟨⟨_,hW⟩,rfl⟩,?_⟩;simp only[Act.put,pjE];refine qta 7 (some 41) (.slice xa qs.length xc) 2 (by kernel_rfl) (fun u _=>by kernel_rfl) ⟨⟨_,hW⟩,rfl⟩ ?_;simp only[Act.put,pjE];refine cla 8 (some 42) 18 #[.slice a0 done.length k0,.slice xa qs.length xc] 1 (by kernel_rfl) ?_;refine(aj.out _ qs _ ((ai.out _ (b1.trans (hW.mono b1.size))).1) oq.at eq).mono ?_;rintro e w9 ⟨rfl,O⟩;replace hW:=hW.trans (O.mono hW.size);clear O;refine⟨_,rfl,⟨⟨_,hW⟩,rfl⟩,?_⟩;simp only[Act.put,pjE];refine sgr [(9,1)] 0 (by kernel_rfl) ⟨⟨_,hW⟩,rfl⟩ ?_;simp only[pkE];repeat go_big_quiet_step (fail)
 refine wpQuiet_nil ?_;refine z0i (by kernel_rfl) ?_;have b2:=b1.trans (hW.mono b1.size);clear c0 c1 c2 c3 c4 c5 c6;clear oq hW al;rcases HW.out with⟨e1,e2⟩|⟨e1,e2⟩
 ·rw[eq,e1];clear HW
  go_wp2
  go_ret;exact⟨by first|(rw[e2];done)|(rw[e2];rfl),b2⟩
 ·rw[eq,e1];clear HW
  go_wp2
  go_ret;exact⟨by first|(rw[e2];done)|(rw[e2];rfl),b2⟩
end Go.Proofs.YtlkpdgjnhkjpjaaGreatDoor
