import Derived.Test.YtdppipeclnldeaaGreatDoorOBAR
import Derived.Test.YtdppipeclnldeaaGreatDoorOBAM
set_option linter.unusedVariables false
set_option linter.unusedSimpArgs false
set_option maxRecDepth 100000
set_option maxHeartbeats 16000000
namespace Go.Proofs.YtdppipeclnldeaaGreatDoor
open Go.RowKit Go.BigFrame
open TxnQ renaming e->Va
open InstQ renaming e->Vb
open List renaming length_map->Vc,mem_append_right->Vd,mem_append_left->Ve,mem_singleton->Vf,getElem_mem->Vi
open Blk renaming new->Vg
open Act renaming put->Vh
open Out renaming setCell->Vj
open IntKind renaming i64->Q
open Value renaming int->H,slice->G
open Go.Proofs.Tryz renaming prog->o
open Go.Proofs.Tryz
def nodF(ds:List InstE)(kn sf:Int)(r:RepE):Int:=
 if ordF ds=0 then(if(0≤kn∧kn≤(decN ds:Int))∧0≤sf∧sf≤kn then(if repF r=0 then(if sameTs r.done (defL ds kn.toNat)=true then 0 else 8)else repF r)else 3)else ordF ds
theorem z70(ds:List InstE)(kn sf:Int)(r:RepE):(ordF ds≠0∧nodF ds kn sf r=ordF ds)∨(ordF ds=0∧¬(0≤kn∧kn≤(decN ds:Int))∧nodF ds kn sf r=3)∨
  (ordF ds=0∧(0≤kn∧kn≤(decN ds:Int))∧¬(0≤sf∧sf≤kn)∧nodF ds kn sf r=3)∨(ordF ds=0∧(0≤kn∧kn≤(decN ds:Int))∧(0≤sf∧sf≤kn)∧repF r≠0∧nodF ds kn sf r=repF r)∨
  (ordF ds=0∧(0≤kn∧kn≤(decN ds:Int))∧(0≤sf∧sf≤kn)∧repF r=0∧sameTs r.done (defL ds kn.toNat)=false∧nodF ds kn sf r=8)∨
  (ordF ds=0∧(0≤kn∧kn≤(decN ds:Int))∧(0≤sf∧sf≤kn)∧repF r=0∧sameTs r.done (defL ds kn.toNat)=true∧nodF ds kn sf r=0):=by
 unfold nodF;by_cases h0:ordF ds=0
 ·by_cases h1:0≤kn∧kn≤(decN ds:Int)
  ·by_cases h2:0≤sf∧sf≤kn
   ·by_cases h3:repF r=0
    ·cases h4:sameTs r.done (defL ds kn.toNat)<;>simp[h0,h1,h2,h3]
    ·simp[h0,h1,h2,h3]
   ·have h12:¬((0≤kn∧kn≤(decN ds:Int))∧0≤sf∧sf≤kn):=fun h=>h2 h.2
    right;right;left;exact⟨h0,h1,h2,by rw[if_pos h0,if_neg h12]⟩
  ·have h12:¬((0≤kn∧kn≤(decN ds:Int))∧0≤sf∧sf≤kn):=fun h=>h1 h.1
   right;left;exact⟨h0,h1,by rw[if_pos h0,if_neg h12]⟩
 ·left;exact⟨h0,by rw[if_neg h0]⟩
theorem z6k:∀ {x y:List TxnD},sameTs x y=true→x=y
 |[],[],_=>rfl
 |[],y::s,h=>by simp[sameTs]at h
 |x::r,[],h=>by simp[sameTs]at h
 |x::r,y::s,h=>by
  simp only[sameTs,Bool.and_eq_true]at h;rw[q4x h.1,z6k h.2]
theorem z71{ds:List InstE}{kn sf:Int}{r:RepE}(h:nodF ds kn sf r=0):ordF ds=0∧(0≤kn∧kn≤(decN ds:Int))∧(0≤sf∧sf≤kn)∧repF r=0∧r.done=defL ds kn.toNat:=by
 rcases z70 ds kn sf r with⟨h0,h1⟩|⟨_,_,h1⟩|⟨_,_,_,h1⟩|⟨_,_,_,h0,h1⟩|⟨_,_,_,_,_,h1⟩|⟨a,b,c,d,e,_⟩
 ·exact absurd (h1.symm.trans h) h0
 ·rw[h]at h1;exact absurd h1 (by decide)
 ·rw[h]at h1;exact absurd h1 (by decide)
 ·exact absurd (h1.symm.trans h) h0
 ·rw[h]at h1;exact absurd h1 (by decide)
 ·exact⟨a,b,c,d,z6k e⟩
theorem q5P{ds:List InstE}(h:ordF ds=0)(m:Nat):(defL ds m).length≤16:=by
 have h1:=z7z (z4v (ds.take m)) [];have h2:=q2Z (ds:=ds.take m) (fun x hx=>z1K h x (List.mem_of_mem_take hx));have h3:=((z2o ds).1 h).1.2;have h4:(ds.take m).length≤ds.length:=by rw[List.length_take];omega
 simp only[List.length_nil,Nat.zero_add]at h1;unfold defL;omega
def z2u(ds:List InstE):List NodeE→Int
 |[]=>0
 |n::r=>if nodF ds n.kn n.sf n.rep=0 then z2u ds r else nodF ds n.kn n.sf n.rep
def cluF(c:CluE):Int:=if ordF c.ord=0 then(if c.mem.length=3 then z2u c.ord c.mem else 2)else ordF c.ord
theorem q0O(ds:List InstE)(ns:List NodeE)(k:Nat)(h:k<ns.length)(hb:nodF ds ns[k].kn ns[k].sf ns[k].rep≠0):z2u ds (ns.drop k)=nodF ds ns[k].kn ns[k].sf ns[k].rep:=by
 rw[List.drop_eq_getElem_cons h,z2u,if_neg hb]
theorem z9f(ds:List InstE)(ns:List NodeE)(k:Nat)(h:k<ns.length)(hb:nodF ds ns[k].kn ns[k].sf ns[k].rep=0):z2u ds (ns.drop k)=z2u ds (ns.drop (k+1)):=by
 rw[List.drop_eq_getElem_cons h,z2u,if_pos hb]
theorem q0P(ds:List InstE)(ns:List NodeE)(k:Nat)(h:ns.length≤k):z2u ds (ns.drop k)=0:=by
 rw[List.drop_eq_nil_of_le h,z2u]
theorem q5Q{p q:RepQ}(h:p.e=q.e):p.n=q.n:=by
 have e1:∀l:List USQ,nmL USQ.n l=nmL List.length (l.map USQ.e):=fun l=>by simp only[nmL,List.map_map];rfl
 have e2:∀l:List TxnQ,nmL TxnQ.n l=nmL TxnD.n (l.map Va):=fun l=>by simp only[nmL,List.map_map];rfl
 simp only[RepQ.e,RepE.mk.injEq]at h;obtain⟨h0,h1,h2,h3,h4⟩:=h;have l0:=congrArg List.length h0;have l2:=congrArg List.length h2;have l3:=congrArg List.length h3;simp only[Vc]at l0 l2 l3;simp only[RepQ.n,e1,e2,h0,h1,h2,h3,h4,l0,l2,l3]
theorem q4y{p q:NodeQ}(h:p.e=q.e):p.n=q.n:=q5Q (congrArg NodeE.rep h)
theorem q0Q{α β:Type}(e:α→β)(n:α→Nat)(hn:∀a b,e a=e b→n a=n b)(ps qs:List α)(h:ps.map e=qs.map e):ps.length+nmL n ps=qs.length+nmL n qs:=by
 induction ps generalizing qs with
 |nil=>
  cases qs with
  |nil=>rfl
  |cons p r=>simp at h
 |cons q s ih=>
  cases qs with
  |nil=>simp at h
  |cons p r=>
   simp only[List.map_cons,List.cons.injEq]at h;have h1:=ih r h.2;have h2:=hn q p h.1;simp only[nmL,List.map_cons,List.sum_cons,List.length_cons]at h1⊢;omega
theorem q5R{p q:CluQ}(h:p.e=q.e):p.n=q.n:=by
 simp only[CluQ.e,CluE.mk.injEq]at h;have a:=q0Q Vb InstQ.n (fun _ _=>q6k) _ _ h.1;have b:=q0Q NodeQ.e NodeQ.n (fun _ _=>q4y) _ _ h.2;simp only[CluQ.n];omega
theorem q4z(v v':Value)(xs ys:List TxnQ)(w:World)(h:txnK.At w v xs)(h':txnK.At w v' ys)(hl:xs.length+nmL TxnQ.n xs≤1048576)(hl':ys.length+nmL TxnQ.n ys≤1048576):
  Calls o 128 #[v,v'] w fun e w'=>e=.returned (.bool (sameTs (xs.map Va) (ys.map Va)))∧Below w.heap.size w w':=
 z1L v v' _ _ w (z0H h) (z0H h') (by rw[Vc,z1j];omega) (by rw[Vc,z1j];omega)
theorem q3y(v v':Value)(xs ys:List TxnQ)(w:World)(h:txnK.At w v xs)(h':txnK.At w v' ys)(hl:xs.length+nmL TxnQ.n xs≤1048576)(hl':ys.length+nmL TxnQ.n ys≤1048576):
  Calls o 64 #[v,v'] w fun e w'=>e=.returned (.bool (sameTs (xs.map Va) (ys.map Va)))∧Below w.heap.size w w':=
 z1M v v' _ _ w (z0H h) (z0H h') (by rw[Vc,z1j];omega) (by rw[Vc,z1j];omega)
theorem q5S(v:Value)(ps:List InstQ)(w:World)(h:instK.At w v ps)(hl:(ps.length+nmL InstQ.n ps)≤1048576)(h0:ordF (ps.map Vb)=0):
  Calls o 62 #[v] w fun e w'=>e=.returned (H Q (decN (ps.map Vb):Int))∧Below w.heap.size w w':=by
 have h1:=((z2o _).1 h0).1;rw[Vc]at h1;exact z7B v ps w h hl h1.1 h1.2
theorem q5T(v:Value)(ps:List InstQ)(n:Int)(w:World)(h:instK.At w v ps)(hl:(ps.length+nmL InstQ.n ps)≤1048576)(h0:ordF (ps.map Vb)=0)(hn:0≤n∧n≤(decN (ps.map Vb):Int)):
  Calls o 65 #[v,H Q n] w fun e w'=>∃v' qs,e=.returned v'∧qs.map Va=defL (ps.map Vb) n.toNat∧txnK.Own w' v' qs∧(txnK.fp v' qs).Nodup∧(∀k∈txnK.fp v' qs,w.heap.size≤k)∧Below w.heap.size w w':=by
 have h1:=((z2o _).1 h0).1;have hm:=z1K h0;have hd:=q2L (ps.map Vb);rw[Vc]at h1 hd;obtain⟨m,rfl⟩:∃m:Nat,n=(m:Int):=⟨n.toNat,by omega⟩
 rw[Int.toNat_natCast];exact z6u v ps m w h (fun q hq=>z7D (hm _ (List.mem_map.2 ⟨q,hq,rfl⟩))) (fun q hq=>q62 (hm _ (List.mem_map.2 ⟨q,hq,rfl⟩))) (by omega) h1.2 hl
theorem z4J(v:Value)(ps:List InstQ)(kn sf:Int)(p:RepQ)(w:World)(hG:Rul w)(hE:ErrT w)(h:instK.At w v ps)(Z:z8D v)(hl:(ps.length+nmL InstQ.n ps)≤1048576)(hp:repK.rd w p)(nd:z4I p.vd)(nt:z4I p.vt)(ab:p.n≤1048576):
  Calls o 76 #[v,.agg #[H Q kn,H Q sf,p.vd,p.vb,p.vt,p.vu,p.vn]] w fun e w'=>e=.returned (H Q (nodF (ps.map Vb) kn sf p.e))∧Below w.heap.size w w':=by
 have aa:=fun w hG h=>z17 v ps w hG h hl
 have I:=fun w hG h=>z37 v ps kn w hG h Z hl
 have L:=fun w hE h=>z3n p w hE h nd nt ab
 have ad:p.done.length+nmL TxnQ.n p.done≤1048576:=by
  have:p.done.length+nmL TxnQ.n p.done≤p.n:=by simp only[RepQ.n];omega
  omega
 have z:=fun v' (ys:List TxnQ) w h h' (hq:ys.map Va=dfT (ps.map Vb) kn)=>q4z p.vd v' p.done ys w h h' ad (q6U hq hl)
 have y:=fun(w':World) hb=>repK.rd_below (w':=w') hp hb
 have d:=z70 (ps.map Vb) kn sf p.e;have J:=z90 (ps.map Vb) kn;have ae:p.e.done=p.done.map Va:=rfl;rw[ae]at d;have X:Hid (ordF (ps.map Vb)=0→diV (ps.map Vb)=(decN (ps.map Vb):Int)):=fun h0=>by unfold diV;rw[if_pos h0]
 generalize nodF (ps.map Vb) kn sf p.e=D at*;generalize dfT (ps.map Vb) kn=DT at*;generalize dfC (ps.map Vb) kn=DC at*;generalize defL (ps.map Vb) kn.toNat=DL at*;generalize ordF (ps.map Vb)=C at*;generalize diV (ps.map Vb)=VV at*;generalize (decN (ps.map Vb):Int)=M at*;generalize repF p.e=RF at*;clear ae;obtain⟨vd,done,vb,base,vt,E,vu,x,vn,U⟩:=p;obtain⟨a0,k0,rfl⟩:∃a c,vd=G a done.length c:=hp.1.shape;obtain⟨a1,k1,rfl⟩:∃a c,vb=G a base.length c:=hp.2.1.shape;obtain⟨a2,k2,rfl⟩:∃a c,vt=G a E.length c:=hp.2.2.1.shape;obtain⟨a3,k3,rfl⟩:∃a c,vu=G a x.length c:=hp.2.2.2.1.shape;obtain⟨a4,k4,rfl⟩:∃a c,vn=G a U.length c:=hp.2.2.2.2.shape;obtain⟨va,vc,rfl⟩:=h.shape;dsimp only at L z y d;clear nd nt ab ad;have b0:Below w.heap.size w (w.alloc (.cells #[H Q kn,H Q sf,G a0 done.length k0,G a1 base.length k1,G a2 E.length k2,G a3 x.length k3,G a4 U.length k4] 57)):=by go_grown
 have A0:=Vg w 57 #[H Q kn,H Q sf,G a0 done.length k0,G a1 base.length k1,G a2 E.length k2,G a3 x.length k3,G a4 U.length k4];go_enter func76,ntmps76
 go_wp2_with fail
 generalize w.alloc (.cells #[H Q kn,H Q sf,G a0 done.length k0,G a1 base.length k1,G a2 E.length k2,G a3 x.length k3,G a4 U.length k4] 57)=W at*;refine(aa W (hG.below b0) (h.below b0)).mono ?_;rintro e w1 ⟨rfl,hb⟩;replace A0:=A0.below hb;replace b0:=b0.trans (hb.mono b0.size);clear hb aa;have S0:=Vg w1 184 #[H Q C,H Q VV];have hb:Below w1.heap.size w1 (w1.alloc (.cells #[H Q C,H Q VV] 184)):=by go_grown
 have A1:=A0.below hb;have b1:=b0.trans (hb.mono b0.size);by_cases hC:C=0
 case neg=>
  have aj:(C !=0)=true:=by simpa using hC
  have HD:Hid (D=C):=by
   rcases d with⟨_,e⟩|⟨h0,_⟩|⟨h0,_⟩|⟨h0,_⟩|⟨h0,_⟩|⟨h0,_⟩
   ·exact e
   all_goals exact absurd h0 hC
  clear d J X I L z y hC;obtain⟨q0,q1⟩:=S0.cel2
  go_wp2
  go_ret;exact⟨by first|(rw[HD.out];done)|(rw[HD.out];rfl),b1⟩
 have hV:=(X.out hC).symm;subst hC;subst hV;clear X;have aj:((0:Int) !=0)=false:=by decide
 obtain⟨q0,q1⟩:=S0.cel2;obtain⟨p0,p1,p2,p3,p4,p5,p6⟩:=A1.cel7
 go_wp2_with fail
 clear q0 q1;generalize w1.alloc (.cells #[H Q 0,H Q M] 184)=W1 at*;have O:=z0G kn 0 M W1;by_cases hk:0≤kn∧kn≤M
 case neg=>
  have HD:Hid (D=3):=by
   rcases d with⟨h0,_⟩|⟨_,_,e⟩|⟨_,h0,_⟩|⟨_,h0,_⟩|⟨_,h0,_⟩|⟨_,h0,_⟩
   ·exact absurd rfl h0
   ·exact e
   all_goals exact absurd h0 hk
  have hz:inW kn 0 M=false:=by unfold inW;simp only[Bool.and_eq_false_iff,decide_eq_false_iff_not];omega
  rw[hz]at O;clear d J I L z y hk hz;refine O.mono ?_;rintro e w2 ⟨rfl,rfl⟩
  go_wp2
  go_ret;exact⟨by first|(rw[HD.out];done)|(rw[HD.out];rfl),b1⟩
 have hz:inW kn 0 M=true:=by unfold inW;simp only[Bool.and_eq_true,decide_eq_true_eq];exact hk
 rw[hz]at O;refine O.mono ?_;rintro e w2 ⟨rfl,A⟩;replace A:=A.symm;subst A;clear O hz;have T:=z0G sf 0 kn W1
 go_wp2_with fail
 by_cases hs:0≤sf∧sf≤kn
 case neg=>
  have HD:Hid (D=3):=by
   rcases d with⟨h0,_⟩|⟨_,h0,_⟩|⟨_,_,_,e⟩|⟨_,_,h0,_⟩|⟨_,_,h0,_⟩|⟨_,_,h0,_⟩
   ·exact absurd rfl h0
   ·exact absurd hk h0
   ·exact e
   all_goals exact absurd h0 hs
  have hz:inW sf 0 kn=false:=by unfold inW;simp only[Bool.and_eq_false_iff,decide_eq_false_iff_not];omega
  rw[hz]at T;clear d J I L z y hk hz hs;refine T.mono ?_;rintro e w2 ⟨rfl,rfl⟩
  go_wp2
  go_ret;exact⟨by first|(rw[HD.out];done)|(rw[HD.out];rfl),b1⟩
 have hz:inW sf 0 kn=true:=by unfold inW;simp only[Bool.and_eq_true,decide_eq_true_eq];exact hs
 rw[hz]at T;refine T.mono ?_;rintro e w2 ⟨rfl,A⟩;replace A:=A.symm;subst A;clear T hz
 go_wp2_with fail
 clear p0 p1 p2 p3 p4 p5 p6;refine(L W1 (hE.below b1) (y W1 b1)).mono ?_;rintro e w3 ⟨rfl,V⟩;replace A1:=A1.below V;replace b1:=b1.trans (V.mono b1.size);clear V L hb S0 A0;by_cases hR:RF=0
 case neg=>
  have Y:(RF !=0)=true:=by simpa using hR
  have HD:Hid (D=RF):=by
   rcases d with⟨h0,_⟩|⟨_,h0,_⟩|⟨_,_,h0,_⟩|⟨_,_,_,_,e⟩|⟨_,_,_,h0,_⟩|⟨_,_,_,h0,_⟩
   ·exact absurd rfl h0
   ·exact absurd hk h0
   ·exact absurd hs h0
   ·exact e
   all_goals exact absurd h0 hR
  clear d J I z y hk hs hR
  go_wp2
  go_ret;exact⟨by first|(rw[HD.out];done)|(rw[HD.out];rfl),b1⟩
 subst hR;have Y:((0:Int) !=0)=false:=by decide
 have hT:DT=DL:=by
  rcases J with⟨h0,_⟩|⟨_,h0,_⟩|⟨_,_,_,e⟩
  ·exact absurd rfl h0
  ·exact absurd hk h0
  ·exact e
 subst hT;have HW:Hid ((sameTs (done.map Va) DT=false∧D=8)∨(sameTs (done.map Va) DT=true∧D=0)):=by
  rcases d with⟨h0,_⟩|⟨_,h0,_⟩|⟨_,_,h0,_⟩|⟨_,_,_,h0,_⟩|⟨_,_,_,_,e1,e2⟩|⟨_,_,_,_,e1,e2⟩
  ·exact absurd rfl h0
  ·exact absurd hk h0
  ·exact absurd hs h0
  ·exact absurd rfl h0
  ·exact Or.inl ⟨e1,e2⟩
  ·exact Or.inr ⟨e1,e2⟩
 clear d J hk hs;have af:Hid _:=I;have ai:Hid _:=z;have ah:Hid _:=y;have HH:Hid (instK.At w (G va ps.length vc) ps):=h;have ag:Hid (Rul w):=hG;clear I z y hE hl Z
 go_wp2_with fail
 clear Y;obtain⟨c0,c1,c2,c3,c4,c5,c6⟩:=A1.lts7;have hW:Below w3.heap.size w3 w3.drew:=(Below.refl _ _).drew;have ak:Nonempty (Lat w3):=⟨⟨w3,Below.refl _ _⟩⟩
 refine z0b (S:=fun w'=>∃u:Lat w3,w'=u.val) (by kernel_rfl) ?_;refine sgr [(0,6)] 4 (by kernel_rfl) ⟨⟨_,hW⟩,rfl⟩ ?_;simp only[pkE];repeat go_big_quiet_step (fail)
 refine wpQuiet_nil ?_;refine cla 6 (some 40) 129 #[G va ps.length vc,H Q kn] 3 (by kernel_rfl) ?_;refine(af.out _ (ag.out.below (b1.trans (hW.mono b1.size))) (HH.out.below (b1.trans (hW.mono b1.size)))).mono ?_;rintro e w9 ⟨vq,qs,rfl,eq,oq,_,_,N⟩;replace hW:=hW.trans (N.mono hW.size);obtain⟨xa,xc,rfl⟩:=oq.shape;clear N;refine⟨_,rfl,⟨⟨_,hW⟩,rfl⟩,?_⟩;simp only[Vh,pjE];refine qta 7 (some 41) (G xa qs.length xc) 2 (by kernel_rfl) (fun u _=>by kernel_rfl) ⟨⟨_,hW⟩,rfl⟩ ?_;simp only[Vh,pjE];refine cla 8 (some 42) 128 #[G a0 done.length k0,G xa qs.length xc] 1 (by kernel_rfl) ?_;refine(ai.out _ qs _ ((ah.out _ (b1.trans (hW.mono b1.size))).1) oq.at eq).mono ?_;rintro e w9 ⟨rfl,N⟩;replace hW:=hW.trans (N.mono hW.size);clear N;refine⟨_,rfl,⟨⟨_,hW⟩,rfl⟩,?_⟩;simp only[Vh,pjE];refine sgr [(9,1)] 0 (by kernel_rfl) ⟨⟨_,hW⟩,rfl⟩ ?_;simp only[pkE];repeat go_big_quiet_step (fail)
 refine wpQuiet_nil ?_;refine z0g (by kernel_rfl) ?_;have b2:=b1.trans (hW.mono b1.size);clear c0 c1 c2 c3 c4 c5 c6;clear oq hW ak;rcases HW.out with⟨e1,e2⟩|⟨e1,e2⟩
 ·rw[eq,e1];clear HW
  go_wp2
  go_ret;exact⟨by first|(rw[e2];done)|(rw[e2];rfl),b2⟩
 ·rw[eq,e1];clear HW
  go_wp2
  go_ret;exact⟨by first|(rw[e2];done)|(rw[e2];rfl),b2⟩
theorem q3z{α:Type}{f:α→Nat}:∀ {l:List α} {p:α},p∈l→f p≤nmL f l
 |x::r,p,h=>by
  have e:nmL f (x::r)=f x+nmL f r:=by simp[nmL]
  rcases List.mem_cons.1 h with rfl|h
  ·omega
  ·have:=q3z (f:=f) h;omega
theorem z5d(p:RepQ)(w:World)(h:repK.own w p)(hl:p.n≤1048576)(ag:(∀t∈p.done,0<t.acts.length)∧∀t∈p.tent,0<t.acts.length):
  Calls o 78 #[.agg #[p.vd,p.vb,p.vt,p.vu,p.vn]] w fun e w'=>∃p':RepQ,e=.returned (.agg #[p'.vd,p'.vb,p'.vt,p'.vu,p'.vn])∧p'.e=p.e∧repK.own w' p'∧(repK.foot p').Nodup∧(∀k∈repK.foot p',w.heap.size≤k)∧Below w.heap.size w w':=by
 obtain⟨vd,ds,vb,xs,vt,ts,vu,us,vn,ys⟩:=p;obtain⟨na,nc,rfl⟩:∃a c,vd=G a ds.length c:=h.1.shape;obtain⟨ia,ic,rfl⟩:∃a c,vb=G a xs.length c:=h.2.1.shape;obtain⟨ua,uc,rfl⟩:∃a c,vt=G a ts.length c:=h.2.2.1.shape;obtain⟨la,lc,rfl⟩:∃a c,vu=G a us.length c:=h.2.2.2.1.shape;obtain⟨ja,jc,rfl⟩:∃a c,vn=G a ys.length c:=h.2.2.2.2.shape;dsimp only[RepQ.n]at hl;dsimp only at ag;obtain⟨o1,o2,o3,o4,o5⟩:txnK.Own w (G na ds.length nc) ds∧itemK.Own w (G ia xs.length ic) xs∧txnK.Own w (G ua ts.length uc) ts∧ussK.Own w (G la us.length lc) us∧itemK.Own w (G ja ys.length jc) ys:=h;have nI:=o2.niceV _ _ _ rfl;have nJ:=o5.niceV _ _ _ rfl;have ba:∀p∈us,z4I p.va:=fun p hp=>(show undoK.Own w p.va p.us from o4.2 p hp).niceV
 have dN:=o1.at;have jN:=o2.at;have dT:=o3.at;have dU:=o4.at;have jU:=o5.at;have bi:∀p∈us,p.us.length≤1048576:=fun p hp=>by
  have:=q3z (f:=USQ.n) hp;have e:USQ.n p=p.us.length:=rfl;omega
 have bz:us.length≤1048576:=by omega
 have HU:Hid ((us.map USQ.e=us.map USQ.e)):=show _=_ from rfl
 obtain⟨aW,aX⟩:=ag;clear o1 o2 o3 o4 o5 HU;have T:Below w.heap.size w ((w.alloc (.cells #[G na ds.length nc,G ia xs.length ic,G ua ts.length uc,G la us.length lc,G ja ys.length jc] 55)).alloc (.cells #[G none 0 0,G none 0 0,G none 0 0,G none 0 0,G none 0 0] 55)):=by go_grown
 have B:=(Vg w 55 #[G na ds.length nc,G ia xs.length ic,G ua ts.length uc,G la us.length lc,G ja ys.length jc]).below (w':=(w.alloc (.cells #[G na ds.length nc,G ia xs.length ic,G ua ts.length uc,G la us.length lc,G ja ys.length jc] 55)).alloc (.cells #[G none 0 0,G none 0 0,G none 0 0,G none 0 0,G none 0 0] 55)) (by go_grown);have Bv:=Vg (w.alloc (.cells #[G na ds.length nc,G ia xs.length ic,G ua ts.length uc,G la us.length lc,G ja ys.length jc] 55)) 55 #[G none 0 0,G none 0 0,G none 0 0,G none 0 0,G none 0 0];rw[World.size_alloc]at Bv;replace dN:=dN.below T;replace dT:=dT.below T;replace dU:=dU.below T;replace jN:=jN.below T;replace jU:=jU.below T;have bQ:w.heap.size+2≤((w.alloc (.cells #[G na ds.length nc,G ia xs.length ic,G ua ts.length uc,G la us.length lc,G ja ys.length jc] 55)).alloc (.cells #[G none 0 0,G none 0 0,G none 0 0,G none 0 0,G none 0 0] 55)).heap.size:=by simp only[World.size_alloc];omega
 go_enter func78,ntmps78
 go_wp2_with fail
 generalize (w.alloc (.cells #[G na ds.length nc,G ia xs.length ic,G ua ts.length uc,G la us.length lc,G ja ys.length jc] 55)).alloc (.cells #[G none 0 0,G none 0 0,G none 0 0,G none 0 0,G none 0 0] 55)=X at*;generalize bM:w.heap.size=rc at*;obtain⟨f0,f1,f2,f3,f4⟩:=B.lts5;have aJ:=fun(w':World) (hb:Below X.heap.size X w')=>z1s (G na ds.length nc) ds w' (dN.below hb) aW (by omega)
 have aK:=fun(w':World) (hb:Below X.heap.size X w')=>z1D ia ic xs w' (jN.below hb) nI (by omega)
 have aL:=fun(w':World) (hb:Below X.heap.size X w')=>z1s (G ua ts.length uc) ts w' (dT.below hb) aX (by omega)
 have aM:=fun(w':World) (hb:Below X.heap.size X w')=>z1D ja jc ys w' (jU.below hb) nJ (by omega)
 refine z1m [some 6,some 7,some 8,some 9,some 10,some 11,some 12,some 13,some 14,some 15,some 16,some 17,some 18,some 3] (fun vs w'=>∃ (a1:Option Addr) (k1:Nat) (b1:Option Addr) (c1:Nat) (a3:Option Addr) (k3:Nat) (b2:Option Addr) (c2 g:Nat) (q1 q3:List TxnQ),vs=[.pointer (some ⟨rc,0,none⟩),G na ds.length nc,G a1 q1.length k1,.pointer (some ⟨rc,1,none⟩),G ia xs.length ic,G b1 xs.length c1,.pointer (some ⟨rc,2,none⟩),G ua ts.length uc,G a3 q3.length k3,.pointer (some ⟨rc,4,none⟩),G ja ys.length jc,G b2 ys.length c2,.agg #[G a1 q1.length k1,G b1 xs.length c1,G a3 q3.length k3,G none 0 0,G b2 ys.length c2],.pointer (some ⟨g,0,none⟩)]∧X.heap.size≤g∧Blk w' g 55 #[G a1 q1.length k1,G b1 xs.length c1,G a3 q3.length k3,G none 0 0,G b2 ys.length c2]∧q1.map Va=ds.map Va∧q3.map Va=ts.map Va∧Four X w' g (G a1 q1.length k1) (G b1 xs.length c1) (G a3 q3.length k3) (G b2 ys.length c2) q1 q3 xs ys∧Below X.heap.size X w') ?_ ?_
 ·have hW:Below X.heap.size X X.drew:=(Below.refl _ _).drew;have bL:Nonempty (Lat X):=⟨⟨X,Below.refl _ _⟩⟩
  refine z0b (S:=fun w'=>∃u:Lat X,w'=u.val) (by kernel_rfl) ?_;refine sgr [(0,2),(3,2),(6,2),(9,2)] 7 (by kernel_rfl) ⟨⟨_,hW⟩,rfl⟩ ?_;simp only[pkE];repeat go_big_quiet_step (fail)
  refine wpQuiet_nil ?_;clear f0 f1 f2 f3 f4;generalize X.drew=x at hW⊢;refine twa 2 13 6 (by kernel_rfl) ?_ ?_
  rotate_left
  focus
   refine z1O 13 _ rfl ?_;have Bz:=Vg x 55 #[G none 0 0,G none 0 0,G none 0 0,G none 0 0,G none 0 0];have ai:X.heap.size≤x.heap.size:=hW.size;have d:Below x.heap.size x (x.alloc (.cells #[G none 0 0,G none 0 0,G none 0 0,G none 0 0,G none 0 0] 55)):=by go_grown
   replace hW:=hW.trans (d.mono hW.size);clear d
   go_wp2
   refine ThenGo.to ⟨⟨⟨_,hW⟩,rfl⟩,?_⟩;generalize C:x.heap.size=g at*;generalize x.alloc (.cells #[G none 0 0,G none 0 0,G none 0 0,G none 0 0,G none 0 0] 55)=x at*;clear C
  all_goals first|refine cla 2 (some 8) 86 #[G na ds.length nc] 5 (by kernel_rfl) ?_|refine opc 2 (some 8) 86 #[G na ds.length nc] (by kernel_rfl) ?_
  all_goals
   refine(aJ _ hW).mono ?_;rintro e x ⟨v1,q1,rfl,e1,o1,n1,g1,hb⟩;obtain⟨a1,k1,rfl⟩:=o1.shape;try have A:∀k∈txnK.fp (G a1 q1.length k1) q1,k≠g:=fun k hk=>by have:=g1 k hk;have:=Bz.lt;omega
   try replace Bz:=Bz.below hb
   obtain⟨m1,M1,bp,br,bA,aa,z⟩:∃m M,(∀k∈txnK.fp (G a1 q1.length k1) q1,m≤k)∧X.heap.size≤m∧m≤M∧(∀k∈txnK.fp (G a1 q1.length k1) q1,k<M)∧M≤x.heap.size:=⟨_,x.heap.size,g1,hW.size,hb.size,fun k hk=>o1.lt k hk,Nat.le_refl _⟩
   replace hW:=hW.trans (hb.mono hW.size);clear hb g1;refine⟨_,rfl,⟨⟨_,hW⟩,rfl⟩,?_⟩;simp only[Vh,pgE,pjE]
  rotate_right
  refine twa 5 13 5 (by kernel_rfl) ?_ ?_
  rotate_left
  focus
   refine z1O 13 _ rfl ?_;have Bz:=Vg x 55 #[G none 0 0,G none 0 0,G none 0 0,G none 0 0,G none 0 0];have ai:X.heap.size≤x.heap.size:=hW.size;have d:Below x.heap.size x (x.alloc (.cells #[G none 0 0,G none 0 0,G none 0 0,G none 0 0,G none 0 0] 55)):=by go_grown
   have A:∀k∈txnK.fp (G a1 q1.length k1) q1,k≠x.heap.size:=fun k hk=>by have:=aa k hk;omega
   replace o1:=o1.below d;replace z:=Nat.le_trans z d.size;replace hW:=hW.trans (d.mono hW.size);clear d
   go_wp2
   refine ThenGo.to ⟨⟨⟨_,hW⟩,rfl⟩,?_⟩;generalize C:x.heap.size=g at*;generalize x.alloc (.cells #[G none 0 0,G none 0 0,G none 0 0,G none 0 0,G none 0 0] 55)=x at*;clear C
  all_goals first|refine cla 5 (some 11) 132 #[G ia xs.length ic] 4 (by kernel_rfl) ?_|refine opc 5 (some 11) 132 #[G ia xs.length ic] (by kernel_rfl) ?_
  all_goals
   refine(aK _ hW).mono ?_;rintro e x ⟨b1,c1,rfl,o2,g2,hb⟩;try have D:∀k∈blk (G b1 xs.length c1),k≠g:=fun k hk=>by have:=g2 k hk;have:=Bz.lt;omega
   try replace Bz:=Bz.below hb
   obtain⟨m2,M2,aZ,bs,bv,bB,ae,z⟩:∃m M,(∀k∈blk (G b1 xs.length c1),m≤k)∧X.heap.size≤m∧M1≤m∧m≤M∧(∀k∈blk (G b1 xs.length c1),k<M)∧M≤x.heap.size:=⟨_,x.heap.size,g2,hW.size,z,hb.size,fun k hk=>z0E o2.1 k hk,Nat.le_refl _⟩
   replace o1:=o1.below hb;replace hW:=hW.trans (hb.mono hW.size);clear hb g2;refine⟨_,rfl,⟨⟨_,hW⟩,rfl⟩,?_⟩;simp only[Vh,pgE,pjE]
  rotate_right
  refine twa 8 13 4 (by kernel_rfl) ?_ ?_
  rotate_left
  focus
   refine z1O 13 _ rfl ?_;have Bz:=Vg x 55 #[G none 0 0,G none 0 0,G none 0 0,G none 0 0,G none 0 0];have ai:X.heap.size≤x.heap.size:=hW.size;have d:Below x.heap.size x (x.alloc (.cells #[G none 0 0,G none 0 0,G none 0 0,G none 0 0,G none 0 0] 55)):=by go_grown
   have A:∀k∈txnK.fp (G a1 q1.length k1) q1,k≠x.heap.size:=fun k hk=>by have:=aa k hk;omega
   replace o1:=o1.below d;have D:∀k∈blk (G b1 xs.length c1),k≠x.heap.size:=fun k hk=>by have:=ae k hk;omega
   replace o2:=o2.below d;replace z:=Nat.le_trans z d.size;replace hW:=hW.trans (d.mono hW.size);clear d
   go_wp2
   refine ThenGo.to ⟨⟨⟨_,hW⟩,rfl⟩,?_⟩;generalize C:x.heap.size=g at*;generalize x.alloc (.cells #[G none 0 0,G none 0 0,G none 0 0,G none 0 0,G none 0 0] 55)=x at*;clear C
  all_goals first|refine cla 8 (some 14) 86 #[G ua ts.length uc] 3 (by kernel_rfl) ?_|refine opc 8 (some 14) 86 #[G ua ts.length uc] (by kernel_rfl) ?_
  all_goals
   refine(aL _ hW).mono ?_;rintro e x ⟨v3,q3,rfl,e3,o3,n3,g3,hb⟩;obtain⟨a3,k3,rfl⟩:=o3.shape;try have J:∀k∈txnK.fp (G a3 q3.length k3) q3,k≠g:=fun k hk=>by have:=g3 k hk;have:=Bz.lt;omega
   try replace Bz:=Bz.below hb
   obtain⟨m3,M3,av,bt,bw,bC,ap,z⟩:∃m M,(∀k∈txnK.fp (G a3 q3.length k3) q3,m≤k)∧X.heap.size≤m∧M2≤m∧m≤M∧(∀k∈txnK.fp (G a3 q3.length k3) q3,k<M)∧M≤x.heap.size:=⟨_,x.heap.size,g3,hW.size,z,hb.size,fun k hk=>o3.lt k hk,Nat.le_refl _⟩
   replace o1:=o1.below hb;replace o2:=o2.below hb;replace hW:=hW.trans (hb.mono hW.size);clear hb g3;refine⟨_,rfl,⟨⟨_,hW⟩,rfl⟩,?_⟩;simp only[Vh,pgE,pjE]
  rotate_right
  refine twa 11 13 3 (by kernel_rfl) ?_ ?_
  rotate_left
  focus
   refine z1O 13 _ rfl ?_;have Bz:=Vg x 55 #[G none 0 0,G none 0 0,G none 0 0,G none 0 0,G none 0 0];have ai:X.heap.size≤x.heap.size:=hW.size;have d:Below x.heap.size x (x.alloc (.cells #[G none 0 0,G none 0 0,G none 0 0,G none 0 0,G none 0 0] 55)):=by go_grown
   have A:∀k∈txnK.fp (G a1 q1.length k1) q1,k≠x.heap.size:=fun k hk=>by have:=aa k hk;omega
   replace o1:=o1.below d;have D:∀k∈blk (G b1 xs.length c1),k≠x.heap.size:=fun k hk=>by have:=ae k hk;omega
   replace o2:=o2.below d;have J:∀k∈txnK.fp (G a3 q3.length k3) q3,k≠x.heap.size:=fun k hk=>by have:=ap k hk;omega
   replace o3:=o3.below d;replace z:=Nat.le_trans z d.size;replace hW:=hW.trans (d.mono hW.size);clear d
   go_wp2
   refine ThenGo.to ⟨⟨⟨_,hW⟩,rfl⟩,?_⟩;generalize C:x.heap.size=g at*;generalize x.alloc (.cells #[G none 0 0,G none 0 0,G none 0 0,G none 0 0,G none 0 0] 55)=x at*;clear C
  all_goals first|refine cla 11 (some 17) 132 #[G ja ys.length jc] 2 (by kernel_rfl) ?_|refine opc 11 (some 17) 132 #[G ja ys.length jc] (by kernel_rfl) ?_
  all_goals
   refine(aM _ hW).mono ?_;rintro e x ⟨b2,c2,rfl,o4,g4,hb⟩;try have V:∀k∈blk (G b2 ys.length c2),k≠g:=fun k hk=>by have:=g4 k hk;have:=Bz.lt;omega
   try replace Bz:=Bz.below hb
   obtain⟨m4,M4,aj,bu,bx,bD,bc,z⟩:∃m M,(∀k∈blk (G b2 ys.length c2),m≤k)∧X.heap.size≤m∧M3≤m∧m≤M∧(∀k∈blk (G b2 ys.length c2),k<M)∧M≤x.heap.size:=⟨_,x.heap.size,g4,hW.size,z,hb.size,fun k hk=>z0E o4.1 k hk,Nat.le_refl _⟩
   replace o1:=o1.below hb;replace o2:=o2.below hb;replace o3:=o3.below hb;replace hW:=hW.trans (hb.mono hW.size);clear hb g4;refine⟨_,rfl,⟨⟨_,hW⟩,rfl⟩,?_⟩;simp only[Vh,pgE,pjE]
  rotate_right
  focus
   refine sgr [(12,1)] 2 (by kernel_rfl) ⟨⟨_,hW⟩,rfl⟩ ?_;simp only[pkE];repeat go_big_quiet_step (fail)
   refine wpQuiet_nil ?_;refine ona 13 1 rfl (by kernel_rfl) ?_;have Bz:=Vg x 55 #[G none 0 0,G none 0 0,G none 0 0,G none 0 0,G none 0 0];have ai:X.heap.size≤x.heap.size:=hW.size;have d:Below x.heap.size x (x.alloc (.cells #[G none 0 0,G none 0 0,G none 0 0,G none 0 0,G none 0 0] 55)):=by go_grown
   have A:∀k∈txnK.fp (G a1 q1.length k1) q1,k≠x.heap.size:=fun k hk=>by have:=aa k hk;omega
   replace o1:=o1.below d;have D:∀k∈blk (G b1 xs.length c1),k≠x.heap.size:=fun k hk=>by have:=ae k hk;omega
   replace o2:=o2.below d;have J:∀k∈txnK.fp (G a3 q3.length k3) q3,k≠x.heap.size:=fun k hk=>by have:=ap k hk;omega
   replace o3:=o3.below d;have V:∀k∈blk (G b2 ys.length c2),k≠x.heap.size:=fun k hk=>by have:=bc k hk;omega
   replace o4:=o4.below d;replace z:=Nat.le_trans z d.size;replace hW:=hW.trans (d.mono hW.size);clear d
   go_wp2
   refine ThenGo.to ⟨⟨⟨_,hW⟩,rfl⟩,?_⟩;generalize C:x.heap.size=g at*;generalize x.alloc (.cells #[G none 0 0,G none 0 0,G none 0 0,G none 0 0,G none 0 0] 55)=x at*;clear C
  iterate 4
   rotate_left
   focus
    refine sgr [(12,1)] 1 (by kernel_rfl) ⟨⟨_,hW⟩,rfl⟩ ?_;simp only[pkE];repeat go_big_quiet_step (fail)
    refine wpQuiet_nil ?_
  all_goals
   refine ona 14 0 rfl (by kernel_rfl) ?_;have aO:X.heap.size≤g:=by omega
   have Rz:=Bz.row #[G a1 q1.length k1,G b1 xs.length c1,G a3 q3.length k3,G none 0 0,G b2 ys.length c2];have z1:=o1.out (z0v _ g #[G a1 q1.length k1,G b1 xs.length c1,G a3 q3.length k3,G none 0 0,G b2 ys.length c2]) (fun k hk=>by simp only[Vf];exact A k hk);have z2:=o2.out (z0v _ g #[G a1 q1.length k1,G b1 xs.length c1,G a3 q3.length k3,G none 0 0,G b2 ys.length c2]) (fun k hk=>by rw[z0q]at hk;simp only[Vf];exact D k hk);have z3:=o3.out (z0v _ g #[G a1 q1.length k1,G b1 xs.length c1,G a3 q3.length k3,G none 0 0,G b2 ys.length c2]) (fun k hk=>by simp only[Vf];exact J k hk);have z4:=o4.out (z0v _ g #[G a1 q1.length k1,G b1 xs.length c1,G a3 q3.length k3,G none 0 0,G b2 ys.length c2]) (fun k hk=>by rw[z0q]at hk;simp only[Vf];exact V k hk);replace hW:=z0m hW aO #[G a1 q1.length k1,G b1 xs.length c1,G a3 q3.length k3,G none 0 0,G b2 ys.length c2];have aP:∀k∈txnK.fp (G a1 q1.length k1) q1,k<m2:=fun k hk=>by have:=aa k hk;omega
   have aQ:∀k∈blk (G b1 xs.length c1),k<m3:=fun k hk=>by have:=ae k hk;omega
   have aR:∀k∈txnK.fp (G a3 q3.length k3) q3,k<m4:=fun k hk=>by have:=ap k hk;omega
   have FO:Four X _ g (G a1 q1.length k1) (G b1 xs.length c1) (G a3 q3.length k3) (G b2 ys.length c2) q1 q3 xs ys:=⟨z1,z2,z3,z4,List.nodup_append.2 ⟨n1,List.nodup_append.2 ⟨z0x _,List.nodup_append.2 ⟨n3,z0x _,z3s (m:=m4) aR aj⟩,z3s (m:=m3) aQ (fun k hk=>by rcases List.mem_append.1 hk with hk | hk <;> first | (have:=av k hk;omega) | (have:=aj k hk;omega))⟩,z3s (m:=m2) aP (fun k hk=>by rcases List.mem_append.1 hk with hk | hk <;> first | (have:=aZ k hk;omega) | (rcases List.mem_append.1 hk with hk | hk <;> first | (have:=av k hk;omega) | (have:=aj k hk;omega)))⟩,fun k hk=>by
    rcases List.mem_append.1 hk with hk|hk
    ·exact⟨by have:=bp k hk;omega,A k hk⟩
    rcases List.mem_append.1 hk with hk|hk
    ·exact⟨by have:=aZ k hk;omega,D k hk⟩
    rcases List.mem_append.1 hk with hk|hk
    ·exact⟨by have:=av k hk;omega,J k hk⟩
    ·exact ⟨by have:=aj k hk;omega,V k hk⟩⟩
   refine z0s (by kernel_rfl) 55 _ _ rfl _ #[G a1 q1.length k1,G b1 xs.length c1,G a3 q3.length k3,G none 0 0,G b2 ys.length c2] rfl rfl 55 _ Bz q3r rfl (by simp[Value.oneCell']) ?_;refine ThenGo.to ⟨⟨⟨_,hW⟩,rfl⟩,?_⟩;refine z0g (by kernel_rfl) ?_;refine⟨rfl,_,⟨a1,k1,b1,c1,a3,k3,b2,c2,g,q1,q3,rfl,aO,Rz,e1,e3,FO,hW⟩,?_⟩;simp only[z1P,Vh,pgE,pjE];try rfl
 rintro vs w5 ⟨a1,k1,b1,c1,a3,k3,b2,c2,g,q1,q3,rfl,bI,Bg,e1,e3,FO,O⟩;simp only[z1P,Vh,pjE];clear f0 f1 f2 f3 f4 aJ aK aL aM dN dT jN jU nI nJ;have bJ:=Bg.lt;have az:=(B.below O)
 have x2:=az.cell 3 _ rfl;have bK:(us.length:Int)≤1048576:=by omega
 obtain⟨aT,aU⟩:=Kind.own_nil (K:=ussK) w5;have ax:Hid ((ussK.fp (G none 0 0) ([]:List USQ)).Nodup∧∀k∈ussK.fp (G none 0 0) ([]:List USQ),w5.heap.size≤k):=by
  rw[aU];exact⟨by simp,by simp⟩
 clear aU
 go_wp2
 clear x2 az;go_loopw[22] (fun j wr=>∃ (k:Nat) (vu:Value) (qs:List USQ),k≤us.length∧j=H Q k∧Blk wr g 55 #[G a1 q1.length k1,G b1 xs.length c1,G a3 q3.length k3,vu,G b2 ys.length c2]∧ussK.Own wr vu qs∧Hid (qs.map USQ.e=(us.take k).map USQ.e)∧Hid ((ussK.fp vu qs).Nodup∧∀x∈ussK.fp vu qs,w5.heap.size≤x)∧Out [g] w5 wr) (fun j _=>us.length-(intOf j).toNat)
 case atStart=>exact⟨0,_,[],Nat.zero_le _,rfl,Bg,aT,(rfl:_=_),ax,Out.refl _ _⟩
 case round=>
  clear ax aT Bg;obtain⟨k,vu,qs,hk,rfl,Bg,hO,HE,HN,hU⟩:=hrel;obtain⟨sa,sc,rfl⟩:=hO.shape;have aG:Below X.heap.size X wr:=Out.keep O hU O.size (fun x hx=>by simp only[Vf]at hx;omega);have bN:=hU.size;have ay:Hid (qs.length=k):=by
   have:=congrArg List.length HE.out;rw[Vc,Vc,List.length_take]at this;show qs.length=k;omega
  by_cases af:k<us.length
  ·obtain⟨b,bq,rfl,bH,aN,bh⟩:=(dU.below aG).cell (by decide) k af;have c0:wr.cell? ⟨b,bq+k*1+0,none⟩=some us[k].va:=aN 0 _ rfl;rw[Nat.mul_one,Nat.add_zero]at c0;have aY:=bi _ (Vi af);have bj:=ba _ (Vi af);have an:Hid (∀p':USQ,p'.us=USQ.us us[k]→(qs++[p']).map USQ.e=(us.take (k+1)).map USQ.e):=fun p' bg=>by
    rw[List.take_succ_eq_append_getElem af,List.map_append,List.map_append,HE.out,List.map_singleton,List.map_singleton];show _++[p'.us]=_++[USQ.us us[k]]
    rw[bg]
   have aS:(k:Int)<(us.length:Int):=by omega
   clear aN HE;generalize us[k]=p at*;obtain⟨lv,y⟩:=p;have au:undoK.At wr lv y:=bh;obtain⟨ta,tc,rfl⟩:=au.shape;have bf:=bj _ _ _ rfl;dsimp only at c0 an aY;have aD:=hU;have bE:=hO.lt
   go_wp2_with fail
   clear c0;generalize bG:wr=Y at*;generalize hP:(fun u:World=>Blk u g 55 #[G a1 q1.length k1,G b1 xs.length c1,G a3 q3.length k3,G sa qs.length sc,G b2 ys.length c2])=PP;have aA:PP Y:=by subst hP;exact Bg
   have a8:∀u:KeepP PP,u.val.cell? ⟨g,3,none⟩=some (G sa qs.length sc):=fun u=>by have:=u.isP;subst hP;exact this.cell 3 _ rfl
   have ag:Nonempty (KeepP PP):=⟨⟨Y,aA⟩⟩
   refine z30 (S:=fun w'=>∃u:KeepP PP,w'=u.val) (R:=fun _ _=>False) 7 (by kernel_rfl) (fun _ _ _ _ h=>h.elim) ?_;have aC:PP Y.drew:=by subst hP;exact Bg
   refine sgX [(0,3)] 5 (by kernel_rfl) ⟨⟨Y.drew,aC⟩,rfl⟩ ?_;simp only[pkE];repeat go_big_quiet_step (fail)
   refine wpQuiet_nil ?_;clear a8 ag aA;have hW:Below Y.heap.size Y Y.drew:=(Below.refl _ _).drew;refine clX 3 (some 29) 133 #[G ta y.length tc] 4 (by kernel_rfl) rfl ?_;refine(z3x ta tc y _ (au.below hW) bf aY).mono ?_;rintro e w7 ⟨a7,c7,rfl,o7,l7,aI⟩;have hD:=hW.size;replace hW:=hW.trans (aI.mono hW.size);replace Bg:=Bg.below hW;have aw:=hO.lt;replace hO:=hO.below hW;have aE:=aD.trans (Out.of_below (F:=[g]) hW);have bO:=hW.size;clear aI aC;refine Or.inl ⟨_,rfl,⟨⟨_,by subst hP;exact Bg⟩,rfl⟩,?_⟩;simp only[Vh,pgE,pjE];refine onX 4 3 rfl (by kernel_rfl) ?_;have U:Below w7.heap.size w7 (w7.alloc (.cells #[G a7 y.length c7] 157)):=by go_grown
   have al:∀j u,[Value.slice a7 y.length c7][j]?=some u→(w7.alloc (.cells #[G a7 y.length c7] 157)).cell? ((⟨w7.heap.size,0,none⟩:Addr).add j)=some u:=by
    intro j u hj;match j,hj with|0,hj=>simp at hj;subst hj;simp[Addr.add]
   go_wp2
   replace Bg:=Bg.below U;have ao:=hO.below U;have aB:ussK.own (w7.alloc (.cells #[G a7 y.length c7] 157)) (⟨G a7 y.length c7,y⟩:USQ):=o7.below U;have N:=aE.trans (Out.of_below (F:=[g]) U);have bP:=U.size;refine ThenX.to ⟨Or.inr ⟨⟨_,by subst hP;exact Bg⟩,rfl⟩,?_⟩;generalize w7.alloc (.cells #[G a7 y.length c7] 157)=WA at*;have ab:=ao.1;obtain⟨i0,hi,bk,bl,bm⟩:=info_parts z2W;refine onX 5 2 rfl (by kernel_rfl) ?_;refine wpList_append_own_at _ rfl _ _ 53 rfl 0 157 i0 (G none 0 0) 1 24 Tryz.underlying53 hi bk bl bm rfl (by decide) _ qs.length (ussK.row qs) rfl ab ⟨w7.heap.size,0,none⟩ 1 1 [G a7 y.length c7] rfl rfl al ?c2 ?c3 ?c4 ?c5 ?_
   case c2=>intro u hu;simp at hu;subst hu;rfl
   case c3=>have:=ay.out;unfold maxLen;omega
   case c4=>have:=ay.out;omega
   case c5=>omega
   intro v' wc ak Z _ aH;have W:∀x∈ussK.foot (⟨G a7 y.length c7,y⟩:USQ),Y.heap.size≤x:=fun x hx=>by
    have ah:x∈undoK.fp (G a7 y.length c7) y:=hx;rw[z0M]at ah;have:=l7 x ah;omega
   obtain⟨ad,aq,L,I⟩:=ao.snoc HN.out.1 HN.out.2 aB (by show(undoK.fp _ _).Nodup;rw[z0M];exact z0x _) (fun x hx ah=>by have:=aw x ah;have:=W x hx;omega) (fun x hx=>by have:=W x hx;omega) (by omega) ak Z aH;obtain⟨a9,c9,rfl⟩:=ad.shape;have be:(qs++[(⟨G a7 y.length c7,y⟩:USQ)]).length=qs.length+1:=by simp
   rw[be]at ad aq L;have ar:∀x∈blk (G sa qs.length sc),w5.heap.size≤x:=fun x hx=>HN.out.2 x (by simp only[Kind.fp,List.mem_append];exact Or.inl hx)
   have bb:g∉blk (G sa qs.length sc):=fun hx=>by have:=ar g hx;omega
   replace Bg:=Bg.outs8 I bb;have aF:Out [g] w5 wc:=⟨I.os.trans N.os,I.tape.trans N.tape,I.output.trans N.output,Nat.le_trans N.size I.size,fun x hx hn=>(I.block x (by omega) (fun e=>by have:=ar x e;omega)).trans (N.block x hx hn)⟩
   go_wp2
   refine ThenX.to ⟨Or.inr ⟨⟨_,by subst hP;exact Bg⟩,rfl⟩,?_⟩;clear ak Z aH ab al ao aB U;refine onX 6 1 rfl (by kernel_rfl) ?_
   go_wp2
   refine ThenX.to ⟨Or.inr ⟨⟨_,by subst hP;exact Bg⟩,rfl⟩,?_⟩;refine onX 7 0 rfl (by kernel_rfl) ?_;have bn:=Bg.cell 3 _ rfl;have bo:=Bg.frozen 3
   go_wp2
   clear bn bo;refine ThenX.to ⟨Or.inl (by kernel_rfl),?_⟩;refine q4c (by kernel_rfl) ?_;have B9:Blk (wc.setCell ⟨g,3,none⟩ (G a9 (qs.length+1) c9)) g 55 #[G a1 q1.length k1,G b1 xs.length c1,G a3 q3.length k3,G a9 (qs.length+1) c9,G b2 ys.length c2]:=by
    have:=Bg.set 3 (G a9 (qs.length+1) c9);simpa using this
   have O9:=ad.out (Vj wc g 3 (G a9 (qs.length+1) c9)) (fun x hx e=>by simp only[Vf]at e;have:=L x hx;omega);have U9:=aF.trans (Vj wc g 3 (G a9 (qs.length+1) c9));have a2:Hid ((qs++[(⟨G a7 y.length c7,y⟩:USQ)]).map USQ.e=(us.take (k+1)).map USQ.e):=an.out _ rfl;have a6:Hid ((ussK.fp (G a9 (qs.length+1) c9) (qs++[(⟨G a7 y.length c7,y⟩:USQ)])).Nodup∧∀x∈ussK.fp (G a9 (qs.length+1) c9) (qs++[(⟨G a7 y.length c7,y⟩:USQ)]),w5.heap.size≤x):=⟨aq,L⟩
   have HR:Hid (_∧_∧_):=⟨B9,O9,U9⟩
   clear B9 O9 U9 Bg ad hO aF N aE aD an HN aq L I aw ar au o7 l7
   go_wp2
   go_roundw
   case rel=>exact⟨k+1,_,_,by omega,by go_num,HR.out.1,HR.out.2.1,a2,a6,HR.out.2.2⟩
   case measure=>simp[intOf];omega
  ·have bd:k=us.length:=by omega
   subst bd;have hE:=HE.out;rw[List.take_length]at hE;have aS:¬((us.length:Int)<(us.length:Int)):=by omega
   have am:=(Bv.below O).outs8 hU (fun hx=>by simp only[Vf]at hx;omega);have aV:=HN.out.1;have E:=HN.out.2;have RF:Hid (∀u0 u1 u2 u3 u4:Value,repK.own (((((wr.setCell ⟨rc+1,0,none⟩ u0).setCell ⟨rc+1,1,none⟩ u1).setCell ⟨rc+1,2,none⟩ u2).setCell ⟨rc+1,3,none⟩ u3).setCell ⟨rc+1,4,none⟩ u4) (⟨G a1 q1.length k1,q1,G b1 xs.length c1,xs,G a3 q3.length k3,q3,G sa qs.length sc,qs,G b2 ys.length c2,ys⟩:RepQ)∧Below rc w (((((wr.setCell ⟨rc+1,0,none⟩ u0).setCell ⟨rc+1,1,none⟩ u1).setCell ⟨rc+1,2,none⟩ u2).setCell ⟨rc+1,3,none⟩ u3).setCell ⟨rc+1,4,none⟩ u4)):=fun u0 u1 u2 u3 u4=>by
    have hS:Out [rc+1] wr (((((wr.setCell ⟨rc+1,0,none⟩ u0).setCell ⟨rc+1,1,none⟩ u1).setCell ⟨rc+1,2,none⟩ u2).setCell ⟨rc+1,3,none⟩ u3).setCell ⟨rc+1,4,none⟩ u4):=((((Vj wr (rc+1) 0 u0).trans (Vj _ (rc+1) 1 u1)).trans (Vj _ (rc+1) 2 u2)).trans (Vj _ (rc+1) 3 u3)).trans (Vj _ (rc+1) 4 u4);have hA:Out [g,rc+1] w5 (((((wr.setCell ⟨rc+1,0,none⟩ u0).setCell ⟨rc+1,1,none⟩ u1).setCell ⟨rc+1,2,none⟩ u2).setCell ⟨rc+1,3,none⟩ u3).setCell ⟨rc+1,4,none⟩ u4):=(hU.mono (fun x hx=>by simp only[Vf]at hx;simp[hx])).trans (hS.mono (fun x hx=>by simp only[Vf]at hx;simp[hx]));have nn:∀x,X.heap.size≤x∧x≠g→x∉[g,rc+1]:=fun x hx hm=>by
     simp only[List.mem_cons,List.not_mem_nil,or_false]at hm;omega
    refine⟨⟨FO.od.out hA (fun x hx=>nn x (FO.lo x (Ve _ hx))),FO.ob.out hA (fun x hx=>by rw[z0q]at hx;exact nn x (FO.lo x (Vd _ (Ve _ hx)))),FO.ot.out hA (fun x hx=>nn x (FO.lo x (Vd _ (Vd _ (Ve _ hx))))),hO.out hS (fun x hx e=>by simp only[Vf]at e;have:=E x hx;have:=O.size;omega),FO.on.out hA (fun x hx=>by rw[z0q]at hx;exact nn x (FO.lo x (Vd _ (Vd _ (Vd _ hx)))))⟩,?_⟩;have h1:=T.trans (aG.mono (by omega));exact Out.keep h1 hS (by omega) (fun x hx=>by simp only[Vf]at hx;omega)
   have R1:Hid ((repK.foot (⟨G a1 q1.length k1,q1,G b1 xs.length c1,xs,G a3 q3.length k3,q3,G sa qs.length sc,qs,G b2 ys.length c2,ys⟩:RepQ)).Nodup∧∀x∈repK.foot (⟨G a1 q1.length k1,q1,G b1 xs.length c1,xs,G a3 q3.length k3,q3,G sa qs.length sc,qs,G b2 ys.length c2,ys⟩:RepQ),rc≤x):=by
    have hA:=List.nodup_append.1 FO.nd;have hB:=List.nodup_append.1 hA.2.1;have hC:=List.nodup_append.1 hB.2.1;have lA:=FO.od.lt;have lB:∀x∈blk (G b1 xs.length c1),x<w5.heap.size:=z0E FO.ob.1;have lC:=FO.ot.lt;have lD:∀x∈blk (G b2 ys.length c2),x<w5.heap.size:=z0E FO.on.1;have e1:itemK.fp (G b1 xs.length c1) xs=blk (G b1 xs.length c1):=z0q _ _;have e2:itemK.fp (G b2 ys.length c2) ys=blk (G b2 ys.length c2):=z0q _ _;show List.Nodup (txnK.fp (G a1 q1.length k1) q1++(itemK.fp (G b1 xs.length c1) xs++(txnK.fp (G a3 q3.length k3) q3++(ussK.fp (G sa qs.length sc) qs++itemK.fp (G b2 ys.length c2) ys))))∧∀x∈txnK.fp (G a1 q1.length k1) q1++(itemK.fp (G b1 xs.length c1) xs++(txnK.fp (G a3 q3.length k3) q3++(ussK.fp (G sa qs.length sc) qs++itemK.fp (G b2 ys.length c2) ys))),rc≤x;rw[e1,e2];refine⟨List.nodup_append.2 ⟨hA.1,List.nodup_append.2 ⟨hB.1,List.nodup_append.2 ⟨hC.1,List.nodup_append.2 ⟨aV,hC.2.1,?_⟩,?_⟩,?_⟩,?_⟩,?_⟩
    ·intro a ha b hb e;have:=E a ha;have:=lD b hb;omega
    ·intro a ha b hb e;rcases List.mem_append.1 hb with hb|hb
     ·have:=E b hb;have:=lC a ha;omega
     ·exact hC.2.2 a ha b hb e
    ·intro a ha b hb e;rcases List.mem_append.1 hb with hb|hb
     ·exact hB.2.2 a ha b (Ve _ hb) e
     rcases List.mem_append.1 hb with hb|hb
     ·have:=E b hb;have:=lB a ha;omega
     ·exact hB.2.2 a ha b (Vd _ hb) e
    ·intro a ha b hb e;rcases List.mem_append.1 hb with hb|hb
     ·exact hA.2.2 a ha b (Ve _ hb) e
     rcases List.mem_append.1 hb with hb|hb
     ·exact hA.2.2 a ha b (Vd _ (Ve _ hb)) e
     rcases List.mem_append.1 hb with hb|hb
     ·have:=E b hb;have:=lA a ha;omega
     ·exact hA.2.2 a ha b (Vd _ (Vd _ hb)) e
    ·intro x hx;have bF:=O.size;rcases List.mem_append.1 hx with hx|hx
     ·have:=(FO.lo x (Ve _ hx)).1;omega
     rcases List.mem_append.1 hx with hx|hx
     ·have:=(FO.lo x (Vd _ (Ve _ hx))).1;omega
     rcases List.mem_append.1 hx with hx|hx
     ·have:=(FO.lo x (Vd _ (Vd _ (Ve _ hx)))).1;omega
     rcases List.mem_append.1 hx with hx|hx
     ·have:=E x hx;omega
     ·have:=(FO.lo x (Vd _ (Vd _ (Vd _ hx)))).1;omega
   have R2:Hid (RepQ.e (⟨G a1 q1.length k1,q1,G b1 xs.length c1,xs,G a3 q3.length k3,q3,G sa qs.length sc,qs,G b2 ys.length c2,ys⟩:RepQ)=(⟨ds.map Va,xs,ts.map Va,us.map USQ.e,ys⟩:RepE)):=show _=_ by
    simp only[RepQ.e,e1,e3,hE]
   clear HN HE aV E FO dU;obtain⟨r0,r1,r2,r3,r4⟩:=Bg.cel5;obtain⟨z0,z1,z2,z3,z4⟩:=am.cel5;obtain⟨g0,g1,g2,g3,g4⟩:=am.frz5;clear Bg am hO hU
   go_wp2
   exact bodyPost_ret (v:=.agg #[G a1 q1.length k1,G b1 xs.length c1,G a3 q3.length k3,G sa qs.length sc,G b2 ys.length c2]) (by simp[results,results78,go_sem,z0,z1,z2,z3,z4]) rfl ⟨(⟨G a1 q1.length k1,q1,G b1 xs.length c1,xs,G a3 q3.length k3,q3,G sa qs.length sc,qs,G b2 ys.length c2,ys⟩:RepQ),rfl,R2.out,(RF.out _ _ _ _ _).1,R1.out.1,R1.out.2,(RF.out _ _ _ _ _).2⟩
theorem q0R{t:TxnD}(h:t.F=0):0<t.acts.length:=(z04 (show txnF t.id t.session t.seq t.acts=0 from h)).1.1
theorem q5U{p:RepQ}(h:repF p.e=0):(∀t∈p.done,0<t.acts.length)∧∀t∈p.tent,0<t.acts.length:=by
 obtain⟨_,_,_,h1,h2,_⟩:=z4h h;exact⟨fun t ht=>q0R (h1 _ (List.mem_map.2 ⟨t,ht,rfl⟩)),fun t ht=>q0R (h2 _ (List.mem_map.2 ⟨t,ht,rfl⟩))⟩
theorem z72(kn sf:Int)(p:RepQ)(w:World)(hp:repK.own w p)(hl:p.n≤1048576)(ag:(∀t∈p.done,0<t.acts.length)∧∀t∈p.tent,0<t.acts.length):
  Calls o 43 #[.agg #[H Q kn,H Q sf,p.vd,p.vb,p.vt,p.vu,p.vn]] w fun e w'=>∃q:RepQ,e=.returned (.agg #[H Q kn,H Q sf,q.vd,q.vb,q.vt,q.vu,q.vn])∧q.e=p.e∧repK.own w' q∧(repK.foot q).Nodup∧(∀k∈repK.foot q,w.heap.size≤k)∧Below w.heap.size w w':=by
 have aa:=fun w h=>z5d p w h hl ag
 have ab:=fun(w':World) (hb:Below w.heap.size w w')=>repK.own_out (F:=[]) (w':=w') hp (Out.of_below hb) (fun _ _=>by simp)
 clear ag hl;generalize p.e=PE at*;obtain⟨vd,done,vb,base,vt,Y,vu,D,vn,Z⟩:=p;obtain⟨a0,k0,rfl⟩:∃a c,vd=G a done.length c:=hp.1.shape;obtain⟨a1,k1,rfl⟩:∃a c,vb=G a base.length c:=hp.2.1.shape;obtain⟨a2,k2,rfl⟩:∃a c,vt=G a Y.length c:=hp.2.2.1.shape;obtain⟨a3,k3,rfl⟩:∃a c,vu=G a D.length c:=hp.2.2.2.1.shape;obtain⟨a4,k4,rfl⟩:∃a c,vn=G a Z.length c:=hp.2.2.2.2.shape;dsimp only at aa ab;have ad:Hid _:=aa;have ae:Hid _:=ab;clear aa ab hp;have b0:Below w.heap.size w ((w.alloc (.cells #[H Q kn,H Q sf,G a0 done.length k0,G a1 base.length k1,G a2 Y.length k2,G a3 D.length k3,G a4 Z.length k4] 57)).alloc (.cells #[H Q 0,H Q 0,G none 0 0,G none 0 0,G none 0 0,G none 0 0,G none 0 0] 57)):=by go_grown
 have A:=(Vg w 57 #[H Q kn,H Q sf,G a0 done.length k0,G a1 base.length k1,G a2 Y.length k2,G a3 D.length k3,G a4 Z.length k4]).below (w':=(w.alloc (.cells #[H Q kn,H Q sf,G a0 done.length k0,G a1 base.length k1,G a2 Y.length k2,G a3 D.length k3,G a4 Z.length k4] 57)).alloc (.cells #[H Q 0,H Q 0,G none 0 0,G none 0 0,G none 0 0,G none 0 0,G none 0 0] 57)) (by go_grown);have R:=Vg (w.alloc (.cells #[H Q kn,H Q sf,G a0 done.length k0,G a1 base.length k1,G a2 Y.length k2,G a3 D.length k3,G a4 Z.length k4] 57)) 57 #[H Q 0,H Q 0,G none 0 0,G none 0 0,G none 0 0,G none 0 0,G none 0 0];simp only[World.size_alloc]at R;obtain⟨p0,p1,p2,p3,p4,p5,p6⟩:=A.cel7;go_enter func43,ntmps43
 go_wp2_with fail
 clear p0 p1 p2 p3 p4 p5 p6;generalize (w.alloc (.cells #[H Q kn,H Q sf,G a0 done.length k0,G a1 base.length k1,G a2 Y.length k2,G a3 D.length k3,G a4 Z.length k4] 57)).alloc (.cells #[H Q 0,H Q 0,G none 0 0,G none 0 0,G none 0 0,G none 0 0,G none 0 0] 57)=W at*;have aq:=R.lt;refine(ad.out W (ae.out W b0)).mono ?_;rintro e w1 ⟨q9,rfl,E0,O0,N0,G0,hb⟩;replace A:=A.below hb;replace R:=R.below hb;replace b0:=b0.trans (hb.mono b0.size);clear hb ad ae;obtain⟨am,y,al,x,ao,z,ap,d,an,C⟩:=q9;obtain⟨E,N,rfl⟩:∃a c,am=G a y.length c:=O0.1.shape;obtain⟨I,O,rfl⟩:∃a c,al=G a x.length c:=O0.2.1.shape;obtain⟨J,T,rfl⟩:∃a c,ao=G a z.length c:=O0.2.2.1.shape;obtain⟨L,U,rfl⟩:∃a c,ap=G a d.length c:=O0.2.2.2.1.shape;obtain⟨M,X,rfl⟩:∃a c,an=G a C.length c:=O0.2.2.2.2.shape;have U1:=q0w w1 w.heap.size (G E y.length N) (G I x.length O) (G J z.length T) (G L d.length U) (G M C.length X);have A2:=A.mid5 (G E y.length N) (G I x.length O) (G J z.length T) (G L d.length U) (G M C.length X);have R2:Blk _ _ _ _:=(U1.block _ R.lt (by simp)).trans R;have OW:=repK.own_out O0 U1 (fun k hk=>by have:=G0 k hk;simp;omega);have af:=Out.keep b0 U1 b0.size (fun k hk=>by simp at hk;omega);have ak:(o.info? 55).map (·.size)=some (#[G E y.length N,G I x.length O,G J z.length T,G L d.length U,G M C.length X]:Array Value).size:=by kernel_rfl
 have aj:(o.info? 57).map (·.size)=some (#[H Q kn,H Q sf,G E y.length N,G I x.length O,G J z.length T,G L d.length U,G M C.length X]:Array Value).size:=by kernel_rfl
 generalize hV:w1.setCells w.heap.size 2 [G E y.length N,G I x.length O,G J z.length T,G L d.length U,G M C.length X]=V at*;have R3:=R2.row #[H Q kn,H Q sf,G E y.length N,G I x.length O,G J z.length T,G L d.length U,G M C.length X];have U3:=z5K V (w.heap.size+1) #[H Q kn,H Q sf,G E y.length N,G I x.length O,G J z.length T,G L d.length U,G M C.length X];have ah:=repK.own_out OW U3 (fun k hk=>by have:=G0 k hk;simp;omega);have ai:=Out.keep af U3 af.size (fun k hk=>by simp at hk;omega);obtain⟨q0,q1,q2,q3,q4,q5,q6⟩:=A2.cel7
 go_wp2_with (first|(refine q4M (by kernel_rfl) 55 _ _ rfl _ 2 #[G E y.length N,G I x.length O,G J z.length T,G L d.length U,G M C.length X] rfl rfl 57 _ A ak (by simp) (by simp[Value.oneCell']) ?_;(try dsimp only);rw[hV])|(refine z0s (by kernel_rfl) 57 _ _ rfl _ #[H Q kn,H Q sf,G E y.length N,G I x.length O,G J z.length T,G L d.length U,G M C.length X] rfl rfl 57 _ R2 aj rfl (by simp[Value.oneCell']) ?_))
 obtain⟨r0,r1,r2,r3,r4,r5,r6⟩:=R3.cel7;exact bodyPost_ret (v:=.agg #[H Q kn,H Q sf,G E y.length N,G I x.length O,G J z.length T,G L d.length U,G M C.length X]) (by simp[results,results43,go_sem,r0,r1,r2,r3,r4,r5,r6]) rfl ⟨_,rfl,E0,ah,N0,fun k hk=>by have:=G0 k hk;omega,ai⟩
theorem q4T{r:RepE}(h:repF r=0):mkR r.done r.tent=r:=by
 obtain⟨h1,h2,h3,_⟩:=z4h h;obtain⟨d,b,t,u,n⟩:=r;dsimp only at h1 h2 h3;unfold mkR;dsimp only;rw[←h1,←h2,←h3]
theorem q0d(kn sf:Int)(p:RepQ)(w:World)(h:repK.own w p)(hF:repF p.e=0):
  Calls o 115 #[.agg #[H Q kn,H Q sf,p.vd,p.vb,p.vt,p.vu,p.vn]] w fun e w'=>∃q:RepQ,e=.returned (.agg #[H Q kn,H Q sf,q.vd,q.vb,q.vt,q.vu,q.vn])∧q.e=p.e∧repK.own w' q∧(repK.foot q).Nodup∧(∀k∈repK.foot q,w.heap.size≤k)∧Below w.heap.size w w':=by
 have I:=z4h hF;have hz:=(z7Y hF).1;have aa:Hid (mkR (p.done.map Va) (p.tent.map Va)=p.e):=q4T hF;have ab:=fun w h1 h2=>z62 p.vd p.vt p.done p.tent w h1 h2 (fun t ht=>I.2.2.2.1 _ (List.mem_map.2 ⟨t,ht,rfl⟩)) (fun t ht=>I.2.2.2.2.1 _ (List.mem_map.2 ⟨t,ht,rfl⟩)) (by have:=hz.1;simp[RepQ.e]at this;omega) (by have:=hz.2;simp[RepQ.e]at this;omega)
 rw[aa.out]at ab;have ad:=fun(w':World) (hb:Below w.heap.size w w')=>repK.own_out (F:=[]) (w':=w') h (Out.of_below hb) (fun _ _=>by simp)
 generalize p.e=PE at*;clear I hz hF aa;obtain⟨vd,done,vb,base,vt,A,vu,x,vn,E⟩:=p;obtain⟨a0,k0,rfl⟩:∃a c,vd=G a done.length c:=h.1.shape;obtain⟨a1,k1,rfl⟩:∃a c,vb=G a base.length c:=h.2.1.shape;obtain⟨a2,k2,rfl⟩:∃a c,vt=G a A.length c:=h.2.2.1.shape;obtain⟨a3,k3,rfl⟩:∃a c,vu=G a x.length c:=h.2.2.2.1.shape;obtain⟨a4,k4,rfl⟩:∃a c,vn=G a E.length c:=h.2.2.2.2.shape;dsimp only at ab ad;have aa:Hid _:=ab;have ae:Hid _:=ad;clear ab ad h;have hX:Below w.heap.size w (w.alloc (.cells #[H Q kn,H Q sf,G a0 done.length k0,G a1 base.length k1,G a2 A.length k2,G a3 x.length k3,G a4 E.length k4] 57)):=by go_grown
 have A0:=Vg w 57 #[H Q kn,H Q sf,G a0 done.length k0,G a1 base.length k1,G a2 A.length k2,G a3 x.length k3,G a4 E.length k4];have RB:=Vg (w.alloc (.cells #[H Q kn,H Q sf,G a0 done.length k0,G a1 base.length k1,G a2 A.length k2,G a3 x.length k3,G a4 E.length k4] 57)) 57 #[H Q 0,H Q 0,G none 0 0,G none 0 0,G none 0 0,G none 0 0,G none 0 0];have hW:Below (w.alloc (.cells #[H Q kn,H Q sf,G a0 done.length k0,G a1 base.length k1,G a2 A.length k2,G a3 x.length k3,G a4 E.length k4] 57)).heap.size (w.alloc (.cells #[H Q kn,H Q sf,G a0 done.length k0,G a1 base.length k1,G a2 A.length k2,G a3 x.length k3,G a4 E.length k4] 57)) ((w.alloc (.cells #[H Q kn,H Q sf,G a0 done.length k0,G a1 base.length k1,G a2 A.length k2,G a3 x.length k3,G a4 E.length k4] 57)).alloc (.cells #[H Q 0,H Q 0,G none 0 0,G none 0 0,G none 0 0,G none 0 0,G none 0 0] 57)):=(Below.refl _ _).alloc (Nat.le_refl _) _;have af:Hid ((w.alloc (.cells #[H Q kn,H Q sf,G a0 done.length k0,G a1 base.length k1,G a2 A.length k2,G a3 x.length k3,G a4 E.length k4] 57)).heap.size=w.heap.size+1):=World.size_alloc _ _;simp only[World.size_alloc]at RB;have b0:Below w.heap.size w ((w.alloc (.cells #[H Q kn,H Q sf,G a0 done.length k0,G a1 base.length k1,G a2 A.length k2,G a3 x.length k3,G a4 E.length k4] 57)).alloc (.cells #[H Q 0,H Q 0,G none 0 0,G none 0 0,G none 0 0,G none 0 0,G none 0 0] 57)):=by go_grown
 obtain⟨c0,c1,c2,c3,c4,c5,c6⟩:=A0.lts7;go_enter func115,ntmps115
 go_wp2_with fail
 generalize an:w.alloc (.cells #[H Q kn,H Q sf,G a0 done.length k0,G a1 base.length k1,G a2 A.length k2,G a3 x.length k3,G a4 E.length k4] 57)=X at*;have ap:Nonempty (Lat X):=⟨⟨X,Below.refl _ _⟩⟩
 generalize ao:X.alloc (.cells #[H Q 0,H Q 0,G none 0 0,G none 0 0,G none 0 0,G none 0 0,G none 0 0] 57)=Y at*;replace RB:Blk Y.drew _ _ _:=RB;replace hW:Below X.heap.size X Y.drew:=hW.drew;replace b0:Below w.heap.size w Y.drew:=b0.drew;refine z0b (S:=fun w'=>∃u:Lat X,w'=u.val) (by kernel_rfl) ?_;refine sgr [(0,10)] 3 (by kernel_rfl) ⟨⟨_,hW⟩,rfl⟩ ?_;simp only[pkE];repeat go_big_quiet_step (fail)
 refine wpQuiet_nil ?_;clear c0 c1 c2 c3 c4 c5 c6;generalize Y.drew=wd at*;refine cla 10 (some 13) 109 #[G a0 done.length k0,G a2 A.length k2] 2 (by kernel_rfl) ?_;refine(aa.out wd (ae.out wd b0).1.at (ae.out wd b0).2.2.1.at).mono ?_;rintro e w3 ⟨q9,rfl,e9,o9,n9,g9,hb⟩;have am:=RB.lt;replace RB:=RB.below hb;have aq:=b0.size;replace hW:=hW.trans (hb.mono hW.size);replace b0:=b0.trans (hb.mono b0.size);have HQ:Hid (q9.e=PE∧(repK.foot q9).Nodup∧∀k∈repK.foot q9,w.heap.size≤k∧k≠w.heap.size+1):=⟨e9,n9,fun k hk=>by have:=g9 k hk;omega⟩
 clear hb g9 e9 n9;obtain⟨ai,z,ah,y,ak,C,al,d,aj,D⟩:=q9;obtain⟨J,T,rfl⟩:∃a c,ai=G a z.length c:=o9.1.shape;obtain⟨L,U,rfl⟩:∃a c,ah=G a y.length c:=o9.2.1.shape;obtain⟨M,V,rfl⟩:∃a c,ak=G a C.length c:=o9.2.2.1.shape;obtain⟨N,W,rfl⟩:∃a c,al=G a d.length c:=o9.2.2.2.1.shape;obtain⟨O,Z,rfl⟩:∃a c,aj=G a D.length c:=o9.2.2.2.2.shape;refine⟨_,rfl,⟨⟨_,hW⟩,rfl⟩,?_⟩;simp only[Vh,pgE,pjE];refine sgr [(11,1)] 1 (by kernel_rfl) ⟨⟨_,hW⟩,rfl⟩ ?_;simp only[pkE];repeat go_big_quiet_step (fail)
 refine wpQuiet_nil ?_;refine ona 12 0 rfl (by kernel_rfl) ?_;have Rz:=RB.row #[H Q kn,H Q sf,G J z.length T,G L y.length U,G M C.length V,G N d.length W,G O D.length Z];have oz:=repK.own_out o9 (z5K _ (w.heap.size+1) #[H Q kn,H Q sf,G J z.length T,G L y.length U,G M C.length V,G N d.length W,G O D.length Z]) (fun k hk=>by have:=HQ.out.2.2 k hk;simp;omega);replace hW:=z0m (g:=w.heap.size+1) hW (by rw[af.out];exact Nat.le_refl _) #[H Q kn,H Q sf,G J z.length T,G L y.length U,G M C.length V,G N d.length W,G O D.length Z];replace b0:=z0m (g:=w.heap.size+1) b0 (by omega) #[H Q kn,H Q sf,G J z.length T,G L y.length U,G M C.length V,G N d.length W,G O D.length Z];have ag:(o.info? 57).map (·.size)=some (#[H Q kn,H Q sf,G J z.length T,G L y.length U,G M C.length V,G N d.length W,G O D.length Z]:Array Value).size:=by kernel_rfl
 refine z0s (by kernel_rfl) 57 _ _ rfl _ #[H Q kn,H Q sf,G J z.length T,G L y.length U,G M C.length V,G N d.length W,G O D.length Z] rfl rfl 57 _ RB ag rfl (by simp[Value.oneCell']) ?_;refine ThenGo.to ⟨⟨⟨_,hW⟩,rfl⟩,?_⟩;refine z0g (by kernel_rfl) ?_;obtain⟨r0,r1,r2,r3,r4,r5,r6⟩:=Rz.cel7
 go_wp2
 exact bodyPost_ret (v:=.agg #[H Q kn,H Q sf,G J z.length T,G L y.length U,G M C.length V,G N d.length W,G O D.length Z]) (by simp[results,results115,go_sem,r0,r1,r2,r3,r4,r5,r6]) rfl ⟨_,rfl,HQ.out.1,oz,HQ.out.2.1,fun k hk=>(HQ.out.2.2 k hk).1,b0⟩
theorem q0S{ds:List InstE}:∀ {ns:List NodeE},z2u ds ns=0→∀n∈ns,nodF ds n.kn n.sf n.rep=0
 |[],_,n,hn=>by simp at hn
 |m::r,h,n,hn=>by
  unfold z2u at h;by_cases h0:nodF ds m.kn m.sf m.rep=0
  ·rw[if_pos h0]at h;rcases List.mem_cons.1 hn with e|hn
   ·rw[e];exact h0
   ·exact q0S h n hn
  ·rw[if_neg h0]at h;exact absurd h h0
theorem z3i{c:CluE}(h:cluF c=0):ordF c.ord=0∧c.mem.length=3∧∀n∈c.mem,nodF c.ord n.kn n.sf n.rep=0:=by
 unfold cluF at h;by_cases h0:ordF c.ord=0
 ·rw[if_pos h0]at h;by_cases h3:c.mem.length=3
  ·rw[if_pos h3]at h;exact⟨h0,h3,q0S h⟩
  ·rw[if_neg h3]at h;exact absurd h (by decide)
 ·rw[if_neg h0]at h;exact absurd h h0
theorem q1S{q:NodeQ}{ds:List InstE}(h:nodF ds q.e.kn q.e.sf q.e.rep=0):q.n≤1000:=by
 obtain⟨_,_,_,h3,_⟩:=z71 h;obtain⟨_,_,_,h4,h5,_,_,_,_,h6,h7⟩:=z4h h3;exact z7Z (q4T h3).symm h4 h5 (by omega) (by omega)
theorem q0T{α:Type}(n:α→Nat)(c:Nat)(ps:List α)(h:∀p∈ps,n p≤c):nmL n ps≤c*ps.length:=by
 induction ps with
 |nil=>simp[nmL]
 |cons p r ih=>
  have h1:=h p (by simp);have h2:=ih (fun q hq=>h q (List.mem_cons_of_mem _ hq));simp only[nmL,List.map_cons,List.sum_cons,List.length_cons]at h2⊢;rw[Nat.mul_add];omega
theorem z4i{α:Type}(n:α→Nat)(ps:List α)(p:α)(h:p∈ps):n p≤nmL n ps:=by
 induction ps with
 |nil=>simp at h
 |cons q r ih=>
  simp only[nmL,List.map_cons,List.sum_cons];rcases List.mem_cons.1 h with rfl|h
  ·omega
  ·have:=ih h;unfold nmL at this;omega
def q64:NodeE:=⟨0,0,⟨[],[],[],[],[]⟩⟩
def ofT(c:CluE):List TxnD:=(c.mem.getD ((c.ord.length+2) % 3) q64).rep.tent
def ofB(c:CluE)(m:Int):List TxnD:=(ofT c).take m.toNat
def ofL(c:CluE):InstE:=c.ord.getD (c.ord.length-1) q0y
def ofC(c:CluE)(m:Int):Int:=if cluF c=0 then(if 1≤m∧m≤4 then(if ofT c=[]then 4 else sbC (ofL c) (ofB c m))else 3)else cluF c
def ofA(c:CluE)(m:Int):Int:=if ofC c m=0 then((ofB c m).length:Int)else 0
def ofE(c:CluE)(m:Int):CluE:=if ofC c m=0 then⟨c.ord.set (c.ord.length-1) (sbI (ofL c) (ofB c m)),c.mem⟩else⟨[],[]⟩
theorem q1T{c:CluE}{m:Int}{k:Int}(h:ofC c m=k)(h0:k≠0):ofC c m=k∧ofA c m=0∧ofE c m=⟨[],[]⟩:=by
 have hn:ofC c m≠0:=by rw[h];exact h0
 exact⟨h,if_neg hn,if_neg hn⟩
theorem q3A{c:CluE}{m:Int}(h:cluF c≠0):ofC c m=cluF c∧ofA c m=0∧ofE c m=⟨[],[]⟩:=q1T (if_neg h) h
theorem q3B{c:CluE}{m:Int}(h:cluF c=0)(h1:¬(1≤m∧m≤4)):ofC c m=3∧ofA c m=0∧ofE c m=⟨[],[]⟩:=q1T (by unfold ofC;rw[if_pos h,if_neg h1]) (by decide)
theorem q3C{c:CluE}{m:Int}(h:cluF c=0)(h1:1≤m∧m≤4)(h2:ofT c=[]):ofC c m=4∧ofA c m=0∧ofE c m=⟨[],[]⟩:=q1T (by unfold ofC;rw[if_pos h,if_pos h1,if_pos h2]) (by decide)
theorem q3D{c:CluE}{m:Int}(h:cluF c=0)(h1:1≤m∧m≤4)(h2:ofT c≠[]):ofC c m=sbC (ofL c) (ofB c m):=by unfold ofC;rw[if_pos h,if_pos h1,if_neg h2]
theorem q5V{c:CluE}{m:Int}(h:cluF c=0)(h1:1≤m∧m≤4)(h2:ofT c≠[])(h3:sbC (ofL c) (ofB c m)=0):ofC c m=0∧ofA c m=((ofB c m).length:Int)∧ofE c m=⟨c.ord.set (c.ord.length-1) (sbI (ofL c) (ofB c m)),c.mem⟩:=by
 have e:ofC c m=0:=(q3D h h1 h2).trans h3;exact⟨e,if_pos e,if_pos e⟩
theorem q3E{p:CluQ}(h:cluF p.e=0):∃ (hi:(p.ord.length+2) % 3<p.mem.length) (hj:p.ord.length-1<p.ord.length),1≤p.ord.length∧p.ord.length≤4∧ofT p.e=(p.mem[(p.ord.length+2) % 3]).tent.map Va∧ofL p.e=Vb (p.ord[p.ord.length-1])∧insF (Vb (p.ord[p.ord.length-1]))=0∧nodF p.e.ord (p.mem[(p.ord.length+2) % 3]).kn (p.mem[(p.ord.length+2) % 3]).sf (p.mem[(p.ord.length+2) % 3]).r.e=0:=by
 obtain⟨h0,h3,hn⟩:=z3i h;have hl:=((z2o _).1 h0).1;have e1:p.e.ord.length=p.ord.length:=by simp[CluQ.e]
 have e2:p.e.mem.length=p.mem.length:=by simp[CluQ.e]
 rw[e1]at hl;rw[e2]at h3;have hi:(p.ord.length+2) % 3<p.mem.length:=by omega
 have hj:p.ord.length-1<p.ord.length:=by omega
 refine⟨hi,hj,hl.1,hl.2,?_,?_,z1K h0 _ (List.mem_map.2 ⟨_,Vi hj,rfl⟩),hn _ (List.mem_map.2 ⟨_,Vi hi,rfl⟩)⟩
 ·unfold ofT;rw[e1];have:p.e.mem.getD ((p.ord.length+2) % 3) q64=NodeQ.e (p.mem[(p.ord.length+2) % 3]):=by
   simp[CluQ.e,List.getD,hi]
  rw[this];rfl
 ·unfold ofL;rw[e1];simp[CluQ.e,List.getD,hj]
theorem q0U{α:Type}(n:α→Nat)(ps:List α)(k:Nat):(ps.take k).length+nmL n (ps.take k)≤ps.length+nmL n ps:=by
 induction ps generalizing k with
 |nil=>simp[nmL]
 |cons p r ih=>
  cases k with
  |zero=>simp[nmL]
  |succ k=>
   have:=ih k;simp only[nmL,List.take_succ_cons,List.map_cons,List.sum_cons,List.length_cons]at this⊢;omega
theorem z6l{P:Type}{K:Kind P}{v:Value}{ps:List P}(h:(K.fp v ps).Nodup)(i:Nat)(hi:i<ps.length)(p:P)(hp:(K.foot p).Nodup)(hd:∀k∈K.foot p,k∉K.fp v ps):(K.fp v (ps.set i p)).Nodup:=by
 have e:ps=ps.take i++ps[i]::ps.drop (i+1):=by
  conv=>lhs;rw[←List.take_append_drop i ps,List.drop_eq_getElem_cons hi]
 have hA:K.fp v ps=blk v++((ps.take i).flatMap K.foot++(K.foot ps[i]++(ps.drop (i+1)).flatMap K.foot)):=by
  conv=>lhs;rw[e]
  simp only[Kind.fp,List.flatMap_append,List.flatMap_cons]
 rw[hA]at h hd;simp only[Kind.fp];rw[z5y ps i hi p];simp only[List.flatMap_append,List.flatMap_cons];generalize blk v=A at*;generalize (ps.take i).flatMap K.foot=B at*;generalize (ps.drop (i+1)).flatMap K.foot=C at*;generalize K.foot p=D at*;generalize K.foot ps[i]=E at*;simp only[List.nodup_append,List.mem_append]at h hd⊢;obtain⟨hA1,⟨hB1,⟨hE1,hC1,hEC⟩,hBC⟩,hABC⟩:=h;refine⟨hA1,⟨hB1,⟨hp,hC1,?_⟩,?_⟩,?_⟩
 ·rintro a ha b hb rfl;exact hd a ha (Or.inr (Or.inr (Or.inr hb)))
 ·rintro a ha b (hb|hb) rfl
  ·exact hd a hb (Or.inr (Or.inl ha))
  ·exact hBC a ha a (Or.inr hb) rfl
 ·rintro a ha b (hb|hb|hb) rfl
  ·exact hABC a ha a (Or.inl hb) rfl
  ·exact hd a hb (Or.inl ha)
  ·exact hABC a ha a (Or.inr (Or.inr hb)) rfl
theorem q3F{x:InstE}{ds:List TxnD}(hx:insF x=0)(h:sbC x ds=0):InstE.n (sbI x ds)≤200:=by
 have e:sbI x ds=⟨true,ds,x.rounds,x.dec⟩:=if_pos h;have hb:batF ds=0:=by
  unfold sbC at h;rw[if_pos hx]at h;by_cases hh:x.has=true
  ·rw[if_pos hh]at h;exact absurd h (by decide)
  ·rw[if_neg hh]at h;exact h
 have h1:=z8W hx;have h2:=z8V hb;rw[e];unfold InstE.n at h1⊢;dsimp only at h1⊢;omega
theorem of_n{c:CluE}{m:Int}{q:CluQ}(h:q.e=ofE c m):q.n≤1048576:=by
 have hno:ofC c m≠0→q.n≤1048576:=fun h0=>by
  rw[(q1T rfl h0).2.2]at h;have:=q5R (p:=q) (q:=⟨G none 0 0,[],G none 0 0,[]⟩) h;rw[this];decide
 by_cases h0:cluF c=0
 case neg=>exact hno (by rw[(q3A h0).1];exact h0)
 by_cases h1:1≤m∧m≤4
 case neg=>exact hno (by rw[(q3B h0 h1).1];decide)
 by_cases h2:ofT c=[]
 case pos=>exact hno (by rw[(q3C h0 h1 h2).1];decide)
 by_cases h3:sbC (ofL c) (ofB c m)=0
 case neg=>exact hno (by rw[q3D h0 h1 h2];exact h3)
 rw[(q5V h0 h1 h2 h3).2.2]at h;obtain⟨ho,h3',hn⟩:=z3i h0;have hle:=((z2o _).1 ho).1;simp only[CluQ.e,CluE.mk.injEq]at h;have l1:=congrArg List.length h.2;rw[Vc]at l1;have l2:=congrArg List.length h.1;rw[Vc,List.length_set]at l2;have n1:nmL NodeQ.n q.mem≤1000 * q.mem.length:=q0T _ _ _ (fun p hp=>by
  have hm:p.e∈c.mem:=by rw[←h.2];exact List.mem_map.2 ⟨p,hp,rfl⟩
  exact q1S (hn _ hm))
 have hL:insF (ofL c)=0:=by
  unfold ofL;have hj:c.ord.length-1<c.ord.length:=by omega
  rw[List.getD_eq_getElem?_getD,List.getElem?_eq_getElem hj];exact z1K ho _ (Vi hj)
 have n2:nmL InstQ.n q.ord≤200 * q.ord.length:=q0T _ _ _ (fun p hp=>by
  have hm:p.e∈c.ord.set (c.ord.length-1) (sbI (ofL c) (ofB c m)):=by rw[←h.1];exact List.mem_map.2 ⟨p,hp,rfl⟩
  rw[q5A];rcases List.mem_or_eq_of_mem_set hm with hm|hm
  ·have:=z8W (z1K ho _ hm);omega
  ·rw [hm];exact q3F hL h3)
 unfold CluQ.n;omega
end Go.Proofs.YtdppipeclnldeaaGreatDoor
