import Derived.Test.YtlkpdgjnhkjpjaaGreatDoorSUBI
set_option linter.unusedVariables false
set_option linter.unusedSimpArgs false
set_option maxRecDepth 100000
set_option maxHeartbeats 8000000
namespace Go.Proofs.YtlkpdgjnhkjpjaaGreatDoor
open Go.RowKit Go.BigFrame
open InstQ renaming e->R
open Act renaming put->H
open IntKind renaming i64->G
open Value renaming int->Q,slice->K
open Go.Proofs.Tryz
theorem z89(v:Value)(ps:List InstQ)(b:Nat)(kn sf:Int)(p:RepQ)(w:World)(hB:Blk w b 31 #[Q G kn,Q G sf,p.vd,p.vb,p.vt,p.vu,p.vn])(h:instK.At w v ps)(hl:(ps.length+nmL InstQ.n ps)≤1048576)(hp:repK.own w p)(ad:p.n≤1048576):
  Calls Tryz.prog 59 #[v,.pointer (some ⟨b,0,none⟩)] w fun e w'=>e=.returned (Q G (nodF (ps.map R) kn sf p.e))∧Below w.heap.size w w':=by
 have af:=fun w h=>z9E v ps w h hl
 have O:=fun w h h0=>z90 v ps w h hl h0
 have N:=fun w h h0 hn=>q3q v ps kn w h hl h0 hn
 have U:=fun w hB h=>q3s kn sf b p w hB h ad
 have ae:p.done.length+nmL TxnQ.n p.done≤1048576:=by
  have:p.done.length+nmL TxnQ.n p.done≤p.n:=by simp only[RepQ.n];omega
  omega
 have I:=fun v' (ys:List TxnQ) w h h' hy=>q3p p.vd v' p.done ys w h h' ae hy
 have V:Hid (ordF (ps.map R)=0→∀ys:List TxnQ,ys.map TxnQ.e=defL (ps.map R) kn.toNat→ys.length+nmL TxnQ.n ys≤1048576):=fun h0 ys hy=>by
  have h1:=z9Z h0 kn.toNat;have h2:=q3b (qs:=ys) (by rw[hy];exact q5B (z2J h0) _);have h3:ys.length=(defL (ps.map R) kn.toNat).length:=by rw[←hy,List.length_map]
  omega
 have T:=fun(w':World) (hb:Below w.heap.size w w')=>repK.own_out (F:=[]) (w':=w') hp (Out.of_below hb) (fun _ _=>by simp)
 have y:=z7O (ps.map R) kn sf p.e;have ag:p.e.done=p.done.map TxnQ.e:=rfl;rw[ag]at y;generalize nodF (ps.map R) kn sf p.e=D at*;generalize defL (ps.map R) kn.toNat=DL at*;generalize ordF (ps.map R)=C at*;generalize (decN (ps.map R):Int)=M at*;generalize repF p.e=RF at*;clear ag;obtain⟨vd,done,vb,base,vt,ai,vu,X,vn,am⟩:=p;obtain⟨a0,k0,rfl⟩:∃a c,vd=K a done.length c:=hp.1.shape;obtain⟨a1,k1,rfl⟩:∃a c,vb=K a base.length c:=hp.2.1.shape;obtain⟨a2,k2,rfl⟩:∃a c,vt=K a ai.length c:=hp.2.2.1.shape;obtain⟨a3,k3,rfl⟩:∃a c,vu=K a X.length c:=hp.2.2.2.1.shape;obtain⟨a4,k4,rfl⟩:∃a c,vn=K a am.length c:=hp.2.2.2.2.shape;obtain⟨va,vc,rfl⟩:=h.shape;dsimp only at U I T y hB;clear ad ae;have A0:=hB;have b1:Below w.heap.size w w:=Below.refl _ _;go_enter func59,ntmps59
 go_wp2_with fail
 refine(af w h).mono ?_;rintro e w1 ⟨rfl,hb⟩;replace A0:=A0.below hb;replace b1:=b1.trans (hb.mono b1.size);clear hb af;by_cases hC:C=0
 case neg=>
  have al:(C !=0)=true:=by simpa using hC
  have HD:Hid (D=C):=by
   rcases y with⟨_,e⟩|⟨h0,_⟩|⟨h0,_⟩|⟨h0,_⟩|⟨h0,_⟩|⟨h0,_⟩
   ·exact e
   all_goals exact absurd h0 hC
  clear y O N U I T hC V
  go_wp2
  go_ret;exact⟨by first|(rw[HD.out];done)|(rw[HD.out];rfl),b1⟩
 subst hC;have ab:=V.out rfl;have ah:=fun v' (ys:List TxnQ) w h h' hy=>I v' ys w h h' (ab ys hy)
 have ak:Hid _:=ah;have L:=fun w h=>O w h rfl
 have aj:Hid _:=N;have Y:Hid _:=T;have Z:Hid _:=U;have J:Hid _:=y;clear V ab I ah O N T U y;have al:((0:Int) !=0)=false:=by decide
 have z:=fun w=>z1q kn 0 M w
 have A:=fun w=>z1q sf 0 kn w
 obtain⟨c0,c1,c2,c3,c4,c5,c6⟩:=A0.lts7;by_cases hk:0≤kn∧kn≤M
 case neg=>
  have HD:Hid (D=3):=by
   rcases J.out with⟨h0,_⟩|⟨_,_,e⟩|⟨_,h0,_⟩|⟨_,h0,_⟩|⟨_,h0,_⟩|⟨_,h0,_⟩
   ·exact absurd rfl h0
   ·exact e
   all_goals exact absurd h0 hk
  have hz:inB kn 0 M=false:=decide_eq_false hk;rw[hz]at z;clear hk hz
  go_wp2_with fail
  have hW:Below w1.heap.size w1 w1.drew:=(Below.refl _ _).drew;have E:Nonempty (Lat w1):=⟨⟨w1,Below.refl _ _⟩⟩
  refine z0a (S:=fun w'=>∃u:Lat w1,w'=u.val) (by kernel_rfl) ?_;refine sgr [(0,5)] 15 (by kernel_rfl) ⟨⟨_,hW⟩,rfl⟩ ?_;simp only[pkE];repeat go_big_quiet_step (fail)
  refine wpQuiet_nil ?_;refine cla 5 (some 17) 72 #[K va ps.length vc] 14 (by kernel_rfl) ?_;refine(L _ (h.below (b1.trans (hW.mono b1.size)))).mono ?_;rintro e w9 ⟨rfl,x⟩;replace hW:=hW.trans (x.mono hW.size);clear x;refine⟨_,rfl,⟨⟨_,hW⟩,rfl⟩,?_⟩;simp only[H,pjE];refine cla 6 (some 18) 108 #[Q G kn,Q G 0,Q G M] 13 (by kernel_rfl) ?_;refine(z _).mono ?_;rintro e w9 ⟨rfl,d⟩;replace d:=d.symm;subst d;refine⟨_,rfl,⟨⟨_,hW⟩,rfl⟩,?_⟩;simp only[H,pjE];refine sgr [(7,10)] 3 (by kernel_rfl) ⟨⟨_,hW⟩,rfl⟩ ?_;simp only[pkE];repeat go_big_quiet_step (fail)
  refine wpQuiet_nil ?_;refine ska 17 (some 29) 2 (by kernel_rfl) ⟨⟨_,hW⟩,rfl⟩ ?_;simp only[H,pjE];refine sgr [(18,2)] 0 (by kernel_rfl) ⟨⟨_,hW⟩,rfl⟩ ?_;simp only[pkE];repeat go_big_quiet_step (fail)
  refine wpQuiet_nil ?_;refine z0e (by kernel_rfl) ?_;replace A0:=A0.below hW;replace b1:=b1.trans (hW.mono b1.size);clear c0 c1 c2 c3 c4 c5 c6;clear E L z A
  go_wp2
  go_ret;exact⟨by first|(rw[HD.out];done)|(rw[HD.out];rfl),b1⟩
 have hz:inB kn 0 M=true:=decide_eq_true hk;rw[hz]at z;have HK:Hid (0≤kn∧kn≤M):=hk;clear hz;by_cases hs:0≤sf∧sf≤kn
 case neg=>
  have HD:Hid (D=3):=by
   rcases J.out with⟨h0,_⟩|⟨_,h0,_⟩|⟨_,_,_,e⟩|⟨_,_,h0,_⟩|⟨_,_,h0,_⟩|⟨_,_,h0,_⟩
   ·exact absurd rfl h0
   ·exact absurd hk h0
   ·exact e
   all_goals exact absurd h0 hs
  have hz:inB sf 0 kn=false:=decide_eq_false hs;rw[hz]at A;clear hk hz hs
  go_wp2_with fail
  have hW:Below w1.heap.size w1 w1.drew:=(Below.refl _ _).drew;have E:Nonempty (Lat w1):=⟨⟨w1,Below.refl _ _⟩⟩
  refine z0a (S:=fun w'=>∃u:Lat w1,w'=u.val) (by kernel_rfl) ?_;refine sgr [(0,5)] 15 (by kernel_rfl) ⟨⟨_,hW⟩,rfl⟩ ?_;simp only[pkE];repeat go_big_quiet_step (fail)
  refine wpQuiet_nil ?_;refine cla 5 (some 17) 72 #[K va ps.length vc] 14 (by kernel_rfl) ?_;refine(L _ (h.below (b1.trans (hW.mono b1.size)))).mono ?_;rintro e w9 ⟨rfl,x⟩;replace hW:=hW.trans (x.mono hW.size);clear x;refine⟨_,rfl,⟨⟨_,hW⟩,rfl⟩,?_⟩;simp only[H,pjE];refine cla 6 (some 18) 108 #[Q G kn,Q G 0,Q G M] 13 (by kernel_rfl) ?_;refine(z _).mono ?_;rintro e w9 ⟨rfl,d⟩;replace d:=d.symm;subst d;refine⟨_,rfl,⟨⟨_,hW⟩,rfl⟩,?_⟩;simp only[H,pjE];refine sgr [(7,10)] 3 (by kernel_rfl) ⟨⟨_,hW⟩,rfl⟩ ?_;simp only[pkE];repeat go_big_quiet_step (fail)
  refine wpQuiet_nil ?_;refine cla 17 (some 29) 108 #[Q G sf,Q G 0,Q G kn] 2 (by kernel_rfl) ?_;refine(A _).mono ?_;rintro e w9 ⟨rfl,d⟩;replace d:=d.symm;subst d;refine⟨_,rfl,⟨⟨_,hW⟩,rfl⟩,?_⟩;simp only[H,pjE];refine sgr [(18,2)] 0 (by kernel_rfl) ⟨⟨_,hW⟩,rfl⟩ ?_;simp only[pkE];repeat go_big_quiet_step (fail)
  refine wpQuiet_nil ?_;refine z0e (by kernel_rfl) ?_;replace A0:=A0.below hW;replace b1:=b1.trans (hW.mono b1.size);clear c0 c1 c2 c3 c4 c5 c6;clear E L z A
  go_wp2
  go_ret;exact⟨by first|(rw[HD.out];done)|(rw[HD.out];rfl),b1⟩
 have hz:inB sf 0 kn=true:=decide_eq_true hs;rw[hz]at A;have HS:Hid (0≤sf∧sf≤kn):=hs;clear hk hs hz
 go_wp2_with fail
 have hW:Below w1.heap.size w1 w1.drew:=(Below.refl _ _).drew;have E:Nonempty (Lat w1):=⟨⟨w1,Below.refl _ _⟩⟩
 refine z0a (S:=fun w'=>∃u:Lat w1,w'=u.val) (by kernel_rfl) ?_;refine sgr [(0,5)] 15 (by kernel_rfl) ⟨⟨_,hW⟩,rfl⟩ ?_;simp only[pkE];repeat go_big_quiet_step (fail)
 refine wpQuiet_nil ?_;refine cla 5 (some 17) 72 #[K va ps.length vc] 14 (by kernel_rfl) ?_;refine(L _ (h.below (b1.trans (hW.mono b1.size)))).mono ?_;rintro e w9 ⟨rfl,x⟩;replace hW:=hW.trans (x.mono hW.size);clear x;refine⟨_,rfl,⟨⟨_,hW⟩,rfl⟩,?_⟩;simp only[H,pjE];refine cla 6 (some 18) 108 #[Q G kn,Q G 0,Q G M] 13 (by kernel_rfl) ?_;refine(z _).mono ?_;rintro e w9 ⟨rfl,d⟩;replace d:=d.symm;subst d;refine⟨_,rfl,⟨⟨_,hW⟩,rfl⟩,?_⟩;simp only[H,pjE];refine sgr [(7,10)] 3 (by kernel_rfl) ⟨⟨_,hW⟩,rfl⟩ ?_;simp only[pkE];repeat go_big_quiet_step (fail)
 refine wpQuiet_nil ?_;refine cla 17 (some 29) 108 #[Q G sf,Q G 0,Q G kn] 2 (by kernel_rfl) ?_;refine(A _).mono ?_;rintro e w9 ⟨rfl,d⟩;replace d:=d.symm;subst d;refine⟨_,rfl,⟨⟨_,hW⟩,rfl⟩,?_⟩;simp only[H,pjE];refine sgr [(18,2)] 0 (by kernel_rfl) ⟨⟨_,hW⟩,rfl⟩ ?_;simp only[pkE];repeat go_big_quiet_step (fail)
 refine wpQuiet_nil ?_;refine z0e (by kernel_rfl) ?_;replace A0:=A0.below hW;replace b1:=b1.trans (hW.mono b1.size);clear c0 c1 c2 c3 c4 c5 c6;clear E L z A
 go_wp2_with fail
 refine(Z.out _ A0 (Y.out _ b1)).mono ?_;rintro e w3 ⟨rfl,W⟩;replace A0:=A0.below W;replace b1:=b1.trans (W.mono b1.size);clear W Z;by_cases hR:RF=0
 case neg=>
  have aa:(RF !=0)=true:=by simpa using hR
  have HD:Hid (D=RF):=by
   rcases J.out with⟨h0,_⟩|⟨_,h0,_⟩|⟨_,_,h0,_⟩|⟨_,_,_,_,e⟩|⟨_,_,_,h0,_⟩|⟨_,_,_,h0,_⟩
   ·exact absurd rfl h0
   ·exact absurd HK.out h0
   ·exact absurd HS.out h0
   ·exact e
   all_goals exact absurd h0 hR
  clear J hR
  go_wp2
  go_ret;exact⟨by first|(rw[HD.out];done)|(rw[HD.out];rfl),b1⟩
 subst hR;have aa:((0:Int) !=0)=false:=by decide
 have HW:Hid ((sameTs (done.map TxnQ.e) DL=false∧D=8)∨(sameTs (done.map TxnQ.e) DL=true∧D=0)):=by
  rcases J.out with⟨h0,_⟩|⟨_,h0,_⟩|⟨_,_,h0,_⟩|⟨_,_,_,h0,_⟩|⟨_,_,_,_,e1,e2⟩|⟨_,_,_,_,e1,e2⟩
  ·exact absurd rfl h0
  ·exact absurd HK.out h0
  ·exact absurd HS.out h0
  ·exact absurd rfl h0
  ·exact Or.inl ⟨e1,e2⟩
  ·exact Or.inr ⟨e1,e2⟩
 clear J
 go_wp2_with fail
 clear aa;have HH:Hid (instK.At w (K va ps.length vc) ps):=h;obtain⟨c0,c1,c2,c3,c4,c5,c6⟩:=A0.lts7;have hW:Below w3.heap.size w3 w3.drew:=(Below.refl _ _).drew;have E:Nonempty (Lat w3):=⟨⟨w3,Below.refl _ _⟩⟩
 refine z0a (S:=fun w'=>∃u:Lat w3,w'=u.val) (by kernel_rfl) ?_;refine sgr [(0,10)] 3 (by kernel_rfl) ⟨⟨_,hW⟩,rfl⟩ ?_;simp only[pkE];repeat go_big_quiet_step (fail)
 refine wpQuiet_nil ?_;refine cla 10 (some 49) 111 #[K va ps.length vc,Q G kn] 2 (by kernel_rfl) ?_;refine(aj.out _ (HH.out.below (b1.trans (hW.mono b1.size))) trivial HK.out).mono ?_;rintro e w9 ⟨vq,qs,rfl,eq,oq,_,_,x⟩;replace hW:=hW.trans (x.mono hW.size);obtain⟨xa,xc,rfl⟩:=oq.shape;clear x;refine⟨_,rfl,⟨⟨_,hW⟩,rfl⟩,?_⟩;simp only[H,pjE];refine cla 11 (some 50) 110 #[K a0 done.length k0,K xa qs.length xc] 1 (by kernel_rfl) ?_;refine(ak.out _ qs _ ((repK.own_rd (Y.out _ (b1.trans (hW.mono b1.size)))).1) oq.at eq).mono ?_;rintro e w9 ⟨rfl,x⟩;replace hW:=hW.trans (x.mono hW.size);clear x;refine⟨_,rfl,⟨⟨_,hW⟩,rfl⟩,?_⟩;simp only[H,pjE];refine sgr [(12,1)] 0 (by kernel_rfl) ⟨⟨_,hW⟩,rfl⟩ ?_;simp only[pkE];repeat go_big_quiet_step (fail)
 refine wpQuiet_nil ?_;refine z0e (by kernel_rfl) ?_;have b2:=b1.trans (hW.mono b1.size);clear c0 c1 c2 c3 c4 c5 c6;clear oq hW E;rcases HW.out with⟨e1,e2⟩|⟨e1,e2⟩
 ·rw[eq,e1];clear HW
  go_wp2
  go_ret;exact⟨by first|(rw[e2];done)|(rw[e2];rfl),b2⟩
 ·rw[eq,e1];clear HW
  go_wp2
  go_ret;exact⟨by first|(rw[e2];done)|(rw[e2];rfl),b2⟩
theorem q4L{r:RepE}(h:repF r=0):mkR r.done r.tent=r:=by
 obtain⟨h1,h2,h3,_⟩:=z3Z h;obtain⟨d,b,t,u,n⟩:=r;dsimp only at h1 h2 h3;unfold mkR;dsimp only;rw[←h1,←h2,←h3]
theorem z6O(D:Int)(w:World):
  Calls Tryz.prog 60 #[Q G D] w fun e w'=>e=.returned (.agg #[Q G D,Q G 0,Q G 0,Q G 0,K none 0 0,K none 0 0,K none 0 0,K none 0 0,K none 0 0])∧Below w.heap.size w w':=by
 have Rb:=Blk.new w 35 #[Q G 0,Q G 0,Q G 0,Q G 0,K none 0 0,K none 0 0,K none 0 0,K none 0 0,K none 0 0];have hB:Below w.heap.size w (w.alloc (.cells #[Q G 0,Q G 0,Q G 0,Q G 0,K none 0 0,K none 0 0,K none 0 0,K none 0 0,K none 0 0] 35)):=by go_grown
 have Rr:=Rb.row #[Q G D,Q G 0,Q G 0,Q G 0,K none 0 0,K none 0 0,K none 0 0,K none 0 0,K none 0 0];have hBr:=z0j hB (g:=w.heap.size) (Nat.le_refl _) #[Q G D,Q G 0,Q G 0,Q G 0,K none 0 0,K none 0 0,K none 0 0,K none 0 0,K none 0 0];have hsr:(Tryz.prog.info? 35).map (·.size)=some (#[Q G D,Q G 0,Q G 0,Q G 0,K none 0 0,K none 0 0,K none 0 0,K none 0 0,K none 0 0]:Array Value).size:=by kernel_rfl
 go_enter func60,ntmps60
 go_wp2_with (refine z0s (by kernel_rfl) 35 _ _ rfl _ #[Q G D,Q G 0,Q G 0,Q G 0,K none 0 0,K none 0 0,K none 0 0,K none 0 0,K none 0 0] rfl rfl 35 _ Rb hsr rfl (by simp[Value.oneCell']) ?_)
 obtain⟨r0,r1,r2,r3,r4,r5,r6,r7,r8⟩:=Rr.cel9;exact bodyPost_ret (v:=.agg #[Q G D,Q G 0,Q G 0,Q G 0,K none 0 0,K none 0 0,K none 0 0,K none 0 0,K none 0 0]) (by simp[results,results60,go_sem,r0,r1,r2,r3,r4,r5,r6,r7,r8]) rfl ⟨rfl,hBr⟩
theorem z92(kn sf:Int)(p:RepQ)(w:World)(h:repK.own w p)(hF:repF p.e=0):
  Calls Tryz.prog 70 #[.agg #[Q G kn,Q G sf,p.vd,p.vb,p.vt,p.vu,p.vn]] w fun e w'=>∃q:RepQ,e=.returned (.agg #[Q G kn,Q G sf,q.vd,q.vb,q.vt,q.vu,q.vn])∧q.e=p.e∧repK.own w' q∧(repK.foot q).Nodup∧(∀k∈repK.foot q,w.heap.size≤k)∧Below w.heap.size w w':=by
 have I:=z3Z hF;have hz:=(z3b hF).1;have aa:Hid (mkR (p.done.map TxnQ.e) (p.tent.map TxnQ.e)=p.e):=q4L hF;have ab:=fun w h1 h2=>z4m p.vd p.vt p.done p.tent w h1 h2 (fun t ht=>I.2.2.2.1 _ (List.mem_map.2 ⟨t,ht,rfl⟩)) (fun t ht=>I.2.2.2.2.1 _ (List.mem_map.2 ⟨t,ht,rfl⟩)) (by have:=hz.1;simp[RepQ.e]at this;omega) (by have:=hz.2;simp[RepQ.e]at this;omega)
 rw[aa.out]at ab;have ad:=fun(w':World) (hb:Below w.heap.size w w')=>repK.own_out (F:=[]) (w':=w') h (Out.of_below hb) (fun _ _=>by simp)
 generalize p.e=PE at*;clear I hz hF aa;obtain⟨vd,done,vb,base,vt,A,vu,x,vn,E⟩:=p;obtain⟨a0,k0,rfl⟩:∃a c,vd=K a done.length c:=h.1.shape;obtain⟨a1,k1,rfl⟩:∃a c,vb=K a base.length c:=h.2.1.shape;obtain⟨a2,k2,rfl⟩:∃a c,vt=K a A.length c:=h.2.2.1.shape;obtain⟨a3,k3,rfl⟩:∃a c,vu=K a x.length c:=h.2.2.2.1.shape;obtain⟨a4,k4,rfl⟩:∃a c,vn=K a E.length c:=h.2.2.2.2.shape;dsimp only at ab ad;have aa:Hid _:=ab;have ae:Hid _:=ad;clear ab ad h;have hX:Below w.heap.size w (w.alloc (.cells #[Q G kn,Q G sf,K a0 done.length k0,K a1 base.length k1,K a2 A.length k2,K a3 x.length k3,K a4 E.length k4] 31)):=by go_grown
 have A0:=Blk.new w 31 #[Q G kn,Q G sf,K a0 done.length k0,K a1 base.length k1,K a2 A.length k2,K a3 x.length k3,K a4 E.length k4];have RB:=Blk.new (w.alloc (.cells #[Q G kn,Q G sf,K a0 done.length k0,K a1 base.length k1,K a2 A.length k2,K a3 x.length k3,K a4 E.length k4] 31)) 31 #[Q G 0,Q G 0,K none 0 0,K none 0 0,K none 0 0,K none 0 0,K none 0 0];have hW:Below (w.alloc (.cells #[Q G kn,Q G sf,K a0 done.length k0,K a1 base.length k1,K a2 A.length k2,K a3 x.length k3,K a4 E.length k4] 31)).heap.size (w.alloc (.cells #[Q G kn,Q G sf,K a0 done.length k0,K a1 base.length k1,K a2 A.length k2,K a3 x.length k3,K a4 E.length k4] 31)) ((w.alloc (.cells #[Q G kn,Q G sf,K a0 done.length k0,K a1 base.length k1,K a2 A.length k2,K a3 x.length k3,K a4 E.length k4] 31)).alloc (.cells #[Q G 0,Q G 0,K none 0 0,K none 0 0,K none 0 0,K none 0 0,K none 0 0] 31)):=(Below.refl _ _).alloc (Nat.le_refl _) _;have af:Hid ((w.alloc (.cells #[Q G kn,Q G sf,K a0 done.length k0,K a1 base.length k1,K a2 A.length k2,K a3 x.length k3,K a4 E.length k4] 31)).heap.size=w.heap.size+1):=World.size_alloc _ _;simp only[World.size_alloc]at RB;have b0:Below w.heap.size w ((w.alloc (.cells #[Q G kn,Q G sf,K a0 done.length k0,K a1 base.length k1,K a2 A.length k2,K a3 x.length k3,K a4 E.length k4] 31)).alloc (.cells #[Q G 0,Q G 0,K none 0 0,K none 0 0,K none 0 0,K none 0 0,K none 0 0] 31)):=by go_grown
 obtain⟨c0,c1,c2,c3,c4,c5,c6⟩:=A0.lts7;go_enter func70,ntmps70
 go_wp2_with fail
 generalize an:w.alloc (.cells #[Q G kn,Q G sf,K a0 done.length k0,K a1 base.length k1,K a2 A.length k2,K a3 x.length k3,K a4 E.length k4] 31)=X at*;have ap:Nonempty (Lat X):=⟨⟨X,Below.refl _ _⟩⟩
 generalize ao:X.alloc (.cells #[Q G 0,Q G 0,K none 0 0,K none 0 0,K none 0 0,K none 0 0,K none 0 0] 31)=Y at*;replace RB:Blk Y.drew _ _ _:=RB;replace hW:Below X.heap.size X Y.drew:=hW.drew;replace b0:Below w.heap.size w Y.drew:=b0.drew;refine z0a (S:=fun w'=>∃u:Lat X,w'=u.val) (by kernel_rfl) ?_;refine sgr [(0,10)] 3 (by kernel_rfl) ⟨⟨_,hW⟩,rfl⟩ ?_;simp only[pkE];repeat go_big_quiet_step (fail)
 refine wpQuiet_nil ?_;clear c0 c1 c2 c3 c4 c5 c6;generalize Y.drew=wd at*;refine cla 10 (some 13) 122 #[K a0 done.length k0,K a2 A.length k2] 2 (by kernel_rfl) ?_;refine(aa.out wd (ae.out wd b0).1.at (ae.out wd b0).2.2.1.at).mono ?_;rintro e w3 ⟨q9,rfl,e9,o9,n9,g9,hb⟩;have am:=RB.lt;replace RB:=RB.below hb;have aq:=b0.size;replace hW:=hW.trans (hb.mono hW.size);replace b0:=b0.trans (hb.mono b0.size);have HQ:Hid (q9.e=PE∧(repK.foot q9).Nodup∧∀k∈repK.foot q9,w.heap.size≤k∧k≠w.heap.size+1):=⟨e9,n9,fun k hk=>by have:=g9 k hk;omega⟩
 clear hb g9 e9 n9;obtain⟨ai,z,ah,y,ak,C,al,d,aj,D⟩:=q9;obtain⟨J,T,rfl⟩:∃a c,ai=K a z.length c:=o9.1.shape;obtain⟨L,U,rfl⟩:∃a c,ah=K a y.length c:=o9.2.1.shape;obtain⟨M,V,rfl⟩:∃a c,ak=K a C.length c:=o9.2.2.1.shape;obtain⟨N,W,rfl⟩:∃a c,al=K a d.length c:=o9.2.2.2.1.shape;obtain⟨O,Z,rfl⟩:∃a c,aj=K a D.length c:=o9.2.2.2.2.shape;refine⟨_,rfl,⟨⟨_,hW⟩,rfl⟩,?_⟩;simp only[H,pgE,pjE];refine sgr [(11,1)] 1 (by kernel_rfl) ⟨⟨_,hW⟩,rfl⟩ ?_;simp only[pkE];repeat go_big_quiet_step (fail)
 refine wpQuiet_nil ?_;refine ona 12 0 rfl (by kernel_rfl) ?_;have Rz:=RB.row #[Q G kn,Q G sf,K J z.length T,K L y.length U,K M C.length V,K N d.length W,K O D.length Z];have oz:=repK.own_out o9 (z0R _ (w.heap.size+1) #[Q G kn,Q G sf,K J z.length T,K L y.length U,K M C.length V,K N d.length W,K O D.length Z]) (fun k hk=>by have:=HQ.out.2.2 k hk;simp;omega);replace hW:=z0j (g:=w.heap.size+1) hW (by rw[af.out];exact Nat.le_refl _) #[Q G kn,Q G sf,K J z.length T,K L y.length U,K M C.length V,K N d.length W,K O D.length Z];replace b0:=z0j (g:=w.heap.size+1) b0 (by omega) #[Q G kn,Q G sf,K J z.length T,K L y.length U,K M C.length V,K N d.length W,K O D.length Z];have ag:(Tryz.prog.info? 31).map (·.size)=some (#[Q G kn,Q G sf,K J z.length T,K L y.length U,K M C.length V,K N d.length W,K O D.length Z]:Array Value).size:=by kernel_rfl
 refine z0s (by kernel_rfl) 31 _ _ rfl _ #[Q G kn,Q G sf,K J z.length T,K L y.length U,K M C.length V,K N d.length W,K O D.length Z] rfl rfl 31 _ RB ag rfl (by simp[Value.oneCell']) ?_;refine ThenGo.to ⟨⟨⟨_,hW⟩,rfl⟩,?_⟩;refine z0e (by kernel_rfl) ?_;obtain⟨r0,r1,r2,r3,r4,r5,r6⟩:=Rz.cel7
 go_wp2
 exact bodyPost_ret (v:=.agg #[Q G kn,Q G sf,K J z.length T,K L y.length U,K M C.length V,K N d.length W,K O D.length Z]) (by simp[results,results70,go_sem,r0,r1,r2,r3,r4,r5,r6]) rfl ⟨_,rfl,HQ.out.1,oz,HQ.out.2.1,fun k hk=>(HQ.out.2.2 k hk).1,b0⟩
end Go.Proofs.YtlkpdgjnhkjpjaaGreatDoor
