import Derived.Test.YtlkpdgjnhkjpjaaGreatDoorSYBE
set_option linter.unusedVariables false
set_option linter.unusedSimpArgs false
set_option maxRecDepth 100000
set_option maxHeartbeats 8000000
namespace Go.Proofs.YtlkpdgjnhkjpjaaGreatDoor
open Go.RowKit Go.BigFrame
open InstQ renaming e->R
open Act renaming put->H
open IntKind renaming i64->K
open Value renaming int->G,slice->Q
open Go.Proofs.Tryz
theorem z8Y(v:Value)(ps:List InstQ)(b:Nat)(kn sf:Int)(p:RepQ)(w:World)(hB:Blk w b 31 #[G K kn,G K sf,p.vd,p.vb,p.vt,p.vu,p.vn])(h:instK.At w v ps)(hl:(ps.length+nmL InstQ.n ps)≤1048576)(hp:repK.own w p)(ae:p.n≤1048576):
  Calls Tryz.prog 59 #[v,.pointer (some ⟨b,0,none⟩)] w fun e w'=>e=.returned (G K (nodF (ps.map R) kn sf p.e))∧Below w.heap.size w w':=by
 have ag:=fun w h=>z9B v ps w h hl
 have T:=fun w h h0=>q5D v ps w h hl h0
 have O:=fun w h h0 hn=>q5E v ps kn w h hl h0 hn
 have V:=fun w hB h=>q3b kn sf b p w hB h ae
 have af:p.done.length+nmL TxnQ.n p.done≤1048576:=by
  have:p.done.length+nmL TxnQ.n p.done≤p.n:=by simp only[RepQ.n];omega
  omega
 have J:=fun v' (ys:List TxnQ) w h h' hy=>q29 p.vd v' p.done ys w h h' af hy
 have W:Hid (ordF (ps.map R)=0→∀ys:List TxnQ,ys.map TxnQ.e=defL (ps.map R) kn.toNat→ys.length+nmL TxnQ.n ys≤1048576):=fun h0 ys hy=>by
  have h1:=z9T h0 kn.toNat;have h2:=q23 (qs:=ys) (by rw[hy];exact q5r (z2O h0) _);have h3:ys.length=(defL (ps.map R) kn.toNat).length:=by rw[←hy,List.length_map]
  omega
 have U:=fun(w':World) (hb:Below w.heap.size w w')=>repK.own_out (F:=[]) (w':=w') hp (Out.of_below hb) (fun _ _=>by simp)
 have y:=z7N (ps.map R) kn sf p.e;have ah:p.e.done=p.done.map TxnQ.e:=rfl;rw[ah]at y;generalize nodF (ps.map R) kn sf p.e=D at*;generalize defL (ps.map R) kn.toNat=DL at*;generalize ordF (ps.map R)=C at*;generalize (decN (ps.map R):Int)=M at*;generalize repF p.e=RF at*;clear ah;obtain⟨vd,done,vb,base,vt,aj,vu,Y,vn,an⟩:=p;obtain⟨a0,k0,rfl⟩:∃a c,vd=Q a done.length c:=hp.1.shape;obtain⟨a1,k1,rfl⟩:∃a c,vb=Q a base.length c:=hp.2.1.shape;obtain⟨a2,k2,rfl⟩:∃a c,vt=Q a aj.length c:=hp.2.2.1.shape;obtain⟨a3,k3,rfl⟩:∃a c,vu=Q a Y.length c:=hp.2.2.2.1.shape;obtain⟨a4,k4,rfl⟩:∃a c,vn=Q a an.length c:=hp.2.2.2.2.shape;obtain⟨va,vc,rfl⟩:=h.shape;dsimp only at V J U y hB;clear ae af;have A0:=hB;have b1:Below w.heap.size w w:=Below.refl _ _;go_enter func59,ntmps59
 go_wp2_with fail
 refine(ag w h).mono ?_;rintro e w1 ⟨rfl,hb⟩;replace A0:=A0.below hb;replace b1:=b1.trans (hb.mono b1.size);clear hb ag;by_cases hC:C=0
 case neg=>
  have am:(C !=0)=true:=by simpa using hC
  have HD:Hid (D=C):=by
   rcases y with⟨_,e⟩|⟨h0,_⟩|⟨h0,_⟩|⟨h0,_⟩|⟨h0,_⟩|⟨h0,_⟩
   ·exact e
   all_goals exact absurd h0 hC
  clear y T O V J U hC W
  go_wp2
  go_ret;exact⟨by first|(rw[HD.out];done)|(rw[HD.out];rfl),b1⟩
 subst hC;have ad:=W.out rfl;have ai:=fun v' (ys:List TxnQ) w h h' hy=>J v' ys w h h' (ad ys hy)
 have al:Hid _:=ai;have N:=fun w h=>T w h rfl
 have ak:Hid _:=O;have Z:Hid _:=U;have aa:Hid _:=V;have L:Hid _:=y;clear W ad J ai T O U V y;have am:((0:Int) !=0)=false:=by decide
 have z:=fun w=>z1u kn 0 M w
 have A:=fun w=>z1u sf 0 kn w
 obtain⟨c0,c1,c2,c3,c4,c5,c6⟩:=A0.lts7;by_cases hk:0≤kn∧kn≤M
 case neg=>
  have HD:Hid (D=3):=by
   rcases L.out with⟨h0,_⟩|⟨_,_,e⟩|⟨_,h0,_⟩|⟨_,h0,_⟩|⟨_,h0,_⟩|⟨_,h0,_⟩
   ·exact absurd rfl h0
   ·exact e
   all_goals exact absurd h0 hk
  have hz:inB kn 0 M=false:=decide_eq_false hk;rw[hz]at z;clear hk hz
  go_wp2_with fail
  have hW:Below w1.heap.size w1 w1.drew:=(Below.refl _ _).drew;have I:Nonempty (Lat w1):=⟨⟨w1,Below.refl _ _⟩⟩
  refine z0b (S:=fun w'=>∃u:Lat w1,w'=u.val) (by kernel_rfl) ?_;refine sgr [(0,5)] 15 (by kernel_rfl) ⟨⟨_,hW⟩,rfl⟩ ?_;simp only[pkE];repeat go_big_quiet_step (fail)
  refine wpQuiet_nil ?_;refine cla 5 (some 17) 72 #[Q va ps.length vc] 14 (by kernel_rfl) ?_;refine(N _ (h.below (b1.trans (hW.mono b1.size)))).mono ?_;rintro e w9 ⟨rfl,x⟩;replace hW:=hW.trans (x.mono hW.size);clear x;refine⟨_,rfl,⟨⟨_,hW⟩,rfl⟩,?_⟩;simp only[H,pjE];refine cla 6 (some 18) 108 #[G K kn,G K 0,G K M] 13 (by kernel_rfl) ?_;refine(z _).mono ?_;rintro e w9 ⟨rfl,d⟩;replace d:=d.symm;subst d;refine⟨_,rfl,⟨⟨_,hW⟩,rfl⟩,?_⟩;simp only[H,pjE];refine sgr [(7,10)] 3 (by kernel_rfl) ⟨⟨_,hW⟩,rfl⟩ ?_;simp only[pkE];repeat go_big_quiet_step (fail)
  refine wpQuiet_nil ?_;refine ska 17 (some 29) 2 (by kernel_rfl) ⟨⟨_,hW⟩,rfl⟩ ?_;simp only[H,pjE];refine sgr [(18,2)] 0 (by kernel_rfl) ⟨⟨_,hW⟩,rfl⟩ ?_;simp only[pkE];repeat go_big_quiet_step (fail)
  refine wpQuiet_nil ?_;refine z0e (by kernel_rfl) ?_;replace A0:=A0.below hW;replace b1:=b1.trans (hW.mono b1.size);clear c0 c1 c2 c3 c4 c5 c6;clear I N z A
  go_wp2
  go_ret;exact⟨by first|(rw[HD.out];done)|(rw[HD.out];rfl),b1⟩
 have hz:inB kn 0 M=true:=decide_eq_true hk;rw[hz]at z;have HK:Hid (0≤kn∧kn≤M):=hk;clear hz;by_cases hs:0≤sf∧sf≤kn
 case neg=>
  have HD:Hid (D=3):=by
   rcases L.out with⟨h0,_⟩|⟨_,h0,_⟩|⟨_,_,_,e⟩|⟨_,_,h0,_⟩|⟨_,_,h0,_⟩|⟨_,_,h0,_⟩
   ·exact absurd rfl h0
   ·exact absurd hk h0
   ·exact e
   all_goals exact absurd h0 hs
  have hz:inB sf 0 kn=false:=decide_eq_false hs;rw[hz]at A;clear hk hz hs
  go_wp2_with fail
  have hW:Below w1.heap.size w1 w1.drew:=(Below.refl _ _).drew;have I:Nonempty (Lat w1):=⟨⟨w1,Below.refl _ _⟩⟩
  refine z0b (S:=fun w'=>∃u:Lat w1,w'=u.val) (by kernel_rfl) ?_;refine sgr [(0,5)] 15 (by kernel_rfl) ⟨⟨_,hW⟩,rfl⟩ ?_;simp only[pkE];repeat go_big_quiet_step (fail)
  refine wpQuiet_nil ?_;refine cla 5 (some 17) 72 #[Q va ps.length vc] 14 (by kernel_rfl) ?_;refine(N _ (h.below (b1.trans (hW.mono b1.size)))).mono ?_;rintro e w9 ⟨rfl,x⟩;replace hW:=hW.trans (x.mono hW.size);clear x;refine⟨_,rfl,⟨⟨_,hW⟩,rfl⟩,?_⟩;simp only[H,pjE];refine cla 6 (some 18) 108 #[G K kn,G K 0,G K M] 13 (by kernel_rfl) ?_;refine(z _).mono ?_;rintro e w9 ⟨rfl,d⟩;replace d:=d.symm;subst d;refine⟨_,rfl,⟨⟨_,hW⟩,rfl⟩,?_⟩;simp only[H,pjE];refine sgr [(7,10)] 3 (by kernel_rfl) ⟨⟨_,hW⟩,rfl⟩ ?_;simp only[pkE];repeat go_big_quiet_step (fail)
  refine wpQuiet_nil ?_;refine cla 17 (some 29) 108 #[G K sf,G K 0,G K kn] 2 (by kernel_rfl) ?_;refine(A _).mono ?_;rintro e w9 ⟨rfl,d⟩;replace d:=d.symm;subst d;refine⟨_,rfl,⟨⟨_,hW⟩,rfl⟩,?_⟩;simp only[H,pjE];refine sgr [(18,2)] 0 (by kernel_rfl) ⟨⟨_,hW⟩,rfl⟩ ?_;simp only[pkE];repeat go_big_quiet_step (fail)
  refine wpQuiet_nil ?_;refine z0e (by kernel_rfl) ?_;replace A0:=A0.below hW;replace b1:=b1.trans (hW.mono b1.size);clear c0 c1 c2 c3 c4 c5 c6;clear I N z A
  go_wp2
  go_ret;exact⟨by first|(rw[HD.out];done)|(rw[HD.out];rfl),b1⟩
 have hz:inB sf 0 kn=true:=decide_eq_true hs;rw[hz]at A;have HS:Hid (0≤sf∧sf≤kn):=hs;clear hk hs hz
 go_wp2_with fail
 have hW:Below w1.heap.size w1 w1.drew:=(Below.refl _ _).drew;have I:Nonempty (Lat w1):=⟨⟨w1,Below.refl _ _⟩⟩
 refine z0b (S:=fun w'=>∃u:Lat w1,w'=u.val) (by kernel_rfl) ?_;refine sgr [(0,5)] 15 (by kernel_rfl) ⟨⟨_,hW⟩,rfl⟩ ?_;simp only[pkE];repeat go_big_quiet_step (fail)
 refine wpQuiet_nil ?_;refine cla 5 (some 17) 72 #[Q va ps.length vc] 14 (by kernel_rfl) ?_;refine(N _ (h.below (b1.trans (hW.mono b1.size)))).mono ?_;rintro e w9 ⟨rfl,x⟩;replace hW:=hW.trans (x.mono hW.size);clear x;refine⟨_,rfl,⟨⟨_,hW⟩,rfl⟩,?_⟩;simp only[H,pjE];refine cla 6 (some 18) 108 #[G K kn,G K 0,G K M] 13 (by kernel_rfl) ?_;refine(z _).mono ?_;rintro e w9 ⟨rfl,d⟩;replace d:=d.symm;subst d;refine⟨_,rfl,⟨⟨_,hW⟩,rfl⟩,?_⟩;simp only[H,pjE];refine sgr [(7,10)] 3 (by kernel_rfl) ⟨⟨_,hW⟩,rfl⟩ ?_;simp only[pkE];repeat go_big_quiet_step (fail)
 refine wpQuiet_nil ?_;refine cla 17 (some 29) 108 #[G K sf,G K 0,G K kn] 2 (by kernel_rfl) ?_;refine(A _).mono ?_;rintro e w9 ⟨rfl,d⟩;replace d:=d.symm;subst d;refine⟨_,rfl,⟨⟨_,hW⟩,rfl⟩,?_⟩;simp only[H,pjE];refine sgr [(18,2)] 0 (by kernel_rfl) ⟨⟨_,hW⟩,rfl⟩ ?_;simp only[pkE];repeat go_big_quiet_step (fail)
 refine wpQuiet_nil ?_;refine z0e (by kernel_rfl) ?_;replace A0:=A0.below hW;replace b1:=b1.trans (hW.mono b1.size);clear c0 c1 c2 c3 c4 c5 c6;clear I N z A
 go_wp2_with fail
 refine(aa.out _ A0 (Z.out _ b1)).mono ?_;rintro e w3 ⟨rfl,X⟩;replace A0:=A0.below X;replace b1:=b1.trans (X.mono b1.size);clear X aa;by_cases hR:RF=0
 case neg=>
  have ab:(RF !=0)=true:=by simpa using hR
  have HD:Hid (D=RF):=by
   rcases L.out with⟨h0,_⟩|⟨_,h0,_⟩|⟨_,_,h0,_⟩|⟨_,_,_,_,e⟩|⟨_,_,_,h0,_⟩|⟨_,_,_,h0,_⟩
   ·exact absurd rfl h0
   ·exact absurd HK.out h0
   ·exact absurd HS.out h0
   ·exact e
   all_goals exact absurd h0 hR
  clear L hR
  go_wp2
  go_ret;exact⟨by first|(rw[HD.out];done)|(rw[HD.out];rfl),b1⟩
 subst hR;have ab:((0:Int) !=0)=false:=by decide
 have HW:Hid ((sameTs (done.map TxnQ.e) DL=false∧D=8)∨(sameTs (done.map TxnQ.e) DL=true∧D=0)):=by
  rcases L.out with⟨h0,_⟩|⟨_,h0,_⟩|⟨_,_,h0,_⟩|⟨_,_,_,h0,_⟩|⟨_,_,_,_,e1,e2⟩|⟨_,_,_,_,e1,e2⟩
  ·exact absurd rfl h0
  ·exact absurd HK.out h0
  ·exact absurd HS.out h0
  ·exact absurd rfl h0
  ·exact Or.inl ⟨e1,e2⟩
  ·exact Or.inr ⟨e1,e2⟩
 clear L
 go_wp2_with fail
 clear ab;have HH:Hid (instK.At w (Q va ps.length vc) ps):=h;obtain⟨c0,c1,c2,c3,c4,c5,c6⟩:=A0.lts7;have hW:Below w3.heap.size w3 w3.drew:=(Below.refl _ _).drew;have I:Nonempty (Lat w3):=⟨⟨w3,Below.refl _ _⟩⟩
 refine z0b (S:=fun w'=>∃u:Lat w3,w'=u.val) (by kernel_rfl) ?_;refine sgr [(0,10)] 3 (by kernel_rfl) ⟨⟨_,hW⟩,rfl⟩ ?_;simp only[pkE];repeat go_big_quiet_step (fail)
 refine wpQuiet_nil ?_;refine cla 10 (some 49) 111 #[Q va ps.length vc,G K kn] 2 (by kernel_rfl) ?_;refine(ak.out _ (HH.out.below (b1.trans (hW.mono b1.size))) trivial HK.out).mono ?_;rintro e w9 ⟨vq,qs,rfl,eq,oq,_,_,x⟩;replace hW:=hW.trans (x.mono hW.size);obtain⟨xa,xc,rfl⟩:=oq.shape;clear x;refine⟨_,rfl,⟨⟨_,hW⟩,rfl⟩,?_⟩;simp only[H,pjE];refine cla 11 (some 50) 110 #[Q a0 done.length k0,Q xa qs.length xc] 1 (by kernel_rfl) ?_;refine(al.out _ qs _ ((repK.own_rd (Z.out _ (b1.trans (hW.mono b1.size)))).1) oq.at eq).mono ?_;rintro e w9 ⟨rfl,x⟩;replace hW:=hW.trans (x.mono hW.size);clear x;refine⟨_,rfl,⟨⟨_,hW⟩,rfl⟩,?_⟩;simp only[H,pjE];refine sgr [(12,1)] 0 (by kernel_rfl) ⟨⟨_,hW⟩,rfl⟩ ?_;simp only[pkE];repeat go_big_quiet_step (fail)
 refine wpQuiet_nil ?_;refine z0e (by kernel_rfl) ?_;have b2:=b1.trans (hW.mono b1.size);clear c0 c1 c2 c3 c4 c5 c6;clear oq hW I;rcases HW.out with⟨e1,e2⟩|⟨e1,e2⟩
 ·rw[eq,e1];clear HW
  go_wp2
  go_ret;exact⟨by first|(rw[e2];done)|(rw[e2];rfl),b2⟩
 ·rw[eq,e1];clear HW
  go_wp2
  go_ret;exact⟨by first|(rw[e2];done)|(rw[e2];rfl),b2⟩
theorem q4B{r:RepE}(h:repF r=0):mkR r.done r.tent=r:=by
 obtain⟨h1,h2,h3,_⟩:=z4h h;obtain⟨d,b,t,u,n⟩:=r;dsimp only at h1 h2 h3;unfold mkR;dsimp only;rw[←h1,←h2,←h3]
theorem q1u(D:Int)(w:World):
  Calls Tryz.prog 60 #[G K D] w fun e w'=>e=.returned (.agg #[G K D,G K 0,G K 0,G K 0,Q none 0 0,Q none 0 0,Q none 0 0,Q none 0 0,Q none 0 0])∧Below w.heap.size w w':=by
 have Rb:=Blk.new w 35 #[G K 0,G K 0,G K 0,G K 0,Q none 0 0,Q none 0 0,Q none 0 0,Q none 0 0,Q none 0 0];have hB:Below w.heap.size w (w.alloc (.cells #[G K 0,G K 0,G K 0,G K 0,Q none 0 0,Q none 0 0,Q none 0 0,Q none 0 0,Q none 0 0] 35)):=by go_grown
 have Rr:=Rb.row #[G K D,G K 0,G K 0,G K 0,Q none 0 0,Q none 0 0,Q none 0 0,Q none 0 0,Q none 0 0];have hBr:=z0j hB (g:=w.heap.size) (Nat.le_refl _) #[G K D,G K 0,G K 0,G K 0,Q none 0 0,Q none 0 0,Q none 0 0,Q none 0 0,Q none 0 0];have hsr:(Tryz.prog.info? 35).map (·.size)=some (#[G K D,G K 0,G K 0,G K 0,Q none 0 0,Q none 0 0,Q none 0 0,Q none 0 0,Q none 0 0]:Array Value).size:=by kernel_rfl
 go_enter func60,ntmps60
 go_wp2_with (refine z0r (by kernel_rfl) 35 _ _ rfl _ #[G K D,G K 0,G K 0,G K 0,Q none 0 0,Q none 0 0,Q none 0 0,Q none 0 0,Q none 0 0] rfl rfl 35 _ Rb hsr rfl (by simp[Value.oneCell']) ?_)
 obtain⟨r0,r1,r2,r3,r4,r5,r6,r7,r8⟩:=Rr.cel9;exact bodyPost_ret (v:=.agg #[G K D,G K 0,G K 0,G K 0,Q none 0 0,Q none 0 0,Q none 0 0,Q none 0 0,Q none 0 0]) (by simp[results,results60,go_sem,r0,r1,r2,r3,r4,r5,r6,r7,r8]) rfl ⟨rfl,hBr⟩
end Go.Proofs.YtlkpdgjnhkjpjaaGreatDoor
