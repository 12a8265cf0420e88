/- Texts joined,with what the laws reach alone. -/
import Derived.Test.YtlkpdgjnhkjpjaaGreatDoorSCBG
import Derived.Test.YtlkpdgjnhkjpjaaGreatDoorSCAT
import Derived.Laws.CopyRow
set_option linter.unusedVariables false
set_option linter.unusedSimpArgs false
set_option maxRecDepth 100000
set_option maxHeartbeats 16000000
namespace Go.Proofs.YtlkpdgjnhkjpjaaGreatDoor
open Go.RowKit Go.BigFrame
theorem z8G(v:Value)(ps:List InstQ)(b:Nat)(kn sf:Int)(p:RepQ)(w:World)(hB:Blk w b 31 #[.int .i64 kn,.int .i64 sf,p.vd,p.vb,p.vt,p.vu,p.vn])(h:instK.At w v ps)(hl:(ps.length+nmL InstQ.n ps)≤1048576)(hp:repK.own w p)(ae:p.n≤1048576):
  Calls Tryz.prog 59 #[v,.pointer (some ⟨b,0,none⟩)] w fun e w'=>e=.returned (.int .i64 (nodF (ps.map InstQ.e) kn sf p.e))∧Below w.heap.size w w':=by
 have ag:=fun w h=>z9b v ps w h hl
 have T:=fun w h h0=>q4Y v ps w h hl h0
 have O:=fun w h h0 hn=>q2E v ps kn w h hl h0 hn
 have V:=fun w hB h=>q2G kn sf b p w hB h ae
 have af:p.done.length+nmL TxnQ.n p.done≤1048576:=by
  have:p.done.length+nmL TxnQ.n p.done≤p.n:=by simp only[RepQ.n];omega
  omega
 have J:=fun v' (ys:List TxnQ) w h h' hy=>q2D p.vd v' p.done ys w h h' af hy
 have W:Hid (ordF (ps.map InstQ.e)=0→∀ys:List TxnQ,ys.map TxnQ.e=defL (ps.map InstQ.e) kn.toNat→ys.length+nmL TxnQ.n ys≤1048576):=fun h0 ys hy=>by
  have h1:=z9w h0 kn.toNat;have h2:=q2w (qs:=ys) (by rw[hy];exact q3i (z2d h0) _);have h3:ys.length=(defL (ps.map InstQ.e) kn.toNat).length:=by rw[←hy,List.length_map]
  omega
 have U:=fun(w':World) (hb:Below w.heap.size w w')=>repK.own_out (F:=[]) (w':=w') hp (Out.of_below hb) (fun _ _=>by simp)
 have y:=z7x (ps.map InstQ.e) kn sf p.e;have ah:p.e.done=p.done.map TxnQ.e:=rfl;rw[ah]at y;generalize nodF (ps.map InstQ.e) kn sf p.e=D at*;generalize defL (ps.map InstQ.e) kn.toNat=DL at*;generalize ordF (ps.map InstQ.e)=C at*;generalize (decN (ps.map InstQ.e):Int)=M at*;generalize repF p.e=RF at*;clear ah;obtain⟨vd,done,vb,base,vt,aj,vu,Y,vn,an⟩:=p;obtain⟨a0,k0,rfl⟩:∃a c,vd=.slice a done.length c:=hp.1.shape;obtain⟨a1,k1,rfl⟩:∃a c,vb=.slice a base.length c:=hp.2.1.shape;obtain⟨a2,k2,rfl⟩:∃a c,vt=.slice a aj.length c:=hp.2.2.1.shape;obtain⟨a3,k3,rfl⟩:∃a c,vu=.slice a Y.length c:=hp.2.2.2.1.shape;obtain⟨a4,k4,rfl⟩:∃a c,vn=.slice a an.length c:=hp.2.2.2.2.shape;obtain⟨va,vc,rfl⟩:=h.shape;dsimp only at V J U y hB;clear ae af;have A0:=hB;have b1:Below w.heap.size w w:=Below.refl _ _;go_enter Tryz.func59,Tryz.ntmps59
 go_wp2_with fail
 refine(ag w h).mono ?_;rintro e w1 ⟨rfl,hb⟩;replace A0:=A0.below hb;replace b1:=b1.trans (hb.mono b1.size);clear hb ag;by_cases hC:C=0
 case neg=>
  have am:(C !=0)=true:=by simpa using hC
  have HD:Hid (D=C):=by
   rcases y with⟨_,e⟩|⟨h0,_⟩|⟨h0,_⟩|⟨h0,_⟩|⟨h0,_⟩|⟨h0,_⟩
   ·exact e
   all_goals exact absurd h0 hC
  clear y T O V J U hC W
  go_wp2
  go_ret;exact⟨by first|(rw[HD.out];done)|(rw[HD.out];rfl),b1⟩
 subst hC;have ad:=W.out rfl;have ai:=fun v' (ys:List TxnQ) w h h' hy=>J v' ys w h h' (ad ys hy)
 have al:Hid _:=ai;have N:=fun w h=>T w h rfl
 have ak:Hid _:=O;have Z:Hid _:=U;have aa:Hid _:=V;have L:Hid _:=y;clear W ad J ai T O U V y;have am:((0:Int) !=0)=false:=by decide
 have z:=fun w=>z1f kn 0 M w
 have A:=fun w=>z1f sf 0 kn w
 obtain⟨c0,c1,c2,c3,c4,c5,c6⟩:=A0.lts7;by_cases hk:0≤kn∧kn≤M
 case neg=>
  have HD:Hid (D=3):=by
   rcases L.out with⟨h0,_⟩|⟨_,_,e⟩|⟨_,h0,_⟩|⟨_,h0,_⟩|⟨_,h0,_⟩|⟨_,h0,_⟩
   ·exact absurd rfl h0
   ·exact e
   all_goals exact absurd h0 hk
  have hz:inB kn 0 M=false:=decide_eq_false hk;rw[hz]at z;clear hk hz
  go_wp2_with fail
  have hW:Below w1.heap.size w1 w1.drew:=(Below.refl _ _).drew;have I:Nonempty (Lat w1):=⟨⟨w1,Below.refl _ _⟩⟩
  refine z0e (S:=fun w'=>∃u:Lat w1,w'=u.val) (by kernel_rfl) ?_;refine sgr [(0,5)] 15 (by kernel_rfl) ⟨⟨_,hW⟩,rfl⟩ ?_;simp only[pkE];repeat go_big_quiet_step (fail)
  refine wpQuiet_nil ?_;refine cla 5 (some 17) 72 #[.slice va ps.length vc] 14 (by kernel_rfl) ?_;refine(N _ (h.below (b1.trans (hW.mono b1.size)))).mono ?_;rintro e w9 ⟨rfl,x⟩;replace hW:=hW.trans (x.mono hW.size);clear x;refine⟨_,rfl,⟨⟨_,hW⟩,rfl⟩,?_⟩;simp only[Act.put,pjE];refine cla 6 (some 18) 108 #[.int .i64 kn,.int .i64 0,.int .i64 M] 13 (by kernel_rfl) ?_;refine(z _).mono ?_;rintro e w9 ⟨rfl,d⟩;replace d:=d.symm;subst d;refine⟨_,rfl,⟨⟨_,hW⟩,rfl⟩,?_⟩;simp only[Act.put,pjE];refine sgr [(7,10)] 3 (by kernel_rfl) ⟨⟨_,hW⟩,rfl⟩ ?_;simp only[pkE];repeat go_big_quiet_step (fail)
  refine wpQuiet_nil ?_;refine ska 17 (some 29) 2 (by kernel_rfl) ⟨⟨_,hW⟩,rfl⟩ ?_;simp only[Act.put,pjE];refine sgr [(18,2)] 0 (by kernel_rfl) ⟨⟨_,hW⟩,rfl⟩ ?_;simp only[pkE];repeat go_big_quiet_step (fail)
  refine wpQuiet_nil ?_;refine z0i (by kernel_rfl) ?_;replace A0:=A0.below hW;replace b1:=b1.trans (hW.mono b1.size);clear c0 c1 c2 c3 c4 c5 c6;clear I N z A
  go_wp2
  go_ret;exact⟨by first|(rw[HD.out];done)|(rw[HD.out];rfl),b1⟩
 have hz:inB kn 0 M=true:=decide_eq_true hk;rw[hz]at z;have HK:Hid (0≤kn∧kn≤M):=hk;clear hz;by_cases hs:0≤sf∧sf≤kn
 case neg=>
  have HD:Hid (D=3):=by
   rcases L.out with⟨h0,_⟩|⟨_,h0,_⟩|⟨_,_,_,e⟩|⟨_,_,h0,_⟩|⟨_,_,h0,_⟩|⟨_,_,h0,_⟩
   ·exact absurd rfl h0
   ·exact absurd hk h0
   ·exact e
   all_goals exact absurd h0 hs
  have hz:inB sf 0 kn=false:=decide_eq_false hs;rw[hz]at A;clear hk hz hs
  go_wp2_with fail
  have hW:Below w1.heap.size w1 w1.drew:=(Below.refl _ _).drew;have I:Nonempty (Lat w1):=⟨⟨w1,Below.refl _ _⟩⟩
  refine z0e (S:=fun w'=>∃u:Lat w1,w'=u.val) (by kernel_rfl) ?_;refine sgr [(0,5)] 15 (by kernel_rfl) ⟨⟨_,hW⟩,rfl⟩ ?_;simp only[pkE];repeat go_big_quiet_step (fail)
  refine wpQuiet_nil ?_;refine cla 5 (some 17) 72 #[.slice va ps.length vc] 14 (by kernel_rfl) ?_;refine(N _ (h.below (b1.trans (hW.mono b1.size)))).mono ?_;rintro e w9 ⟨rfl,x⟩;replace hW:=hW.trans (x.mono hW.size);clear x;refine⟨_,rfl,⟨⟨_,hW⟩,rfl⟩,?_⟩;simp only[Act.put,pjE];refine cla 6 (some 18) 108 #[.int .i64 kn,.int .i64 0,.int .i64 M] 13 (by kernel_rfl) ?_;refine(z _).mono ?_;rintro e w9 ⟨rfl,d⟩;replace d:=d.symm;subst d;refine⟨_,rfl,⟨⟨_,hW⟩,rfl⟩,?_⟩;simp only[Act.put,pjE];refine sgr [(7,10)] 3 (by kernel_rfl) ⟨⟨_,hW⟩,rfl⟩ ?_;simp only[pkE];repeat go_big_quiet_step (fail)
  refine wpQuiet_nil ?_;refine cla 17 (some 29) 108 #[.int .i64 sf,.int .i64 0,.int .i64 kn] 2 (by kernel_rfl) ?_;refine(A _).mono ?_;rintro e w9 ⟨rfl,d⟩;replace d:=d.symm;subst d;refine⟨_,rfl,⟨⟨_,hW⟩,rfl⟩,?_⟩;simp only[Act.put,pjE];refine sgr [(18,2)] 0 (by kernel_rfl) ⟨⟨_,hW⟩,rfl⟩ ?_;simp only[pkE];repeat go_big_quiet_step (fail)
  refine wpQuiet_nil ?_;refine z0i (by kernel_rfl) ?_;replace A0:=A0.below hW;replace b1:=b1.trans (hW.mono b1.size);clear c0 c1 c2 c3 c4 c5 c6;clear I N z A
  go_wp2
  go_ret;exact⟨by first|(rw[HD.out];done)|(rw[HD.out];rfl),b1⟩
 have hz:inB sf 0 kn=true:=decide_eq_true hs;rw[hz]at A;have HS:Hid (0≤sf∧sf≤kn):=hs;clear hk hs hz
 go_wp2_with fail
 have hW:Below w1.heap.size w1 w1.drew:=(Below.refl _ _).drew;have I:Nonempty (Lat w1):=⟨⟨w1,Below.refl _ _⟩⟩
 refine z0e (S:=fun w'=>∃u:Lat w1,w'=u.val) (by kernel_rfl) ?_;refine sgr [(0,5)] 15 (by kernel_rfl) ⟨⟨_,hW⟩,rfl⟩ ?_;simp only[pkE];repeat go_big_quiet_step (fail)
 refine wpQuiet_nil ?_;refine cla 5 (some 17) 72 #[.slice va ps.length vc] 14 (by kernel_rfl) ?_;refine(N _ (h.below (b1.trans (hW.mono b1.size)))).mono ?_;rintro e w9 ⟨rfl,x⟩;replace hW:=hW.trans (x.mono hW.size);clear x;refine⟨_,rfl,⟨⟨_,hW⟩,rfl⟩,?_⟩;simp only[Act.put,pjE];refine cla 6 (some 18) 108 #[.int .i64 kn,.int .i64 0,.int .i64 M] 13 (by kernel_rfl) ?_;refine(z _).mono ?_;rintro e w9 ⟨rfl,d⟩;replace d:=d.symm;subst d;refine⟨_,rfl,⟨⟨_,hW⟩,rfl⟩,?_⟩;simp only[Act.put,pjE];refine sgr [(7,10)] 3 (by kernel_rfl) ⟨⟨_,hW⟩,rfl⟩ ?_;simp only[pkE];repeat go_big_quiet_step (fail)
 refine wpQuiet_nil ?_;refine cla 17 (some 29) 108 #[.int .i64 sf,.int .i64 0,.int .i64 kn] 2 (by kernel_rfl) ?_;refine(A _).mono ?_;rintro e w9 ⟨rfl,d⟩;replace d:=d.symm;subst d;refine⟨_,rfl,⟨⟨_,hW⟩,rfl⟩,?_⟩;simp only[Act.put,pjE];refine sgr [(18,2)] 0 (by kernel_rfl) ⟨⟨_,hW⟩,rfl⟩ ?_;simp only[pkE];repeat go_big_quiet_step (fail)
 refine wpQuiet_nil ?_;refine z0i (by kernel_rfl) ?_;replace A0:=A0.below hW;replace b1:=b1.trans (hW.mono b1.size);clear c0 c1 c2 c3 c4 c5 c6;clear I N z A
 go_wp2_with fail
 refine(aa.out _ A0 (Z.out _ b1)).mono ?_;rintro e w3 ⟨rfl,X⟩;replace A0:=A0.below X;replace b1:=b1.trans (X.mono b1.size);clear X aa;by_cases hR:RF=0
 case neg=>
  have ab:(RF !=0)=true:=by simpa using hR
  have HD:Hid (D=RF):=by
   rcases L.out with⟨h0,_⟩|⟨_,h0,_⟩|⟨_,_,h0,_⟩|⟨_,_,_,_,e⟩|⟨_,_,_,h0,_⟩|⟨_,_,_,h0,_⟩
   ·exact absurd rfl h0
   ·exact absurd HK.out h0
   ·exact absurd HS.out h0
   ·exact e
   all_goals exact absurd h0 hR
  clear L hR
  go_wp2
  go_ret;exact⟨by first|(rw[HD.out];done)|(rw[HD.out];rfl),b1⟩
 subst hR;have ab:((0:Int) !=0)=false:=by decide
 have HW:Hid ((sameTs (done.map TxnQ.e) DL=false∧D=8)∨(sameTs (done.map TxnQ.e) DL=true∧D=0)):=by
  rcases L.out with⟨h0,_⟩|⟨_,h0,_⟩|⟨_,_,h0,_⟩|⟨_,_,_,h0,_⟩|⟨_,_,_,_,e1,e2⟩|⟨_,_,_,_,e1,e2⟩
  ·exact absurd rfl h0
  ·exact absurd HK.out h0
  ·exact absurd HS.out h0
  ·exact absurd rfl h0
  ·exact Or.inl ⟨e1,e2⟩
  ·exact Or.inr ⟨e1,e2⟩
 clear L
 go_wp2_with fail
 clear ab;have HH:Hid (instK.At w (.slice va ps.length vc) ps):=h;obtain⟨c0,c1,c2,c3,c4,c5,c6⟩:=A0.lts7;have hW:Below w3.heap.size w3 w3.drew:=(Below.refl _ _).drew;have I:Nonempty (Lat w3):=⟨⟨w3,Below.refl _ _⟩⟩
 refine z0e (S:=fun w'=>∃u:Lat w3,w'=u.val) (by kernel_rfl) ?_;refine sgr [(0,10)] 3 (by kernel_rfl) ⟨⟨_,hW⟩,rfl⟩ ?_;simp only[pkE];repeat go_big_quiet_step (fail)
 refine wpQuiet_nil ?_;refine cla 10 (some 49) 111 #[.slice va ps.length vc,.int .i64 kn] 2 (by kernel_rfl) ?_;refine(ak.out _ (HH.out.below (b1.trans (hW.mono b1.size))) trivial HK.out).mono ?_;rintro e w9 ⟨vq,qs,rfl,eq,oq,_,_,x⟩;replace hW:=hW.trans (x.mono hW.size);obtain⟨xa,xc,rfl⟩:=oq.shape;clear x;refine⟨_,rfl,⟨⟨_,hW⟩,rfl⟩,?_⟩;simp only[Act.put,pjE];refine cla 11 (some 50) 110 #[.slice a0 done.length k0,.slice xa qs.length xc] 1 (by kernel_rfl) ?_;refine(al.out _ qs _ ((repK.own_rd (Z.out _ (b1.trans (hW.mono b1.size)))).1) oq.at eq).mono ?_;rintro e w9 ⟨rfl,x⟩;replace hW:=hW.trans (x.mono hW.size);clear x;refine⟨_,rfl,⟨⟨_,hW⟩,rfl⟩,?_⟩;simp only[Act.put,pjE];refine sgr [(12,1)] 0 (by kernel_rfl) ⟨⟨_,hW⟩,rfl⟩ ?_;simp only[pkE];repeat go_big_quiet_step (fail)
 refine wpQuiet_nil ?_;refine z0i (by kernel_rfl) ?_;have b2:=b1.trans (hW.mono b1.size);clear c0 c1 c2 c3 c4 c5 c6;clear oq hW I;rcases HW.out with⟨e1,e2⟩|⟨e1,e2⟩
 ·rw[eq,e1];clear HW
  go_wp2
  go_ret;exact⟨by first|(rw[e2];done)|(rw[e2];rfl),b2⟩
 ·rw[eq,e1];clear HW
  go_wp2
  go_ret;exact⟨by first|(rw[e2];done)|(rw[e2];rfl),b2⟩
theorem z6B(D:Int)(w:World):
  Calls Tryz.prog 60 #[.int .i64 D] w fun e w'=>e=.returned (.agg #[.int .i64 D,.int .i64 0,.int .i64 0,.int .i64 0,.slice none 0 0,.slice none 0 0,.slice none 0 0,.slice none 0 0,.slice none 0 0])∧Below w.heap.size w w':=by
 have Rb:=Blk.new w 35 #[.int .i64 0,.int .i64 0,.int .i64 0,.int .i64 0,.slice none 0 0,.slice none 0 0,.slice none 0 0,.slice none 0 0,.slice none 0 0];have hB:Below w.heap.size w (w.alloc (.cells #[.int .i64 0,.int .i64 0,.int .i64 0,.int .i64 0,.slice none 0 0,.slice none 0 0,.slice none 0 0,.slice none 0 0,.slice none 0 0] 35)):=by go_grown
 have Rr:=Rb.row #[.int .i64 D,.int .i64 0,.int .i64 0,.int .i64 0,.slice none 0 0,.slice none 0 0,.slice none 0 0,.slice none 0 0,.slice none 0 0];have hBr:=z0p hB (g:=w.heap.size) (Nat.le_refl _) #[.int .i64 D,.int .i64 0,.int .i64 0,.int .i64 0,.slice none 0 0,.slice none 0 0,.slice none 0 0,.slice none 0 0,.slice none 0 0];have hsr:(Tryz.prog.info? 35).map (·.size)=some (#[.int .i64 D,.int .i64 0,.int .i64 0,.int .i64 0,.slice none 0 0,.slice none 0 0,.slice none 0 0,.slice none 0 0,.slice none 0 0]:Array Value).size:=by kernel_rfl
 go_enter Tryz.func60,Tryz.ntmps60
 go_wp2_with (refine z0K (by kernel_rfl) 35 _ _ rfl _ #[.int .i64 D,.int .i64 0,.int .i64 0,.int .i64 0,.slice none 0 0,.slice none 0 0,.slice none 0 0,.slice none 0 0,.slice none 0 0] rfl rfl 35 _ Rb hsr rfl (by simp[Value.oneCell']) ?_)
 obtain⟨r0,r1,r2,r3,r4,r5,r6,r7,r8⟩:=Rr.cel9;exact bodyPost_ret (v:=.agg #[.int .i64 D,.int .i64 0,.int .i64 0,.int .i64 0,.slice none 0 0,.slice none 0 0,.slice none 0 0,.slice none 0 0,.slice none 0 0]) (by simp[results,Tryz.results60,go_sem,r0,r1,r2,r3,r4,r5,r6,r7,r8]) rfl ⟨rfl,hBr⟩
section
open Go.Maps
section
variable {ops:Array Oper} {rest:List Oper} {o:Oper} {a:Act} {Q:Exit→Act→World→Prop}
theorem q2I(w:World)(ty g n:Nat)(cur:Array Value)(ad:Addr)(sc:Nat)(zs:List ItemD)(hz:zs.length=n)(hg:w.heap[g]?=some (.cells cur 119 (0,0)))(hc:cur.size=n*2)(hr:ItemRow w (some ad) zs):
  (Builtin.copy_ #[26,26] ty #[.slice (some ⟨g,0,none⟩) n n,.slice (some ad) n sc]).run Tryz.prog w=.ok (goInt n) (w.setRow g (z0c zs).toArray):=by
 obtain⟨i0,hi,hz0,hz1,hz2⟩:=info_parts z1h;have hlen:=z0w zs;have hl:=run_loadCells_list (P:=Tryz.prog) w ad (z0c zs) (z3M hr);have hst:=run_storeCells_at Tryz.prog g 0 119 (z0c zs) 0 cur w hg (by omega) (z1k zs);have e:cur.toList.drop (z0c zs).length=[]:=List.drop_of_length_le (by simp;omega);simp only[Nat.zero_add,Nat.add_zero,List.take_zero,List.nil_append,e,List.append_nil]at hst;rw[hlen,hz]at hl;simp[Builtin.copy_,run_underlying Tryz.underlying26,Builtin.lenOf,Builtin.firstCells,sizeOf,typeInfo,hi,hz1,hl,hst]
theorem q3y(w:World)(base g n:Nat)(ys:List Value)(hown:w.ownsRow base 119 2 (.slice (some ⟨g,0,none⟩) n n) n ys)(sa:Option Addr)(zs:List ItemD)(sc:Nat)(hz:zs.length=n)(hr:ItemRow w sa zs)(hN:z6a sa n sc):
  ∃w',(∀ty,(Builtin.copy_ #[26,26] ty #[.slice (some ⟨g,0,none⟩) n n,.slice sa n sc]).run Tryz.prog w=.ok (goInt n) w')∧w'.ownsRow base 119 2 (.slice (some ⟨g,0,none⟩) n n) n (z0c zs)∧Below base w w':=by
 have hlen:=z0w zs;rcases hN with⟨ad,rfl⟩|⟨rfl,hn,rfl⟩
 ·rcases hown.2 with⟨hv,_⟩|⟨g',cap',cur,hv,hb,hh,h1,h2,h3,h4⟩
  ·simp at hv
  ·simp only[Value.slice.injEq,Option.some.injEq,Addr.mk.injEq,and_true,true_and]at hv;obtain⟨rfl,rfl⟩:=hv;refine⟨_,fun ty=>q2I w ty g n cur ad sc zs hz hh h3 hr,⟨by omega,Or.inr ⟨g,n,(z0c zs).toArray,rfl,hb,setRow_heap w g _ _ _ _ hh,h1,h2,by simp;omega,?_⟩⟩,?_⟩
   ·simp only[List.toList_toArray];rw[List.take_of_length_le (by omega)]
   ·exact(Below.refl _ _).trans ⟨rfl,rfl,rfl,by simp[World.setRow],fun k hk=>setRow_other w g k _ (by omega)⟩
 ·subst hn;have hz':zs=[]:=List.eq_nil_of_length_eq_zero hz;subst hz';obtain⟨i0,hi,hz0,hz1,hz2⟩:=info_parts z1h;have hys:ys=[]:=List.eq_nil_of_length_eq_zero (by have:=hown.1;omega);subst hys;refine⟨w,fun ty=>?_,hown,Below.refl _ _⟩;simp[Builtin.copy_,run_underlying Tryz.underlying26,Builtin.lenOf,Builtin.firstCells,sizeOf,typeInfo,hi,storeCells]
end
theorem z7z(a:Option Addr)(cap:Nat)(zs:List ItemD)(w:World)(h:ItemRow w a zs)(hN:z6a a zs.length cap)(hl:zs.length≤1048576):
  Calls Tryz.prog 121 #[.slice a zs.length cap] w fun e w'=>∃a' c',e=.returned (.slice a' zs.length c')∧w'.ownsRow w.heap.size 119 2 (.slice a' zs.length c') zs.length (z0c zs)∧Below w.heap.size w w':=by
 obtain⟨i0,hi,I,J,L⟩:=info_parts z1h;have d:i0.bytes*zs.length≤281474976710656:=by rw[L];omega
 have A:zs.length≤maxLen:=by unfold maxLen;omega
 go_enter Tryz.func121,Tryz.ntmps121
 go_wp2_with (at_make;refine wpList_make_full _ rfl _ _ 26 rfl w.heap.size 119 i0 (.agg #[.int .i64 0,.int .i64 0]) 2 Tryz.underlying26 hi I J _ _ _ _ zs.length rfl rfl rfl rfl d A (Nat.le_refl _) ?_)
 intro w1 x c;have z:Below w.heap.size w w1:=(Below.refl _ _).grown c (Nat.le_refl _) (by simp);generalize (madeCells #[Value.int .i64 0,.int .i64 0] (zs.length*2)).toList=ys at x;clear c;obtain⟨w2,M,y,C⟩:=q3y w1 w.heap.size w.heap.size zs.length ys x a zs cap rfl (h.below z) hN
 go_wp2
 go_ret;exact⟨_,_,rfl,y,z.trans C⟩
end
def falE(D:List TxnD):RepE:=⟨D,eaI [] D,[],[],eaI [] D⟩
theorem q5J(qs:List TxnQ)(m:Nat):(qs.take m).length+nmL TxnQ.n (qs.take m)≤qs.length+nmL TxnQ.n qs:=by
 have:=z3t TxnQ.n qs m;rw[List.length_take];omega
theorem q3z(v:Value)(ps:List InstQ)(k:Int)(g:Nat)(kn sf:Int)(p:RepQ)(D:List TxnD)(w0 w:World)(hG:Rul w0)(h:instK.At w0 v ps)(a7:Below w0.heap.size w0 w)(bZ:w0.heap.size≤g)(aj:z5U v)(hl:ps.length+nmL InstQ.n ps≤1048576)
  (hB:Blk w g 31 #[.int .i64 kn,.int .i64 sf,p.vd,p.vb,p.vt,p.vu,p.vn]) (hp:repK.own w p) (bg:(repK.foot p).Nodup) (hg:∀x∈repK.foot p,x≠g∧w0.heap.size≤x) (be:p.n≤1048576) (hD:dfT (ps.map InstQ.e) k=D) (hm:D.length≤p.done.length):
  Calls Tryz.prog 69 #[.pointer (some ⟨g,0,none⟩),v,.int .i64 k] w fun e w'=>e=.returned (.tuple #[])∧∃q:RepQ,Blk w' g 31 #[.int .i64 k,.int .i64 k,q.vd,q.vb,q.vt,q.vu,q.vn]∧q.e=falE ((p.done.take D.length).map TxnQ.e)∧repK.own w' q∧(repK.foot q).Nodup∧(∀x∈repK.foot q,x≠g∧(x∈repK.foot p∨w.heap.size≤x))∧Out (g::repK.foot p) w w':=by
 have ba:=fun w hG h=>z1P v ps k w hG h aj hl
 have aO:Hid (∀qs:List TxnQ,qs.map TxnQ.e=dfT (ps.map InstQ.e) k→qs.length=D.length):=fun qs hq=>by
  have:=congrArg List.length hq;rw[List.length_map,hD]at this;exact this
 obtain⟨vd,done,vb,base,vt,d,vu,c,vn,A⟩:=p;obtain⟨oD,oB,oT,oU,oN⟩:txnK.Own w vd done∧itemK.Own w vb base∧txnK.Own w vt d∧ussK.Own w vu c∧itemK.Own w vn A:=hp;obtain⟨a0,k0,rfl⟩:=oD.shape;obtain⟨a1,k1,rfl⟩:=oB.shape;obtain⟨a2,k2,rfl⟩:=oT.shape;obtain⟨a3,k3,rfl⟩:=oU.shape;obtain⟨a4,k4,rfl⟩:=oN.shape;obtain⟨va,vc,rfl⟩:=h.shape;dsimp only at hm hB;have b1:done.length+nmL TxnQ.n done≤1048576∧d.length≤1048576∧c.length≤1048576:=by
  simp only[RepQ.n]at be;omega
 clear be oB oN;have am:(txnK.fp (.slice a0 done.length k0) done++(itemK.fp (.slice a1 base.length k1) base++(txnK.fp (.slice a2 d.length k2) d++(ussK.fp (.slice a3 c.length k3) c++itemK.fp (.slice a4 A.length k4) A)))).Nodup:=bg;have M:Hid (∀x,x∈txnK.fp (.slice a0 done.length k0) done∨x∈txnK.fp (.slice a2 d.length k2) d∨x∈ussK.fp (.slice a3 c.length k3) c→x∈repK.foot (⟨.slice a0 done.length k0,done,.slice a1 base.length k1,base,.slice a2 d.length k2,d,.slice a3 c.length k3,c,.slice a4 A.length k4,A⟩:RepQ)):=fun x hx=>by
  rcases hx with hx|hx|hx
  ·exact List.mem_append_left _ hx
  ·exact List.mem_append_right _ (List.mem_append_right _ (List.mem_append_left _ hx))
  ·exact List.mem_append_right _ (List.mem_append_right _ (List.mem_append_right _ (List.mem_append_left _ hx)))
 have z:Hid (∀x,x∈txnK.fp (.slice a0 done.length k0) done∨x∈txnK.fp (.slice a2 d.length k2) d∨x∈ussK.fp (.slice a3 c.length k3) c→x≠g):=fun x hx=>(hg x (M.out x hx)).1
 obtain⟨aI,bk,aA⟩:=List.nodup_append.1 am;obtain⟨_,bl,_⟩:=List.nodup_append.1 bk;obtain⟨aJ,bm,aZ⟩:=List.nodup_append.1 bl;obtain⟨aK,_,_⟩:=List.nodup_append.1 bm;have af:Hid (∀x∈txnK.fp (.slice a0 done.length k0) done,∀y∈txnK.fp (.slice a2 d.length k2) d,x≠y):=fun x hx y hy=>aA x hx y (List.mem_append_right _ (List.mem_append_left _ hy))
 have ag:Hid (∀x∈txnK.fp (.slice a0 done.length k0) done,∀y∈ussK.fp (.slice a3 c.length k3) c,x≠y):=fun x hx y hy=>aA x hx y (List.mem_append_right _ (List.mem_append_right _ (List.mem_append_left _ hy)))
 have ah:Hid (∀x∈txnK.fp (.slice a2 d.length k2) d,∀y∈ussK.fp (.slice a3 c.length k3) c,x≠y):=fun x hx y hy=>aZ x hx y (List.mem_append_left _ hy)
 have X:∀x∈blk (.slice a0 done.length k0),x∈txnK.fp (.slice a0 done.length k0) done:=fun x hx=>List.mem_append_left _ hx
 have Y:∀x∈blk (.slice a2 d.length k2),x∈txnK.fp (.slice a2 d.length k2) d:=fun x hx=>List.mem_append_left _ hx
 have Z:∀x∈blk (.slice a3 c.length k3),x∈ussK.fp (.slice a3 c.length k3) c:=fun x hx=>List.mem_append_left _ hx
 clear bg am bk bl bm aA aZ;have ai:Hid (∀x,x∈txnK.fp (.slice a0 done.length k0) done∨x∈txnK.fp (.slice a2 d.length k2) d∨x∈ussK.fp (.slice a3 c.length k3) c→w0.heap.size≤x):=fun x hx=>(hg x (M.out x hx)).2
 have aP:Hid (∀x,x∈txnK.fp (.slice a0 done.length k0) done∨x∈txnK.fp (.slice a2 d.length k2) d∨x∈ussK.fp (.slice a3 c.length k3) c→x<w.heap.size):=fun x hx=>by
  rcases hx with hx|hx|hx
  ·exact oD.lt x hx
  ·exact oT.lt x hx
  ·exact oU.lt x hx
 have b0:=hB.lt;obtain⟨c0,c1⟩:=hB.cel2;obtain⟨f0,f1⟩:=hB.frz2;have B1:=(hB.set 0 (.int .i64 k)).set 1 (.int .i64 k);simp only[pjE]at B1;have U1:Out [g] w ((w.setCell ⟨g,0,none⟩ (.int .i64 k)).setCell ⟨g,1,none⟩ (.int .i64 k)):=(Out.setCell w g 0 _).trans (Out.setCell _ g 1 _);have bd:∀x∈[g],x∈g::repK.foot (⟨.slice a0 done.length k0,done,.slice a1 base.length k1,base,.slice a2 d.length k2,d,.slice a3 c.length k3,c,.slice a4 A.length k4,A⟩:RepQ):=fun x hx=>by simp only[List.mem_singleton]at hx;subst hx;exact List.mem_cons_self
 have HU:Hid (Out (g::repK.foot (⟨.slice a0 done.length k0,done,.slice a1 base.length k1,base,.slice a2 d.length k2,d,.slice a3 c.length k3,c,.slice a4 A.length k4,A⟩:RepQ)) w ((w.setCell ⟨g,0,none⟩ (.int .i64 k)).setCell ⟨g,1,none⟩ (.int .i64 k))):=U1.mono bd;replace oD:=oD.out U1 (fun x hx=>by have:=z.out x (Or.inl hx);simpa using this);replace oT:=oT.out U1 (fun x hx=>by have:=z.out x (Or.inr (Or.inl hx));simpa using this);replace oU:=oU.out U1 (fun x hx=>by have:=z.out x (Or.inr (Or.inr hx));simpa using this);have U:=Out.keep a7 U1 a7.size (fun x hx=>by simp only[List.mem_singleton]at hx;omega);generalize bH:repK.foot (⟨.slice a0 done.length k0,done,.slice a1 base.length k1,base,.slice a2 d.length k2,d,.slice a3 c.length k3,c,.slice a4 A.length k4,A⟩:RepQ)=FT at*;have bW:Hid (∀x∈FT,x≠g):=fun x hx=>(hg x hx).1
 clear bH hg bd;have bP:=U1.size;go_enter Tryz.func69,Tryz.ntmps69
 go_wp2_with fail
 clear c0 c1 f0 f1 hB U1;generalize (w.setCell ⟨g,0,none⟩ (.int .i64 k)).setCell ⟨g,1,none⟩ (.int .i64 k)=W1 at*;have aB:g∉blk (.slice a0 done.length k0):=fun hx=>z.out g (Or.inl (X g hx)) rfl
 have m2:=z5l (F:=blk (.slice a0 done.length k0)) (B1.cell 2 _ rfl) aB;have bO:Nonempty (LatO (blk (.slice a0 done.length k0)) W1):=⟨⟨W1,Out.refl _ _⟩⟩
 have hW:Below W1.heap.size W1 W1.drew:=(Below.refl _ _).drew;have ab:∀w',Below W1.heap.size W1 w'→∃u:LatO (blk (.slice a0 done.length k0)) W1,w'=u.val:=fun w' bS=>⟨⟨w',Out.of_below bS⟩,rfl⟩
 have bY:∀ (r:Int) (lb:Option Addr) (n lc:Nat) (w:World),Sem.run Tryz.prog (Instr.field 50 (.agg #[.int .i64 r,.slice lb n lc]) 1) w=.ok (.slice lb n lc) w:=fun _ _ _ _ _=>by kernel_rfl
 refine z4m (S:=fun w'=>∃u:LatO (blk (.slice a0 done.length k0)) W1,w'=u.val) (R:=fun _ _=>False) 13 (by kernel_rfl) (fun _ _ _ _ h=>h.elim) ?_;refine sgX [(0,7)] 7 (by kernel_rfl) (ab _ hW) ?_;simp only[pkE];repeat go_big_quiet_step (fail)
 refine wpQuiet_nil ?_;refine clX 7 (some 25) 32 #[.slice va ps.length vc,.int .i64 k] 6 (by kernel_rfl) rfl ?_;refine(ba _ (hG.below (U.trans (hW.mono U.size))) (h.below (U.trans (hW.mono U.size)))).mono ?_;rintro e w2 ⟨v',qs,rfl,bh,bj,_,_,a8⟩;obtain⟨xa,xc,rfl⟩:=bj.shape;have bi:=aO.out qs bh;replace hW:=hW.trans (a8.mono hW.size);clear a8 bh bj ba aO;refine Or.inl ⟨_,rfl,ab _ hW,?_⟩;simp only[Act.put,pgE,pjE];generalize bN:qs.length=m at*;have bM:m≤done.length:=by omega
 have bG:Hid (D.length=m):=bi.symm;clear bN bi hm;refine onX 8 5 rfl (by kernel_rfl) ?_
 go_wp2
 refine ThenX.to ⟨Or.inr (ab _ hW),?_⟩;refine onX 9 4 rfl (by kernel_rfl) ?_
 go_wp2
 refine ThenX.to ⟨Or.inr (ab _ hW),?_⟩;refine clX 10 (some 28) 118 #[.slice a0 done.length k0,.int .i64 (m:Int)] 3 (by kernel_rfl) rfl ?_;refine(z9T a0 k0 done m w2 (oD.below hW) aI bM (by omega)).mono ?_;rintro e w3 ⟨rfl,bn,u3⟩;have L:Out (blk (.slice a0 done.length k0)) W1 w3:=(Out.of_below hW).trans u3;have B3:Blk w3 g 31 #[.int .i64 k,.int .i64 k,.slice a0 done.length k0,.slice a1 base.length k1,.slice a2 d.length k2,.slice a3 c.length k3,.slice a4 A.length k4]:=(L.block g B1.lt aB).trans B1;have bs:=oT.out L (fun x hx J=>af.out x (X x J) x hx rfl);have bz:=oU.out L (fun x hx J=>ag.out x (X x J) x hx rfl);have aC:=Out.keep U L U.size (fun x hx=>ai.out x (Or.inl (X x hx)));have aT:Hid (Out (g::FT) w w3):=HU.out.trans (L.mono (fun x hx=>List.mem_cons_of_mem _ (M.out x (Or.inl (X x hx)))));have bQ:=L.size;refine Or.inl ⟨_,rfl,⟨⟨_,L⟩,rfl⟩,?_⟩;simp only[Act.put,pgE,pjE];clear m2 oD oT oU U B1 HU u3 hW;refine onX 11 2 rfl (by kernel_rfl) ?_
 go_wp2
 refine ThenX.to ⟨Or.inr ⟨⟨_,L⟩,rfl⟩,?_⟩;refine onX 12 1 rfl (by kernel_rfl) ?_
 go_wp2
 refine ThenX.to ⟨Or.inr ⟨⟨_,L⟩,rfl⟩,?_⟩;refine onX 13 0 rfl (by kernel_rfl) ?_;have t3:=B3.cell 2 _ rfl;have t4:=B3.frozen 2;have U4:=Out.setCell w3 g 2 (.slice a0 m k0);have B4:=B3.set 2 (.slice a0 m k0);simp only[pjE]at B4;have bo:=bn.out U4 (fun x hx=>by have:=z.out x (Or.inl (Kind.fp_take a0 m done.length k0 m x hx));simpa using this);have bt:=bs.out U4 (fun x hx=>by have:=z.out x (Or.inr (Or.inl hx));simpa using this);have bA:=bz.out U4 (fun x hx=>by have:=z.out x (Or.inr (Or.inr hx));simpa using this);have aD:=Out.keep aC U4 aC.size (fun x hx=>by simp only[List.mem_singleton]at hx;omega);have aU:Hid (Out (g::FT) w (w3.setCell ⟨g,2,none⟩ (.slice a0 m k0))):=aT.out.trans (U4.mono (fun x hx=>by simp only[List.mem_singleton]at hx;subst hx;exact List.mem_cons_self));have bR:=U4.size;clear bn bs bz aC aT U4
 go_wp2
 refine ThenX.to ⟨Or.inl (by kernel_rfl),?_⟩;refine q3D (by kernel_rfl) ?_;clear t3 t4 L bO ab aB B3;generalize w3.setCell ⟨g,2,none⟩ (.slice a0 m k0)=W4 at*;have hs:w.heap.size≤W4.heap.size:=by omega
 have bc:g∉blk (.slice a2 d.length k2):=fun hx=>z.out g (Or.inr (Or.inl (Y g hx))) rfl
 have bb:g∉blk (.slice a3 c.length k3):=fun hx=>z.out g (Or.inr (Or.inr (Z g hx))) rfl
 have I:∀x∈txnK.fp (.slice a0 m k0) (done.take m),x∈txnK.fp (.slice a0 done.length k0) done:=Kind.fp_take a0 m done.length k0 m;have ak:∀x∈[g],x∈g::FT:=fun x hx=>by simp only[List.mem_singleton]at hx;subst hx;exact List.mem_cons_self
 clear bP bQ bR;have aa:Calls Tryz.prog 118 #[.slice a2 d.length k2,.int .i64 0] W4 fun e w'=>e=.returned (.slice a2 0 k2)∧txnK.Own w' (.slice a2 0 k2) (d.take 0)∧Out (blk (.slice a2 d.length k2)) W4 w':=z9T a2 k2 d 0 W4 bt aJ (Nat.zero_le _) (by omega)
 have t4:=B4.cell 4 _ rfl
 go_wp2_with fail
 clear t4;refine aa.mono ?_;rintro e w5 ⟨rfl,bu,u5⟩;have B5:Blk w5 g 31 #[.int .i64 k,.int .i64 k,.slice a0 m k0,.slice a1 base.length k1,.slice a2 d.length k2,.slice a3 c.length k3,.slice a4 A.length k4]:=(u5.block g B4.lt bc).trans B4;have bp:=bo.out u5 (fun x hx J=>af.out x (I x hx) x (Y x J) rfl);have bB:=bA.out u5 (fun x hx J=>ah.out x (Y x J) x hx rfl);have aE:=Out.keep aD u5 aD.size (fun x hx=>ai.out x (Or.inr (Or.inl (Y x hx))));have aV:Hid (Out (g::FT) w w5):=aU.out.trans (u5.mono (fun x hx=>List.mem_cons_of_mem _ (M.out x (Or.inr (Or.inl (Y x hx))))));replace hs:=Nat.le_trans hs u5.size;have U6:=Out.setCell w5 g 4 (.slice a2 0 k2);have B6:=B5.set 4 (.slice a2 0 k2);simp only[pjE]at B6;have gT:∀x∈txnK.fp (.slice a2 0 k2) (d.take 0),x∈txnK.fp (.slice a2 d.length k2) d:=Kind.fp_take a2 0 d.length k2 0;have bq:=bp.out U6 (fun x hx=>by have:=z.out x (Or.inl (I x hx));simpa using this);have bv:=bu.out U6 (fun x hx=>by have:=z.out x (Or.inr (Or.inl (gT x hx)));simpa using this);have bC:=bB.out U6 (fun x hx=>by have:=z.out x (Or.inr (Or.inr hx));simpa using this);have aF:=Out.keep aE U6 aE.size (fun x hx=>by simp only[List.mem_singleton]at hx;omega);have aW:Hid (Out (g::FT) w (w5.setCell ⟨g,4,none⟩ (.slice a2 0 k2))):=aV.out.trans (U6.mono ak);replace hs:=Nat.le_trans hs U6.size;clear aa bt bo bA aD aU B4 u5 bu bp bB aE aV U6;have t4:=B5.cell 4 _ rfl;have q4:=B5.frozen 4;have t5:=B5.cell 5 _ rfl
 go_wp2_with fail
 clear t4 q4 t5 B5;generalize w5.setCell ⟨g,4,none⟩ (.slice a2 0 k2)=W6 at*;have aa:Calls Tryz.prog 119 #[.slice a3 c.length k3,.int .i64 0] W6 fun e w'=>e=.returned (.slice a3 0 k3)∧ussK.Own w' (.slice a3 0 k3) (c.take 0)∧Out (blk (.slice a3 c.length k3)) W6 w':=q3j a3 k3 c 0 W6 bC aK (Nat.zero_le _) (by omega)
 refine aa.mono ?_;rintro e w7 ⟨rfl,bD,u7⟩;have B7:Blk w7 g 31 #[.int .i64 k,.int .i64 k,.slice a0 m k0,.slice a1 base.length k1,.slice a2 0 k2,.slice a3 c.length k3,.slice a4 A.length k4]:=(u7.block g B6.lt bb).trans B6;have br:=bq.out u7 (fun x hx J=>ag.out x (I x hx) x (Z x J) rfl);have bw:=bv.out u7 (fun x hx J=>ah.out x (gT x hx) x (Z x J) rfl);have aG:=Out.keep aF u7 aF.size (fun x hx=>ai.out x (Or.inr (Or.inr (Z x hx))));have aX:Hid (Out (g::FT) w w7):=aW.out.trans (u7.mono (fun x hx=>List.mem_cons_of_mem _ (M.out x (Or.inr (Or.inr (Z x hx))))));replace hs:=Nat.le_trans hs u7.size;have U8:=Out.setCell w7 g 5 (.slice a3 0 k3);have B8:=B7.set 5 (.slice a3 0 k3);simp only[pjE]at B8;have gU:∀x∈ussK.fp (.slice a3 0 k3) (c.take 0),x∈ussK.fp (.slice a3 c.length k3) c:=Kind.fp_take a3 0 c.length k3 0;have aM:=br.out U8 (fun x hx=>by have:=z.out x (Or.inl (I x hx));simpa using this);have bx:=bw.out U8 (fun x hx=>by have:=z.out x (Or.inr (Or.inl (gT x hx)));simpa using this);have bE:=bD.out U8 (fun x hx=>by have:=z.out x (Or.inr (Or.inr (gU x hx)));simpa using this);have bI:=Out.keep aG U8 aG.size (fun x hx=>by simp only[List.mem_singleton]at hx;omega);have aY:Hid (Out (g::FT) w (w7.setCell ⟨g,5,none⟩ (.slice a3 0 k3))):=aX.out.trans (U8.mono ak);replace hs:=Nat.le_trans hs U8.size;clear aa bv bq bC aF aW B6 u7 bw br bD aG aX U8 bc bb;have aH:=z5N none 0 [] (.slice a0 m k0) ((done.take m).map TxnQ.e) (w7.setCell ⟨g,5,none⟩ (.slice a3 0 k3)) (Or.inl rfl) (Or.inr ⟨rfl,rfl,rfl⟩) (z0v aM.at) (by simp) (by have:=q5J done m;rw[List.length_map,z07];omega);have bJ:=(q56 [] ((done.take m).map TxnQ.e)).2.2;have bF:Hid (∀q:RepQ,q.e=⟨(done.take m).map TxnQ.e,eaI [] ((done.take m).map TxnQ.e),[],[],eaI [] ((done.take m).map TxnQ.e)⟩→q.e=falE ((done.take D.length).map TxnQ.e)):=fun q hq=>by rw[bG.out];exact hq
 generalize eaI [] ((done.take m).map TxnQ.e)=E at*;generalize eaCd [] ((done.take m).map TxnQ.e)=E1 at*;generalize eaVl [] ((done.take m).map TxnQ.e)=E2 at*;generalize eaC [] ((done.take m).map TxnQ.e)=E0 at*;dsimp only[List.length_nil]at aH;have bK:∀ (r:Int) (la lb lc:Option Addr) (na nb nc ka kb kc:Nat) (w:World),Sem.run Tryz.prog (Instr.field 176 (.agg #[.int .i64 r,.slice la na ka,.slice lb nb kb,.slice lc nc kc]) 3) w=.ok (.slice lc nc kc) w:=fun _ _ _ _ _ _ _ _ _ _ _=>by kernel_rfl
 have t5:=B7.cell 5 _ rfl;have q5:=B7.frozen 5;have t2:=B7.cell 2 _ rfl
 go_wp2_with fail
 clear t5 q5 t2 B7;generalize w7.setCell ⟨g,5,none⟩ (.slice a3 0 k3)=W8 at*;refine aH.mono ?_;rintro e w9 ⟨x1,y1,x2,y2,x3,y3,rfl,a6,V⟩;have o3:=a6.o3.1;clear aH a6;obtain⟨oB,LB⟩:=z0u o3;have aL:itemK.Own w9 (.slice x3 E.length y3) E:=⟨oB,fun _ _=>trivial⟩
 have bf:∀x∈blk (.slice x3 E.length y3),x<w9.heap.size:=fun x hx=>aL.lt x (by rw[z0l];exact hx)
 clear o3 oB;have B9:=B8.below V;have b2:=V.size;have O:=Out.setCell w9 g 3 (.slice x3 E.length y3);have ae:=B9.set 3 (.slice x3 E.length y3);simp only[pjE]at ae;have bT:=B8.lt;have ao:=(aM.below V).out O (fun x hx=>by have:=z.out x (Or.inl (I x hx));simpa using this);have au:=(bx.below V).out O (fun x hx=>by have:=z.out x (Or.inr (Or.inl (gT x hx)));simpa using this);have aw:=(bE.below V).out O (fun x hx=>by have:=z.out x (Or.inr (Or.inr (gU x hx)));simpa using this);have W:=aL.out O (fun x hx=>by rw[z0l]at hx;have:=LB x hx;simp only[List.mem_singleton];omega);have al:Hid (Out (g::FT) w (w9.setCell ⟨g,3,none⟩ (.slice x3 E.length y3))):=(aY.out.trans (Out.of_below V)).trans (O.mono ak);have bU:=O.size;clear aM bx bE bI aY B8 V aL O;have aj:=z7z x3 y3 E (w9.setCell ⟨g,3,none⟩ (.slice x3 E.length y3)) (Lies.own W.1) (z2h W.1) bJ;have t3:=B9.cell 3 _ rfl;have q3:=B9.frozen 3
 go_wp2_with fail
 clear t3 q3 B9 bK;generalize w9.setCell ⟨g,3,none⟩ (.slice x3 E.length y3)=bX at*;refine aj.mono ?_;rintro e ad ⟨x4,y4,rfl,o4,C⟩;obtain⟨oN,LN⟩:=z0u o4;have aq:itemK.Own ad (.slice x4 E.length y4) E:=⟨oN,fun _ _=>trivial⟩
 clear o4 oN aj;have ay:=ae.below C;have bV:=C.size;have T:=Out.setCell ad g 6 (.slice x4 E.length y4);have az:=ay.set 6 (.slice x4 E.length y4);simp only[pjE]at az;have bL:=ae.lt;have ap:=(ao.below C).out T (fun x hx=>by have:=z.out x (Or.inl (I x hx));simpa using this);have av:=(au.below C).out T (fun x hx=>by have:=z.out x (Or.inr (Or.inl (gT x hx)));simpa using this);have ax:=(aw.below C).out T (fun x hx=>by have:=z.out x (Or.inr (Or.inr (gU x hx)));simpa using this);have an:=(W.below C).out T (fun x hx=>by rw[z0l]at hx;have:=LB x hx;simp only[List.mem_singleton];omega);have ar:=aq.out T (fun x hx=>by rw[z0l]at hx;have:=LN x hx;simp only[List.mem_singleton];omega);have aS:Hid (Out (g::FT) w (ad.setCell ⟨g,6,none⟩ (.slice x4 E.length y4))):=(al.out.trans (Out.of_below C)).trans (T.mono ak);have aR:Hid (repK.own (ad.setCell ⟨g,6,none⟩ (.slice x4 E.length y4)) ⟨.slice a0 m k0,done.take m,.slice x3 E.length y3,E,.slice a2 0 k2,d.take 0,.slice a3 0 k3,c.take 0,.slice x4 E.length y4,E⟩):=⟨ap,an,av,ax,ar⟩
 have aN:Hid (Blk (ad.setCell ⟨g,6,none⟩ (.slice x4 E.length y4)) g 31 #[.int .i64 k,.int .i64 k,.slice a0 m k0,.slice x3 E.length y3,.slice a2 0 k2,.slice a3 0 k3,.slice x4 E.length y4]):=az;have aQ:Hid ((repK.foot ⟨.slice a0 m k0,done.take m,.slice x3 E.length y3,E,.slice a2 0 k2,d.take 0,.slice a3 0 k3,c.take 0,.slice x4 E.length y4,E⟩).Nodup∧∀x∈repK.foot ⟨.slice a0 m k0,done.take m,.slice x3 E.length y3,E,.slice a2 0 k2,d.take 0,.slice a3 0 k3,c.take 0,.slice x4 E.length y4,E⟩,x≠g∧(x∈FT∨w.heap.size≤x)):=by
  have N:∀x,x∈txnK.fp (.slice a0 done.length k0) done∨x∈txnK.fp (.slice a2 d.length k2) d∨x∈ussK.fp (.slice a3 c.length k3) c→x<W8.heap.size:=fun x hx=>by have:=aP.out x hx;omega
  have eB:itemK.fp (.slice x3 E.length y3) E=blk (.slice x3 E.length y3):=z0l _ _;have eN:itemK.fp (.slice x4 E.length y4) E=blk (.slice x4 E.length y4):=z0l _ _;show(txnK.fp (.slice a0 m k0) (done.take m)++(itemK.fp (.slice x3 E.length y3) E++(txnK.fp (.slice a2 0 k2) (d.take 0)++(ussK.fp (.slice a3 0 k3) (c.take 0)++itemK.fp (.slice x4 E.length y4) E)))).Nodup∧∀x∈txnK.fp (.slice a0 m k0) (done.take m)++(itemK.fp (.slice x3 E.length y3) E++(txnK.fp (.slice a2 0 k2) (d.take 0)++(ussK.fp (.slice a3 0 k3) (c.take 0)++itemK.fp (.slice x4 E.length y4) E))),x≠g∧(x∈FT∨w.heap.size≤x)
  rw[eB,eN];refine⟨List.nodup_append.2 ⟨Kind.nodup_take aI m,List.nodup_append.2 ⟨z0r _,List.nodup_append.2 ⟨Kind.nodup_take aJ 0,List.nodup_append.2 ⟨Kind.nodup_take aK 0,z0r _,?_⟩,?_⟩,?_⟩,?_⟩,?_⟩
  ·intro x hx y hy e;have:=N x (Or.inr (Or.inr (gU x hx)));have:=LN y hy;omega
  ·intro x hx y hy e;have h1:=N x (Or.inr (Or.inl (gT x hx)));rcases List.mem_append.1 hy with hy|hy
   ·exact ah.out x (gT x hx) y (gU y hy) e
   ·have:=LN y hy;omega
  ·intro x hx y hy e;have h1:=LB x hx;have h2:=bf x hx;rcases List.mem_append.1 hy with hy|hy
   ·have:=N y (Or.inr (Or.inl (gT y hy)));omega
   rcases List.mem_append.1 hy with hy|hy
   ·have:=N y (Or.inr (Or.inr (gU y hy)));omega
   ·have:=LN y hy;omega
  ·intro x hx y hy e;have h1:=N x (Or.inl (I x hx));rcases List.mem_append.1 hy with hy|hy
   ·have:=LB y hy;omega
   rcases List.mem_append.1 hy with hy|hy
   ·exact af.out x (I x hx) y (gT y hy) e
   rcases List.mem_append.1 hy with hy|hy
   ·exact ag.out x (I x hx) y (gU y hy) e
   ·have:=LN y hy;omega
  ·intro x hx;rcases List.mem_append.1 hx with hx|hx
   ·exact⟨z.out x (Or.inl (I x hx)),Or.inl (M.out x (Or.inl (I x hx)))⟩
   rcases List.mem_append.1 hx with hx|hx
   ·have:=LB x hx;exact⟨by omega,Or.inr (by omega)⟩
   rcases List.mem_append.1 hx with hx|hx
   ·exact⟨z.out x (Or.inr (Or.inl (gT x hx))),Or.inl (M.out x (Or.inr (Or.inl (gT x hx))))⟩
   rcases List.mem_append.1 hx with hx|hx
   ·exact⟨z.out x (Or.inr (Or.inr (gU x hx))),Or.inl (M.out x (Or.inr (Or.inr (gU x hx))))⟩
   ·have:=LN x hx;exact⟨by omega,Or.inr (by omega)⟩
 clear ap an av ax ar az ao au aw W aq al ae T af ag ah M z ai aP X Y Z I gT gU LB LN bf aI aJ aK C;have t6:=ay.cell 6 _ rfl;have q6:=ay.frozen 6
 go_wp2
 go_end0
 exact⟨rfl,⟨.slice a0 m k0,done.take m,.slice x3 E.length y3,E,.slice a2 0 k2,d.take 0,.slice a3 0 k3,c.take 0,.slice x4 E.length y4,E⟩,aN.out,bF.out _ rfl,aR.out,aQ.out.1,aQ.out.2,aS.out⟩
end Go.Proofs.YtlkpdgjnhkjpjaaGreatDoor
