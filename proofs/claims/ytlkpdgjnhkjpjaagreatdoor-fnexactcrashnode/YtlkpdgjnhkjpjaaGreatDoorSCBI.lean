/- Texts joined,with what the laws reach alone. -/
import Derived.Test.YtlkpdgjnhkjpjaaGreatDoorSCBH
set_option linter.unusedVariables false
set_option linter.unusedSimpArgs false
set_option maxRecDepth 100000
set_option maxHeartbeats 16000000
namespace Go.Proofs.YtlkpdgjnhkjpjaaGreatDoor
open Go.RowKit Go.BigFrame
def crM(kn sf kp:Int):Int:=sf+(if kn-sf<kp then kn-sf else kp)
def crC(ds:List InstE)(kn sf:Int)(x:RepE)(kp:Int):Int:=if nodF ds kn sf x=0 then(if kp<0 then 3 else 0)else nodF ds kn sf x
def crK(ds:List InstE)(kn sf:Int)(x:RepE)(kp:Int):Int:=if crC ds kn sf x kp=0 then crM kn sf kp else 0
def crE(ds:List InstE)(kn sf:Int)(x:RepE)(kp:Int):RepE:=if crC ds kn sf x kp=0 then falE (defL ds (crM kn sf kp).toNat)else⟨[],[],[],[],[]⟩
theorem q5K{ds:List InstE}{kn sf:Int}{x:RepE}{kp:Int}(h:nodF ds kn sf x=0)(h0:¬kp<0):0≤crM kn sf kp∧crM kn sf kp≤kn∧kn≤(decN ds:Int)∧sf≤crM kn sf kp:=by
 obtain⟨_,h1,h2,_,_⟩:=z2U h;unfold crM;split<;>omega
theorem q5L{ds:List InstE}{kn sf:Int}{x:RepE}{kp:Int}(h:nodF ds kn sf x=0)(h0:¬kp<0):dfT ds (crM kn sf kp)=defL ds (crM kn sf kp).toNat∧x.done.take (defL ds (crM kn sf kp).toNat).length=defL ds (crM kn sf kp).toNat∧(defL ds (crM kn sf kp).toNat).length≤x.done.length:=by
 obtain⟨hor,h1,h2,_,h4⟩:=z2U h;obtain⟨i1,i2,i3,i4⟩:=q5K h h0;obtain⟨zs,hz⟩:=q4w ds (crM kn sf kp).toNat kn.toNat (by omega);refine⟨?_,?_,?_⟩
 ·rcases z7h ds (crM kn sf kp)with⟨a,_⟩|⟨_,a,_⟩|⟨_,_,_,a⟩
  ·exact absurd hor a
  ·exact absurd ⟨i1,by omega⟩ a
  ·exact a
 ·rw[h4,hz,List.take_left]
 ·rw[h4,hz,List.length_append];omega
theorem z4e(v:Value)(ps:List InstQ)(kn sf:Int)(p:RepQ)(kp:Int)(w:World)(hG:Rul w)(hE:ErrT w)(h:instK.Own w v ps)(hl:(ps.length+nmL InstQ.n ps)≤1048576)(hp:repK.own w p)(aA:p.n≤1048576):
  Calls Tryz.prog 24 #[v,.agg #[.int .i64 kn,.int .i64 sf,p.vd,p.vb,p.vt,p.vu,p.vn],.int .i64 kp] w fun e w'=>∃q:RepQ,e=.returned (.agg #[.int .i64 (crC (ps.map InstQ.e) kn sf p.e kp),.int .i64 0,.int .i64 (crK (ps.map InstQ.e) kn sf p.e kp),.int .i64 (crK (ps.map InstQ.e) kn sf p.e kp),q.vd,q.vb,q.vt,q.vu,q.vn])∧q.e=crE (ps.map InstQ.e) kn sf p.e kp∧repK.own w' q∧(repK.foot q).Nodup∧(∀k∈repK.foot q,w.heap.size≤k)∧Below w.heap.size w w':=by
 have aB:=fun w hG hE h hp=>z9x v ps kn sf p w hG hE h hl hp aA
 have aI:=h.capOk;have aJ:=fun g (q:RepQ) w0 w hG h aO aP hB hq aQ hg aS hD hm=>q3z v ps (crM kn sf kp) g kn sf q (defL (ps.map InstQ.e) (crM kn sf kp).toNat) w0 w hG h aO aP aI hl hB hq aQ hg aS hD hm
 have ae:Hid (nodF (ps.map InstQ.e) kn sf p.e=0→¬kp<0→dfT (ps.map InstQ.e) (crM kn sf kp)=defL (ps.map InstQ.e) (crM kn sf kp).toNat∧p.e.done.take (defL (ps.map InstQ.e) (crM kn sf kp).toNat).length=defL (ps.map InstQ.e) (crM kn sf kp).toNat∧(defL (ps.map InstQ.e) (crM kn sf kp).toNat).length≤p.e.done.length):=fun h0 h1=>q5L h0 h1
 have ap:Hid (nodF (ps.map InstQ.e) kn sf p.e=0→(0≤kn∧kn≤4)∧(0≤sf∧sf≤kn)):=fun h0=>by
  obtain⟨h1,h2,h3,_,_⟩:=z2U h0;have h4:=((z2c _).1 h1).1.2;have h5:=z6X (ps.map InstQ.e);exact⟨⟨h2.1,by omega⟩,h3⟩
 have au:Hid (nodF (ps.map InstQ.e) kn sf p.e≠0→crC (ps.map InstQ.e) kn sf p.e kp=nodF (ps.map InstQ.e) kn sf p.e∧crK (ps.map InstQ.e) kn sf p.e kp=0∧crE (ps.map InstQ.e) kn sf p.e kp=⟨[],[],[],[],[]⟩):=fun h0=>by
  have e:crC (ps.map InstQ.e) kn sf p.e kp=nodF (ps.map InstQ.e) kn sf p.e:=if_neg h0;have e':¬crC (ps.map InstQ.e) kn sf p.e kp=0:=by rw[e];exact h0
  exact⟨e,if_neg e',if_neg e'⟩
 have ak:Hid (nodF (ps.map InstQ.e) kn sf p.e=0→kp<0→crC (ps.map InstQ.e) kn sf p.e kp=3∧crK (ps.map InstQ.e) kn sf p.e kp=0∧crE (ps.map InstQ.e) kn sf p.e kp=⟨[],[],[],[],[]⟩):=fun h0 h1=>by
  have e:crC (ps.map InstQ.e) kn sf p.e kp=3:=by unfold crC;rw[if_pos h0,if_pos h1]
  have e':¬crC (ps.map InstQ.e) kn sf p.e kp=0:=by rw[e];decide
  exact⟨e,if_neg e',if_neg e'⟩
 have aj:Hid (nodF (ps.map InstQ.e) kn sf p.e=0→¬kp<0→crC (ps.map InstQ.e) kn sf p.e kp=0∧crK (ps.map InstQ.e) kn sf p.e kp=crM kn sf kp∧crE (ps.map InstQ.e) kn sf p.e kp=falE (defL (ps.map InstQ.e) (crM kn sf kp).toNat)):=fun h0 h1=>by
  have e:crC (ps.map InstQ.e) kn sf p.e kp=0:=by unfold crC;rw[if_pos h0,if_neg h1]
  exact⟨e,if_pos e,if_pos e⟩
 have ah:Hid (crM kn sf kp=sf+(if kn-sf<kp then kn-sf else kp)):=show _=_ from rfl
 have ai:Hid (∀q:RepQ,q.e=p.e→q.n≤1048576):=fun q hq=>by rw[q4K hq];exact aA
 have aC:=fun(w':World) (hb:Below w.heap.size w w')=>repK.own_out (F:=[]) (w':=w') hp (Out.of_below hb) (fun _ _=>by simp)
 have aE:Hid (∀D,falE D=⟨D,eaI [] D,[],[],eaI [] D⟩):=fun _=>rfl
 generalize nodF (ps.map InstQ.e) kn sf p.e=D at*;generalize crC (ps.map InstQ.e) kn sf p.e kp=SC at*;generalize crK (ps.map InstQ.e) kn sf p.e kp=SK at*;generalize crE (ps.map InstQ.e) kn sf p.e kp=SE at*;generalize crM kn sf kp=K at*;generalize defL (ps.map InstQ.e) K.toNat=DL at*;generalize p.e=PE at*;obtain⟨vd,done,vb,base,vt,J,vu,C,vn,M⟩:=p;obtain⟨a0,k0,rfl⟩:∃a c,vd=.slice a done.length c:=hp.1.shape;obtain⟨a1,k1,rfl⟩:∃a c,vb=.slice a base.length c:=hp.2.1.shape;obtain⟨a2,k2,rfl⟩:∃a c,vt=.slice a J.length c:=hp.2.2.1.shape;obtain⟨a3,k3,rfl⟩:∃a c,vu=.slice a C.length c:=hp.2.2.2.1.shape;obtain⟨a4,k4,rfl⟩:∃a c,vn=.slice a M.length c:=hp.2.2.2.2.shape;obtain⟨va,vc,rfl⟩:=h.shape;dsimp only at aB aC;have aq:Hid _:=aB;have ar:Hid _:=aC;have af:Hid _:=aJ;have HH:Hid (instK.Own w (.slice va ps.length vc) ps):=h;clear aB aC hp aA aJ aI;have b0:Below w.heap.size w ((w.alloc (.cells #[.int .i64 kn,.int .i64 sf,.slice a0 done.length k0,.slice a1 base.length k1,.slice a2 J.length k2,.slice a3 C.length k3,.slice a4 M.length k4] 31)).alloc (.cells #[.int .i64 0,.int .i64 0,.int .i64 0,.int .i64 0,.slice none 0 0,.slice none 0 0,.slice none 0 0,.slice none 0 0,.slice none 0 0] 35)):=by go_grown
 have A0:=(Blk.new w 31 #[.int .i64 kn,.int .i64 sf,.slice a0 done.length k0,.slice a1 base.length k1,.slice a2 J.length k2,.slice a3 C.length k3,.slice a4 M.length k4]).below (w':=(w.alloc (.cells #[.int .i64 kn,.int .i64 sf,.slice a0 done.length k0,.slice a1 base.length k1,.slice a2 J.length k2,.slice a3 C.length k3,.slice a4 M.length k4] 31)).alloc (.cells #[.int .i64 0,.int .i64 0,.int .i64 0,.int .i64 0,.slice none 0 0,.slice none 0 0,.slice none 0 0,.slice none 0 0,.slice none 0 0] 35)) (by go_grown);have Rb:=Blk.new (w.alloc (.cells #[.int .i64 kn,.int .i64 sf,.slice a0 done.length k0,.slice a1 base.length k1,.slice a2 J.length k2,.slice a3 C.length k3,.slice a4 M.length k4] 31)) 35 #[.int .i64 0,.int .i64 0,.int .i64 0,.int .i64 0,.slice none 0 0,.slice none 0 0,.slice none 0 0,.slice none 0 0,.slice none 0 0];simp only[World.size_alloc]at Rb;obtain⟨p0,p1,p2,p3,p4,p5,p6⟩:=A0.cel7;go_enter Tryz.func24,Tryz.ntmps24
 go_wp2_with fail
 clear p0 p1 p2 p3 p4 p5 p6;generalize (w.alloc (.cells #[.int .i64 kn,.int .i64 sf,.slice a0 done.length k0,.slice a1 base.length k1,.slice a2 J.length k2,.slice a3 C.length k3,.slice a4 M.length k4] 31)).alloc (.cells #[.int .i64 0,.int .i64 0,.int .i64 0,.int .i64 0,.slice none 0 0,.slice none 0 0,.slice none 0 0,.slice none 0 0,.slice none 0 0] 35)=W at*;have aN:=Rb.lt;refine(aq.out W (hG.below b0) (hE.below b0) (HH.out.below b0) (ar.out W b0)).mono ?_;rintro e w1 (⟨hD,rfl,hb⟩|⟨hD,g,q9,rfl,Bg,e9,o9,n9,ab,hg,hb⟩)
 ·replace Rb:=Rb.below hb;replace b0:=b0.trans (hb.mono b0.size);have HS:Hid _:=au.out hD;have aM:(D !=0)=true:=by simpa using hD
  clear aj au ak aq ar HH A0 hb af ae ap ah ai aE;have Rr:=Rb.row #[.int .i64 D,.int .i64 0,.int .i64 0,.int .i64 0,.slice none 0 0,.slice none 0 0,.slice none 0 0,.slice none 0 0,.slice none 0 0];have ay:=z0p b0 (g:=w.heap.size+1) (by omega) #[.int .i64 D,.int .i64 0,.int .i64 0,.int .i64 0,.slice none 0 0,.slice none 0 0,.slice none 0 0,.slice none 0 0,.slice none 0 0];have U:(Tryz.prog.info? 35).map (·.size)=some (#[.int .i64 D,.int .i64 0,.int .i64 0,.int .i64 0,.slice none 0 0,.slice none 0 0,.slice none 0 0,.slice none 0 0,.slice none 0 0]:Array Value).size:=by kernel_rfl
  go_wp2_with (refine z0K (by kernel_rfl) 35 _ _ rfl _ #[.int .i64 D,.int .i64 0,.int .i64 0,.int .i64 0,.slice none 0 0,.slice none 0 0,.slice none 0 0,.slice none 0 0,.slice none 0 0] rfl rfl 35 _ Rb U rfl (by simp[Value.oneCell']) ?_)
  obtain⟨r0,r1,r2,r3,r4,r5,r6,r7,r8⟩:=Rr.cel9;obtain⟨ad,L⟩:=z4X (w1.setRow (w.heap.size+1) #[.int .i64 D,.int .i64 0,.int .i64 0,.int .i64 0,.slice none 0 0,.slice none 0 0,.slice none 0 0,.slice none 0 0,.slice none 0 0]);exact bodyPost_ret (v:=.agg #[.int .i64 D,.int .i64 0,.int .i64 0,.int .i64 0,.slice none 0 0,.slice none 0 0,.slice none 0 0,.slice none 0 0,.slice none 0 0]) (by simp[results,Tryz.results24,go_sem,r0,r1,r2,r3,r4,r5,r6,r7,r8]) rfl ⟨q3W,by rw[HS.out.1,HS.out.2.1];rfl,by rw[HS.out.2.2];rfl,ad,by rw[L];simp,by rw[L];simp,ay⟩
 ·have an:Hid (Rul W):=hG.below b0;have ao:Hid (instK.Own W (.slice va ps.length vc) ps):=HH.out.below b0;have al:=Rb.below hb;have b1:=b0.trans (hb.mono b0.size);have bg:w.heap.size+1<W.heap.size:=aN;subst hD;have aM:((0:Int) !=0)=false:=by decide
  have aK:=ap.out rfl;clear au aq ar HH A0 h ap Rb;by_cases hk:kp<0
  ·have HS:Hid _:=ak.out rfl hk;clear aj ak Bg e9 o9 n9 ab an ao af ae ah ai aE aK;have Rr:=al.row #[.int .i64 3,.int .i64 0,.int .i64 0,.int .i64 0,.slice none 0 0,.slice none 0 0,.slice none 0 0,.slice none 0 0,.slice none 0 0];have ay:=z0p b1 (g:=w.heap.size+1) (by omega) #[.int .i64 3,.int .i64 0,.int .i64 0,.int .i64 0,.slice none 0 0,.slice none 0 0,.slice none 0 0,.slice none 0 0,.slice none 0 0];have U:(Tryz.prog.info? 35).map (·.size)=some (#[.int .i64 3,.int .i64 0,.int .i64 0,.int .i64 0,.slice none 0 0,.slice none 0 0,.slice none 0 0,.slice none 0 0,.slice none 0 0]:Array Value).size:=by kernel_rfl
   go_wp2_with (refine z0K (by kernel_rfl) 35 _ _ rfl _ #[.int .i64 3,.int .i64 0,.int .i64 0,.int .i64 0,.slice none 0 0,.slice none 0 0,.slice none 0 0,.slice none 0 0,.slice none 0 0] rfl rfl 35 _ al U rfl (by simp[Value.oneCell']) ?_)
   obtain⟨r0,r1,r2,r3,r4,r5,r6,r7,r8⟩:=Rr.cel9;obtain⟨ad,L⟩:=z4X (w1.setRow (w.heap.size+1) #[.int .i64 3,.int .i64 0,.int .i64 0,.int .i64 0,.slice none 0 0,.slice none 0 0,.slice none 0 0,.slice none 0 0,.slice none 0 0]);exact bodyPost_ret (v:=.agg #[.int .i64 3,.int .i64 0,.int .i64 0,.int .i64 0,.slice none 0 0,.slice none 0 0,.slice none 0 0,.slice none 0 0,.slice none 0 0]) (by simp[results,Tryz.results24,go_sem,r0,r1,r2,r3,r4,r5,r6,r7,r8]) rfl ⟨q3W,by rw[HS.out.1,HS.out.2.1];rfl,by rw[HS.out.2.2];rfl,ad,by rw[L];simp,by rw[L];simp,ay⟩
  have HS:Hid _:=aj.out rfl (by omega);obtain⟨d1,d2,d3⟩:=ae.out rfl (by omega);have aT:q9.done.length=PE.done.length:=by rw[←e9];simp[RepQ.e]
  have aG:Hid ((q9.done.take DL.length).map TxnQ.e=DL):=by
   rw[List.map_take];have e:q9.done.map TxnQ.e=PE.done:=by rw[←e9];rfl
   rw[e];exact d2
  have hW:Below w1.heap.size w1 w1.drew:=(Below.refl _ _).drew;have az:=af.out g q9 W w1.drew an.out ao.out.at (hb.trans (hW.mono hb.size)) hg (Bg.below hW) (repK.own_out (F:=[]) o9 (Out.of_below hW) (fun _ _=>by simp)) n9 (fun x hx=>⟨(ab x hx).2,(ab x hx).1⟩) (ai.out q9 e9) d1 (by omega);have ag:Hid (∀x∈repK.foot q9,W.heap.size≤x∧x≠g):=ab;clear aj ak af ae ai d1 d2 d3 aT ab n9 ao an e9;obtain⟨aX,ax,aV,aw,a7,aD,ba,am,aZ,aL⟩:=q9;obtain⟨bb,bj,rfl⟩:∃a c,aX=.slice a ax.length c:=o9.1.shape;obtain⟨bc,bk,rfl⟩:∃a c,aV=.slice a aw.length c:=o9.2.1.shape;obtain⟨bd,bl,rfl⟩:∃a c,a7=.slice a aD.length c:=o9.2.2.1.shape;obtain⟨be,bm,rfl⟩:∃a c,ba=.slice a am.length c:=o9.2.2.2.1.shape;obtain⟨bf,bn,rfl⟩:∃a c,aZ=.slice a aL.length c:=o9.2.2.2.2.shape;clear o9;dsimp only at az;have bi:=Bg.lt;obtain⟨q0,q1,q2,q3,q4,q5,q6⟩:=Bg.lts7;have aF:Hid _:=az;clear az;have aR:Nonempty (Lat w1):=⟨⟨w1,Below.refl _ _⟩⟩
  obtain⟨⟨i1,i2⟩,i3,i4⟩:=aK
  go_wp2_with fail
  refine z4m (S:=fun w'=>∃u:Lat w1,w'=u.val) (R:=fun _ _=>False) 18 (by kernel_rfl) (fun _ _ _ _ h=>h.elim) ?_;refine q6d (fun i=>if i=0∨i=1 then [18]else if i=17 then [18]else if i=6∨i=15 then [16,17,18]else if i=5∨i=16 then [17,18]else if i=10∨i=14 then [15,16,17,18]else if i=2 then [3,4,5,17,18]else if i=3 then [4,5,17,18]else if i=4 then [5,17,18]else if i=7 then [8,9,10,15,16,17,18]else if i=8 then [9,10,15,16,17,18]else if i=9 then [10,15,16,17,18]else if i=11 then [12,13,14,15,16,17,18]else if i=12 then [13,14,15,16,17,18]else [14,15,16,17,18]) [(0,16)] 3 (by kernel_rfl) (by kernel_rfl) (by kernel_rfl) (by kernel_rfl) (by kernel_rfl) ⟨⟨_,hW⟩,rfl⟩ ?_;simp only[pkE];repeat go_big_quiet_step (fail)
  refine wpQuiet_nil ?_;refine q5C (fun i=>if i=0∨i=1 then [18]else if i=17 then [18]else if i=6∨i=15 then [16,17,18]else if i=5∨i=16 then [17,18]else if i=10∨i=14 then [15,16,17,18]else if i=2 then [3,4,5,17,18]else if i=3 then [4,5,17,18]else if i=4 then [5,17,18]else if i=7 then [8,9,10,15,16,17,18]else if i=8 then [9,10,15,16,17,18]else if i=9 then [10,15,16,17,18]else if i=11 then [12,13,14,15,16,17,18]else if i=12 then [13,14,15,16,17,18]else [14,15,16,17,18]) 16 (some 38) (.int .i64 (if kn-sf<kp then kn-sf else kp)) 2 (by kernel_rfl) (by kernel_rfl) (by kernel_rfl) (by kernel_rfl) (by kernel_rfl) (fun u hu=>?_) ⟨⟨_,hW⟩,rfl⟩ ?_
  ·obtain⟨u,rfl⟩:=hu;refine Eq.trans (b:=some (((Builtin.min_ #[2,2] 2 #[.int .i64 kp,.int .i64 (kn-sf)])>>=fun x=>pure (Next.value x):Sem Next).run Tryz.prog u.val)) (by kernel_rfl) ?_;rw[Sem.run_bind,run_min_int2];rfl
  simp only[Act.put,pgE,pjE];have m0:0≤(if kn-sf<kp then kn-sf else kp):=by split<;>omega
  have m1:(if kn-sf<kp then kn-sf else kp)≤4:=by split<;>omega
  have hK:=ah.out;generalize (if kn-sf<kp then kn-sf else kp)=MN at*;have HK:Hid (K=sf+MN):=hK;clear hK ah;refine q6d (fun i=>if i=0∨i=1 then [18]else if i=17 then [18]else if i=6∨i=15 then [16,17,18]else if i=5∨i=16 then [17,18]else if i=10∨i=14 then [15,16,17,18]else if i=2 then [3,4,5,17,18]else if i=3 then [4,5,17,18]else if i=4 then [5,17,18]else if i=7 then [8,9,10,15,16,17,18]else if i=8 then [9,10,15,16,17,18]else if i=9 then [10,15,16,17,18]else if i=11 then [12,13,14,15,16,17,18]else if i=12 then [13,14,15,16,17,18]else [14,15,16,17,18]) [(17,1)] 1 (by kernel_rfl) (by kernel_rfl) (by kernel_rfl) (by kernel_rfl) (by kernel_rfl) ⟨⟨_,hW⟩,rfl⟩ ?_;simp only[pkE];repeat go_big_quiet_step (fail)
  refine wpQuiet_nil ?_;rw[←HK.out];clear q0 q1 q2 q3 q4 q5 q6 aR m0 m1 HK;refine onX 18 0 rfl (by kernel_rfl) ?_
  go_wp2_with fail
  refine Calls.mono aF.out ?_;rintro e w2 ⟨rfl,q5,B5,e5,o5,n5,l5,u5⟩;clear aF;have av:=al.below hW;have bh:=hW.size;have aH:Blk _ _ _ _:=(u5.block _ av.lt (fun hx=>by
   rcases List.mem_cons.1 hx with hx|hx
   ·omega
   ·have:=ag.out _ hx;omega)).trans av
  have b2:=Out.keep (b1.trans (hW.mono b1.size)) u5 (b1.trans (hW.mono b1.size)).size (fun x hx=>by
   rcases List.mem_cons.1 hx with hx|hx
   ·omega
   ·have:=ag.out _ hx;omega)
  have HQ:Hid (q5.e=falE DL∧(repK.foot q5).Nodup∧∀ x∈repK.foot q5,w.heap.size≤x∧x≠w.heap.size + 1):=⟨by rw [e5,aG.out],n5,fun x hx=>by
   obtain⟨l1,l2⟩:=l5 x hx;rcases l2 with l2|l2
   ·have:=ag.out x l2;omega
   ·omega⟩
  clear e5 n5 l5 u5 av al b1 ag aG
  go_wp2
  refine ThenX.to ⟨Or.inl (by kernel_rfl),?_⟩;refine q3D (by kernel_rfl) ?_;obtain⟨aW,z,aU,y,a6,A,a8,d,aY,I⟩:=q5;obtain⟨N,V,rfl⟩:∃a c,aW=.slice a z.length c:=o5.1.shape;obtain⟨O,X,rfl⟩:∃a c,aU=.slice a y.length c:=o5.2.1.shape;obtain⟨a25,Y,rfl⟩:∃a c,a6=.slice a A.length c:=o5.2.2.1.shape;obtain⟨a35,Z,rfl⟩:∃a c,a8=.slice a d.length c:=o5.2.2.2.1.shape;obtain⟨T,aa,rfl⟩:∃a c,aY=.slice a I.length c:=o5.2.2.2.2.shape;dsimp only at B5;obtain⟨s0,s1,s2,s3,s4,s5,s6⟩:=B5.cel7;have Rr:=aH.row #[.int .i64 0,.int .i64 0,.int .i64 K,.int .i64 K,.slice N z.length V,.slice O y.length X,.slice a25 A.length Y,.slice a35 d.length Z,.slice T I.length aa];have U3:=z1w w2 (w.heap.size+1) #[.int .i64 0,.int .i64 0,.int .i64 K,.int .i64 K,.slice N z.length V,.slice O y.length X,.slice a25 A.length Y,.slice a35 d.length Z,.slice T I.length aa];have O3:=repK.own_out o5 U3 (fun k hk=>by have:=HQ.out.2.2 k hk;simp;omega);have b3:=Out.keep b2 U3 b2.size (fun k hk=>by simp at hk;omega);have U:(Tryz.prog.info? 35).map (·.size)=some (#[.int .i64 0,.int .i64 0,.int .i64 K,.int .i64 K,.slice N z.length V,.slice O y.length X,.slice a25 A.length Y,.slice a35 d.length Z,.slice T I.length aa]:Array Value).size:=by kernel_rfl
  clear B5 o5 b2 Bg
  go_wp2_with (refine z0K (by kernel_rfl) 35 _ _ rfl _ #[.int .i64 0,.int .i64 0,.int .i64 K,.int .i64 K,.slice N z.length V,.slice O y.length X,.slice a25 A.length Y,.slice a35 d.length Z,.slice T I.length aa] rfl rfl 35 _ aH U rfl (by simp[Value.oneCell']) ?_)
  obtain⟨r0,r1,r2,r3,r4,r5,r6,r7,r8⟩:=Rr.cel9;exact bodyPost_ret (v:=.agg #[.int .i64 0,.int .i64 0,.int .i64 K,.int .i64 K,.slice N z.length V,.slice O y.length X,.slice a25 A.length Y,.slice a35 d.length Z,.slice T I.length aa]) (by simp[results,Tryz.results24,go_sem,r0,r1,r2,r3,r4,r5,r6,r7,r8]) rfl ⟨_,by rw[HS.out.1,HS.out.2.1],by rw[HS.out.2.2];exact HQ.out.1,O3,HQ.out.2.1,fun k hk=>by have:=HQ.out.2.2 k hk;omega,b3⟩
theorem q3A(x y:Int)(w:World):Calls Tryz.prog 123 #[.int .i64 x,.int .i64 y] w fun e w'=>e=.returned (.int .i64 (if y<x then y else x))∧w'=w:=by
 by_cases h:x<y
 ·have hm:(if y<x then y else x)=x:=if_neg (by omega);rw[hm];go_enter Tryz.func123,Tryz.ntmps123
  go_wp2
  go_ret;exact⟨rfl,rfl⟩
 ·have hm:(if y<x then y else x)=y:=by split<;>omega
  rw[hm];go_enter Tryz.func123,Tryz.ntmps123
  go_wp2
  go_ret;exact⟨rfl,rfl⟩
theorem q3X{D:List TxnD}(hF:∀t∈D,t.F=0)(hl:D.length≤16):mkR D []=falE D:=by
 have h1:itemsF []=0:=rfl;have h2:idsC D=0:=q3U hF (by omega);have h3:=(q2q h1 h2).2.2.2;unfold falE;rw[h3];rfl
theorem z8H(v:Value)(ps:List InstQ)(b:Nat)(kn sf:Int)(p:RepQ)(kp:Int)(w:World)(hB:Blk w b 31 #[.int .i64 kn,.int .i64 sf,p.vd,p.vb,p.vt,p.vu,p.vn])(h:instK.At w v ps)(hl:(ps.length+nmL InstQ.n ps)≤1048576)(h0:nodF (ps.map InstQ.e) kn sf p.e=0)(hk:¬kp<0):
  Calls Tryz.prog 71 #[v,.pointer (some ⟨b,0,none⟩),.int .i64 kp] w fun e w'=>∃q:RepQ,e=.returned (.agg #[.int .i64 (crM kn sf kp),.int .i64 (crM kn sf kp),q.vd,q.vb,q.vt,q.vu,q.vn])∧q.e=falE (defL (ps.map InstQ.e) (crM kn sf kp).toNat)∧repK.own w' q∧(repK.foot q).Nodup∧(∀k∈repK.foot q,w.heap.size≤k)∧Below w.heap.size w w':=by
 obtain⟨i1,i2,i3,i4⟩:=q5K h0 hk;obtain⟨N,j1,j2,_,_⟩:=z2U h0;have af:=z9w N (crM kn sf kp).toNat;have Y:=q3i (z2d N) (crM kn sf kp).toNat;have ag:=(z2c _).1 N;have h4:kn≤4:=by
  have h4:=ag.1.2;have h5:=z6X (ps.map InstQ.e);omega
 have ai:=fun w h=>q2E v ps (crM kn sf kp) w h hl N ⟨i1,by omega⟩
 have aj:=fun v1 (qs:List TxnQ) (hq:qs.map TxnQ.e=defL (ps.map InstQ.e) (crM kn sf kp).toNat) w (h1:txnK.At w v1 qs)=>z6z v1 (.slice none 0 0) qs [] w h1 (Kind.own_nil w).1.at (fun p hp=>Y _ (by rw[←hq];exact List.mem_map.2 ⟨p,hp,rfl⟩)) (fun p hp=>by simp at hp) (by have:=congrArg List.length hq;rw[List.length_map]at this;omega) (by simp)
 have ah:=q3X Y af;have ae:Hid (crM kn sf kp=sf+(if kn-sf<kp then kn-sf else kp)):=show _=_ from rfl
 have aa:Hid (∀qs:List TxnQ,qs.map TxnQ.e=defL (ps.map InstQ.e) (crM kn sf kp).toNat→mkR (qs.map TxnQ.e) (([]:List TxnQ).map TxnQ.e)=falE (defL (ps.map InstQ.e) (crM kn sf kp).toNat)):=fun qs hq=>by rw[hq];exact ah
 clear af Y ag N h0 ah;generalize crM kn sf kp=K at*;generalize falE (defL (ps.map InstQ.e) K.toNat)=FE at*;generalize defL (ps.map InstQ.e) K.toNat=DL at*;obtain⟨va,vc,rfl⟩:=h.shape;have ab:Hid _:=ai;have ad:Hid _:=aj;clear ai aj;have Rb:=Blk.new w 31 #[.int .i64 0,.int .i64 0,.slice none 0 0,.slice none 0 0,.slice none 0 0,.slice none 0 0,.slice none 0 0];have b0:Below w.heap.size w (w.alloc (.cells #[.int .i64 0,.int .i64 0,.slice none 0 0,.slice none 0 0,.slice none 0 0,.slice none 0 0,.slice none 0 0] 31)):=by go_grown
 have au:=hB.lt;have Bn:=hB.below b0;obtain⟨c0,c1⟩:=Bn.lts2;go_enter Tryz.func71,Tryz.ntmps71
 go_wp2_with fail
 generalize w.alloc (.cells #[.int .i64 0,.int .i64 0,.slice none 0 0,.slice none 0 0,.slice none 0 0,.slice none 0 0,.slice none 0 0] 31)=W at*;have hW:Below W.heap.size W W.drew:=(Below.refl _ _).drew;have ak:Nonempty (Lat W):=⟨⟨W,Below.refl _ _⟩⟩
 refine z0e (S:=fun w'=>∃u:Lat W,w'=u.val) (by kernel_rfl) ?_;refine sgr [(0,14)] 3 (by kernel_rfl) ⟨⟨_,hW⟩,rfl⟩ ?_;simp only[pkE];repeat go_big_quiet_step (fail)
 refine wpQuiet_nil ?_;refine cla 14 (some 22) 123 #[.int .i64 kp,.int .i64 (kn-sf)] 2 (by kernel_rfl) ?_;refine(q3A kp (kn-sf) _).mono ?_;rintro e w9 ⟨rfl,Z⟩;replace Z:=Z.symm;subst Z;refine⟨_,rfl,⟨⟨_,hW⟩,rfl⟩,?_⟩;simp only[Act.put,pjE];have m0:0≤(if kn-sf<kp then kn-sf else kp):=by split<;>omega
 have m1:(if kn-sf<kp then kn-sf else kp)≤4:=by split<;>omega
 have hK:=ae.out;generalize (if kn-sf<kp then kn-sf else kp)=MN at*;have HK:Hid (K=sf+MN):=hK;clear hK ae;refine sgr [(15,2)] 0 (by kernel_rfl) ⟨⟨_,hW⟩,rfl⟩ ?_;simp only[pkE];repeat go_big_quiet_step (fail)
 refine wpQuiet_nil ?_;rw[←HK.out];refine z0i (by kernel_rfl) ?_;replace b0:Below w.heap.size w W.drew:=b0.drew;replace Rb:Blk W.drew _ _ _:=Rb;clear c0 c1 ak hW m0 m1 HK Bn;generalize W.drew=W1 at*;have av:=Rb.lt
 go_wp2_with fail
 refine(ab.out W1 (h.below b0)).mono ?_;rintro e w2 ⟨v2,qs,rfl,eq,oq,_,_,hb⟩;replace Rb:=Rb.below hb;replace b0:=b0.trans (hb.mono b0.size);clear hb ab;obtain⟨xa,xc,rfl⟩:=oq.shape
 go_wp2_with fail
 refine(ad.out (.slice xa qs.length xc) qs eq w2 oq.at).mono ?_;rintro e w3 ⟨q9,rfl,e9,o9,n9,g9,hb⟩;have ar:=Rb.lt;have HQ:Hid (q9.e=FE∧(repK.foot q9).Nodup∧∀k∈repK.foot q9,w.heap.size≤k∧k≠w.heap.size):=⟨by rw[e9];exact aa.out qs eq,n9,fun k hk=>by have:=g9 k hk;omega⟩
 replace Rb:=Rb.below hb;replace b0:=b0.trans (hb.mono b0.size);clear hb ad aa eq oq e9 n9 g9;obtain⟨an,y,am,x,ap,z,aq,d,ao,A⟩:=q9;obtain⟨C,O,rfl⟩:∃a c,an=.slice a y.length c:=o9.1.shape;obtain⟨I,T,rfl⟩:∃a c,am=.slice a x.length c:=o9.2.1.shape;obtain⟨J,U,rfl⟩:∃a c,ap=.slice a z.length c:=o9.2.2.1.shape;obtain⟨L,V,rfl⟩:∃a c,aq=.slice a d.length c:=o9.2.2.2.1.shape;obtain⟨M,X,rfl⟩:∃a c,ao=.slice a A.length c:=o9.2.2.2.2.shape;dsimp only;have Rr:=Rb.row #[.int .i64 K,.int .i64 K,.slice C y.length O,.slice I x.length T,.slice J z.length U,.slice L d.length V,.slice M A.length X];have U3:=z1w w3 w.heap.size #[.int .i64 K,.int .i64 K,.slice C y.length O,.slice I x.length T,.slice J z.length U,.slice L d.length V,.slice M A.length X];have O3:=repK.own_out o9 U3 (fun k hk=>by have:=HQ.out.2.2 k hk;simp;omega);have b3:=Out.keep b0 U3 b0.size (fun k hk=>by simp at hk;omega);have al:(Tryz.prog.info? 31).map (·.size)=some (#[.int .i64 K,.int .i64 K,.slice C y.length O,.slice I x.length T,.slice J z.length U,.slice L d.length V,.slice M A.length X]:Array Value).size:=by kernel_rfl
 clear o9 b0
 go_wp2_with (refine z0K (by kernel_rfl) 31 _ _ rfl _ #[.int .i64 K,.int .i64 K,.slice C y.length O,.slice I x.length T,.slice J z.length U,.slice L d.length V,.slice M A.length X] rfl rfl 31 _ Rb al rfl (by simp[Value.oneCell']) ?_)
 obtain⟨r0,r1,r2,r3,r4,r5,r6⟩:=Rr.cel7;exact bodyPost_ret (v:=.agg #[.int .i64 K,.int .i64 K,.slice C y.length O,.slice I x.length T,.slice J z.length U,.slice L d.length V,.slice M A.length X]) (by simp[results,Tryz.results71,go_sem,r0,r1,r2,r3,r4,r5,r6]) rfl ⟨_,rfl,HQ.out.1,O3,HQ.out.2.1,fun k hk=>(HQ.out.2.2 k hk).1,b3⟩
theorem z4f(v:Value)(ps:List InstQ)(kn sf:Int)(p:RepQ)(kp:Int)(w:World)(h:instK.At w v ps)(hl:(ps.length+nmL InstQ.n ps)≤1048576)(hp:repK.own w p)(ao:p.n≤1048576):
  Calls Tryz.prog 28 #[v,.agg #[.int .i64 kn,.int .i64 sf,p.vd,p.vb,p.vt,p.vu,p.vn],.int .i64 kp] w fun e w'=>∃q:RepQ,e=.returned (.agg #[.int .i64 (crC (ps.map InstQ.e) kn sf p.e kp),.int .i64 0,.int .i64 (crK (ps.map InstQ.e) kn sf p.e kp),.int .i64 (crK (ps.map InstQ.e) kn sf p.e kp),q.vd,q.vb,q.vt,q.vu,q.vn])∧q.e=crE (ps.map InstQ.e) kn sf p.e kp∧repK.own w' q∧(repK.foot q).Nodup∧(∀k∈repK.foot q,w.heap.size≤k)∧Below w.heap.size w w':=by
 have ak:=fun b w hB h hp=>z8G v ps b kn sf p w hB h hl hp ao
 have L:=fun b w hB h h0 hk=>z8H v ps b kn sf p kp w hB h hl h0 hk
 have ah:Hid (nodF (ps.map InstQ.e) kn sf p.e≠0→crC (ps.map InstQ.e) kn sf p.e kp=nodF (ps.map InstQ.e) kn sf p.e∧crK (ps.map InstQ.e) kn sf p.e kp=0∧crE (ps.map InstQ.e) kn sf p.e kp=⟨[],[],[],[],[]⟩):=fun h0=>by
  have e:crC (ps.map InstQ.e) kn sf p.e kp=nodF (ps.map InstQ.e) kn sf p.e:=if_neg h0;have e':¬crC (ps.map InstQ.e) kn sf p.e kp=0:=by rw[e];exact h0
  exact⟨e,if_neg e',if_neg e'⟩
 have ai:Hid (nodF (ps.map InstQ.e) kn sf p.e=0→kp<0→crC (ps.map InstQ.e) kn sf p.e kp=3∧crK (ps.map InstQ.e) kn sf p.e kp=0∧crE (ps.map InstQ.e) kn sf p.e kp=⟨[],[],[],[],[]⟩):=fun h0 h1=>by
  have e:crC (ps.map InstQ.e) kn sf p.e kp=3:=by unfold crC;rw[if_pos h0,if_pos h1]
  have e':¬crC (ps.map InstQ.e) kn sf p.e kp=0:=by rw[e];decide
  exact⟨e,if_neg e',if_neg e'⟩
 have ag:Hid (nodF (ps.map InstQ.e) kn sf p.e=0→¬kp<0→crC (ps.map InstQ.e) kn sf p.e kp=0∧crK (ps.map InstQ.e) kn sf p.e kp=crM kn sf kp∧crE (ps.map InstQ.e) kn sf p.e kp=falE (defL (ps.map InstQ.e) (crM kn sf kp).toNat)):=fun h0 h1=>by
  have e:crC (ps.map InstQ.e) kn sf p.e kp=0:=by unfold crC;rw[if_pos h0,if_neg h1]
  exact⟨e,if_pos e,if_pos e⟩
 have al:=fun(w':World) (hb:Below w.heap.size w w')=>repK.own_out (F:=[]) (w':=w') hp (Out.of_below hb) (fun _ _=>by simp)
 generalize nodF (ps.map InstQ.e) kn sf p.e=D at*;generalize crC (ps.map InstQ.e) kn sf p.e kp=SC at*;generalize crK (ps.map InstQ.e) kn sf p.e kp=SK at*;generalize crE (ps.map InstQ.e) kn sf p.e kp=SE at*;generalize crM kn sf kp=K at*;generalize falE (defL (ps.map InstQ.e) K.toNat)=FE at*;obtain⟨vd,done,vb,base,vt,I,vu,A,vn,M⟩:=p;obtain⟨a0,k0,rfl⟩:∃a c,vd=.slice a done.length c:=hp.1.shape;obtain⟨a1,k1,rfl⟩:∃a c,vb=.slice a base.length c:=hp.2.1.shape;obtain⟨a2,k2,rfl⟩:∃a c,vt=.slice a I.length c:=hp.2.2.1.shape;obtain⟨a3,k3,rfl⟩:∃a c,vu=.slice a A.length c:=hp.2.2.2.1.shape;obtain⟨a4,k4,rfl⟩:∃a c,vn=.slice a M.length c:=hp.2.2.2.2.shape;obtain⟨va,vc,rfl⟩:=h.shape;dsimp only at ak L al;have am:Hid _:=ak;have af:Hid _:=L;have an:Hid _:=al;have HH:Hid (instK.At w (.slice va ps.length vc) ps):=h;clear ak L al hp ao h;have b0:Below w.heap.size w ((w.alloc (.cells #[.int .i64 kn,.int .i64 sf,.slice a0 done.length k0,.slice a1 base.length k1,.slice a2 I.length k2,.slice a3 A.length k3,.slice a4 M.length k4] 31)).alloc (.cells #[.int .i64 0,.int .i64 0,.int .i64 0,.int .i64 0,.slice none 0 0,.slice none 0 0,.slice none 0 0,.slice none 0 0,.slice none 0 0] 35)):=by go_grown
 have A0:=(Blk.new w 31 #[.int .i64 kn,.int .i64 sf,.slice a0 done.length k0,.slice a1 base.length k1,.slice a2 I.length k2,.slice a3 A.length k3,.slice a4 M.length k4]).below (w':=(w.alloc (.cells #[.int .i64 kn,.int .i64 sf,.slice a0 done.length k0,.slice a1 base.length k1,.slice a2 I.length k2,.slice a3 A.length k3,.slice a4 M.length k4] 31)).alloc (.cells #[.int .i64 0,.int .i64 0,.int .i64 0,.int .i64 0,.slice none 0 0,.slice none 0 0,.slice none 0 0,.slice none 0 0,.slice none 0 0] 35)) (by go_grown);have Rb:=Blk.new (w.alloc (.cells #[.int .i64 kn,.int .i64 sf,.slice a0 done.length k0,.slice a1 base.length k1,.slice a2 I.length k2,.slice a3 A.length k3,.slice a4 M.length k4] 31)) 35 #[.int .i64 0,.int .i64 0,.int .i64 0,.int .i64 0,.slice none 0 0,.slice none 0 0,.slice none 0 0,.slice none 0 0,.slice none 0 0];simp only[World.size_alloc]at Rb;go_enter Tryz.func28,Tryz.ntmps28
 go_wp2_with fail
 generalize (w.alloc (.cells #[.int .i64 kn,.int .i64 sf,.slice a0 done.length k0,.slice a1 base.length k1,.slice a2 I.length k2,.slice a3 A.length k3,.slice a4 M.length k4] 31)).alloc (.cells #[.int .i64 0,.int .i64 0,.int .i64 0,.int .i64 0,.slice none 0 0,.slice none 0 0,.slice none 0 0,.slice none 0 0,.slice none 0 0] 35)=W at*;have ax:=Rb.lt;refine(am.out _ W A0 (HH.out.below b0) (an.out W b0)).mono ?_;rintro e w1 ⟨rfl,hb⟩;have ay:=hb.size;replace A0:=A0.below hb;replace Rb:=Rb.below hb;replace b0:=b0.trans (hb.mono b0.size);clear hb am an;by_cases hD:D=0
 case neg=>
  have ap:(D !=0)=true:=by simpa using hD
  have HS:Hid _:=ah.out hD;clear ag ah ai af HH A0
  go_wp2_with fail
  refine(z6B D w1).mono ?_;rintro e w2 ⟨rfl,hb⟩;replace Rb:=Rb.below hb;replace b0:=b0.trans (hb.mono b0.size);have Rr:=Rb.row #[.int .i64 D,.int .i64 0,.int .i64 0,.int .i64 0,.slice none 0 0,.slice none 0 0,.slice none 0 0,.slice none 0 0,.slice none 0 0];have aj:=z0p b0 (g:=w.heap.size+1) (by omega) #[.int .i64 D,.int .i64 0,.int .i64 0,.int .i64 0,.slice none 0 0,.slice none 0 0,.slice none 0 0,.slice none 0 0,.slice none 0 0];have X:(Tryz.prog.info? 35).map (·.size)=some (#[.int .i64 D,.int .i64 0,.int .i64 0,.int .i64 0,.slice none 0 0,.slice none 0 0,.slice none 0 0,.slice none 0 0,.slice none 0 0]:Array Value).size:=by kernel_rfl
  go_wp2_with (refine z0K (by kernel_rfl) 35 _ _ rfl _ #[.int .i64 D,.int .i64 0,.int .i64 0,.int .i64 0,.slice none 0 0,.slice none 0 0,.slice none 0 0,.slice none 0 0,.slice none 0 0] rfl rfl 35 _ Rb X rfl (by simp[Value.oneCell']) ?_)
  obtain⟨r0,r1,r2,r3,r4,r5,r6,r7,r8⟩:=Rr.cel9;obtain⟨ae,J⟩:=z4X (w2.setRow (w.heap.size+1) #[.int .i64 D,.int .i64 0,.int .i64 0,.int .i64 0,.slice none 0 0,.slice none 0 0,.slice none 0 0,.slice none 0 0,.slice none 0 0]);exact bodyPost_ret (v:=.agg #[.int .i64 D,.int .i64 0,.int .i64 0,.int .i64 0,.slice none 0 0,.slice none 0 0,.slice none 0 0,.slice none 0 0,.slice none 0 0]) (by simp[results,Tryz.results28,go_sem,r0,r1,r2,r3,r4,r5,r6,r7,r8]) rfl ⟨q3W,by rw[HS.out.1,HS.out.2.1];rfl,by rw[HS.out.2.2];rfl,ae,by rw[J];simp,by rw[J];simp,aj⟩
 subst hD;have ap:((0:Int) !=0)=false:=by decide
 by_cases hk:kp<0
 case pos=>
  have HS:Hid _:=ai.out rfl hk;clear ag ah ai af HH A0
  go_wp2_with fail
  refine(z6B 3 w1).mono ?_;rintro e w2 ⟨rfl,hb⟩;replace Rb:=Rb.below hb;replace b0:=b0.trans (hb.mono b0.size);have Rr:=Rb.row #[.int .i64 3,.int .i64 0,.int .i64 0,.int .i64 0,.slice none 0 0,.slice none 0 0,.slice none 0 0,.slice none 0 0,.slice none 0 0];have aj:=z0p b0 (g:=w.heap.size+1) (by omega) #[.int .i64 3,.int .i64 0,.int .i64 0,.int .i64 0,.slice none 0 0,.slice none 0 0,.slice none 0 0,.slice none 0 0,.slice none 0 0];have X:(Tryz.prog.info? 35).map (·.size)=some (#[.int .i64 3,.int .i64 0,.int .i64 0,.int .i64 0,.slice none 0 0,.slice none 0 0,.slice none 0 0,.slice none 0 0,.slice none 0 0]:Array Value).size:=by kernel_rfl
  go_wp2_with (refine z0K (by kernel_rfl) 35 _ _ rfl _ #[.int .i64 3,.int .i64 0,.int .i64 0,.int .i64 0,.slice none 0 0,.slice none 0 0,.slice none 0 0,.slice none 0 0,.slice none 0 0] rfl rfl 35 _ Rb X rfl (by simp[Value.oneCell']) ?_)
  obtain⟨r0,r1,r2,r3,r4,r5,r6,r7,r8⟩:=Rr.cel9;obtain⟨ae,J⟩:=z4X (w2.setRow (w.heap.size+1) #[.int .i64 3,.int .i64 0,.int .i64 0,.int .i64 0,.slice none 0 0,.slice none 0 0,.slice none 0 0,.slice none 0 0,.slice none 0 0]);exact bodyPost_ret (v:=.agg #[.int .i64 3,.int .i64 0,.int .i64 0,.int .i64 0,.slice none 0 0,.slice none 0 0,.slice none 0 0,.slice none 0 0,.slice none 0 0]) (by simp[results,Tryz.results28,go_sem,r0,r1,r2,r3,r4,r5,r6,r7,r8]) rfl ⟨q3W,by rw[HS.out.1,HS.out.2.1];rfl,by rw[HS.out.2.2];rfl,ae,by rw[J];simp,by rw[J];simp,aj⟩
 have HS:Hid _:=ag.out rfl (by omega);have L:=af.out w.heap.size w1 A0 (HH.out.below b0) rfl (by omega);have HC:Wrp _:=⟨L⟩
 clear L af HH ag ah ai
 go_wp2_with fail
 refine HC.out.mono ?_;rintro e w2 ⟨q9,rfl,e9,o9,n9,g9,hb⟩;have HQ:Hid (q9.e=FE∧(repK.foot q9).Nodup∧∀k∈repK.foot q9,w1.heap.size≤k):=⟨e9,n9,g9⟩
 replace Rb:=Rb.below hb;replace b0:=b0.trans (hb.mono b0.size);clear hb HC e9 n9 g9 A0;obtain⟨ar,y,aq,x,av,z,aw,d,au,C⟩:=q9;obtain⟨N,Y,rfl⟩:∃a c,ar=.slice a y.length c:=o9.1.shape;obtain⟨O,Z,rfl⟩:∃a c,aq=.slice a x.length c:=o9.2.1.shape;obtain⟨T,aa,rfl⟩:∃a c,av=.slice a z.length c:=o9.2.2.1.shape;obtain⟨U,ab,rfl⟩:∃a c,aw=.slice a d.length c:=o9.2.2.2.1.shape;obtain⟨V,ad,rfl⟩:∃a c,au=.slice a C.length c:=o9.2.2.2.2.shape;dsimp only;have Rr:=Rb.row #[.int .i64 0,.int .i64 0,.int .i64 K,.int .i64 K,.slice N y.length Y,.slice O x.length Z,.slice T z.length aa,.slice U d.length ab,.slice V C.length ad];have U3:=z1w w2 (w.heap.size+1) #[.int .i64 0,.int .i64 0,.int .i64 K,.int .i64 K,.slice N y.length Y,.slice O x.length Z,.slice T z.length aa,.slice U d.length ab,.slice V C.length ad];have O3:=repK.own_out o9 U3 (fun k hk=>by have:=HQ.out.2.2 k hk;simp;omega);have b3:=Out.keep b0 U3 b0.size (fun k hk=>by simp at hk;omega);have X:(Tryz.prog.info? 35).map (·.size)=some (#[.int .i64 0,.int .i64 0,.int .i64 K,.int .i64 K,.slice N y.length Y,.slice O x.length Z,.slice T z.length aa,.slice U d.length ab,.slice V C.length ad]:Array Value).size:=by kernel_rfl
 clear o9
 go_wp2_with (refine z0K (by kernel_rfl) 35 _ _ rfl _ #[.int .i64 0,.int .i64 0,.int .i64 K,.int .i64 K,.slice N y.length Y,.slice O x.length Z,.slice T z.length aa,.slice U d.length ab,.slice V C.length ad] rfl rfl 35 _ Rb X rfl (by simp[Value.oneCell']) ?_)
 obtain⟨r0,r1,r2,r3,r4,r5,r6,r7,r8⟩:=Rr.cel9;exact bodyPost_ret (v:=.agg #[.int .i64 0,.int .i64 0,.int .i64 K,.int .i64 K,.slice N y.length Y,.slice O x.length Z,.slice T z.length aa,.slice U d.length ab,.slice V C.length ad]) (by simp[results,Tryz.results28,go_sem,r0,r1,r2,r3,r4,r5,r6,r7,r8]) rfl ⟨_,by rw[HS.out.1,HS.out.2.1],by rw[HS.out.2.2];exact HQ.out.1,O3,HQ.out.2.1,fun k hk=>by have:=HQ.out.2.2 k hk;omega,b3⟩
end Go.Proofs.YtlkpdgjnhkjpjaaGreatDoor
