/- Texts joined,with what the laws reach alone. -/
import Derived.Test.YtciofogeiohleaaGreatDoorCOAN
set_option linter.unusedVariables false
set_option linter.unusedSimpArgs false
set_option maxRecDepth 100000
set_option maxHeartbeats 8000000
namespace Go.Proofs.YtciofogeiohleaaGreatDoor
open Go.RowKit Go.BigFrame
theorem z7G{w w':World}{base base' e e' n n' s s':Nat}{v v':Value}{xs xs':List Value}(h:w.ownsRow base e s v n xs)(h':w'.ownsRow base' e' s' v' n' xs')(hb:w.heap.size≤base'):v.ownBlock=none∨v.ownBlock≠v'.ownBlock:=by
 cases hv:v.ownBlock with
 |none=>exact Or.inl rfl
 |some g=>
  right;intro e;have h1:=(h.lt g hv).2;have h2:=(h'.lt g e.symm).1;omega
theorem z6K{w w':World}{base base' e e' n n' s s':Nat}{v v':Value}{xs xs':List Value}(h:w.ownsRow base e s v n xs)(h':w'.ownsRow base' e' s' v' n' xs')(hb:w.heap.size≤base'):v'.ownBlock=none∨v'.ownBlock≠v.ownBlock:=by
 rcases z7G h h' hb with e|e
 ·cases hv:v'.ownBlock with
  |none=>exact Or.inl rfl
  |some g=>right;rw[e];simp
 ·exact Or.inr (fun k=>e k.symm)
theorem q0w{has:Bool}{vb:Value}{rs:List RoundE}{dec:List Int}(h:Wel rs)(h4:rs.length≤4):(brdC has vb rs dec)[26]?=some vb:=by
 have:=z0t h h4;unfold brdC;rw[List.getElem?_append_right (by omega),this];rfl
theorem z7e{F:List Nat}{w:World}{b o:Nat}(L:List Value)(ty:TypeId)(d:TypeDesc)(hr:w.rangeAt b o L)(hF:b∉F)(hu:Tryz.prog.underlying ty=some d)(hd:d.isRow=true)(hi:(Tryz.prog.info? ty).map (·.size)=some L.length):
  ∀u:LatO F w,(Instr.loadAt ty (.pointer (some ⟨b,o,none⟩))).run Tryz.prog u.val=.ok (.agg L.toArray) u.val:=fun u=>
 run_loadAt_mid u.val b o ty L d (fun j v hv=>z0g (hr j v hv) hF u) hu hd hi
theorem z5u(rs:List RoundE)(w:World)(h:Wel rs)(h4:rs.length≤4):
  Calls Tryz.prog 153 #[.agg (rndC rs).toArray] w fun e w'=>∃v qs,e=.returned v∧qs.map RoundQ.e=rs∧roundK.Own w' v qs∧(roundK.fp v qs).Nodup∧(∀k∈roundK.fp v qs,w.heap.size≤k)∧Below w.heap.size w w':=by
 have B:=Blk.new w 153 (rndC rs).toArray;have ab:Below w.heap.size w (w.alloc (.cells (rndC rs).toArray 153)):=by go_grown
 have hc:=z6o rs;have aE:(rs.length:Int)≤4:=by omega
 obtain⟨i0,hi,aA,aB,aC⟩:=info_parts z2K;have ap:Hid (∀r,r<rs.length→∀j v,(z02 (rs.getD r rnd0))[j]?=some v→(rndC rs)[1+r*6+j]?=some v):=fun r hr j v hv=>by
  have hj:=(List.getElem?_eq_some_iff.1 hv).1;rw[z0S (z1o h r hr)]at hj;rw[z6X h r hr j hj];exact hv
 generalize rndC rs=ds at*;go_enter Tryz.func153,Tryz.ntmps153
 go_wp2
 clear hc;generalize w.alloc (.cells ds.toArray 153)=W at*;obtain⟨aj,ak⟩:=Kind.own_nil (K:=roundK) W;have ae:Hid ((roundK.fp (.slice none 0 0) ([]:List RoundQ)).Nodup∧∀k∈roundK.fp (.slice none 0 0) ([]:List RoundQ),W.heap.size≤k):=by
  rw[ak];exact⟨by simp,by simp⟩
 clear ak;go_loopw[3,11] (fun v j wr=>∃ (k:Nat) (qs:List RoundQ),k≤rs.length∧j=.int .i64 k∧Hid (qs.map RoundQ.e=rs.take k)∧roundK.Own wr v qs∧Hid ((roundK.fp v qs).Nodup∧∀k∈roundK.fp v qs,W.heap.size≤k)∧Below W.heap.size W wr) (fun _ j _=>rs.length-(intOf j).toNat)
 case atStart=>exact⟨0,[],Nat.zero_le _,rfl,(rfl:_=_),aj,ae,Below.refl _ _⟩
 case round=>
  clear ae aj;obtain⟨k,qs,hk,rfl,HE,hO,HN,hb⟩:=hrel;obtain⟨sa,sc,rfl⟩:=hO.shape;by_cases I:k<rs.length
  ·have ay:=z1o h k I;have ag:Hid (qs.length≤4):=by
    have:=congrArg List.length HE.out;rw[List.length_map,List.length_take]at this;show qs.length≤4;omega
   have af:Hid (∀p':RoundQ,p'.e=rs.getD k rnd0→(qs++[p']).map RoundQ.e=rs.take (k+1)):=fun p' aw=>by
    rw[List.take_succ_eq_append_getElem I,List.map_append,HE.out,List.map_singleton,aw];simp[List.getD,I]
   have U:=rng (B.below hb) (z02 (rs.getD k rnd0)) (o:=1+k*6) (fun j v hv=>by rw[List.getElem?_toArray];exact ap.out k I j v hv);clear HE;generalize rs.getD k rnd0=q at*;obtain⟨qr,qp⟩:=q;obtain⟨l1,l2⟩:qr.length=3∧qp.length=3:=ay;obtain⟨x0,x1,x2,rfl⟩:=z4D l1;obtain⟨y0,y1,y2,rfl⟩:=z4D l2;clear l1 l2;have A:(Tryz.prog.info? 150).map (·.size)=some (z02 ⟨[x0,x1,x2],[y0,y1,y2]⟩).length:=z6s;have C:(Tryz.prog.info? 150).map (·.size)=some (z02 ⟨[x0,x1,x2],[y0,y1,y2]⟩).toArray.size:=A;have X:=Blk.new wr 150 #[.int .i64 0,.int .i64 0,.int .i64 0,.int .i64 0,.int .i64 0,.int .i64 0];have D:=X.row (z02 ⟨[x0,x1,x2],[y0,y1,y2]⟩).toArray;have E:Below W.heap.size W ((wr.alloc (.cells #[.int .i64 0,.int .i64 0,.int .i64 0,.int .i64 0,.int .i64 0,.int .i64 0] 150)).setRow wr.heap.size (z02 ⟨[x0,x1,x2],[y0,y1,y2]⟩).toArray):=z0c (hb.alloc hb.size _) hb.size _;have J:Below wr.heap.size wr ((wr.alloc (.cells #[.int .i64 0,.int .i64 0,.int .i64 0,.int .i64 0,.int .i64 0,.int .i64 0] 150)).setRow wr.heap.size (z02 ⟨[x0,x1,x2],[y0,y1,y2]⟩).toArray):=z0c ((Below.refl _ _).alloc (Nat.le_refl _) _) (Nat.le_refl _) _;have N:(#[.int .i64 0,.int .i64 0,.int .i64 0,.int .i64 0,.int .i64 0,.int .i64 0]:Array Value).size=(z02 ⟨[x0,x1,x2],[y0,y1,y2]⟩).toArray.size:=rfl;have O:(z02 ⟨[x0,x1,x2],[y0,y1,y2]⟩).toArray.all (·.oneCell')=true:=z8d _;have HF:Hid (∀x∈roundK.fp (.slice sa qs.length sc) qs,x<wr.heap.size):=hO.lt;replace hO:=hO.below J
   go_wp2_with (first|(refine z5b (by kernel_rfl) 150 _ rfl _ _ rfl (z02 ⟨[x0,x1,x2],[y0,y1,y2]⟩) _ U Tryz.underlying150 rfl A ?_)|(refine z0d (by kernel_rfl) 150 _ _ rfl _ (z02 ⟨[x0,x1,x2],[y0,y1,y2]⟩).toArray rfl rfl 150 _ X C N O ?_))
   clear U A C N O X J;generalize (wr.alloc (.cells #[.int .i64 0,.int .i64 0,.int .i64 0,.int .i64 0,.int .i64 0,.int .i64 0] 150)).setRow wr.heap.size (z02 ⟨[x0,x1,x2],[y0,y1,y2]⟩).toArray=W3 at*;have hF:wr.heap.size∉blk (.slice sa qs.length sc):=fun hx=>by
    have:=HF.out _ (by simp only[Kind.fp,List.mem_append];exact Or.inl hx);omega
   have p0:=z7e (F:=blk (.slice sa qs.length sc)) ([x0,x1,x2].map iv) 148 _ (rng D ([x0,x1,x2].map iv) (o:=0) (fun j v hv=>by match j,hv with|0,hv=>exact hv|1,hv=>exact hv|2,hv=>exact hv)) hF Tryz.underlying148 rfl z1K;have p1:=z7e (F:=blk (.slice sa qs.length sc)) ([y0,y1,y2].map iv) 148 _ (rng D ([y0,y1,y2].map iv) (o:=3) (fun j v hv=>by match j,hv with|0,hv=>exact hv|1,hv=>exact hv|2,hv=>exact hv)) hF Tryz.underlying148 rfl z1K;have av:Nonempty (LatO (blk (.slice sa qs.length sc)) W3):=⟨⟨W3,Out.refl _ _⟩⟩
   have hW:Below W3.heap.size W3 W3.drew:=(Below.refl _ _).drew;have d:∀w',Below W3.heap.size W3 w'→∃u:LatO (blk (.slice sa qs.length sc)) W3,w'=u.val:=fun w' ax=>⟨⟨w',Out.of_below ax⟩,rfl⟩
   simp only[Act.put];refine z0b (S:=fun w'=>∃u:LatO (blk (.slice sa qs.length sc)) W3,w'=u.val) (by kernel_rfl) ?_;refine sgr [(0,2),(4,1)] 8 (by kernel_rfl) (d _ hW) ?_;simp only[pkE];repeat go_big_quiet_step (fail)
   refine wpQuiet_nil ?_;refine qta 2 (some 17) (.agg ([x0,x1,x2].map iv).toArray) 7 (by kernel_rfl) (fun u hu=>?_) (d _ hW) ?_
   ·obtain⟨u,rfl⟩:=hu;show some (((Instr.loadAt 148 (.pointer (some ⟨wr.heap.size,0,none⟩)))>>=fun x=>pure (Next.value x):Sem Next).run Tryz.prog u.val)=_;rw[Sem.run_bind,p0 u];rfl
   simp only[Act.put,pjE];refine qta 5 (some 20) (.agg ([y0,y1,y2].map iv).toArray) 6 (by kernel_rfl) (fun u hu=>?_) (d _ hW) ?_
   ·obtain⟨u,rfl⟩:=hu;show some (((Instr.loadAt 148 (.pointer (some ⟨wr.heap.size,3,none⟩)))>>=fun x=>pure (Next.value x):Sem Next).run Tryz.prog u.val)=_;rw[Sem.run_bind,p1 u];rfl
   simp only[Act.put,pjE];refine cla 3 (some 18) 154 #[.agg ([x0,x1,x2].map iv).toArray] 5 (by kernel_rfl) ?_;refine(z1V [x0,x1,x2] _ rfl).mono ?_;rintro e w8 ⟨a1,c1,rfl,o1,g1,_,ai⟩;have L1:∀x∈intK.fp (.slice a1 3 c1) [x0,x1,x2],W3.heap.size≤x:=fun x hx=>by have:=g1 x hx;have:=hW.size;omega
   have M1:=o1.lt;replace hW:=hW.trans (ai.mono hW.size);clear ai g1;refine⟨_,rfl,d _ hW,?_⟩;simp only[Act.put,pjE];refine cla 6 (some 21) 154 #[.agg ([y0,y1,y2].map iv).toArray] 4 (by kernel_rfl) ?_;refine(z1V [y0,y1,y2] _ rfl).mono ?_;rintro e w9 ⟨a2,c2,rfl,o2,g2,_,c⟩;have L2:∀x∈intK.fp (.slice a2 3 c2) [y0,y1,y2],W3.heap.size≤x:=fun x hx=>by have:=g2 x hx;have:=hW.size;omega
   have L:∀x∈intK.fp (.slice a1 3 c1) [x0,x1,x2],∀y∈intK.fp (.slice a2 3 c2) [y0,y1,y2],x≠y:=fun x hx y hy e=>by have:=M1 x hx;have:=g2 y hy;omega
   replace hW:=hW.trans (c.mono hW.size);replace o1:=o1.below c;clear c g2 M1;refine⟨_,rfl,d _ hW,?_⟩;simp only[Act.put,pjE];refine qta 7 (some 22) (.agg #[.slice a1 3 c1,.slice a2 3 c2]) 3 (by kernel_rfl) (fun u _=>by kernel_rfl) (d _ hW) ?_;simp only[Act.put,pjE];refine ona 8 2 rfl (by kernel_rfl) ?_;have G:Below w9.heap.size w9 (w9.alloc (.cells #[.slice a1 3 c1,.slice a2 3 c2] 172)):=by go_grown
   replace hW:=hW.trans (G.mono hW.size);replace o1:=o1.below G;replace o2:=o2.below G;have V:∀j u,[Value.slice a1 3 c1,.slice a2 3 c2][j]?=some u→(w9.alloc (.cells #[.slice a1 3 c1,.slice a2 3 c2] 172)).cell? ((⟨w9.heap.size,0,none⟩:Addr).add j)=some u:=by
    intro j u hj;match j,hj with|0,hj=>simp at hj;subst hj;simp[Addr.add]|1,hj=>simp at hj;subst hj;simp[Addr.add]
   go_wp2
   refine ThenGo.to ⟨d _ hW,?_⟩;generalize w9.alloc (.cells #[.slice a1 3 c1,.slice a2 3 c2] 172)=Z at*;clear G;have Y:=hO.below hW;have c:=E.trans (hW.mono E.size);have z:=Y.1;refine ona 9 1 rfl (by kernel_rfl) ?_;refine wpList_append_own_at _ rfl _ _ 46 rfl 0 172 i0 (.agg #[.slice none 0 0,.slice none 0 0]) 2 48 Tryz.underlying46 hi aA aB aC rfl (by decide) _ qs.length (roundK.row qs) rfl z ⟨w9.heap.size,0,none⟩ 1 1 [.slice a1 3 c1,.slice a2 3 c2] rfl rfl V ?c2 ?c3 ?c4 ?c5 ?_
   case c2=>intro u hu;simp at hu;rcases hu with rfl|rfl<;>rfl
   case c3=>have:=ag.out;unfold maxLen;omega
   case c4=>have:=ag.out;omega
   case c5=>omega
   intro v' w5 T s am ah;clear am z V;have aD:wr.heap.size≤W3.heap.size:=by have:=D.lt;omega
   obtain ⟨aq,al,M,ad⟩:=Y.snoc (p:=⟨.slice a1 3 c1,[x0,x1,x2],.slice a2 3 c2,[y0,y1,y2]⟩) HN.out.1 HN.out.2 ⟨o1,o2⟩ (List.nodup_append.2 ⟨z0z _ _,z0z _ _,L⟩) (fun x hx az => by
    have:=HF.out x az;rcases List.mem_append.1 hx with hx|hx
    ·have:=L1 x hx;omega
    ·have:=L2 x hx;omega) (fun x hx=>by
    have:=E.size;rcases List.mem_append.1 hx with hx|hx
    ·have:=L1 x hx;omega
    ·have:=L2 x hx;omega) c.size T s ah
   have ar:Below W.heap.size W w5:=Out.keep c ad c.size (fun x hx=>HN.out.2 x (by simp only[Kind.fp,List.mem_append];exact Or.inl hx));have aa:Out (blk (.slice sa qs.length sc)) W3 w5:=(Out.of_below hW).trans ad;have an:Hid ((qs++[(⟨.slice a1 3 c1,[x0,x1,x2],.slice a2 3 c2,[y0,y1,y2]⟩:RoundQ)]).map RoundQ.e=rs.take (k+1)):=af.out _ rfl;have ao:Hid ((roundK.fp v' (qs++[(⟨.slice a1 3 c1,[x0,x1,x2],.slice a2 3 c2,[y0,y1,y2]⟩:RoundQ)])).Nodup∧∀k∈roundK.fp v' (qs++[(⟨.slice a1 3 c1,[x0,x1,x2],.slice a2 3 c2,[y0,y1,y2]⟩:RoundQ)]),W.heap.size≤k):=⟨al,M⟩
   clear al M ad af HN HF o1 o2 L1 L2 L T s ah Y hO c E
   go_wp2
   refine ThenGo.to ⟨⟨⟨_,aa⟩,rfl⟩,?_⟩;simp only[Act.put,pgE,pjE];refine sgr [(10,1)] 0 (by kernel_rfl) ⟨⟨_,aa⟩,rfl⟩ ?_;simp only[pkE];repeat go_big_quiet_step (fail)
   refine wpQuiet_nil ?_;refine z0e (by kernel_rfl) ?_;clear p0 p1 av hW aa d D hF
   go_wp2
   go_roundw
   case rel=>exact⟨k+1,_,by omega,by go_num,an,aq,ao,ar⟩
   case measure=>simp[intOf];omega
  ·have au:k=rs.length:=by omega
   subst au;have hE:=HE.out;rw[List.take_length]at hE;clear HE;have aF:=ab.size
   go_wp2
   go_ret;exact⟨_,qs,rfl,hE,hO,HN.out.1,fun x hx=>by have:=HN.out.2 x hx;omega,ab.trans (hb.mono ab.size)⟩
theorem z6c(has:Bool)(vb:Value)(bt:List TxnQ)(rs:List RoundE)(dec:List Int)(w:World)(hT:txnK.At w vb bt)(X:∀p∈bt,0<p.acts.length)(hl:bt.length+nmL TxnQ.n bt≤1048576)(c:Wel rs)(h4:rs.length≤4)(h3:dec.length=3):
  Calls Tryz.prog 95 #[.agg (brdC has vb rs dec).toArray] w fun e w'=>∃q:InstQ,e=.returned (.agg #[.bool q.has,q.vb,q.vr,q.vd])∧q.e=⟨has,bt.map TxnQ.e,rs,dec⟩∧instK.own w' q∧(instK.foot q).Nodup∧(∀k∈instK.foot q,w.heap.size≤k)∧Below w.heap.size w w':=by
 have B:=Blk.new w 155 (brdC has vb rs dec).toArray;have E:=fun w (hT:txnK.At w vb bt)=>z1W vb bt w hT X hl
 have G:=fun w=>z5u rs w c h4
 have I:=fun w=>z1V dec w h3
 have M:(Tryz.prog.info? 153).map (·.size)=some (rndC rs).length:=by rw[z0t c h4];exact z2c
 have L:(Tryz.prog.info? 148).map (·.size)=some (dec.map iv).length:=by rw[List.length_map,h3];exact z1K
 have d:Hid ((brdC has vb rs dec)[25]?=some (.bool has)∧(brdC has vb rs dec)[26]?=some vb∧(∀j v,(rndC rs)[j]?=some v→(brdC has vb rs dec)[0+j]?=some v)∧∀j v,(dec.map iv)[j]?=some v→(brdC has vb rs dec)[27+j]?=some v):=by
  refine⟨z78 c h4,q0w c h4,fun j v hv=>?_,fun j v hv=>?_⟩
  ·have hj:=(List.getElem?_eq_some_iff.1 hv).1;rw[z0t c h4]at hj;rw[Nat.zero_add,z4f c h4 j hj];exact hv
  ·obtain⟨hj,rfl⟩:=row_get h3 hv;exact z6r c h4 h3 j hj
 generalize brdC has vb rs dec=ds at*;have z:Below w.heap.size w ((w.alloc (.cells ds.toArray 155)).alloc (.cells #[.bool false,.slice none 0 0,.slice none 0 0,.slice none 0 0] 49)):=by go_grown
 have D:Below (w.alloc (.cells ds.toArray 155)).heap.size (w.alloc (.cells ds.toArray 155)) ((w.alloc (.cells ds.toArray 155)).alloc (.cells #[.bool false,.slice none 0 0,.slice none 0 0,.slice none 0 0] 49)):=by go_grown
 have R:=Blk.new (w.alloc (.cells ds.toArray 155)) 49 #[.bool false,.slice none 0 0,.slice none 0 0,.slice none 0 0];rw[World.size_alloc]at R;replace B:=B.below D;clear D;go_enter Tryz.func95,Tryz.ntmps95
 go_wp2_with fail
 have ae:w.heap.size+2≤((w.alloc (.cells ds.toArray 155)).alloc (.cells #[.bool false,.slice none 0 0,.slice none 0 0,.slice none 0 0] 49)).heap.size:=by simp
 generalize ((w.alloc (.cells ds.toArray 155)).alloc (.cells #[.bool false,.slice none 0 0,.slice none 0 0,.slice none 0 0] 49))=W at*;have hF:w.heap.size∉[w.heap.size+1]:=by simp
 have p0:=z0g (F:=[w.heap.size+1]) (B.cell 25 (.bool has) (by rw[List.getElem?_toArray];exact d.out.1)) hF;have p1:=z0g (F:=[w.heap.size+1]) (B.cell 26 vb (by rw[List.getElem?_toArray];exact d.out.2.1)) hF;have p2:=z7e (F:=[w.heap.size+1]) (rndC rs) 153 _ (rng B (rndC rs) (o:=0) (fun j v hv=>by rw[List.getElem?_toArray];exact d.out.2.2.1 j v hv)) hF Tryz.underlying153 rfl M;have p3:=z7e (F:=[w.heap.size+1]) (dec.map iv) 148 _ (rng B (dec.map iv) (o:=27) (fun j v hv=>by rw[List.getElem?_toArray];exact d.out.2.2.2 j v hv)) hF Tryz.underlying148 rfl L;obtain⟨ba,bk,rfl⟩:=hT.shape;clear M L d;generalize rndC rs=dr at*;have Y:Nonempty (LatO [w.heap.size+1] W):=⟨⟨W,Out.refl _ _⟩⟩
 have hW:Below W.heap.size W W.drew:=(Below.refl _ _).drew;have r:∀w',Below W.heap.size W w'→∃u:LatO [w.heap.size+1] W,w'=u.val:=fun w' Z=>⟨⟨w',Out.of_below Z⟩,rfl⟩
 refine z0b (S:=fun w'=>∃u:LatO [w.heap.size+1] W,w'=u.val) (by kernel_rfl) ?_;refine sgr [(0,4),(5,1),(8,1)] 7 (by kernel_rfl) (r _ hW) ?_;simp only[pkE];repeat go_big_quiet_step (fail)
 refine wpQuiet_nil ?_;refine qta 6 (some 9) (.agg dr.toArray) 6 (by kernel_rfl) (fun u hu=>?_) (r _ hW) ?_
 ·obtain⟨u,rfl⟩:=hu;show some (((Instr.loadAt 153 (.pointer (some ⟨w.heap.size,0,none⟩)))>>=fun x=>pure (Next.value x):Sem Next).run Tryz.prog u.val)=_;rw[Sem.run_bind,p2 u];rfl
 simp only[Act.put,pjE];refine qta 9 (some 12) (.agg (dec.map iv).toArray) 5 (by kernel_rfl) (fun u hu=>?_) (r _ hW) ?_
 ·obtain⟨u,rfl⟩:=hu;show some (((Instr.loadAt 148 (.pointer (some ⟨w.heap.size,27,none⟩)))>>=fun x=>pure (Next.value x):Sem Next).run Tryz.prog u.val)=_;rw[Sem.run_bind,p3 u];rfl
 simp only[Act.put,pjE];refine cla 4 (some 7) 39 #[.slice ba bt.length bk] 4 (by kernel_rfl) ?_;refine(E _ (hT.below (z.trans (hW.mono z.size)))).mono ?_;rintro e w1 ⟨v1,q1,rfl,e1,o1,n1,g1,hb⟩;have L1:∀x∈txnK.fp v1 q1,W.heap.size≤x:=fun x hx=>by have:=g1 x hx;have:=hW.size;omega
 have M1:=o1.lt;replace hW:=hW.trans (hb.mono hW.size);clear hb g1;refine⟨_,rfl,r _ hW,?_⟩;simp only[Act.put,pjE];refine cla 7 (some 10) 153 #[.agg dr.toArray] 3 (by kernel_rfl) ?_;refine(G _).mono ?_;rintro e w2 ⟨v2,q2,rfl,e2,o2,n2,g2,hb⟩;have L2:∀x∈roundK.fp v2 q2,W.heap.size≤x:=fun x hx=>by have:=g2 x hx;have:=hW.size;omega
 have N:∀x∈txnK.fp v1 q1,∀y∈roundK.fp v2 q2,x≠y:=fun x hx y hy e=>by have:=M1 x hx;have:=g2 y hy;omega
 have M2:=o2.lt;have J:=hb.size;replace o1:=o1.below hb;replace hW:=hW.trans (hb.mono hW.size);clear hb g2;refine⟨_,rfl,r _ hW,?_⟩;simp only[Act.put,pjE];refine cla 10 (some 13) 154 #[.agg (dec.map iv).toArray] 2 (by kernel_rfl) ?_;refine(I _).mono ?_;rintro e w3 ⟨a3,c3,rfl,o3,g3,_,hb⟩;have L3:∀x∈intK.fp (.slice a3 3 c3) dec,W.heap.size≤x:=fun x hx=>by have:=g3 x hx;have:=hW.size;omega
 have O:∀x∈txnK.fp v1 q1,∀y∈intK.fp (.slice a3 3 c3) dec,x≠y:=fun x hx y hy e=>by have:=M1 x hx;have:=g3 y hy;omega
 have T:∀x∈roundK.fp v2 q2,∀y∈intK.fp (.slice a3 3 c3) dec,x≠y:=fun x hx y hy e=>by have:=M2 x hx;have:=g3 y hy;omega
 replace o1:=o1.below hb;replace o2:=o2.below hb;replace hW:=hW.trans (hb.mono hW.size);clear hb g3 M1 M2 J;obtain⟨s1,t1,rfl⟩:=o1.shape;obtain⟨s2,t2,rfl⟩:=o2.shape;refine⟨_,rfl,r _ hW,?_⟩;simp only[Act.put,pjE];refine qta 11 (some 14) (.agg #[.bool has,.slice s1 q1.length t1,.slice s2 q2.length t2,.slice a3 3 c3]) 1 (by kernel_rfl) (fun u _=>by kernel_rfl) (r _ hW) ?_;simp only[Act.put,pjE];have R3:=R.below hW;refine ona 12 0 rfl (by kernel_rfl) ?_;have V:=R3.row #[.bool has,.slice s1 q1.length t1,.slice s2 q2.length t2,.slice a3 3 c3];have s:=z0f w3 (w.heap.size+1) #[.bool has,.slice s1 q1.length t1,.slice s2 q2.length t2,.slice a3 3 c3];have C:Out [w.heap.size+1] W (w3.setRow (w.heap.size+1) #[.bool has,.slice s1 q1.length t1,.slice s2 q2.length t2,.slice a3 3 c3]):=(Out.of_below hW).trans s;refine z0d (by kernel_rfl) 49 _ _ rfl _ #[.bool has,.slice s1 q1.length t1,.slice s2 q2.length t2,.slice a3 3 c3] rfl rfl 49 _ R3 z0l rfl (by simp[Value.oneCell']) ?_
 go_wp2
 refine ThenGo.to ⟨⟨⟨_,C⟩,rfl⟩,?_⟩;refine z0e (by kernel_rfl) ?_;have A:∀x,W.heap.size≤x→x∉[w.heap.size+1]:=fun x hx=>by simp only[List.mem_singleton];omega
 have aa:=o1.out s (fun x hx=>A x (L1 x hx));have ab:=o2.out s (fun x hx=>A x (L2 x hx));have ad:=o3.out s (fun x hx=>A x (L3 x hx));have U:Below w.heap.size w (w3.setRow (w.heap.size+1) #[.bool has,.slice s1 q1.length t1,.slice s2 q2.length t2,.slice a3 3 c3]):=z0c (z.trans (hW.mono z.size)) (by omega) _;clear p0 p1 p2 p3 Y r E G I s C o1 o2 o3 R3;generalize w3.setRow (w.heap.size+1) #[.bool has,.slice s1 q1.length t1,.slice s2 q2.length t2,.slice a3 3 c3]=w4 at*;obtain⟨p0,p1,p2,p3⟩:=V.cel4
 go_wp2
 refine bodyPost_ret (v:=.agg #[.bool has,.slice s1 q1.length t1,.slice s2 q2.length t2,.slice a3 3 c3]) (by simp[results,Tryz.results95,go_sem,p0,p1,p2,p3]) rfl ?_;refine⟨⟨has,.slice s1 q1.length t1,q1,.slice s2 q2.length t2,q2,.slice a3 3 c3,dec⟩,rfl,?_,⟨aa,ab,ad⟩,?_,?_,U⟩
 ·simp only[InstQ.e,e1,e2]
 ·exact List.nodup_append.2 ⟨n1,List.nodup_append.2 ⟨n2,z0z _ _,T⟩,fun x hx y hy=>by
   rcases List.mem_append.1 hy with hy|hy
   ·exact N x hx y hy
   ·exact O x hx y hy⟩
 ·intro x hx;rcases List.mem_append.1 hx with hx|hx
  ·have:=L1 x hx;omega
  ·rcases List.mem_append.1 hx with hx|hx
   ·have:=L2 x hx;omega
   ·have:=L3 x hx;omega
def q1I(rs:List RoundE)(r:Nat):List RoundE:=rs++List.replicate (r+1-rs.length) z1Q
theorem z9x{rs:List RoundE}(h:Wel rs)(m:Nat):Wel (rs++List.replicate m z1Q):=fun x hx=>by
 rcases List.mem_append.1 hx with hx|hx
 ·exact h x hx
 ·rw[(List.mem_replicate.1 hx).2];exact⟨rfl,rfl⟩
theorem z8N(b:Nat)(t:TypeId)(rs:List RoundE)(c:List Value)(r:Nat)(w:World)(hO:Opn w)(A:b≠0)(hB:Blk w b t (rndC rs++c).toArray)(h:Wel rs)(h4:rs.length≤4)(E:r<4):
  Calls Tryz.prog 94 #[.pointer (some ⟨b,0,none⟩),.int .i64 (r:Int)] w fun e w'=>e=.returned (.tuple #[])∧Blk w' b t (rndC (q1I rs r)++c).toArray∧Out [b] w w':=by
 have G:(r:Int)<4:=by omega
 go_enter Tryz.func94,Tryz.ntmps94
 go_wp2
 go_loopg[4] (r+1-rs.length) (fun n p wr=>∃m:Nat,n=r+1-(rs.length+m)∧m≤r+1-rs.length∧Blk wr b t (rndC (rs++List.replicate m z1Q)++c).toArray∧Out [b] w wr)
 case atStart=>exact⟨0,by omega,by omega,by simpa using hB,Out.refl _ _⟩
 case round=>
  obtain⟨m,rfl,hm,hB,hU⟩:=hrel;have q:(rs++List.replicate m z1Q).length=rs.length+m:=by simp
  have s:=z9x h m;have c0:wr.cell? ⟨b,0,none⟩=some (.int .i64 ((rs++List.replicate m z1Q).length:Int)):=hB.cell 0 _ rfl;rw[q]at c0;by_cases D:rs.length+m≤r
  ·have d:Calls Tryz.prog 152 #[.pointer (some ⟨b,0,none⟩),.agg #[.int .i64 3,.int .i64 3,.int .i64 3,.int .i64 3,.int .i64 3,.int .i64 3]] wr _:=z3D b t _ c z1Q wr hB s ⟨rfl,rfl⟩ (by omega);have x:=(hO.outs hU (by simp only[List.mem_singleton];exact fun e=>A e.symm)).range;have es:rs++List.replicate m z1Q++[z1Q]=rs++List.replicate (m+1) z1Q:=by
    rw[List.append_assoc,show [z1Q]=List.replicate 1 z1Q from rfl,List.replicate_append_replicate]
   rw[es]at d;clear es q s hB;have C:((rs.length+m:Nat):Int)≤(r:Int):=by omega
   generalize hk:rs.length+m=km at*
   go_wp2_with (first|(refine z5b (by kernel_rfl) 148 _ rfl _ _ rfl [.int .i64 3,.int .i64 3,.int .i64 3] _ x Tryz.underlying148 rfl z1K ?_))
   refine d.mono ?_;rintro e w2 ⟨rfl,z,y⟩;replace hU:=hU.trans y;clear d x c0 y
   go_wp2
   go_roundg (r+1-(rs.length+(m+1)))
   case rel=>exact⟨m+1,rfl,by omega,z,hU⟩
   case measure=>omega
  ·have e:rs++List.replicate m z1Q=q1I rs r:=by
    unfold q1I;rw[show m=r+1-rs.length by omega]
   have C:¬((rs.length+m:Nat):Int)≤(r:Int):=by omega
   rw[e]at hB;clear e q s;generalize hk:rs.length+m=km at*
   go_wp2
   go_end0
   exact⟨rfl,hB,hU⟩
theorem z2E(w:World)(hO:Opn w):
  Calls Tryz.prog 43 #[] w fun e w'=>∃q:InstQ,e=.returned (.agg (q0E 0 0 false false 0 q))∧q.e=z6e∧instK.own w' q∧(instK.foot q).Nodup∧(∀k∈instK.foot q,w.heap.size≤k)∧Below w.heap.size w w':=by
 have hB:Below w.heap.size w (w.alloc (.cells #[.int .i64 0,.int .i64 0,.bool false,.bool false,.int .i64 0,.bool false,.slice none 0 0,.slice none 0 0,.slice none 0 0] 83)):=by go_grown
 have Rb:=Blk.new w 83 #[.int .i64 0,.int .i64 0,.bool false,.bool false,.int .i64 0,.bool false,.slice none 0 0,.slice none 0 0,.slice none 0 0];have N:=(hO.below hB).range;have Bz:=Blk.new (w.alloc (.cells #[.int .i64 0,.int .i64 0,.bool false,.bool false,.int .i64 0,.bool false,.slice none 0 0,.slice none 0 0,.slice none 0 0] 83)) 155 #[.int .i64 0,.int .i64 0,.int .i64 0,.int .i64 0,.int .i64 0,.int .i64 0,.int .i64 0,.int .i64 0,.int .i64 0,.int .i64 0,.int .i64 0,.int .i64 0,.int .i64 0,.int .i64 0,.int .i64 0,.int .i64 0,.int .i64 0,.int .i64 0,.int .i64 0,.int .i64 0,.int .i64 0,.int .i64 0,.int .i64 0,.int .i64 0,.int .i64 0,.bool false,.slice none 0 0,.int .i64 0,.int .i64 0,.int .i64 0];have A:Below (w.alloc (.cells #[.int .i64 0,.int .i64 0,.bool false,.bool false,.int .i64 0,.bool false,.slice none 0 0,.slice none 0 0,.slice none 0 0] 83)).heap.size (w.alloc (.cells #[.int .i64 0,.int .i64 0,.bool false,.bool false,.int .i64 0,.bool false,.slice none 0 0,.slice none 0 0,.slice none 0 0] 83)) ((w.alloc (.cells #[.int .i64 0,.int .i64 0,.bool false,.bool false,.int .i64 0,.bool false,.slice none 0 0,.slice none 0 0,.slice none 0 0] 83)).alloc (.cells #[.int .i64 0,.int .i64 0,.int .i64 0,.int .i64 0,.int .i64 0,.int .i64 0,.int .i64 0,.int .i64 0,.int .i64 0,.int .i64 0,.int .i64 0,.int .i64 0,.int .i64 0,.int .i64 0,.int .i64 0,.int .i64 0,.int .i64 0,.int .i64 0,.int .i64 0,.int .i64 0,.int .i64 0,.int .i64 0,.int .i64 0,.int .i64 0,.int .i64 0,.bool false,.slice none 0 0,.int .i64 0,.int .i64 0,.int .i64 0] 155)):=by go_grown
 have O:=((hO.below hB).below A).range;have Y:w.heap.size<(w.alloc (.cells #[.int .i64 0,.int .i64 0,.bool false,.bool false,.int .i64 0,.bool false,.slice none 0 0,.slice none 0 0,.slice none 0 0] 83)).heap.size:=by simp
 have y:=z0c (hB.trans (A.mono hB.size)) (g:=(w.alloc (.cells #[.int .i64 0,.int .i64 0,.bool false,.bool false,.int .i64 0,.bool false,.slice none 0 0,.slice none 0 0,.slice none 0 0] 83)).heap.size) hB.size #[.int .i64 0,.int .i64 0,.int .i64 0,.int .i64 0,.int .i64 0,.int .i64 0,.int .i64 0,.int .i64 0,.int .i64 0,.int .i64 0,.int .i64 0,.int .i64 0,.int .i64 0,.int .i64 0,.int .i64 0,.int .i64 0,.int .i64 0,.int .i64 0,.int .i64 0,.int .i64 0,.int .i64 0,.int .i64 0,.int .i64 0,.int .i64 0,.int .i64 0,.bool false,.slice none 0 0,.int .i64 3,.int .i64 3,.int .i64 3];have C:Blk (((w.alloc (.cells #[.int .i64 0,.int .i64 0,.bool false,.bool false,.int .i64 0,.bool false,.slice none 0 0,.slice none 0 0,.slice none 0 0] 83)).alloc (.cells #[.int .i64 0,.int .i64 0,.int .i64 0,.int .i64 0,.int .i64 0,.int .i64 0,.int .i64 0,.int .i64 0,.int .i64 0,.int .i64 0,.int .i64 0,.int .i64 0,.int .i64 0,.int .i64 0,.int .i64 0,.int .i64 0,.int .i64 0,.int .i64 0,.int .i64 0,.int .i64 0,.int .i64 0,.int .i64 0,.int .i64 0,.int .i64 0,.int .i64 0,.bool false,.slice none 0 0,.int .i64 0,.int .i64 0,.int .i64 0] 155)).setRow (w.alloc (.cells #[.int .i64 0,.int .i64 0,.bool false,.bool false,.int .i64 0,.bool false,.slice none 0 0,.slice none 0 0,.slice none 0 0] 83)).heap.size #[.int .i64 0,.int .i64 0,.int .i64 0,.int .i64 0,.int .i64 0,.int .i64 0,.int .i64 0,.int .i64 0,.int .i64 0,.int .i64 0,.int .i64 0,.int .i64 0,.int .i64 0,.int .i64 0,.int .i64 0,.int .i64 0,.int .i64 0,.int .i64 0,.int .i64 0,.int .i64 0,.int .i64 0,.int .i64 0,.int .i64 0,.int .i64 0,.int .i64 0,.bool false,.slice none 0 0,.int .i64 3,.int .i64 3,.int .i64 3]) w.heap.size 83 #[.int .i64 0,.int .i64 0,.bool false,.bool false,.int .i64 0,.bool false,.slice none 0 0,.slice none 0 0,.slice none 0 0]:=(setRow_other _ _ _ _ (by omega)).trans (Rb.below A);have B2:=Bz.row #[.int .i64 0,.int .i64 0,.int .i64 0,.int .i64 0,.int .i64 0,.int .i64 0,.int .i64 0,.int .i64 0,.int .i64 0,.int .i64 0,.int .i64 0,.int .i64 0,.int .i64 0,.int .i64 0,.int .i64 0,.int .i64 0,.int .i64 0,.int .i64 0,.int .i64 0,.int .i64 0,.int .i64 0,.int .i64 0,.int .i64 0,.int .i64 0,.int .i64 0,.bool false,.slice none 0 0,.int .i64 3,.int .i64 3,.int .i64 3];have I:=(hO.below y)
 have z:=I.range;have V:(Tryz.prog.info? 155).map (·.size)=some (#[.int .i64 0,.int .i64 0,.int .i64 0,.int .i64 0,.int .i64 0,.int .i64 0,.int .i64 0,.int .i64 0,.int .i64 0,.int .i64 0,.int .i64 0,.int .i64 0,.int .i64 0,.int .i64 0,.int .i64 0,.int .i64 0,.int .i64 0,.int .i64 0,.int .i64 0,.int .i64 0,.int .i64 0,.int .i64 0,.int .i64 0,.int .i64 0,.int .i64 0,.bool false,.slice none 0 0,.int .i64 3,.int .i64 3,.int .i64 3]:Array Value).size:=by kernel_rfl
 have M:(#[.int .i64 0,.int .i64 0,.int .i64 0,.int .i64 0,.int .i64 0,.int .i64 0,.int .i64 0,.int .i64 0,.int .i64 0,.int .i64 0,.int .i64 0,.int .i64 0,.int .i64 0,.int .i64 0,.int .i64 0,.int .i64 0,.int .i64 0,.int .i64 0,.int .i64 0,.int .i64 0,.int .i64 0,.int .i64 0,.int .i64 0,.int .i64 0,.int .i64 0,.bool false,.slice none 0 0,.int .i64 3,.int .i64 3,.int .i64 3]:Array Value).all (·.oneCell')=true:=by kernel_rfl
 have T:(w.alloc (.cells #[.int .i64 0,.int .i64 0,.bool false,.bool false,.int .i64 0,.bool false,.slice none 0 0,.slice none 0 0,.slice none 0 0] 83)).heap.size≠0:=by have h1:=hO.glob;have h2:=Y;omega
 have J:Calls Tryz.prog 94 #[.pointer (some ⟨(w.alloc (.cells #[.int .i64 0,.int .i64 0,.bool false,.bool false,.int .i64 0,.bool false,.slice none 0 0,.slice none 0 0,.slice none 0 0] 83)).heap.size,0,none⟩),.int .i64 0] (((w.alloc (.cells #[.int .i64 0,.int .i64 0,.bool false,.bool false,.int .i64 0,.bool false,.slice none 0 0,.slice none 0 0,.slice none 0 0] 83)).alloc (.cells #[.int .i64 0,.int .i64 0,.int .i64 0,.int .i64 0,.int .i64 0,.int .i64 0,.int .i64 0,.int .i64 0,.int .i64 0,.int .i64 0,.int .i64 0,.int .i64 0,.int .i64 0,.int .i64 0,.int .i64 0,.int .i64 0,.int .i64 0,.int .i64 0,.int .i64 0,.int .i64 0,.int .i64 0,.int .i64 0,.int .i64 0,.int .i64 0,.int .i64 0,.bool false,.slice none 0 0,.int .i64 0,.int .i64 0,.int .i64 0] 155)).setRow (w.alloc (.cells #[.int .i64 0,.int .i64 0,.bool false,.bool false,.int .i64 0,.bool false,.slice none 0 0,.slice none 0 0,.slice none 0 0] 83)).heap.size #[.int .i64 0,.int .i64 0,.int .i64 0,.int .i64 0,.int .i64 0,.int .i64 0,.int .i64 0,.int .i64 0,.int .i64 0,.int .i64 0,.int .i64 0,.int .i64 0,.int .i64 0,.int .i64 0,.int .i64 0,.int .i64 0,.int .i64 0,.int .i64 0,.int .i64 0,.int .i64 0,.int .i64 0,.int .i64 0,.int .i64 0,.int .i64 0,.int .i64 0,.bool false,.slice none 0 0,.int .i64 3,.int .i64 3,.int .i64 3]) _:=z8N (w.alloc (.cells #[.int .i64 0,.int .i64 0,.bool false,.bool false,.int .i64 0,.bool false,.slice none 0 0,.slice none 0 0,.slice none 0 0] 83)).heap.size 155 [] ([.bool false,.slice none 0 0]++([3,3,3]:List Int).map iv) 0 (((w.alloc (.cells #[.int .i64 0,.int .i64 0,.bool false,.bool false,.int .i64 0,.bool false,.slice none 0 0,.slice none 0 0,.slice none 0 0] 83)).alloc (.cells #[.int .i64 0,.int .i64 0,.int .i64 0,.int .i64 0,.int .i64 0,.int .i64 0,.int .i64 0,.int .i64 0,.int .i64 0,.int .i64 0,.int .i64 0,.int .i64 0,.int .i64 0,.int .i64 0,.int .i64 0,.int .i64 0,.int .i64 0,.int .i64 0,.int .i64 0,.int .i64 0,.int .i64 0,.int .i64 0,.int .i64 0,.int .i64 0,.int .i64 0,.bool false,.slice none 0 0,.int .i64 0,.int .i64 0,.int .i64 0] 155)).setRow (w.alloc (.cells #[.int .i64 0,.int .i64 0,.bool false,.bool false,.int .i64 0,.bool false,.slice none 0 0,.slice none 0 0,.slice none 0 0] 83)).heap.size #[.int .i64 0,.int .i64 0,.int .i64 0,.int .i64 0,.int .i64 0,.int .i64 0,.int .i64 0,.int .i64 0,.int .i64 0,.int .i64 0,.int .i64 0,.int .i64 0,.int .i64 0,.int .i64 0,.int .i64 0,.int .i64 0,.int .i64 0,.int .i64 0,.int .i64 0,.int .i64 0,.int .i64 0,.int .i64 0,.int .i64 0,.int .i64 0,.int .i64 0,.bool false,.slice none 0 0,.int .i64 3,.int .i64 3,.int .i64 3]) I T B2 (fun r hr=>by simp at hr) (by simp) (by omega);simp only[World.size_alloc]at Bz B2 J y C A Y z;go_enter Tryz.func43,Tryz.ntmps43
 go_wp2_with (first|(refine z5b (by kernel_rfl) 148 _ rfl _ _ rfl [.int .i64 3,.int .i64 3,.int .i64 3] _ N Tryz.underlying148 rfl z1K ?_)|(refine z5b (by kernel_rfl) 148 _ rfl _ _ rfl [.int .i64 3,.int .i64 3,.int .i64 3] _ O Tryz.underlying148 rfl z1K ?_)|(refine z5b (by kernel_rfl) 148 _ rfl _ _ rfl [.int .i64 3,.int .i64 3,.int .i64 3] _ z Tryz.underlying148 rfl z1K ?_)|(refine z0d (by kernel_rfl) 155 _ _ rfl _ #[.int .i64 0,.int .i64 0,.int .i64 0,.int .i64 0,.int .i64 0,.int .i64 0,.int .i64 0,.int .i64 0,.int .i64 0,.int .i64 0,.int .i64 0,.int .i64 0,.int .i64 0,.int .i64 0,.int .i64 0,.int .i64 0,.int .i64 0,.int .i64 0,.int .i64 0,.int .i64 0,.int .i64 0,.int .i64 0,.int .i64 0,.int .i64 0,.int .i64 0,.bool false,.slice none 0 0,.int .i64 3,.int .i64 3,.int .i64 3] rfl rfl 155 _ Bz V rfl M ?_))
 refine J.mono ?_;rintro e X ⟨rfl,B3,hU⟩;clear J N O z I B2 Bz A hB T;have R3:Blk X w.heap.size 83 _:=(hU.block _ C.lt (by simp)).trans C;have D:=Out.keep y hU y.size (fun k hk=>by simp only[List.mem_singleton]at hk;omega);have W:Wel [z1Q]:=fun r hr=>by simp only[List.mem_singleton]at hr;subst hr;exact⟨rfl,rfl⟩
 have U:=fun w (hT:txnK.At w (.slice none 0 0) ([]:List TxnQ))=>z6c false (.slice none 0 0) [] [z1Q] [3,3,3] w hT (fun p hp=>by simp at hp) (by simp[nmL]) W (by simp) rfl
 have aa:∀w,txnK.At w (.slice none 0 0) ([]:List TxnQ):=fun w=>(Kind.own_nil (K:=txnK) w).1.at
 change Blk X _ _ (brdC false (.slice none 0 0) [z1Q] [3,3,3]).toArray at B3;have ad:=B3.lt;have X4:=rng B3 (brdC false (.slice none 0 0) [z1Q] [3,3,3]) (o:=0) (fun j v hv=>by rw[Nat.zero_add,List.getElem?_toArray];exact hv);have G:(Tryz.prog.info? 155).map (·.size)=some (brdC false (.slice none 0 0) [z1Q] [3,3,3]).length:=by kernel_rfl
 clear B3 hU Rb C y;generalize brdC false (.slice none 0 0) [z1Q] [3,3,3]=BR at*
 go_wp2_with (first|(refine z5b (by kernel_rfl) 155 _ rfl _ _ rfl BR _ X4 Tryz.underlying155 rfl G ?_))
 clear X4 G;refine(U X (aa X)).mono ?_;rintro e w7 ⟨q,rfl,eq,oq,nq,gq,L⟩;have R5:=R3.below L;have L5:∀k∈instK.foot q,w.heap.size+2≤k:=fun k hk=>by have:=gq k hk;omega
 replace D:=D.trans (L.mono D.size);have E:∀cs,instK.own (w7.setRow w.heap.size cs) q:=fun cs=>instK.own_out oq (z0f w7 w.heap.size cs) (fun k hk=>by have:=L5 k hk;simp only[List.mem_singleton];omega)
 have HQ:Hid (q.e=z6e∧(instK.foot q).Nodup∧(∀k∈instK.foot q,w.heap.size≤k)∧∀cs,instK.own (w7.setRow w.heap.size cs) q):=⟨eq,nq,fun k hk=>by have:=L5 k hk;omega,E⟩
 clear U gq L R3 eq nq E L5;obtain⟨qh,qb,d,qr,x,qd,s⟩:=q;obtain⟨s1,t1,rfl⟩:∃a c,qb=.slice a d.length c:=oq.1.shape;obtain⟨s2,t2,rfl⟩:∃a c,qr=.slice a x.length c:=oq.2.1.shape;obtain⟨s3,t3,rfl⟩:∃a c,qd=.slice a s.length c:=oq.2.2.shape;have Rr:=R5.row #[.int .i64 0,.int .i64 0,.bool false,.bool false,.int .i64 0,.bool qh,.slice s1 d.length t1,.slice s2 x.length t2,.slice s3 s.length t3];have Z:=z0c D (g:=w.heap.size) (Nat.le_refl _) #[.int .i64 0,.int .i64 0,.bool false,.bool false,.int .i64 0,.bool qh,.slice s1 d.length t1,.slice s2 x.length t2,.slice s3 s.length t3];have ab:(Tryz.prog.info? 83).map (·.size)=some (#[.int .i64 0,.int .i64 0,.bool false,.bool false,.int .i64 0,.bool qh,.slice s1 d.length t1,.slice s2 x.length t2,.slice s3 s.length t3]:Array Value).size:=z0v;clear oq
 go_wp2_with (first|(refine z0d (by kernel_rfl) 83 _ _ rfl _ #[.int .i64 0,.int .i64 0,.bool false,.bool false,.int .i64 0,.bool qh,.slice s1 d.length t1,.slice s2 x.length t2,.slice s3 s.length t3] rfl rfl 83 _ R5 ab rfl (by simp[Value.oneCell']) ?_))
 obtain⟨q0,q1,q2,q3,q4,q5,q6,q7,q8⟩:=Rr.cel9;exact bodyPost_ret (v:=.agg #[.int .i64 0,.int .i64 0,.bool false,.bool false,.int .i64 0,.bool qh,.slice s1 d.length t1,.slice s2 x.length t2,.slice s3 s.length t3]) (by simp[results,Tryz.results43,go_sem,q0,q1,q2,q3,q4,q5,q6,q7,q8]) rfl ⟨⟨qh,.slice s1 d.length t1,d,.slice s2 x.length t2,x,.slice s3 s.length t3,s⟩,rfl,HQ.out.1,HQ.out.2.2.2 _,HQ.out.2.1,HQ.out.2.2.1,Z⟩
section
open Go.Maps
theorem TxnRow.append{base:Nat}{w w':World}{v v':Value}{ps:List TxnP}(h:TxnRow base w v ps)(p:TxnP)(hp:w.ownsRow base 163 3 p.sl p.d.acts.length (z0j p.d.acts))(hpn:p.sl.ownBlock=none∨p.sl.ownBlock≠v.ownBlock)
  (hown:w'.ownsRow base 44 4 v' (ps.length+1) (z0B ps++p.cells)) (hgrow:w.grownBy w' v.ownBlock) (hat:v'.ownBlock=v.ownBlock∨v'.ownBlock=some w.heap.size) (hnv:v'≠ .slice none 0 0):TxnRow base w' v' (ps++[p]):=by
 have key:∀r:TxnP,w.ownsRow base 163 3 r.sl r.d.acts.length (z0j r.d.acts)→(r.sl.ownBlock=none∨r.sl.ownBlock≠v.ownBlock)→w'.ownsRow base 163 3 r.sl r.d.acts.length (z0j r.d.acts)∧(r.sl.ownBlock=none∨r.sl.ownBlock≠v'.ownBlock):=by
  intro r hr hn;refine⟨hr.kept hgrow hn,?_⟩;rcases hn with e|e
  ·exact Or.inl e
  ·right;rcases hat with e2|e2
   ·rw[e2];exact e
   ·rw[e2];intro e3;have:=(hr.lt _ e3).2;omega
 refine⟨by simpa[z0B]using hown,fun r hr=>?_,hnv⟩;simp only[List.mem_append,List.mem_singleton]at hr;rcases hr with hr|rfl
 ·exact key r (h.2.1 r hr).1 (h.2.1 r hr).2
 ·exact key r hp hpn
end
theorem q0x{ds:List InstE}(h:ordF ds=0)(k:Nat)(hk:k<decN ds):outV (ds.getD k z0D).dec≠3:=by
 obtain⟨hl,ha⟩:=(z0P ds).1 h;unfold decN at hk;split at hk
 ·exact(ha k (by omega)).2 (by omega)
 ·rename_i h3
  by_cases hkl:k+1<ds.length
  ·exact(ha k hk).2 hkl
  ·have:k=ds.length-1:=by omega
   subst this;exact h3
theorem z2W(v:Value)(ps:List InstQ)(w:World)(h:instK.At w v ps)(hl:(ps.length+nmL InstQ.n ps)≤1048576):
  Calls Tryz.prog 20 #[v] w fun e w'=>e=.returned (.int .i64 (ordF (ps.map InstQ.e)))∧Below w.heap.size w w':=by
 have hf:=z1v v ps w h hl;obtain⟨a,cap,rfl⟩:=h.shape;generalize ordF (ps.map InstQ.e)=E at*;go_enter Tryz.func20,Tryz.ntmps20
 go_wp2_with fail
 refine hf.mono ?_;rintro e w2 ⟨rfl,hb2⟩
 go_wp2
 go_ret;exact⟨rfl,hb2⟩
theorem z14(v:Value)(ps:List InstQ)(w:World)(h:instK.At w v ps)(hl:(ps.length+nmL InstQ.n ps)≤1048576)(h1:1≤ps.length)(h4:ps.length≤4):
  Calls Tryz.prog 49 #[v] w fun e w'=>e=.returned (.int .i64 (decN (ps.map InstQ.e)))∧Below w.heap.size w w':=by
 obtain⟨a,cap,rfl⟩:=h.shape;have c:ps.length-1<ps.length:=by omega
 obtain⟨V,hv⟩:∃V:Int,(decN (ps.map InstQ.e):Int)=V:=⟨_,rfl⟩
 have d:Hid (outV ps[ps.length-1].dec=3→V=(ps.length:Int)-1):=fun h3=>by
  rw[←hv];unfold decN;rw[z3j ps c,if_pos (show outV (InstQ.e ps[ps.length-1]).dec=3 from h3),List.length_map];omega
 have q:Hid (outV ps[ps.length-1].dec≠3→V=(ps.length:Int)):=fun h3=>by
  rw[←hv];unfold decN;rw[z3j ps c,if_neg (show¬outV (InstQ.e ps[ps.length-1]).dec=3 from h3),List.length_map]
 rw[hv];have hn:InstQ.n ps[ps.length-1]≤1048576:=by have:=z3F ps _ c;omega
 obtain⟨b,z,rfl,A,hP⟩:=z3V h (ps.length-1) c;have r:=z0U b (z+(ps.length-1)*4) ps[ps.length-1];have x:=r w hP hn;clear r hn hv h;generalize outV ps[ps.length-1].dec=OV at*;generalize ps[ps.length-1]=p at*;generalize hm:ps.length-1=m at*;have y:(ps.length:Int)-1=(m:Int):=by omega
 have s:ps.length=m+1:=by omega
 rw[y]at d;rw[s]at h4 q⊢;clear hm y s hl h1 c;go_enter Tryz.func49,Tryz.ntmps49
 go_wp2_with fail
 refine x.mono ?_;rintro e w3 ⟨rfl,hw⟩;replace hw:=hw.symm;subst hw;clear x hP;by_cases hO:OV=3
 ·have e1:(OV==3)=true:=by simpa using hO
  have E1:Hid (V=(m:Int)):=d.out hO;clear d q hO
  go_wp2
  go_ret;exact⟨by rw[E1.out];rfl,Below.refl _ _⟩
 ·have e1:(OV==3)=false:=by simpa using hO
  have E1:Hid (V=(m:Int)+1):=by have:=q.out hO;exact this.trans (by omega)
  clear d q hO
  go_wp2
  go_ret;exact⟨by rw[E1.out];rfl,Below.refl _ _⟩
theorem z3m(v:Value)(ps:List InstQ)(w:World)(h:instK.At w v ps)(hl:(ps.length+nmL InstQ.n ps)≤1048576):
  Calls Tryz.prog 14 #[v] w fun e w'=>e=.returned (.agg #[.int .i64 (ordF (ps.map InstQ.e)),.int .i64 (diV (ps.map InstQ.e))])∧Below w.heap.size w w':=by
 have hof:=fun w h=>z1v v ps w h hl
 have hld:=fun w h h1 h4=>z14 v ps w h hl h1 h4
 have HO:Hid (ordF (ps.map InstQ.e)=0→1≤ps.length∧ps.length≤4):=fun h0=>by
  have:=((z0P _).1 h0).1;rw[List.length_map]at this;exact this
 have HV:Hid ((ordF (ps.map InstQ.e)=0→diV (ps.map InstQ.e)=(decN (ps.map InstQ.e):Int))∧(ordF (ps.map InstQ.e)≠0→diV (ps.map InstQ.e)=0)):=⟨fun h0=>if_pos h0,fun h0=>if_neg h0⟩
 obtain⟨a,cap,rfl⟩:=h.shape;generalize ordF (ps.map InstQ.e)=C at*;generalize diV (ps.map InstQ.e)=V at*;generalize (decN (ps.map InstQ.e):Int)=M at*;have hB:Below w.heap.size w (w.alloc (.cells #[.int .i64 0,.int .i64 0] 38)):=by go_grown
 have Rb:=Blk.new w 38 #[.int .i64 0,.int .i64 0];go_enter Tryz.func14,Tryz.ntmps14
 go_wp2_with fail
 generalize w.alloc (.cells #[.int .i64 0,.int .i64 0] 38)=W at*;refine(hof W (h.below hB)).mono ?_;rintro e w1 ⟨rfl,hb⟩;replace hB:=hB.trans (hb.mono hB.size);replace Rb:=Rb.below hb;clear hb hof;by_cases hC:C=0
 ·obtain⟨h1,h4⟩:=HO.out hC;have E1:Hid (V=M):=HV.out.1 hC;subst hC;clear HV HO
  go_wp2_with fail
  refine(hld w1 (h.below hB) h1 h4).mono ?_;rintro e w3 ⟨rfl,hb3⟩;replace hB:=hB.trans (hb3.mono hB.size);replace Rb:=Rb.below hb3;obtain⟨q0,q1⟩:=Rb.cel2;obtain⟨f0,f1⟩:=Rb.frz2;clear hb3 hld
  go_wp2
  exact bodyPost_ret (v:=.agg #[.int .i64 0,.int .i64 M]) (by simp[results,Tryz.results14,go_sem,q0,q1]) rfl ⟨by rw[E1.out],(hB.setCell (p:=⟨w.heap.size,0,none⟩) (Nat.le_refl _) _).setCell (p:=⟨w.heap.size,1,none⟩) (Nat.le_refl _) _⟩
 ·have E1:Hid (V=0):=HV.out.2 hC;have hC':(C !=0)=true:=by simpa using hC
  obtain⟨q0,q1⟩:=Rb.cel2;obtain⟨f0,f1⟩:=Rb.frz2;clear HV HO hld
  go_wp2
  exact bodyPost_ret (v:=.agg #[.int .i64 C,.int .i64 0]) (by simp[results,Tryz.results14,go_sem,q0,q1]) rfl ⟨by rw[E1.out],(hB.setCell (p:=⟨w.heap.size,0,none⟩) (Nat.le_refl _) _).setCell (p:=⟨w.heap.size,1,none⟩) (Nat.le_refl _) _⟩
def niC(ds:List InstE):Int:=if ordF ds=0 then(if decN ds<ds.length then 8 else if ds.length=4 then 7 else 0)else ordF ds
def niO(ds:List InstE):List InstE:=if niC ds=0 then ds++[z6e]else []
theorem z4B(ds:List InstE):(ordF ds≠0∧niC ds=ordF ds∧niO ds=[])∨(ordF ds=0∧decN ds<ds.length∧niC ds=8∧niO ds=[])∨(ordF ds=0∧¬decN ds<ds.length∧ds.length=4∧niC ds=7∧niO ds=[])∨(ordF ds=0∧¬decN ds<ds.length∧ds.length≠4∧niC ds=0∧niO ds=ds++[z6e]):=by
 unfold niO niC;by_cases h0:ordF ds=0
 ·by_cases h1:decN ds<ds.length
  ·right;left;simp[h0,h1]
  ·by_cases h4:ds.length=4
   ·right;right;left;refine⟨h0,h1,h4,?_,?_⟩
    ·rw[if_pos h0,if_neg h1,if_pos h4]
    ·rw[if_pos h0,if_neg h1,if_pos h4,if_neg (by decide)]
   ·right;right;right;refine⟨h0,h1,h4,?_,?_⟩
    ·rw[if_pos h0,if_neg h1,if_neg h4]
    ·rw[if_pos h0,if_neg h1,if_neg h4,if_pos rfl]
 ·left;simp[h0]
theorem q0y(c0 c1:Int)(c2 c3:Bool)(c4:Int)(c5:Bool)(a1 a2 a3:Option Addr)(l1 k1 l2 k2 l3 k3:Nat)(w:World):(Instr.field 83 (.agg #[.int .i64 c0,.int .i64 c1,.bool c2,.bool c3,.int .i64 c4,.bool c5,.slice a1 l1 k1,.slice a2 l2 k2,.slice a3 l3 k3]) 2).run Tryz.prog w=.ok (.agg #[.bool c5,.slice a1 l1 k1,.slice a2 l2 k2,.slice a3 l3 k3]) w:=by kernel_rfl
theorem z2n(v:Value)(ps:List InstQ)(w:World)(hG:RulO w)(h:instK.At w v ps)(hl:(ps.length+nmL InstQ.n ps)≤1048576):
  Calls Tryz.prog 11 #[v] w fun e w'=>∃ (v':Value) (qs:List InstQ),e=.returned (.agg #[.int .i64 (niC (ps.map InstQ.e)),v'])∧qs.map InstQ.e=niO (ps.map InstQ.e)∧instK.Own w' v' qs∧(instK.fp v' qs).Nodup∧(∀k∈instK.fp v' qs,w.heap.size≤k)∧Below w.heap.size w w':=by
 have aq:=fun w hG h=>z0H v ps w hG h hl
 have HO:Hid (ordF (ps.map InstQ.e)=0→1≤ps.length∧ps.length≤4∧∀q∈ps,insF (InstQ.e q)=0):=fun h0=>by
  have:=((z0P _).1 h0).1;rw[List.length_map]at this;exact⟨this.1,this.2,fun q hq=>z1m h0 _ (List.mem_map.2 ⟨q,hq,rfl⟩)⟩
 have al:=fun w h z=>z2s v ps w h z hl
 obtain⟨a,cap,rfl⟩:=h.shape;obtain⟨i0,hi,aF,aG,aH⟩:=info_parts z0Y;have hw:=z4B (ps.map InstQ.e);have y:Hid (ordF (ps.map InstQ.e)=0→diV (ps.map InstQ.e)=(decN (ps.map InstQ.e):Int)):=fun h0=>if_pos h0
 have aA:=z4t (ps.map InstQ.e);rw[List.length_map]at hw aA;generalize niC (ps.map InstQ.e)=D at*;generalize niO (ps.map InstQ.e)=O at*;have A:Hid (∀q1:List InstQ,∀q:InstQ,q1.map InstQ.e=ps.map InstQ.e→q.e=z6e→(q1++[q]).map InstQ.e=ps.map InstQ.e++[z6e]):=fun q1 q h1 h2=>by rw[List.map_append,h1,List.map_singleton,h2]
 have E:Hid (∀q1:List InstQ,q1.map InstQ.e=ps.map InstQ.e→q1.length=ps.length):=fun q1 h1=>by simpa using congrArg List.length h1
 generalize ordF (ps.map InstQ.e)=C at*;generalize diV (ps.map InstQ.e)=V at*;generalize decN (ps.map InstQ.e)=M at*;generalize ps.map InstQ.e=ds at*;have hB:Below w.heap.size w (w.alloc (.cells #[.int .i64 0,.slice none 0 0] 33)):=by go_grown
 have Rb:=Blk.new w 33 #[.int .i64 0,.slice none 0 0];go_enter Tryz.func11,Tryz.ntmps11
 go_wp2_with fail
 generalize w.alloc (.cells #[.int .i64 0,.slice none 0 0] 33)=W at*;refine(aq W (hG.below hB).r (h.below hB)).mono ?_;rintro e w1 ⟨rfl,hb⟩;have d:Below w1.heap.size w1 (w1.alloc (.cells #[.int .i64 C,.int .i64 V] 38)):=by go_grown
 replace hB:=hB.trans (hb.mono hB.size);replace hB:=hB.trans (d.mono hB.size);replace Rb:=(Rb.below hb).below d;have Dk:=Blk.new w1 38 #[.int .i64 C,.int .i64 V];clear hb aq d;rcases hw with⟨hC,e1,e2⟩|⟨hC,hM,e1,e2⟩|⟨hC,hM,h4,e1,e2⟩|⟨hC,hM,h4,e1,e2⟩
 ·have aM:(C !=0)=true:=by simpa using hC
  have E1:Hid (D=C∧O=[]):=⟨e1,e2⟩
  clear e1 e2 A E HO y hC;obtain⟨q0,q1⟩:=Rb.cel2;obtain⟨f0,f1⟩:=Rb.frz2;obtain⟨L,s⟩:=Kind.own_nil (K:=instK) w;clear L
  go_wp2
  exact bodyPost_ret (v:=.agg #[.int .i64 C,.slice none 0 0]) (by simp[results,Tryz.results11,go_sem,q0,q1]) rfl ⟨.slice none 0 0,[],by rw[E1.out.1],by rw[E1.out.2];rfl,(Kind.own_nil _).1,by rw[s];simp,by rw[s];simp,(hB.setCell (p:=⟨w.heap.size,0,none⟩) (Nat.le_refl _) _).setCell (p:=⟨w.heap.size,1,none⟩) (Nat.le_refl _) _⟩
 ·have E1:Hid (D=8∧O=[]):=⟨e1,e2⟩
  have hV:=y.out hC;subst hC hV;have aj:(M:Int)<(ps.length:Int):=by omega
  clear e1 e2 A E HO y hM;obtain⟨q0,q1⟩:=Rb.cel2;obtain⟨f0,f1⟩:=Rb.frz2;obtain⟨L,s⟩:=Kind.own_nil (K:=instK) w;clear L
  go_wp2
  exact bodyPost_ret (v:=.agg #[.int .i64 8,.slice none 0 0]) (by simp[results,Tryz.results11,go_sem,q0,q1]) rfl ⟨.slice none 0 0,[],by rw[E1.out.1],by rw[E1.out.2];rfl,(Kind.own_nil _).1,by rw[s];simp,by rw[s];simp,(hB.setCell (p:=⟨w.heap.size,0,none⟩) (Nat.le_refl _) _).setCell (p:=⟨w.heap.size,1,none⟩) (Nat.le_refl _) _⟩
 ·have E1:Hid (D=7∧O=[]):=⟨e1,e2⟩
  have hV:=y.out hC;subst hC hV;have aj:¬(M:Int)<(ps.length:Int):=by omega
  have ay:((ps.length:Int)==4)=true:=by rw[h4];rfl
  clear e1 e2 A E HO y hM h4;obtain⟨q0,q1⟩:=Rb.cel2;obtain⟨f0,f1⟩:=Rb.frz2;obtain⟨L,s⟩:=Kind.own_nil (K:=instK) w;clear L
  go_wp2
  exact bodyPost_ret (v:=.agg #[.int .i64 7,.slice none 0 0]) (by simp[results,Tryz.results11,go_sem,q0,q1]) rfl ⟨.slice none 0 0,[],by rw[E1.out.1],by rw[E1.out.2];rfl,(Kind.own_nil _).1,by rw[s];simp,by rw[s];simp,(hB.setCell (p:=⟨w.heap.size,0,none⟩) (Nat.le_refl _) _).setCell (p:=⟨w.heap.size,1,none⟩) (Nat.le_refl _) _⟩
 ·have au:Hid (D=0):=e1;obtain⟨p1,p4,am⟩:=HO.out hC;have hV:=y.out hC;have z:=fun q hq=>z1t (am q hq)
  subst hC hV;have aj:¬(M:Int)<(ps.length:Int):=by omega
  have ay:((ps.length:Int)==4)=false:=by simpa using(show¬(ps.length:Int)=4 by omega)
  clear e1 HO y hM h4 am;have aR:=Dk.lt
  go_wp2_with fail
  have aO:w.heap.size+1≤(w1.alloc (.cells #[.int .i64 0,.int .i64 M] 38)).heap.size:=by have:=Rb.lt;omega
  generalize w1.alloc (.cells #[.int .i64 0,.int .i64 M] 38)=WB at*;refine(al WB (h.below hB) z).mono ?_;rintro e Y ⟨vq,qs,rfl,ab,hO,an,Z,G⟩;obtain⟨sa,sc,rfl⟩:=hO.shape;have aB:=E.out qs ab;have ai:Hid (qs.length≤4):=show _≤_ by omega
  have av:Hid (∀x∈instK.fp (.slice sa qs.length sc) qs,x<Y.heap.size):=hO.lt;have ax:Hid (WB.heap.size≤Y.heap.size):=G.size;have HN:Hid ((instK.fp (.slice sa qs.length sc) qs).Nodup∧∀k∈instK.fp (.slice sa qs.length sc) qs,WB.heap.size≤k):=⟨an,Z⟩
  clear an Z al z aB
  go_wp2_with fail
  refine(z2E Y ((hG.below hB).o.below G)).mono ?_;rintro e w2 ⟨q,rfl,eq,oq,nq,gq,T⟩;have aw:Hid (_=O):=(A.out qs q ab eq).trans e2.symm;replace hO:=hO.below T;have hb:=G.trans (T.mono G.size);have aL:=T.size;have Rw:=Rb;clear T G Rb Dk A E ab eq e2;obtain⟨qh,aI,qb,aK,qr,aJ,qd⟩:=q;obtain⟨x1,y1,rfl⟩:∃a c,aI=.slice a qb.length c:=oq.1.shape;obtain⟨x2,y2,rfl⟩:∃a c,aK=.slice a qr.length c:=oq.2.1.shape;obtain⟨x3,y3,rfl⟩:∃a c,aJ=.slice a qd.length c:=oq.2.2.shape;have aQ:=q0y 0 0 false false 0 qh x1 x2 x3 qb.length y1 qr.length y2 qd.length y3;simp only[q0E];have d:Below w2.heap.size w2 (w2.alloc (.cells #[.bool qh,.slice x1 qb.length y1,.slice x2 qr.length y2,.slice x3 qd.length y3] 49)):=by go_grown
  have ae:=hO.below d;have ak:=instK.own_out (F:=[]) oq (Out.of_below d) (fun _ _=>by simp);have U:=hb.trans (d.mono hb.size);have aP:Y.heap.size≤(w2.alloc (.cells #[.bool qh,.slice x1 qb.length y1,.slice x2 qr.length y2,.slice x3 qd.length y3] 49)).heap.size:=by have:=d.size;omega
  clear hO oq;have N:=ae.1
  go_wp2_with (at_builtin;refine wpList_append_own_at _ rfl _ _ 24 rfl 0 49 i0 (.agg #[.bool false,.slice none 0 0,.slice none 0 0,.slice none 0 0]) 4 80 Tryz.underlying24 hi aF aG aH rfl (by decide) _ qs.length (instK.row qs) rfl N ⟨w2.heap.size,0,none⟩ 1 1 [.bool qh,.slice x1 qb.length y1,.slice x2 qr.length y2,.slice x3 qd.length y3] rfl rfl ?c1 ?c2 ?c3 ?c4 ?c5 ?_)
  all_goals try(case c1=>intro j u hj;match j,hj with|0,hj=>simp at hj;subst hj;simp[Addr.add]|1,hj=>simp at hj;subst hj;simp[Addr.add]|2,hj=>simp at hj;subst hj;simp[Addr.add]|3,hj=>simp at hj;subst hj;simp[Addr.add])
  all_goals try(case c2=>intro u hu;simp at hu;rcases hu with rfl|rfl|rfl|rfl<;>rfl)
  all_goals try(case c3=>have:=ai.out;unfold maxLen;omega)
  all_goals try(case c4=>have:=ai.out;omega)
  all_goals try(case c5=>first|omega|simp)
  intro v' w5 aa I ap af;clear ap N;rw[show w2.heap.size+1=(w2.alloc (.cells #[.bool qh,.slice x1 qb.length y1,.slice x2 qr.length y2,.slice x3 qd.length y3] 49)).heap.size from(World.size_alloc _ _).symm]at af;generalize aD:w2.alloc (.cells #[.bool qh,.slice x1 qb.length y1,.slice x2 qr.length y2,.slice x3 qd.length y3] 49)=WA at*;clear aD;obtain⟨ad,ao,J,ar⟩:=ae.snoc (p:=(⟨qh,.slice x1 qb.length y1,qb,.slice x2 qr.length y2,qr,.slice x3 qd.length y3,qd⟩:InstQ)) HN.out.1 HN.out.2 ak nq (fun x hx aE=>by have:=av.out x aE;have:=gq x hx;omega) (fun x hx=>by have:=gq x hx;have:=ax.out;omega) U.size aa I af;have ag:Below WB.heap.size WB w5:=Out.keep U ar U.size (fun x hx=>HN.out.2 x (by simp only[Kind.fp,List.mem_append];exact Or.inl hx));obtain⟨xa,xc,aC⟩:=ad.shape;subst aC;have R5:=Rw.below ag;obtain⟨q0,q1⟩:=R5.cel2;obtain⟨f0,f1⟩:=R5.frz2;generalize aN:qs++[(⟨qh,.slice x1 qb.length y1,qb,.slice x2 qr.length y2,qr,.slice x3 qd.length y3,qd⟩:InstQ)]=Q5 at*;have X:Hid (∀u u',instK.Own ((w5.setCell ⟨w.heap.size,0,none⟩ u).setCell ⟨w.heap.size,1,none⟩ u') (.slice xa Q5.length xc) Q5∧Below w.heap.size w ((w5.setCell ⟨w.heap.size,0,none⟩ u).setCell ⟨w.heap.size,1,none⟩ u')):=fun u u'=>by
   refine⟨ad.out (((Out.refl [w.heap.size] w5).set (b:=w.heap.size) (j:=0) (u:=u) (by simp)).set (b:=w.heap.size) (j:=1) (u:=u') (by simp)) (fun k hk=>by have:=J k hk;simp only[List.mem_singleton];omega),?_⟩;have az:=hB.trans (ag.mono hB.size);exact(az.setCell (p:=⟨w.heap.size,0,none⟩) (Nat.le_refl _) _).setCell (p:=⟨w.heap.size,1,none⟩) (Nat.le_refl _) _
  have ah:Hid ((instK.fp (.slice xa Q5.length xc) Q5).Nodup∧∀k∈instK.fp (.slice xa Q5.length xc) Q5,w.heap.size≤k):=⟨ao,fun k hk=>by have:=J k hk;omega⟩
  clear ad ao J ag hB Rw R5 ar aa I af ae ak U d
  go_wp2
  exact bodyPost_ret (v:=.agg #[.int .i64 0,.slice xa Q5.length xc]) (by simp[results,Tryz.results11,go_sem,q0,q1]) rfl ⟨.slice xa Q5.length xc,Q5,by rw[au.out],aw.out,(X.out _ _).1,ah.out.1,ah.out.2,(X.out _ _).2⟩
theorem q1o{qs ps:List TxnQ}(h:qs.map TxnQ.e=ps.map TxnQ.e):qs.length+nmL TxnQ.n qs=ps.length+nmL TxnQ.n ps:=by
 have t1:qs.length=ps.length:=by simpa using congrArg List.length h
 have t2:nmL TxnQ.n qs=nmL TxnQ.n ps:=by
  have:=congrArg (fun l=>nmL (fun d:TxnD=>d.acts.length) l) h;simp only[nmL,List.map_map]at this;exact this
 omega
theorem z7H(v:Value)(ps:List InstQ)(w:World)(h:instK.At w v ps)(hl:(ps.length+nmL InstQ.n ps)≤1048576)(h0:ordF (ps.map InstQ.e)=0):
  Calls Tryz.prog 50 #[v] w fun e w'=>∃ (v':Value) (qs:List InstQ),e=.returned (.tuple #[v',.int .i64 (niC (ps.map InstQ.e))])∧qs.map InstQ.e=niO (ps.map InstQ.e)∧instK.Own w' v' qs∧(instK.fp v' qs).Nodup∧(∀k∈instK.fp v' qs,w.heap.size≤k)∧Below w.heap.size w w':=by
 have HO:Hid (ordF (ps.map InstQ.e)=0→1≤ps.length∧ps.length≤4∧∀q∈ps,insF (InstQ.e q)=0):=fun h0=>by
  have:=((z0P _).1 h0).1;rw[List.length_map]at this;exact⟨this.1,this.2,fun q hq=>z1m h0 _ (List.mem_map.2 ⟨q,hq,rfl⟩)⟩
 obtain⟨p1,p4,ah⟩:=HO.out h0;have r:=fun q hq=>z1t (ah q hq)
 have al:=z14 v ps w h hl p1 p4;have ag:=fun w h r=>z4Z v ps w h r hl
 obtain⟨a,cap,rfl⟩:=h.shape;obtain⟨i0,hi,az,aA,aB⟩:=info_parts z0Y;have hw:=z4B (ps.map InstQ.e);have au:=z4t (ps.map InstQ.e);rw[List.length_map]at hw au;generalize niC (ps.map InstQ.e)=D at*;generalize niO (ps.map InstQ.e)=O at*;have E:Hid (∀q1:List InstQ,∀q:InstQ,q1.map InstQ.e=ps.map InstQ.e→q.e=z6e→(q1++[q]).map InstQ.e=ps.map InstQ.e++[z6e]):=fun q1 q h1 h2=>by rw[List.map_append,h1,List.map_singleton,h2]
 have G:Hid (∀q1:List InstQ,q1.map InstQ.e=ps.map InstQ.e→q1.length=ps.length):=fun q1 h1=>by simpa using congrArg List.length h1
 clear HO ah;generalize ordF (ps.map InstQ.e)=C at*;generalize decN (ps.map InstQ.e)=M at*;generalize ps.map InstQ.e=ds at*;go_enter Tryz.func50,Tryz.ntmps50
 go_wp2_with fail
 refine al.mono ?_;rintro e WB ⟨rfl,hB⟩;clear al;rcases hw with⟨hC,e1,e2⟩|⟨hC,hM,e1,e2⟩|⟨hC,hM,h4,e1,e2⟩|⟨hC,hM,h4,e1,e2⟩
 ·exact absurd h0 hC
 ·have E1:Hid (D=8∧O=[]):=⟨e1,e2⟩
  have ad:(M:Int)<(ps.length:Int):=by omega
  clear e1 e2 E G hM h0 hC;obtain⟨aa,z⟩:=Kind.own_nil (K:=instK) w;clear aa
  go_wp2
  exact bodyPost_ret (v:=.tuple #[.slice none 0 0,.int .i64 8]) (by simp[results,Tryz.results50,go_sem]) rfl ⟨.slice none 0 0,[],by rw[E1.out.1],by rw[E1.out.2];rfl,(Kind.own_nil _).1,by rw[z];simp,by rw[z];simp,hB⟩
 ·have E1:Hid (D=7∧O=[]):=⟨e1,e2⟩
  have ad:¬(M:Int)<(ps.length:Int):=by omega
  have ar:4≤ps.length:=by omega
  clear e1 e2 E G hM h4 h0 hC;obtain⟨aa,z⟩:=Kind.own_nil (K:=instK) w;clear aa
  go_wp2
  exact bodyPost_ret (v:=.tuple #[.slice none 0 0,.int .i64 7]) (by simp[results,Tryz.results50,go_sem]) rfl ⟨.slice none 0 0,[],by rw[E1.out.1],by rw[E1.out.2];rfl,(Kind.own_nil _).1,by rw[z];simp,by rw[z];simp,hB⟩
 ·have an:Hid (D=0):=e1;have ad:¬(M:Int)<(ps.length:Int):=by omega
  have ar:¬4≤ps.length:=by omega
  clear e1 hM h4 h0 hC
  go_wp2_with fail
  refine(ag WB (h.below hB) r).mono ?_;rintro e Y ⟨vq,qs,rfl,V,hO,ai,N,L⟩;obtain⟨sa,sc,rfl⟩:=hO.shape;have av:=G.out qs V;have ab:Hid (qs.length≤4):=show _≤_ by omega
  have ao:Hid (∀x∈instK.fp (.slice sa qs.length sc) qs,x<Y.heap.size):=hO.lt;have aq:Hid (WB.heap.size≤Y.heap.size):=L.size;have HN:Hid ((instK.fp (.slice sa qs.length sc) qs).Nodup∧∀k∈instK.fp (.slice sa qs.length sc) qs,WB.heap.size≤k):=⟨ai,N⟩
  clear ai N ag r av
  go_wp2_with fail
  refine(z4m Y).mono ?_;rintro e w2 ⟨q,rfl,eq,oq,nq,gq,I⟩;have ap:Hid (_=O):=(E.out qs q V eq).trans e2.symm;replace hO:=hO.below I;have hb:=L.trans (I.mono L.size);have aF:=I.size;clear I L E G V eq e2;obtain⟨qh,aC,qb,aE,qr,aD,qd⟩:=q;obtain⟨x1,y1,rfl⟩:∃a c,aC=.slice a qb.length c:=oq.1.shape;obtain⟨x2,y2,rfl⟩:∃a c,aE=.slice a qr.length c:=oq.2.1.shape;obtain⟨x3,y3,rfl⟩:∃a c,aD=.slice a qd.length c:=oq.2.2.shape;have s:Below w2.heap.size w2 (w2.alloc (.cells #[.bool qh,.slice x1 qb.length y1,.slice x2 qr.length y2,.slice x3 qd.length y3] 49)):=by go_grown
  have X:=hO.below s;have ae:=instK.own_out (F:=[]) oq (Out.of_below s) (fun _ _=>by simp);have J:=hb.trans (s.mono hb.size);have aH:Y.heap.size≤(w2.alloc (.cells #[.bool qh,.slice x1 qb.length y1,.slice x2 qr.length y2,.slice x3 qd.length y3] 49)).heap.size:=by have:=s.size;omega
  clear hO oq;have A:=X.1
  go_wp2_with (at_builtin;refine wpList_append_own_at _ rfl _ _ 24 rfl 0 49 i0 (.agg #[.bool false,.slice none 0 0,.slice none 0 0,.slice none 0 0]) 4 80 Tryz.underlying24 hi az aA aB rfl (by decide) _ qs.length (instK.row qs) rfl A ⟨w2.heap.size,0,none⟩ 1 1 [.bool qh,.slice x1 qb.length y1,.slice x2 qr.length y2,.slice x3 qd.length y3] rfl rfl ?c1 ?c2 ?c3 ?c4 ?c5 ?_)
  all_goals try(case c1=>intro j u hj;match j,hj with|0,hj=>simp at hj;subst hj;simp[Addr.add]|1,hj=>simp at hj;subst hj;simp[Addr.add]|2,hj=>simp at hj;subst hj;simp[Addr.add]|3,hj=>simp at hj;subst hj;simp[Addr.add])
  all_goals try(case c2=>intro u hu;simp at hu;rcases hu with rfl|rfl|rfl|rfl<;>rfl)
  all_goals try(case c3=>have:=ab.out;unfold maxLen;omega)
  all_goals try(case c4=>have:=ab.out;omega)
  all_goals try(case c5=>first|omega|simp)
  intro v' w5 U y ak Z;clear ak A;rw[show w2.heap.size+1=(w2.alloc (.cells #[.bool qh,.slice x1 qb.length y1,.slice x2 qr.length y2,.slice x3 qd.length y3] 49)).heap.size from(World.size_alloc _ _).symm]at Z;generalize ax:w2.alloc (.cells #[.bool qh,.slice x1 qb.length y1,.slice x2 qr.length y2,.slice x3 qd.length y3] 49)=WA at*;clear ax;obtain⟨W,aj,T,am⟩:=X.snoc (p:=(⟨qh,.slice x1 qb.length y1,qb,.slice x2 qr.length y2,qr,.slice x3 qd.length y3,qd⟩:InstQ)) HN.out.1 HN.out.2 ae nq (fun x hx ay=>by have:=ao.out x ay;have:=gq x hx;omega) (fun x hx=>by have:=gq x hx;have:=aq.out;omega) J.size U y Z;have af:Below WB.heap.size WB w5:=Out.keep J am J.size (fun x hx=>HN.out.2 x (by simp only[Kind.fp,List.mem_append];exact Or.inl hx));obtain⟨xa,xc,aw⟩:=W.shape;subst aw;generalize aG:qs++[(⟨qh,.slice x1 qb.length y1,qb,.slice x2 qr.length y2,qr,.slice x3 qd.length y3,qd⟩:InstQ)]=Q5 at*;have aI:=hB.size;have d:Hid (instK.Own w5 (.slice xa Q5.length xc) Q5∧(instK.fp (.slice xa Q5.length xc) Q5).Nodup∧(∀k∈instK.fp (.slice xa Q5.length xc) Q5,w.heap.size≤k)∧Below w.heap.size w w5):=⟨W,aj,fun k hk=>by have:=T k hk;omega,hB.trans (af.mono hB.size)⟩
  clear W aj T af hB am U y Z X ae J s
  go_wp2
  exact bodyPost_ret (v:=.tuple #[.slice xa Q5.length xc,.int .i64 0]) (by simp[results,Tryz.results50,go_sem]) rfl ⟨.slice xa Q5.length xc,Q5,by rw[an.out],ap.out,d.out.1,d.out.2.1,d.out.2.2.1,d.out.2.2.2⟩
theorem z2o(v:Value)(ps:List InstQ)(w:World)(h:instK.At w v ps)(hl:(ps.length+nmL InstQ.n ps)≤1048576):
  Calls Tryz.prog 15 #[v] w fun e w'=>∃ (v':Value) (qs:List InstQ),e=.returned (.agg #[.int .i64 (niC (ps.map InstQ.e)),v'])∧qs.map InstQ.e=niO (ps.map InstQ.e)∧instK.Own w' v' qs∧(instK.fp v' qs).Nodup∧(∀k∈instK.fp v' qs,w.heap.size≤k)∧Below w.heap.size w w':=by
 have E:=fun w h=>z1v v ps w h hl
 have s:=fun w h h0=>z7H v ps w h hl h0
 obtain⟨a,cap,rfl⟩:=h.shape;have HB:Hid (ordF (ps.map InstQ.e)≠0→niC (ps.map InstQ.e)=ordF (ps.map InstQ.e)∧niO (ps.map InstQ.e)=[]):=fun h0=>by
  rcases z4B (ps.map InstQ.e)with⟨_,e1,e2⟩|⟨hC,_⟩|⟨hC,_⟩|⟨hC,_⟩
  ·exact⟨e1,e2⟩
  ·exact absurd hC h0
  ·exact absurd hC h0
  ·exact absurd hC h0
 generalize niC (ps.map InstQ.e)=D at*;generalize niO (ps.map InstQ.e)=O at*;generalize ordF (ps.map InstQ.e)=C at*;have hB:Below w.heap.size w (w.alloc (.cells #[.int .i64 0,.slice none 0 0] 33)):=by go_grown
 have Rb:=Blk.new w 33 #[.int .i64 0,.slice none 0 0];go_enter Tryz.func15,Tryz.ntmps15
 go_wp2_with fail
 generalize w.alloc (.cells #[.int .i64 0,.slice none 0 0] 33)=W at*;refine(E W (h.below hB)).mono ?_;rintro e w1 ⟨rfl,hb⟩;replace hB:=hB.trans (hb.mono hB.size);replace Rb:=Rb.below hb;clear hb E;by_cases hC:C=0
 ·have A:=s w1 (h.below hB) hC;have M:=Rb.lt;subst hC;clear HB s
  go_wp2_with fail
  refine A.mono ?_;rintro e w2 ⟨v',Q5,rfl,HQ,q,z,c,r⟩;obtain⟨xa,xc,rfl⟩:=q.shape;have R5:=Rb.below r;obtain⟨q0,q1⟩:=R5.cel2;obtain⟨f0,f1⟩:=R5.frz2;have G:Hid (_=O):=HQ;have d:Hid (∀u u',instK.Own ((w2.setCell ⟨w.heap.size,0,none⟩ u).setCell ⟨w.heap.size,1,none⟩ u') (.slice xa Q5.length xc) Q5∧Below w.heap.size w ((w2.setCell ⟨w.heap.size,0,none⟩ u).setCell ⟨w.heap.size,1,none⟩ u')):=fun u u'=>by
   refine⟨q.out (((Out.refl [w.heap.size] w2).set (b:=w.heap.size) (j:=0) (u:=u) (by simp)).set (b:=w.heap.size) (j:=1) (u:=u') (by simp)) (fun k hk=>by have:=c k hk;simp only[List.mem_singleton];omega),?_⟩;have I:=hB.trans (r.mono hB.size);exact(I.setCell (p:=⟨w.heap.size,0,none⟩) (Nat.le_refl _) _).setCell (p:=⟨w.heap.size,1,none⟩) (Nat.le_refl _) _
  have x:Hid ((instK.fp (.slice xa Q5.length xc) Q5).Nodup∧∀k∈instK.fp (.slice xa Q5.length xc) Q5,w.heap.size≤k):=⟨z,fun k hk=>by have:=c k hk;omega⟩
  clear q z c r hB Rb R5 HQ
  go_wp2
  exact bodyPost_ret (v:=.agg #[.int .i64 D,.slice xa Q5.length xc]) (by simp[results,Tryz.results15,go_sem,q0,q1]) rfl ⟨.slice xa Q5.length xc,Q5,rfl,G.out,(d.out _ _).1,x.out.1,x.out.2,(d.out _ _).2⟩
 ·have L:(C !=0)=true:=by simpa using hC
  have E1:Hid (D=C∧O=[]):=HB.out hC;clear HB s;obtain⟨q0,q1⟩:=Rb.cel2;obtain⟨f0,f1⟩:=Rb.frz2;obtain⟨J,y⟩:=Kind.own_nil (K:=instK) w;clear J
  go_wp2
  exact bodyPost_ret (v:=.agg #[.int .i64 C,.slice none 0 0]) (by simp[results,Tryz.results15,go_sem,q0,q1]) rfl ⟨.slice none 0 0,[],by rw[E1.out.1],by rw[E1.out.2];rfl,(Kind.own_nil _).1,by rw[y];simp,by rw[y];simp,(hB.setCell (p:=⟨w.heap.size,0,none⟩) (Nat.le_refl _) _).setCell (p:=⟨w.heap.size,1,none⟩) (Nat.le_refl _) _⟩
theorem q1J{ps:List InstQ}{qs:List InstQ}(h:qs.map InstQ.e=niO (ps.map InstQ.e))(hp:(ps.length+nmL InstQ.n ps)≤1048576):qs.length+nmL InstQ.n qs≤1048576:=by
 rcases z4B (ps.map InstQ.e)with⟨_,_,e2⟩|⟨_,_,_,e2⟩|⟨_,_,_,_,e2⟩|⟨h0,_,_,_,e2⟩
 ·rw[e2]at h;have:qs=[]:=by simpa using h
  subst this;simp[nmL]
 ·rw[e2]at h;have:qs=[]:=by simpa using h
  subst this;simp[nmL]
 ·rw[e2]at h;have:qs=[]:=by simpa using h
  subst this;simp[nmL]
 ·rw[e2]at h;have hl:=congrArg List.length h;have hl2:=((z0P _).1 h0).1;rw[List.length_map]at hl2;simp only[List.length_map,List.length_append,List.length_singleton]at hl;have:=z4w (qs:=qs) (fun q hq=>by
   have hm:InstQ.e q∈ps.map InstQ.e++[z6e]:=by rw[←h];exact List.mem_map.2 ⟨q,hq,rfl⟩
   rcases List.mem_append.1 hm with hm|hm
   ·exact z1m h0 _ hm
   ·simp only[List.mem_singleton]at hm;rw [hm];decide +kernel)
  have h5:qs.length≤5:=by omega
  have h6:qs.length*61≤5*61:=Nat.mul_le_mul_right _ h5;omega
theorem z3n(a:Option Addr)(cap:Nat)(zs:List Int)(w:World)(h:Row .u8 w a zs)(hu:∀i,0≤zs.getD i 0∧zs.getD i 0≤255)(hl:zs.length≤1048576):
  Calls Tryz.prog 9 #[.slice a zs.length cap] w fun e w'=>∃ (v:Value) (ps:List InstQ),e=.returned v∧ps.length≤5∧(∀p∈ps,InstQ.n p≤1000)∧instK.Own w' v ps∧Below w.heap.size w w':=by
 have x:∀i,i<zs.length→∃b' A,a=some ⟨b',A,none⟩∧b'<w.heap.size∧w.cell? ⟨b',A+i,none⟩=some (.int .u8 (zs.getD i 0)):=h;go_enter Tryz.func9,Tryz.ntmps9
 go_wp2_with fail
 refine(z1O w.heap.size a cap zs w (Nat.le_refl _) hl hu x).mono ?_;rintro e x1 ⟨rfl,hS,s⟩;have c:Below w.heap.size w x1:=s;clear x s h hu hl
 go_wp2_with fail
 refine(z2k w.heap.size w.heap.size 0 x1 hS (by omega)).mono ?_;rintro e x2 ⟨v,ps,rfl,h5,z,hO,C,y,r,q⟩;have G:=hS.lt;have hU:Out [w.heap.size] x1 x2:=Out.of_grown q;have E:=q.size;replace c:=Out.keep c hU c.size (fun k hk=>by simp only[List.mem_singleton]at hk;omega);replace hS:=r;have d:Hid (ps.length≤5∧∀p∈ps,InstQ.n p≤1000):=⟨h5,z⟩
 have D:Hid (∀k∈instK.fp v ps,w.heap.size<k):=fun k hk=>by have:=y k hk;omega
 clear r q hU z C y;obtain⟨va,vc,rfl⟩:=hO.shape
 go_wp2
 go_ret;first|exact⟨_,ps,rfl,d.out.1,d.out.2,hO,c⟩|exact⟨_,rfl,ps,d.out.1,d.out.2,hO,c⟩
theorem z2p(a:Option Addr)(cap:Nat)(zs:List Int)(w:World)(h:Row .u8 w a zs)(hu:∀i,0≤zs.getD i 0∧zs.getD i 0≤255)(hl:zs.length≤1048576):
  Calls Tryz.prog 10 #[.slice a zs.length cap] w fun e w'=>∃ (v:Value) (ps:List InstQ),e=.returned v∧ps.length≤5∧(∀p∈ps,InstQ.n p≤1000)∧instK.Own w' v ps∧Below w.heap.size w w':=by
 have x:∀i,i<zs.length→∃b' A,a=some ⟨b',A,none⟩∧b'<w.heap.size∧w.cell? ⟨b',A+i,none⟩=some (.int .u8 (zs.getD i 0)):=h;go_enter Tryz.func10,Tryz.ntmps10
 go_wp2_with fail
 refine(z1O w.heap.size a cap zs w (Nat.le_refl _) hl hu x).mono ?_;rintro e x1 ⟨rfl,hS,s⟩;have c:Below w.heap.size w x1:=s;clear x s h hu hl
 go_wp2_with fail
 refine(z2k w.heap.size w.heap.size 0 x1 hS (by omega)).mono ?_;rintro e x2 ⟨v,ps,rfl,h5,z,hO,C,y,r,q⟩;have G:=hS.lt;have hU:Out [w.heap.size] x1 x2:=Out.of_grown q;have E:=q.size;replace c:=Out.keep c hU c.size (fun k hk=>by simp only[List.mem_singleton]at hk;omega);replace hS:=r;have d:Hid (ps.length≤5∧∀p∈ps,InstQ.n p≤1000):=⟨h5,z⟩
 have D:Hid (∀k∈instK.fp v ps,w.heap.size<k):=fun k hk=>by have:=y k hk;omega
 clear r q hU z C y;obtain⟨va,vc,rfl⟩:=hO.shape
 go_wp2
 go_ret;first|exact⟨_,ps,rfl,d.out.1,d.out.2,hO,c⟩|exact⟨_,rfl,ps,d.out.1,d.out.2,hO,c⟩
theorem z2X(a:Option Addr)(cap:Nat)(zs:List Int)(w:World)(h:Row .u8 w a zs)(hu:∀i,0≤zs.getD i 0∧zs.getD i 0≤255)(hl:zs.length≤1048576):
  Calls Tryz.prog 7 #[.slice a zs.length cap] w fun e w'=>∃ (v:Value) (ps:List InstQ) (n:Int),e=.returned (.tuple #[v,.int .i64 n])∧ps.length≤5∧(∀p∈ps,InstQ.n p≤1000)∧instK.Own w' v ps∧Below w.heap.size w w':=by
 have A:∀i,i<zs.length→∃b' E,a=some ⟨b',E,none⟩∧b'<w.heap.size∧w.cell? ⟨b',E+i,none⟩=some (.int .u8 (zs.getD i 0)):=h;go_enter Tryz.func7,Tryz.ntmps7
 go_wp2_with fail
 refine(z1O w.heap.size a cap zs w (Nat.le_refl _) hl hu A).mono ?_;rintro e x1 ⟨rfl,hS,z⟩;have c:Below w.heap.size w x1:=z;clear A z h hu hl
 go_wp2_with fail
 refine(z2k w.heap.size w.heap.size 0 x1 hS (by omega)).mono ?_;rintro e x2 ⟨v,ps,rfl,h5,D,hO,G,C,q,d⟩;have T:=hS.lt;have hU:Out [w.heap.size] x1 x2:=Out.of_grown d;have O:=d.size;replace c:=Out.keep c hU c.size (fun k hk=>by simp only[List.mem_singleton]at hk;omega);replace hS:=q;have y:Hid (ps.length≤5∧∀p∈ps,InstQ.n p≤1000):=⟨h5,D⟩
 have s:Hid (∀k∈instK.fp v ps,w.heap.size<k):=fun k hk=>by have:=C k hk;omega
 clear q d hU D G C;obtain⟨va,vc,rfl⟩:=hO.shape;have N:(ps.length:Int)≤5:=by omega
 go_wp2_with fail
 refine(z0m w.heap.size w.heap.size (0+15000) ((ps.length:Int)+2) x2 hS (by omega) (by omega)).mono ?_;rintro e x3 ⟨r,rfl,hr,q,d⟩;obtain⟨j0,rfl⟩:=Int.eq_ofNat_of_zero_le hr.1;have L:j0≤6:=by have:=hr.2.1 (by omega);omega
 have hU:Out [w.heap.size] x2 x3:=Out.of_grown d;replace c:=Out.keep c hU c.size (fun k hk=>by simp only[List.mem_singleton]at hk;omega);replace hO:=hO.out hU (fun k hk x=>by simp only[List.mem_singleton]at x;have:=s.out k hk;omega);replace hS:=q;clear q d hU hr
 go_wp2_with fail
 refine(z0m w.heap.size w.heap.size (0+15000+1) 9 x3 hS (by omega) (by omega)).mono ?_;rintro e x4 ⟨r,rfl,hr,q,d⟩;obtain⟨j1,rfl⟩:=Int.eq_ofNat_of_zero_le hr.1;have M:j1≤8:=by have:=hr.2.1 (by omega);omega
 have hU:Out [w.heap.size] x3 x4:=Out.of_grown d;replace c:=Out.keep c hU c.size (fun k hk=>by simp only[List.mem_singleton]at hk;omega);replace hO:=hO.out hU (fun k hk x=>by simp only[List.mem_singleton]at x;have:=s.out k hk;omega);replace hS:=q;clear q d hU hr;clear hS s;have I:(j0:Int)≤6:=by omega
 have J:(j1:Int)≤8:=by omega
 go_wp2
 exact bodyPost_ret (by simp[results,Tryz.results7,go_sem];rfl) rfl ⟨_,ps,_,rfl,y.out.1,y.out.2,hO,c⟩
def TxnP.qk(p:TxnP):TxnQ:=⟨p.d.id,p.d.session,p.d.seq,p.sl,p.d.acts⟩
theorem q1p(ps:List TxnP):txnK.row (ps.map TxnP.qk)=z0B ps:=by
 induction ps with
 |nil=>rfl
 |cons p r ih=>
  show txnK.cells p.qk++txnK.row (r.map TxnP.qk)=p.cells++z0B r;rw[ih];rfl
theorem TxnRow.ownK{base:Nat}{w:World}{v:Value}{ps:List TxnP}(h:TxnRow base w v ps):txnK.Own w v (ps.map TxnP.qk):=by
 refine⟨?_,fun q hq=>?_⟩
 ·rw[List.length_map,q1p];exact z0R h.1 (Nat.zero_le _)
 ·obtain⟨p,hp,rfl⟩:=List.mem_map.1 hq;exact⟨z0R (h.2.1 p hp).1 (Nat.zero_le _),fun _ _=>trivial⟩
theorem TxnRow.lowfp{base:Nat}{w:World}{v:Value}{ps:List TxnP}(h:TxnRow base w v ps):∀k∈txnK.fp v (ps.map TxnP.qk),base≤k:=by
 have key:∀ (e s n:Nat) (u:Value) (xs:List Value),w.ownsRow base e s u n xs→∀k∈blk u,base≤k:=by
  intro e s n u xs hu k hk;unfold blk at hk
  cases hb:u.ownBlock with
  |none=>rw[hb]at hk;simp at hk
  |some x=>
   rw[hb]at hk;simp at hk;rw[hk];exact(hu.lt x hb).1
 intro k hk;rcases List.mem_append.1 hk with hk|hk
 ·exact key _ _ _ _ _ h.1 k hk
 ·obtain⟨q,hq,hk⟩:=List.mem_flatMap.1 hk;obtain⟨p,hp,rfl⟩:=List.mem_map.1 hq;have hk2:k∈actK.fp p.sl p.d.acts:=hk;rw[z2y]at hk2;exact key _ _ _ _ _ (h.2.1 p hp).1 k hk2
theorem q1Q{qs:List TxnQ}(h:∀q∈qs,q.acts.length≤5):nmL TxnQ.n qs≤5*qs.length:=by
 induction qs with
 |nil=>simp[nmL]
 |cons q r ih=>
  have h1:=h q (by simp);have:=ih (fun t ht=>h t (List.mem_cons_of_mem _ ht));simp only[nmL,List.map_cons,List.sum_cons,List.length_cons,TxnQ.n]at this⊢;omega
theorem z6L(B b T:Nat)(w:World)(hS:Src B w b T)(hT:T≤800000):
  Calls Tryz.prog 44 #[.pointer (some ⟨b,0,none⟩),.int .i64 5] w fun e w'=>∃ (v:Value) (ps:List TxnP),e=.returned v∧ps.length≤5∧(∀p∈ps,1≤p.d.acts.length∧p.d.acts.length≤5)∧TxnRow w.heap.size w' v ps∧Src B w' b (T+100)∧w.grownBy w' (some b):=by
 obtain⟨i0,hi,Y,Z,aa⟩:=info_parts z1G;have I:=hS.lt;have J:(w.alloc (.cells #[] 44)).ownsRow w.heap.size 44 4 (.slice (some ⟨w.heap.size,0,none⟩) 0 0) 0 []:=World.ownsRow_lit w #[] 0 (Nat.le_refl _) (by decide) rfl;have hg:w.grownBy (w.alloc (.cells #[] 44)) (some b):=World.grownBy_alloc w _ _;replace hS:Src B (w.alloc (.cells #[] 44)) b T:=hS.below (by go_grown);go_enter Tryz.func44,Tryz.ntmps44
 go_wp2_with fail
 generalize w.alloc (.cells #[] 44)=W1 at J hg hS;refine(z0m B b T 5 W1 hS (by omega) (by omega)).mono ?_;rintro e w3 ⟨r,rfl,hr,z,x⟩;obtain⟨j0,rfl⟩:=Int.eq_ofNat_of_zero_le hr.1;have ad:j0≤4:=by have:=hr.2.1 (by omega);omega
 have A:TxnRow w.heap.size W1 (.slice (some ⟨w.heap.size,0,none⟩) 0 0) []:=⟨J,by simp,by simp⟩
 replace A:=A.src I.2 x;replace hg:=hg.trans x;replace hS:=z;clear x z hr J
 go_wp2
 go_loopw[5,6] (fun v c wr=>∃ (j:Nat) (ps:List TxnP),c=.int .i64 j∧j+ps.length≤5∧Hid (∀p∈ps,1≤p.d.acts.length∧p.d.acts.length≤5)∧TxnRow w.heap.size wr v ps∧Src B wr b (T+1+13*ps.length)∧w.grownBy wr (some b)) (fun _ c _=>(intOf c).toNat)
 case atStart=>exact⟨j0,[],rfl,by simp;omega,by intro p hp;simp at hp,A,hS,hg⟩
 case round=>
  clear A hS hg;obtain⟨j,ps,rfl,hj,HP,hR,hS,hg⟩:=hrel;have X:=hg.size;obtain⟨a1,c1,rfl⟩:=z0p hR.1;by_cases ab:0<j
  ·go_wp2_with fail
   refine(z3f B b (T+1+13*ps.length) wr hS (by omega)).mono ?_;rintro e w4 ⟨i,s,q,a,c,xs,rfl,ae,af,ho,z,x⟩;have O:Value.ownBlock (.slice a xs.length c)=none∨Value.ownBlock (.slice a xs.length c)≠Value.ownBlock (.slice a1 ps.length c1):=z6K hR.1 ho (Nat.le_refl _);replace hR:=hR.src I.2 x;replace hg:=hg.trans x;replace hS:=z;replace ho:=z0R ho X;clear x z;have C:Below w4.heap.size w4 (w4.alloc (.cells #[.int .i64 i,.int .i64 s,.int .i64 q,.slice a xs.length c] 44)):=by go_grown
   have U:=hg.size;have L:=z0n hR.1 C
   go_wp2_with (at_builtin;refine wpList_append_own_at _ rfl _ _ 27 rfl w.heap.size 44 i0 (.agg #[.int .i64 0,.int .i64 0,.int .i64 0,.slice none 0 0]) 4 48 Tryz.underlying27 hi Y Z aa rfl (by decide) _ ps.length (z0B ps) rfl L ⟨w4.heap.size,0,none⟩ 1 1 [.int .i64 i,.int .i64 s,.int .i64 q,.slice a xs.length c] rfl rfl ?c1 ?c2 ?c3 ?c4 ?c5 ?_)
   all_goals try(case c1=>intro j u hj;match j,hj with|0,hj=>simp at hj;subst hj;simp[Addr.add]|1,hj=>simp at hj;subst hj;simp[Addr.add]|2,hj=>simp at hj;subst hj;simp[Addr.add]|3,hj=>simp at hj;subst hj;simp[Addr.add])
   all_goals try(case c2=>intro u hu;simp at hu;rcases hu with rfl|rfl|rfl|rfl<;>rfl)
   all_goals try(case c3=>unfold maxLen;omega)
   all_goals try(case c4=>omega)
   all_goals try(case c5=>first|omega|(simp;omega))
   intro v' w5 E y D M;have N:∀j,(Value.slice a1 ps.length c1).ownBlock=some j→w.heap.size≤j:=fun j hj=>(L.lt j hj).1
   have G:Below w.heap.size w4 w5:=((Below.refl w.heap.size w4).alloc U (.cells #[.int .i64 i,.int .i64 s,.int .i64 q,.slice a xs.length c] 44)).grown y (by simp;omega) N;have W:Hid (TxnRow w.heap.size w5 v' (ps++[⟨⟨i,s,q,xs⟩,a,c⟩])):=(hR.below C).append ⟨⟨i,s,q,xs⟩,a,c⟩ (z0n ho C) O (by simpa[TxnP.cells,TxnP.sl]using E) y (by rw[World.size_alloc];exact M) D;replace hg:=z0h hg G;replace hS:=hS.low G I.2;have V:Hid (∀p∈ps++[(⟨⟨i,s,q,xs⟩,a,c⟩:TxnP)],1≤p.d.acts.length∧p.d.acts.length≤5):=by
    intro p hp;simp only[List.mem_append,List.mem_singleton]at hp;rcases hp with hp|rfl
    ·exact HP.out p hp
    ·show 1≤xs.length∧xs.length≤5;omega
   clear hR ho L E y M D N G C O
   go_wp2
   go_roundw
   case rel=>exact⟨j-1,ps++[⟨⟨i,s,q,xs⟩,a,c⟩],by go_num,by simp;omega,V,W.out,hS.mono (by simp;omega),hg⟩
   case measure=>simp[intOf];omega
  ·go_wp2
   go_ret;exact⟨_,ps,rfl,by omega,HP.out,hR,hS.mono (by omega),hg⟩
theorem z3K(a:Option Addr)(cap:Nat)(zs:List Int)(w:World)(h:Row .u8 w a zs)(hu:∀i,0≤zs.getD i 0∧zs.getD i 0≤255)(hl:zs.length≤1048576):
  Calls Tryz.prog 12 #[.slice a zs.length cap] w fun e w'=>∃ (v1 v2:Value) (q1 q2:List TxnQ),e=.returned (.tuple #[v1,v2])∧q1.length+nmL TxnQ.n q1≤100∧q2.length+nmL TxnQ.n q2≤100∧txnK.Own w' v1 q1∧txnK.Own w' v2 q2∧Below w.heap.size w w':=by
 have Y:∀i,i<zs.length→∃b' aj,a=some ⟨b',aj,none⟩∧b'<w.heap.size∧w.cell? ⟨b',aj+i,none⟩=some (.int .u8 (zs.getD i 0)):=h;go_enter Tryz.func12,Tryz.ntmps12
 go_wp2_with fail
 refine(z1O w.heap.size a cap zs w (Nat.le_refl _) hl hu Y).mono ?_;rintro e x1 ⟨rfl,hS,X⟩;have c:Below w.heap.size w x1:=X;clear Y X h hu hl
 go_wp2_with fail
 refine(z6L w.heap.size w.heap.size 0 x1 hS (by omega)).mono ?_;rintro e x2 ⟨va,pa,rfl,au,ai,U,G,z⟩;have aC:=hS.lt;have hU:Out [w.heap.size] x1 x2:=Out.of_grown z;have az:=z.size;replace c:=Out.keep c hU c.size (fun k hk=>by simp only[List.mem_singleton]at hk;omega);replace hS:=G;have d:=U.ownK;have E:Hid (∀k∈txnK.fp va (pa.map TxnP.qk),w.heap.size<k):=fun k hk=>by have:=U.lowfp k hk;omega
 have am:(pa.map TxnP.qk).length=pa.length:=List.length_map ..;have L:Hid (∀q∈pa.map TxnP.qk,1≤q.acts.length∧q.acts.length≤5):=fun q hq=>by
  obtain⟨p,hp,rfl⟩:=List.mem_map.1 hq;exact ai p hp
 clear G z hU ai U;generalize pa.map TxnP.qk=qa at*;have ax:qa.length≤5:=by omega
 clear am au;obtain⟨D,y,rfl⟩:=d.shape;have ao:(qa.length:Int)≤5:=by omega
 go_wp2_with fail
 refine(z0m w.heap.size w.heap.size (0+100) ((qa.length:Int)+1) x2 hS (by omega) (by omega)).mono ?_;rintro e x3 ⟨r,rfl,hr,G,z⟩;have hU:Out [w.heap.size] x2 x3:=Out.of_grown z;have aA:=z.size;replace c:=Out.keep c hU c.size (fun k hk=>by simp only[List.mem_singleton]at hk;omega);replace d:=d.out hU (fun k hk A=>by simp only[List.mem_singleton]at A;have:=E.out k hk;omega);replace hS:=G;obtain⟨m,rfl⟩:=Int.eq_ofNat_of_zero_le hr.1;have hm:m≤qa.length:=by have:=hr.2.1 (by omega);omega
 clear G z hU hr;obtain⟨Z,aa⟩:qa.length≤y∧y≤maxLen:=d.capK;have aq:(0:Int)≤(m:Int):=by omega
 have ar:(m:Int)≤(y:Int):=by omega
 have ag:m≤y:=by omega
 have ah:nmL TxnQ.n (qa.take m)≤5*(qa.take m).length:=q1Q (fun q hq=>(L.out q (List.mem_of_mem_take hq)).2);have an:(qa.take m).length≤5:=by rw[List.length_take];omega
 have ad:=z1X (.slice D m y) (qa.take m) x3 (d.at.takeK m hm) (fun q hq=>(L.out q (List.mem_of_mem_take hq)).1) (by omega);have M:Hid (qa.length+nmL TxnQ.n qa≤100):=by
  have:=q1Q (qs:=qa) (fun q hq=>(L.out q hq).2);show qa.length+nmL TxnQ.n qa≤100;omega
 clear L
 go_wp2_with fail
 clear aq ar ag;refine ad.mono ?_;rintro e x4 ⟨vb,qs,rfl,T,oq,nq,gq,I⟩;have ap:qs.length=(qa.take m).length:=by simpa using congrArg List.length T
 have O:Hid (qs.length+nmL TxnQ.n qs≤100):=by
  show qs.length+nmL TxnQ.n qs≤100;rw[q1o T];omega
 have aB:=I.size;have C:Hid (∀k∈txnK.fp vb qs,x3.heap.size≤k):=gq;have J:Hid (∀k∈txnK.fp (.slice D qa.length y) qa,k<x3.heap.size):=d.lt;replace d:=d.below I;replace hS:=hS.below I;replace c:=c.trans (I.mono c.size);have ay:qs.length≤5:=by omega
 clear ad T gq I ap ah an Z aa ao;obtain⟨ab,cb,rfl⟩:=oq.shape;obtain⟨n,N⟩:∃n,Hid (qs.length=n):=⟨_,rfl⟩
 rw[N.out]at oq nq C⊢;have ah:n≤5:=by have:=N.out;omega
 cases n with
 |zero=>
  clear E C J nq
  go_wp2
  exact bodyPost_ret (v:=.tuple #[.slice ab 0 cb,.slice D qa.length y]) (by simp[results,Tryz.results12,go_sem]) rfl ⟨_,_,qs,qa,rfl,O.out,M.out,oq,d,c⟩
 |succ n=>
  have aw:(0:Int)<((n+1:Nat):Int):=by omega
  go_wp2_with fail
  refine(z1Z w.heap.size w.heap.size (0+100+1) 3 x4 hS (by omega) (by omega)).mono ?_;rintro e x5 ⟨tt,rfl,al,ae⟩;have hU:Out [w.heap.size] x4 x5:=Out.of_grown ae;replace c:=Out.keep c hU c.size (fun k hk=>by simp only[List.mem_singleton]at hk;omega);replace d:=d.out hU (fun k hk A=>by simp only[List.mem_singleton]at A;have:=E.out k hk;omega);replace oq:=oq.out hU (fun k hk A=>by simp only[List.mem_singleton]at A;have:=C.out k hk;omega);clear al ae hU hS
  cases tt with
  |false=>
   clear E C J nq
   go_wp2
   exact bodyPost_ret (v:=.tuple #[.slice ab (n+1) cb,.slice D qa.length y]) (by simp[results,Tryz.results12,go_sem]) rfl ⟨_,_,qs,qa,rfl,O.out,M.out,oq,d,c⟩
  |true=>
   have V:0<qs.length:=by have:=N.out;omega
   obtain⟨g,rfl⟩:=oq.blkOf V;have av:x3.heap.size≤g:=C.out g (by simp[Kind.fp,blk,Value.ownBlock]);obtain⟨d0,f0⟩:=oq.cell 0 V 0 (.int .i64 qs[0].i) rfl;have af:0*txnK.size+0=0:=by omega
   rw[af]at d0 f0;have W:=fun u:Int=>oq.store nq 0 V ⟨u,qs[0].s,qs[0].q,qs[0].va,qs[0].acts⟩ 0 (.int .i64 u) (by decide) rfl rfl (fun w' ho=>ho)
   rw[af]at W;have ak:Hid (∀u:Int,∃q':List TxnQ,q'.length+nmL TxnQ.n q'≤100∧txnK.Own (x5.setCell ⟨g,0,none⟩ (.int .i64 u)) (.slice (some ⟨g,0,none⟩) (n+1) cb) q'∧txnK.Own (x5.setCell ⟨g,0,none⟩ (.int .i64 u)) (.slice D qa.length y) qa∧Below w.heap.size w (x5.setCell ⟨g,0,none⟩ (.int .i64 u))):=fun u=>by
    refine⟨_,?_,(W u).1,d.out (Out.setCell _ _ _ _) (fun k hk A=>by simp only[List.mem_singleton]at A;have:=J.out k hk;omega),c.setCell (p:=⟨g,0,none⟩) (by show w.heap.size≤g;omega) _⟩;have h9:nmL TxnQ.n (qs.set 0 ⟨u,qs[0].s,qs[0].q,qs[0].va,qs[0].acts⟩)=nmL TxnQ.n qs:=by
     cases qs with
     |nil=>rfl
     |cons x r=>rfl
    rw[List.length_set,h9];exact O.out
   generalize qs[0].i=ii at*;clear W E C J nq oq d c
   go_wp2
   obtain⟨q',h1,h2,h3,h4⟩:=ak.out _;exact bodyPost_ret (v:=.tuple #[.slice (some ⟨g,0,none⟩) (n+1) cb,.slice D qa.length y]) (by simp[results,Tryz.results12,go_sem]) rfl ⟨_,_,q',qa,rfl,h1,M.out,h2,h3,h4⟩
theorem z6d(v v':Value)(xs ys:List TxnQ)(w:World)(h:txnK.At w v xs)(h':txnK.Own w v' ys)(hl:xs.length+nmL TxnQ.n xs≤1048576)(y:ys.length+nmL TxnQ.n ys≤1048576):
  Calls Tryz.prog 54 #[v,v'] w fun e w'=>e=.returned (.bool (preT (xs.map TxnQ.e) (ys.map TxnQ.e)))∧Below w.heap.size w w':=by
 obtain⟨a,cap,rfl⟩:=h.shape;obtain⟨a',c,rfl⟩:=h'.shape;obtain⟨hc,x⟩:=h'.cap';unfold preT;rw[List.length_map,List.length_map];by_cases d:xs.length≤ys.length
 ·have hd:decide (xs.length≤ys.length)=true:=decide_eq_true d;rw[hd,Bool.true_and];have hT:=h'.at.take' xs.length d;have hn:nmL TxnQ.n (ys.take xs.length)≤nmL TxnQ.n ys:=z5M TxnQ.n ys xs.length;have hq:=z16 (.slice a xs.length cap) (.slice a' xs.length c) (xs.map TxnQ.e) ((ys.take xs.length).map TxnQ.e) w (z0o h) (z0o hT) (by rw[List.length_map,z07];omega) (by rw[List.length_map,z07,List.length_take];omega);rw[List.map_take]at hq;generalize sameTs (xs.map TxnQ.e) ((ys.map TxnQ.e).take xs.length)=E at*;have r:(xs.length:Int)≤(ys.length:Int):=by omega
  have A:xs.length≤c:=by omega
  have s:(xs.length:Int)≤(c:Int):=by omega
  have z:(0:Int)≤(xs.length:Int):=by omega
  clear hT hn hd;go_enter Tryz.func54,Tryz.ntmps54
  go_wp2_with fail
  refine hq.mono ?_;rintro e w2 ⟨rfl,q⟩
  go_wp2
  go_ret;exact⟨rfl,q⟩
 ·have hd:decide (xs.length≤ys.length)=false:=decide_eq_false d;rw[hd,Bool.false_and];have r:¬(xs.length:Int)≤(ys.length:Int):=by omega
  clear hd;go_enter Tryz.func54,Tryz.ntmps54
  go_wp2
  go_ret;exact⟨rfl,Below.refl _ _⟩
theorem z3L(v v':Value)(xs ys:List TxnQ)(w:World)(h:txnK.At w v xs)(h':txnK.Own w v' ys)(hl:xs.length+nmL TxnQ.n xs≤1048576)(hl':ys.length+nmL TxnQ.n ys≤1048576):
  Calls Tryz.prog 18 #[v,v'] w fun e w'=>e=.returned (.bool (preT (xs.map TxnQ.e) (ys.map TxnQ.e)))∧Below w.heap.size w w':=by
 have hq:=z6d v v' xs ys w h h' hl hl';obtain⟨a,cap,rfl⟩:=h.shape;obtain⟨a',cap',rfl⟩:=h'.shape;generalize preT (xs.map TxnQ.e) (ys.map TxnQ.e)=E at*;go_enter Tryz.func18,Tryz.ntmps18
 go_wp2_with fail
 refine hq.mono ?_;rintro e w2 ⟨rfl,hb2⟩
 go_wp2
 go_ret;exact⟨rfl,hb2⟩
end Go.Proofs.YtciofogeiohleaaGreatDoor
