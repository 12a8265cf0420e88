import Derived.Test.YtjjoahhnkpjolaaGreatDoorONBI
import Derived.Test.YtjjoahhnkpjolaaGreatDoorONBJ
set_option linter.unusedVariables false
set_option linter.unusedSimpArgs false
set_option maxRecDepth 100000
set_option maxHeartbeats 8000000
namespace Go.Proofs.YtjjoahhnkpjolaaGreatDoor
open Go.RowKit Go.BigFrame
open InstQ renaming e->P
open List renaming mem_singleton->s,getElem_mem->i
open Out renaming of_below->l,setCell->o
open IntKind renaming i64->Q
open Value renaming int->H,slice->G
open Go.Proofs.Tryz
def q4t(w w':World)(D:Int)(x:CluE)(e:Ending):Prop:=
 (D≠0∧e=.returned (.tuple #[.pointer none,H Q D])∧Below w.heap.size w w')∨
 (D=0∧∃ (g:Nat) (q:CluQ),e=.returned (.tuple #[.pointer (some ⟨g,0,none⟩),H Q 0])∧Blk w' g 31 #[q.vo,q.vm]∧q.e=x∧cluK.own w' q∧(cluK.foot q).Nodup∧(∀k∈cluK.foot q,w.heap.size≤k∧k≠g)∧w.heap.size≤g∧Below w.heap.size w w')
theorem q6x:(Tryz.prog.info? 31).map (·.size)=some 2:=by kernel_rfl
theorem z6z(p:CluQ)(w:World)(hG:Rul w)(hT:ErrT w)(h:cluK.own w p)(hl:p.n≤1048576):
  Calls Tryz.prog 31 #[.agg #[p.vo,p.vm]] w fun e w'=>q4t w w' (cluF p.e) p.e e:=by
 have hf:=fun w hG hT h=>z3k p w hG hT h hl
 have ai:=fun(w':World) (hb:Below w.heap.size w w')=>cluK.own_out (F:=[]) (w':=w') h (l hb) (fun _ _=>by simp)
 obtain⟨vo,J,vm,E⟩:=p;obtain⟨a0,k0,rfl⟩:∃a c,vo=G a J.length c:=h.1.shape;obtain⟨a1,k1,rfl⟩:∃a c,vm=G a E.length c:=h.2.shape;have br:J.length+nmL InstQ.n J≤1048576:=by dsimp only[CluQ.n]at hl;omega
 have aL:E.length+nmL NodeQ.n E≤1048576:=by dsimp only[CluQ.n]at hl;omega
 obtain⟨ho,hm⟩:instK.Own w (G a0 J.length k0) J∧nodeK.Own w (G a1 E.length k1) E:=h;have be:CluQ.e ⟨G a0 J.length k0,J,G a1 E.length k1,E⟩=⟨J.map P,E.map NodeQ.e⟩:=rfl;rw[be]at hf⊢;have am:=fun(hz:cluF (⟨J.map P,E.map NodeQ.e⟩:CluE)=0) p (hp:p∈J)=>z5I (p:=p) (z1L (z3e hz).1 _ (List.mem_map.2 ⟨p,hp,rfl⟩))
 have aq:=fun(hz:cluF (⟨J.map P,E.map NodeQ.e⟩:CluE)=0) (p:NodeQ) (hp:p∈E) w hr=>z7V p.kn p.sf p.r w hr (by have h1:NodeQ.n p≤nmL NodeQ.n E:=q4r NodeQ.n E p hp;have h2:NodeQ.n p=p.r.n:=rfl;omega) (q5N (z7U ((z3e hz).2.2 _ (List.mem_map.2 ⟨p,hp,rfl⟩))).2.2.2.1)
 have a7:=fun w h am=>z3q (G a0 J.length k0) J w h am br
 clear be hl;dsimp only at hf ai;generalize hx:(⟨J.map P,E.map NodeQ.e⟩:CluE)=x at*;have HX:Hid ((⟨J.map P,E.map NodeQ.e⟩:CluE)=x):=hx;generalize cluF x=D at*;clear hx;have ao:Hid _:=am;have an:Hid _:=aq;have aG:Hid _:=a7;clear am aq a7;have b0:Below w.heap.size w (w.alloc (.cells #[G a0 J.length k0,G a1 E.length k1] 31)):=by go_grown
 have A0:=Blk.new w 31 #[G a0 J.length k0,G a1 E.length k1];obtain⟨c0,c1⟩:=A0.cel2;go_enter func31,ntmps31
 go_wp2_with fail
 clear c0 c1;generalize w.alloc (.cells #[G a0 J.length k0,G a1 E.length k1] 31)=W at*;refine(hf W (hG.below b0) (hT.below b0) (ai W b0)).mono ?_;rintro e w1 ⟨rfl,hb⟩;replace A0:=A0.below hb;replace b0:=b0.trans (hb.mono b0.size);clear hb hf ai;by_cases hD:D=0
 case neg=>
  have aW:(D !=0)=true:=by simpa using hD
  have bl:Hid (D≠0):=hD;clear hD ao an aG
  go_wp2
  exact bodyPost_ret (v:=.tuple #[.pointer none,H Q D]) (by simp[results,results31,go_sem]) rfl (Or.inl ⟨bl.out,rfl,b0⟩)
 have aW:(D !=0)=false:=by simp[hD]
 have bn:Hid (D=0):=hD;have aq:=an.out hD;have bj:Hid _:=aq;have aC:Hid _:=ao.out hD;clear aq an ao hD;have c0:=A0.cell 0 _ rfl
 go_wp2_with fail
 clear c0 aW;refine(aG.out w1 (ho.at.below b0) aC.out).mono ?_;rintro e w2 ⟨bT,os,rfl,eo,oo,no,lo,hb⟩;obtain⟨z0,z1,rfl⟩:=oo.shape;replace A0:=A0.below hb;have bf:∀k∈instK.fp (G z0 os.length z1) os,w.heap.size≤k:=fun k hk=>Nat.le_trans b0.size (lo k hk)
 replace b0:=b0.trans (hb.mono b0.size);clear hb aG aC lo;have Bg:=Blk.new w2 31 #[G z0 os.length z1,G none 0 0];have hX:Below w2.heap.size w2 (w2.alloc (.cells #[G z0 os.length z1,G none 0 0] 31)):=by go_grown
 have Lo:=oo.lt;replace oo:=oo.below hX;replace A0:=A0.below hX;have a8:=b0.size;have bX:=b0.trans (hX.mono b0.size);have c1:=A0.cell 1 _ rfl
 go_wp2_with fail
 clear c1 hX b0;generalize w2.alloc (.cells #[G z0 os.length z1,G none 0 0] 31)=X at*;generalize w2.heap.size=g at*;have HQ:Hid (os.map P=J.map P∧instK.Own X (G z0 os.length z1) os∧(instK.fp (G z0 os.length z1) os).Nodup∧(∀k∈instK.fp (G z0 os.length z1) os,w.heap.size≤k)∧∀k∈instK.fp (G z0 os.length z1) os,k<g):=⟨eo,oo,no,bf,Lo⟩
 clear eo oo no bf Lo A0;obtain⟨i0,hi,bw,bx,bz⟩:=info_parts z4n;obtain⟨aL,ba⟩:=Kind.own_nil (K:=nodeK) X;have aQ:Hid ((nodeK.fp (G none 0 0) ([]:List NodeQ)).Nodup∧∀k∈nodeK.fp (G none 0 0) ([]:List NodeQ),X.heap.size≤k):=by
  rw[ba];exact⟨by simp,by simp⟩
 clear ba;have bO:=Bg.lt;have bK:=bX.size;go_loopw[20] (fun j wr=>∃ (k:Nat) (v2:Value) (qs:List NodeQ),k≤E.length∧j=H Q k∧Hid (qs.map NodeQ.e=(E.take k).map NodeQ.e)∧nodeK.Own wr v2 qs∧Hid ((nodeK.fp v2 qs).Nodup∧∀k∈nodeK.fp v2 qs,X.heap.size≤k)∧Hid (Blk wr g 31 #[G z0 os.length z1,v2])∧Hid (Out [g] X wr)) (fun j _=>E.length-(intOf j).toNat)
 case atStart=>exact⟨0,G none 0 0,[],Nat.zero_le _,rfl,(rfl:_=_),aL,aQ,Bg,Out.refl _ _⟩
 case round=>
  clear aQ aL Bg;obtain⟨k,v2,qs,hk,rfl,HE,hO,HN,az,HO⟩:=hrel;obtain⟨sa,sc,rfl⟩:=hO.shape;have ap:Below w.heap.size w wr:=Out.keep bX HO.out bX.size (fun x hx=>by simp only[s]at hx;omega);have bJ:=HO.out.size;have aH:Hid (∀x∈blk (G sa qs.length sc),X.heap.size≤x):=fun x hx=>HN.out.2 x (by simp only[Kind.fp,List.mem_append];exact Or.inl hx)
  by_cases aw:k<E.length
  ·obtain⟨rb,ro,rfl,bN,hc,bu⟩:=(hm.at.below ap).cell (by decide) k aw;have bI:rb<w.heap.size:=by
    obtain⟨bR,bS,e',bG,_,_⟩:=hm.at.cell (by decide) k aw;simp only[Option.some.injEq,Addr.mk.injEq,and_true]at e';omega
   have ah:∀j x,(nodeK.cells E[k])[j]?=some x→wr.cell? ⟨rb,ro+k*7+j,none⟩=some x:=hc;have q0:=ah 0 (H Q E[k].kn) rfl;have q1:=ah 1 (H Q E[k].sf) rfl;have q2:=ah 2 E[k].vd rfl;have q3:=ah 3 E[k].vb rfl;have q4:=ah 4 E[k].vt rfl;have q5:=ah 5 E[k].vu rfl;have q6:=ah 6 E[k].vn rfl;rw[Nat.add_zero]at q0;have bc:repK.own w E[k].r:=hm.2 _ (i aw);have ai:=fun(w':World) (hb:Below w.heap.size w w')=>repK.own_out (F:=[]) (w':=w') bc (l hb) (fun _ _=>by simp)
   have aT:Hid (qs.length≤1048576):=by
    have:=congrArg List.length HE.out;rw[List.length_map,List.length_map,List.length_take]at this;show qs.length≤1048576;omega
   have aS:Hid (∀p':NodeQ,p'.e=NodeQ.e E[k]→(qs++[p']).map NodeQ.e=(E.take (k+1)).map NodeQ.e):=fun p' bt=>by
    rw[List.take_succ_eq_append_getElem aw,List.map_append,List.map_append,HE.out,List.map_singleton,List.map_singleton,bt]
   have ar:=bj.out E[k] (i aw);clear HE hc ah bu bc;generalize E[k]=p at*;obtain⟨kn,sf,vd,done,vb,base,vt,af,vu,L,vn,al⟩:=p;have oq:=ai _ ap;obtain⟨x0,y0,rfl⟩:∃a c,vd=G a done.length c:=oq.1.shape;obtain⟨x1,y1,rfl⟩:∃a c,vb=G a base.length c:=oq.2.1.shape;obtain⟨x2,y2,rfl⟩:∃a c,vt=G a af.length c:=oq.2.2.1.shape;obtain⟨x3,y3,rfl⟩:∃a c,vu=G a L.length c:=oq.2.2.2.1.shape;obtain⟨x4,y4,rfl⟩:∃a c,vn=G a al.length c:=oq.2.2.2.2.shape;clear oq;dsimp only[NodeQ.r]at q0 q1 q2 q3 q4 q5 q6 ar ai;have aU:Hid _:=ai;have aP:Hid _:=ar;clear ai ar;have bH:(k:Int)<(E.length:Int):=by omega
   have hY:Below wr.heap.size wr (wr.alloc (.cells #[H Q kn,H Q sf,G x0 done.length y0,G x1 base.length y1,G x2 af.length y2,G x3 L.length y3,G x4 al.length y4] 58)):=by go_grown
   have Bn:=Blk.new wr 58 #[H Q kn,H Q sf,G x0 done.length y0,G x1 base.length y1,G x2 af.length y2,G x3 L.length y3,G x4 al.length y4];have aX:=hO.below hY;have aF:Hid (Blk (wr.alloc (.cells #[H Q kn,H Q sf,G x0 done.length y0,G x1 base.length y1,G x2 af.length y2,G x3 L.length y3,G x4 al.length y4] 58)) g 31 #[G z0 os.length z1,G sa qs.length sc]):=az.out.below hY;have aV:=ap.trans (hY.mono ap.size);have hF:Hid (∀x∈nodeK.fp (G sa qs.length sc) qs,x<wr.heap.size):=hO.lt;have aj:Hid (Out [g] X (wr.alloc (.cells #[H Q kn,H Q sf,G x0 done.length y0,G x1 base.length y1,G x2 af.length y2,G x3 L.length y3,G x4 al.length y4] 58))):=HO.out.trans (l hY);have bM:=hY.size;have bp:=Bn.lt
   go_wp2_with fail
   clear q0 q1 q2 q3 q4 q5 q6 hO az HO hY;generalize bL:wr.alloc (.cells #[H Q kn,H Q sf,G x0 done.length y0,G x1 base.length y1,G x2 af.length y2,G x3 L.length y3,G x4 al.length y4] 58)=Y at*;have bP:wr.heap.size<Y.heap.size:=bp;have aI:g∉blk (G sa qs.length sc):=fun hx=>by have:=aH.out g hx;omega
   have ak:wr.heap.size∉blk (G sa qs.length sc):=fun hx=>by have:=hF.out wr.heap.size (by simp only[Kind.fp,List.mem_append];exact Or.inl hx);omega
   have m0:=z0l (F:=blk (G sa qs.length sc)) (aF.out.cell 1 _ rfl) aI;have g0:=z0l (F:=blk (G sa qs.length sc)) (Bn.cell 0 _ rfl) ak;have g1:=z0l (F:=blk (G sa qs.length sc)) (Bn.cell 1 _ rfl) ak;have g2:=z0l (F:=blk (G sa qs.length sc)) (Bn.cell 2 _ rfl) ak;have g3:=z0l (F:=blk (G sa qs.length sc)) (Bn.cell 3 _ rfl) ak;have g4:=z0l (F:=blk (G sa qs.length sc)) (Bn.cell 4 _ rfl) ak;have g5:=z0l (F:=blk (G sa qs.length sc)) (Bn.cell 5 _ rfl) ak;have g6:=z0l (F:=blk (G sa qs.length sc)) (Bn.cell 6 _ rfl) ak;have bs:Nonempty (LatO (blk (G sa qs.length sc)) Y):=⟨⟨Y,Out.refl _ _⟩⟩
   have hW:Below Y.heap.size Y Y.drew:=(Below.refl _ _).drew;have aB:∀w',Below Y.heap.size Y w'→∃u:LatO (blk (G sa qs.length sc)) Y,w'=u.val:=fun w' bv=>⟨⟨w',l bv⟩,rfl⟩
   refine z3X (S:=fun w'=>∃u:LatO (blk (G sa qs.length sc)) Y,w'=u.val) (R:=fun _ _=>False) 7 (by kernel_rfl) (fun _ _ _ _ h=>h.elim) ?_;refine sgX [(0,3)] 5 (by kernel_rfl) (aB _ hW) ?_;simp only[pkE];repeat go_big_quiet_step (fail)
   refine wpQuiet_nil ?_;refine clX 3 (some 27) 56 #[.agg #[H Q kn,H Q sf,G x0 done.length y0,G x1 base.length y1,G x2 af.length y2,G x3 L.length y3,G x4 al.length y4]] 4 (by kernel_rfl) rfl ?_;refine(aP.out _ (aU.out _ (aV.trans (hW.mono aV.size)))).mono ?_;rintro e w9 ⟨q,rfl,eq,oq,nq,gq,a6⟩;have LA:∀x∈repK.foot q,Y.heap.size≤x:=fun x hx=>by have:=gq x hx;have:=hW.size;omega
   replace hW:=hW.trans (a6.mono hW.size);clear a6 gq;obtain⟨bC,A,bB,z,bE,C,bF,d,bD,I⟩:=q;obtain⟨M,V,rfl⟩:∃a c,bC=G a A.length c:=oq.1.shape;obtain⟨N,aa,rfl⟩:∃a c,bB=G a z.length c:=oq.2.1.shape;obtain⟨O,ab,rfl⟩:∃a c,bE=G a C.length c:=oq.2.2.1.shape;obtain⟨T,ad,rfl⟩:∃a c,bF=G a d.length c:=oq.2.2.2.1.shape;obtain⟨U,ae,rfl⟩:∃a c,bD=G a I.length c:=oq.2.2.2.2.shape;refine Or.inl ⟨_,rfl,aB _ hW,?_⟩;simp only[Act.put,pgE,pjE];refine onX 4 3 rfl (by kernel_rfl) ?_;have aK:Below w9.heap.size w9 (w9.alloc (.cells #[H Q kn,H Q sf,G M A.length V,G N z.length aa,G O C.length ab,G T d.length ad,G U I.length ae] 58)):=by go_grown
   replace hW:=hW.trans (aK.mono hW.size);replace oq:=repK.own_out (F:=[]) oq (l aK) (fun _ _=>by simp);have aE:∀j u,([H Q kn,H Q sf,G M A.length V,G N z.length aa,G O C.length ab,G T d.length ad,G U I.length ae]:List Value)[j]?=some u→(w9.alloc (.cells #[H Q kn,H Q sf,G M A.length V,G N z.length aa,G O C.length ab,G T d.length ad,G U I.length ae] 58)).cell? ((⟨w9.heap.size,0,none⟩:Addr).add j)=some u:=by
    intro j u hj;match j,hj with|0,hj=>simp at hj;subst hj;simp[Addr.add]|1,hj=>simp at hj;subst hj;simp[Addr.add]|2,hj=>simp at hj;subst hj;simp[Addr.add]|3,hj=>simp at hj;subst hj;simp[Addr.add]|4,hj=>simp at hj;subst hj;simp[Addr.add]|5,hj=>simp at hj;subst hj;simp[Addr.add]|6,hj=>simp at hj;subst hj;simp[Addr.add]
   go_wp2
   refine ThenX.to ⟨Or.inr (aB _ hW),?_⟩;generalize w9.alloc (.cells #[H Q kn,H Q sf,G M A.length V,G N z.length aa,G O C.length ab,G T d.length ad,G U I.length ae] 58)=Z at*;clear aK;have aJ:=aX.below hW;have ax:=aJ.1;have bQ:=hW.size;refine onX 5 2 rfl (by kernel_rfl) ?_;refine wpList_append_own_at _ rfl _ _ 29 rfl 0 58 i0 (.agg #[H Q 0,H Q 0,G none 0 0,G none 0 0,G none 0 0,G none 0 0,G none 0 0]) 7 136 Tryz.underlying29 hi bw bx bz rfl (by decide) _ qs.length (nodeK.row qs) rfl ax ⟨w9.heap.size,0,none⟩ 1 1 [H Q kn,H Q sf,G M A.length V,G N z.length aa,G O C.length ab,G T d.length ad,G U I.length ae] rfl rfl aE ?c2 ?c3 ?c4 ?c5 ?_
   case c2=>intro u hu;simp at hu;rcases hu with rfl|rfl|rfl|rfl|rfl|rfl|rfl<;>rfl
   case c3=>have:=aT.out;unfold maxLen;omega
   case c4=>have:=aT.out;omega
   case c5=>omega
   intro v' w5 aD au bb a2;clear bb ax aE;obtain ⟨aA,aM,av,bd⟩:=aJ.snoc (p:=⟨kn,sf,G M A.length V,A,G N z.length aa,z,G O C.length ab,C,G T d.length ad,d,G U I.length ae,I⟩) (B:=X.heap.size) HN.out.1 HN.out.2 (show nodeK.own _ (⟨kn,sf,G M A.length V,A,G N z.length aa,z,G O C.length ab,C,G T d.length ad,d,G U I.length ae,I⟩:NodeQ) from oq) (show (nodeK.foot (⟨kn,sf,G M A.length V,A,G N z.length aa,z,G O C.length ab,C,G T d.length ad,d,G U I.length ae,I⟩:NodeQ)).Nodup from nq) (fun x hx aN => by
    have:=hF.out x aN;have:=LA x hx;omega) (fun x hx=>by have:=LA x hx;omega) (by omega) aD au a2
   obtain⟨na,nc,rfl⟩:=aA.shape;rw[List.length_append,List.length_singleton]at aA aM av;have ag:Out (blk (G sa qs.length sc)) Y w5:=(l hW).trans bd;have ay:Blk w5 g 31 #[G z0 os.length z1,G sa qs.length sc]:=(ag.block g (by omega) aI).trans aF.out;have bk:Hid ((qs++[(⟨kn,sf,G M A.length V,A,G N z.length aa,z,G O C.length ab,C,G T d.length ad,d,G U I.length ae,I⟩:NodeQ)]).map NodeQ.e=(E.take (k+1)).map NodeQ.e):=aS.out _ (by show(⟨_,_,_⟩:NodeE)=_;exact congrArg (NodeE.mk kn sf) eq);have aR:Hid ((nodeK.fp (G na (qs.length+1) nc) (qs++[(⟨kn,sf,G M A.length V,A,G N z.length aa,z,G O C.length ab,C,G T d.length ad,d,G U I.length ae,I⟩:NodeQ)])).Nodup∧∀k∈nodeK.fp (G na (qs.length+1) nc) (qs++[(⟨kn,sf,G M A.length V,A,G N z.length aa,z,G O C.length ab,C,G T d.length ad,d,G U I.length ae,I⟩:NodeQ)]),X.heap.size≤k):=⟨aM,av⟩
   have aY:Out [g] X w5:=by
    refine⟨ag.os.trans aj.out.os,ag.tape.trans aj.out.tape,ag.output.trans aj.out.output,by have:=aj.out.size;exact Nat.le_trans this ag.size,fun x hx hn=>?_⟩;exact(ag.block x (by have:=aj.out.size;omega) (fun aN=>by have:=aH.out x aN;omega)).trans (aj.out.block x hx hn)
   clear aM av bd aS HN hF oq LA nq aD au a2 aJ aX m0 g0 g1 g2 g3 g4 g5 g6 eq
   go_wp2
   refine ThenX.to ⟨Or.inr ⟨⟨_,ag⟩,rfl⟩,?_⟩;simp only[Act.put,pgE,pjE];refine onX 6 1 rfl (by kernel_rfl) ?_
   go_wp2
   refine ThenX.to ⟨Or.inr ⟨⟨_,ag⟩,rfl⟩,?_⟩;refine onX 7 0 rfl (by kernel_rfl) ?_;have t3:=ay.cell 1 _ rfl;have t4:=ay.frozen 1;have aO:=ay.set 1 (G na (qs.length+1) nc);have bo:=aA.out (o w5 g 1 (G na (qs.length+1) nc)) (fun x hx=>by have:=aR.out.2 x hx;simp only[s];omega);have aZ:Out [g] X (w5.setCell ⟨g,1,none⟩ (G na (qs.length+1) nc)):=aY.trans (o w5 g 1 _);have bh:Hid (Blk (w5.setCell ⟨g,1,none⟩ (G na (qs.length+1) nc)) g 31 #[G z0 os.length z1,G na (qs.length+1) nc]):=aO;have bm:Hid (Out [g] X (w5.setCell ⟨g,1,none⟩ (G na (qs.length+1) nc))):=aZ;clear aO aZ aY aA ay aF aj;generalize qs++[(⟨kn,sf,G M A.length V,A,G N z.length aa,z,G O C.length ab,C,G T d.length ad,d,G U I.length ae,I⟩:NodeQ)]=bA at*
   go_wp2
   refine ThenX.to ⟨Or.inl (by kernel_rfl),?_⟩;refine q31 (by kernel_rfl) ?_;clear t3 t4 ag bs aB aI aP aU;generalize w5.setCell ⟨g,1,none⟩ (G na (qs.length+1) nc)=w6 at*
   go_wp2
   go_roundw
   case rel=>exact⟨k+1,_,bA,by omega,by go_num,bk,bo,aR,bh,bm⟩
   case measure=>simp[intOf];omega
  ·have bq:k=E.length:=by omega
   subst bq;have hE:=HE.out;rw[List.take_length]at hE;obtain⟨eo,oo,no,lo,Lo⟩:=HQ.out;have bg:instK.Own wr (G z0 os.length z1) os:=oo.out HO.out (fun x hx=>by simp only[s];have:=Lo x hx;omega);have HR:Hid (CluQ.e (⟨G z0 os.length z1,os,G sa qs.length sc,qs⟩:CluQ)=⟨J.map P,E.map NodeQ.e⟩∧cluK.own wr (⟨G z0 os.length z1,os,G sa qs.length sc,qs⟩:CluQ)∧(cluK.foot (⟨G z0 os.length z1,os,G sa qs.length sc,qs⟩:CluQ)).Nodup∧∀k∈cluK.foot (⟨G z0 os.length z1,os,G sa qs.length sc,qs⟩:CluQ),w.heap.size≤k∧k≠g):=by
    refine⟨by simp only[CluQ.e,eo,hE],⟨bg,hO⟩,?_,fun x hx=>?_⟩
    ·refine List.nodup_append.2 ⟨no,HN.out.1,fun x hx y hy e=>?_⟩;have:=Lo x hx;have:=HN.out.2 y hy;omega
    ·rcases List.mem_append.1 hx with hx|hx
     ·have:=Lo x hx;have:=lo x hx;omega
     ·have:=HN.out.2 x hx;omega
   clear HE hE oo no lo Lo bg hO HN HQ aH eo;have bi:Hid (Blk wr g 31 #[G z0 os.length z1,G sa qs.length sc]):=az.out;clear az HO
   go_wp2
   exact bodyPost_ret (v:=.tuple #[.pointer (some ⟨g,0,none⟩),H Q 0]) (by simp[results,results31,go_sem]) rfl (Or.inr ⟨bn.out,g,_,rfl,bi.out,HR.out.1.trans HX.out,HR.out.2.1,HR.out.2.2.1,HR.out.2.2.2,a8,ap⟩)
theorem z92(p:CluQ)(w:World)(h:cluK.own w p)(hz:cluF p.e=0)(hl:p.n≤1048576):
  Calls Tryz.prog 54 #[.agg #[p.vo,p.vm]] w fun e w'=>∃q:CluQ,e=.returned (.agg #[q.vo,q.vm])∧q.e=p.e∧cluK.own w' q∧(cluK.foot q).Nodup∧(∀k∈cluK.foot q,w.heap.size≤k)∧Below w.heap.size w w':=by
 obtain⟨vo,I,vm,D⟩:=p;obtain⟨a0,k0,rfl⟩:∃a c,vo=G a I.length c:=h.1.shape;obtain⟨a1,k1,rfl⟩:∃a c,vm=G a D.length c:=h.2.shape;have bh:I.length+nmL InstQ.n I≤1048576:=by dsimp only[CluQ.n]at hl;omega
 have aD:D.length+nmL NodeQ.n D≤1048576:=by dsimp only[CluQ.n]at hl;omega
 obtain⟨ho,hm⟩:instK.Own w (G a0 I.length k0) I∧nodeK.Own w (G a1 D.length k1) D:=h;have aZ:CluQ.e ⟨G a0 I.length k0,I,G a1 D.length k1,D⟩=⟨I.map P,D.map NodeQ.e⟩:=rfl;rw[aZ]at hz⊢;have av:Hid (∀p∈I,(∀t∈p.batch,0<t.acts.length)∧(∀r∈p.rounds,0<r.rep.length∧0<r.pro.length)∧0<p.dec.length):=fun p hp=>z5I (z1L (z3e hz).1 _ (List.mem_map.2 ⟨p,hp,rfl⟩))
 have aU:=fun(p:NodeQ) (hp:p∈D) w hr=>z90 p.kn p.sf p.r w hr (z7U ((z3e hz).2.2 _ (List.mem_map.2 ⟨p,hp,rfl⟩))).2.2.2.1
 have aV:=fun w h=>z6S (G a0 I.length k0) I w h av.out bh
 clear aZ hl hz;generalize hx:(⟨I.map P,D.map NodeQ.e⟩:CluE)=x at*;have HX:Hid ((⟨I.map P,D.map NodeQ.e⟩:CluE)=x):=hx;clear hx av;have a8:Hid _:=aU;have aJ:Hid _:=aV;clear aU aV;have b0:Below w.heap.size w ((w.alloc (.cells #[G a0 I.length k0,G a1 D.length k1] 31)).alloc (.cells #[G none 0 0,G none 0 0] 31)):=by go_grown
 have A0:=(Blk.new w 31 #[G a0 I.length k0,G a1 D.length k1]).below (w':=(w.alloc (.cells #[G a0 I.length k0,G a1 D.length k1] 31)).alloc (.cells #[G none 0 0,G none 0 0] 31)) (by go_grown);have R0:=Blk.new (w.alloc (.cells #[G a0 I.length k0,G a1 D.length k1] 31)) 31 #[G none 0 0,G none 0 0];have aB:((w.alloc (.cells #[G a0 I.length k0,G a1 D.length k1] 31)).alloc (.cells #[G none 0 0,G none 0 0] 31)).heap.size=w.heap.size+2:=by simp only[World.size_alloc]
 simp only[World.size_alloc]at R0;have c0:=A0.cell 0 _ rfl;go_enter func54,ntmps54
 go_wp2_with fail
 clear c0;generalize (w.alloc (.cells #[G a0 I.length k0,G a1 D.length k1] 31)).alloc (.cells #[G none 0 0,G none 0 0] 31)=W at*;refine(aJ.out W (ho.at.below b0)).mono ?_;rintro e w2 ⟨bG,os,rfl,eo,oo,no,lo,hb⟩;obtain⟨z0,z1,rfl⟩:=oo.shape;replace A0:=A0.below hb;replace R0:=R0.below hb;rw[aB]at lo;have bf:=hb.size;rw[aB]at bf;replace b0:=b0.trans (hb.mono b0.size);clear hb aJ aB;have Bg:=Blk.new w2 31 #[G z0 os.length z1,G none 0 0];have hX:Below w2.heap.size w2 (w2.alloc (.cells #[G z0 os.length z1,G none 0 0] 31)):=by go_grown
 have Lo:=oo.lt;replace oo:=oo.below hX;have AX:=A0.below hX;have RX:=R0.below hX;have bX:=b0.trans (hX.mono b0.size)
 go_wp2_with fail
 clear hX b0 A0 R0;generalize w2.alloc (.cells #[G z0 os.length z1,G none 0 0] 31)=X at*;generalize w2.heap.size=g at*;have HQ:Hid (os.map P=I.map P∧instK.Own X (G z0 os.length z1) os∧(instK.fp (G z0 os.length z1) os).Nodup∧(∀k∈instK.fp (G z0 os.length z1) os,w.heap.size+2≤k)∧∀k∈instK.fp (G z0 os.length z1) os,k<g):=⟨eo,oo,no,lo,Lo⟩
 clear eo oo no lo Lo;obtain⟨i0,hi,bm,bn,bo⟩:=info_parts z4n;obtain⟨aD,aW⟩:=Kind.own_nil (K:=nodeK) X;have aK:Hid ((nodeK.fp (G none 0 0) ([]:List NodeQ)).Nodup∧∀k∈nodeK.fp (G none 0 0) ([]:List NodeQ),X.heap.size≤k):=by
  rw[aW];exact⟨by simp,by simp⟩
 clear aW;have bC:=Bg.lt;have bA:=bX.size;go_loopw[4] (fun j wr=>∃ (k:Nat) (v2:Value) (qs:List NodeQ),k≤D.length∧j=H Q k∧Hid (qs.map NodeQ.e=(D.take k).map NodeQ.e)∧nodeK.Own wr v2 qs∧Hid ((nodeK.fp v2 qs).Nodup∧∀k∈nodeK.fp v2 qs,X.heap.size≤k)∧Hid (Blk wr g 31 #[G z0 os.length z1,v2])∧Hid (Out [g] X wr)) (fun j _=>D.length-(intOf j).toNat)
 case atStart=>exact⟨0,G none 0 0,[],Nat.zero_le _,rfl,(rfl:_=_),aD,aK,Bg,Out.refl _ _⟩
 case round=>
  clear aK aD Bg;obtain⟨k,v2,qs,hk,rfl,HE,hO,HN,af,HO⟩:=hrel;obtain⟨sa,sc,rfl⟩:=hO.shape;have ah:Below w.heap.size w wr:=Out.keep bX HO.out bX.size (fun x hx=>by simp only[s]at hx;omega);have bz:=HO.out.size;have aG:Blk wr w.heap.size 31 #[G a0 I.length k0,G a1 D.length k1]:=(HO.out.block _ AX.lt (by simp only[s];omega)).trans AX;have b1:=aG.cell 1 _ rfl;have ag:Hid (∀x∈blk (G sa qs.length sc),X.heap.size≤x):=fun x hx=>HN.out.2 x (by simp only[Kind.fp,List.mem_append];exact Or.inl hx)
  by_cases al:k<D.length
  ·obtain⟨rb,ro,rfl,bB,hc,bk⟩:=(hm.at.below ah).cell (by decide) k al;have bx:rb<w.heap.size:=by
    obtain⟨bE,bF,e',bv,_,_⟩:=hm.at.cell (by decide) k al;simp only[Option.some.injEq,Addr.mk.injEq,and_true]at e';omega
   have ad:∀j x,(nodeK.cells D[k])[j]?=some x→wr.cell? ⟨rb,ro+k*7+j,none⟩=some x:=hc;have q0:=ad 0 (H Q D[k].kn) rfl;have q1:=ad 1 (H Q D[k].sf) rfl;have q2:=ad 2 D[k].vd rfl;have q3:=ad 3 D[k].vb rfl;have q4:=ad 4 D[k].vt rfl;have q5:=ad 5 D[k].vu rfl;have q6:=ad 6 D[k].vn rfl;rw[Nat.add_zero]at q0;have aY:repK.own w D[k].r:=hm.2 _ (i al);have au:=fun(w':World) (hb:Below w.heap.size w w')=>repK.own_out (F:=[]) (w':=w') aY (l hb) (fun _ _=>by simp)
   have aN:Hid (qs.length≤1048576):=by
    have:=congrArg List.length HE.out;rw[List.length_map,List.length_map,List.length_take]at this;show qs.length≤1048576;omega
   have aM:Hid (∀p':NodeQ,p'.e=NodeQ.e D[k]→(qs++[p']).map NodeQ.e=(D.take (k+1)).map NodeQ.e):=fun p' bj=>by
    rw[List.take_succ_eq_append_getElem al,List.map_append,List.map_append,HE.out,List.map_singleton,List.map_singleton,bj]
   have ai:=a8.out D[k] (i al);clear HE hc ad bk aY;generalize D[k]=p at*;obtain⟨kn,sf,vd,done,vb,base,vt,ay,vu,ao,vn,a2⟩:=p;have oq:=au _ ah;obtain⟨x0,y0,rfl⟩:∃a c,vd=G a done.length c:=oq.1.shape;obtain⟨x1,y1,rfl⟩:∃a c,vb=G a base.length c:=oq.2.1.shape;obtain⟨x2,y2,rfl⟩:∃a c,vt=G a ay.length c:=oq.2.2.1.shape;obtain⟨x3,y3,rfl⟩:∃a c,vu=G a ao.length c:=oq.2.2.2.1.shape;obtain⟨x4,y4,rfl⟩:∃a c,vn=G a a2.length c:=oq.2.2.2.2.shape;clear oq;dsimp only[NodeQ.r]at q0 q1 q2 q3 q4 q5 q6 ai au;have aO:Hid _:=au;have aI:Hid _:=ai;clear au ai;have bw:(k:Int)<(D.length:Int):=by omega
   have hF:Hid (∀x∈nodeK.fp (G sa qs.length sc) qs,x<wr.heap.size):=hO.lt;have az:g∉blk (G sa qs.length sc):=fun hx=>by have:=ag.out g hx;omega
   have bd:w.heap.size∉blk (G sa qs.length sc):=fun hx=>by have:=ag.out _ hx;omega
   have ae:rb∉blk (G sa qs.length sc):=fun hx=>by have:=ag.out rb hx;omega
   have m0:=z0l (F:=blk (G sa qs.length sc)) (af.out.cell 1 _ rfl) az;have m1:=z0l (F:=blk (G sa qs.length sc)) b1 bd;have g0:=z0l (F:=blk (G sa qs.length sc)) q0 ae;have g1:=z0l (F:=blk (G sa qs.length sc)) q1 ae;have g2:=z0l (F:=blk (G sa qs.length sc)) q2 ae;have g3:=z0l (F:=blk (G sa qs.length sc)) q3 ae;have g4:=z0l (F:=blk (G sa qs.length sc)) q4 ae;have g5:=z0l (F:=blk (G sa qs.length sc)) q5 ae;have g6:=z0l (F:=blk (G sa qs.length sc)) q6 ae;clear q0 q1 q2 q3 q4 q5 q6
   go_wp2_with fail
   clear b1;have bi:Nonempty (LatO (blk (G sa qs.length sc)) wr):=⟨⟨wr,Out.refl _ _⟩⟩
   have hW:Below wr.heap.size wr wr.drew:=(Below.refl _ _).drew;have ar:∀w',Below wr.heap.size wr w'→∃u:LatO (blk (G sa qs.length sc)) wr,w'=u.val:=fun w' bl=>⟨⟨w',l bl⟩,rfl⟩
   refine z3X (S:=fun w'=>∃u:LatO (blk (G sa qs.length sc)) wr,w'=u.val) (R:=fun _ _=>False) 11 (by kernel_rfl) (fun _ _ _ _ h=>h.elim) ?_;refine sgX [(0,7)] 5 (by kernel_rfl) (ar _ hW) ?_;simp only[pkE];repeat go_big_quiet_step (fail)
   refine wpQuiet_nil ?_;refine clX 7 (some 23) 95 #[.agg #[H Q kn,H Q sf,G x0 done.length y0,G x1 base.length y1,G x2 ay.length y2,G x3 ao.length y3,G x4 a2.length y4]] 4 (by kernel_rfl) rfl ?_;refine(aI.out _ (aO.out _ (ah.trans (hW.mono ah.size)))).mono ?_;rintro e w9 ⟨q,rfl,eq,oq,nq,gq,aT⟩;have LA:∀x∈repK.foot q,wr.heap.size≤x:=fun x hx=>by have:=gq x hx;have:=hW.size;omega
   replace hW:=hW.trans (aT.mono hW.size);clear aT gq;obtain⟨br,A,bq,z,bt,C,bu,d,bs,E⟩:=q;obtain⟨J,T,rfl⟩:∃a c,br=G a A.length c:=oq.1.shape;obtain⟨L,U,rfl⟩:∃a c,bq=G a z.length c:=oq.2.1.shape;obtain⟨M,V,rfl⟩:∃a c,bt=G a C.length c:=oq.2.2.1.shape;obtain⟨N,Y,rfl⟩:∃a c,bu=G a d.length c:=oq.2.2.2.1.shape;obtain⟨O,aa,rfl⟩:∃a c,bs=G a E.length c:=oq.2.2.2.2.shape;refine Or.inl ⟨_,rfl,ar _ hW,?_⟩;simp only[Act.put,pgE,pjE];refine onX 8 3 rfl (by kernel_rfl) ?_;have aC:Below w9.heap.size w9 (w9.alloc (.cells #[H Q kn,H Q sf,G J A.length T,G L z.length U,G M C.length V,G N d.length Y,G O E.length aa] 58)):=by go_grown
   replace hW:=hW.trans (aC.mono hW.size);replace oq:=repK.own_out (F:=[]) oq (l aC) (fun _ _=>by simp);have ax:∀j u,([H Q kn,H Q sf,G J A.length T,G L z.length U,G M C.length V,G N d.length Y,G O E.length aa]:List Value)[j]?=some u→(w9.alloc (.cells #[H Q kn,H Q sf,G J A.length T,G L z.length U,G M C.length V,G N d.length Y,G O E.length aa] 58)).cell? ((⟨w9.heap.size,0,none⟩:Addr).add j)=some u:=by
    intro j u hj;match j,hj with|0,hj=>simp at hj;subst hj;simp[Addr.add]|1,hj=>simp at hj;subst hj;simp[Addr.add]|2,hj=>simp at hj;subst hj;simp[Addr.add]|3,hj=>simp at hj;subst hj;simp[Addr.add]|4,hj=>simp at hj;subst hj;simp[Addr.add]|5,hj=>simp at hj;subst hj;simp[Addr.add]|6,hj=>simp at hj;subst hj;simp[Addr.add]
   go_wp2
   refine ThenX.to ⟨Or.inr (ar _ hW),?_⟩;generalize w9.alloc (.cells #[H Q kn,H Q sf,G J A.length T,G L z.length U,G M C.length V,G N d.length Y,G O E.length aa] 58)=Z at*;clear aC;have aA:=hO.below hW;have an:=aA.1;have bD:=hW.size;refine onX 9 2 rfl (by kernel_rfl) ?_;refine wpList_append_own_at _ rfl _ _ 29 rfl 0 58 i0 (.agg #[H Q 0,H Q 0,G none 0 0,G none 0 0,G none 0 0,G none 0 0,G none 0 0]) 7 136 Tryz.underlying29 hi bm bn bo rfl (by decide) _ qs.length (nodeK.row qs) rfl an ⟨w9.heap.size,0,none⟩ 1 1 [H Q kn,H Q sf,G J A.length T,G L z.length U,G M C.length V,G N d.length Y,G O E.length aa] rfl rfl ax ?c2 ?c3 ?c4 ?c5 ?_
   case c2=>intro u hu;simp at hu;rcases hu with rfl|rfl|rfl|rfl|rfl|rfl|rfl<;>rfl
   case c3=>have:=aN.out;unfold maxLen;omega
   case c4=>have:=aN.out;omega
   case c5=>omega
   intro v' w5 aw aj aX aS;clear aX an ax;obtain ⟨aq,aE,ak,am⟩:=aA.snoc (p:=⟨kn,sf,G J A.length T,A,G L z.length U,z,G M C.length V,C,G N d.length Y,d,G O E.length aa,E⟩) (B:=X.heap.size) HN.out.1 HN.out.2 (show nodeK.own _ (⟨kn,sf,G J A.length T,A,G L z.length U,z,G M C.length V,C,G N d.length Y,d,G O E.length aa,E⟩:NodeQ) from oq) (show (nodeK.foot (⟨kn,sf,G J A.length T,A,G L z.length U,z,G M C.length V,C,G N d.length Y,d,G O E.length aa,E⟩:NodeQ)).Nodup from nq) (fun x hx aF => by
    have:=hF.out x aF;have:=LA x hx;omega) (fun x hx=>by have:=LA x hx;omega) (by omega) aw aj aS
   obtain⟨na,nc,rfl⟩:=aq.shape;rw[List.length_append,List.length_singleton]at aq aE ak;have ab:Out (blk (G sa qs.length sc)) wr w5:=(l hW).trans am;have ap:Blk w5 g 31 #[G z0 os.length z1,G sa qs.length sc]:=(ab.block g (by omega) az).trans af.out;have ba:Hid ((qs++[(⟨kn,sf,G J A.length T,A,G L z.length U,z,G M C.length V,C,G N d.length Y,d,G O E.length aa,E⟩:NodeQ)]).map NodeQ.e=(D.take (k+1)).map NodeQ.e):=aM.out _ (by show(⟨_,_,_⟩:NodeE)=_;exact congrArg (NodeE.mk kn sf) eq);have aL:Hid ((nodeK.fp (G na (qs.length+1) nc) (qs++[(⟨kn,sf,G J A.length T,A,G L z.length U,z,G M C.length V,C,G N d.length Y,d,G O E.length aa,E⟩:NodeQ)])).Nodup∧∀k∈nodeK.fp (G na (qs.length+1) nc) (qs++[(⟨kn,sf,G J A.length T,A,G L z.length U,z,G M C.length V,C,G N d.length Y,d,G O E.length aa,E⟩:NodeQ)]),X.heap.size≤k):=⟨aE,ak⟩
   have aQ:Out [g] X w5:=by
    refine⟨ab.os.trans HO.out.os,ab.tape.trans HO.out.tape,ab.output.trans HO.out.output,by have:=HO.out.size;exact Nat.le_trans this ab.size,fun x hx hn=>?_⟩;exact(ab.block x (by have:=HO.out.size;omega) (fun aF=>by have:=ag.out x aF;omega)).trans (HO.out.block x hx hn)
   clear aE ak am aM HN hF oq LA nq aw aj aS aA hO m0 m1 g0 g1 g2 g3 g4 g5 g6 eq
   go_wp2
   refine ThenX.to ⟨Or.inr ⟨⟨_,ab⟩,rfl⟩,?_⟩;simp only[Act.put,pgE,pjE];refine onX 10 1 rfl (by kernel_rfl) ?_
   go_wp2
   refine ThenX.to ⟨Or.inr ⟨⟨_,ab⟩,rfl⟩,?_⟩;refine onX 11 0 rfl (by kernel_rfl) ?_;have t3:=ap.cell 1 _ rfl;have t4:=ap.frozen 1;have aH:=ap.set 1 (G na (qs.length+1) nc);have be:=aq.out (o w5 g 1 (G na (qs.length+1) nc)) (fun x hx=>by have:=aL.out.2 x hx;simp only[s];omega);have aR:Out [g] X (w5.setCell ⟨g,1,none⟩ (G na (qs.length+1) nc)):=aQ.trans (o w5 g 1 _);have a7:Hid (Blk (w5.setCell ⟨g,1,none⟩ (G na (qs.length+1) nc)) g 31 #[G z0 os.length z1,G na (qs.length+1) nc]):=aH;have bb:Hid (Out [g] X (w5.setCell ⟨g,1,none⟩ (G na (qs.length+1) nc))):=aR;clear aH aR aQ aq ap af HO;generalize qs++[(⟨kn,sf,G J A.length T,A,G L z.length U,z,G M C.length V,C,G N d.length Y,d,G O E.length aa,E⟩:NodeQ)]=bp at*
   go_wp2
   refine ThenX.to ⟨Or.inl (by kernel_rfl),?_⟩;refine q31 (by kernel_rfl) ?_;clear t3 t4 ab bi ar az aI aO;generalize w5.setCell ⟨g,1,none⟩ (G na (qs.length+1) nc)=w6 at*
   go_wp2
   go_roundw
   case rel=>exact⟨k+1,_,bp,by omega,by go_num,ba,be,aL,a7,bb⟩
   case measure=>simp[intOf];omega
  ·have bg:k=D.length:=by omega
   subst bg;have hE:=HE.out;rw[List.take_length]at hE;obtain⟨eo,oo,no,lo,Lo⟩:=HQ.out;have a6:instK.Own wr (G z0 os.length z1) os:=oo.out HO.out (fun x hx=>by simp only[s];have:=Lo x hx;omega);have HR:Hid (CluQ.e (⟨G z0 os.length z1,os,G sa qs.length sc,qs⟩:CluQ)=⟨I.map P,D.map NodeQ.e⟩∧cluK.own wr (⟨G z0 os.length z1,os,G sa qs.length sc,qs⟩:CluQ)∧(cluK.foot (⟨G z0 os.length z1,os,G sa qs.length sc,qs⟩:CluQ)).Nodup∧∀k∈cluK.foot (⟨G z0 os.length z1,os,G sa qs.length sc,qs⟩:CluQ),w.heap.size+2≤k∧k≠g):=by
    refine⟨by simp only[CluQ.e,eo,hE],⟨a6,hO⟩,?_,fun x hx=>?_⟩
    ·refine List.nodup_append.2 ⟨no,HN.out.1,fun x hx y hy e=>?_⟩;have:=Lo x hx;have:=HN.out.2 y hy;omega
    ·rcases List.mem_append.1 hx with hx|hx
     ·have:=Lo x hx;have:=lo x hx;omega
     ·have:=HN.out.2 x hx;omega
   clear HE hE oo no lo Lo a6 hO HN HQ ag eo;have aP:Blk wr (w.heap.size+1) 31 #[G none 0 0,G none 0 0]:=(HO.out.block _ RX.lt (by simp only[s];omega)).trans RX;have g0:=af.out.cell 0 _ rfl;have g1:=af.out.cell 1 _ rfl;have Rz:=aP.row #[G z0 os.length z1,G sa qs.length sc];have am:=z0x wr (w.heap.size+1) #[G z0 os.length z1,G sa qs.length sc];have bc:=z0o ah (g:=w.heap.size+1) (by omega) #[G z0 os.length z1,G sa qs.length sc];have oc:=cluK.own_out HR.out.2.1 am (fun x hx=>by have:=HR.out.2.2.2 x hx;simp only[s];omega);clear am af HO aG
   go_wp2_with (first|(refine z0A (by kernel_rfl) 31 _ _ rfl _ #[G z0 os.length z1,G sa qs.length sc] rfl rfl 31 _ aP q6x rfl (by simp[Value.oneCell']) ?_))
   obtain⟨r0,r1⟩:=Rz.cel2;exact bodyPost_ret (v:=.agg #[G z0 os.length z1,G sa qs.length sc]) (by simp[results,results54,go_sem,r0,r1]) rfl ⟨⟨G z0 os.length z1,os,G sa qs.length sc,qs⟩,rfl,HR.out.1.trans HX.out,oc,HR.out.2.2.1,fun x hx=>by have:=HR.out.2.2.2 x hx;omega,bc⟩
end Go.Proofs.YtjjoahhnkpjolaaGreatDoor
