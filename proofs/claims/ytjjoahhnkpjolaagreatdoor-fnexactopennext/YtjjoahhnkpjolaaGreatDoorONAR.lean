import Derived.Test.YtjjoahhnkpjolaaGreatDoorONAQ
set_option linter.unusedVariables false
set_option linter.unusedSimpArgs false
set_option maxRecDepth 100000
set_option maxHeartbeats 16000000
namespace Go.Proofs.YtjjoahhnkpjolaaGreatDoor
open Go.RowKit Go.BigFrame
open TxnQ renaming e->g,n->Va
open InstQ renaming e->f
open Nat renaming zero_le->Vb
open List renaming getElem_mem->Vc,take_succ_eq_append_getElem->Vd
open IntKind renaming i64->G
open Value renaming int->Q,slice->R
open Go.Proofs.Tryz renaming prog->B
open Go.Proofs.Tryz
def z4R:TxnD:=⟨0,0,0,[]⟩
theorem z7w(xs:List TxnQ)(k:Nat)(hk:k<xs.length):(xs.map g).getD k z4R=g xs[k]:=by simp[List.getD,hk]
theorem q2z{acc:List TxnD}{t:TxnD}(k:Nat)(hk:k<acc.length)(h:stF (acc.getD k z4R) t=true):knw acc t=true:=by
 unfold knw;rw[List.any_eq_true];exact⟨acc[k],Vc hk,by simpa[List.getD,hk]using h⟩
theorem q4G{acc:List TxnD}{t:TxnD}(h:∀j,j<acc.length→stF (acc.getD j z4R) t=false):knw acc t=false:=by
 cases hc:knw acc t with
 |false=>rfl
 |true=>
  unfold knw at hc;rw[List.any_eq_true]at hc;obtain⟨x,hx,hs⟩:=hc;obtain⟨j,hj,rfl⟩:=List.getElem_of_mem hx;have:=h j hj;have e:acc.getD j z4R=acc[j]:=by simp[List.getD,hj]
  rw[e,hs]at this;exact absurd this (by decide)
theorem z5M(v:Value)(acc:List TxnQ)(b o:Nat)(x:TxnD)(va:Value)(w:World)(h:txnK.At w v acc)(hB:Box4 w b o (Q G x.id) (Q G x.session) (Q G x.seq) va)(hl:acc.length≤1048576):
  Calls B 121 #[v,.pointer (some ⟨b,o,none⟩)] w fun e w'=>e=.returned (.bool (knw (acc.map g) x))∧Below w.heap.size w w':=by
 obtain⟨a,cap,rfl⟩:=h.shape;obtain⟨d0,d1,d2,d3⟩:=hB;generalize hE:knw (acc.map g) x=E;have HE:Hid (knw (acc.map g) x=E):=hE;clear hE;obtain⟨xi,xs,xq,xa⟩:=x;dsimp only at d0 d1 d2 d3;go_enter func121,ntmps121
 go_wp2
 go_loopw[5] (fun j wr=>∃k m:Nat,k≤acc.length∧j=Q G k∧wr=w.drewN m∧Hid (∀j,j<k→stF ((acc.map g).getD j z4R) ⟨xi,xs,xq,xa⟩=false)) (fun j _=>acc.length-(intOf j).toNat)
 case atStart=>exact⟨0,0,Vb _,rfl,rfl,fun j hj=>absurd hj (Nat.not_lt_zero _)⟩
 case round=>
  obtain⟨k,m,hk,rfl,rfl,HA⟩:=hrel;by_cases d:k<acc.length
  ·obtain⟨b',D,rfl,J,hc,C⟩:=h.cell (by decide) k d;have c:∀j x,(txnK.cells acc[k])[j]?=some x→w.cell? ⟨b',D+k*4+j,none⟩=some x:=hc;have c0:=c 0 (Q G acc[k].i) rfl;have c1:=c 1 (Q G acc[k].s) rfl;have c2:=c 2 (Q G acc[k].q) rfl;rw[Nat.add_zero]at c0;have HY:Hid (stF (g acc[k]) ⟨xi,xs,xq,xa⟩=true→E=true):=fun hx=>by rw[←HE.out];exact q2z k (by simpa using d) (by rw[z7w acc k d];exact hx)
   have HN:Hid (stF (g acc[k]) ⟨xi,xs,xq,xa⟩=false→∀j,j<k+1→stF ((acc.map g).getD j z4R) ⟨xi,xs,xq,xa⟩=false):=fun hx j hj=>by
    by_cases A:j=k
    ·subst A;rw[z7w acc j d];exact hx
    ·exact HA.out j (by omega)
   clear HA hc c C;generalize acc[k]=p at*;obtain⟨i,s,q,L,I⟩:=p;dsimp only[g,stF]at c0 c1 c2 HY HN;have z:(k:Int)<(acc.length:Int):=by omega
   cases h1:(i==xi)
   ·cases h2:(s==xs)
    ·have HR:=HN.out (by rw[h1,h2];rfl);have y:Hid _:=HR;clear HY HN HR
     go_wp2
     go_quiet (fail)
     go_wp2
     go_roundw
     case rel=>exact⟨k+1,_,by omega,by go_num,rfl,y.out⟩
     case measure=>simp[intOf];omega
    ·cases h3:(q==xq)
     ·have HR:=HN.out (by rw[h1,h2,h3];rfl);have y:Hid _:=HR;clear HY HN HR
      go_wp2
      go_quiet (fail)
      go_wp2
      go_roundw
      case rel=>exact⟨k+1,_,by omega,by go_num,rfl,y.out⟩
      case measure=>simp[intOf];omega
     ·have E1:Hid (E=true):=HY.out (by rw[h1,h2,h3];rfl);clear HY HN
      go_wp2
      go_quiet (fail)
      go_wp2
      go_ret;rw[E1.out];exact⟨rfl,⟨rfl,rfl,rfl,Nat.le_refl _,fun _ _=>rfl⟩⟩
   ·have E1:Hid (E=true):=HY.out (by rw[h1];rfl);clear HY HN
    go_wp2
    go_quiet (fail)
    go_wp2
    go_ret;rw[E1.out];exact⟨rfl,⟨rfl,rfl,rfl,Nat.le_refl _,fun _ _=>rfl⟩⟩
  ·have E1:Hid (E=false):=by rw[←HE.out];exact q4G (fun j hj=>HA.out j (by simp at hj;omega))
   have z:¬(k:Int)<(acc.length:Int):=by omega
   clear HA HE
   go_wp2
   go_ret;rw[E1.out];exact⟨rfl,⟨rfl,rfl,rfl,Nat.le_refl _,fun _ _=>rfl⟩⟩
theorem z5N(ds:List InstE)(k:Nat)(hk:k<ds.length):z4p (ds.take (k+1))=z4p (ds.take k)++(if outV (ds.getD k z0W).dec=1 then(ds.getD k z0W).batch else []):=by
 rw[Vd hk];unfold z4p;rw[List.flatMap_append];have e:ds.getD k z0W=ds[k]:=by simp[List.getD,hk]
 simp only[List.flatMap_cons,List.flatMap_nil,List.append_nil,e]
theorem q0n(xs acc:List TxnD)(t:TxnD):onc acc (xs++[t])=if knw (onc acc xs) t then onc acc xs else onc acc xs++[t]:=by
 rw[z19];simp only[onc]
theorem z6o(v:Value)(ps:List InstQ)(n:Nat)(w:World)(h:instK.At w v ps)(aL:(∀p∈ps,(∀t∈p.batch,0<t.acts.length)∧(∀r∈p.rounds,0<r.rep.length∧0<r.pro.length)∧0<p.dec.length))(aH:∀p∈ps,p.batch.length≤4)(hn:n≤ps.length)(h4:ps.length≤4)(hl:(ps.length+nmL InstQ.n ps)≤1048576):
  Calls B 75 #[v,Q G n] w fun e w'=>∃v' qs,e=.returned v'∧qs.map g=defL (ps.map f) n∧txnK.Own w' v' qs∧(txnK.fp v' qs).Nodup∧(∀k∈txnK.fp v' qs,w.heap.size≤k)∧Below w.heap.size w w':=by
 obtain⟨a,cap,rfl⟩:=h.shape;obtain⟨i0,hi,bl,bm,bn⟩:=info_parts z1y;have ho:=World.ownsRow_lit (e:=158) (size:=4) w #[] 0 (Nat.le_refl _) (by decide) rfl;have aN:txnK.Own (w.alloc (.cells #[] 158)) (R (some ⟨w.heap.size,0,none⟩) 0 0) ([]:List TxnQ):=⟨(z0y ho).1,fun p hp=>by simp at hp⟩
 have aF:Below w.heap.size w (w.alloc (.cells #[] 158)):=by go_grown
 have aw:Hid ((txnK.fp (R (some ⟨w.heap.size,0,none⟩) 0 0) ([]:List TxnQ)).Nodup∧∀k∈txnK.fp (R (some ⟨w.heap.size,0,none⟩) 0 0) ([]:List TxnQ),w.heap.size≤k):=by
  refine⟨?_,?_⟩
  ·simp[Kind.fp,blk,Value.ownBlock]
  ·simp[Kind.fp,blk,Value.ownBlock]
 clear ho;have ar:Hid (([]:List TxnQ).map g=defL (ps.map f) 0):=by show _=_;simp[defL,z4p,onc]
 have au:Hid (([]:List TxnQ).length≤4*0):=by show _≤_;simp
 go_enter func75,ntmps75
 go_wp2
 go_loopw[5,6] (fun v j wr=>∃ (k:Nat) (qs:List TxnQ),k≤n∧j=Q G k∧Hid (qs.map g=defL (ps.map f) k)∧Hid (qs.length≤4*k)∧txnK.Own wr v qs∧Hid ((txnK.fp v qs).Nodup∧∀k∈txnK.fp v qs,w.heap.size≤k)∧Below w.heap.size w wr) (fun _ j _=>n-(intOf j).toNat)
 case atStart=>exact⟨0,[],Vb _,rfl,ar,au,aN,aw,aF⟩
 case round=>
  clear aw aN aF ar au;obtain⟨k,qs,hk,rfl,HE,HL,hO,HN,hb⟩:=hrel;obtain⟨sa,sc,rfl⟩:=hO.shape;by_cases bx:k<n
  ·have z:k<ps.length:=by omega
   have HT:=z5N (ps.map f) k (by simpa using z);rw[z5G ps k z]at HT;have aj:Hid (outV ps[k].dec≠1→defL (ps.map f) (k+1)=defL (ps.map f) k):=fun hx=>by
    unfold defL;rw[HT,if_neg (show¬outV (f ps[k]).dec=1 from hx),List.append_nil]
   have ay:Hid (outV ps[k].dec=1→∀m,onc (defL (ps.map f) k) ((ps[k].batch.map g).take m)=onc [] (z4p ((ps.map f).take k)++(ps[k].batch.map g).take m)):=fun _ m=>by
    rw[z19];rfl
   have ak:Hid (outV ps[k].dec=1→defL (ps.map f) (k+1)=onc (defL (ps.map f) k) (ps[k].batch.map g)):=fun hx=>by
    unfold defL;rw[HT,if_pos (show outV (f ps[k]).dec=1 from hx),z19];rfl
   clear HT;obtain⟨b,bp,rfl,bb,hP⟩:=z7u h k z;have aQ:InstQ.n ps[k]≤1048576:=by have:=z6O ps k z;omega
   have aJ:=z2n b (bp+k*4) ps[k] wr (hP.below hb) aQ;have bq:b<wr.heap.size:=Nat.lt_of_lt_of_le bb hb.size;have U:=aL _ (Vc z);have aG:=aH _ (Vc z);generalize outV ps[k].dec=OV at*;have aM:(k:Int)<(n:Int):=by omega
   have bd:(k:Int)<(ps.length:Int):=by omega
   go_wp2_with fail
   refine aJ.mono ?_;rintro e w' ⟨rfl,hw⟩;replace hw:=hw.symm;subst hw;clear aJ;by_cases I:OV=1
   case neg=>
    have e1:(OV !=1)=true:=by simpa using I
    have HR:Hid (qs.map g=defL (ps.map f) (k+1)):=show _=_ by rw[aj.out I];exact HE.out
    have A:Hid (qs.length≤4*(k+1)):=show _≤_ by have:=HL.out;omega
    clear aj ay ak HE HL I
    go_wp2
    go_roundw
    case rel=>exact⟨k+1,qs,by omega,by go_num,HR,A,hO,HN,hb⟩
    case measure=>simp[intOf];omega
   case pos=>
    have e1:(OV !=1)=false:=by simp[I]
    have HI:Hid (qs.map g=onc (defL (ps.map f) k) ((ps[k].batch.map g).take 0)):=show _=_ by rw[List.take_zero];exact HE.out
    have y:Hid (qs.length≤4*k+0):=HL.out;have al:Hid (defL (ps.map f) (k+1)=onc (defL (ps.map f) k) (ps[k].batch.map g)):=ak.out I;clear aj ay ak HE HL I;generalize ps[k]=p at*;obtain⟨has,vb,d,vr,aT,vd,dec⟩:=p;have hT:txnK.At w vb d:=hP.batch;have cc:=(hP.below hb).box.c1;dsimp only at cc;obtain⟨ba,bk,rfl⟩:=hT.shape;dsimp only at HI al U aG;have bf:=U.1;have bw:nmL Va d≤1048576:=by
     have h9:=aQ;dsimp only[InstQ.n]at h9;omega
    generalize defL (ps.map f) k=acc at*
    go_wp2
    clear cc;go_loopw[5,7] (fun v j wx=>∃ (m:Nat) (qs:List TxnQ),m≤d.length∧j=Q G m∧Hid (qs.map g=onc acc ((d.map g).take m))∧Hid (qs.length≤4*k+m)∧txnK.Own wx v qs∧Hid ((txnK.fp v qs).Nodup∧∀k∈txnK.fp v qs,w.heap.size≤k)∧Below w.heap.size w wx) (fun _ j _=>d.length-(intOf j).toNat)
    case atStart=>exact⟨0,qs,Vb _,rfl,HI,y,hO,HN,hb⟩
    case round=>
     clear HI y hO HN hb;obtain⟨m,qs,hm,rfl,HI,y,hO,HN,hb⟩:=hrel;obtain⟨sa,sc,rfl⟩:=hO.shape;have aZ:=hP.below hb;have aA:=aZ.box.c1;dsimp only at aA;by_cases E:m<d.length
     ·have bc:(m:Int)<(d.length:Int):=by omega
      have bv:d.length≤4:=aG;obtain⟨b2,o2,rfl,br,hc,L⟩:=(hT.below hb).cell (by decide) m E;have O:∀j x,(txnK.cells d[m])[j]?=some x→wr.cell? ⟨b2,o2+m*4+j,none⟩=some x:=hc;have t0:=O 0 (Q G d[m].i) rfl;have t1:=O 1 (Q G d[m].s) rfl;have t2:=O 2 (Q G d[m].q) rfl;have t3:=O 3 (d[m].va) rfl;rw[Nat.add_zero]at t0;have aq:=z01 Va d m E;have V:=bf _ (Vc E);have HS:(d.map g).take (m+1)=(d.map g).take m++[g d[m]]:=by
       rw[Vd (by simpa using E),List.getElem_map]
      have ag:Hid (knw (qs.map g) (g d[m])=true→qs.map g=onc acc ((d.map g).take (m+1))):=fun hx=>by
       rw[HS,q0n,←HI.out,if_pos hx]
      have ah:Hid (knw (qs.map g) (g d[m])=false→∀p':TxnQ,p'.e=g d[m]→(qs++[p']).map g=onc acc ((d.map g).take (m+1))):=fun hx p' bg=>by
       rw[HS,q0n,←HI.out,if_neg (by rw[hx];decide),List.map_append,List.map_singleton,bg]
      clear hc O HS;generalize d[m]=p at*;obtain⟨i,s,q,va,c⟩:=p;replace L:actK.At wr va c:=L;replace aq:c.length≤nmL Va d:=aq;obtain⟨aa,ac,rfl⟩:=L.shape;dsimp only at t0 t1 t2 t3 V;obtain⟨ab,ao,a7⟩:∃ab ao,aa=some ⟨ab,ao,none⟩:=by
       rcases(z0Z L).2 with h0|⟨ab,ao,e,_⟩
       ·have:=z0s c;rw[h0]at this;simp at this;omega
       ·exact⟨ab,ao,e⟩
      subst a7;have aI:=z6I i s q ab ao ac c _ (z0Z L).2 V (by omega)
      go_wp2_with fail
      clear t0 t1 t2 t3 aA;have av:Hid (∀x∈txnK.fp (R sa qs.length sc) qs,x<wr.heap.size):=hO.lt;have az:Hid (w.heap.size≤wr.heap.size):=hb.size;refine aI.mono ?_;rintro e w2 ⟨a2,c2,rfl,aR,X⟩;replace hO:=hO.below X;replace hb:=hb.trans (X.mono hb.size);have bs:=X.size;obtain⟨bo,aK⟩:=z0y aR;have C:txnK.own w2 (⟨i,s,q,R a2 c.length c2,c⟩:TxnQ):=⟨bo,fun _ _=>trivial⟩
      have M:∀x∈txnK.foot (⟨i,s,q,R a2 c.length c2,c⟩:TxnQ),wr.heap.size≤x:=fun x hx=>aK x (by rw[←z1a (R a2 c.length c2) c];exact hx)
      have aE:(txnK.foot (⟨i,s,q,R a2 c.length c2,c⟩:TxnQ)).Nodup:=by
       show(actK.fp _ _).Nodup;rw[z1a];exact z0t _
      have a1:=txnK.own_lt C;have N:Below w2.heap.size w2 (w2.alloc (.cells #[Q G i,Q G s,Q G q,R a2 c.length c2] 158)):=by go_grown
      have Tb:=Blk.new w2 158 #[Q G i,Q G s,Q G q,R a2 c.length c2];replace hO:=hO.below N;replace C:=txnK.own_out (F:=[]) C (Out.of_below N) (fun _ _=>by simp);replace hb:=hb.trans (N.mono hb.size);have Z:=fun w h hB=>z5M (R sa qs.length sc) qs w2.heap.size 0 (g (⟨i,s,q,R a2 c.length c2,c⟩:TxnQ)) (R a2 c.length c2) w h hB (by have:=y.out;omega)
      have aB:Box4 (w2.alloc (.cells #[Q G i,Q G s,Q G q,R a2 c.length c2] 158)) w2.heap.size 0 (Q G i) (Q G s) (Q G q) (R a2 c.length c2):=⟨Tb.cell 0 _ rfl,Tb.cell 1 _ rfl,Tb.cell 2 _ rfl,Tb.cell 3 _ rfl⟩
      have ap:=Z _ hO.at aB;have aC:g (⟨i,s,q,R a2 c.length c2,c⟩:TxnQ)=g ⟨i,s,q,R (some ⟨ab,ao,none⟩) c.length ac,c⟩:=rfl;rw[aC]at ap;clear aI aR aK Z aC aB;generalize knw (qs.map g) (g ⟨i,s,q,R (some ⟨ab,ao,none⟩) c.length ac,c⟩)=KN at*
      go_wp2_with fail
      generalize bh:w2.alloc (.cells #[Q G i,Q G s,Q G q,R a2 c.length c2] 158)=WA at*;clear bh;refine ap.mono ?_;rintro e w3 ⟨rfl,J⟩;replace hO:=hO.below J;replace C:=txnK.own_out (F:=[]) C (Out.of_below J) (fun _ _=>by simp);replace hb:=hb.trans (J.mono hb.size);replace Tb:=Tb.below J;have bt:=J.size;have bu:=N.size;clear J ap
      cases KN with
      |true=>
       have HR:=ag.out rfl;have aX:Hid _:=HR;have A:Hid (qs.length≤4*k+(m+1)):=show _≤_ by have:=y.out;omega
       clear ag ah HR HI y Tb C
       go_wp2
       go_roundw
       case rel=>exact⟨m+1,qs,by omega,by go_num,aX,A,hO,HN,hb⟩
       case measure=>simp[intOf];omega
      |false=>
       have ax:=ah.out rfl;have ad:Hid _:=ax;have ai:Hid (qs.length≤20):=show _≤_ by have:=y.out;omega
       have A:Hid (qs.length+1≤4*k+(m+1)):=show _≤_ by have:=y.out;omega
       obtain⟨u0,u1,u2,u3⟩:=Tb.cel4;have D:Below w3.heap.size w3 (w3.alloc (.cells #[Q G i,Q G s,Q G q,R a2 c.length c2] 158)):=by go_grown
       have am:=hO.below D;have aD:=txnK.own_out (F:=[]) C (Out.of_below D) (fun _ _=>by simp);have Y:=hb.trans (D.mono hb.size);have a6:wr.heap.size≤(w3.alloc (.cells #[Q G i,Q G s,Q G q,R a2 c.length c2] 158)).heap.size:=by have:=D.size;omega
       clear hO C ag ah ax;have W:=am.1
       go_wp2_with (at_builtin;refine wpList_append_own_at _ rfl _ _ 52 rfl 0 158 i0 (.agg #[Q G 0,Q G 0,Q G 0,R none 0 0]) 4 48 Tryz.underlying52 hi bl bm bn rfl (by decide) _ qs.length (txnK.row qs) rfl W ⟨w3.heap.size,0,none⟩ 1 1 [Q G i,Q G s,Q G q,R a2 c.length c2] rfl rfl ?c1 ?c2 ?c3 ?c4 ?c5 ?_)
       all_goals try(case c1=>intro j u hj;match j,hj with|0,hj=>simp at hj;subst hj;simp[Addr.add]|1,hj=>simp at hj;subst hj;simp[Addr.add]|2,hj=>simp at hj;subst hj;simp[Addr.add]|3,hj=>simp at hj;subst hj;simp[Addr.add])
       all_goals try(case c2=>intro u hu;simp at hu;rcases hu with rfl|rfl|rfl|rfl<;>rfl)
       all_goals try(case c3=>have:=ai.out;unfold maxLen;omega)
       all_goals try(case c4=>have:=ai.out;omega)
       all_goals try(case c5=>first|omega|simp)
       intro v' w5 af T aP an;clear aP W u0 u1 u2 u3 Tb;rw[show w3.heap.size+1=(w3.alloc (.cells #[Q G i,Q G s,Q G q,R a2 c.length c2] 158)).heap.size from(World.size_alloc _ _).symm]at an;generalize bi:w3.alloc (.cells #[Q G i,Q G s,Q G q,R a2 c.length c2] 158)=WB at*;clear bi;obtain⟨aY,aO,ae,aS⟩:=am.snoc (p:=(⟨i,s,q,R a2 c.length c2,c⟩:TxnQ)) HN.out.1 HN.out.2 aD aE (fun x hx bj=>by have:=av.out x bj;have:=M x hx;omega) (fun x hx=>by have:=M x hx;have:=az.out;omega) Y.size af T an;have a8:Below w.heap.size w w5:=Out.keep Y aS Y.size (fun x hx=>HN.out.2 x (by simp only[Kind.fp,List.mem_append];exact Or.inl hx));have aU:Hid ((qs++[(⟨i,s,q,R a2 c.length c2,c⟩:TxnQ)]).map g=onc acc ((d.map g).take (m+1))):=ad.out _ rfl;have aW:Hid ((txnK.fp v' (qs++[(⟨i,s,q,R a2 c.length c2,c⟩:TxnQ)])).Nodup∧∀k∈txnK.fp v' (qs++[(⟨i,s,q,R a2 c.length c2,c⟩:TxnQ)]),w.heap.size≤k):=⟨aO,ae⟩
       have aV:Hid ((qs++[(⟨i,s,q,R a2 c.length c2,c⟩:TxnQ)]).length≤4*k+(m+1)):=show _≤_ by rw[List.length_append];exact A.out
       clear ad HN av az aD am Y af T an aS aO ae L hb N D aq V a6 M aE a1 HI y ai A X
       go_wp2
       go_roundw
       case rel=>exact⟨m+1,_,by omega,by go_num,aU,aV,aY,aW,a8⟩
       case measure=>simp[intOf];omega
     ·have be:m=d.length:=by omega
      subst be;have HR:Hid (qs.map g=defL (ps.map f) (k+1)):=show _=_ by
       have h8:=HI.out;rw[List.take_of_length_le (by simp)]at h8;rw[al.out];exact h8
      have A:Hid (qs.length≤4*(k+1)):=show _≤_ by have:=y.out;omega
      clear HI y al
      go_wp2
      go_roundw
      case rel=>exact⟨k+1,qs,by omega,by go_num,HR,A,hO,HN,hb⟩
      case measure=>simp[intOf];omega
  ·have Z:k=n:=by omega
   subst Z;have aM:¬(k:Int)<(k:Int):=by omega
   go_wp2
   go_ret;first|exact⟨_,qs,rfl,HE.out,hO,HN.out.1,HN.out.2,hb⟩|exact⟨_,rfl,qs,HE.out,hO,HN.out.1,HN.out.2,hb⟩
theorem z4t(i s q:Int)(a:Option Addr)(n c:Nat)(i' s' q':Int)(a':Option Addr)(n' c':Nat)(xs ys:List ActD)(w:World):
  Calls B 259 #[.agg #[Q G i,Q G s,Q G q,R a n c],.agg #[Q G i',Q G s',Q G q',R a' n' c']] w fun e w'=>e=.returned (.bool (stF ⟨i,s,q,xs⟩ ⟨i',s',q',ys⟩))∧Below w.heap.size w w':=by
 unfold stF;dsimp only
 cases h1:(i==i')
 ·cases h2:(s==s')
  ·go_enter func259,ntmps259
   go_wp2
   go_ret;exact⟨rfl,by go_grown⟩
  ·cases h3:(q==q')
   ·go_enter func259,ntmps259
    go_wp2
    go_ret;exact⟨rfl,by go_grown⟩
   ·go_enter func259,ntmps259
    go_wp2
    go_ret;exact⟨rfl,by go_grown⟩
 ·go_enter func259,ntmps259
  go_wp2
  go_ret;exact⟨rfl,by go_grown⟩
theorem q1c(i s q:Int)(a:Option Addr)(n c:Nat)(xs:List ActD)(x:TxnD)(bx:Nat)(a':Option Addr)(n' c':Nat)(w:World)(hX:Blk w bx 158 #[Q G x.id,Q G x.session,Q G x.seq,R a' n' c']):
  Calls B 258 #[.agg #[Q G i,Q G s,Q G q,R a n c],.pointer (some ⟨bx,0,none⟩)] w fun e w'=>e=.returned (.bool (stF ⟨i,s,q,xs⟩ x))∧Below w.heap.size w w':=by
 obtain⟨xi,xs',xq,xa⟩:=x;have hB:Below w.heap.size w (w.alloc (.cells #[Q G i,Q G s,Q G q,R a n c] 158)):=by go_grown
 have hX':=hX.below hB;have hq:=fun w=>z4t i s q a n c xi xs' xq a' n' c' xs xa w
 have x0:=hX'.cell 0 _ rfl;have x1:=hX'.cell 1 _ rfl;have x2:=hX'.cell 2 _ rfl;have x3:=hX'.cell 3 _ rfl;generalize stF ⟨i,s,q,xs⟩ ⟨xi,xs',xq,xa⟩=E at*;go_enter func258,ntmps258
 go_wp2_with fail
 refine(hq _).mono ?_;rintro e w2 ⟨rfl,hb2⟩;replace hB:=hB.trans (hb2.mono hB.size)
 go_wp2
 go_ret;exact⟨rfl,hB⟩
theorem z6p(v:Value)(ps:List TxnQ)(x:TxnD)(bx:Nat)(a':Option Addr)(n' c':Nat)(w:World)(h:txnK.At w v ps)(hX:Blk w bx 158 #[Q G x.id,Q G x.session,Q G x.seq,R a' n' c'])(hl:ps.length≤1048576):
  Calls B 273 #[v,.func (.func 258) #[] #[.pointer (some ⟨bx,0,none⟩)]] w fun e w'=>∃r:Int,e=.returned (Q G r)∧(knw (ps.map g) x=true→0≤r)∧(knw (ps.map g) x=false→r<0)∧Below w.heap.size w w':=by
 obtain⟨a,cap,rfl⟩:=h.shape;generalize hE:knw (ps.map g) x=E;have HE:Hid (knw (ps.map g) x=E):=hE;clear hE;go_enter func273,ntmps273
 go_wp2
 go_loopw[8] (fun j wr=>∃k:Nat,k≤ps.length∧j=Q G k∧Below w.heap.size w wr∧Hid (∀j,j<k→stF ((ps.map g).getD j z4R) x=false)) (fun j _=>ps.length-(intOf j).toNat)
 case atStart=>exact⟨0,Vb _,rfl,Below.refl _ _,fun j hj=>absurd hj (Nat.not_lt_zero _)⟩
 case round=>
  obtain⟨k,hk,rfl,hb,HA⟩:=hrel;by_cases y:k<ps.length
  ·obtain⟨b',L,rfl,I,hc,z⟩:=(h.below hb).cell (by decide) k y;have d:∀j x,(txnK.cells ps[k])[j]?=some x→wr.cell? ⟨b',L+k*4+j,none⟩=some x:=hc;have c0:=d 0 (Q G ps[k].i) rfl;have c1:=d 1 (Q G ps[k].s) rfl;have c2:=d 2 (Q G ps[k].q) rfl;have c3:=d 3 (ps[k].va) rfl;rw[Nat.add_zero]at c0;have HY:Hid (stF (g ps[k]) x=true→E=true):=fun hx=>by rw[←HE.out];exact q2z k (by simpa using y) (by rw[z7w ps k y];exact hx)
   have HN:Hid (stF (g ps[k]) x=false→∀j,j<k+1→stF ((ps.map g).getD j z4R) x=false):=fun hx j hj=>by
    by_cases J:j=k
    ·subst J;rw[z7w ps j y];exact hx
    ·exact HA.out j (by omega)
   clear HA hc d;generalize ps[k]=p at*;obtain⟨i,s,q,M,c⟩:=p;replace z:actK.At wr M c:=z;obtain⟨aa,ac,rfl⟩:=z.shape;dsimp only[g]at c0 c1 c2 c3 HY HN;have hq:=q1c i s q aa c.length ac c x bx a' n' c' wr (hX.below hb);generalize stF ⟨i,s,q,c⟩ x=S at*;have C:(k:Int)<(ps.length:Int):=by omega
   go_wp2_with fail
   refine hq.mono ?_;rintro e w2 ⟨rfl,A⟩;replace hb:=hb.trans (A.mono hb.size);clear hq c0 c1 c2 c3 A z I
   cases S with
   |true=>
    have E1:Hid (E=true):=HY.out rfl;clear HY HN
    go_wp2
    go_ret;refine⟨_,rfl,fun _=>by omega,fun h0=>?_,hb⟩;rw[E1.out]at h0;exact absurd h0 (by decide)
   |false=>
    have D:Hid _:=HN.out rfl;clear HY HN
    go_wp2
    go_roundw
    case rel=>exact⟨k+1,by omega,by go_num,hb,D.out⟩
    case measure=>simp[intOf];omega
  ·have E1:Hid (E=false):=by rw[←HE.out];exact q4G (fun j hj=>HA.out j (by simp at hj;omega))
   have C:¬(k:Int)<(ps.length:Int):=by omega
   clear HA HE
   go_wp2
   go_ret;refine⟨_,rfl,fun h0=>?_,fun _=>by omega,hb⟩;rw[E1.out]at h0;exact absurd h0 (by decide)
theorem z4u(v:Value)(ps:List TxnQ)(x:TxnD)(bx:Nat)(a':Option Addr)(n' c':Nat)(w:World)(h:txnK.At w v ps)(hX:Blk w bx 158 #[Q G x.id,Q G x.session,Q G x.seq,R a' n' c'])(hl:ps.length≤1048576):
  Calls B 257 #[v,.func (.func 258) #[] #[.pointer (some ⟨bx,0,none⟩)]] w fun e w'=>e=.returned (.bool (knw (ps.map g) x))∧Below w.heap.size w w':=by
 have hq:=z6p v ps x bx a' n' c' w h hX hl;obtain⟨a,cap,rfl⟩:=h.shape;generalize knw (ps.map g) x=E at*;go_enter func257,ntmps257
 go_wp2_with fail
 refine hq.mono ?_;rintro e w2 ⟨r,rfl,h1,h2,hb⟩
 cases E with
 |true=>
  have h0:0≤r:=h1 rfl;clear h1 h2
  go_wp2
  go_ret;exact⟨by simp[h0],hb⟩
 |false=>
  have h0:¬0≤r:=by have:=h2 rfl;omega
  clear h1 h2
  go_wp2
  go_ret;exact⟨by simp[h0],hb⟩
theorem z6q(v:Value)(ps:List TxnQ)(x:TxnD)(a':Option Addr)(n' c':Nat)(w:World)(h:txnK.At w v ps)(hl:ps.length≤1048576):
  Calls B 235 #[v,.agg #[Q G x.id,Q G x.session,Q G x.seq,R a' n' c']] w fun e w'=>e=.returned (.bool (knw (ps.map g) x))∧Below w.heap.size w w':=by
 have hB:Below w.heap.size w (w.alloc (.cells #[Q G x.id,Q G x.session,Q G x.seq,R a' n' c'] 158)):=by go_grown
 have hq:=z4u v ps x w.heap.size a' n' c' _ (h.below hB) (Blk.new w 158 #[Q G x.id,Q G x.session,Q G x.seq,R a' n' c']) hl;have hmf:∀ (fn:Fn) (first cap:Array Value) (w:World),(Instr.makeFunc fn first cap).run B w=.ok (.func fn first cap) w:=fun _ _ _ _=>rfl
 obtain⟨a,cap,rfl⟩:=h.shape;generalize knw (ps.map g) x=E at*;obtain⟨xi,xs,xq,xa⟩:=x;dsimp only at hB hq⊢;go_enter func235,ntmps235
 go_wp2_with fail
 refine hq.mono ?_;rintro e w2 ⟨rfl,hb2⟩;replace hB:=hB.trans (hb2.mono hB.size);clear hmf
 go_wp2
 go_ret;exact⟨rfl,hB⟩
def stpF(acc:List TxnD)(t:TxnD):Int:=if t.F=0 then(if knw acc t then 6 else 0)else t.F
def z2z:List TxnD→List TxnD→Int
 |_,[]=>0
 |acc,t::r=>if stpF acc t=0 then z2z (acc++[t]) r else stpF acc t
def lstF(ds:List TxnD):Int:=if 40<ds.length then 2 else z2z [] ds
def q2A:List (List TxnD)→Int
 |[]=>0
 |d::r=>if lstF d=0 then q2A r else lstF d
theorem q0o(ds:List TxnD)(k:Nat)(hk:k<ds.length):z2z (ds.take k) (ds.drop k)=if stpF (ds.take k) ds[k]=0 then z2z (ds.take (k+1)) (ds.drop (k+1))else stpF (ds.take k) ds[k]:=by
 conv=>lhs;rw[List.drop_eq_getElem_cons hk]
 rw[z2z,Vd hk]
theorem z8B(ds:List TxnD)(k:Nat)(hk:ds.length≤k):z2z (ds.take k) (ds.drop k)=0:=by
 rw[List.drop_of_length_le hk];rfl
theorem q5o(ls:List (List TxnD))(k:Nat)(hk:k<ls.length):q2A (ls.drop k)=if lstF ls[k]=0 then q2A (ls.drop (k+1))else lstF ls[k]:=by
 rw[List.drop_eq_getElem_cons hk,q2A]
theorem Kind.At.rdm{P:Type}{K:Kind P}{w:World}{v:Value}{ps:List P}{p:P}(h:K.At w v ps)(hp:p∈ps):K.rd w p:=by
 obtain⟨a,c,e,hl,hr⟩:=h;exact hr p hp
theorem Blk.setOne{w:World}{b:Nat}{t:TypeId}{x y:Value}(h:Blk w b t #[x]):Blk (w.setCell ⟨b,0,none⟩ y) b t #[y]:=by
 have h1:w.heap[b]?=some (.cells #[x] t (0,0)):=h;show(w.setCell ⟨b,0,none⟩ y).heap[b]?=some (.cells #[y] t (0,0));simp[World.setCell,Array.getElem?_modify,h1]
theorem z7x(p:TxnQ)(qs:List TxnQ)(bx:Nat)(va:Value)(w:World)(hT:actK.At w p.va p.acts)(hl:p.acts.length≤1048576)(hv:Blk w bx 52 #[va])(ho:w.ownsRow (bx+1) 158 4 va qs.length (txnK.row qs))(V:∀q∈qs,txnK.rd w q)(hq:qs.length≤40):
  Calls B 234 #[.agg #[Q G p.i,Q G p.s,Q G p.q,p.va],.pointer (some ⟨bx,0,none⟩)] w fun e w'=>e=.returned (Q G (stpF (qs.map g) (g p)))∧Below bx w w'∧(stpF (qs.map g) (g p)=0→∃Z,Blk w' bx 52 #[Z]∧w'.ownsRow (bx+1) 158 4 Z (qs++[p]).length (txnK.row (qs++[p]))):=by
 obtain⟨i,s,q,pv,c⟩:=p;dsimp only at hT hl;obtain⟨aa,ac,rfl⟩:=hT.shape;obtain⟨sa,sc,rfl⟩:=z0f ho;obtain⟨i0,hi,ah,ai,aj⟩:=info_parts z1y;have ak:=hv.lt;have hB:Below w.heap.size w (w.alloc (.cells #[Q G i,Q G s,Q G q,R aa c.length ac] 158)):=by go_grown
 have hX:=Blk.new w 158 #[Q G i,Q G s,Q G q,R aa c.length ac];have M:=z2C i s q aa ac c _ ((z0Z hT).2.below hB) hl;replace hv:=hv.below hB;replace ho:=z0c ho hB;have D:txnK.At (w.alloc (.cells #[Q G i,Q G s,Q G q,R aa c.length ac] 158)) (R sa qs.length sc) qs:=Kind.at_of_row ho (fun q hq=>txnK.rd_below (V q hq) hB);have HS:Hid (stpF (qs.map g) ⟨i,s,q,c⟩=if txnF i s q c=0 then(if knw (qs.map g) ⟨i,s,q,c⟩then 6 else 0)else txnF i s q c):=rfl;dsimp only[g];generalize stpF (qs.map g) ⟨i,s,q,c⟩=S at*;generalize txnF i s q c=C at*;clear hT V;go_enter func234,ntmps234
 go_wp2_with fail
 have ab:=hB.size;have an:w.heap.size<(w.alloc (.cells #[Q G i,Q G s,Q G q,R aa c.length ac] 158)).heap.size:=by simp
 generalize w.heap.size=H at*;generalize w.alloc (.cells #[Q G i,Q G s,Q G q,R aa c.length ac] 158)=W at*;refine M.mono ?_;rintro e w1 ⟨rfl,d⟩;replace hv:=hv.below d;replace ho:=z0c ho d;replace hX:=hX.below d;replace D:=D.below d;replace hB:=hB.trans (d.mono ab);by_cases hC:C=0
 ·subst hC;rw[if_pos rfl]at HS;have hh:=z6q (R sa qs.length sc) qs ⟨i,s,q,c⟩ aa c.length ac w1 D (by omega);dsimp only at hh;obtain⟨x0,x1,x2,x3⟩:=hX.cel4;have v0:=hv.cell 0 _ rfl;generalize knw (qs.map g) ⟨i,s,q,c⟩=Y at*;clear M D
  go_wp2_with fail
  refine hh.mono ?_;rintro e w2 ⟨rfl,z⟩;clear x0 x1 x2 x3 v0 hh;replace hv:=hv.below z;replace ho:=z0c ho z;replace hX:=hX.below z;have al:=z.size;have af:=d.size;replace hB:=hB.trans (z.mono (by omega));clear d z
  cases Y with
  |true=>
   have A:Hid (S=6):=HS.out;clear HS
   go_wp2
   go_ret;rw[A.out];exact⟨rfl,hB.mono (by omega),fun h0=>absurd h0 (by decide)⟩
  |false=>
   have A:Hid (S=0):=HS.out;clear HS;obtain⟨x0,x1,x2,x3⟩:=hX.cel4;have v0:=hv.cell 0 _ rfl;have I:Below w2.heap.size w2 (w2.alloc (.cells #[Q G i,Q G s,Q G q,R aa c.length ac] 158)):=by go_grown
   have X:=hv.below I;have J:=z0c ho I;have N:=hB.trans (I.mono (by omega));have am:=I.size;clear hv ho hB hX
   go_wp2_with (at_builtin;refine wpList_append_own_at _ rfl _ _ 52 rfl (bx+1) 158 i0 (.agg #[Q G 0,Q G 0,Q G 0,R none 0 0]) 4 48 Tryz.underlying52 hi ah ai aj rfl (by decide) _ qs.length (txnK.row qs) rfl J ⟨w2.heap.size,0,none⟩ 1 1 [Q G i,Q G s,Q G q,R aa c.length ac] rfl rfl ?c1 ?c2 ?c3 ?c4 ?c5 ?_)
   all_goals try(case c1=>intro j u hj;match j,hj with|0,hj=>simp at hj;subst hj;simp[Addr.add]|1,hj=>simp at hj;subst hj;simp[Addr.add]|2,hj=>simp at hj;subst hj;simp[Addr.add]|3,hj=>simp at hj;subst hj;simp[Addr.add])
   all_goals try(case c2=>intro u hu;simp at hu;rcases hu with rfl|rfl|rfl|rfl<;>rfl)
   all_goals try(case c3=>unfold maxLen;omega)
   all_goals try(case c4=>omega)
   all_goals try(case c5=>omega)
   intro v' w5 y x U O;obtain⟨a6,c6,rfl⟩:=z0f y;have E:Blk w5 bx 52 #[R sa qs.length sc]:=X.grown x (fun e=>by have:=(J.lt bx e.symm).1;omega);have T:Below bx w w5:=(N.mono (show bx≤_ by omega)).grown x (by omega) (fun j hj=>by have:=(J.lt j hj).1;omega);have L:txnK.row (qs++[(⟨i,s,q,R aa c.length ac,c⟩:TxnQ)])=txnK.row qs++[Q G i,Q G s,Q G q,R aa c.length ac]:=by simp[Kind.row];rfl
   have f5:=E.frozen 0;have c5:=E.cell 0 _ rfl;have ad:Below bx w (w5.setCell ⟨bx,0,none⟩ (R a6 (qs.length+1) c6)):=Out.keep T (Out.setCell w5 bx 0 _) (by have:=E.lt;omega) (fun k hk=>by simp at hk;omega);have ag:Blk (w5.setCell ⟨bx,0,none⟩ (R a6 (qs.length+1) c6)) bx 52 #[R a6 (qs.length+1) c6]:=E.setOne;have ae:(w5.setCell ⟨bx,0,none⟩ (R a6 (qs.length+1) c6)).ownsRow (bx+1) 158 4 (R a6 (qs.length+1) c6) (qs++[(⟨i,s,q,R aa c.length ac,c⟩:TxnQ)]).length (txnK.row (qs++[(⟨i,s,q,R aa c.length ac,c⟩:TxnQ)])):=by
    rw[L,List.length_append];refine z0X y (Out.setCell w5 bx 0 _) (fun k hk e=>?_);simp only[List.mem_singleton]at e;subst e;have:=(y.lt k (by simpa[blk]using hk)).1;omega
   clear y x U O L J X T N E x0 x1 x2 x3 v0
   go_wp2
   go_ret;rw[A.out];exact⟨rfl,ad,fun _=>⟨_,ag,ae⟩⟩
 ·rw[if_neg hC]at HS;have A:Hid (S=C):=HS.out;clear HS M D;have af:=d.size
  go_wp2
  go_ret;rw[A.out];exact⟨rfl,hB.mono (by omega),fun h0=>absurd h0 hC⟩
theorem z7y(w:World):Calls B 210 #[] w fun e w'=>e=.returned (.func (.func 234) #[] #[.pointer (some ⟨w.heap.size,0,none⟩)])∧w'=w.alloc (.cells #[R none 0 0] 52):=by
 have hmf:∀ (fn:Fn) (first cap:Array Value) (w:World),(Instr.makeFunc fn first cap).run B w=.ok (.func fn first cap) w:=fun _ _ _ _=>rfl
 go_enter func210,ntmps210
 go_wp2
 go_ret;exact⟨rfl,rfl⟩
theorem z6r(b cap:Nat)(ls:List (Value × List TxnQ))(w:World)(ax:b<w.heap.size)(hc:∀ (k:Nat) (hk:k<ls.length),w.cell? ⟨b,k,none⟩=some ls[k].1)(hA:∀l∈ls,txnK.At w l.1 l.2)(hl:∀l∈ls,l.2.length+nmL Va l.2≤1048576)(h2:ls.length≤2):
  Calls B 172 #[R (some ⟨b,0,none⟩) ls.length cap] w fun e w'=>e=.returned (Q G (q2A (ls.map (fun l=>l.2.map g))))∧Below w.heap.size w w':=by
 generalize hE:q2A (ls.map (fun l=>l.2.map g))=E;have HE:Hid (q2A ((ls.map (fun l=>l.2.map g)).drop 0)=E):=hE;clear hE;go_enter func172,ntmps172
 go_wp2
 go_loopw[11] (fun j wr=>∃k:Nat,k≤ls.length∧j=Q G k∧Below w.heap.size w wr∧Hid (q2A ((ls.map (fun l=>l.2.map g)).drop k)=E)) (fun j _=>ls.length-(intOf j).toNat)
 case atStart=>exact⟨0,Vb _,rfl,Below.refl _ _,HE⟩
 case round=>
  clear HE;obtain⟨k,hk,rfl,hb,HE⟩:=hrel;obtain⟨U,rfl⟩:∃U,U=wr:=⟨_,rfl⟩
  by_cases I:k<ls.length
  ·have d:Hid ((if lstF (ls[k].2.map g)=0 then q2A ((ls.map (fun l=>l.2.map g)).drop (k+1))else lstF (ls[k].2.map g))=E):=show _=_ by
    have:=HE.out;rw[q5o _ k (by simpa using I)]at this;simpa using this
   have ah:=(hb.cell (p:=⟨b,k,none⟩) ax).trans (hc k I);have M:=(hA _ (Vc I)).below hb;have W:=hl _ (Vc I);generalize ls[k]=l at*;obtain⟨v,ps⟩:=l;dsimp only at ah M W d;obtain⟨a,cp,rfl⟩:=M.shape;clear HE;have ak:(k:Int)<(ls.length:Int):=by omega
   by_cases ad:40<ps.length
   ·have E1:Hid (E=2):=show _=_ by
     have:=d.out;have e2:lstF (ps.map g)=2:=by unfold lstF;rw[List.length_map,if_pos ad]
     rw[e2]at this;exact this.symm
    clear d;have ae:(40:Int)<(ps.length:Int):=by omega
    go_wp2
    go_ret;rw[E1.out];exact⟨rfl,hb⟩
   ·have ae:¬(40:Int)<(ps.length:Int):=by omega
    have ab:Hid (z2z (((ps.map g)).take 0) ((ps.map g).drop 0)=lstF (ps.map g)):=show _=_ by unfold lstF;rw[List.length_map,if_neg ad];rfl
    have aj:=z7y U;have ag:Below U.heap.size U (U.alloc (.cells #[R none 0 0] 52)):=by go_grown
    have ao:=Blk.new U 52 #[R none 0 0];have al:=World.ownsRow_nil (U.alloc (.cells #[R none 0 0] 52)) (U.heap.size+1) 158 4;have ap:=hb.size
    go_wp2_with fail
    clear ah;refine aj.mono ?_;rintro e w2 ⟨rfl,rfl⟩;clear aj;generalize av:U.heap.size=bx at*;generalize hY:U.alloc (.cells #[R none 0 0] 52)=Y at*;clear hY
    go_wp2
    go_loopw[21] (fun j wy=>∃ (m:Nat) (va:Value),m≤ps.length∧j=Q G m∧Blk wy bx 52 #[va]∧wy.ownsRow (bx+1) 158 4 va (ps.take m).length (txnK.row (ps.take m))∧Below bx U wy∧Hid (z2z ((ps.map g).take m) ((ps.map g).drop m)=lstF (ps.map g))) (fun j _=>ps.length-(intOf j).toNat)
    case atStart=>exact⟨0,_,Vb _,rfl,ao,al,ag,ab⟩
    case round=>
     clear ao al ag ab;obtain⟨m,va,hm,rfl,hv,ho,A,HG⟩:=hrel;by_cases c:m<ps.length
     ·have L:Hid ((if stpF ((ps.map g).take m) (g ps[m])=0 then z2z ((ps.map g).take (m+1)) ((ps.map g).drop (m+1))else stpF ((ps.map g).take m) (g ps[m]))=lstF (ps.map g)):=show _=_ by
       have:=HG.out;rw[q0o _ m (by simpa using c)]at this;simpa using this
      have C:Below U.heap.size U wr:=by rw[av];exact A
      obtain⟨b',aA,rfl,aD,ai,am⟩:=(M.below C).cell (by decide) m c;have D:∀j x,(txnK.cells ps[m])[j]?=some x→wr.cell? ⟨b',aA+m*4+j,none⟩=some x:=ai;have c0:=D 0 (Q G ps[m].i) rfl;have c1:=D 1 (Q G ps[m].s) rfl;have c2:=D 2 (Q G ps[m].q) rfl;have c3:=D 3 (ps[m].va) rfl;rw[Nat.add_zero]at c0;have aq:=z01 Va ps m c;have an:ps.take (m+1)=ps.take m++[ps[m]]:=Vd c;have T:∀q∈ps.take m,txnK.rd wr q:=fun q hq=>(M.below C).rdm (List.mem_of_mem_take hq)
      have W:(ps.take m).length≤40:=by rw[List.length_take];omega
      have O:=z7x ps[m] (ps.take m) bx va;rw[List.map_take,←an]at O;clear HG ai D an;generalize hS:stpF ((ps.map g).take m) (g ps[m])=S at*;clear hS;generalize ps[m]=p at*;obtain⟨i,s,q,aB,y⟩:=p;have J:actK.At wr aB y:=am;replace aq:y.length≤nmL Va ps:=aq;obtain⟨aa,ac,rfl⟩:=J.shape;dsimp only at c0 c1 c2 c3 O;have X:(m:Int)<(ps.length:Int):=by omega
      have z:Below wr.heap.size wr (wr.alloc (.cells #[Q G i,Q G s,Q G q,R aa y.length ac] 158)):=by go_grown
      have hq:=O _ (J.below z) (by omega) (hv.below z) (z0c ho z) (fun q hq=>txnK.rd_below (T q hq) z) W;have N:=A.trans (z.mono (by have:=hv.lt;omega));clear O z hv ho J am T A C
      go_wp2_with fail
      clear c0 c1 c2 c3;generalize wr.alloc (.cells #[Q G i,Q G s,Q G q,R aa y.length ac] 158)=Z at*;refine hq.mono ?_;rintro e w3 ⟨rfl,af,hI⟩;replace N:=N.trans af;clear hq af;by_cases V:S=0
      ·subst V;obtain⟨aC,az,ay⟩:=hI rfl;clear hI;have au:Hid (z2z ((ps.map g).take (m+1)) ((ps.map g).drop (m+1))=lstF (ps.map g)):=show _=_ by
        have:=L.out;rw[if_pos rfl]at this;exact this
       clear L
       go_wp2
       go_roundw
       case rel=>exact⟨m+1,aC,by omega,by go_num,az,ay,N,au⟩
       case measure=>simp[intOf];omega
      ·have E1:Hid (E=S):=show _=_ by
        have h3:=L.out;rw[if_neg V]at h3;have h4:=d.out;rw[←h3,if_neg V]at h4;exact h4.symm
       clear L d hI
       go_wp2
       go_ret;rw[E1.out];exact⟨rfl,hb.trans (N.mono ap)⟩
     ·have h0:lstF (ps.map g)=0:=by rw[←HG.out];exact z8B _ _ (by simpa using Nat.le_of_not_lt c)
      have ar:Hid (q2A ((ls.map (fun l=>l.2.map g)).drop (k+1))=E):=show _=_ by
       have:=d.out;rw[if_pos h0]at this;exact this
      have X:¬(m:Int)<(ps.length:Int):=by omega
      have aw:Below w.heap.size w wr:=hb.trans (A.mono ap);clear HG d hv ho A
      go_wp2
      go_roundw
      case rel=>exact⟨k+1,by omega,by go_num,aw,ar⟩
      case measure=>simp[intOf];omega
  ·have E1:Hid (E=0):=by
    show _=_;rw[←HE.out,List.drop_of_length_le (by simpa using Nat.le_of_not_lt I)];rfl
   have ak:¬(k:Int)<(ls.length:Int):=by omega
   clear HE
   go_wp2
   go_ret;rw[E1.out];exact⟨rfl,hb⟩
theorem z4v(v:Value)(ps:List TxnQ)(w:World)(h:txnK.At w v ps)(hl:ps.length+nmL Va ps≤1048576):
  Calls B 130 #[v] w fun e w'=>e=.returned (Q G (lstF (ps.map g)))∧Below w.heap.size w w':=by
 have hB:Below w.heap.size w (w.alloc (.cells #[v] 52)):=by go_grown
 have hX:=Blk.new w 52 #[v];have hq:=z6r w.heap.size 1 [(v,ps)] (w.alloc (.cells #[v] 52)) hX.lt (fun k hk=>by
  have h0:k=0:=by simpa using hk
  subst h0;exact hX.cell 0 _ rfl) (fun l hl=>by rw [List.mem_singleton.1 hl];exact h.below hB) (fun l hl=>by rw [List.mem_singleton.1 hl];assumption) (by simp)
 have e0:q2A ([(v,ps)].map (fun l:Value × List TxnQ=>l.2.map g))=lstF (ps.map g):=by
  show(if lstF (ps.map g)=0 then 0 else lstF (ps.map g))=_;split
  ·rename_i h0;exact h0.symm
  ·rfl
 rw[e0]at hq;clear e0;generalize lstF (ps.map g)=E at*;obtain⟨a,cap,rfl⟩:=h.shape;clear hX;go_enter func130,ntmps130
 go_wp2_with fail
 refine Calls.mono (show Calls B _ #[R (some ⟨w.heap.size,0,none⟩) 1 1] _ _ from hq) ?_;rintro e w2 ⟨rfl,hb⟩;replace hB:=hB.trans (hb.mono hB.size)
 go_wp2
 go_ret;exact⟨rfl,hB⟩
theorem z9G(v:Value)(ps:List TxnQ)(w:World)(h:txnK.At w v ps)(ad:z8v v)(hl:ps.length+nmL Va ps≤1048576):
  Calls B 115 #[v] w fun e w'=>e=.returned (Q G (lstF (ps.map g)))∧Below w.heap.size w w':=by
 obtain⟨a,cap,rfl⟩:=h.shape;obtain⟨ah,ai⟩:ps.length≤cap∧cap≤maxLen:=ad;by_cases T:40<ps.length
 ·have e2:lstF (ps.map g)=2:=by unfold lstF;rw[List.length_map,if_pos T]
  rw[e2];have U:(40:Int)<(ps.length:Int):=by omega
  go_enter func115,ntmps115
  go_wp2
  go_ret;exact⟨rfl,Below.refl _ _⟩
 ·have U:¬(40:Int)<(ps.length:Int):=by omega
  have e2:lstF (ps.map g)=z2z ((ps.map g).take 0) ((ps.map g).drop 0):=by unfold lstF;rw[List.length_map,if_neg T];rfl
  have HE:Hid (z2z ((ps.map g).take 0) ((ps.map g).drop 0)=lstF (ps.map g)):=e2.symm;clear e2;generalize lstF (ps.map g)=E at*;go_enter func115,ntmps115
  go_wp2
  go_loopw[3] (fun j wr=>∃m:Nat,m≤ps.length∧j=Q G m∧Below w.heap.size w wr∧Hid (z2z ((ps.map g).take m) ((ps.map g).drop m)=E)) (fun j _=>ps.length-(intOf j).toNat)
  case atStart=>exact⟨0,Vb _,rfl,Below.refl _ _,HE⟩
  case round=>
   clear HE;obtain⟨m,hm,rfl,hb,HG⟩:=hrel;by_cases y:m<ps.length
   ·have z:Hid ((if stpF ((ps.map g).take m) (g ps[m])=0 then z2z ((ps.map g).take (m+1)) ((ps.map g).drop (m+1))else stpF ((ps.map g).take m) (g ps[m]))=E):=show _=_ by
     have:=HG.out;rw[q0o _ m (by simpa using y)]at this;simpa using this
    have L:=(h.below hb).takeK m hm;obtain⟨b,d,rfl,ak,W,X⟩:=(h.below hb).cell (by decide) m y;have A:∀j x,(txnK.cells ps[m])[j]?=some x→wr.cell? ⟨b,d+m*4+j,none⟩=some x:=W;have c0:=A 0 (Q G ps[m].i) rfl;have c1:=A 1 (Q G ps[m].s) rfl;have c2:=A 2 (Q G ps[m].q) rfl;have c3:=A 3 (ps[m].va) rfl;rw[Nat.add_zero]at c0;have Z:=z01 Va ps m y;have D:=fun va w'=>z5M (R (some ⟨b,d,none⟩) m cap) (ps.take m) b (d+m*4) (g ps[m]) va w'
    have ae:(ps.take m).length≤1048576:=by rw[List.length_take];omega
    rw[List.map_take]at D;have HS:Hid (stpF ((ps.map g).take m) (g ps[m])=if(g ps[m]).F=0 then(if knw ((ps.map g).take m) (g ps[m])then 6 else 0)else(g ps[m]).F):=rfl;clear HG W A;generalize stpF ((ps.map g).take m) (g ps[m])=S at*;generalize knw ((ps.map g).take m) (g ps[m])=Y at*;generalize ps[m]=p at*;obtain⟨i,s,q,ag,c⟩:=p;have I:actK.At wr ag c:=X;replace Z:c.length≤nmL Va ps:=Z;obtain⟨aa,ac,rfl⟩:=I.shape;have e3:(g ⟨i,s,q,R aa c.length ac,c⟩).F=txnF i s q c:=rfl;rw[e3]at HS;dsimp only[g]at c0 c1 c2 c3 D;have J:Box4 wr b (d+m*4) (Q G i) (Q G s) (Q G q) (R aa c.length ac):=⟨c0,c1,c2,c3⟩
    have M:=z5q b (d+m*4) i s q aa ac c wr J (z0Z I).2 (by omega);have N:(m:Int)<(ps.length:Int):=by omega
    generalize txnF i s q c=C at*;clear e3 c0 c1 c2 c3 I X
    go_wp2_with fail
    refine M.mono ?_;rintro e w2 ⟨rfl,O⟩;replace O:=O.symm;subst O;by_cases hC:C=0
    ·subst hC;rw[if_pos rfl]at HS;have hW:Below wr.heap.size wr wr.drew:=(Below.refl _ _).drew;have af:Nonempty (Lat wr):=⟨⟨wr,Below.refl _ _⟩⟩
     have am:m≤cap:=by omega
     have al:(0:Int)≤(m:Int):=by omega
     have aj:(m:Int)≤(cap:Int):=by omega
     clear M
     go_wp2_with fail
     refine z0d (S:=fun w'=>∃u:Lat wr,w'=u.val) (by kernel_rfl) ?_;refine sgr [(0,2),(3,3)] 2 (by kernel_rfl) ⟨⟨_,hW⟩,rfl⟩ ?_;simp only[pkE];repeat go_big_quiet_step (fail)
     refine wpQuiet_nil ?_;refine ona 2 1 rfl (by kernel_rfl) ?_
     go_wp2
     refine ThenGo.to ⟨⟨⟨_,hW⟩,rfl⟩,?_⟩;refine cla 6 (some 27) 121 #[R (some ⟨b,d,none⟩) m cap,.pointer (some ⟨b,d+m*4,none⟩)] 0 (by kernel_rfl) ?_;refine(D _ _ (L.below hW) (J.below hW) ae).mono ?_;rintro e w9 ⟨rfl,V⟩;replace hW:=hW.trans (V.mono hW.size);clear V D J L;refine⟨_,rfl,⟨⟨_,hW⟩,rfl⟩,?_⟩;simp only[Act.put,pjE];refine z0h (by kernel_rfl) ?_;replace hb:=hb.trans (hW.mono hb.size);clear hW af
     cases Y with
     |true=>
      have E1:Hid (E=6):=show _=_ by
       have h3:=z.out;have h4:S=6:=HS.out;rw[h4]at h3;exact h3.symm
      clear z HS
      go_wp2
      go_ret;rw[E1.out];exact⟨rfl,hb⟩
     |false=>
      have ab:Hid (z2z ((ps.map g).take (m+1)) ((ps.map g).drop (m+1))=E):=show _=_ by
       have h3:=z.out;have h4:S=0:=HS.out;rw[h4]at h3;exact h3
      clear z HS
      go_wp2
      go_roundw
      case rel=>exact⟨m+1,by omega,by go_num,hb,ab⟩
      case measure=>simp[intOf];omega
    ·rw[if_neg hC]at HS;have E1:Hid (E=C):=show _=_ by
      have h3:=z.out;have h4:S=C:=HS.out;rw[h4,if_neg hC]at h3;exact h3.symm
     clear z HS D L J M
     go_wp2
     go_ret;rw[E1.out];exact⟨rfl,hb⟩
   ·have E1:Hid (E=0):=by
     show _=_;rw[←HG.out];exact z8B _ _ (by simpa using Nat.le_of_not_lt y)
    have N:¬(m:Int)<(ps.length:Int):=by omega
    clear HG
    go_wp2
    go_ret;rw[E1.out];exact⟨rfl,hb⟩
end Go.Proofs.YtjjoahhnkpjolaaGreatDoor
