/- Texts joined,with what the laws reach alone. -/
import Derived.Test.YtciofogeiohleaaGreatDoorCOAS
import Derived.Test.YtciofogeiohleaaGreatDoorCOAO
set_option linter.unusedVariables false
set_option linter.unusedSimpArgs false
set_option maxRecDepth 100000
set_option maxHeartbeats 16000000
namespace Go.Proofs.YtciofogeiohleaaGreatDoor
open Go.RowKit Go.BigFrame
def z2u:TxnD:=⟨0,0,0,[]⟩
theorem z3o(xs:List TxnQ)(k:Nat)(hk:k<xs.length):(xs.map TxnQ.e).getD k z2u=TxnQ.e xs[k]:=by simp[List.getD,hk]
theorem z8O{acc:List TxnD}{t:TxnD}(k:Nat)(hk:k<acc.length)(h:stF (acc.getD k z2u) t=true):knw acc t=true:=by
 unfold knw;rw[List.any_eq_true];exact⟨acc[k],List.getElem_mem hk,by simpa[List.getD,hk]using h⟩
theorem z9K{acc:List TxnD}{t:TxnD}(h:∀j,j<acc.length→stF (acc.getD j z2u) t=false):knw acc t=false:=by
 cases hc:knw acc t with
 |false=>rfl
 |true=>
  unfold knw at hc;rw[List.any_eq_true]at hc;obtain⟨x,hx,hs⟩:=hc;obtain⟨j,hj,rfl⟩:=List.getElem_of_mem hx;have:=h j hj;have e:acc.getD j z2u=acc[j]:=by simp[List.getD,hj]
  rw[e,hs]at this;exact absurd this (by decide)
theorem z6M(v:Value)(acc:List TxnQ)(b o:Nat)(x:TxnD)(va:Value)(w:World)(h:txnK.At w v acc)(hB:Box4 w b o (.int .i64 x.id) (.int .i64 x.session) (.int .i64 x.seq) va)(hl:acc.length≤1048576):
  Calls Tryz.prog 103 #[v,.pointer (some ⟨b,o,none⟩)] w fun e w'=>e=.returned (.bool (knw (acc.map TxnQ.e) x))∧Below w.heap.size w w':=by
 obtain⟨a,cap,rfl⟩:=h.shape;obtain⟨d0,d1,d2,d3⟩:=hB;generalize hE:knw (acc.map TxnQ.e) x=E;have HE:Hid (knw (acc.map TxnQ.e) x=E):=hE;clear hE;obtain⟨xi,xs,xq,xa⟩:=x;dsimp only at d0 d1 d2 d3;go_enter Tryz.func103,Tryz.ntmps103
 go_wp2
 go_loopw[5] (fun j wr=>∃k m:Nat,k≤acc.length∧j=.int .i64 k∧wr=w.drewN m∧Hid (∀j,j<k→stF ((acc.map TxnQ.e).getD j z2u) ⟨xi,xs,xq,xa⟩=false)) (fun j _=>acc.length-(intOf j).toNat)
 case atStart=>exact⟨0,0,Nat.zero_le _,rfl,rfl,fun j hj=>absurd hj (Nat.not_lt_zero _)⟩
 case round=>
  obtain⟨k,m,hk,rfl,rfl,HA⟩:=hrel;by_cases d:k<acc.length
  ·obtain⟨b',C,rfl,G,hc,A⟩:=h.cell (by decide) k d;have c:∀j x,(txnK.cells acc[k])[j]?=some x→w.cell? ⟨b',C+k*4+j,none⟩=some x:=hc;have c0:=c 0 (.int .i64 acc[k].i) rfl;have c1:=c 1 (.int .i64 acc[k].s) rfl;have c2:=c 2 (.int .i64 acc[k].q) rfl;rw[Nat.add_zero]at c0;have HY:Hid (stF (TxnQ.e acc[k]) ⟨xi,xs,xq,xa⟩=true→E=true):=fun hx=>by rw[←HE.out];exact z8O k (by simpa using d) (by rw[z3o acc k d];exact hx)
   have HN:Hid (stF (TxnQ.e acc[k]) ⟨xi,xs,xq,xa⟩=false→∀j,j<k+1→stF ((acc.map TxnQ.e).getD j z2u) ⟨xi,xs,xq,xa⟩=false):=fun hx j hj=>by
    by_cases z:j=k
    ·subst z;rw[z3o acc j d];exact hx
    ·exact HA.out j (by omega)
   clear HA hc c A;generalize acc[k]=p at*;obtain⟨i,s,q,I,D⟩:=p;dsimp only[TxnQ.e,stF]at c0 c1 c2 HY HN;have y:(k:Int)<(acc.length:Int):=by omega
   cases h1:(i==xi)
   ·cases h2:(s==xs)
    ·have HR:=HN.out (by rw[h1,h2];rfl);have r:Hid _:=HR;clear HY HN HR
     go_wp2
     go_quiet (fail)
     go_wp2
     go_roundw
     case rel=>exact⟨k+1,_,by omega,by go_num,rfl,r.out⟩
     case measure=>simp[intOf];omega
    ·cases h3:(q==xq)
     ·have HR:=HN.out (by rw[h1,h2,h3];rfl);have r:Hid _:=HR;clear HY HN HR
      go_wp2
      go_quiet (fail)
      go_wp2
      go_roundw
      case rel=>exact⟨k+1,_,by omega,by go_num,rfl,r.out⟩
      case measure=>simp[intOf];omega
     ·have E1:Hid (E=true):=HY.out (by rw[h1,h2,h3];rfl);clear HY HN
      go_wp2
      go_quiet (fail)
      go_wp2
      go_ret;rw[E1.out];exact⟨rfl,⟨rfl,rfl,rfl,Nat.le_refl _,fun _ _=>rfl⟩⟩
   ·have E1:Hid (E=true):=HY.out (by rw[h1];rfl);clear HY HN
    go_wp2
    go_quiet (fail)
    go_wp2
    go_ret;rw[E1.out];exact⟨rfl,⟨rfl,rfl,rfl,Nat.le_refl _,fun _ _=>rfl⟩⟩
  ·have E1:Hid (E=false):=by rw[←HE.out];exact z9K (fun j hj=>HA.out j (by simp at hj;omega))
   have y:¬(k:Int)<(acc.length:Int):=by omega
   clear HA HE
   go_wp2
   go_ret;rw[E1.out];exact⟨rfl,⟨rfl,rfl,rfl,Nat.le_refl _,fun _ _=>rfl⟩⟩
theorem z7f(xs acc:List TxnD)(t:TxnD):onc acc (xs++[t])=if knw (onc acc xs) t then onc acc xs else onc acc xs++[t]:=by
 rw[z1r];simp only[onc]
theorem z4J(v:Value)(ps:List InstQ)(n:Nat)(w:World)(h:instK.At w v ps)(aK:(∀p∈ps,(∀t∈p.batch,0<t.acts.length)∧(∀r∈p.rounds,0<r.rep.length∧0<r.pro.length)∧0<p.dec.length))(aG:∀p∈ps,p.batch.length≤4)(hn:n≤ps.length)(h4:ps.length≤4)(hl:(ps.length+nmL InstQ.n ps)≤1048576):
  Calls Tryz.prog 56 #[v,.int .i64 n] w fun e w'=>∃v' qs,e=.returned v'∧qs.map TxnQ.e=defL (ps.map InstQ.e) n∧txnK.Own w' v' qs∧(txnK.fp v' qs).Nodup∧(∀k∈txnK.fp v' qs,w.heap.size≤k)∧Below w.heap.size w w':=by
 obtain⟨a,cap,rfl⟩:=h.shape;obtain⟨i0,hi,bj,bl,bm⟩:=info_parts z1G;have ho:=World.ownsRow_lit (e:=44) (size:=4) w #[] 0 (Nat.le_refl _) (by decide) rfl;have aM:txnK.Own (w.alloc (.cells #[] 44)) (.slice (some ⟨w.heap.size,0,none⟩) 0 0) ([]:List TxnQ):=⟨(z04 ho).1,fun p hp=>by simp at hp⟩
 have aE:Below w.heap.size w (w.alloc (.cells #[] 44)):=by go_grown
 have av:Hid ((txnK.fp (.slice (some ⟨w.heap.size,0,none⟩) 0 0) ([]:List TxnQ)).Nodup∧∀k∈txnK.fp (.slice (some ⟨w.heap.size,0,none⟩) 0 0) ([]:List TxnQ),w.heap.size≤k):=by
  refine⟨?_,?_⟩
  ·simp[Kind.fp,blk,Value.ownBlock]
  ·simp[Kind.fp,blk,Value.ownBlock]
 clear ho;have aq:Hid (([]:List TxnQ).map TxnQ.e=defL (ps.map InstQ.e) 0):=by show _=_;simp[defL,z2P,onc]
 have ar:Hid (([]:List TxnQ).length≤4*0):=by show _≤_;simp
 go_enter Tryz.func56,Tryz.ntmps56
 go_wp2
 go_loopw[5,6] (fun v j wr=>∃ (k:Nat) (qs:List TxnQ),k≤n∧j=.int .i64 k∧Hid (qs.map TxnQ.e=defL (ps.map InstQ.e) k)∧Hid (qs.length≤4*k)∧txnK.Own wr v qs∧Hid ((txnK.fp v qs).Nodup∧∀k∈txnK.fp v qs,w.heap.size≤k)∧Below w.heap.size w wr) (fun _ j _=>n-(intOf j).toNat)
 case atStart=>exact⟨0,[],Nat.zero_le _,rfl,aq,ar,aM,av,aE⟩
 case round=>
  clear av aM aE aq ar;obtain⟨k,qs,hk,rfl,HE,HL,hO,HN,hb⟩:=hrel;obtain⟨sa,sc,rfl⟩:=hO.shape;by_cases bw:k<n
  ·have z:k<ps.length:=by omega
   have HT:=z4x (ps.map InstQ.e) k (by simpa using z);rw[z4u ps k z]at HT;have ai:Hid (outV ps[k].dec≠1→defL (ps.map InstQ.e) (k+1)=defL (ps.map InstQ.e) k):=fun hx=>by
    unfold defL;rw[HT,if_neg (show¬outV (InstQ.e ps[k]).dec=1 from hx),List.append_nil]
   have ax:Hid (outV ps[k].dec=1→∀m,onc (defL (ps.map InstQ.e) k) ((ps[k].batch.map TxnQ.e).take m)=onc [] (z2P ((ps.map InstQ.e).take k)++(ps[k].batch.map TxnQ.e).take m)):=fun _ m=>by
    rw[z1r];rfl
   have aj:Hid (outV ps[k].dec=1→defL (ps.map InstQ.e) (k+1)=onc (defL (ps.map InstQ.e) k) (ps[k].batch.map TxnQ.e)):=fun hx=>by
    unfold defL;rw[HT,if_pos (show outV (InstQ.e ps[k]).dec=1 from hx),z1r];rfl
   clear HT;obtain⟨b,bo,rfl,a8,hP⟩:=z3V h k z;have aP:InstQ.n ps[k]≤1048576:=by have:=z3F ps k z;omega
   have aI:=z0U b (bo+k*4) ps[k] wr (hP.below hb) aP;have bp:b<wr.heap.size:=Nat.lt_of_lt_of_le a8 hb.size;have T:=aK _ (List.getElem_mem z);have aF:=aG _ (List.getElem_mem z);generalize outV ps[k].dec=OV at*;have aL:(k:Int)<(n:Int):=by omega
   have bc:(k:Int)<(ps.length:Int):=by omega
   go_wp2_with fail
   refine aI.mono ?_;rintro e w' ⟨rfl,hw⟩;replace hw:=hw.symm;subst hw;clear aI;by_cases G:OV=1
   case neg=>
    have e1:(OV !=1)=true:=by simpa using G
    have HR:Hid (qs.map TxnQ.e=defL (ps.map InstQ.e) (k+1)):=show _=_ by rw[ai.out G];exact HE.out
    have A:Hid (qs.length≤4*(k+1)):=show _≤_ by have:=HL.out;omega
    clear ai ax aj HE HL G
    go_wp2
    go_roundw
    case rel=>exact⟨k+1,qs,by omega,by go_num,HR,A,hO,HN,hb⟩
    case measure=>simp[intOf];omega
   case pos=>
    have e1:(OV !=1)=false:=by simp[G]
    have HI:Hid (qs.map TxnQ.e=onc (defL (ps.map InstQ.e) k) ((ps[k].batch.map TxnQ.e).take 0)):=show _=_ by rw[List.take_zero];exact HE.out
    have y:Hid (qs.length≤4*k+0):=HL.out;have ak:Hid (defL (ps.map InstQ.e) (k+1)=onc (defL (ps.map InstQ.e) k) (ps[k].batch.map TxnQ.e)):=aj.out G;clear ai ax aj HE HL G;generalize ps[k]=p at*;obtain⟨has,vb,d,vr,aS,vd,dec⟩:=p;have hT:txnK.At w vb d:=hP.batch;have cc:=(hP.below hb).box.c1;dsimp only at cc;obtain⟨ba,bk,rfl⟩:=hT.shape;dsimp only at HI ak T aF;have be:=T.1;have bv:nmL TxnQ.n d≤1048576:=by
     have h9:=aP;dsimp only[InstQ.n]at h9;omega
    generalize defL (ps.map InstQ.e) k=acc at*
    go_wp2
    clear cc;go_loopw[5,7] (fun v j wx=>∃ (m:Nat) (qs:List TxnQ),m≤d.length∧j=.int .i64 m∧Hid (qs.map TxnQ.e=onc acc ((d.map TxnQ.e).take m))∧Hid (qs.length≤4*k+m)∧txnK.Own wx v qs∧Hid ((txnK.fp v qs).Nodup∧∀k∈txnK.fp v qs,w.heap.size≤k)∧Below w.heap.size w wx) (fun _ j _=>d.length-(intOf j).toNat)
    case atStart=>exact⟨0,qs,Nat.zero_le _,rfl,HI,y,hO,HN,hb⟩
    case round=>
     clear HI y hO HN hb;obtain⟨m,qs,hm,rfl,HI,y,hO,HN,hb⟩:=hrel;obtain⟨sa,sc,rfl⟩:=hO.shape;have aY:=hP.below hb;have az:=aY.box.c1;dsimp only at az;by_cases E:m<d.length
     ·have bb:(m:Int)<(d.length:Int):=by omega
      have bu:d.length≤4:=aF;obtain⟨b2,o2,rfl,bq,hc,J⟩:=(hT.below hb).cell (by decide) m E;have N:∀j x,(txnK.cells d[m])[j]?=some x→wr.cell? ⟨b2,o2+m*4+j,none⟩=some x:=hc;have t0:=N 0 (.int .i64 d[m].i) rfl;have t1:=N 1 (.int .i64 d[m].s) rfl;have t2:=N 2 (.int .i64 d[m].q) rfl;have t3:=N 3 (d[m].va) rfl;rw[Nat.add_zero]at t0;have ap:=z2J TxnQ.n d m E;have U:=be _ (List.getElem_mem E);have HS:(d.map TxnQ.e).take (m+1)=(d.map TxnQ.e).take m++[TxnQ.e d[m]]:=by
       rw[List.take_succ_eq_append_getElem (by simpa using E),List.getElem_map]
      have af:Hid (knw (qs.map TxnQ.e) (TxnQ.e d[m])=true→qs.map TxnQ.e=onc acc ((d.map TxnQ.e).take (m+1))):=fun hx=>by
       rw[HS,z7f,←HI.out,if_pos hx]
      have ag:Hid (knw (qs.map TxnQ.e) (TxnQ.e d[m])=false→∀p':TxnQ,p'.e=TxnQ.e d[m]→(qs++[p']).map TxnQ.e=onc acc ((d.map TxnQ.e).take (m+1))):=fun hx p' bf=>by
       rw[HS,z7f,←HI.out,if_neg (by rw[hx];decide),List.map_append,List.map_singleton,bf]
      clear hc N HS;generalize d[m]=p at*;obtain⟨i,s,q,va,c⟩:=p;replace J:actK.At wr va c:=J;replace ap:c.length≤nmL TxnQ.n d:=ap;obtain⟨aa,ac,rfl⟩:=J.shape;dsimp only at t0 t1 t2 t3 U;obtain⟨ab,ao,a6⟩:∃ab ao,aa=some ⟨ab,ao,none⟩:=by
       rcases(z2x J).2 with h0|⟨ab,ao,e,_⟩
       ·have:=z0J c;rw[h0]at this;simp at this;omega
       ·exact⟨ab,ao,e⟩
      subst a6;have aH:=z4Q i s q ab ao ac c _ (z2x J).2 U (by omega)
      go_wp2_with fail
      clear t0 t1 t2 t3 az;have au:Hid (∀x∈txnK.fp (.slice sa qs.length sc) qs,x<wr.heap.size):=hO.lt;have ay:Hid (w.heap.size≤wr.heap.size):=hb.size;refine aH.mono ?_;rintro e w2 ⟨a2,c2,rfl,aQ,W⟩;replace hO:=hO.below W;replace hb:=hb.trans (W.mono hb.size);have br:=W.size;obtain⟨bn,aJ⟩:=z04 aQ;have C:txnK.own w2 (⟨i,s,q,.slice a2 c.length c2,c⟩:TxnQ):=⟨bn,fun _ _=>trivial⟩
      have L:∀x∈txnK.foot (⟨i,s,q,.slice a2 c.length c2,c⟩:TxnQ),wr.heap.size≤x:=fun x hx=>aJ x (by rw[←z2y (.slice a2 c.length c2) c];exact hx)
      have aD:(txnK.foot (⟨i,s,q,.slice a2 c.length c2,c⟩:TxnQ)).Nodup:=by
       show(actK.fp _ _).Nodup;rw[z2y];exact z1h _
      have aZ:=txnK.own_lt C;have M:Below w2.heap.size w2 (w2.alloc (.cells #[.int .i64 i,.int .i64 s,.int .i64 q,.slice a2 c.length c2] 44)):=by go_grown
      have Tb:=Blk.new w2 44 #[.int .i64 i,.int .i64 s,.int .i64 q,.slice a2 c.length c2];replace hO:=hO.below M;replace C:=txnK.own_out (F:=[]) C (Out.of_below M) (fun _ _=>by simp);replace hb:=hb.trans (M.mono hb.size);have Y:=fun w h hB=>z6M (.slice sa qs.length sc) qs w2.heap.size 0 (TxnQ.e (⟨i,s,q,.slice a2 c.length c2,c⟩:TxnQ)) (.slice a2 c.length c2) w h hB (by have:=y.out;omega)
      have aA:Box4 (w2.alloc (.cells #[.int .i64 i,.int .i64 s,.int .i64 q,.slice a2 c.length c2] 44)) w2.heap.size 0 (.int .i64 i) (.int .i64 s) (.int .i64 q) (.slice a2 c.length c2):=⟨Tb.cell 0 _ rfl,Tb.cell 1 _ rfl,Tb.cell 2 _ rfl,Tb.cell 3 _ rfl⟩
      have an:=Y _ hO.at aA;have aB:TxnQ.e (⟨i,s,q,.slice a2 c.length c2,c⟩:TxnQ)=TxnQ.e ⟨i,s,q,.slice (some ⟨ab,ao,none⟩) c.length ac,c⟩:=rfl;rw[aB]at an;clear aH aQ aJ Y aB aA;generalize knw (qs.map TxnQ.e) (TxnQ.e ⟨i,s,q,.slice (some ⟨ab,ao,none⟩) c.length ac,c⟩)=KN at*
      go_wp2_with fail
      generalize bg:w2.alloc (.cells #[.int .i64 i,.int .i64 s,.int .i64 q,.slice a2 c.length c2] 44)=WA at*;clear bg;refine an.mono ?_;rintro e w3 ⟨rfl,I⟩;replace hO:=hO.below I;replace C:=txnK.own_out (F:=[]) C (Out.of_below I) (fun _ _=>by simp);replace hb:=hb.trans (I.mono hb.size);replace Tb:=Tb.below I;have bs:=I.size;have bt:=M.size;clear I an
      cases KN with
      |true=>
       have HR:=af.out rfl;have aW:Hid _:=HR;have A:Hid (qs.length≤4*k+(m+1)):=show _≤_ by have:=y.out;omega
       clear af ag HR HI y Tb C
       go_wp2
       go_roundw
       case rel=>exact⟨m+1,qs,by omega,by go_num,aW,A,hO,HN,hb⟩
       case measure=>simp[intOf];omega
      |false=>
       have aw:=ag.out rfl;have Z:Hid _:=aw;have ah:Hid (qs.length≤20):=show _≤_ by have:=y.out;omega
       have A:Hid (qs.length+1≤4*k+(m+1)):=show _≤_ by have:=y.out;omega
       obtain⟨u0,u1,u2,u3⟩:=Tb.cel4;have D:Below w3.heap.size w3 (w3.alloc (.cells #[.int .i64 i,.int .i64 s,.int .i64 q,.slice a2 c.length c2] 44)):=by go_grown
       have al:=hO.below D;have aC:=txnK.own_out (F:=[]) C (Out.of_below D) (fun _ _=>by simp);have X:=hb.trans (D.mono hb.size);have a1:wr.heap.size≤(w3.alloc (.cells #[.int .i64 i,.int .i64 s,.int .i64 q,.slice a2 c.length c2] 44)).heap.size:=by have:=D.size;omega
       clear hO C af ag aw;have V:=al.1
       go_wp2_with (at_builtin;refine wpList_append_own_at _ rfl _ _ 27 rfl 0 44 i0 (.agg #[.int .i64 0,.int .i64 0,.int .i64 0,.slice none 0 0]) 4 48 Tryz.underlying27 hi bj bl bm rfl (by decide) _ qs.length (txnK.row qs) rfl V ⟨w3.heap.size,0,none⟩ 1 1 [.int .i64 i,.int .i64 s,.int .i64 q,.slice a2 c.length c2] rfl rfl ?c1 ?c2 ?c3 ?c4 ?c5 ?_)
       all_goals try(case c1=>intro j u hj;match j,hj with|0,hj=>simp at hj;subst hj;simp[Addr.add]|1,hj=>simp at hj;subst hj;simp[Addr.add]|2,hj=>simp at hj;subst hj;simp[Addr.add]|3,hj=>simp at hj;subst hj;simp[Addr.add])
       all_goals try(case c2=>intro u hu;simp at hu;rcases hu with rfl|rfl|rfl|rfl<;>rfl)
       all_goals try(case c3=>have:=ah.out;unfold maxLen;omega)
       all_goals try(case c4=>have:=ah.out;omega)
       all_goals try(case c5=>first|omega|simp)
       intro v' w5 ae O aO am;clear aO V u0 u1 u2 u3 Tb;rw[show w3.heap.size+1=(w3.alloc (.cells #[.int .i64 i,.int .i64 s,.int .i64 q,.slice a2 c.length c2] 44)).heap.size from(World.size_alloc _ _).symm]at am;generalize bh:w3.alloc (.cells #[.int .i64 i,.int .i64 s,.int .i64 q,.slice a2 c.length c2] 44)=WB at*;clear bh;obtain⟨aX,aN,ad,aR⟩:=al.snoc (p:=(⟨i,s,q,.slice a2 c.length c2,c⟩:TxnQ)) HN.out.1 HN.out.2 aC aD (fun x hx bi=>by have:=au.out x bi;have:=L x hx;omega) (fun x hx=>by have:=L x hx;have:=ay.out;omega) X.size ae O am;have a7:Below w.heap.size w w5:=Out.keep X aR X.size (fun x hx=>HN.out.2 x (by simp only[Kind.fp,List.mem_append];exact Or.inl hx));have aT:Hid ((qs++[(⟨i,s,q,.slice a2 c.length c2,c⟩:TxnQ)]).map TxnQ.e=onc acc ((d.map TxnQ.e).take (m+1))):=Z.out _ rfl;have aV:Hid ((txnK.fp v' (qs++[(⟨i,s,q,.slice a2 c.length c2,c⟩:TxnQ)])).Nodup∧∀k∈txnK.fp v' (qs++[(⟨i,s,q,.slice a2 c.length c2,c⟩:TxnQ)]),w.heap.size≤k):=⟨aN,ad⟩
       have aU:Hid ((qs++[(⟨i,s,q,.slice a2 c.length c2,c⟩:TxnQ)]).length≤4*k+(m+1)):=show _≤_ by rw[List.length_append];exact A.out
       clear Z HN au ay aC al X ae O am aR aN ad J hb M D ap U a1 L aD aZ HI y ah A W
       go_wp2
       go_roundw
       case rel=>exact⟨m+1,_,by omega,by go_num,aT,aU,aX,aV,a7⟩
       case measure=>simp[intOf];omega
     ·have bd:m=d.length:=by omega
      subst bd;have HR:Hid (qs.map TxnQ.e=defL (ps.map InstQ.e) (k+1)):=show _=_ by
       have h8:=HI.out;rw[List.take_of_length_le (by simp)]at h8;rw[ak.out];exact h8
      have A:Hid (qs.length≤4*(k+1)):=show _≤_ by have:=y.out;omega
      clear HI y ak
      go_wp2
      go_roundw
      case rel=>exact⟨k+1,qs,by omega,by go_num,HR,A,hO,HN,hb⟩
      case measure=>simp[intOf];omega
  ·have Y:k=n:=by omega
   subst Y;have aL:¬(k:Int)<(k:Int):=by omega
   go_wp2
   go_ret;first|exact⟨_,qs,rfl,HE.out,hO,HN.out.1,HN.out.2,hb⟩|exact⟨_,rfl,qs,HE.out,hO,HN.out.1,HN.out.2,hb⟩
theorem z2Y(v:Value)(ps:List InstQ)(n:Int)(w:World)(h:instK.At w v ps)(hl:(ps.length+nmL InstQ.n ps)≤1048576):
  Calls Tryz.prog 19 #[v,.int .i64 n] w fun e w'=>∃ (v':Value) (qs:List TxnQ),e=.returned (.agg #[.int .i64 (dfC (ps.map InstQ.e) n),v'])∧qs.map TxnQ.e=dfT (ps.map InstQ.e) n∧txnK.Own w' v' qs∧(txnK.fp v' qs).Nodup∧(∀k∈txnK.fp v' qs,w.heap.size≤k)∧Below w.heap.size w w':=by
 have Y:=fun w h=>z1v v ps w h hl
 have V:=fun w h h1 h4=>z14 v ps w h hl h1 h4
 have HO:Hid (ordF (ps.map InstQ.e)=0→1≤ps.length∧ps.length≤4∧∀q∈ps,insF (InstQ.e q)=0):=fun h0=>by
  have:=((z0P _).1 h0).1;rw[List.length_map]at this;exact⟨this.1,this.2,fun q hq=>z1m h0 _ (List.mem_map.2 ⟨q,hq,rfl⟩)⟩
 have J:=fun(m:Nat) w h x s hn h4=>z4J v ps m w h x s hn h4 hl
 obtain⟨a,cap,rfl⟩:=h.shape;have hw:=z5p (ps.map InstQ.e) n;have ad:=z4t (ps.map InstQ.e);rw[List.length_map]at ad;generalize dfC (ps.map InstQ.e) n=D at*;generalize dfT (ps.map InstQ.e) n=O at*;generalize ordF (ps.map InstQ.e)=C at*;generalize decN (ps.map InstQ.e)=M at*;have hB:Below w.heap.size w (w.alloc (.cells #[.int .i64 0,.slice none 0 0] 29)):=by go_grown
 have Rb:=Blk.new w 29 #[.int .i64 0,.slice none 0 0];go_enter Tryz.func19,Tryz.ntmps19
 go_wp2_with fail
 generalize w.alloc (.cells #[.int .i64 0,.slice none 0 0] 29)=W at*;refine(Y W (h.below hB)).mono ?_;rintro e w1 ⟨rfl,hb⟩;replace hB:=hB.trans (hb.mono hB.size);replace Rb:=Rb.below hb;clear hb Y;by_cases hC:C=0
 case neg=>
  have ae:(C !=0)=true:=by simpa using hC
  have E1:Hid (D=C∧O=[]):=by
   rcases hw with⟨_,e1,e2⟩|⟨h1,_⟩|⟨h1,_⟩
   ·exact⟨e1,e2⟩
   ·exact absurd h1 hC
   ·exact absurd h1 hC
  clear hw HO hC;obtain⟨q0,q1⟩:=Rb.cel2;obtain⟨f0,f1⟩:=Rb.frz2;obtain⟨N,z⟩:=Kind.own_nil (K:=txnK) w;clear N
  go_wp2
  exact bodyPost_ret (v:=.agg #[.int .i64 C,.slice none 0 0]) (by simp[results,Tryz.results19,go_sem,q0,q1]) rfl ⟨.slice none 0 0,[],by rw[E1.out.1],by rw[E1.out.2];rfl,(Kind.own_nil _).1,by rw[z];simp,by rw[z];simp,(hB.setCell (p:=⟨w.heap.size,0,none⟩) (Nat.le_refl _) _).setCell (p:=⟨w.heap.size,1,none⟩) (Nat.le_refl _) _⟩
 case pos=>
 obtain⟨p1,p4,L⟩:=HO.out hC;have x:(∀p∈ps,(∀t∈p.batch,0<t.acts.length)∧(∀r∈p.rounds,0<r.rep.length∧0<r.pro.length)∧0<p.dec.length):=fun q hq=>z1t (L q hq)
 have s:∀p∈ps,p.batch.length≤4:=fun q hq=>q1O (L q hq)
 subst hC;clear HO L
 go_wp2_with fail
 refine(V w1 (h.below hB) p1 p4).mono ?_;rintro e w2 ⟨rfl,hb⟩;replace hB:=hB.trans (hb.mono hB.size);replace Rb:=Rb.below hb;clear hb V;have c:=fun w=>z0E n 0 (M:Int) w
 by_cases hr:0≤n∧n≤(M:Int)
 case neg=>
  have E1:Hid (D=3∧O=[]):=by
   rcases hw with⟨h1,_⟩|⟨_,_,e1,e2⟩|⟨_,h1,_⟩
   ·exact absurd rfl h1
   ·exact⟨e1,e2⟩
   ·exact absurd h1 hr
  have A:inB n 0 (M:Int)=false:=decide_eq_false hr;rw[A]at c
  go_wp2_with fail
  refine(c w2).mono ?_;rintro e w' ⟨rfl,d⟩;replace d:=d.symm;subst d;clear hw hr c A J;obtain⟨q0,q1⟩:=Rb.cel2;obtain⟨f0,f1⟩:=Rb.frz2;obtain⟨N,z⟩:=Kind.own_nil (K:=txnK) w;clear N
  go_wp2
  exact bodyPost_ret (v:=.agg #[.int .i64 3,.slice none 0 0]) (by simp[results,Tryz.results19,go_sem,q0,q1]) rfl ⟨.slice none 0 0,[],by rw[E1.out.1],by rw[E1.out.2];rfl,(Kind.own_nil _).1,by rw[z];simp,by rw[z];simp,(hB.setCell (p:=⟨w.heap.size,0,none⟩) (Nat.le_refl _) _).setCell (p:=⟨w.heap.size,1,none⟩) (Nat.le_refl _) _⟩
 case pos=>
  obtain⟨e1,e2⟩:D=0∧O=defL (ps.map InstQ.e) n.toNat:=by
   rcases hw with⟨h1,_⟩|⟨_,h1,_⟩|⟨_,_,e1,e2⟩
   ·exact absurd rfl h1
   ·exact absurd hr h1
   ·exact⟨e1,e2⟩
  have Z:Hid (D=0):=e1;have A:inB n 0 (M:Int)=true:=decide_eq_true hr;rw[A]at c;obtain⟨m,rfl⟩:∃m:Nat,n=(m:Int):=⟨n.toNat,by omega⟩
  rw[Int.toNat_natCast]at e2;have U:=fun w h=>J m w h x s (by omega) p4
  rw[←e2]at U
  go_wp2_with fail
  refine(c w2).mono ?_;rintro e w' ⟨rfl,d⟩;replace d:=d.symm;subst d;clear hw c A J e1 e2 x s;have af:=Rb.lt
  go_wp2_with fail
  refine(U w2 (h.below hB)).mono ?_;rintro e w5 ⟨v',Q5,rfl,HQ,G,X,y,I⟩;obtain⟨xa,xc,rfl⟩:=G.shape;have R5:=Rb.below I;obtain⟨q0,q1⟩:=R5.cel2;obtain⟨f0,f1⟩:=R5.frz2;have aa:Hid (_=O):=HQ;have E:Hid (∀u u',txnK.Own ((w5.setCell ⟨w.heap.size,0,none⟩ u).setCell ⟨w.heap.size,1,none⟩ u') (.slice xa Q5.length xc) Q5∧Below w.heap.size w ((w5.setCell ⟨w.heap.size,0,none⟩ u).setCell ⟨w.heap.size,1,none⟩ u')):=fun u u'=>by
   refine⟨G.out (((Out.refl [w.heap.size] w5).set (b:=w.heap.size) (j:=0) (u:=u) (by simp)).set (b:=w.heap.size) (j:=1) (u:=u') (by simp)) (fun k hk=>by have:=y k hk;simp only[List.mem_singleton];omega),?_⟩;have ab:=hB.trans (I.mono hB.size);exact(ab.setCell (p:=⟨w.heap.size,0,none⟩) (Nat.le_refl _) _).setCell (p:=⟨w.heap.size,1,none⟩) (Nat.le_refl _) _
  have T:Hid ((txnK.fp (.slice xa Q5.length xc) Q5).Nodup∧∀k∈txnK.fp (.slice xa Q5.length xc) Q5,w.heap.size≤k):=⟨X,fun k hk=>by have:=y k hk;omega⟩
  clear G X y I hB Rb R5 HQ
  go_wp2
  exact bodyPost_ret (v:=.agg #[.int .i64 0,.slice xa Q5.length xc]) (by simp[results,Tryz.results19,go_sem,q0,q1]) rfl ⟨.slice xa Q5.length xc,Q5,by rw[Z.out],aa.out,(E.out _ _).1,T.out.1,T.out.2,(E.out _ _).2⟩
theorem z3p(i s q:Int)(a:Option Addr)(n c:Nat)(i' s' q':Int)(a':Option Addr)(n' c':Nat)(xs ys:List ActD)(w:World):
  Calls Tryz.prog 183 #[.agg #[.int .i64 i,.int .i64 s,.int .i64 q,.slice a n c],.agg #[.int .i64 i',.int .i64 s',.int .i64 q',.slice a' n' c']] w fun e w'=>e=.returned (.bool (stF ⟨i,s,q,xs⟩ ⟨i',s',q',ys⟩))∧Below w.heap.size w w':=by
 unfold stF;dsimp only
 cases h1:(i==i')
 ·cases h2:(s==s')
  ·go_enter Tryz.func183,Tryz.ntmps183
   go_wp2
   go_ret;exact⟨rfl,by go_grown⟩
  ·cases h3:(q==q')
   ·go_enter Tryz.func183,Tryz.ntmps183
    go_wp2
    go_ret;exact⟨rfl,by go_grown⟩
   ·go_enter Tryz.func183,Tryz.ntmps183
    go_wp2
    go_ret;exact⟨rfl,by go_grown⟩
 ·go_enter Tryz.func183,Tryz.ntmps183
  go_wp2
  go_ret;exact⟨rfl,by go_grown⟩
theorem z7I(i s q:Int)(a:Option Addr)(n c:Nat)(xs:List ActD)(x:TxnD)(bx:Nat)(a':Option Addr)(n' c':Nat)(w:World)(hX:Blk w bx 44 #[.int .i64 x.id,.int .i64 x.session,.int .i64 x.seq,.slice a' n' c']):
  Calls Tryz.prog 182 #[.agg #[.int .i64 i,.int .i64 s,.int .i64 q,.slice a n c],.pointer (some ⟨bx,0,none⟩)] w fun e w'=>e=.returned (.bool (stF ⟨i,s,q,xs⟩ x))∧Below w.heap.size w w':=by
 obtain⟨xi,xs',xq,xa⟩:=x;have hB:Below w.heap.size w (w.alloc (.cells #[.int .i64 i,.int .i64 s,.int .i64 q,.slice a n c] 44)):=by go_grown
 have hX':=hX.below hB;have hq:=fun w=>z3p i s q a n c xi xs' xq a' n' c' xs xa w
 have x0:=hX'.cell 0 _ rfl;have x1:=hX'.cell 1 _ rfl;have x2:=hX'.cell 2 _ rfl;have x3:=hX'.cell 3 _ rfl;generalize stF ⟨i,s,q,xs⟩ ⟨xi,xs',xq,xa⟩=E at*;go_enter Tryz.func182,Tryz.ntmps182
 go_wp2_with fail
 refine(hq _).mono ?_;rintro e w2 ⟨rfl,hb2⟩;replace hB:=hB.trans (hb2.mono hB.size)
 go_wp2
 go_ret;exact⟨rfl,hB⟩
theorem z4K(v:Value)(ps:List TxnQ)(x:TxnD)(bx:Nat)(a':Option Addr)(n' c':Nat)(w:World)(h:txnK.At w v ps)(hX:Blk w bx 44 #[.int .i64 x.id,.int .i64 x.session,.int .i64 x.seq,.slice a' n' c'])(hl:ps.length≤1048576):
  Calls Tryz.prog 181 #[v,.func (.func 182) #[] #[.pointer (some ⟨bx,0,none⟩)]] w fun e w'=>∃r:Int,e=.returned (.int .i64 r)∧(knw (ps.map TxnQ.e) x=true→0≤r)∧(knw (ps.map TxnQ.e) x=false→r<0)∧Below w.heap.size w w':=by
 obtain⟨a,cap,rfl⟩:=h.shape;generalize hE:knw (ps.map TxnQ.e) x=E;have HE:Hid (knw (ps.map TxnQ.e) x=E):=hE;clear hE;go_enter Tryz.func181,Tryz.ntmps181
 go_wp2
 go_loopw[8] (fun j wr=>∃k:Nat,k≤ps.length∧j=.int .i64 k∧Below w.heap.size w wr∧Hid (∀j,j<k→stF ((ps.map TxnQ.e).getD j z2u) x=false)) (fun j _=>ps.length-(intOf j).toNat)
 case atStart=>exact⟨0,Nat.zero_le _,rfl,Below.refl _ _,fun j hj=>absurd hj (Nat.not_lt_zero _)⟩
 case round=>
  obtain⟨k,hk,rfl,hb,HA⟩:=hrel;by_cases y:k<ps.length
  ·obtain⟨b',J,rfl,G,hc,z⟩:=(h.below hb).cell (by decide) k y;have d:∀j x,(txnK.cells ps[k])[j]?=some x→wr.cell? ⟨b',J+k*4+j,none⟩=some x:=hc;have c0:=d 0 (.int .i64 ps[k].i) rfl;have c1:=d 1 (.int .i64 ps[k].s) rfl;have c2:=d 2 (.int .i64 ps[k].q) rfl;have c3:=d 3 (ps[k].va) rfl;rw[Nat.add_zero]at c0;have HY:Hid (stF (TxnQ.e ps[k]) x=true→E=true):=fun hx=>by rw[←HE.out];exact z8O k (by simpa using y) (by rw[z3o ps k y];exact hx)
   have HN:Hid (stF (TxnQ.e ps[k]) x=false→∀j,j<k+1→stF ((ps.map TxnQ.e).getD j z2u) x=false):=fun hx j hj=>by
    by_cases I:j=k
    ·subst I;rw[z3o ps j y];exact hx
    ·exact HA.out j (by omega)
   clear HA hc d;generalize ps[k]=p at*;obtain⟨i,s,q,L,c⟩:=p;replace z:actK.At wr L c:=z;obtain⟨aa,ac,rfl⟩:=z.shape;dsimp only[TxnQ.e]at c0 c1 c2 c3 HY HN;have hq:=z7I i s q aa c.length ac c x bx a' n' c' wr (hX.below hb);generalize stF ⟨i,s,q,c⟩ x=S at*;have C:(k:Int)<(ps.length:Int):=by omega
   go_wp2_with fail
   refine hq.mono ?_;rintro e w2 ⟨rfl,A⟩;replace hb:=hb.trans (A.mono hb.size);clear hq c0 c1 c2 c3 A z G
   cases S with
   |true=>
    have E1:Hid (E=true):=HY.out rfl;clear HY HN
    go_wp2
    go_ret;refine⟨_,rfl,fun _=>by omega,fun h0=>?_,hb⟩;rw[E1.out]at h0;exact absurd h0 (by decide)
   |false=>
    have D:Hid _:=HN.out rfl;clear HY HN
    go_wp2
    go_roundw
    case rel=>exact⟨k+1,by omega,by go_num,hb,D.out⟩
    case measure=>simp[intOf];omega
  ·have E1:Hid (E=false):=by rw[←HE.out];exact z9K (fun j hj=>HA.out j (by simp at hj;omega))
   have C:¬(k:Int)<(ps.length:Int):=by omega
   clear HA HE
   go_wp2
   go_ret;refine⟨_,rfl,fun h0=>?_,fun _=>by omega,hb⟩;rw[E1.out]at h0;exact absurd h0 (by decide)
theorem z3q(v:Value)(ps:List TxnQ)(x:TxnD)(bx:Nat)(a':Option Addr)(n' c':Nat)(w:World)(h:txnK.At w v ps)(hX:Blk w bx 44 #[.int .i64 x.id,.int .i64 x.session,.int .i64 x.seq,.slice a' n' c'])(hl:ps.length≤1048576):
  Calls Tryz.prog 129 #[v,.func (.func 182) #[] #[.pointer (some ⟨bx,0,none⟩)]] w fun e w'=>e=.returned (.bool (knw (ps.map TxnQ.e) x))∧Below w.heap.size w w':=by
 have hq:=z4K v ps x bx a' n' c' w h hX hl;obtain⟨a,cap,rfl⟩:=h.shape;generalize knw (ps.map TxnQ.e) x=E at*;go_enter Tryz.func129,Tryz.ntmps129
 go_wp2_with fail
 refine hq.mono ?_;rintro e w2 ⟨r,rfl,h1,h2,hb⟩
 cases E with
 |true=>
  have h0:0≤r:=h1 rfl;clear h1 h2
  go_wp2
  go_ret;exact⟨by simp[h0],hb⟩
 |false=>
  have h0:¬0≤r:=by have:=h2 rfl;omega
  clear h1 h2
  go_wp2
  go_ret;exact⟨by simp[h0],hb⟩
theorem z4L(v:Value)(ps:List TxnQ)(x:TxnD)(a':Option Addr)(n' c':Nat)(w:World)(h:txnK.At w v ps)(hl:ps.length≤1048576):
  Calls Tryz.prog 131 #[v,.agg #[.int .i64 x.id,.int .i64 x.session,.int .i64 x.seq,.slice a' n' c']] w fun e w'=>e=.returned (.bool (knw (ps.map TxnQ.e) x))∧Below w.heap.size w w':=by
 have hB:Below w.heap.size w (w.alloc (.cells #[.int .i64 x.id,.int .i64 x.session,.int .i64 x.seq,.slice a' n' c'] 44)):=by go_grown
 have hq:=z3q v ps x w.heap.size a' n' c' _ (h.below hB) (Blk.new w 44 #[.int .i64 x.id,.int .i64 x.session,.int .i64 x.seq,.slice a' n' c']) hl;have hmf:∀ (fn:Fn) (first cap:Array Value) (w:World),(Instr.makeFunc fn first cap).run Tryz.prog w=.ok (.func fn first cap) w:=fun _ _ _ _=>rfl
 obtain⟨a,cap,rfl⟩:=h.shape;generalize knw (ps.map TxnQ.e) x=E at*;obtain⟨xi,xs,xq,xa⟩:=x;dsimp only at hB hq⊢;go_enter Tryz.func131,Tryz.ntmps131
 go_wp2_with fail
 refine hq.mono ?_;rintro e w2 ⟨rfl,hb2⟩;replace hB:=hB.trans (hb2.mono hB.size);clear hmf
 go_wp2
 go_ret;exact⟨rfl,hB⟩
def stpF(acc:List TxnD)(t:TxnD):Int:=if t.F=0 then(if knw acc t then 6 else 0)else t.F
def z3M:List TxnD→List TxnD→Int
 |_,[]=>0
 |acc,t::r=>if stpF acc t=0 then z3M (acc++[t]) r else stpF acc t
def lstF(ds:List TxnD):Int:=if 40<ds.length then 2 else z3M [] ds
def z8P:List (List TxnD)→Int
 |[]=>0
 |d::r=>if lstF d=0 then z8P r else lstF d
theorem z9y(ds:List TxnD)(k:Nat)(hk:k<ds.length):z3M (ds.take k) (ds.drop k)=if stpF (ds.take k) ds[k]=0 then z3M (ds.take (k+1)) (ds.drop (k+1))else stpF (ds.take k) ds[k]:=by
 conv=>lhs;rw[List.drop_eq_getElem_cons hk]
 rw[z3M,List.take_succ_eq_append_getElem hk]
theorem z8Q(ds:List TxnD)(k:Nat)(hk:ds.length≤k):z3M (ds.take k) (ds.drop k)=0:=by
 rw[List.drop_of_length_le hk];rfl
theorem q0z(ls:List (List TxnD))(k:Nat)(hk:k<ls.length):z8P (ls.drop k)=if lstF ls[k]=0 then z8P (ls.drop (k+1))else lstF ls[k]:=by
 rw[List.drop_eq_getElem_cons hk,z8P]
theorem Kind.At.rdm{P:Type}{K:Kind P}{w:World}{v:Value}{ps:List P}{p:P}(h:K.At w v ps)(hp:p∈ps):K.rd w p:=by
 obtain⟨a,c,e,hl,hr⟩:=h;exact hr p hp
theorem Blk.setOne{w:World}{b:Nat}{t:TypeId}{x y:Value}(h:Blk w b t #[x]):Blk (w.setCell ⟨b,0,none⟩ y) b t #[y]:=by
 have h1:w.heap[b]?=some (.cells #[x] t (0,0)):=h;show(w.setCell ⟨b,0,none⟩ y).heap[b]?=some (.cells #[y] t (0,0));simp[World.setCell,Array.getElem?_modify,h1]
theorem z5v(p:TxnQ)(qs:List TxnQ)(bx:Nat)(va:Value)(w:World)(hT:actK.At w p.va p.acts)(hl:p.acts.length≤1048576)(hv:Blk w bx 27 #[va])(ho:w.ownsRow (bx+1) 44 4 va qs.length (txnK.row qs))(T:∀q∈qs,txnK.rd w q)(hq:qs.length≤40):
  Calls Tryz.prog 161 #[.agg #[.int .i64 p.i,.int .i64 p.s,.int .i64 p.q,p.va],.pointer (some ⟨bx,0,none⟩)] w fun e w'=>e=.returned (.int .i64 (stpF (qs.map TxnQ.e) (TxnQ.e p)))∧Below bx w w'∧(stpF (qs.map TxnQ.e) (TxnQ.e p)=0→∃V,Blk w' bx 27 #[V]∧w'.ownsRow (bx+1) 44 4 V (qs++[p]).length (txnK.row (qs++[p]))):=by
 obtain⟨i,s,q,pv,c⟩:=p;dsimp only at hT hl;obtain⟨aa,ac,rfl⟩:=hT.shape;obtain⟨sa,sc,rfl⟩:=z0p ho;obtain⟨i0,hi,af,ag,ah⟩:=info_parts z1G;have ai:=hv.lt;have hB:Below w.heap.size w (w.alloc (.cells #[.int .i64 i,.int .i64 s,.int .i64 q,.slice aa c.length ac] 44)):=by go_grown
 have hX:=Blk.new w 44 #[.int .i64 i,.int .i64 s,.int .i64 q,.slice aa c.length ac];have J:=z3u i s q aa ac c _ ((z2x hT).2.below hB) hl;replace hv:=hv.below hB;replace ho:=z0n ho hB;have A:txnK.At (w.alloc (.cells #[.int .i64 i,.int .i64 s,.int .i64 q,.slice aa c.length ac] 44)) (.slice sa qs.length sc) qs:=Kind.at_of_row ho (fun q hq=>txnK.rd_below (T q hq) hB);have HS:Hid (stpF (qs.map TxnQ.e) ⟨i,s,q,c⟩=if txnF i s q c=0 then(if knw (qs.map TxnQ.e) ⟨i,s,q,c⟩then 6 else 0)else txnF i s q c):=rfl;dsimp only[TxnQ.e];generalize stpF (qs.map TxnQ.e) ⟨i,s,q,c⟩=S at*;generalize txnF i s q c=C at*;clear hT T;go_enter Tryz.func161,Tryz.ntmps161
 go_wp2_with fail
 have X:=hB.size;have al:w.heap.size<(w.alloc (.cells #[.int .i64 i,.int .i64 s,.int .i64 q,.slice aa c.length ac] 44)).heap.size:=by simp
 generalize w.heap.size=H at*;generalize w.alloc (.cells #[.int .i64 i,.int .i64 s,.int .i64 q,.slice aa c.length ac] 44)=W at*;refine J.mono ?_;rintro e w1 ⟨rfl,d⟩;replace hv:=hv.below d;replace ho:=z0n ho d;replace hX:=hX.below d;replace A:=A.below d;replace hB:=hB.trans (d.mono X);by_cases hC:C=0
 ·subst hC;rw[if_pos rfl]at HS;have hh:=z4L (.slice sa qs.length sc) qs ⟨i,s,q,c⟩ aa c.length ac w1 A (by omega);dsimp only at hh;obtain⟨x0,x1,x2,x3⟩:=hX.cel4;have v0:=hv.cell 0 _ rfl;generalize knw (qs.map TxnQ.e) ⟨i,s,q,c⟩=Y at*;clear J A
  go_wp2_with fail
  refine hh.mono ?_;rintro e w2 ⟨rfl,y⟩;clear x0 x1 x2 x3 v0 hh;replace hv:=hv.below y;replace ho:=z0n ho y;replace hX:=hX.below y;have aj:=y.size;have ad:=d.size;replace hB:=hB.trans (y.mono (by omega));clear d y
  cases Y with
  |true=>
   have z:Hid (S=6):=HS.out;clear HS
   go_wp2
   go_ret;rw[z.out];exact⟨rfl,hB.mono (by omega),fun h0=>absurd h0 (by decide)⟩
  |false=>
   have z:Hid (S=0):=HS.out;clear HS;obtain⟨x0,x1,x2,x3⟩:=hX.cel4;have v0:=hv.cell 0 _ rfl;have E:Below w2.heap.size w2 (w2.alloc (.cells #[.int .i64 i,.int .i64 s,.int .i64 q,.slice aa c.length ac] 44)):=by go_grown
   have U:=hv.below E;have G:=z0n ho E;have L:=hB.trans (E.mono (by omega));have ak:=E.size;clear hv ho hB hX
   go_wp2_with (at_builtin;refine wpList_append_own_at _ rfl _ _ 27 rfl (bx+1) 44 i0 (.agg #[.int .i64 0,.int .i64 0,.int .i64 0,.slice none 0 0]) 4 48 Tryz.underlying27 hi af ag ah rfl (by decide) _ qs.length (txnK.row qs) rfl G ⟨w2.heap.size,0,none⟩ 1 1 [.int .i64 i,.int .i64 s,.int .i64 q,.slice aa c.length ac] rfl rfl ?c1 ?c2 ?c3 ?c4 ?c5 ?_)
   all_goals try(case c1=>intro j u hj;match j,hj with|0,hj=>simp at hj;subst hj;simp[Addr.add]|1,hj=>simp at hj;subst hj;simp[Addr.add]|2,hj=>simp at hj;subst hj;simp[Addr.add]|3,hj=>simp at hj;subst hj;simp[Addr.add])
   all_goals try(case c2=>intro u hu;simp at hu;rcases hu with rfl|rfl|rfl|rfl<;>rfl)
   all_goals try(case c3=>unfold maxLen;omega)
   all_goals try(case c4=>omega)
   all_goals try(case c5=>omega)
   intro v' w5 x r O M;obtain⟨a6,c6,rfl⟩:=z0p x;have D:Blk w5 bx 27 #[.slice sa qs.length sc]:=U.grown r (fun e=>by have:=(G.lt bx e.symm).1;omega);have N:Below bx w w5:=(L.mono (show bx≤_ by omega)).grown r (by omega) (fun j hj=>by have:=(G.lt j hj).1;omega);have I:txnK.row (qs++[(⟨i,s,q,.slice aa c.length ac,c⟩:TxnQ)])=txnK.row qs++[.int .i64 i,.int .i64 s,.int .i64 q,.slice aa c.length ac]:=by simp[Kind.row];rfl
   have f5:=D.frozen 0;have c5:=D.cell 0 _ rfl;have Z:Below bx w (w5.setCell ⟨bx,0,none⟩ (.slice a6 (qs.length+1) c6)):=Out.keep N (Out.setCell w5 bx 0 _) (by have:=D.lt;omega) (fun k hk=>by simp at hk;omega);have ae:Blk (w5.setCell ⟨bx,0,none⟩ (.slice a6 (qs.length+1) c6)) bx 27 #[.slice a6 (qs.length+1) c6]:=D.setOne;have ab:(w5.setCell ⟨bx,0,none⟩ (.slice a6 (qs.length+1) c6)).ownsRow (bx+1) 44 4 (.slice a6 (qs.length+1) c6) (qs++[(⟨i,s,q,.slice aa c.length ac,c⟩:TxnQ)]).length (txnK.row (qs++[(⟨i,s,q,.slice aa c.length ac,c⟩:TxnQ)])):=by
    rw[I,List.length_append];refine z48 x (Out.setCell w5 bx 0 _) (fun k hk e=>?_);simp only[List.mem_singleton]at e;subst e;have:=(x.lt k (by simpa[blk]using hk)).1;omega
   clear x r O M I G U N L D x0 x1 x2 x3 v0
   go_wp2
   go_ret;rw[z.out];exact⟨rfl,Z,fun _=>⟨_,ae,ab⟩⟩
 ·rw[if_neg hC]at HS;have z:Hid (S=C):=HS.out;clear HS J A;have ad:=d.size
  go_wp2
  go_ret;rw[z.out];exact⟨rfl,hB.mono (by omega),fun h0=>absurd h0 hC⟩
theorem z5w(w:World):Calls Tryz.prog 104 #[] w fun e w'=>e=.returned (.func (.func 161) #[] #[.pointer (some ⟨w.heap.size,0,none⟩)])∧w'=w.alloc (.cells #[.slice none 0 0] 27):=by
 have hmf:∀ (fn:Fn) (first cap:Array Value) (w:World),(Instr.makeFunc fn first cap).run Tryz.prog w=.ok (.func fn first cap) w:=fun _ _ _ _=>rfl
 go_enter Tryz.func104,Tryz.ntmps104
 go_wp2
 go_ret;exact⟨rfl,rfl⟩
theorem z4M(b cap:Nat)(ls:List (Value × List TxnQ))(w:World)(av:b<w.heap.size)(hc:∀ (k:Nat) (hk:k<ls.length),w.cell? ⟨b,k,none⟩=some ls[k].1)(hA:∀l∈ls,txnK.At w l.1 l.2)(hl:∀l∈ls,l.2.length+nmL TxnQ.n l.2≤1048576)(h2:ls.length≤2):
  Calls Tryz.prog 57 #[.slice (some ⟨b,0,none⟩) ls.length cap] w fun e w'=>e=.returned (.int .i64 (z8P (ls.map (fun l=>l.2.map TxnQ.e))))∧Below w.heap.size w w':=by
 generalize hE:z8P (ls.map (fun l=>l.2.map TxnQ.e))=E;have HE:Hid (z8P ((ls.map (fun l=>l.2.map TxnQ.e)).drop 0)=E):=hE;clear hE;go_enter Tryz.func57,Tryz.ntmps57
 go_wp2
 go_loopw[11] (fun j wr=>∃k:Nat,k≤ls.length∧j=.int .i64 k∧Below w.heap.size w wr∧Hid (z8P ((ls.map (fun l=>l.2.map TxnQ.e)).drop k)=E)) (fun j _=>ls.length-(intOf j).toNat)
 case atStart=>exact⟨0,Nat.zero_le _,rfl,Below.refl _ _,HE⟩
 case round=>
  clear HE;obtain⟨k,hk,rfl,hb,HE⟩:=hrel;obtain⟨U,rfl⟩:∃U,U=wr:=⟨_,rfl⟩
  by_cases D:k<ls.length
  ·have d:Hid ((if lstF (ls[k].2.map TxnQ.e)=0 then z8P ((ls.map (fun l=>l.2.map TxnQ.e)).drop (k+1))else lstF (ls[k].2.map TxnQ.e))=E):=show _=_ by
    have:=HE.out;rw[q0z _ k (by simpa using D)]at this;simpa using this
   have af:=(hb.cell (p:=⟨b,k,none⟩) av).trans (hc k D);have J:=(hA _ (List.getElem_mem D)).below hb;have T:=hl _ (List.getElem_mem D);generalize ls[k]=l at*;obtain⟨v,ps⟩:=l;dsimp only at af J T d;obtain⟨a,cp,rfl⟩:=J.shape;clear HE;have ai:(k:Int)<(ls.length:Int):=by omega
   by_cases X:40<ps.length
   ·have E1:Hid (E=2):=show _=_ by
     have:=d.out;have e2:lstF (ps.map TxnQ.e)=2:=by unfold lstF;rw[List.length_map,if_pos X]
     rw[e2]at this;exact this.symm
    clear d;have ab:(40:Int)<(ps.length:Int):=by omega
    go_wp2
    go_ret;rw[E1.out];exact⟨rfl,hb⟩
   ·have ab:¬(40:Int)<(ps.length:Int):=by omega
    have W:Hid (z3M (((ps.map TxnQ.e)).take 0) ((ps.map TxnQ.e).drop 0)=lstF (ps.map TxnQ.e)):=show _=_ by unfold lstF;rw[List.length_map,if_neg X];rfl
    have ah:=z5w U;have ae:Below U.heap.size U (U.alloc (.cells #[.slice none 0 0] 27)):=by go_grown
    have am:=Blk.new U 27 #[.slice none 0 0];have aj:=World.ownsRow_nil (U.alloc (.cells #[.slice none 0 0] 27)) (U.heap.size+1) 44 4;have an:=hb.size
    go_wp2_with fail
    clear af;refine ah.mono ?_;rintro e w2 ⟨rfl,rfl⟩;clear ah;generalize ar:U.heap.size=bx at*;generalize hY:U.alloc (.cells #[.slice none 0 0] 27)=Y at*;clear hY
    go_wp2
    go_loopw[21] (fun j wy=>∃ (m:Nat) (va:Value),m≤ps.length∧j=.int .i64 m∧Blk wy bx 27 #[va]∧wy.ownsRow (bx+1) 44 4 va (ps.take m).length (txnK.row (ps.take m))∧Below bx U wy∧Hid (z3M ((ps.map TxnQ.e).take m) ((ps.map TxnQ.e).drop m)=lstF (ps.map TxnQ.e))) (fun j _=>ps.length-(intOf j).toNat)
    case atStart=>exact⟨0,_,Nat.zero_le _,rfl,am,aj,ae,W⟩
    case round=>
     clear am aj ae W;obtain⟨m,va,hm,rfl,hv,ho,z,HG⟩:=hrel;by_cases c:m<ps.length
     ·have I:Hid ((if stpF ((ps.map TxnQ.e).take m) (TxnQ.e ps[m])=0 then z3M ((ps.map TxnQ.e).take (m+1)) ((ps.map TxnQ.e).drop (m+1))else stpF ((ps.map TxnQ.e).take m) (TxnQ.e ps[m]))=lstF (ps.map TxnQ.e)):=show _=_ by
       have:=HG.out;rw[z9y _ m (by simpa using c)]at this;simpa using this
      have A:Below U.heap.size U wr:=by rw[ar];exact z
      obtain⟨b',ay,rfl,aB,ag,ak⟩:=(J.below A).cell (by decide) m c;have C:∀j x,(txnK.cells ps[m])[j]?=some x→wr.cell? ⟨b',ay+m*4+j,none⟩=some x:=ag;have c0:=C 0 (.int .i64 ps[m].i) rfl;have c1:=C 1 (.int .i64 ps[m].s) rfl;have c2:=C 2 (.int .i64 ps[m].q) rfl;have c3:=C 3 (ps[m].va) rfl;rw[Nat.add_zero]at c0;have ao:=z2J TxnQ.n ps m c;have al:ps.take (m+1)=ps.take m++[ps[m]]:=List.take_succ_eq_append_getElem c;have N:∀q∈ps.take m,txnK.rd wr q:=fun q hq=>(J.below A).rdm (List.mem_of_mem_take hq)
      have T:(ps.take m).length≤40:=by rw[List.length_take];omega
      have M:=z5v ps[m] (ps.take m) bx va;rw[List.map_take,←al]at M;clear HG ag C al;generalize hS:stpF ((ps.map TxnQ.e).take m) (TxnQ.e ps[m])=S at*;clear hS;generalize ps[m]=p at*;obtain⟨i,s,q,az,r⟩:=p;have G:actK.At wr az r:=ak;replace ao:r.length≤nmL TxnQ.n ps:=ao;obtain⟨aa,ac,rfl⟩:=G.shape;dsimp only at c0 c1 c2 c3 M;have V:(m:Int)<(ps.length:Int):=by omega
      have y:Below wr.heap.size wr (wr.alloc (.cells #[.int .i64 i,.int .i64 s,.int .i64 q,.slice aa r.length ac] 44)):=by go_grown
      have hq:=M _ (G.below y) (by omega) (hv.below y) (z0n ho y) (fun q hq=>txnK.rd_below (N q hq) y) T;have L:=z.trans (y.mono (by have:=hv.lt;omega));clear M y hv ho G ak N z A
      go_wp2_with fail
      clear c0 c1 c2 c3;generalize wr.alloc (.cells #[.int .i64 i,.int .i64 s,.int .i64 q,.slice aa r.length ac] 44)=Z at*;refine hq.mono ?_;rintro e w3 ⟨rfl,ad,hI⟩;replace L:=L.trans ad;clear hq ad;by_cases O:S=0
      ·subst O;obtain⟨aA,ax,aw⟩:=hI rfl;clear hI;have aq:Hid (z3M ((ps.map TxnQ.e).take (m+1)) ((ps.map TxnQ.e).drop (m+1))=lstF (ps.map TxnQ.e)):=show _=_ by
        have:=I.out;rw[if_pos rfl]at this;exact this
       clear I
       go_wp2
       go_roundw
       case rel=>exact⟨m+1,aA,by omega,by go_num,ax,aw,L,aq⟩
       case measure=>simp[intOf];omega
      ·have E1:Hid (E=S):=show _=_ by
        have h3:=I.out;rw[if_neg O]at h3;have h4:=d.out;rw[←h3,if_neg O]at h4;exact h4.symm
       clear I d hI
       go_wp2
       go_ret;rw[E1.out];exact⟨rfl,hb.trans (L.mono an)⟩
     ·have h0:lstF (ps.map TxnQ.e)=0:=by rw[←HG.out];exact z8Q _ _ (by simpa using Nat.le_of_not_lt c)
      have ap:Hid (z8P ((ls.map (fun l=>l.2.map TxnQ.e)).drop (k+1))=E):=show _=_ by
       have:=d.out;rw[if_pos h0]at this;exact this
      have V:¬(m:Int)<(ps.length:Int):=by omega
      have au:Below w.heap.size w wr:=hb.trans (z.mono an);clear HG d hv ho z
      go_wp2
      go_roundw
      case rel=>exact⟨k+1,by omega,by go_num,au,ap⟩
      case measure=>simp[intOf];omega
  ·have E1:Hid (E=0):=by
    show _=_;rw[←HE.out,List.drop_of_length_le (by simpa using Nat.le_of_not_lt D)];rfl
   have ai:¬(k:Int)<(ls.length:Int):=by omega
   clear HE
   go_wp2
   go_ret;rw[E1.out];exact⟨rfl,hb⟩
theorem z3r(v:Value)(ps:List TxnQ)(w:World)(h:txnK.At w v ps)(hl:ps.length+nmL TxnQ.n ps≤1048576):
  Calls Tryz.prog 21 #[v] w fun e w'=>e=.returned (.int .i64 (lstF (ps.map TxnQ.e)))∧Below w.heap.size w w':=by
 have hB:Below w.heap.size w (w.alloc (.cells #[v] 27)):=by go_grown
 have hX:=Blk.new w 27 #[v];have hq:=z4M w.heap.size 1 [(v,ps)] (w.alloc (.cells #[v] 27)) hX.lt (fun k hk=>by
  have h0:k=0:=by simpa using hk
  subst h0;exact hX.cell 0 _ rfl) (fun l hl=>by rw [List.mem_singleton.1 hl];exact h.below hB) (fun l hl=>by rw [List.mem_singleton.1 hl];assumption) (by simp)
 have e0:z8P ([(v,ps)].map (fun l:Value × List TxnQ=>l.2.map TxnQ.e))=lstF (ps.map TxnQ.e):=by
  show(if lstF (ps.map TxnQ.e)=0 then 0 else lstF (ps.map TxnQ.e))=_;split
  ·rename_i h0;exact h0.symm
  ·rfl
 rw[e0]at hq;clear e0;generalize lstF (ps.map TxnQ.e)=E at*;obtain⟨a,cap,rfl⟩:=h.shape;clear hX;go_enter Tryz.func21,Tryz.ntmps21
 go_wp2_with fail
 refine Calls.mono (show Calls Tryz.prog _ #[.slice (some ⟨w.heap.size,0,none⟩) 1 1] _ _ from hq) ?_;rintro e w2 ⟨rfl,hb⟩;replace hB:=hB.trans (hb.mono hB.size)
 go_wp2
 go_ret;exact⟨rfl,hB⟩
def Dif(xs:List TxnD):Prop:=xs.Pairwise (fun a b=>stF a b=false)
theorem z9z{acc:List TxnD}{t:TxnD}(h:Dif acc)(hk:knw acc t=false):Dif (acc++[t]):=by
 unfold Dif;rw[List.pairwise_append];refine⟨h,List.pairwise_singleton _ _,fun a ha b hb=>?_⟩;simp only[List.mem_singleton]at hb;subst hb;unfold knw at hk;rw[List.any_eq_false]at hk;simpa using hk a ha
theorem z8R:∀ (xs acc:List TxnD),Dif acc→Dif (onc acc xs)
 |[],acc,h=>h
 |t::r,acc,h=>by
  simp only[onc];refine z8R r _ ?_;split
  ·exact h
  ·rename_i hk
   exact z9z h (by simpa using hk)
theorem z9L:∀ (r acc:List TxnD),(∀t∈r,t.F=0)→Dif (acc++r)→z3M acc r=0
 |[],acc,_,_=>rfl
 |t::r,acc,hF,hD=>by
  have hk:knw acc t=false:=by
   unfold knw;rw[List.any_eq_false];intro a ha;unfold Dif at hD;rw[List.pairwise_append]at hD;have:=hD.2.2 a ha t (by simp);simpa using this
  have h0:stpF acc t=0:=by
   unfold stpF;rw[if_pos (hF t (by simp)),hk];rfl
  rw[z3M,if_pos h0];exact z9L r _ (fun t' h'=>hF t' (List.mem_cons_of_mem _ h')) (by simpa using hD)
theorem q0A{xs:List TxnD}(h:Dif xs)(k i:Nat)(hk:k<i)(hi:i<xs.length):stF (xs.getD k z2u) (xs.getD i z2u)=false:=by
 have:=List.pairwise_iff_getElem.1 h k i (by omega) hi hk;simpa[List.getD,hi,show k<xs.length by omega]using this
theorem q1q{ds:List InstE}{n:Int}(h:dfC ds n=0):ordF ds=0∧dfC ds (diV ds)=0∧preT (dfT ds n) (dfT ds (diV ds))=true∧lstF (dfT ds n)=0∧Dif (dfT ds n):=by
 rcases z5p ds n with⟨h0,e,_⟩|⟨_,_,e,_⟩|⟨h0,hn,_,e⟩
 ·exact absurd (e.symm.trans h) h0
 ·rw[e]at h;exact absurd h (by decide)
 ·have d0:diV ds=(decN ds:Int):=by unfold diV;rw[if_pos h0]
  have c0:dfC ds (decN ds:Int)=0:=by unfold dfC;rw[if_pos h0,if_pos (by omega)]
  have t0:dfT ds (decN ds:Int)=defL ds (decN ds):=by unfold dfT;rw[if_pos c0];simp
  have hm:=z1m h0;have hlen:(defL ds n.toNat).length≤40:=by
   have a1:=z5m (z2P (ds.take n.toNat)) [];have a2:=z8H (ds:=ds.take n.toNat) (fun x hx=>hm x (List.mem_of_mem_take hx));have a3:=((z0P ds).1 h0).1.2;have a4:(ds.take n.toNat).length≤ds.length:=List.length_take_le' _ _;unfold defL;simp only[List.length_nil]at a1;omega
  have hD:Dif (defL ds n.toNat):=z8R _ _ List.Pairwise.nil;rw[d0,t0,e];refine⟨h0,c0,?_,?_,hD⟩
  ·obtain⟨zs,e2⟩:=z8A ds n.toNat (decN ds) (by omega);rw[e2];exact z8B _ _
  ·unfold lstF;rw[if_neg (by omega)];exact z9L _ [] (q1g hm _) (by simpa using hD)
theorem q1r{ds:List InstE}(h:niC ds=0):ordF (niO ds)=0∧(niO ds).length=ds.length+1:=by
 rcases z4B ds with⟨h0,e,_⟩|⟨_,_,e,_⟩|⟨_,_,_,e,_⟩|⟨h0,hd,h4,_,e⟩
 ·exact absurd (e.symm.trans h) h0
 ·rw[e]at h;exact absurd h (by decide)
 ·rw[e]at h;exact absurd h (by decide)
 ·rw[e];obtain⟨hl,ha⟩:=(z0P ds).1 h0;have hln:(ds++[z6e]).length=ds.length+1:=by simp
  refine⟨?_,hln⟩;rw[z0P,hln];refine⟨by omega,fun k hk=>?_⟩;by_cases hk1:k<ds.length
  ·have e2:(ds++[z6e]).getD k z0D=ds.getD k z0D:=by
    simp only[List.getD];rw[List.getElem?_append_left hk1]
   rw[e2];refine⟨(ha k hk1).1,fun _=>q0x h0 k (by have:=z4t ds;omega)⟩
  ·have hk2:k=ds.length:=by omega
   have e2:(ds++[z6e]).getD k z0D=z6e:=by
    subst hk2;simp[List.getD]
   rw[e2];exact⟨z6y,fun hk3=>by omega⟩
theorem at2{w:World}{a:Option Addr}{m cap:Nat}{ps:List TxnQ}(h:txnK.At w (.slice a m cap) ps)(i k:Nat)(hi:i<ps.length)(hk:k<ps.length):
  ∃b off,a=some ⟨b,off,none⟩∧w.cell? ⟨b,off+i*4,none⟩=some (.int .i64 ps[i].i)∧w.cell? ⟨b,off+i*4+1,none⟩=some (.int .i64 ps[i].s)∧w.cell? ⟨b,off+i*4+2,none⟩=some (.int .i64 ps[i].q)∧w.cell? ⟨b,off+k*4,none⟩=some (.int .i64 ps[k].i)∧w.cell? ⟨b,off+k*4+1,none⟩=some (.int .i64 ps[k].s)∧w.cell? ⟨b,off+k*4+2,none⟩=some (.int .i64 ps[k].q):=by
 obtain⟨b,off,e,_,hc,_⟩:=h.cell (by decide) i hi;obtain⟨b',off',e',_,hc',_⟩:=h.cell (by decide) k hk;rw[e]at e';simp only[Option.some.injEq,Addr.mk.injEq]at e';obtain⟨rfl,rfl,_⟩:=e';exact⟨b,off,e,hc 0 _ rfl,hc 1 _ rfl,hc 2 _ rfl,hc' 0 _ rfl,hc' 1 _ rfl,hc' 2 _ rfl⟩
theorem q1u(a:Option Addr)(cap:Nat)(zs:List Int)(w:World)(hG:RulO w)(h:Row .u8 w a zs)(hu:∀i,0≤zs.getD i 0∧zs.getD i 0≤255)(hm:zs.length≤9223372036854775807):
  Calls Tryz.prog 3 #[.slice a zs.length cap] w fun e w'=>e=.returned (.bool true)∧Below w.heap.size w w':=by
 by_cases W:zs.length≤1048576
 case neg=>
  have hd:decide (1048576<(zs.length:Int))=true:=decide_eq_true (by omega);go_enter Tryz.func3,Tryz.ntmps3
  go_wp2_with fail
  refine(z2R a zs.length cap w hm).mono ?_;rintro e w1 ⟨rfl,hw⟩;subst hw;rw[hd]
  go_wp2
  go_ret;exact⟨rfl,Below.refl _ _⟩
 have b0:Below w.heap.size w w:=Below.refl _ _;have hd:decide (1048576<(zs.length:Int))=false:=decide_eq_false (by omega);go_enter Tryz.func3,Tryz.ntmps3
 go_wp2_with fail
 refine(z2R a zs.length cap w hm).mono ?_;rintro e w1 ⟨rfl,hw⟩;replace hw:=hw.symm;subst hw;rw[hd]
 go_wp2_with fail
 refine(z2X a cap zs w h hu W).mono ?_;rintro e w2 ⟨v,ps,n,rfl,h5,E,hO,hb⟩;replace b0:=b0.trans (hb.mono b0.size);replace hG:=hG.below hb;clear hb;have D:ps.length+nmL InstQ.n ps≤1048576:=by have:=z1k InstQ.n 1000 ps E;omega
 obtain⟨z,kl,rfl⟩:=hO.shape;have d:=hO.at;have cP:=hO.capOk;clear hO E h5
 go_wp2_with fail
 refine(z0M (.slice z ps.length kl) ps n w2 hG.r d cP D).mono ?_;rintro e w3 ⟨vd,td,rfl,ed,od,nd,gd,hb⟩;replace d:=d.below hb;replace b0:=b0.trans (hb.mono b0.size);replace hG:=hG.below hb;clear hb nd gd;have HD:Hid (td.map TxnQ.e=dfT (ps.map InstQ.e) n):=ed;have aw:td.length+nmL TxnQ.n td≤1048576:=z7A ed D;have aX:Hid (∀t1:List TxnQ,t1.map TxnQ.e=dfT (ps.map InstQ.e) n→t1.length+nmL TxnQ.n t1≤1048576):=fun t1 e1=>z7A e1 D
 have aA:Hid (dfC (ps.map InstQ.e) n=0→_):=fun hc=>q1q hc
 have aS:=fun w h=>z2Y (.slice z ps.length kl) ps n w h D
 have aQ:=fun w hG h=>z0L (.slice z ps.length kl) ps w hG h D
 have aR:=fun w h=>z2W (.slice z ps.length kl) ps w h D
 have x:=od.at;obtain⟨G,kd,rfl⟩:=x.shape;clear ed od;generalize dfC (ps.map InstQ.e) n=CD at*;have hb:Below w3.heap.size w3 (w3.alloc (.cells #[.int .i64 CD,.slice G td.length kd] 29)):=by go_grown
 have D0:=Blk.new w3 29 #[.int .i64 CD,.slice G td.length kd];replace d:=d.below hb;replace x:=x.below hb;replace b0:=b0.trans (hb.mono b0.size);replace hG:=hG.below hb;clear hb
 go_wp2_with fail
 generalize w3.alloc (.cells #[.int .i64 CD,.slice G td.length kd] 29)=W3 at*;generalize w3.heap.size=gd at*;refine(z3n a cap zs W3 (h.below b0) hu W).mono ?_;rintro e w4 ⟨v,px,rfl,h5,E,hO,hb⟩;replace d:=d.below hb;replace x:=x.below hb;replace D0:=D0.below hb;replace b0:=b0.trans (hb.mono b0.size);replace hG:=hG.below hb;clear hb;have aP:px.length+nmL InstQ.n px≤1048576:=by have:=z1k InstQ.n 1000 px E;omega
 obtain⟨A,kx,rfl⟩:=hO.shape;have y:=hO.at;clear hO E h5;have V:=fun w hG h=>z0H (.slice A px.length kx) px w hG h aP
 have Z:=fun w h=>z3m (.slice A px.length kx) px w h aP
 generalize ordF (px.map InstQ.e)=OX at*;generalize diV (px.map InstQ.e)=VX at*
 go_wp2_with fail
 refine(z2p a cap zs w4 (h.below b0) hu W).mono ?_;rintro e w5 ⟨v,py,rfl,ba,E,hO,hb⟩;replace d:=d.below hb;replace x:=x.below hb;replace D0:=D0.below hb;replace y:=y.below hb;replace b0:=b0.trans (hb.mono b0.size);replace hG:=hG.below hb;clear hb;have ax:py.length+nmL InstQ.n py≤1048576:=by have:=z1k InstQ.n 1000 py E;omega
 obtain⟨af,ky,rfl⟩:=hO.shape;have C:=hO.at;clear hO E
 go_wp2_with fail
 refine(z2n (.slice af py.length ky) py w5 hG C ax).mono ?_;rintro e w6 ⟨ve,qe,rfl,ee,oe,ne,ge,hb⟩;replace d:=d.below hb;replace x:=x.below hb;replace D0:=D0.below hb;replace y:=y.below hb;replace C:=C.below hb;replace b0:=b0.trans (hb.mono b0.size);replace hG:=hG.below hb;clear hb ne ge;have aN:qe.length+nmL InstQ.n qe≤1048576:=q1J ee ax;have aq:Hid (niC (py.map InstQ.e)=0→ordF (qe.map InstQ.e)=0∧qe.length=py.length+1):=fun hc=>by
  have hq:=q1r hc;rw[←ee]at hq;simpa using hq
 have az:=fun w h=>z2o (.slice af py.length ky) py w h ax
 have ay:=fun w hG h=>z0L ve qe w hG h aN
 have I:=oe.at;obtain⟨ad,ke,rfl⟩:=I.shape;clear ee oe;generalize niC (py.map InstQ.e)=CE at*;generalize niO (py.map InstQ.e)=NO at*;have hb:Below w6.heap.size w6 (w6.alloc (.cells #[.int .i64 CE,.slice ad qe.length ke] 33)):=by go_grown
 have E0:=Blk.new w6 33 #[.int .i64 CE,.slice ad qe.length ke];replace d:=d.below hb;replace x:=x.below hb;replace D0:=D0.below hb;replace y:=y.below hb;replace C:=C.below hb;replace I:=I.below hb;replace b0:=b0.trans (hb.mono b0.size);replace hG:=hG.below hb;clear hb
 go_wp2_with fail
 generalize w6.alloc (.cells #[.int .i64 CE,.slice ad qe.length ke] 33)=W6 at*;generalize w6.heap.size=ge at*;refine(z3K a cap zs W6 (h.below b0) hu W).mono ?_;rintro e X ⟨v1,v2,qa,qb,rfl,bg,bh,aE,ai,hb⟩;replace d:=d.below hb;replace x:=x.below hb;replace D0:=D0.below hb;replace y:=y.below hb;replace C:=C.below hb;replace I:=I.below hb;replace E0:=E0.below hb;replace b0:=b0.trans (hb.mono b0.size);replace hG:=hG.below hb;clear hb h hu hm W hd;have ag:=aE.at;clear aE;obtain⟨aa,ka,rfl⟩:=ag.shape;obtain⟨ab,kb,rfl⟩:=ai.shape;have aL:=fun w h h'=>z17 (.slice aa qa.length ka) (.slice ab qb.length kb) qa qb w h h' (by omega) (by omega)
 have aT:=fun w h h'=>z3L (.slice aa qa.length ka) (.slice ab qb.length kb) qa qb w h h' (by omega) (by omega)
 generalize preT (qa.map TxnQ.e) (qb.map TxnQ.e)=PB at*;have n1:(OX !=OX)=false:=by simp
 have n2:(VX !=VX)=false:=by simp
 have n3:(CE !=CE)=false:=by simp
 have n4:(PB !=PB)=false:=by simp
 have bf:(py.length:Int)≤5:=by omega
 go_wp2_with fail
 have hE:=E0;obtain⟨y0,y1⟩:=E0.lts2;have hW:Below X.heap.size X X.drew:=(Below.refl _ _).drew;have J:Nonempty (Lat X):=⟨⟨X,Below.refl _ _⟩⟩
 by_cases ah:CE=0
 focus
  obtain⟨aU,aV⟩:=aq.out ah;subst ah;rw[aU]at ay;have bi:((qe.length:Int) !=(py.length:Int)+1)=false:=by rw[aV];simp
  have a2:(qe.length:Int)≤1048576:=by omega
  clear aq aU aV;refine z0b (S:=fun w'=>∃u:Lat X,w'=u.val) (by kernel_rfl) ?_;refine sgr [(0,1),(3,1)] 51 (by kernel_rfl) ⟨⟨_,hW⟩,rfl⟩ ?_;simp only[pkE];repeat go_big_quiet_step (fail)
  refine wpQuiet_nil ?_;refine cla 1 (some 36) 13 #[.slice A px.length kx] 50 (by kernel_rfl) ?_;refine(V _ (hG.below hW).r (y.below hW)).mono ?_;rintro e w9 ⟨rfl,c⟩;replace hW:=hW.trans (c.mono hW.size);clear c;refine⟨_,rfl,⟨⟨_,hW⟩,rfl⟩,?_⟩;simp only[Act.put,pjE];refine qta 2 (some 37) (.int .i64 OX) 49 (by kernel_rfl) (fun u _=>by kernel_rfl) ⟨⟨_,hW⟩,rfl⟩ ?_;simp only[Act.put,pjE];refine cla 4 (some 39) 14 #[.slice A px.length kx] 48 (by kernel_rfl) ?_;refine(Z _ (y.below hW)).mono ?_;rintro e w9 ⟨rfl,c⟩;replace hW:=hW.trans (c.mono hW.size);clear c;refine⟨_,rfl,⟨⟨_,hW⟩,rfl⟩,?_⟩;simp only[Act.put,pjE];refine qta 5 (some 40) (.int .i64 OX) 47 (by kernel_rfl) (fun u _=>by kernel_rfl) ⟨⟨_,hW⟩,rfl⟩ ?_;simp only[Act.put,pjE];refine sgr [(6,3),(11,1)] 43 (by kernel_rfl) ⟨⟨_,hW⟩,rfl⟩ ?_;simp only[pkE];repeat go_big_quiet_step (fail)
  refine wpQuiet_nil ?_;refine cla 9 (some 44) 13 #[.slice A px.length kx] 42 (by kernel_rfl) ?_;refine(V _ (hG.below hW).r (y.below hW)).mono ?_;rintro e w9 ⟨rfl,c⟩;replace hW:=hW.trans (c.mono hW.size);clear c;refine⟨_,rfl,⟨⟨_,hW⟩,rfl⟩,?_⟩;simp only[Act.put,pjE];refine qta 10 (some 45) (.int .i64 VX) 41 (by kernel_rfl) (fun u _=>by kernel_rfl) ⟨⟨_,hW⟩,rfl⟩ ?_;simp only[Act.put,pjE];refine cla 12 (some 47) 14 #[.slice A px.length kx] 40 (by kernel_rfl) ?_;refine(Z _ (y.below hW)).mono ?_;rintro e w9 ⟨rfl,c⟩;replace hW:=hW.trans (c.mono hW.size);clear c;refine⟨_,rfl,⟨⟨_,hW⟩,rfl⟩,?_⟩;simp only[Act.put,pjE];refine qta 13 (some 48) (.int .i64 VX) 39 (by kernel_rfl) (fun u _=>by kernel_rfl) ⟨⟨_,hW⟩,rfl⟩ ?_;simp only[Act.put,pjE];refine sgr [(14,6)] 33 (by kernel_rfl) ⟨⟨_,hW⟩,rfl⟩ ?_;simp only[pkE];repeat go_big_quiet_step (fail)
  refine wpQuiet_nil ?_;refine cla 20 (some 55) 15 #[.slice af py.length ky] 32 (by kernel_rfl) ?_;refine(az _ (C.below hW)).mono ?_;rintro e w9 ⟨v5,q5,rfl,e5,o5,n5,g5,c⟩;replace hW:=hW.trans (c.mono hW.size);clear n5 g5 e5;obtain⟨M,k5,rfl⟩:=o5.shape;clear o5;clear c;refine⟨_,rfl,⟨⟨_,hW⟩,rfl⟩,?_⟩;simp only[Act.put,pjE];refine qta 21 (some 56) (.int .i64 0) 31 (by kernel_rfl) (fun u _=>by kernel_rfl) ⟨⟨_,hW⟩,rfl⟩ ?_;simp only[Act.put,pjE];refine sgr [(22,9)] 22 (by kernel_rfl) ⟨⟨_,hW⟩,rfl⟩ ?_;simp only[pkE];repeat go_big_quiet_step (fail)
  refine wpQuiet_nil ?_;refine cla 31 (some 66) 16 #[.slice ad qe.length ke] 21 (by kernel_rfl) ?_;refine(ay _ (hG.below hW).r (I.below hW)).mono ?_;rintro e w9 ⟨rfl,c⟩;replace hW:=hW.trans (c.mono hW.size);clear c;refine⟨_,rfl,⟨⟨_,hW⟩,rfl⟩,?_⟩;simp only[Act.put,pjE];refine sgr [(32,4),(37,1)] 16 (by kernel_rfl) ⟨⟨_,hW⟩,rfl⟩ ?_;simp only[pkE];repeat go_big_quiet_step (fail)
  refine wpQuiet_nil ?_;refine qta 36 (some 71) (.int .i64 qe.length) 15 (by kernel_rfl) (fun u _=>by kernel_rfl) ⟨⟨_,hW⟩,rfl⟩ ?_;simp only[Act.put,pjE];refine qta 38 (some 73) (.int .i64 py.length) 14 (by kernel_rfl) (fun u _=>by kernel_rfl) ⟨⟨_,hW⟩,rfl⟩ ?_
 rotate_left
 focus
  have bd:(CE==0)=false:=by simpa using ah
  clear aq ah;refine z0b (S:=fun w'=>∃u:Lat X,w'=u.val) (by kernel_rfl) ?_;refine sgr [(0,1),(3,1)] 51 (by kernel_rfl) ⟨⟨_,hW⟩,rfl⟩ ?_;simp only[pkE];repeat go_big_quiet_step (fail)
  refine wpQuiet_nil ?_;refine cla 1 (some 36) 13 #[.slice A px.length kx] 50 (by kernel_rfl) ?_;refine(V _ (hG.below hW).r (y.below hW)).mono ?_;rintro e w9 ⟨rfl,c⟩;replace hW:=hW.trans (c.mono hW.size);clear c;refine⟨_,rfl,⟨⟨_,hW⟩,rfl⟩,?_⟩;simp only[Act.put,pjE];refine qta 2 (some 37) (.int .i64 OX) 49 (by kernel_rfl) (fun u _=>by kernel_rfl) ⟨⟨_,hW⟩,rfl⟩ ?_;simp only[Act.put,pjE];refine cla 4 (some 39) 14 #[.slice A px.length kx] 48 (by kernel_rfl) ?_;refine(Z _ (y.below hW)).mono ?_;rintro e w9 ⟨rfl,c⟩;replace hW:=hW.trans (c.mono hW.size);clear c;refine⟨_,rfl,⟨⟨_,hW⟩,rfl⟩,?_⟩;simp only[Act.put,pjE];refine qta 5 (some 40) (.int .i64 OX) 47 (by kernel_rfl) (fun u _=>by kernel_rfl) ⟨⟨_,hW⟩,rfl⟩ ?_;simp only[Act.put,pjE];refine sgr [(6,3),(11,1)] 43 (by kernel_rfl) ⟨⟨_,hW⟩,rfl⟩ ?_;simp only[pkE];repeat go_big_quiet_step (fail)
  refine wpQuiet_nil ?_;refine cla 9 (some 44) 13 #[.slice A px.length kx] 42 (by kernel_rfl) ?_;refine(V _ (hG.below hW).r (y.below hW)).mono ?_;rintro e w9 ⟨rfl,c⟩;replace hW:=hW.trans (c.mono hW.size);clear c;refine⟨_,rfl,⟨⟨_,hW⟩,rfl⟩,?_⟩;simp only[Act.put,pjE];refine qta 10 (some 45) (.int .i64 VX) 41 (by kernel_rfl) (fun u _=>by kernel_rfl) ⟨⟨_,hW⟩,rfl⟩ ?_;simp only[Act.put,pjE];refine cla 12 (some 47) 14 #[.slice A px.length kx] 40 (by kernel_rfl) ?_;refine(Z _ (y.below hW)).mono ?_;rintro e w9 ⟨rfl,c⟩;replace hW:=hW.trans (c.mono hW.size);clear c;refine⟨_,rfl,⟨⟨_,hW⟩,rfl⟩,?_⟩;simp only[Act.put,pjE];refine qta 13 (some 48) (.int .i64 VX) 39 (by kernel_rfl) (fun u _=>by kernel_rfl) ⟨⟨_,hW⟩,rfl⟩ ?_;simp only[Act.put,pjE];refine sgr [(14,6)] 33 (by kernel_rfl) ⟨⟨_,hW⟩,rfl⟩ ?_;simp only[pkE];repeat go_big_quiet_step (fail)
  refine wpQuiet_nil ?_;refine cla 20 (some 55) 15 #[.slice af py.length ky] 32 (by kernel_rfl) ?_;refine(az _ (C.below hW)).mono ?_;rintro e w9 ⟨v5,q5,rfl,e5,o5,n5,g5,c⟩;replace hW:=hW.trans (c.mono hW.size);clear n5 g5 e5;obtain⟨M,k5,rfl⟩:=o5.shape;clear o5;clear c;refine⟨_,rfl,⟨⟨_,hW⟩,rfl⟩,?_⟩;simp only[Act.put,pjE];refine qta 21 (some 56) (.int .i64 CE) 31 (by kernel_rfl) (fun u _=>by kernel_rfl) ⟨⟨_,hW⟩,rfl⟩ ?_;simp only[Act.put,pjE];refine sgr [(22,9)] 22 (by kernel_rfl) ⟨⟨_,hW⟩,rfl⟩ ?_;simp only[pkE];repeat go_big_quiet_step (fail)
  refine wpQuiet_nil ?_;refine ska 31 (some 66) 21 (by kernel_rfl) ⟨⟨_,hW⟩,rfl⟩ ?_;simp only[Act.put,pjE];refine sgr [(32,4),(37,1)] 16 (by kernel_rfl) ⟨⟨_,hW⟩,rfl⟩ ?_;simp only[pkE];repeat go_big_quiet_step (fail)
  refine wpQuiet_nil ?_;refine ska 36 (some 71) 15 (by kernel_rfl) ⟨⟨_,hW⟩,rfl⟩ ?_;simp only[Act.put,pjE];refine ska 38 (some 73) 14 (by kernel_rfl) ⟨⟨_,hW⟩,rfl⟩ ?_
 rotate_left
 all_goals
  simp only[Act.put,pjE];refine sgr [(39,8),(48,2)] 4 (by kernel_rfl) ⟨⟨_,hW⟩,rfl⟩ ?_;simp only[pkE];repeat go_big_quiet_step (fail)
  refine wpQuiet_nil ?_;refine cla 47 (some 82) 17 #[.slice aa qa.length ka,.slice ab qb.length kb] 3 (by kernel_rfl) ?_;refine(aL _ (ag.below hW) (ai.below hW)).mono ?_;rintro e w9 ⟨rfl,c⟩;replace hW:=hW.trans (c.mono hW.size);clear c;refine⟨_,rfl,⟨⟨_,hW⟩,rfl⟩,?_⟩;simp only[Act.put,pjE];refine cla 50 (some 85) 18 #[.slice aa qa.length ka,.slice ab qb.length kb] 2 (by kernel_rfl) ?_;refine(aT _ (ag.below hW) (ai.below hW)).mono ?_;rintro e w9 ⟨rfl,c⟩;replace hW:=hW.trans (c.mono hW.size);clear c;refine⟨_,rfl,⟨⟨_,hW⟩,rfl⟩,?_⟩;simp only[Act.put,pjE];refine sgr [(51,2)] 0 (by kernel_rfl) ⟨⟨_,hW⟩,rfl⟩ ?_;simp only[pkE];repeat go_big_quiet_step (fail)
  refine wpQuiet_nil ?_;refine z0e (by kernel_rfl) ?_;replace D0:=D0.below hW;replace b0:=b0.trans (hW.mono b0.size);replace hG:=hG.below hW;replace d:=d.below hW;replace x:=x.below hW;clear y0 y1 J hW V Z az ay aL aT E0 hE y C I ag ai n1 n2 n3 n4
  rename World=>X2
  have z0:=D0.cell 0 _ rfl;by_cases hC:CD=0
  ·obtain⟨O,T,U,aG,aH⟩:=aA.out hC;subst hC;have av:=fun w hG h=>z0H (.slice z ps.length kl) ps w hG h D
   rw[O]at av;have au:=fun w hG h=>z0M (.slice z ps.length kl) ps (diV (ps.map InstQ.e)) w hG h cP D
   rw[T]at au;have aC:Hid (∀t1:List TxnQ,t1.map TxnQ.e=dfT (ps.map InstQ.e) (diV (ps.map InstQ.e))→t1.length+nmL TxnQ.n t1≤1048576):=fun t1 e1=>z7A e1 D
   have aW:Hid (preT (dfT (ps.map InstQ.e) n) (dfT (ps.map InstQ.e) (diV (ps.map InstQ.e)))=true):=U;have aM:=fun w h=>z3r (.slice G td.length kd) td w h aw
   rw[HD.out,aG]at aM;have aB:Hid (Dif (td.map TxnQ.e)):=by rw[HD.out];exact aH
   clear aA O T U aG aH aQ aR;generalize dfT (ps.map InstQ.e) n=DT at*;generalize dfT (ps.map InstQ.e) (diV (ps.map InstQ.e))=DA at*;generalize diV (ps.map InstQ.e)=VL at*
   go_wp2_with fail
   refine(av X2 hG.r d).mono ?_;rintro e w7 ⟨rfl,hb⟩;replace D0:=D0.below hb;replace d:=d.below hb;replace x:=x.below hb;replace b0:=b0.trans (hb.mono b0.size);replace hG:=hG.below hb;clear hb av z0;have aY:=z8J 0 VL w7
   go_wp2_with fail
   clear aY;refine(au w7 hG.r d).mono ?_;rintro e w8 ⟨vt,ta,rfl,et,aj,nt,gt,hb⟩;have HT:Hid (ta.map TxnQ.e=DA):=et;have a6:ta.length+nmL TxnQ.n ta≤1048576:=aC.out ta et;obtain⟨ae,kt,rfl⟩:=aj.shape;replace D0:=D0.below hb;replace d:=d.below hb;replace x:=x.below hb;replace b0:=b0.trans (hb.mono b0.size);replace hG:=hG.below hb;clear hb au et nt gt aC;have hb:Below w8.heap.size w8 (w8.alloc (.cells #[.int .i64 0,.slice ae ta.length kt] 29)):=by go_grown
   have T0:=Blk.new w8 29 #[.int .i64 0,.slice ae ta.length kt];replace D0:=D0.below hb;replace d:=d.below hb;replace x:=x.below hb;replace aj:=aj.below hb;replace b0:=b0.trans (hb.mono b0.size);clear hb hG;have a8:(td.length:Int)≤1048576:=by omega
   have a7:td.length≤1048576:=by omega
   go_wp2
   generalize w8.heap.size=gt at*;generalize w8.alloc (.cells #[.int .i64 0,.slice ae ta.length kt] 29)=X3 at*;go_loopw[12] (fun j wr=>∃k:Nat,k≤td.length∧j=.int .i64 k∧Below X3.heap.size X3 wr) (fun j _=>td.length-(intOf j).toNat)
   case atStart=>exact⟨0,Nat.zero_le _,rfl,Below.refl _ _⟩
   case round=>
    obtain⟨i,hi,rfl,hb⟩:=hrel;have D1:=D0.below hb;have d1:=D1.cell 1 _ rfl;by_cases Y:i<td.length
    ·have aZ:(i:Int)<(td.length:Int):=by omega
     go_wp2
     clear d1;go_loopw[13] (fun j wx=>∃k:Nat,k≤i∧j=.int .i64 k∧Below X3.heap.size X3 wx) (fun j _=>i-(intOf j).toNat)
     case atStart=>exact⟨0,Nat.zero_le _,rfl,hb⟩
     case round=>
      clear D1 hb;obtain⟨k,hk,rfl,hb⟩:=hrel;by_cases aO:k<i
      ·have a1:(k:Int)<(i:Int):=by omega
       have be:(k:Int)<(td.length:Int):=by omega
       have D2:=D0.below hb;obtain⟨bb,bj,rfl,ak,al,am,an,ao,ap⟩:=at2 (x.below hb) i k Y (by omega);have L:=q0A aB.out k i aO (by simpa using Y);rw[z3o td k (by omega),z3o td i Y]at L;dsimp only[TxnQ.e,stF]at L;generalize td[i].i=ii at*;generalize td[i].s=is at*;generalize td[i].q=iq at*;generalize td[k].i=ki at*;generalize td[k].s=ks at*;generalize td[k].q=kq at*;simp only[Bool.or_eq_false_iff]at L;have g1:(ii==ki)=false:=by
        have:=L.1;simp only[beq_eq_false_iff_ne]at this⊢;exact fun h=>this h.symm
       have ar:Hid (((ks==is) && (kq==iq))=false):=L.2;clear L;have O:=z0a ak;have T:=z0a al;have U:=z0a am;have aI:=z0a an;have aJ:=z0a ao;have aK:=z0a ap;have y1:=D2.lat 1 _ rfl;clear ak al am an ao ap;have hW:Below wr.heap.size wr wr.drew:=(Below.refl _ _).drew;have J:Nonempty (Lat wr):=⟨⟨wr,Below.refl _ _⟩⟩
       by_cases hs:is=ks
       ·have g2:(is==ks)=true:=by simpa using hs
        have g3:(iq==kq)=false:=by
         have:=ar.out;rw[show(ks==is)=true by simpa using hs.symm,Bool.true_and]at this;simp only[beq_eq_false_iff_ne]at this⊢;exact fun h=>this h.symm
        clear ar hs
        go_wp2_with fail
        refine z0b (S:=fun w'=>∃u:Lat wr,w'=u.val) (by kernel_rfl) ?_;refine sgr [(0,43)] 0 (by kernel_rfl) ⟨⟨_,hW⟩,rfl⟩ ?_;simp only[pkE];repeat go_big_quiet_step (fail)
        refine wpQuiet_nil ?_;refine z0e (by kernel_rfl) ?_;replace hb:=hb.trans (hW.mono hb.size);clear O T U aI aJ aK y1 hW J D2
        go_wp2
        go_roundw
        case rel=>exact⟨k+1,by omega,by go_num,hb⟩
        case measure=>simp[intOf];omega
       ·have g2:(is==ks)=false:=by simpa using hs
        clear ar hs
        go_wp2_with fail
        refine z0b (S:=fun w'=>∃u:Lat wr,w'=u.val) (by kernel_rfl) ?_;refine sgr [(0,43)] 0 (by kernel_rfl) ⟨⟨_,hW⟩,rfl⟩ ?_;simp only[pkE];repeat go_big_quiet_step (fail)
        refine wpQuiet_nil ?_;refine z0e (by kernel_rfl) ?_;replace hb:=hb.trans (hW.mono hb.size);clear O T U aI aJ aK y1 hW J D2
        go_wp2
        go_roundw
        case rel=>exact⟨k+1,by omega,by go_num,hb⟩
        case measure=>simp[intOf];omega
      ·have a1:¬(k:Int)<(i:Int):=by omega
       go_wp2
       go_roundw
       case rel=>exact⟨i+1,by omega,by go_num,hb⟩
       case measure=>simp[intOf];omega
    ·have aZ:¬(i:Int)<(td.length:Int):=by omega
     go_wp2_with fail
     clear d1;have T1:=T0.below hb;have aD:=d.below hb;have N:=x.below hb;have aF:=aj.below hb;have y1:=D1.lat 1 _ rfl;obtain⟨x0,x1⟩:=T1.lts2;have hW:Below wr.heap.size wr wr.drew:=(Below.refl _ _).drew;have J:Nonempty (Lat wr):=⟨⟨wr,Below.refl _ _⟩⟩
     refine z0b (S:=fun w'=>∃u:Lat wr,w'=u.val) (by kernel_rfl) ?_;refine sgr [(0,8)] 18 (by kernel_rfl) ⟨⟨_,hW⟩,rfl⟩ ?_;simp only[pkE];repeat go_big_quiet_step (fail)
     refine wpQuiet_nil ?_;refine cla 8 (some 173) 17 #[.slice G td.length kd,.slice ae ta.length kt] 17 (by kernel_rfl) ?_;refine(q1P _ _ td ta HD.out HT.out aW.out _ (N.below hW) (aF.below hW) aw a6).mono ?_;rintro e w9 ⟨rfl,c⟩;replace hW:=hW.trans (c.mono hW.size);clear c;refine⟨_,rfl,⟨⟨_,hW⟩,rfl⟩,?_⟩;simp only[Act.put,pjE];refine sgr [(9,4)] 13 (by kernel_rfl) ⟨⟨_,hW⟩,rfl⟩ ?_;simp only[pkE];repeat go_big_quiet_step (fail)
     refine wpQuiet_nil ?_;refine cla 13 (some 178) 21 #[.slice G td.length kd] 12 (by kernel_rfl) ?_;refine(aM _ (N.below hW)).mono ?_;rintro e w9 ⟨rfl,c⟩;replace hW:=hW.trans (c.mono hW.size);clear c;refine⟨_,rfl,⟨⟨_,hW⟩,rfl⟩,?_⟩;simp only[Act.put,pjE];refine sgr [(14,7)] 5 (by kernel_rfl) ⟨⟨_,hW⟩,rfl⟩ ?_;simp only[pkE];repeat go_big_quiet_step (fail)
     refine wpQuiet_nil ?_;refine cla 21 (some 186) 19 #[.slice z ps.length kl,.int .i64 n] 4 (by kernel_rfl) ?_;refine(aS _ (aD.below hW)).mono ?_;rintro e w9 ⟨v5,t5,rfl,e5,o5,n5,g5,c⟩;replace hW:=hW.trans (c.mono hW.size);clear n5 g5;obtain⟨M,k5,rfl⟩:=o5.shape;clear c;refine⟨_,rfl,⟨⟨_,hW⟩,rfl⟩,?_⟩;simp only[Act.put,pjE];refine qta 22 (some 187) (.slice M t5.length k5) 3 (by kernel_rfl) (fun u _=>by kernel_rfl) ⟨⟨_,hW⟩,rfl⟩ ?_;simp only[Act.put,pjE];refine cla 23 (some 188) 22 #[.slice G td.length kd,.slice M t5.length k5] 2 (by kernel_rfl) ?_;refine(q1h _ _ td t5 HD.out e5 (z1D _) _ (N.below hW) o5.at aw (aX.out t5 e5)).mono ?_;rintro e w9 ⟨rfl,c⟩;replace hW:=hW.trans (c.mono hW.size);clear o5 e5;clear c;refine⟨_,rfl,⟨⟨_,hW⟩,rfl⟩,?_⟩;simp only[Act.put,pjE];refine sgr [(24,2)] 0 (by kernel_rfl) ⟨⟨_,hW⟩,rfl⟩ ?_;simp only[pkE];repeat go_big_quiet_step (fail)
     refine wpQuiet_nil ?_;refine z0e (by kernel_rfl) ?_;replace hb:=hb.trans (hW.mono hb.size);replace b0:=b0.trans (hb.mono b0.size)
     go_wp2
     go_ret;exact⟨rfl,b0⟩
  ·have bc:(CD !=0)=true:=by simpa using hC
   have e1:(CD==CD)=true:=by simp
   generalize ordF (ps.map InstQ.e)=OL at*;have e2:(OL==OL)=true:=by simp
   go_wp2_with fail
   clear z0;have z0:=D0.lat 0 _ rfl;have hW:Below X2.heap.size X2 X2.drew:=(Below.refl _ _).drew;have J:Nonempty (Lat X2):=⟨⟨X2,Below.refl _ _⟩⟩
   refine z0b (S:=fun w'=>∃u:Lat X2,w'=u.val) (by kernel_rfl) ?_;refine sgr [(0,2),(4,2)] 11 (by kernel_rfl) ⟨⟨_,hW⟩,rfl⟩ ?_;simp only[pkE];repeat go_big_quiet_step (fail)
   refine wpQuiet_nil ?_;refine cla 2 (some 93) 19 #[.slice z ps.length kl,.int .i64 n] 10 (by kernel_rfl) ?_;refine(aS _ (d.below hW)).mono ?_;rintro e w9 ⟨v5,t5,rfl,e5,o5,n5,g5,c⟩;replace hW:=hW.trans (c.mono hW.size);clear n5 g5;obtain⟨M,k5,rfl⟩:=o5.shape;clear o5 e5;clear c;refine⟨_,rfl,⟨⟨_,hW⟩,rfl⟩,?_⟩;simp only[Act.put,pjE];refine qta 3 (some 94) (.int .i64 CD) 9 (by kernel_rfl) (fun u _=>by kernel_rfl) ⟨⟨_,hW⟩,rfl⟩ ?_;simp only[Act.put,pjE];refine sgr [(6,3),(10,1)] 5 (by kernel_rfl) ⟨⟨_,hW⟩,rfl⟩ ?_;simp only[pkE];repeat go_big_quiet_step (fail)
   refine wpQuiet_nil ?_;refine cla 9 (some 100) 16 #[.slice z ps.length kl] 4 (by kernel_rfl) ?_;refine(aQ _ (hG.below hW).r (d.below hW)).mono ?_;rintro e w9 ⟨rfl,c⟩;replace hW:=hW.trans (c.mono hW.size);clear c;refine⟨_,rfl,⟨⟨_,hW⟩,rfl⟩,?_⟩;simp only[Act.put,pjE];refine cla 11 (some 102) 20 #[.slice z ps.length kl] 3 (by kernel_rfl) ?_;refine(aR _ (d.below hW)).mono ?_;rintro e w9 ⟨rfl,c⟩;replace hW:=hW.trans (c.mono hW.size);clear c;refine⟨_,rfl,⟨⟨_,hW⟩,rfl⟩,?_⟩;simp only[Act.put,pjE];refine sgr [(12,3)] 0 (by kernel_rfl) ⟨⟨_,hW⟩,rfl⟩ ?_;simp only[pkE];repeat go_big_quiet_step (fail)
   refine wpQuiet_nil ?_;refine z0e (by kernel_rfl) ?_;replace b0:=b0.trans (hW.mono b0.size)
   go_wp2
   go_ret;exact⟨rfl,b0⟩
section
open Go.ChangeShapes Go.WideShapes
theorem gOpn : Tryz.prog.globalNamed "loop.example/g00631/impl.openRow" = some 0 := by kernel_rfl
theorem tOpn:(Tryz.prog.globals[0]?).map (·.type)=some 148:=by kernel_rfl
theorem z7J {W : World} (h : laidMetH Tryz.prog [("loop.example/g00631/impl.rules", Rows.laid_loop_example_g00631_impl_rules), ("loop.example/g00631/impl.openRow", Rows.laid_loop_example_g00631_impl_openRow)] W) : Rul W := by
 rw[MakeChecks.laidMetH_plain _ _ _ (by kernel_rfl)]at h;obtain⟨g,t,cs,fuel,p,hg,ht,hvar,hd⟩:=Lib.laidMet.reads h (List.mem_cons_self ..);obtain rfl:=Option.some.inj (gRul.symm.trans hg);obtain rfl:=Option.some.inj (tRul.symm.trans ht);unfold Rows.laid_loop_example_g00631_impl_rules at hd;have e:∀i,i<5→∃fuel' d q,_∧_:=fun i hi=>Lib.array_elem Tryz.underlying323 hd i hi
 rw[q0o]at e;obtain⟨f0,d0,q0,r0,s0⟩:=e 0 (by omega);obtain⟨f1,d1,q1,r1,s1⟩:=e 1 (by omega);obtain⟨f2,d2,q2,r2,s2⟩:=e 2 (by omega);obtain⟨f3,d3,q3,r3,s3⟩:=e 3 (by omega);obtain⟨f4,d4,q4,r4,s4⟩:=e 4 (by omega);simp only[List.getElem?_cons_zero,List.getElem?_cons_succ,Option.some.injEq]at r0 r1 r2 r3 r4;subst r0 r1 r2 r3 r4;have t0:=z0V s0;have t1:=z0V s1;have t2:=z0V s2;have t3:=z0V s3;have t4:=z0V s4;have hall:cs.toList.take 35=q0K:=by
  rw[show 35=0*7+7+7+7+7+7 from rfl,List.take_add,List.take_add,List.take_add,List.take_add];rw[show 0*7+7+7+7+7=4*7 from rfl,show 0*7+7+7+7=3*7 from rfl,show 0*7+7+7=2*7 from rfl,show 0*7+7=1*7 from rfl,t1,t2,t3,t4];have t0':List.take (1*7) cs.toList=_:=t0;rw[t0'];rfl
 intro i v hv;have hi:i<35:=by
  have:=(List.getElem?_eq_some_iff.1 hv).1;simpa[q0K]using this
 rw[World.var?_cell hg hvar i,←Array.getElem?_toList];rw[←hall,List.getElem?_take,if_pos hi]at hv;exact hv
theorem z7K {W : World} (h : laidMetH Tryz.prog [("loop.example/g00631/impl.rules", Rows.laid_loop_example_g00631_impl_rules), ("loop.example/g00631/impl.openRow", Rows.laid_loop_example_g00631_impl_openRow)] W) : Opn W := by
 rw[MakeChecks.laidMetH_plain _ _ _ (by kernel_rfl)]at h;obtain⟨g,t,cs,fuel,p,hg,ht,hvar,hd⟩:=Lib.laidMet.reads h (List.mem_cons_of_mem _ (List.mem_singleton.2 rfl));obtain rfl:=Option.some.inj (gOpn.symm.trans hg);obtain rfl:=Option.some.inj (tOpn.symm.trans ht);unfold Rows.laid_loop_example_g00631_impl_openRow at hd;intro j hj;obtain⟨f0,d0,q0,r0,s0⟩:=Lib.array_elem Tryz.underlying148 hd j hj;rw[cI]at s0;have hd0:d0=.lit (.int .i64 3):=by
  match j,hj with
  |0,_=>simpa using r0.symm
  |1,_=>simpa using r0.symm
  |2,_=>simpa using r0.symm
 subst hd0;obtain⟨n0,e0,g0,_⟩:=DataW.trod_int Tryz.underlying2 s0;have hn:n0=3:=by have:=g0.symm;simp at this;exact this.1
 subst hn;rw[World.var?_cell hg hvar j,←Array.getElem?_toList];have:=congrArg (fun l=>l[0]?) e0;simpa using this
theorem q0B {W : World} (h : laidMetH Tryz.prog [("loop.example/g00631/impl.rules", Rows.laid_loop_example_g00631_impl_rules), ("loop.example/g00631/impl.openRow", Rows.laid_loop_example_g00631_impl_openRow)] W) : RulO W := ⟨z7J h, z7K h⟩
end
end Go.Proofs.YtciofogeiohleaaGreatDoor
