import Derived.Test.YtdppipeclnldeaaGreatDoorOBAJ
import Derived.Test.YtdppipeclnldeaaGreatDoorRows
import Derived.Lib.LaidU8
import Derived.OpenVars
import Derived.LaidMore
import Derived.Stop.LaidErr
import Derived.Stop.Joined
set_option linter.unusedVariables false
set_option linter.unusedSimpArgs false
set_option maxRecDepth 100000
set_option maxHeartbeats 16000000
namespace Go.Proofs.YtdppipeclnldeaaGreatDoor
open Go.RowKit Go.BigFrame
open TxnQ renaming e->Va,n->Vc
open InstQ renaming e->Vb
open Nat renaming le_refl->Vd,zero_le->Ve
open List renaming getD->Vf,length_map->Vg,getElem_mem->Vh,take_succ_eq_append_getElem->Vi
open IntKind renaming i64->G
open Value renaming int->Q,slice->R
open Go.Proofs.Tryz renaming prog->B
open Go.Proofs.Tryz
theorem z5R(v:Value)(ps:List InstQ)(c:Int)(w:World)(h:instK.At w v (mkL z0C nmInsS c ps))(hl:(ps.length+nmL InstQ.n ps)≤1048576)(h0:0≤c)(h1:c+(nmL nmInsS ps:Int)≤1099511627776):
  Calls B 54 #[v,Q G c] w fun e w'=>e=.returned (Q G (c+(nmL nmInsS ps:Int)))∧Below w.heap.size w w':=by
 obtain⟨a,cap,rfl⟩:=h.shape;have N:=z0U z0C nmInsS c ps;rw[N]at h⊢;have HM:Hid ((mkL z0C nmInsS c ps).length=ps.length):=N;clear N;go_enter func54,ntmps54
 go_wp2
 go_loopw[1,5] (fun j i wr=>∃k:Nat,k≤ps.length∧j=Q G (c+(nmL nmInsS (ps.take k):Int))∧i=Q G k∧Below w.heap.size w wr) (fun _ i _=>ps.length-(intOf i).toNat)
 case atStart=>exact⟨0,Ve _,by simp[nmL],rfl,Below.refl _ _⟩
 case round=>
  obtain⟨k,hk,rfl,rfl,hb⟩:=hrel;by_cases M:k<ps.length
  ·have Y:k<(mkL z0C nmInsS c ps).length:=by have:=HM.out;omega
   obtain⟨b,ak,rfl,al,hc,Z⟩:=(h.below hb).cell (by decide) k Y;rw[z4n z0C nmInsS c ps k M]at hc Z;have ah:=z0S nmInsS ps k M;have af:=z2w nmInsS ps (k+1);have aj:=z01 InstQ.n ps k M;have T:Hid ((nmL nmInsS (ps.take (k+1)):Int)=(nmL nmInsS (ps.take k):Int)+(nmInsS ps[k]:Int)):=show _=_ by omega
   have ai:(nmL nmInsS (ps.take k):Int)+(nmInsS ps[k]:Int)≤nmL nmInsS ps:=by omega
   clear ah af h;generalize ag:ps[k]=p at*;clear ag;obtain⟨O,C,d,E,z,D,A⟩:=p;dsimp only[nmInsS,InstQ.n]at T ai aj;generalize hy:(nmL nmInsS (ps.take k):Int)=y at*;have am:0≤y:=by omega
   clear hy;have J:∀j x,(instK.cells (z0C (c+y) (⟨O,C,d,E,z,D,A⟩:InstQ)))[j]?=some x→wr.cell? ⟨b,ak+k*4+j,none⟩=some x:=hc;clear hc;have c0:=J 0 (.bool ((c+y) % 3==0)) rfl;have an:(((c+y) % 3==0) !=((c+y) % 3==0))=false:=by simp
   have c1:=J 1 (C) rfl;have c2:=J 2 (E) rfl;have c3:=J 3 (D) rfl;obtain⟨r1,r2,r3⟩:txnK.At wr C (z1x (c+y+1) d)∧roundK.At wr E (z34 (c+y+1+((nmL nmTxn d:Nat):Int)) z)∧intK.At wr D (z1F (c+y+1+((nmL nmTxn d:Nat):Int)+((nmL nmRound z:Nat):Int)) A):=Z;have V:=fun w h=>z4y C d (c+y+1) w h (by omega) (by omega) (by omega)
   have W:=fun w h=>z8I E z (c+y+1+((nmL nmTxn d:Nat):Int)) w h (by omega) (by omega) (by omega)
   have X:=fun w h=>z4p D A (c+y+1+((nmL nmTxn d:Nat):Int)+((nmL nmRound z:Nat):Int)) w h (by omega) (by omega) (by omega)
   obtain⟨ar,aw,aa⟩:=r1.shape;subst aa;obtain⟨au,ax,ab⟩:=r2.shape;subst ab;obtain⟨av,ay,ad⟩:=r3.shape;subst ad;rw[Nat.add_zero]at c0;clear J;have ao:¬(c+y+1+((nmL nmTxn d:Nat):Int)<0):=by omega
   go_wp2_with fail
   refine(V wr r1).mono ?_;rintro e w1 ⟨rfl,I⟩;replace hb:=hb.trans (I.mono hb.size);replace c2:=(I.cell (p:=⟨b,_,none⟩) (World.block_lt_of_cell? _ _ c2)).trans c2;replace c3:=(I.cell (p:=⟨b,_,none⟩) (World.block_lt_of_cell? _ _ c3)).trans c3;replace r2:=r2.below I;replace r3:=r3.below I;clear I V c0 c1;have ap:¬(c+y+1+((nmL nmTxn d:Nat):Int)+((nmL nmRound z:Nat):Int)<0):=by omega
   go_wp2_with fail
   refine(W w1 r2).mono ?_;rintro e w2 ⟨rfl,L⟩;replace hb:=hb.trans (L.mono hb.size);replace c3:=(L.cell (p:=⟨b,_,none⟩) (World.block_lt_of_cell? _ _ c3)).trans c3;replace r3:=r3.below L;clear L W c2;have aq:¬(c+y+1+((nmL nmTxn d:Nat):Int)+((nmL nmRound z:Nat):Int)+((A.length:Nat):Int)<0):=by omega
   go_wp2_with fail
   refine(X w2 r3).mono ?_;rintro e w3 ⟨rfl,U⟩;replace hb:=hb.trans (U.mono hb.size);clear U X c3
   go_wp2
   go_roundw
   case rel=>exact⟨k+1,by omega,by rw[T.out];congr 1;omega,by go_num,hb⟩
   case measure=>simp[intOf];omega
  ·have ae:k=ps.length:=by omega
   subst ae;rw[List.take_length]
   go_wp2
   go_ret;exact⟨rfl,hb⟩
def z4W:TxnD:=⟨0,0,0,[]⟩
theorem z7E(xs:List TxnQ)(k:Nat)(hk:k<xs.length):(xs.map Va).getD k z4W=Va xs[k]:=by simp[Vf,hk]
theorem q2N{acc:List TxnD}{t:TxnD}(k:Nat)(hk:k<acc.length)(h:stF (acc.getD k z4W) t=true):knw acc t=true:=by
 unfold knw;rw[List.any_eq_true];exact⟨acc[k],Vh hk,by simpa[Vf,hk]using h⟩
theorem q4O{acc:List TxnD}{t:TxnD}(h:∀j,j<acc.length→stF (acc.getD j z4W) t=false):knw acc t=false:=by
 cases hc:knw acc t with
 |false=>rfl
 |true=>
  unfold knw at hc;rw[List.any_eq_true]at hc;obtain⟨x,hx,hs⟩:=hc;obtain⟨j,hj,rfl⟩:=List.getElem_of_mem hx;have:=h j hj;have e:acc.getD j z4W=acc[j]:=by simp[Vf,hj]
  rw[e,hs]at this;exact absurd this (by decide)
theorem z5S(v:Value)(acc:List TxnQ)(b o:Nat)(x:TxnD)(va:Value)(w:World)(h:txnK.At w v acc)(hB:Box4 w b o (Q G x.id) (Q G x.session) (Q G x.seq) va)(hl:acc.length≤1048576):
  Calls B 113 #[v,.pointer (some ⟨b,o,none⟩)] w fun e w'=>e=.returned (.bool (knw (acc.map Va) x))∧Below w.heap.size w w':=by
 obtain⟨a,cap,rfl⟩:=h.shape;obtain⟨d0,d1,d2,d3⟩:=hB;generalize hE:knw (acc.map Va) x=E;have HE:Hid (knw (acc.map Va) x=E):=hE;clear hE;obtain⟨xi,xs,xq,xa⟩:=x;dsimp only at d0 d1 d2 d3;go_enter func113,ntmps113
 go_wp2
 go_loopw[5] (fun j wr=>∃k m:Nat,k≤acc.length∧j=Q G k∧wr=w.drewN m∧Hid (∀j,j<k→stF ((acc.map Va).getD j z4W) ⟨xi,xs,xq,xa⟩=false)) (fun j _=>acc.length-(intOf j).toNat)
 case atStart=>exact⟨0,0,Ve _,rfl,rfl,fun j hj=>absurd hj (Nat.not_lt_zero _)⟩
 case round=>
  obtain⟨k,m,hk,rfl,rfl,HA⟩:=hrel;by_cases d:k<acc.length
  ·obtain⟨b',D,rfl,J,hc,C⟩:=h.cell (by decide) k d;have c:∀j x,(txnK.cells acc[k])[j]?=some x→w.cell? ⟨b',D+k*4+j,none⟩=some x:=hc;have c0:=c 0 (Q G acc[k].i) rfl;have c1:=c 1 (Q G acc[k].s) rfl;have c2:=c 2 (Q G acc[k].q) rfl;rw[Nat.add_zero]at c0;have HY:Hid (stF (Va acc[k]) ⟨xi,xs,xq,xa⟩=true→E=true):=fun hx=>by rw[←HE.out];exact q2N k (by simpa using d) (by rw[z7E acc k d];exact hx)
   have HN:Hid (stF (Va acc[k]) ⟨xi,xs,xq,xa⟩=false→∀j,j<k+1→stF ((acc.map Va).getD j z4W) ⟨xi,xs,xq,xa⟩=false):=fun hx j hj=>by
    by_cases A:j=k
    ·subst A;rw[z7E acc j d];exact hx
    ·exact HA.out j (by omega)
   clear HA hc c C;generalize acc[k]=p at*;obtain⟨i,s,q,L,I⟩:=p;dsimp only[Va,stF]at c0 c1 c2 HY HN;have z:(k:Int)<(acc.length:Int):=by omega
   cases h1:(i==xi)
   ·cases h2:(s==xs)
    ·have HR:=HN.out (by rw[h1,h2];rfl);have y:Hid _:=HR;clear HY HN HR
     go_wp2
     go_quiet (fail)
     go_wp2
     go_roundw
     case rel=>exact⟨k+1,_,by omega,by go_num,rfl,y.out⟩
     case measure=>simp[intOf];omega
    ·cases h3:(q==xq)
     ·have HR:=HN.out (by rw[h1,h2,h3];rfl);have y:Hid _:=HR;clear HY HN HR
      go_wp2
      go_quiet (fail)
      go_wp2
      go_roundw
      case rel=>exact⟨k+1,_,by omega,by go_num,rfl,y.out⟩
      case measure=>simp[intOf];omega
     ·have E1:Hid (E=true):=HY.out (by rw[h1,h2,h3];rfl);clear HY HN
      go_wp2
      go_quiet (fail)
      go_wp2
      go_ret;rw[E1.out];exact⟨rfl,⟨rfl,rfl,rfl,Vd _,fun _ _=>rfl⟩⟩
   ·have E1:Hid (E=true):=HY.out (by rw[h1];rfl);clear HY HN
    go_wp2
    go_quiet (fail)
    go_wp2
    go_ret;rw[E1.out];exact⟨rfl,⟨rfl,rfl,rfl,Vd _,fun _ _=>rfl⟩⟩
  ·have E1:Hid (E=false):=by rw[←HE.out];exact q4O (fun j hj=>HA.out j (by simp at hj;omega))
   have z:¬(k:Int)<(acc.length:Int):=by omega
   clear HA HE
   go_wp2
   go_ret;rw[E1.out];exact⟨rfl,⟨rfl,rfl,rfl,Vd _,fun _ _=>rfl⟩⟩
theorem z5T(ds:List InstE)(k:Nat)(hk:k<ds.length):z4v (ds.take (k+1))=z4v (ds.take k)++(if outV (ds.getD k z0W).dec=1 then(ds.getD k z0W).batch else []):=by
 rw[Vi hk];unfold z4v;rw[List.flatMap_append];have e:ds.getD k z0W=ds[k]:=by simp[Vf,hk]
 simp only[List.flatMap_cons,List.flatMap_nil,List.append_nil,e]
theorem q0z(xs acc:List TxnD)(t:TxnD):onc acc (xs++[t])=if knw (onc acc xs) t then onc acc xs else onc acc xs++[t]:=by
 rw[z16];simp only[onc]
theorem z6u(v:Value)(ps:List InstQ)(n:Nat)(w:World)(h:instK.At w v ps)(aL:(∀p∈ps,(∀t∈p.batch,0<t.acts.length)∧(∀r∈p.rounds,0<r.rep.length∧0<r.pro.length)∧0<p.dec.length))(aH:∀p∈ps,p.batch.length≤4)(hn:n≤ps.length)(h4:ps.length≤4)(hl:(ps.length+nmL InstQ.n ps)≤1048576):
  Calls B 65 #[v,Q G n] w fun e w'=>∃v' qs,e=.returned v'∧qs.map Va=defL (ps.map Vb) n∧txnK.Own w' v' qs∧(txnK.fp v' qs).Nodup∧(∀k∈txnK.fp v' qs,w.heap.size≤k)∧Below w.heap.size w w':=by
 obtain⟨a,cap,rfl⟩:=h.shape;obtain⟨i0,hi,bl,bm,bn⟩:=info_parts z1A;have ho:=World.ownsRow_lit (e:=152) (size:=4) w #[] 0 (Vd _) (by decide) rfl;have aN:txnK.Own (w.alloc (.cells #[] 152)) (R (some ⟨w.heap.size,0,none⟩) 0 0) ([]:List TxnQ):=⟨(z0B ho).1,fun p hp=>by simp at hp⟩
 have aF:Below w.heap.size w (w.alloc (.cells #[] 152)):=by go_grown
 have aw:Hid ((txnK.fp (R (some ⟨w.heap.size,0,none⟩) 0 0) ([]:List TxnQ)).Nodup∧∀k∈txnK.fp (R (some ⟨w.heap.size,0,none⟩) 0 0) ([]:List TxnQ),w.heap.size≤k):=by
  refine⟨?_,?_⟩
  ·simp[Kind.fp,blk,Value.ownBlock]
  ·simp[Kind.fp,blk,Value.ownBlock]
 clear ho;have ar:Hid (([]:List TxnQ).map Va=defL (ps.map Vb) 0):=by show _=_;simp[defL,z4v,onc]
 have au:Hid (([]:List TxnQ).length≤4*0):=by show _≤_;simp
 go_enter func65,ntmps65
 go_wp2
 go_loopw[5,6] (fun v j wr=>∃ (k:Nat) (qs:List TxnQ),k≤n∧j=Q G k∧Hid (qs.map Va=defL (ps.map Vb) k)∧Hid (qs.length≤4*k)∧txnK.Own wr v qs∧Hid ((txnK.fp v qs).Nodup∧∀k∈txnK.fp v qs,w.heap.size≤k)∧Below w.heap.size w wr) (fun _ j _=>n-(intOf j).toNat)
 case atStart=>exact⟨0,[],Ve _,rfl,ar,au,aN,aw,aF⟩
 case round=>
  clear aw aN aF ar au;obtain⟨k,qs,hk,rfl,HE,HL,hO,HN,hb⟩:=hrel;obtain⟨sa,sc,rfl⟩:=hO.shape;by_cases bx:k<n
  ·have z:k<ps.length:=by omega
   have HT:=z5T (ps.map Vb) k (by simpa using z);rw[z5N ps k z]at HT;have aj:Hid (outV ps[k].dec≠1→defL (ps.map Vb) (k+1)=defL (ps.map Vb) k):=fun hx=>by
    unfold defL;rw[HT,if_neg (show¬outV (Vb ps[k]).dec=1 from hx),List.append_nil]
   have ay:Hid (outV ps[k].dec=1→∀m,onc (defL (ps.map Vb) k) ((ps[k].batch.map Va).take m)=onc [] (z4v ((ps.map Vb).take k)++(ps[k].batch.map Va).take m)):=fun _ m=>by
    rw[z16];rfl
   have ak:Hid (outV ps[k].dec=1→defL (ps.map Vb) (k+1)=onc (defL (ps.map Vb) k) (ps[k].batch.map Va)):=fun hx=>by
    unfold defL;rw[HT,if_pos (show outV (Vb ps[k]).dec=1 from hx),z16];rfl
   clear HT;obtain⟨b,bp,rfl,bb,hP⟩:=z5o h k z;have aQ:InstQ.n ps[k]≤1048576:=by have:=z6T ps k z;omega
   have aJ:=z2n b (bp+k*4) ps[k] wr (hP.below hb) aQ;have bq:b<wr.heap.size:=Nat.lt_of_lt_of_le bb hb.size;have U:=aL _ (Vh z);have aG:=aH _ (Vh z);generalize outV ps[k].dec=OV at*;have aM:(k:Int)<(n:Int):=by omega
   have bd:(k:Int)<(ps.length:Int):=by omega
   go_wp2_with fail
   refine aJ.mono ?_;rintro e w' ⟨rfl,hw⟩;replace hw:=hw.symm;subst hw;clear aJ;by_cases I:OV=1
   case neg=>
    have e1:(OV !=1)=true:=by simpa using I
    have HR:Hid (qs.map Va=defL (ps.map Vb) (k+1)):=show _=_ by rw[aj.out I];exact HE.out
    have A:Hid (qs.length≤4*(k+1)):=show _≤_ by have:=HL.out;omega
    clear aj ay ak HE HL I
    go_wp2
    go_roundw
    case rel=>exact⟨k+1,qs,by omega,by go_num,HR,A,hO,HN,hb⟩
    case measure=>simp[intOf];omega
   case pos=>
    have e1:(OV !=1)=false:=by simp[I]
    have HI:Hid (qs.map Va=onc (defL (ps.map Vb) k) ((ps[k].batch.map Va).take 0)):=show _=_ by rw[List.take_zero];exact HE.out
    have y:Hid (qs.length≤4*k+0):=HL.out;have al:Hid (defL (ps.map Vb) (k+1)=onc (defL (ps.map Vb) k) (ps[k].batch.map Va)):=ak.out I;clear aj ay ak HE HL I;generalize ps[k]=p at*;obtain⟨has,vb,d,vr,aT,vd,dec⟩:=p;have hT:txnK.At w vb d:=hP.batch;have cc:=(hP.below hb).box.c1;dsimp only at cc;obtain⟨ba,bk,rfl⟩:=hT.shape;dsimp only at HI al U aG;have bf:=U.1;have bw:nmL Vc d≤1048576:=by
     have h9:=aQ;dsimp only[InstQ.n]at h9;omega
    generalize defL (ps.map Vb) k=acc at*
    go_wp2
    clear cc;go_loopw[5,7] (fun v j wx=>∃ (m:Nat) (qs:List TxnQ),m≤d.length∧j=Q G m∧Hid (qs.map Va=onc acc ((d.map Va).take m))∧Hid (qs.length≤4*k+m)∧txnK.Own wx v qs∧Hid ((txnK.fp v qs).Nodup∧∀k∈txnK.fp v qs,w.heap.size≤k)∧Below w.heap.size w wx) (fun _ j _=>d.length-(intOf j).toNat)
    case atStart=>exact⟨0,qs,Ve _,rfl,HI,y,hO,HN,hb⟩
    case round=>
     clear HI y hO HN hb;obtain⟨m,qs,hm,rfl,HI,y,hO,HN,hb⟩:=hrel;obtain⟨sa,sc,rfl⟩:=hO.shape;have aZ:=hP.below hb;have aA:=aZ.box.c1;dsimp only at aA;by_cases E:m<d.length
     ·have bc:(m:Int)<(d.length:Int):=by omega
      have bv:d.length≤4:=aG;obtain⟨b2,o2,rfl,br,hc,L⟩:=(hT.below hb).cell (by decide) m E;have O:∀j x,(txnK.cells d[m])[j]?=some x→wr.cell? ⟨b2,o2+m*4+j,none⟩=some x:=hc;have t0:=O 0 (Q G d[m].i) rfl;have t1:=O 1 (Q G d[m].s) rfl;have t2:=O 2 (Q G d[m].q) rfl;have t3:=O 3 (d[m].va) rfl;rw[Nat.add_zero]at t0;have aq:=z01 Vc d m E;have V:=bf _ (Vh E);have HS:(d.map Va).take (m+1)=(d.map Va).take m++[Va d[m]]:=by
       rw[Vi (by simpa using E),List.getElem_map]
      have ag:Hid (knw (qs.map Va) (Va d[m])=true→qs.map Va=onc acc ((d.map Va).take (m+1))):=fun hx=>by
       rw[HS,q0z,←HI.out,if_pos hx]
      have ah:Hid (knw (qs.map Va) (Va d[m])=false→∀p':TxnQ,p'.e=Va d[m]→(qs++[p']).map Va=onc acc ((d.map Va).take (m+1))):=fun hx p' bg=>by
       rw[HS,q0z,←HI.out,if_neg (by rw[hx];decide),List.map_append,List.map_singleton,bg]
      clear hc O HS;generalize d[m]=p at*;obtain⟨i,s,q,va,c⟩:=p;replace L:actK.At wr va c:=L;replace aq:c.length≤nmL Vc d:=aq;obtain⟨aa,ac,rfl⟩:=L.shape;dsimp only at t0 t1 t2 t3 V;obtain⟨ab,ao,a7⟩:∃ab ao,aa=some ⟨ab,ao,none⟩:=by
       rcases(z0Z L).2 with h0|⟨ab,ao,e,_⟩
       ·have:=z0t c;rw[h0]at this;simp at this;omega
       ·exact⟨ab,ao,e⟩
      subst a7;have aI:=z6N i s q ab ao ac c _ (z0Z L).2 V (by omega)
      go_wp2_with fail
      clear t0 t1 t2 t3 aA;have av:Hid (∀x∈txnK.fp (R sa qs.length sc) qs,x<wr.heap.size):=hO.lt;have az:Hid (w.heap.size≤wr.heap.size):=hb.size;refine aI.mono ?_;rintro e w2 ⟨a2,c2,rfl,aR,X⟩;replace hO:=hO.below X;replace hb:=hb.trans (X.mono hb.size);have bs:=X.size;obtain⟨bo,aK⟩:=z0B aR;have C:txnK.own w2 (⟨i,s,q,R a2 c.length c2,c⟩:TxnQ):=⟨bo,fun _ _=>trivial⟩
      have M:∀x∈txnK.foot (⟨i,s,q,R a2 c.length c2,c⟩:TxnQ),wr.heap.size≤x:=fun x hx=>aK x (by rw[←z1b (R a2 c.length c2) c];exact hx)
      have aE:(txnK.foot (⟨i,s,q,R a2 c.length c2,c⟩:TxnQ)).Nodup:=by
       show(actK.fp _ _).Nodup;rw[z1b];exact z0x _
      have a1:=txnK.own_lt C;have N:Below w2.heap.size w2 (w2.alloc (.cells #[Q G i,Q G s,Q G q,R a2 c.length c2] 152)):=by go_grown
      have Tb:=Blk.new w2 152 #[Q G i,Q G s,Q G q,R a2 c.length c2];replace hO:=hO.below N;replace C:=txnK.own_out (F:=[]) C (Out.of_below N) (fun _ _=>by simp);replace hb:=hb.trans (N.mono hb.size);have Z:=fun w h hB=>z5S (R sa qs.length sc) qs w2.heap.size 0 (Va (⟨i,s,q,R a2 c.length c2,c⟩:TxnQ)) (R a2 c.length c2) w h hB (by have:=y.out;omega)
      have aB:Box4 (w2.alloc (.cells #[Q G i,Q G s,Q G q,R a2 c.length c2] 152)) w2.heap.size 0 (Q G i) (Q G s) (Q G q) (R a2 c.length c2):=⟨Tb.cell 0 _ rfl,Tb.cell 1 _ rfl,Tb.cell 2 _ rfl,Tb.cell 3 _ rfl⟩
      have ap:=Z _ hO.at aB;have aC:Va (⟨i,s,q,R a2 c.length c2,c⟩:TxnQ)=Va ⟨i,s,q,R (some ⟨ab,ao,none⟩) c.length ac,c⟩:=rfl;rw[aC]at ap;clear aI aR aK Z aC aB;generalize knw (qs.map Va) (Va ⟨i,s,q,R (some ⟨ab,ao,none⟩) c.length ac,c⟩)=KN at*
      go_wp2_with fail
      generalize bh:w2.alloc (.cells #[Q G i,Q G s,Q G q,R a2 c.length c2] 152)=WA at*;clear bh;refine ap.mono ?_;rintro e w3 ⟨rfl,J⟩;replace hO:=hO.below J;replace C:=txnK.own_out (F:=[]) C (Out.of_below J) (fun _ _=>by simp);replace hb:=hb.trans (J.mono hb.size);replace Tb:=Tb.below J;have bt:=J.size;have bu:=N.size;clear J ap
      cases KN with
      |true=>
       have HR:=ag.out rfl;have aX:Hid _:=HR;have A:Hid (qs.length≤4*k+(m+1)):=show _≤_ by have:=y.out;omega
       clear ag ah HR HI y Tb C
       go_wp2
       go_roundw
       case rel=>exact⟨m+1,qs,by omega,by go_num,aX,A,hO,HN,hb⟩
       case measure=>simp[intOf];omega
      |false=>
       have ax:=ah.out rfl;have ad:Hid _:=ax;have ai:Hid (qs.length≤20):=show _≤_ by have:=y.out;omega
       have A:Hid (qs.length+1≤4*k+(m+1)):=show _≤_ by have:=y.out;omega
       obtain⟨u0,u1,u2,u3⟩:=Tb.cel4;have D:Below w3.heap.size w3 (w3.alloc (.cells #[Q G i,Q G s,Q G q,R a2 c.length c2] 152)):=by go_grown
       have am:=hO.below D;have aD:=txnK.own_out (F:=[]) C (Out.of_below D) (fun _ _=>by simp);have Y:=hb.trans (D.mono hb.size);have a6:wr.heap.size≤(w3.alloc (.cells #[Q G i,Q G s,Q G q,R a2 c.length c2] 152)).heap.size:=by have:=D.size;omega
       clear hO C ag ah ax;have W:=am.1
       go_wp2_with (at_builtin;refine wpList_append_own_at _ rfl _ _ 51 rfl 0 152 i0 (.agg #[Q G 0,Q G 0,Q G 0,R none 0 0]) 4 48 Tryz.underlying51 hi bl bm bn rfl (by decide) _ qs.length (txnK.row qs) rfl W ⟨w3.heap.size,0,none⟩ 1 1 [Q G i,Q G s,Q G q,R a2 c.length c2] rfl rfl ?c1 ?c2 ?c3 ?c4 ?c5 ?_)
       all_goals try(case c1=>intro j u hj;match j,hj with|0,hj=>simp at hj;subst hj;simp[Addr.add]|1,hj=>simp at hj;subst hj;simp[Addr.add]|2,hj=>simp at hj;subst hj;simp[Addr.add]|3,hj=>simp at hj;subst hj;simp[Addr.add])
       all_goals try(case c2=>intro u hu;simp at hu;rcases hu with rfl|rfl|rfl|rfl<;>rfl)
       all_goals try(case c3=>have:=ai.out;unfold maxLen;omega)
       all_goals try(case c4=>have:=ai.out;omega)
       all_goals try(case c5=>first|omega|simp)
       intro v' w5 af T aP an;clear aP W u0 u1 u2 u3 Tb;rw[show w3.heap.size+1=(w3.alloc (.cells #[Q G i,Q G s,Q G q,R a2 c.length c2] 152)).heap.size from(World.size_alloc _ _).symm]at an;generalize bi:w3.alloc (.cells #[Q G i,Q G s,Q G q,R a2 c.length c2] 152)=WB at*;clear bi;obtain⟨aY,aO,ae,aS⟩:=am.snoc (p:=(⟨i,s,q,R a2 c.length c2,c⟩:TxnQ)) HN.out.1 HN.out.2 aD aE (fun x hx bj=>by have:=av.out x bj;have:=M x hx;omega) (fun x hx=>by have:=M x hx;have:=az.out;omega) Y.size af T an;have a8:Below w.heap.size w w5:=Out.keep Y aS Y.size (fun x hx=>HN.out.2 x (by simp only[Kind.fp,List.mem_append];exact Or.inl hx));have aU:Hid ((qs++[(⟨i,s,q,R a2 c.length c2,c⟩:TxnQ)]).map Va=onc acc ((d.map Va).take (m+1))):=ad.out _ rfl;have aW:Hid ((txnK.fp v' (qs++[(⟨i,s,q,R a2 c.length c2,c⟩:TxnQ)])).Nodup∧∀k∈txnK.fp v' (qs++[(⟨i,s,q,R a2 c.length c2,c⟩:TxnQ)]),w.heap.size≤k):=⟨aO,ae⟩
       have aV:Hid ((qs++[(⟨i,s,q,R a2 c.length c2,c⟩:TxnQ)]).length≤4*k+(m+1)):=show _≤_ by rw[List.length_append];exact A.out
       clear ad HN av az aD am Y af T an aS aO ae L hb N D aq V a6 M aE a1 HI y ai A X
       go_wp2
       go_roundw
       case rel=>exact⟨m+1,_,by omega,by go_num,aU,aV,aY,aW,a8⟩
       case measure=>simp[intOf];omega
     ·have be:m=d.length:=by omega
      subst be;have HR:Hid (qs.map Va=defL (ps.map Vb) (k+1)):=show _=_ by
       have h8:=HI.out;rw[List.take_of_length_le (by simp)]at h8;rw[al.out];exact h8
      have A:Hid (qs.length≤4*(k+1)):=show _≤_ by have:=y.out;omega
      clear HI y al
      go_wp2
      go_roundw
      case rel=>exact⟨k+1,qs,by omega,by go_num,HR,A,hO,HN,hb⟩
      case measure=>simp[intOf];omega
  ·have Z:k=n:=by omega
   subst Z;have aM:¬(k:Int)<(k:Int):=by omega
   go_wp2
   go_ret;first|exact⟨_,qs,rfl,HE.out,hO,HN.out.1,HN.out.2,hb⟩|exact⟨_,rfl,qs,HE.out,hO,HN.out.1,HN.out.2,hb⟩
theorem z4z(i s q:Int)(a:Option Addr)(n c:Nat)(i' s' q':Int)(a':Option Addr)(n' c':Nat)(xs ys:List ActD)(w:World):
  Calls B 265 #[.agg #[Q G i,Q G s,Q G q,R a n c],.agg #[Q G i',Q G s',Q G q',R a' n' c']] w fun e w'=>e=.returned (.bool (stF ⟨i,s,q,xs⟩ ⟨i',s',q',ys⟩))∧Below w.heap.size w w':=by
 unfold stF;dsimp only
 cases h1:(i==i')
 ·cases h2:(s==s')
  ·go_enter func265,ntmps265
   go_wp2
   go_ret;exact⟨rfl,by go_grown⟩
  ·cases h3:(q==q')
   ·go_enter func265,ntmps265
    go_wp2
    go_ret;exact⟨rfl,by go_grown⟩
   ·go_enter func265,ntmps265
    go_wp2
    go_ret;exact⟨rfl,by go_grown⟩
 ·go_enter func265,ntmps265
  go_wp2
  go_ret;exact⟨rfl,by go_grown⟩
theorem q1p(i s q:Int)(a:Option Addr)(n c:Nat)(xs:List ActD)(x:TxnD)(bx:Nat)(a':Option Addr)(n' c':Nat)(w:World)(hX:Blk w bx 152 #[Q G x.id,Q G x.session,Q G x.seq,R a' n' c']):
  Calls B 264 #[.agg #[Q G i,Q G s,Q G q,R a n c],.pointer (some ⟨bx,0,none⟩)] w fun e w'=>e=.returned (.bool (stF ⟨i,s,q,xs⟩ x))∧Below w.heap.size w w':=by
 obtain⟨xi,xs',xq,xa⟩:=x;have hB:Below w.heap.size w (w.alloc (.cells #[Q G i,Q G s,Q G q,R a n c] 152)):=by go_grown
 have hX':=hX.below hB;have hq:=fun w=>z4z i s q a n c xi xs' xq a' n' c' xs xa w
 have x0:=hX'.cell 0 _ rfl;have x1:=hX'.cell 1 _ rfl;have x2:=hX'.cell 2 _ rfl;have x3:=hX'.cell 3 _ rfl;generalize stF ⟨i,s,q,xs⟩ ⟨xi,xs',xq,xa⟩=E at*;go_enter func264,ntmps264
 go_wp2_with fail
 refine(hq _).mono ?_;rintro e w2 ⟨rfl,hb2⟩;replace hB:=hB.trans (hb2.mono hB.size)
 go_wp2
 go_ret;exact⟨rfl,hB⟩
theorem z6v(v:Value)(ps:List TxnQ)(x:TxnD)(bx:Nat)(a':Option Addr)(n' c':Nat)(w:World)(h:txnK.At w v ps)(hX:Blk w bx 152 #[Q G x.id,Q G x.session,Q G x.seq,R a' n' c'])(hl:ps.length≤1048576):
  Calls B 270 #[v,.func (.func 264) #[] #[.pointer (some ⟨bx,0,none⟩)]] w fun e w'=>∃r:Int,e=.returned (Q G r)∧(knw (ps.map Va) x=true→0≤r)∧(knw (ps.map Va) x=false→r<0)∧Below w.heap.size w w':=by
 obtain⟨a,cap,rfl⟩:=h.shape;generalize hE:knw (ps.map Va) x=E;have HE:Hid (knw (ps.map Va) x=E):=hE;clear hE;go_enter func270,ntmps270
 go_wp2
 go_loopw[8] (fun j wr=>∃k:Nat,k≤ps.length∧j=Q G k∧Below w.heap.size w wr∧Hid (∀j,j<k→stF ((ps.map Va).getD j z4W) x=false)) (fun j _=>ps.length-(intOf j).toNat)
 case atStart=>exact⟨0,Ve _,rfl,Below.refl _ _,fun j hj=>absurd hj (Nat.not_lt_zero _)⟩
 case round=>
  obtain⟨k,hk,rfl,hb,HA⟩:=hrel;by_cases y:k<ps.length
  ·obtain⟨b',L,rfl,I,hc,z⟩:=(h.below hb).cell (by decide) k y;have d:∀j x,(txnK.cells ps[k])[j]?=some x→wr.cell? ⟨b',L+k*4+j,none⟩=some x:=hc;have c0:=d 0 (Q G ps[k].i) rfl;have c1:=d 1 (Q G ps[k].s) rfl;have c2:=d 2 (Q G ps[k].q) rfl;have c3:=d 3 (ps[k].va) rfl;rw[Nat.add_zero]at c0;have HY:Hid (stF (Va ps[k]) x=true→E=true):=fun hx=>by rw[←HE.out];exact q2N k (by simpa using y) (by rw[z7E ps k y];exact hx)
   have HN:Hid (stF (Va ps[k]) x=false→∀j,j<k+1→stF ((ps.map Va).getD j z4W) x=false):=fun hx j hj=>by
    by_cases J:j=k
    ·subst J;rw[z7E ps j y];exact hx
    ·exact HA.out j (by omega)
   clear HA hc d;generalize ps[k]=p at*;obtain⟨i,s,q,M,c⟩:=p;replace z:actK.At wr M c:=z;obtain⟨aa,ac,rfl⟩:=z.shape;dsimp only[Va]at c0 c1 c2 c3 HY HN;have hq:=q1p i s q aa c.length ac c x bx a' n' c' wr (hX.below hb);generalize stF ⟨i,s,q,c⟩ x=S at*;have C:(k:Int)<(ps.length:Int):=by omega
   go_wp2_with fail
   refine hq.mono ?_;rintro e w2 ⟨rfl,A⟩;replace hb:=hb.trans (A.mono hb.size);clear hq c0 c1 c2 c3 A z I
   cases S with
   |true=>
    have E1:Hid (E=true):=HY.out rfl;clear HY HN
    go_wp2
    go_ret;refine⟨_,rfl,fun _=>by omega,fun h0=>?_,hb⟩;rw[E1.out]at h0;exact absurd h0 (by decide)
   |false=>
    have D:Hid _:=HN.out rfl;clear HY HN
    go_wp2
    go_roundw
    case rel=>exact⟨k+1,by omega,by go_num,hb,D.out⟩
    case measure=>simp[intOf];omega
  ·have E1:Hid (E=false):=by rw[←HE.out];exact q4O (fun j hj=>HA.out j (by simp at hj;omega))
   have C:¬(k:Int)<(ps.length:Int):=by omega
   clear HA HE
   go_wp2
   go_ret;refine⟨_,rfl,fun h0=>?_,fun _=>by omega,hb⟩;rw[E1.out]at h0;exact absurd h0 (by decide)
theorem z4A(v:Value)(ps:List TxnQ)(x:TxnD)(bx:Nat)(a':Option Addr)(n' c':Nat)(w:World)(h:txnK.At w v ps)(hX:Blk w bx 152 #[Q G x.id,Q G x.session,Q G x.seq,R a' n' c'])(hl:ps.length≤1048576):
  Calls B 263 #[v,.func (.func 264) #[] #[.pointer (some ⟨bx,0,none⟩)]] w fun e w'=>e=.returned (.bool (knw (ps.map Va) x))∧Below w.heap.size w w':=by
 have hq:=z6v v ps x bx a' n' c' w h hX hl;obtain⟨a,cap,rfl⟩:=h.shape;generalize knw (ps.map Va) x=E at*;go_enter func263,ntmps263
 go_wp2_with fail
 refine hq.mono ?_;rintro e w2 ⟨r,rfl,h1,h2,hb⟩
 cases E with
 |true=>
  have h0:0≤r:=h1 rfl;clear h1 h2
  go_wp2
  go_ret;exact⟨by simp[h0],hb⟩
 |false=>
  have h0:¬0≤r:=by have:=h2 rfl;omega
  clear h1 h2
  go_wp2
  go_ret;exact⟨by simp[h0],hb⟩
theorem z6w(v:Value)(ps:List TxnQ)(x:TxnD)(a':Option Addr)(n' c':Nat)(w:World)(h:txnK.At w v ps)(hl:ps.length≤1048576):
  Calls B 257 #[v,.agg #[Q G x.id,Q G x.session,Q G x.seq,R a' n' c']] w fun e w'=>e=.returned (.bool (knw (ps.map Va) x))∧Below w.heap.size w w':=by
 have hB:Below w.heap.size w (w.alloc (.cells #[Q G x.id,Q G x.session,Q G x.seq,R a' n' c'] 152)):=by go_grown
 have hq:=z4A v ps x w.heap.size a' n' c' _ (h.below hB) (Blk.new w 152 #[Q G x.id,Q G x.session,Q G x.seq,R a' n' c']) hl;have hmf:∀ (fn:Fn) (first cap:Array Value) (w:World),(Instr.makeFunc fn first cap).run B w=.ok (.func fn first cap) w:=fun _ _ _ _=>rfl
 obtain⟨a,cap,rfl⟩:=h.shape;generalize knw (ps.map Va) x=E at*;obtain⟨xi,xs,xq,xa⟩:=x;dsimp only at hB hq⊢;go_enter func257,ntmps257
 go_wp2_with fail
 refine hq.mono ?_;rintro e w2 ⟨rfl,hb2⟩;replace hB:=hB.trans (hb2.mono hB.size);clear hmf
 go_wp2
 go_ret;exact⟨rfl,hB⟩
def stpF(acc:List TxnD)(t:TxnD):Int:=if t.F=0 then(if knw acc t then 6 else 0)else t.F
def z2z:List TxnD→List TxnD→Int
 |_,[]=>0
 |acc,t::r=>if stpF acc t=0 then z2z (acc++[t]) r else stpF acc t
def lstF(ds:List TxnD):Int:=if 40<ds.length then 2 else z2z [] ds
def q2O:List (List TxnD)→Int
 |[]=>0
 |d::r=>if lstF d=0 then q2O r else lstF d
theorem q0A(ds:List TxnD)(k:Nat)(hk:k<ds.length):z2z (ds.take k) (ds.drop k)=if stpF (ds.take k) ds[k]=0 then z2z (ds.take (k+1)) (ds.drop (k+1))else stpF (ds.take k) ds[k]:=by
 conv=>lhs;rw[List.drop_eq_getElem_cons hk]
 rw[z2z,Vi hk]
theorem z8K(ds:List TxnD)(k:Nat)(hk:ds.length≤k):z2z (ds.take k) (ds.drop k)=0:=by
 rw[List.drop_of_length_le hk];rfl
theorem q5w(ls:List (List TxnD))(k:Nat)(hk:k<ls.length):q2O (ls.drop k)=if lstF ls[k]=0 then q2O (ls.drop (k+1))else lstF ls[k]:=by
 rw[List.drop_eq_getElem_cons hk,q2O]
theorem Kind.At.rdm{P:Type}{K:Kind P}{w:World}{v:Value}{ps:List P}{p:P}(h:K.At w v ps)(hp:p∈ps):K.rd w p:=by
 obtain⟨a,c,e,hl,hr⟩:=h;exact hr p hp
theorem Blk.setOne{w:World}{b:Nat}{t:TypeId}{x y:Value}(h:Blk w b t #[x]):Blk (w.setCell ⟨b,0,none⟩ y) b t #[y]:=by
 have h1:w.heap[b]?=some (.cells #[x] t (0,0)):=h;show(w.setCell ⟨b,0,none⟩ y).heap[b]?=some (.cells #[y] t (0,0));simp[World.setCell,Array.getElem?_modify,h1]
theorem z7F(p:TxnQ)(qs:List TxnQ)(bx:Nat)(va:Value)(w:World)(hT:actK.At w p.va p.acts)(hl:p.acts.length≤1048576)(hv:Blk w bx 51 #[va])(ho:w.ownsRow (bx+1) 152 4 va qs.length (txnK.row qs))(V:∀q∈qs,txnK.rd w q)(hq:qs.length≤40):
  Calls B 256 #[.agg #[Q G p.i,Q G p.s,Q G p.q,p.va],.pointer (some ⟨bx,0,none⟩)] w fun e w'=>e=.returned (Q G (stpF (qs.map Va) (Va p)))∧Below bx w w'∧(stpF (qs.map Va) (Va p)=0→∃Z,Blk w' bx 51 #[Z]∧w'.ownsRow (bx+1) 152 4 Z (qs++[p]).length (txnK.row (qs++[p]))):=by
 obtain⟨i,s,q,pv,c⟩:=p;dsimp only at hT hl;obtain⟨aa,ac,rfl⟩:=hT.shape;obtain⟨sa,sc,rfl⟩:=z0f ho;obtain⟨i0,hi,ah,ai,aj⟩:=info_parts z1A;have ak:=hv.lt;have hB:Below w.heap.size w (w.alloc (.cells #[Q G i,Q G s,Q G q,R aa c.length ac] 152)):=by go_grown
 have hX:=Blk.new w 152 #[Q G i,Q G s,Q G q,R aa c.length ac];have M:=z2D i s q aa ac c _ ((z0Z hT).2.below hB) hl;replace hv:=hv.below hB;replace ho:=z0d ho hB;have D:txnK.At (w.alloc (.cells #[Q G i,Q G s,Q G q,R aa c.length ac] 152)) (R sa qs.length sc) qs:=Kind.at_of_row ho (fun q hq=>txnK.rd_below (V q hq) hB);have HS:Hid (stpF (qs.map Va) ⟨i,s,q,c⟩=if txnF i s q c=0 then(if knw (qs.map Va) ⟨i,s,q,c⟩then 6 else 0)else txnF i s q c):=rfl;dsimp only[Va];generalize stpF (qs.map Va) ⟨i,s,q,c⟩=S at*;generalize txnF i s q c=C at*;clear hT V;go_enter func256,ntmps256
 go_wp2_with fail
 have ab:=hB.size;have an:w.heap.size<(w.alloc (.cells #[Q G i,Q G s,Q G q,R aa c.length ac] 152)).heap.size:=by simp
 generalize w.heap.size=H at*;generalize w.alloc (.cells #[Q G i,Q G s,Q G q,R aa c.length ac] 152)=W at*;refine M.mono ?_;rintro e w1 ⟨rfl,d⟩;replace hv:=hv.below d;replace ho:=z0d ho d;replace hX:=hX.below d;replace D:=D.below d;replace hB:=hB.trans (d.mono ab);by_cases hC:C=0
 ·subst hC;rw[if_pos rfl]at HS;have hh:=z6w (R sa qs.length sc) qs ⟨i,s,q,c⟩ aa c.length ac w1 D (by omega);dsimp only at hh;obtain⟨x0,x1,x2,x3⟩:=hX.cel4;have v0:=hv.cell 0 _ rfl;generalize knw (qs.map Va) ⟨i,s,q,c⟩=Y at*;clear M D
  go_wp2_with fail
  refine hh.mono ?_;rintro e w2 ⟨rfl,z⟩;clear x0 x1 x2 x3 v0 hh;replace hv:=hv.below z;replace ho:=z0d ho z;replace hX:=hX.below z;have al:=z.size;have af:=d.size;replace hB:=hB.trans (z.mono (by omega));clear d z
  cases Y with
  |true=>
   have A:Hid (S=6):=HS.out;clear HS
   go_wp2
   go_ret;rw[A.out];exact⟨rfl,hB.mono (by omega),fun h0=>absurd h0 (by decide)⟩
  |false=>
   have A:Hid (S=0):=HS.out;clear HS;obtain⟨x0,x1,x2,x3⟩:=hX.cel4;have v0:=hv.cell 0 _ rfl;have I:Below w2.heap.size w2 (w2.alloc (.cells #[Q G i,Q G s,Q G q,R aa c.length ac] 152)):=by go_grown
   have X:=hv.below I;have J:=z0d ho I;have N:=hB.trans (I.mono (by omega));have am:=I.size;clear hv ho hB hX
   go_wp2_with (at_builtin;refine wpList_append_own_at _ rfl _ _ 51 rfl (bx+1) 152 i0 (.agg #[Q G 0,Q G 0,Q G 0,R none 0 0]) 4 48 Tryz.underlying51 hi ah ai aj rfl (by decide) _ qs.length (txnK.row qs) rfl J ⟨w2.heap.size,0,none⟩ 1 1 [Q G i,Q G s,Q G q,R aa c.length ac] rfl rfl ?c1 ?c2 ?c3 ?c4 ?c5 ?_)
   all_goals try(case c1=>intro j u hj;match j,hj with|0,hj=>simp at hj;subst hj;simp[Addr.add]|1,hj=>simp at hj;subst hj;simp[Addr.add]|2,hj=>simp at hj;subst hj;simp[Addr.add]|3,hj=>simp at hj;subst hj;simp[Addr.add])
   all_goals try(case c2=>intro u hu;simp at hu;rcases hu with rfl|rfl|rfl|rfl<;>rfl)
   all_goals try(case c3=>unfold maxLen;omega)
   all_goals try(case c4=>omega)
   all_goals try(case c5=>omega)
   intro v' w5 y x U O;obtain⟨a6,c6,rfl⟩:=z0f y;have E:Blk w5 bx 51 #[R sa qs.length sc]:=X.grown x (fun e=>by have:=(J.lt bx e.symm).1;omega);have T:Below bx w w5:=(N.mono (show bx≤_ by omega)).grown x (by omega) (fun j hj=>by have:=(J.lt j hj).1;omega);have L:txnK.row (qs++[(⟨i,s,q,R aa c.length ac,c⟩:TxnQ)])=txnK.row qs++[Q G i,Q G s,Q G q,R aa c.length ac]:=by simp[Kind.row];rfl
   have f5:=E.frozen 0;have c5:=E.cell 0 _ rfl;have ad:Below bx w (w5.setCell ⟨bx,0,none⟩ (R a6 (qs.length+1) c6)):=Out.keep T (Out.setCell w5 bx 0 _) (by have:=E.lt;omega) (fun k hk=>by simp at hk;omega);have ag:Blk (w5.setCell ⟨bx,0,none⟩ (R a6 (qs.length+1) c6)) bx 51 #[R a6 (qs.length+1) c6]:=E.setOne;have ae:(w5.setCell ⟨bx,0,none⟩ (R a6 (qs.length+1) c6)).ownsRow (bx+1) 152 4 (R a6 (qs.length+1) c6) (qs++[(⟨i,s,q,R aa c.length ac,c⟩:TxnQ)]).length (txnK.row (qs++[(⟨i,s,q,R aa c.length ac,c⟩:TxnQ)])):=by
    rw[L,List.length_append];refine z0X y (Out.setCell w5 bx 0 _) (fun k hk e=>?_);simp only[List.mem_singleton]at e;subst e;have:=(y.lt k (by simpa[blk]using hk)).1;omega
   clear y x U O L J X T N E x0 x1 x2 x3 v0
   go_wp2
   go_ret;rw[A.out];exact⟨rfl,ad,fun _=>⟨_,ag,ae⟩⟩
 ·rw[if_neg hC]at HS;have A:Hid (S=C):=HS.out;clear HS M D;have af:=d.size
  go_wp2
  go_ret;rw[A.out];exact⟨rfl,hB.mono (by omega),fun h0=>absurd h0 hC⟩
theorem z7G(w:World):Calls B 244 #[] w fun e w'=>e=.returned (.func (.func 256) #[] #[.pointer (some ⟨w.heap.size,0,none⟩)])∧w'=w.alloc (.cells #[R none 0 0] 51):=by
 have hmf:∀ (fn:Fn) (first cap:Array Value) (w:World),(Instr.makeFunc fn first cap).run B w=.ok (.func fn first cap) w:=fun _ _ _ _=>rfl
 go_enter func244,ntmps244
 go_wp2
 go_ret;exact⟨rfl,rfl⟩
theorem z6x(b cap:Nat)(ls:List (Value × List TxnQ))(w:World)(ax:b<w.heap.size)(hc:∀ (k:Nat) (hk:k<ls.length),w.cell? ⟨b,k,none⟩=some ls[k].1)(hA:∀l∈ls,txnK.At w l.1 l.2)(hl:∀l∈ls,l.2.length+nmL Vc l.2≤1048576)(h2:ls.length≤2):
  Calls B 223 #[R (some ⟨b,0,none⟩) ls.length cap] w fun e w'=>e=.returned (Q G (q2O (ls.map (fun l=>l.2.map Va))))∧Below w.heap.size w w':=by
 generalize hE:q2O (ls.map (fun l=>l.2.map Va))=E;have HE:Hid (q2O ((ls.map (fun l=>l.2.map Va)).drop 0)=E):=hE;clear hE;go_enter func223,ntmps223
 go_wp2
 go_loopw[11] (fun j wr=>∃k:Nat,k≤ls.length∧j=Q G k∧Below w.heap.size w wr∧Hid (q2O ((ls.map (fun l=>l.2.map Va)).drop k)=E)) (fun j _=>ls.length-(intOf j).toNat)
 case atStart=>exact⟨0,Ve _,rfl,Below.refl _ _,HE⟩
 case round=>
  clear HE;obtain⟨k,hk,rfl,hb,HE⟩:=hrel;obtain⟨U,rfl⟩:∃U,U=wr:=⟨_,rfl⟩
  by_cases I:k<ls.length
  ·have d:Hid ((if lstF (ls[k].2.map Va)=0 then q2O ((ls.map (fun l=>l.2.map Va)).drop (k+1))else lstF (ls[k].2.map Va))=E):=show _=_ by
    have:=HE.out;rw[q5w _ k (by simpa using I)]at this;simpa using this
   have ah:=(hb.cell (p:=⟨b,k,none⟩) ax).trans (hc k I);have M:=(hA _ (Vh I)).below hb;have W:=hl _ (Vh I);generalize ls[k]=l at*;obtain⟨v,ps⟩:=l;dsimp only at ah M W d;obtain⟨a,cp,rfl⟩:=M.shape;clear HE;have ak:(k:Int)<(ls.length:Int):=by omega
   by_cases ad:40<ps.length
   ·have E1:Hid (E=2):=show _=_ by
     have:=d.out;have e2:lstF (ps.map Va)=2:=by unfold lstF;rw[Vg,if_pos ad]
     rw[e2]at this;exact this.symm
    clear d;have ae:(40:Int)<(ps.length:Int):=by omega
    go_wp2
    go_ret;rw[E1.out];exact⟨rfl,hb⟩
   ·have ae:¬(40:Int)<(ps.length:Int):=by omega
    have ab:Hid (z2z (((ps.map Va)).take 0) ((ps.map Va).drop 0)=lstF (ps.map Va)):=show _=_ by unfold lstF;rw[Vg,if_neg ad];rfl
    have aj:=z7G U;have ag:Below U.heap.size U (U.alloc (.cells #[R none 0 0] 51)):=by go_grown
    have ao:=Blk.new U 51 #[R none 0 0];have al:=World.ownsRow_nil (U.alloc (.cells #[R none 0 0] 51)) (U.heap.size+1) 152 4;have ap:=hb.size
    go_wp2_with fail
    clear ah;refine aj.mono ?_;rintro e w2 ⟨rfl,rfl⟩;clear aj;generalize av:U.heap.size=bx at*;generalize hY:U.alloc (.cells #[R none 0 0] 51)=Y at*;clear hY
    go_wp2
    go_loopw[21] (fun j wy=>∃ (m:Nat) (va:Value),m≤ps.length∧j=Q G m∧Blk wy bx 51 #[va]∧wy.ownsRow (bx+1) 152 4 va (ps.take m).length (txnK.row (ps.take m))∧Below bx U wy∧Hid (z2z ((ps.map Va).take m) ((ps.map Va).drop m)=lstF (ps.map Va))) (fun j _=>ps.length-(intOf j).toNat)
    case atStart=>exact⟨0,_,Ve _,rfl,ao,al,ag,ab⟩
    case round=>
     clear ao al ag ab;obtain⟨m,va,hm,rfl,hv,ho,A,HG⟩:=hrel;by_cases c:m<ps.length
     ·have L:Hid ((if stpF ((ps.map Va).take m) (Va ps[m])=0 then z2z ((ps.map Va).take (m+1)) ((ps.map Va).drop (m+1))else stpF ((ps.map Va).take m) (Va ps[m]))=lstF (ps.map Va)):=show _=_ by
       have:=HG.out;rw[q0A _ m (by simpa using c)]at this;simpa using this
      have C:Below U.heap.size U wr:=by rw[av];exact A
      obtain⟨b',aA,rfl,aD,ai,am⟩:=(M.below C).cell (by decide) m c;have D:∀j x,(txnK.cells ps[m])[j]?=some x→wr.cell? ⟨b',aA+m*4+j,none⟩=some x:=ai;have c0:=D 0 (Q G ps[m].i) rfl;have c1:=D 1 (Q G ps[m].s) rfl;have c2:=D 2 (Q G ps[m].q) rfl;have c3:=D 3 (ps[m].va) rfl;rw[Nat.add_zero]at c0;have aq:=z01 Vc ps m c;have an:ps.take (m+1)=ps.take m++[ps[m]]:=Vi c;have T:∀q∈ps.take m,txnK.rd wr q:=fun q hq=>(M.below C).rdm (List.mem_of_mem_take hq)
      have W:(ps.take m).length≤40:=by rw[List.length_take];omega
      have O:=z7F ps[m] (ps.take m) bx va;rw[List.map_take,←an]at O;clear HG ai D an;generalize hS:stpF ((ps.map Va).take m) (Va ps[m])=S at*;clear hS;generalize ps[m]=p at*;obtain⟨i,s,q,aB,y⟩:=p;have J:actK.At wr aB y:=am;replace aq:y.length≤nmL Vc ps:=aq;obtain⟨aa,ac,rfl⟩:=J.shape;dsimp only at c0 c1 c2 c3 O;have X:(m:Int)<(ps.length:Int):=by omega
      have z:Below wr.heap.size wr (wr.alloc (.cells #[Q G i,Q G s,Q G q,R aa y.length ac] 152)):=by go_grown
      have hq:=O _ (J.below z) (by omega) (hv.below z) (z0d ho z) (fun q hq=>txnK.rd_below (T q hq) z) W;have N:=A.trans (z.mono (by have:=hv.lt;omega));clear O z hv ho J am T A C
      go_wp2_with fail
      clear c0 c1 c2 c3;generalize wr.alloc (.cells #[Q G i,Q G s,Q G q,R aa y.length ac] 152)=Z at*;refine hq.mono ?_;rintro e w3 ⟨rfl,af,hI⟩;replace N:=N.trans af;clear hq af;by_cases V:S=0
      ·subst V;obtain⟨aC,az,ay⟩:=hI rfl;clear hI;have au:Hid (z2z ((ps.map Va).take (m+1)) ((ps.map Va).drop (m+1))=lstF (ps.map Va)):=show _=_ by
        have:=L.out;rw[if_pos rfl]at this;exact this
       clear L
       go_wp2
       go_roundw
       case rel=>exact⟨m+1,aC,by omega,by go_num,az,ay,N,au⟩
       case measure=>simp[intOf];omega
      ·have E1:Hid (E=S):=show _=_ by
        have h3:=L.out;rw[if_neg V]at h3;have h4:=d.out;rw[←h3,if_neg V]at h4;exact h4.symm
       clear L d hI
       go_wp2
       go_ret;rw[E1.out];exact⟨rfl,hb.trans (N.mono ap)⟩
     ·have h0:lstF (ps.map Va)=0:=by rw[←HG.out];exact z8K _ _ (by simpa using Nat.le_of_not_lt c)
      have ar:Hid (q2O ((ls.map (fun l=>l.2.map Va)).drop (k+1))=E):=show _=_ by
       have:=d.out;rw[if_pos h0]at this;exact this
      have X:¬(m:Int)<(ps.length:Int):=by omega
      have aw:Below w.heap.size w wr:=hb.trans (A.mono ap);clear HG d hv ho A
      go_wp2
      go_roundw
      case rel=>exact⟨k+1,by omega,by go_num,aw,ar⟩
      case measure=>simp[intOf];omega
  ·have E1:Hid (E=0):=by
    show _=_;rw[←HE.out,List.drop_of_length_le (by simpa using Nat.le_of_not_lt I)];rfl
   have ak:¬(k:Int)<(ls.length:Int):=by omega
   clear HE
   go_wp2
   go_ret;rw[E1.out];exact⟨rfl,hb⟩
theorem z4B(v:Value)(ps:List TxnQ)(w:World)(h:txnK.At w v ps)(hl:ps.length+nmL Vc ps≤1048576):
  Calls B 198 #[v] w fun e w'=>e=.returned (Q G (lstF (ps.map Va)))∧Below w.heap.size w w':=by
 have hB:Below w.heap.size w (w.alloc (.cells #[v] 51)):=by go_grown
 have hX:=Blk.new w 51 #[v];have hq:=z6x w.heap.size 1 [(v,ps)] (w.alloc (.cells #[v] 51)) hX.lt (fun k hk=>by
  have h0:k=0:=by simpa using hk
  subst h0;exact hX.cell 0 _ rfl) (fun l hl=>by rw [List.mem_singleton.1 hl];exact h.below hB) (fun l hl=>by rw [List.mem_singleton.1 hl];assumption) (by simp)
 have e0:q2O ([(v,ps)].map (fun l:Value × List TxnQ=>l.2.map Va))=lstF (ps.map Va):=by
  show(if lstF (ps.map Va)=0 then 0 else lstF (ps.map Va))=_;split
  ·rename_i h0;exact h0.symm
  ·rfl
 rw[e0]at hq;clear e0;generalize lstF (ps.map Va)=E at*;obtain⟨a,cap,rfl⟩:=h.shape;clear hX;go_enter func198,ntmps198
 go_wp2_with fail
 refine Calls.mono (show Calls B _ #[R (some ⟨w.heap.size,0,none⟩) 1 1] _ _ from hq) ?_;rintro e w2 ⟨rfl,hb⟩;replace hB:=hB.trans (hb.mono hB.size)
 go_wp2
 go_ret;exact⟨rfl,hB⟩
theorem z9U(v:Value)(ps:List TxnQ)(w:World)(h:txnK.At w v ps)(ad:z8D v)(hl:ps.length+nmL Vc ps≤1048576):
  Calls B 108 #[v] w fun e w'=>e=.returned (Q G (lstF (ps.map Va)))∧Below w.heap.size w w':=by
 obtain⟨a,cap,rfl⟩:=h.shape;obtain⟨ah,ai⟩:ps.length≤cap∧cap≤maxLen:=ad;by_cases T:40<ps.length
 ·have e2:lstF (ps.map Va)=2:=by unfold lstF;rw[Vg,if_pos T]
  rw[e2];have U:(40:Int)<(ps.length:Int):=by omega
  go_enter func108,ntmps108
  go_wp2
  go_ret;exact⟨rfl,Below.refl _ _⟩
 ·have U:¬(40:Int)<(ps.length:Int):=by omega
  have e2:lstF (ps.map Va)=z2z ((ps.map Va).take 0) ((ps.map Va).drop 0):=by unfold lstF;rw[Vg,if_neg T];rfl
  have HE:Hid (z2z ((ps.map Va).take 0) ((ps.map Va).drop 0)=lstF (ps.map Va)):=e2.symm;clear e2;generalize lstF (ps.map Va)=E at*;go_enter func108,ntmps108
  go_wp2
  go_loopw[3] (fun j wr=>∃m:Nat,m≤ps.length∧j=Q G m∧Below w.heap.size w wr∧Hid (z2z ((ps.map Va).take m) ((ps.map Va).drop m)=E)) (fun j _=>ps.length-(intOf j).toNat)
  case atStart=>exact⟨0,Ve _,rfl,Below.refl _ _,HE⟩
  case round=>
   clear HE;obtain⟨m,hm,rfl,hb,HG⟩:=hrel;by_cases y:m<ps.length
   ·have z:Hid ((if stpF ((ps.map Va).take m) (Va ps[m])=0 then z2z ((ps.map Va).take (m+1)) ((ps.map Va).drop (m+1))else stpF ((ps.map Va).take m) (Va ps[m]))=E):=show _=_ by
     have:=HG.out;rw[q0A _ m (by simpa using y)]at this;simpa using this
    have L:=(h.below hb).takeK m hm;obtain⟨b,d,rfl,ak,W,X⟩:=(h.below hb).cell (by decide) m y;have A:∀j x,(txnK.cells ps[m])[j]?=some x→wr.cell? ⟨b,d+m*4+j,none⟩=some x:=W;have c0:=A 0 (Q G ps[m].i) rfl;have c1:=A 1 (Q G ps[m].s) rfl;have c2:=A 2 (Q G ps[m].q) rfl;have c3:=A 3 (ps[m].va) rfl;rw[Nat.add_zero]at c0;have Z:=z01 Vc ps m y;have D:=fun va w'=>z5S (R (some ⟨b,d,none⟩) m cap) (ps.take m) b (d+m*4) (Va ps[m]) va w'
    have ae:(ps.take m).length≤1048576:=by rw[List.length_take];omega
    rw[List.map_take]at D;have HS:Hid (stpF ((ps.map Va).take m) (Va ps[m])=if(Va ps[m]).F=0 then(if knw ((ps.map Va).take m) (Va ps[m])then 6 else 0)else(Va ps[m]).F):=rfl;clear HG W A;generalize stpF ((ps.map Va).take m) (Va ps[m])=S at*;generalize knw ((ps.map Va).take m) (Va ps[m])=Y at*;generalize ps[m]=p at*;obtain⟨i,s,q,ag,c⟩:=p;have I:actK.At wr ag c:=X;replace Z:c.length≤nmL Vc ps:=Z;obtain⟨aa,ac,rfl⟩:=I.shape;have e3:(Va ⟨i,s,q,R aa c.length ac,c⟩).F=txnF i s q c:=rfl;rw[e3]at HS;dsimp only[Va]at c0 c1 c2 c3 D;have J:Box4 wr b (d+m*4) (Q G i) (Q G s) (Q G q) (R aa c.length ac):=⟨c0,c1,c2,c3⟩
    have M:=z5x b (d+m*4) i s q aa ac c wr J (z0Z I).2 (by omega);have N:(m:Int)<(ps.length:Int):=by omega
    generalize txnF i s q c=C at*;clear e3 c0 c1 c2 c3 I X
    go_wp2_with fail
    refine M.mono ?_;rintro e w2 ⟨rfl,O⟩;replace O:=O.symm;subst O;by_cases hC:C=0
    ·subst hC;rw[if_pos rfl]at HS;have hW:Below wr.heap.size wr wr.drew:=(Below.refl _ _).drew;have af:Nonempty (Lat wr):=⟨⟨wr,Below.refl _ _⟩⟩
     have am:m≤cap:=by omega
     have al:(0:Int)≤(m:Int):=by omega
     have aj:(m:Int)≤(cap:Int):=by omega
     clear M
     go_wp2_with fail
     refine z0b (S:=fun w'=>∃u:Lat wr,w'=u.val) (by kernel_rfl) ?_;refine sgr [(0,2),(3,3)] 2 (by kernel_rfl) ⟨⟨_,hW⟩,rfl⟩ ?_;simp only[pkE];repeat go_big_quiet_step (fail)
     refine wpQuiet_nil ?_;refine ona 2 1 rfl (by kernel_rfl) ?_
     go_wp2
     refine ThenGo.to ⟨⟨⟨_,hW⟩,rfl⟩,?_⟩;refine cla 6 (some 27) 113 #[R (some ⟨b,d,none⟩) m cap,.pointer (some ⟨b,d+m*4,none⟩)] 0 (by kernel_rfl) ?_;refine(D _ _ (L.below hW) (J.below hW) ae).mono ?_;rintro e w9 ⟨rfl,V⟩;replace hW:=hW.trans (V.mono hW.size);clear V D J L;refine⟨_,rfl,⟨⟨_,hW⟩,rfl⟩,?_⟩;simp only[Act.put,pjE];refine z0g (by kernel_rfl) ?_;replace hb:=hb.trans (hW.mono hb.size);clear hW af
     cases Y with
     |true=>
      have E1:Hid (E=6):=show _=_ by
       have h3:=z.out;have h4:S=6:=HS.out;rw[h4]at h3;exact h3.symm
      clear z HS
      go_wp2
      go_ret;rw[E1.out];exact⟨rfl,hb⟩
     |false=>
      have ab:Hid (z2z ((ps.map Va).take (m+1)) ((ps.map Va).drop (m+1))=E):=show _=_ by
       have h3:=z.out;have h4:S=0:=HS.out;rw[h4]at h3;exact h3
      clear z HS
      go_wp2
      go_roundw
      case rel=>exact⟨m+1,by omega,by go_num,hb,ab⟩
      case measure=>simp[intOf];omega
    ·rw[if_neg hC]at HS;have E1:Hid (E=C):=show _=_ by
      have h3:=z.out;have h4:S=C:=HS.out;rw[h4,if_neg hC]at h3;exact h3.symm
     clear z HS D L J M
     go_wp2
     go_ret;rw[E1.out];exact⟨rfl,hb⟩
   ·have E1:Hid (E=0):=by
     show _=_;rw[←HG.out];exact z8K _ _ (by simpa using Nat.le_of_not_lt y)
    have N:¬(m:Int)<(ps.length:Int):=by omega
    clear HG
    go_wp2
    go_ret;rw[E1.out];exact⟨rfl,hb⟩
def z14(x y:UndoD):Bool:=(x.key==y.key) && ((x.was==y.was) && (x.val==y.val))
def sameUs:List UndoD→List UndoD→Bool
 |[],[]=>true
 |x::r,y::s=>z14 x y && sameUs r s
 |_,_=>false
theorem z4X{α:Type}{f:α→α→Bool}{g:List α→List α→Bool}(h0:g [] []=true)(h1:∀x r y s,g (x::r) (y::s)=(f x y && g r s))(h2:∀x r,g (x::r) []=false)(h3:∀y s,g [] (y::s)=false):
  ∀a b,a.length≠b.length→g a b=false:=by
 intro a;induction a with
 |nil=>intro b h;cases b with|nil=>simp at h|cons y s=>exact h3 y s
 |cons x r ih=>intro b h;cases b with|nil=>exact h2 x r|cons y s=>rw[h1,ih s (by simpa using h)];simp
theorem z4Y{α:Type}{f:α→α→Bool}{g:List α→List α→Bool}(d:α)(h1:∀x r y s,g (x::r) (y::s)=(f x y && g r s)):
  ∀a b k,a.length=b.length→k<a.length→f (a.getD k d) (b.getD k d)=false→g a b=false:=by
 intro a;induction a with
 |nil=>intro b k _ h;simp at h
 |cons x r ih=>
  intro b k hl hk hf
  cases b with
  |nil=>simp at hl
  |cons y s=>
   rw[h1]
   cases k with
   |zero=>simp[Vf]at hf;simp[hf]
   |succ k=>rw[ih s k (by simpa using hl) (by simpa using hk) (by simpa[Vf]using hf)];simp
theorem z4Z{α:Type}{f:α→α→Bool}{g:List α→List α→Bool}(d:α)(h0:g [] []=true)(h1:∀x r y s,g (x::r) (y::s)=(f x y && g r s)):
  ∀a b,a.length=b.length→(∀k,k<a.length→f (a.getD k d) (b.getD k d)=true)→g a b=true:=by
 intro a;induction a with
 |nil=>intro b hl _;cases b with|nil=>exact h0|cons y s=>simp at hl
 |cons x r ih=>
  intro b hl hf
  cases b with
  |nil=>simp at hl
  |cons y s=>
   rw[h1,ih s (by simpa using hl) (fun k hk=>by simpa[Vf]using hf (k+1) (by simpa using hk))];have:=hf 0 (by simp);simp[Vf]at this;simp[this]
theorem z21(x0:Int)(x1:Bool)(x2 y0:Int)(y1:Bool)(y2:Int)(w:World):(binOp .neq 194 (.agg #[Q G x0,.bool x1,Q G x2]) (.agg #[Q G y0,.bool y1,Q G y2])).run B w=.ok (.bool (!z14 ⟨x0,x1,x2⟩ ⟨y0,y1,y2⟩)) w:=by
 rw[run_neq_struct,run_equalIn_struct (P:=B) w 9999 194 _ _ (by kernel_rfl) (by kernel_rfl)];have c1:B.cellsOf 2=1:=by kernel_rfl
 have c2:B.cellsOf 4=1:=by kernel_rfl
 cases h0:(x0==y0)<;>cases h1:(x1==y1)<;>cases h2:(x2==y2)<;>simp[Program.fieldsOf,Tryz.underlying194,Op.eqFields,go_sem,Tryz.underlying2,Tryz.underlying4,h0,h1,h2,z14,c1,c2]
theorem q1q(a a':Option Addr)(cap d:Nat)(xs ys:List UndoD)(w:World)(h:UndoRow w a xs)(h':UndoRow w a' ys)(hl:xs.length≤1048576)(U:ys.length≤1048576):
  Calls B 249 #[R a xs.length cap,R a' ys.length d] w fun e w'=>e=.returned (.bool (sameUs xs ys))∧Below w.heap.size w w':=by
 by_cases c:xs.length=ys.length
 case neg=>
  have E:sameUs xs ys=false:=z4X (f:=z14) rfl (fun _ _ _ _=>rfl) (fun _ _=>rfl) (fun _ _=>rfl) xs ys c;rw[E];have hd:((xs.length:Int) !=(ys.length:Int))=true:=by simp;omega
  go_enter func249,ntmps249
  go_wp2
  go_ret;exact⟨rfl,Below.refl _ _⟩
 case pos=>
  have hd:((xs.length:Int) !=(ys.length:Int))=false:=by simp[c]
  have HL:Hid (xs.length=ys.length):=c;clear c;go_enter func249,ntmps249
  go_wp2
  go_loopw[13] (fun i wr=>∃k m:Nat,k≤xs.length∧i=Q G k∧wr=w.drewN m∧Hid (∀j,j<k→z14 (xs.getD j z0j) (ys.getD j z0j)=true)) (fun i _=>xs.length-(intOf i).toNat)
  case atStart=>exact⟨0,0,Ve _,rfl,rfl,fun j hj=>absurd hj (Nat.not_lt_zero _)⟩
  case round=>
   obtain⟨k,m,hk,rfl,rfl,HA⟩:=hrel;by_cases J:k<xs.length
   ·have L:k<ys.length:=by have:=HL.out;omega
    obtain⟨b,V,rfl,T,x,y,A⟩:=h.at k J;obtain⟨b',O,rfl,N,C,D,I⟩:=h'.at k L
    cases hs:z14 (xs.getD k z0j) (ys.getD k z0j)
    case false=>
     have E:Hid (sameUs xs ys=false):=z4Y (f:=z14) z0j (fun _ _ _ _=>rfl) xs ys k HL.out J hs;have hr:=z21 (xs.getD k z0j).key (xs.getD k z0j).was (xs.getD k z0j).val (ys.getD k z0j).key (ys.getD k z0j).was (ys.getD k z0j).val;rw[show z14 ⟨(xs.getD k z0j).key,(xs.getD k z0j).was,(xs.getD k z0j).val⟩ ⟨(ys.getD k z0j).key,(ys.getD k z0j).was,(ys.getD k z0j).val⟩=false from hs,Bool.not_false]at hr;clear HA hs;generalize xs.getD k z0j=z at x y A hr;generalize ys.getD k z0j=z' at C D I hr
     go_wp2
     go_quiet (fail)
     go_wp2
     go_ret;rw[E.out];exact⟨rfl,(Below.refl _ _).trans ⟨rfl,rfl,rfl,Vd _,fun _ _=>rfl⟩⟩
    case true=>
     have HB:Hid (∀j,j<k+1→z14 (xs.getD j z0j) (ys.getD j z0j)=true):=by
      intro j hj;by_cases M:j=k
      ·subst M;exact hs
      ·exact HA.out j (by omega)
     have hr:=z21 (xs.getD k z0j).key (xs.getD k z0j).was (xs.getD k z0j).val (ys.getD k z0j).key (ys.getD k z0j).was (ys.getD k z0j).val;rw[show z14 ⟨(xs.getD k z0j).key,(xs.getD k z0j).was,(xs.getD k z0j).val⟩ ⟨(ys.getD k z0j).key,(ys.getD k z0j).was,(ys.getD k z0j).val⟩=true from hs,Bool.not_true]at hr;clear HA hs;generalize xs.getD k z0j=z at x y A hr;generalize ys.getD k z0j=z' at C D I hr
     go_wp2
     go_quiet (fail)
     go_wp2
     go_roundw
     case rel=>exact⟨k+1,_,by omega,by go_num,rfl,HB⟩
     case measure=>simp[intOf];omega
   ·have E:Hid (sameUs xs ys=true):=z4Z (f:=z14) z0j rfl (fun _ _ _ _=>rfl) xs ys HL.out (fun j hj=>HA.out j (by omega));clear HA
    go_wp2
    go_ret;rw[E.out];exact⟨rfl,(Below.refl _ _).trans ⟨rfl,rfl,rfl,Vd _,fun _ _=>rfl⟩⟩
theorem z49(a a':Option Addr)(cap d:Nat)(xs ys:List UndoD)(w:World)(h:UndoRow w a xs)(h':UndoRow w a' ys)(hl:xs.length≤1048576)(U:ys.length≤1048576):
  Calls B 195 #[R a xs.length cap,R a' ys.length d] w fun e w'=>e=.returned (.bool (sameUs xs ys))∧Below w.heap.size w w':=by
 by_cases c:xs.length=ys.length
 case neg=>
  have E:sameUs xs ys=false:=z4X (f:=z14) rfl (fun _ _ _ _=>rfl) (fun _ _=>rfl) (fun _ _=>rfl) xs ys c;rw[E];have hd:((xs.length:Int) !=(ys.length:Int))=true:=by simp;omega
  go_enter func195,ntmps195
  go_wp2
  go_ret;exact⟨rfl,Below.refl _ _⟩
 case pos=>
  have hd:((xs.length:Int) !=(ys.length:Int))=false:=by simp[c]
  have HL:Hid (xs.length=ys.length):=c;clear c;go_enter func195,ntmps195
  go_wp2
  go_loopw[5] (fun i wr=>∃k m:Nat,k≤xs.length∧i=Q G k∧wr=w.drewN m∧Hid (∀j,j<k→z14 (xs.getD j z0j) (ys.getD j z0j)=true)) (fun i _=>xs.length-(intOf i).toNat)
  case atStart=>exact⟨0,0,Ve _,rfl,rfl,fun j hj=>absurd hj (Nat.not_lt_zero _)⟩
  case round=>
   obtain⟨k,m,hk,rfl,rfl,HA⟩:=hrel;by_cases J:k<xs.length
   ·have L:k<ys.length:=by have:=HL.out;omega
    obtain⟨b,V,rfl,T,x,y,A⟩:=h.at k J;obtain⟨b',O,rfl,N,C,D,I⟩:=h'.at k L
    cases hs:z14 (xs.getD k z0j) (ys.getD k z0j)
    case false=>
     have E:Hid (sameUs xs ys=false):=z4Y (f:=z14) z0j (fun _ _ _ _=>rfl) xs ys k HL.out J hs;have hr:=z21 (xs.getD k z0j).key (xs.getD k z0j).was (xs.getD k z0j).val (ys.getD k z0j).key (ys.getD k z0j).was (ys.getD k z0j).val;rw[show z14 ⟨(xs.getD k z0j).key,(xs.getD k z0j).was,(xs.getD k z0j).val⟩ ⟨(ys.getD k z0j).key,(ys.getD k z0j).was,(ys.getD k z0j).val⟩=false from hs,Bool.not_false]at hr;clear HA hs;generalize xs.getD k z0j=z at x y A hr;generalize ys.getD k z0j=z' at C D I hr
     go_wp2
     go_quiet (fail)
     go_wp2
     go_ret;rw[E.out];exact⟨rfl,(Below.refl _ _).trans ⟨rfl,rfl,rfl,Vd _,fun _ _=>rfl⟩⟩
    case true=>
     have HB:Hid (∀j,j<k+1→z14 (xs.getD j z0j) (ys.getD j z0j)=true):=by
      intro j hj;by_cases M:j=k
      ·subst M;exact hs
      ·exact HA.out j (by omega)
     have hr:=z21 (xs.getD k z0j).key (xs.getD k z0j).was (xs.getD k z0j).val (ys.getD k z0j).key (ys.getD k z0j).was (ys.getD k z0j).val;rw[show z14 ⟨(xs.getD k z0j).key,(xs.getD k z0j).was,(xs.getD k z0j).val⟩ ⟨(ys.getD k z0j).key,(ys.getD k z0j).was,(ys.getD k z0j).val⟩=true from hs,Bool.not_true]at hr;clear HA hs;generalize xs.getD k z0j=z at x y A hr;generalize ys.getD k z0j=z' at C D I hr
     go_wp2
     go_quiet (fail)
     go_wp2
     go_roundw
     case rel=>exact⟨k+1,_,by omega,by go_num,rfl,HB⟩
     case measure=>simp[intOf];omega
   ·have E:Hid (sameUs xs ys=true):=z4Z (f:=z14) z0j rfl (fun _ _ _ _=>rfl) xs ys HL.out (fun j hj=>HA.out j (by omega));clear HA
    go_wp2
    go_ret;rw[E.out];exact⟨rfl,(Below.refl _ _).trans ⟨rfl,rfl,rfl,Vd _,fun _ _=>rfl⟩⟩
theorem z5a(a a':Option Addr)(cap cap':Nat)(xs ys:List UndoD)(w:World)(h:UndoRow w a xs)(h':UndoRow w a' ys)(hl:xs.length≤1048576)(hl':ys.length≤1048576):
  Calls B 230 #[R a xs.length cap,R a' ys.length cap'] w fun e w'=>e=.returned (.bool (sameUs xs ys))∧Below w.heap.size w w':=by
 have hq:=fun w h h'=>q1q a a' cap cap' xs ys w h h' hl hl'
 generalize sameUs xs ys=r at hq;go_enter func230,ntmps230
 go_wp2_with fail
 refine(hq _ h h').mono ?_;rintro e w' ⟨rfl,hb⟩
 go_wp2
 go_ret;exact⟨rfl,hb⟩
def z18(x y:ItemD):Bool:=(x.key==y.key) && (x.val==y.val)
def sameIs:List ItemD→List ItemD→Bool
 |[],[]=>true
 |x::r,y::s=>z18 x y && sameIs r s
 |_,_=>false
theorem z40{α:Type}{f:α→α→Bool}{g:List α→List α→Bool}(h0:g [] []=true)(h1:∀x r y s,g (x::r) (y::s)=(f x y && g r s))(h2:∀x r,g (x::r) []=false)(h3:∀y s,g [] (y::s)=false):
  ∀a b,a.length≠b.length→g a b=false:=by
 intro a;induction a with
 |nil=>intro b h;cases b with|nil=>simp at h|cons y s=>exact h3 y s
 |cons x r ih=>intro b h;cases b with|nil=>exact h2 x r|cons y s=>rw[h1,ih s (by simpa using h)];simp
theorem z42{α:Type}{f:α→α→Bool}{g:List α→List α→Bool}(d:α)(h1:∀x r y s,g (x::r) (y::s)=(f x y && g r s)):
  ∀a b k,a.length=b.length→k<a.length→f (a.getD k d) (b.getD k d)=false→g a b=false:=by
 intro a;induction a with
 |nil=>intro b k _ h;simp at h
 |cons x r ih=>
  intro b k hl hk hf
  cases b with
  |nil=>simp at hl
  |cons y s=>
   rw[h1]
   cases k with
   |zero=>simp[Vf]at hf;simp[hf]
   |succ k=>rw[ih s k (by simpa using hl) (by simpa using hk) (by simpa[Vf]using hf)];simp
theorem z43{α:Type}{f:α→α→Bool}{g:List α→List α→Bool}(d:α)(h0:g [] []=true)(h1:∀x r y s,g (x::r) (y::s)=(f x y && g r s)):
  ∀a b,a.length=b.length→(∀k,k<a.length→f (a.getD k d) (b.getD k d)=true)→g a b=true:=by
 intro a;induction a with
 |nil=>intro b hl _;cases b with|nil=>exact h0|cons y s=>simp at hl
 |cons x r ih=>
  intro b hl hf
  cases b with
  |nil=>simp at hl
  |cons y s=>
   rw[h1,ih s (by simpa using hl) (fun k hk=>by simpa[Vf]using hf (k+1) (by simpa using hk))];have:=hf 0 (by simp);simp[Vf]at this;simp[this]
theorem z8L{xs ys:List ItemD}(h:sameIs xs ys=true):xs=ys:=by
 induction xs generalizing ys with
 |nil=>cases ys with|nil=>rfl|cons y s=>simp[sameIs]at h
 |cons x r ih=>
  cases ys with
  |nil=>simp[sameIs]at h
  |cons y s=>
   obtain⟨x0,x1⟩:=x;obtain⟨y0,y1⟩:=y;simp[sameIs,z18]at h;rw[ih h.2,h.1.1,h.1.2]
theorem z29(x0 x1 y0 y1:Int)(w:World):(binOp .neq 155 (.agg #[Q G x0,Q G x1]) (.agg #[Q G y0,Q G y1])).run B w=.ok (.bool (!z18 ⟨x0,x1⟩ ⟨y0,y1⟩)) w:=by
 rw[run_neq_struct,run_equalIn_struct (P:=B) w 9999 155 _ _ (by kernel_rfl) (by kernel_rfl)];have c1:B.cellsOf 2=1:=by kernel_rfl
 cases h0:(x0==y0)<;>cases h1:(x1==y1)<;>simp[Program.fieldsOf,Tryz.underlying155,Op.eqFields,go_sem,Tryz.underlying2,h0,h1,z18,c1]
theorem q1r(a a':Option Addr)(cap d:Nat)(xs ys:List ItemD)(w:World)(h:ItemRow w a xs)(h':ItemRow w a' ys)(hl:xs.length≤1048576)(O:ys.length≤1048576):
  Calls B 248 #[R a xs.length cap,R a' ys.length d] w fun e w'=>e=.returned (.bool (sameIs xs ys))∧Below w.heap.size w w':=by
 by_cases c:xs.length=ys.length
 case neg=>
  have E:sameIs xs ys=false:=z40 (f:=z18) rfl (fun _ _ _ _=>rfl) (fun _ _=>rfl) (fun _ _=>rfl) xs ys c;rw[E];have hd:((xs.length:Int) !=(ys.length:Int))=true:=by simp;omega
  go_enter func248,ntmps248
  go_wp2
  go_ret;exact⟨rfl,Below.refl _ _⟩
 case pos=>
  have hd:((xs.length:Int) !=(ys.length:Int))=false:=by simp[c]
  have HL:Hid (xs.length=ys.length):=c;clear c;go_enter func248,ntmps248
  go_wp2
  go_loopw[13] (fun i wr=>∃k m:Nat,k≤xs.length∧i=Q G k∧wr=w.drewN m∧Hid (∀j,j<k→z18 (xs.getD j z0c) (ys.getD j z0c)=true)) (fun i _=>xs.length-(intOf i).toNat)
  case atStart=>exact⟨0,0,Ve _,rfl,rfl,fun j hj=>absurd hj (Nat.not_lt_zero _)⟩
  case round=>
   obtain⟨k,m,hk,rfl,rfl,HA⟩:=hrel;by_cases D:k<xs.length
   ·have I:k<ys.length:=by have:=HL.out;omega
    obtain⟨b,T,rfl,N,x,y⟩:=h.at k D;obtain⟨b',M,rfl,L,A,C⟩:=h'.at k I
    cases hs:z18 (xs.getD k z0c) (ys.getD k z0c)
    case false=>
     have E:Hid (sameIs xs ys=false):=z42 (f:=z18) z0c (fun _ _ _ _=>rfl) xs ys k HL.out D hs;have hr:=z29 (xs.getD k z0c).key (xs.getD k z0c).val (ys.getD k z0c).key (ys.getD k z0c).val;rw[show z18 ⟨(xs.getD k z0c).key,(xs.getD k z0c).val⟩ ⟨(ys.getD k z0c).key,(ys.getD k z0c).val⟩=false from hs,Bool.not_false]at hr;clear HA hs;generalize xs.getD k z0c=z at x y hr;generalize ys.getD k z0c=z' at A C hr
     go_wp2
     go_quiet (fail)
     go_wp2
     go_ret;rw[E.out];exact⟨rfl,(Below.refl _ _).trans ⟨rfl,rfl,rfl,Vd _,fun _ _=>rfl⟩⟩
    case true=>
     have HB:Hid (∀j,j<k+1→z18 (xs.getD j z0c) (ys.getD j z0c)=true):=by
      intro j hj;by_cases J:j=k
      ·subst J;exact hs
      ·exact HA.out j (by omega)
     have hr:=z29 (xs.getD k z0c).key (xs.getD k z0c).val (ys.getD k z0c).key (ys.getD k z0c).val;rw[show z18 ⟨(xs.getD k z0c).key,(xs.getD k z0c).val⟩ ⟨(ys.getD k z0c).key,(ys.getD k z0c).val⟩=true from hs,Bool.not_true]at hr;clear HA hs;generalize xs.getD k z0c=z at x y hr;generalize ys.getD k z0c=z' at A C hr
     go_wp2
     go_quiet (fail)
     go_wp2
     go_roundw
     case rel=>exact⟨k+1,_,by omega,by go_num,rfl,HB⟩
     case measure=>simp[intOf];omega
   ·have E:Hid (sameIs xs ys=true):=z43 (f:=z18) z0c rfl (fun _ _ _ _=>rfl) xs ys HL.out (fun j hj=>HA.out j (by omega));clear HA
    go_wp2
    go_ret;rw[E.out];exact⟨rfl,(Below.refl _ _).trans ⟨rfl,rfl,rfl,Vd _,fun _ _=>rfl⟩⟩
theorem z19(a a':Option Addr)(cap d:Nat)(xs ys:List ItemD)(w:World)(h:ItemRow w a xs)(h':ItemRow w a' ys)(hl:xs.length≤1048576)(O:ys.length≤1048576):
  Calls B 156 #[R a xs.length cap,R a' ys.length d] w fun e w'=>e=.returned (.bool (sameIs xs ys))∧Below w.heap.size w w':=by
 by_cases c:xs.length=ys.length
 case neg=>
  have E:sameIs xs ys=false:=z40 (f:=z18) rfl (fun _ _ _ _=>rfl) (fun _ _=>rfl) (fun _ _=>rfl) xs ys c;rw[E];have hd:((xs.length:Int) !=(ys.length:Int))=true:=by simp;omega
  go_enter func156,ntmps156
  go_wp2
  go_ret;exact⟨rfl,Below.refl _ _⟩
 case pos=>
  have hd:((xs.length:Int) !=(ys.length:Int))=false:=by simp[c]
  have HL:Hid (xs.length=ys.length):=c;clear c;go_enter func156,ntmps156
  go_wp2
  go_loopw[5] (fun i wr=>∃k m:Nat,k≤xs.length∧i=Q G k∧wr=w.drewN m∧Hid (∀j,j<k→z18 (xs.getD j z0c) (ys.getD j z0c)=true)) (fun i _=>xs.length-(intOf i).toNat)
  case atStart=>exact⟨0,0,Ve _,rfl,rfl,fun j hj=>absurd hj (Nat.not_lt_zero _)⟩
  case round=>
   obtain⟨k,m,hk,rfl,rfl,HA⟩:=hrel;by_cases D:k<xs.length
   ·have I:k<ys.length:=by have:=HL.out;omega
    obtain⟨b,T,rfl,N,x,y⟩:=h.at k D;obtain⟨b',M,rfl,L,A,C⟩:=h'.at k I
    cases hs:z18 (xs.getD k z0c) (ys.getD k z0c)
    case false=>
     have E:Hid (sameIs xs ys=false):=z42 (f:=z18) z0c (fun _ _ _ _=>rfl) xs ys k HL.out D hs;have hr:=z29 (xs.getD k z0c).key (xs.getD k z0c).val (ys.getD k z0c).key (ys.getD k z0c).val;rw[show z18 ⟨(xs.getD k z0c).key,(xs.getD k z0c).val⟩ ⟨(ys.getD k z0c).key,(ys.getD k z0c).val⟩=false from hs,Bool.not_false]at hr;clear HA hs;generalize xs.getD k z0c=z at x y hr;generalize ys.getD k z0c=z' at A C hr
     go_wp2
     go_quiet (fail)
     go_wp2
     go_ret;rw[E.out];exact⟨rfl,(Below.refl _ _).trans ⟨rfl,rfl,rfl,Vd _,fun _ _=>rfl⟩⟩
    case true=>
     have HB:Hid (∀j,j<k+1→z18 (xs.getD j z0c) (ys.getD j z0c)=true):=by
      intro j hj;by_cases J:j=k
      ·subst J;exact hs
      ·exact HA.out j (by omega)
     have hr:=z29 (xs.getD k z0c).key (xs.getD k z0c).val (ys.getD k z0c).key (ys.getD k z0c).val;rw[show z18 ⟨(xs.getD k z0c).key,(xs.getD k z0c).val⟩ ⟨(ys.getD k z0c).key,(ys.getD k z0c).val⟩=true from hs,Bool.not_true]at hr;clear HA hs;generalize xs.getD k z0c=z at x y hr;generalize ys.getD k z0c=z' at A C hr
     go_wp2
     go_quiet (fail)
     go_wp2
     go_roundw
     case rel=>exact⟨k+1,_,by omega,by go_num,rfl,HB⟩
     case measure=>simp[intOf];omega
   ·have E:Hid (sameIs xs ys=true):=z43 (f:=z18) z0c rfl (fun _ _ _ _=>rfl) xs ys HL.out (fun j hj=>HA.out j (by omega));clear HA
    go_wp2
    go_ret;rw[E.out];exact⟨rfl,(Below.refl _ _).trans ⟨rfl,rfl,rfl,Vd _,fun _ _=>rfl⟩⟩
theorem z2a(a a':Option Addr)(cap cap':Nat)(xs ys:List ItemD)(w:World)(h:ItemRow w a xs)(h':ItemRow w a' ys)(hl:xs.length≤1048576)(hl':ys.length≤1048576):
  Calls B 228 #[R a xs.length cap,R a' ys.length cap'] w fun e w'=>e=.returned (.bool (sameIs xs ys))∧Below w.heap.size w w':=by
 have hq:=fun w h h'=>q1r a a' cap cap' xs ys w h h' hl hl'
 generalize sameIs xs ys=r at hq;go_enter func228,ntmps228
 go_wp2_with fail
 refine(hq _ h h').mono ?_;rintro e w' ⟨rfl,hb⟩
 go_wp2
 go_ret;exact⟨rfl,hb⟩
section
open Go.Deep Go.ChangeShapes Go.WideShapes
theorem q1s{α:Type}{c:Nat}(css:List (List α))(hc:∀l∈css,l.length=c):∀ (j:Nat) (x:α),css.flatten[j]?=some x→∃i r,j=i*c+r∧r<c∧i<css.length∧(css.getD i [])[r]?=some x:=by
 induction css with
 |nil=>intro j x h;simp at h
 |cons l css ih=>
  intro j x h;have hl:l.length=c:=hc l (by simp);rw[List.flatten_cons]at h;by_cases hj:j<c
  ·rw[List.getElem?_append_left (by omega)]at h;exact⟨0,j,by omega,hj,by simp,by simpa[Vf]using h⟩
  ·rw[List.getElem?_append_right (by omega),hl]at h;obtain⟨i,r,e1,e2,e3,e4⟩:=ih (fun l hl=>hc l (by simp[hl])) _ _ h;refine⟨i+1,r,?_,e2,by simpa using e3,by simpa[Vf]using e4⟩;rw[Nat.add_mul];omega
section
variable {H:Type} {enc:TypeId × Value→H} {P:Program} {w:World} {base:Nat} {spare:Nat→Bool} {held:Bool}
theorem q0B{t e:TypeId}{c I:Nat}{cs:List Value}{x:DataW H × List MemPlace}(ht:P.underlying t=some (.slice e))(hc:P.cellsOf e=c)(L:0<c)(h:DataW.trod enc P w base spare held I t cs=some x):
  ∃ (a:Option Addr) (cap n:Nat) (A:List (List Value)),cs=[R a A.length cap]∧A.length≤9223372036854775807∧Lies w a A.flatten∧∀l∈A,l.length=c∧∃y,DataW.trod enc P w base spare held n e l=some y:=by
 rcases open_slice ht h with⟨rfl,_⟩|⟨a,d,cap,m,n,D,Pl,rfl,hb,hl,hm,U,rfl,hx⟩
 ·exact⟨none,0,0,[],rfl,by simp,Or.inl rfl,by simp⟩
 have T:d≤m:=by rw[U];split<;>omega
 rw[hc]at hx;obtain⟨f,hf⟩:=choose_lt (α:=List Value) (p:=fun i l=>w.cells? base (a.add (i*c)) c=some l∧DataW.trod enc P w base spare held n e l=some (D i,Pl i)) (fun i hi=>hx i (Nat.lt_of_lt_of_le hi T));have z:∀i,i<d→(f i).length=c:=fun i hi=>(World.cells?_some (hf i hi).1).2.1
 have J:∀l∈(List.range d).map f,l.length=c:=by
  intro l hl;obtain⟨i,hi,rfl⟩:=List.mem_map.1 hl;exact z i (List.mem_range.1 hi)
 refine⟨some a,cap,n,(List.range d).map f,by simp,?_,?_,?_⟩
 ·unfold maxLen at hm;simp;omega
 ·by_cases h0:d=0
  ·subst h0;exact Or.inl rfl
  ·right;have C:=(World.cells?_some (hf 0 (by omega)).1).2.2 0 L;obtain⟨v,hv⟩:∃v,(f 0)[0]?=some v:=⟨_,List.getElem?_eq_getElem (by rw[z 0 (by omega)];exact L)⟩
   rw[hv,add_add]at C;obtain⟨b,W,O⟩:=a;have E:O=none:=by simpa[Addr.add]using World.cell?_spot C
   subst E;refine⟨b,W,rfl,by simpa[Addr.add_lit]using World.block_lt_of_cell? w _ C,?_⟩;intro j x hj;obtain⟨i,r,rfl,hr,hi,V⟩:=q1s _ J j x hj;have M:i<d:=by simpa using hi
   have N:(f i)[r]?=some x:=by simpa[Vf,M]using V
   have:=(World.cells?_some (hf i M).1).2.2 r hr;rw[add_add,Addr.add_lit,N]at this;exact this
 ·intro l hl;obtain⟨i,hi,rfl⟩:=List.mem_map.1 hl;exact⟨z i (List.mem_range.1 hi),_,(hf i (List.mem_range.1 hi)).2⟩
end
theorem q4f{α β:Type}{p:β→α→Prop}{q:α→Prop}(f:β→α)(l:List α)(h:∀x∈l,∃b,x=f b):∃bs:List β,l=bs.map f:=by
 induction l with
 |nil=>exact⟨[],rfl⟩
 |cons x l ih=>
  obtain⟨bs,rfl⟩:=ih (fun x hx=>h x (by simp[hx]));obtain⟨b,rfl⟩:=h x (by simp);exact⟨b::bs,rfl⟩
section
variable {H:Type} {enc:TypeId × Value→H} {w:World} {base:Nat} {spare:Nat→Bool} {held:Bool}
theorem q4g{fuel:Nat}{cs:List Value}{x:DataW H × List MemPlace}(h:DataW.trod enc B w base spare held fuel 269 cs=some x):∃z:ActD,cs=z.cells:=by
 obtain⟨y0,y1,y2,n,_,hl,h0,h1,h2⟩:=trod_struct3 Tryz.underlying269 h;rw[show B.cellsOf 269=3 by kernel_rfl]at hl;have e:B.cellsOf 2=1:=by kernel_rfl
 match cs,hl with
 |[c0,c1,c2],_=>
  simp only[e,List.drop_zero,List.drop_succ_cons,List.take_succ_cons,List.take_zero]at h0 h1 h2;obtain⟨k,e0,_⟩:=DataW.trod_int Tryz.underlying2 h0;obtain⟨y,e1,_⟩:=DataW.trod_int Tryz.underlying2 h1;obtain⟨v,e2,_⟩:=DataW.trod_int Tryz.underlying2 h2;simp only[List.cons.injEq,and_true]at e0 e1 e2;exact⟨⟨k,y,v⟩,by rw[e0,e1,e2];rfl⟩
theorem q2P{fuel:Nat}{cs:List Value}{x:DataW H × List MemPlace}(h:DataW.trod enc B w base spare held fuel 159 cs=some x):
  ∃ (a:Option Addr) (cap:Nat) (zs:List ActD),cs=[R a zs.length cap]∧zs.length≤9223372036854775807∧ActRow w a zs:=by
 obtain⟨a,cap,n,css,rfl,hl,hL,hc⟩:=q0B Tryz.underlying159 (show B.cellsOf 269=3 by kernel_rfl) (by omega) h;obtain⟨zs,rfl⟩:=q4f (p:=fun _ _=>True) (q:=fun _=>True) ActD.cells css (fun l hl=>by obtain⟨_,y,hy⟩:=hc l hl;exact q4g hy);refine⟨a,cap,zs,by simp,by simpa using hl,?_⟩;rw[←List.flatMap_def]at hL;exact hL
theorem z7H{fuel:Nat}{cs:List Value}{x:DataW H × List MemPlace}(h:DataW.trod enc B w base spare held fuel 161 cs=some x):
  ∃ (i s q:Int) (a:Option Addr) (cap:Nat) (zs:List ActD),cs=[Q G i,Q G s,Q G q,R a zs.length cap]∧zs.length≤9223372036854775807∧ActRow w a zs:=by
 obtain⟨y0,y1,y2,y3,n,_,hl,h0,h1,h2,h3⟩:=Go.Joins.trod_struct4 Tryz.underlying161 h;rw[show B.cellsOf 161=4 by kernel_rfl]at hl;have e:B.cellsOf 2=1:=by kernel_rfl
 have e':B.cellsOf 159=1:=by kernel_rfl
 match cs,hl with
 |[c0,c1,c2,c3],_=>
  simp only[e,e',List.drop_zero,List.drop_succ_cons,List.take_succ_cons,List.take_zero]at h0 h1 h2 h3;obtain⟨k,e0,_⟩:=DataW.trod_int Tryz.underlying2 h0;obtain⟨y,e1,_⟩:=DataW.trod_int Tryz.underlying2 h1;obtain⟨v,e2,_⟩:=DataW.trod_int Tryz.underlying2 h2;obtain⟨a,cap,zs,e3,hz,hA⟩:=q2P h3;simp only[List.cons.injEq,and_true]at e0 e1 e2 e3;exact⟨k,y,v,a,cap,zs,by rw[e0,e1,e2,e3],hz,hA⟩
end
section
variable {H:Type} {enc:TypeId × Value→H} {w:World} {base:Nat} {spare:Nat→Bool} {held:Bool}
theorem q2Q{α β:Type}(f:β→α)(q:β→Prop)(l:List α)(h:∀x∈l,∃b,x=f b∧q b):∃bs:List β,l=bs.map f∧∀b∈bs,q b:=by
 induction l with
 |nil=>exact⟨[],rfl,by simp⟩
 |cons x l ih=>
  obtain⟨bs,rfl,hq⟩:=ih (fun x hx=>h x (by simp[hx]));obtain⟨b,rfl,hb⟩:=h x (by simp);exact⟨b::bs,rfl,by intro c hc;rcases List.mem_cons.1 hc with rfl|hc;exact hb;exact hq c hc⟩
end
section
variable {H:Type} {enc:TypeId × Value→H} {w:World} {base:Nat} {spare:Nat→Bool} {held:Bool}
theorem z1H{P:Type}(K:Kind P)(q:P→Prop){t e:TypeId}{fuel:Nat}{cs:List Value}{x:DataW H × List MemPlace}(ht:B.underlying t=some (.slice e))(hc:B.cellsOf e=K.size)(hc0:0<K.size)
  (hel:∀ (n:Nat) (l:List Value) y,DataW.trod enc B w base spare held n e l=some y→∃p:P,l=K.cells p∧K.rd w p∧q p) (h:DataW.trod enc B w base spare held fuel t cs=some x):
  ∃ (v:Value) (ps:List P),cs=[v]∧K.At w v ps∧ps.length≤9223372036854775807∧∀p∈ps,q p:=by
 obtain⟨a,cap,n,css,rfl,hl,hL,hcs⟩:=q0B ht hc hc0 h;obtain ⟨ps,rfl,hq⟩:=q2Q K.cells (fun p=>K.rd w p∧q p) css (fun l hl=>by
  obtain⟨_,y,hy⟩:=hcs l hl;obtain⟨p,h1,h2,h3⟩:=hel n l y hy;exact ⟨p,h1,h2,h3⟩)
 rw[←List.flatMap_def]at hL;refine⟨.slice a (ps.map K.cells).length cap,ps,rfl,⟨a,cap,by rw[Vg],hL,fun p hp=>(hq p hp).1⟩,by simpa using hl,fun p hp=>(hq p hp).2⟩
theorem q4h(n:Nat)(l:List Value)(y:DataW H × List MemPlace)(h:DataW.trod enc B w base spare held n 2 l=some y):∃p:Int,l=intK.cells p∧intK.rd w p∧True:=by
 obtain⟨k,e,_⟩:=DataW.trod_int Tryz.underlying2 h;exact⟨k,e,trivial,trivial⟩
theorem z4C{fuel:Nat}{cs:List Value}{x:DataW H × List MemPlace}(h:DataW.trod enc B w base spare held fuel 62 cs=some x):
  ∃ (v:Value) (zs:List Int),cs=[v]∧intK.At w v zs∧zs.length≤9223372036854775807:=by
 obtain⟨v,ps,h1,h2,h3,_⟩:=z1H intK (fun _=>True) Tryz.underlying62 (by kernel_rfl) (by decide) q4h h;exact⟨v,ps,h1,h2,h3⟩
theorem q2R(n:Nat)(l:List Value)(y:DataW H × List MemPlace)(h:DataW.trod enc B w base spare held n 161 l=some y):∃p:TxnQ,l=txnK.cells p∧txnK.rd w p∧TxnQ.wf p:=by
 obtain⟨i,s,q,a,cap,zs,e,hz,hA⟩:=z7H h;exact⟨⟨i,s,q,R a zs.length cap,zs⟩,e,q44 hA,hz⟩
theorem z4D{fuel:Nat}{cs:List Value}{x:DataW H × List MemPlace}(h:DataW.trod enc B w base spare held fuel 75 cs=some x):
  ∃ (v:Value) (ps:List TxnQ),cs=[v]∧txnK.At w v ps∧ps.length≤9223372036854775807∧∀p∈ps,TxnQ.wf p:=
 z1H txnK TxnQ.wf Tryz.underlying75 (by kernel_rfl) (by decide) q2R h
theorem z9V(n:Nat)(l:List Value)(y:DataW H × List MemPlace)(h:DataW.trod enc B w base spare held n 163 l=some y):∃p:RoundQ,l=roundK.cells p∧roundK.rd w p∧RoundQ.wf p:=by
 obtain⟨y0,y1,n,_,hl,h0,h1⟩:=trod_struct2 Tryz.underlying163 h;rw[show B.cellsOf 163=2 by kernel_rfl]at hl;have e:B.cellsOf 62=1:=by kernel_rfl
 match l,hl with
 |[c0,c1],_=>
  simp only[e,List.drop_zero,List.drop_succ_cons,List.take_succ_cons,List.take_zero]at h0 h1;obtain⟨v0,z0,e0,a0,l0⟩:=z4C h0;obtain⟨v1,z1,e1,a1,l1⟩:=z4C h1;simp only[List.cons.injEq,and_true]at e0 e1;exact⟨⟨v0,z0,v1,z1⟩,by rw[e0,e1];rfl,⟨a0,a1⟩,⟨l0,l1⟩⟩
theorem z8M{fuel:Nat}{cs:List Value}{x:DataW H × List MemPlace}(h:DataW.trod enc B w base spare held fuel 76 cs=some x):
  ∃ (v:Value) (ps:List RoundQ),cs=[v]∧roundK.At w v ps∧ps.length≤9223372036854775807∧∀p∈ps,RoundQ.wf p:=
 z1H roundK RoundQ.wf Tryz.underlying76 (by kernel_rfl) (by decide) z9V h
theorem z6y{fuel:Nat}{cs:List Value}{x:DataW H × List MemPlace}(h:DataW.trod enc B w base spare held fuel 78 cs=some x):
  ∃p:InstQ,cs=[.bool p.has,p.vb,p.vr,p.vd]∧instK.rd w p∧p.wf:=by
 obtain⟨y0,y1,y2,y3,n,_,hl,h0,h1,h2,h3⟩:=Go.Joins.trod_struct4 Tryz.underlying78 h;rw[show B.cellsOf 78=4 by kernel_rfl]at hl;have e:B.cellsOf 4=1:=by kernel_rfl
 have e':B.cellsOf 75=1:=by kernel_rfl
 have e2:B.cellsOf 76=1:=by kernel_rfl
 have e3:B.cellsOf 62=1:=by kernel_rfl
 match cs,hl with
 |[c0,c1,c2,c3],_=>
  simp only[e,e',e2,e3,List.drop_zero,List.drop_succ_cons,List.take_succ_cons,List.take_zero]at h0 h1 h2 h3;obtain⟨k,e0,_⟩:=DataW.trod_bool Tryz.underlying4 h0;obtain⟨v1,z1,e1,a1,l1,w1⟩:=z4D h1;obtain⟨v2,z2,e2,a2,l2,w2⟩:=z8M h2;obtain⟨v3,z3,e3,a3,l3⟩:=z4C h3;simp only[List.cons.injEq,and_true]at e0 e1 e2 e3;exact⟨⟨k,v1,z1,v2,z2,v3,z3⟩,by rw[e0,e1,e2,e3],⟨a1,a2,a3⟩,⟨⟨l1,w1⟩,⟨l2,w2⟩,l3⟩⟩
end
end
section
open Go.ChangeShapes Go.WideShapes
theorem gRul : B.globalNamed "loop.example/g00631/impl.rules" = some 1 := by kernel_rfl
theorem tRul:(B.globals[1]?).map (·.type)=some 355:=by kernel_rfl
theorem q6l:B.cellsOf 324=7:=by kernel_rfl
theorem cCh:B.cellsOf 60=4:=by kernel_rfl
theorem cI:B.cellsOf 2=1:=by kernel_rfl
theorem cB:B.cellsOf 4=1:=by kernel_rfl
section
variable {H:Type} {enc:TypeId × Value→H} {w:World} {base:Nat} {spare:Nat→Bool} {held:Bool}
theorem z8N{fuel:Nat}{cs:List Value}{c v:Int}{d k:Bool}{q:List MemPlace}(h:DataW.trod enc B w base spare held fuel 60 cs=some (.agg [.lit (.int .i64 c),.lit (.bool d),.lit (.bool k),.lit (.int .i64 v)],q)):cs=[.int .i64 c,.bool d,.bool k,.int .i64 v]:=by
 obtain⟨y0,y1,y2,y3,n,hx,hl,h0,h1,h2,h3⟩:=Go.Joins.trod_struct4 Tryz.underlying60 h;rw[cCh]at hl;simp only[Prod.mk.injEq,DataW.agg.injEq,List.cons.injEq,and_true]at hx;obtain⟨⟨x0,x1,x2,x3⟩,_⟩:=hx
 match cs,hl with
 |[c0,c1,c2,c3],_=>
  simp only[cI,cB,List.drop_zero,List.drop_succ_cons,List.take_succ_cons,List.take_zero]at h0 h1 h2 h3;obtain⟨n0,e0,g0,_⟩:=DataW.trod_int Tryz.underlying2 h0;obtain⟨n1,e1,g1⟩:=DataW.trod_bool Tryz.underlying4 h1;obtain⟨n2,e2,g2⟩:=DataW.trod_bool Tryz.underlying4 h2;obtain⟨n3,e3,g3,_⟩:=DataW.trod_int Tryz.underlying2 h3;simp only[List.cons.injEq,and_true]at e0 e1 e2 e3;rw[g0]at x0;rw[g1]at x1;rw[g2]at x2;rw[g3]at x3;simp at x0 x1 x2 x3;rw[e0,e1,e2,e3,x0,x1,x2,x3]
theorem z2b{fuel:Nat}{cs:List Value}{z o p c v:Int}{d k:Bool}{q:List MemPlace}(h:DataW.trod enc B w base spare held fuel 324 cs=some (.agg [.lit (.int .i64 z),.lit (.int .i64 o),.lit (.int .i64 p),.agg [.lit (.int .i64 c),.lit (.bool d),.lit (.bool k),.lit (.int .i64 v)]],q)):
  cs=[Q G z,Q G o,Q G p,Q G c,.bool d,.bool k,Q G v]:=by
 obtain⟨y0,y1,y2,y3,n,hx,hl,h0,h1,h2,h3⟩:=Go.Joins.trod_struct4 Tryz.underlying324 h;rw[q6l]at hl;simp only[Prod.mk.injEq,DataW.agg.injEq,List.cons.injEq,and_true]at hx;obtain⟨⟨x0,x1,x2,x3⟩,_⟩:=hx
 match cs,hl with
 |[c0,c1,c2,c3,c4,c5,c6],_=>
  simp only[cI,cCh,List.drop_zero,List.drop_succ_cons,List.take_succ_cons,List.take_zero]at h0 h1 h2 h3;obtain⟨n0,e0,g0,_⟩:=DataW.trod_int Tryz.underlying2 h0;obtain⟨n1,e1,g1,_⟩:=DataW.trod_int Tryz.underlying2 h1;obtain⟨n2,e2,g2,_⟩:=DataW.trod_int Tryz.underlying2 h2;obtain⟨y30,y31⟩:=y3;dsimp only at x3;rw[←x3]at h3;have e3:=z8N h3;simp only[List.cons.injEq,and_true]at e0 e1 e2 e3;rw[g0]at x0;rw[g1]at x1;rw[g2]at x2;simp at x0 x1 x2;obtain⟨e3,e4,e5,e6⟩:=e3;rw[e0,e1,e2,e3,e4,e5,e6,x0,x1,x2]
end
end
def z1T(x y:ActD):Bool:=(x.kind==y.kind) && ((x.key==y.key) && (x.val==y.val))
def sameAs:List ActD→List ActD→Bool
 |[],[]=>true
 |x::r,y::s=>z1T x y && sameAs r s
 |_,_=>false
def z1v(x y:TxnD):Bool:=(x.id==y.id) && (x.session==y.session) && (x.seq==y.seq) && sameAs x.acts y.acts
def sameTs:List TxnD→List TxnD→Bool
 |[],[]=>true
 |x::r,y::s=>z1v x y && sameTs r s
 |_,_=>false
theorem z3a{α:Type}{f:α→α→Bool}{g:List α→List α→Bool}(h0:g [] []=true)(h1:∀x r y s,g (x::r) (y::s)=(f x y && g r s))(h2:∀x r,g (x::r) []=false)(h3:∀y s,g [] (y::s)=false):
  ∀a b,a.length≠b.length→g a b=false:=by
 intro a;induction a with
 |nil=>intro b h;cases b with|nil=>simp at h|cons y s=>exact h3 y s
 |cons x r ih=>intro b h;cases b with|nil=>exact h2 x r|cons y s=>rw[h1,ih s (by simpa using h)];simp
theorem z3b{α:Type}{f:α→α→Bool}{g:List α→List α→Bool}(d:α)(h1:∀x r y s,g (x::r) (y::s)=(f x y && g r s)):
  ∀a b k,a.length=b.length→k<a.length→f (a.getD k d) (b.getD k d)=false→g a b=false:=by
 intro a;induction a with
 |nil=>intro b k _ h;simp at h
 |cons x r ih=>
  intro b k hl hk hf
  cases b with
  |nil=>simp at hl
  |cons y s=>
   rw[h1]
   cases k with
   |zero=>simp[Vf]at hf;simp[hf]
   |succ k=>rw[ih s k (by simpa using hl) (by simpa using hk) (by simpa[Vf]using hf)];simp
theorem z3c{α:Type}{f:α→α→Bool}{g:List α→List α→Bool}(d:α)(h0:g [] []=true)(h1:∀x r y s,g (x::r) (y::s)=(f x y && g r s)):
  ∀a b,a.length=b.length→(∀k,k<a.length→f (a.getD k d) (b.getD k d)=true)→g a b=true:=by
 intro a;induction a with
 |nil=>intro b hl _;cases b with|nil=>exact h0|cons y s=>simp at hl
 |cons x r ih=>
  intro b hl hf
  cases b with
  |nil=>simp at hl
  |cons y s=>
   rw[h1,ih s (by simpa using hl) (fun k hk=>by simpa[Vf]using hf (k+1) (by simpa using hk))];have:=hf 0 (by simp);simp[Vf]at this;simp[this]
theorem z5U(x0 x1 x2 y0 y1 y2:Int)(w:World):(binOp .neq 209 (.agg #[Q G x0,Q G x1,Q G x2]) (.agg #[Q G y0,Q G y1,Q G y2])).run B w=.ok (.bool (!z1T ⟨x0,x1,x2⟩ ⟨y0,y1,y2⟩)) w:=by
 rw[run_neq_struct,run_equalIn_struct (P:=B) w 9999 209 _ _ (by kernel_rfl) (by kernel_rfl)];have c1:B.cellsOf 2=1:=by kernel_rfl
 cases h0:(x0==y0)<;>cases h1:(x1==y1)<;>cases h2:(x2==y2)<;>simp[Program.fieldsOf,Tryz.underlying209,Op.eqFields,go_sem,Tryz.underlying2,h0,h1,h2,z1T,c1]
theorem q1t(a a':Option Addr)(cap d:Nat)(xs ys:List ActD)(w:World)(h:ActRow w a xs)(h':ActRow w a' ys)(hl:xs.length≤1048576)(U:ys.length≤1048576):
  Calls B 204 #[R a xs.length cap,R a' ys.length d] w fun e w'=>e=.returned (.bool (sameAs xs ys))∧Below w.heap.size w w':=by
 by_cases c:xs.length=ys.length
 case neg=>
  have E:sameAs xs ys=false:=z3a (f:=z1T) rfl (fun _ _ _ _=>rfl) (fun _ _=>rfl) (fun _ _=>rfl) xs ys c;rw[E];have hd:((xs.length:Int) !=(ys.length:Int))=true:=by simp;omega
  go_enter func204,ntmps204
  go_wp2
  go_ret;exact⟨rfl,Below.refl _ _⟩
 case pos=>
  have hd:((xs.length:Int) !=(ys.length:Int))=false:=by simp[c]
  have HL:Hid (xs.length=ys.length):=c;clear c;go_enter func204,ntmps204
  go_wp2
  go_loopw[13] (fun i wr=>∃k m:Nat,k≤xs.length∧i=Q G k∧wr=w.drewN m∧Hid (∀j,j<k→z1T (xs.getD j z0e) (ys.getD j z0e)=true)) (fun i _=>xs.length-(intOf i).toNat)
  case atStart=>exact⟨0,0,Ve _,rfl,rfl,fun j hj=>absurd hj (Nat.not_lt_zero _)⟩
  case round=>
   obtain⟨k,m,hk,rfl,rfl,HA⟩:=hrel;by_cases J:k<xs.length
   ·have L:k<ys.length:=by have:=HL.out;omega
    obtain⟨b,V,rfl,T,x,y,A⟩:=h.at k J;obtain⟨b',O,rfl,N,C,D,I⟩:=h'.at k L
    cases hs:z1T (xs.getD k z0e) (ys.getD k z0e)
    case false=>
     have E:Hid (sameAs xs ys=false):=z3b (f:=z1T) z0e (fun _ _ _ _=>rfl) xs ys k HL.out J hs;have hr:=z5U (xs.getD k z0e).kind (xs.getD k z0e).key (xs.getD k z0e).val (ys.getD k z0e).kind (ys.getD k z0e).key (ys.getD k z0e).val;rw[show z1T ⟨(xs.getD k z0e).kind,(xs.getD k z0e).key,(xs.getD k z0e).val⟩ ⟨(ys.getD k z0e).kind,(ys.getD k z0e).key,(ys.getD k z0e).val⟩=false from hs,Bool.not_false]at hr;clear HA hs;generalize xs.getD k z0e=z at x y A hr;generalize ys.getD k z0e=z' at C D I hr
     go_wp2
     go_quiet (fail)
     go_wp2
     go_ret;rw[E.out];exact⟨rfl,⟨rfl,rfl,rfl,Vd _,fun _ _=>rfl⟩⟩
    case true=>
     have HB:Hid (∀j,j<k+1→z1T (xs.getD j z0e) (ys.getD j z0e)=true):=by
      intro j hj;by_cases M:j=k
      ·subst M;exact hs
      ·exact HA.out j (by omega)
     have hr:=z5U (xs.getD k z0e).kind (xs.getD k z0e).key (xs.getD k z0e).val (ys.getD k z0e).kind (ys.getD k z0e).key (ys.getD k z0e).val;rw[show z1T ⟨(xs.getD k z0e).kind,(xs.getD k z0e).key,(xs.getD k z0e).val⟩ ⟨(ys.getD k z0e).kind,(ys.getD k z0e).key,(ys.getD k z0e).val⟩=true from hs,Bool.not_true]at hr;clear HA hs;generalize xs.getD k z0e=z at x y A hr;generalize ys.getD k z0e=z' at C D I hr
     go_wp2
     go_quiet (fail)
     go_wp2
     go_roundw
     case rel=>exact⟨k+1,_,by omega,by go_num,rfl,HB⟩
     case measure=>simp[intOf];omega
   ·have E:Hid (sameAs xs ys=true):=z3c (f:=z1T) z0e rfl (fun _ _ _ _=>rfl) xs ys HL.out (fun j hj=>HA.out j (by omega));clear HA
    go_wp2
    go_ret;rw[E.out];exact⟨rfl,⟨rfl,rfl,rfl,Vd _,fun _ _=>rfl⟩⟩
theorem z4E(x y:TxnD):((x.id==y.id)=false∧z1v x y=false)∨((x.id==y.id)=true∧(x.session==y.session)=false∧z1v x y=false)∨((x.id==y.id)=true∧(x.session==y.session)=true∧(x.seq==y.seq)=false∧z1v x y=false)∨
  ((x.id==y.id)=true∧(x.session==y.session)=true∧(x.seq==y.seq)=true∧z1v x y=sameAs x.acts y.acts):=by
 unfold z1v
 cases h1:(x.id==y.id)<;>cases h2:(x.session==y.session)<;>cases h3:(x.seq==y.seq)<;>simp
theorem z7I(x y:TxnD)(a a':Option Addr)(cap cap':Nat)(w:World)(h:ActRow w a x.acts)(h':ActRow w a' y.acts)(hl:x.acts.length≤1048576)(hl':y.acts.length≤1048576):
    Calls B 166 #[.agg #[Q G x.id,Q G x.session,Q G x.seq,R a x.acts.length cap],.agg #[Q G y.id,Q G y.session,Q G y.seq,R a' y.acts.length cap']] w fun e w'=>e=.returned (.bool (z1v x y))∧Below w.heap.size w w':=by
  have hq:=fun w h h'=>q1t a a' cap cap' x.acts y.acts w h h' hl hl'
  rcases z4E x y with⟨h1,e⟩|⟨h1,h2,e⟩|⟨h1,h2,h3,e⟩|⟨h1,h2,h3,e⟩<;>rw[e]<;>clear e;all_goals
    (generalize sameAs x.acts y.acts=r at hq
     obtain⟨x0,x1,x2,xs⟩:=x;obtain⟨y0,y1,y2,ys⟩:=y;dsimp only at *)
  all_goals
    (go_enter func166,ntmps166
     go_wp2_with (go_at_call 204;refine(hq _ (h.below (by go_grown)) (h'.below (by go_grown))).mono ?_;rintro e w' ⟨rfl,hb⟩)
     go_ret)
  · exact⟨rfl,by go_grown⟩
  · exact⟨rfl,by go_grown⟩
  · exact⟨rfl,by go_grown⟩
  · exact⟨rfl,z0w (by go_grown) hb⟩
end Go.Proofs.YtdppipeclnldeaaGreatDoor
