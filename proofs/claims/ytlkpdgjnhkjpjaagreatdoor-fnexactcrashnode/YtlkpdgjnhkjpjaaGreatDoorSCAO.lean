/- Texts joined,with what the laws reach alone. -/
import Derived.Test.YtlkpdgjnhkjpjaaGreatDoorSCAN
set_option linter.unusedVariables false
set_option linter.unusedSimpArgs false
set_option maxRecDepth 100000
set_option maxHeartbeats 16000000
namespace Go.Proofs.YtlkpdgjnhkjpjaaGreatDoor
open Go.RowKit Go.BigFrame
def z4s:TxnD:=⟨0,0,0,[]⟩
theorem z68(xs:List TxnQ)(k:Nat)(hk:k<xs.length):(xs.map TxnQ.e).getD k z4s=TxnQ.e xs[k]:=by simp[List.getD,hk]
theorem q1R{acc:List TxnD}{t:TxnD}(k:Nat)(hk:k<acc.length)(h:stF (acc.getD k z4s) t=true):knw acc t=true:=by
 unfold knw;rw[List.any_eq_true];exact⟨acc[k],List.getElem_mem hk,by simpa[List.getD,hk]using h⟩
theorem q3N{acc:List TxnD}{t:TxnD}(h:∀j,j<acc.length→stF (acc.getD j z4s) t=false):knw acc t=false:=by
 cases hc:knw acc t with
 |false=>rfl
 |true=>
  unfold knw at hc;rw[List.any_eq_true]at hc;obtain⟨x,hx,hs⟩:=hc;obtain⟨j,hj,rfl⟩:=List.getElem_of_mem hx;have:=h j hj;have e:acc.getD j z4s=acc[j]:=by simp[List.getD,hj]
  rw[e,hs]at this;exact absurd this (by decide)
theorem z5q(v:Value)(acc:List TxnQ)(b o:Nat)(x:TxnD)(va:Value)(w:World)(h:txnK.At w v acc)(hB:Box4 w b o (.int .i64 x.id) (.int .i64 x.session) (.int .i64 x.seq) va)(hl:acc.length≤1048576):
  Calls Tryz.prog 174 #[v,.pointer (some ⟨b,o,none⟩)] w fun e w'=>e=.returned (.bool (knw (acc.map TxnQ.e) x))∧Below w.heap.size w w':=by
 obtain⟨a,cap,rfl⟩:=h.shape;obtain⟨d0,d1,d2,d3⟩:=hB;generalize hE:knw (acc.map TxnQ.e) x=E;have HE:Hid (knw (acc.map TxnQ.e) x=E):=hE;clear hE;obtain⟨xi,xs,xq,xa⟩:=x;dsimp only at d0 d1 d2 d3;go_enter Tryz.func174,Tryz.ntmps174
 go_wp2
 go_loopw[5] (fun j wr=>∃k m:Nat,k≤acc.length∧j=.int .i64 k∧wr=w.drewN m∧Hid (∀j,j<k→stF ((acc.map TxnQ.e).getD j z4s) ⟨xi,xs,xq,xa⟩=false)) (fun j _=>acc.length-(intOf j).toNat)
 case atStart=>exact⟨0,0,Nat.zero_le _,rfl,rfl,fun j hj=>absurd hj (Nat.not_lt_zero _)⟩
 case round=>
  obtain⟨k,m,hk,rfl,rfl,HA⟩:=hrel;by_cases d:k<acc.length
  ·obtain⟨b',I,rfl,L,hc,C⟩:=h.cell (by decide) k d;have c:∀j x,(txnK.cells acc[k])[j]?=some x→w.cell? ⟨b',I+k*4+j,none⟩=some x:=hc;have c0:=c 0 (.int .i64 acc[k].i) rfl;have c1:=c 1 (.int .i64 acc[k].s) rfl;have c2:=c 2 (.int .i64 acc[k].q) rfl;rw[Nat.add_zero]at c0;have HY:Hid (stF (TxnQ.e acc[k]) ⟨xi,xs,xq,xa⟩=true→E=true):=fun hx=>by rw[←HE.out];exact q1R k (by simpa using d) (by rw[z68 acc k d];exact hx)
   have HN:Hid (stF (TxnQ.e acc[k]) ⟨xi,xs,xq,xa⟩=false→∀j,j<k+1→stF ((acc.map TxnQ.e).getD j z4s) ⟨xi,xs,xq,xa⟩=false):=fun hx j hj=>by
    by_cases A:j=k
    ·subst A;rw[z68 acc j d];exact hx
    ·exact HA.out j (by omega)
   clear HA hc c C;generalize acc[k]=p at*;obtain⟨i,s,q,M,J⟩:=p;dsimp only[TxnQ.e,stF]at c0 c1 c2 HY HN;have z:(k:Int)<(acc.length:Int):=by omega
   cases h1:(i==xi)
   ·cases h2:(s==xs)
    ·have HR:=HN.out (by rw[h1,h2];rfl);have y:Hid _:=HR;clear HY HN HR
     go_wp2
     go_quiet (fail)
     go_wp2
     go_roundw
     case rel=>exact⟨k+1,_,by omega,by go_num,rfl,y.out⟩
     case measure=>simp[intOf];omega
    ·cases h3:(q==xq)
     ·have HR:=HN.out (by rw[h1,h2,h3];rfl);have y:Hid _:=HR;clear HY HN HR
      go_wp2
      go_quiet (fail)
      go_wp2
      go_roundw
      case rel=>exact⟨k+1,_,by omega,by go_num,rfl,y.out⟩
      case measure=>simp[intOf];omega
     ·have E1:Hid (E=true):=HY.out (by rw[h1,h2,h3];rfl);clear HY HN
      go_wp2
      go_quiet (fail)
      go_wp2
      go_ret;rw[E1.out];exact⟨rfl,⟨rfl,rfl,rfl,Nat.le_refl _,fun _ _=>rfl⟩⟩
   ·have E1:Hid (E=true):=HY.out (by rw[h1];rfl);clear HY HN
    go_wp2
    go_quiet (fail)
    go_wp2
    go_ret;rw[E1.out];exact⟨rfl,⟨rfl,rfl,rfl,Nat.le_refl _,fun _ _=>rfl⟩⟩
  ·have E1:Hid (E=false):=by rw[←HE.out];exact q3N (fun j hj=>HA.out j (by simp at hj;omega))
   have z:¬(k:Int)<(acc.length:Int):=by omega
   clear HA HE
   go_wp2
   go_ret;rw[E1.out];exact⟨rfl,⟨rfl,rfl,rfl,Nat.le_refl _,fun _ _=>rfl⟩⟩
theorem z5r(ds:List InstE)(k:Nat)(hk:k<ds.length):z3R (ds.take (k+1))=z3R (ds.take k)++(if outV (ds.getD k z0Q).dec=1 then(ds.getD k z0Q).batch else []):=by
 rw[List.take_succ_eq_append_getElem hk];unfold z3R;rw[List.flatMap_append];have e:ds.getD k z0Q=ds[k]:=by simp[List.getD,hk]
 simp only[List.flatMap_cons,List.flatMap_nil,List.append_nil,e]
theorem z9N(xs acc:List TxnD)(t:TxnD):onc acc (xs++[t])=if knw (onc acc xs) t then onc acc xs else onc acc xs++[t]:=by
 rw[z1B];simp only[onc]
theorem z50(v:Value)(ps:List InstQ)(n:Nat)(w:World)(h:instK.At w v ps)(aN:(∀p∈ps,(∀t∈p.batch,0<t.acts.length)∧(∀r∈p.rounds,0<r.rep.length∧0<r.pro.length)∧0<p.dec.length))(aJ:∀p∈ps,p.batch.length≤4)(hn:n≤ps.length)(h4:ps.length≤4)(hl:(ps.length+nmL InstQ.n ps)≤1048576):
  Calls Tryz.prog 111 #[v,.int .i64 n] w fun e w'=>∃v' qs,e=.returned v'∧qs.map TxnQ.e=defL (ps.map InstQ.e) n∧txnK.Own w' v' qs∧(txnK.fp v' qs).Nodup∧(∀k∈txnK.fp v' qs,w.heap.size≤k)∧Below w.heap.size w w':=by
 obtain⟨a,cap,rfl⟩:=h.shape;obtain⟨i0,hi,bn,bo,bp⟩:=info_parts z1p;have ho:=World.ownsRow_lit (e:=39) (size:=4) w #[] 0 (Nat.le_refl _) (by decide) rfl;have aP:txnK.Own (w.alloc (.cells #[] 39)) (.slice (some ⟨w.heap.size,0,none⟩) 0 0) ([]:List TxnQ):=⟨(z0u ho).1,fun p hp=>by simp at hp⟩
 have aH:Below w.heap.size w (w.alloc (.cells #[] 39)):=by go_grown
 have ay:Hid ((txnK.fp (.slice (some ⟨w.heap.size,0,none⟩) 0 0) ([]:List TxnQ)).Nodup∧∀k∈txnK.fp (.slice (some ⟨w.heap.size,0,none⟩) 0 0) ([]:List TxnQ),w.heap.size≤k):=by
  refine⟨?_,?_⟩
  ·simp[Kind.fp,blk,Value.ownBlock]
  ·simp[Kind.fp,blk,Value.ownBlock]
 clear ho;have av:Hid (([]:List TxnQ).map TxnQ.e=defL (ps.map InstQ.e) 0):=by show _=_;simp[defL,z3R,onc]
 have aw:Hid (([]:List TxnQ).length≤4*0):=by show _≤_;simp
 go_enter Tryz.func111,Tryz.ntmps111
 go_wp2
 go_loopw[5,6] (fun v j wr=>∃ (k:Nat) (qs:List TxnQ),k≤n∧j=.int .i64 k∧Hid (qs.map TxnQ.e=defL (ps.map InstQ.e) k)∧Hid (qs.length≤4*k)∧txnK.Own wr v qs∧Hid ((txnK.fp v qs).Nodup∧∀k∈txnK.fp v qs,w.heap.size≤k)∧Below w.heap.size w wr) (fun _ j _=>n-(intOf j).toNat)
 case atStart=>exact⟨0,[],Nat.zero_le _,rfl,av,aw,aP,ay,aH⟩
 case round=>
  clear ay aP aH av aw;obtain⟨k,qs,hk,rfl,HE,HL,hO,HN,hb⟩:=hrel;obtain⟨sa,sc,rfl⟩:=hO.shape;by_cases bA:k<n
  ·have z:k<ps.length:=by omega
   have HT:=z5r (ps.map InstQ.e) k (by simpa using z);rw[z5o ps k z]at HT;have al:Hid (outV ps[k].dec≠1→defL (ps.map InstQ.e) (k+1)=defL (ps.map InstQ.e) k):=fun hx=>by
    unfold defL;rw[HT,if_neg (show¬outV (InstQ.e ps[k]).dec=1 from hx),List.append_nil]
   have aA:Hid (outV ps[k].dec=1→∀m,onc (defL (ps.map InstQ.e) k) ((ps[k].batch.map TxnQ.e).take m)=onc [] (z3R ((ps.map InstQ.e).take k)++(ps[k].batch.map TxnQ.e).take m)):=fun _ m=>by
    rw[z1B];rfl
   have am:Hid (outV ps[k].dec=1→defL (ps.map InstQ.e) (k+1)=onc (defL (ps.map InstQ.e) k) (ps[k].batch.map TxnQ.e)):=fun hx=>by
    unfold defL;rw[HT,if_pos (show outV (InstQ.e ps[k]).dec=1 from hx),z1B];rfl
   clear HT;obtain⟨b,br,rfl,bd,hP⟩:=z62 h k z;have aS:InstQ.n ps[k]≤1048576:=by have:=z6p ps k z;omega
   have aL:=z2b b (br+k*4) ps[k] wr (hP.below hb) aS;have bs:b<wr.heap.size:=Nat.lt_of_lt_of_le bd hb.size;have W:=aN _ (List.getElem_mem z);have aI:=aJ _ (List.getElem_mem z);generalize outV ps[k].dec=OV at*;have aO:(k:Int)<(n:Int):=by omega
   have bf:(k:Int)<(ps.length:Int):=by omega
   go_wp2_with fail
   refine aL.mono ?_;rintro e w' ⟨rfl,hw⟩;replace hw:=hw.symm;subst hw;clear aL;by_cases L:OV=1
   case neg=>
    have e1:(OV !=1)=true:=by simpa using L
    have HR:Hid (qs.map TxnQ.e=defL (ps.map InstQ.e) (k+1)):=show _=_ by rw[al.out L];exact HE.out
    have A:Hid (qs.length≤4*(k+1)):=show _≤_ by have:=HL.out;omega
    clear al aA am HE HL L
    go_wp2
    go_roundw
    case rel=>exact⟨k+1,qs,by omega,by go_num,HR,A,hO,HN,hb⟩
    case measure=>simp[intOf];omega
   case pos=>
    have e1:(OV !=1)=false:=by simp[L]
    have HI:Hid (qs.map TxnQ.e=onc (defL (ps.map InstQ.e) k) ((ps[k].batch.map TxnQ.e).take 0)):=show _=_ by rw[List.take_zero];exact HE.out
    have y:Hid (qs.length≤4*k+0):=HL.out;have an:Hid (defL (ps.map InstQ.e) (k+1)=onc (defL (ps.map InstQ.e) k) (ps[k].batch.map TxnQ.e)):=am.out L;clear al aA am HE HL L;generalize ps[k]=p at*;obtain⟨has,vb,d,vr,aV,vd,dec⟩:=p;have hT:txnK.At w vb d:=hP.batch;have cc:=(hP.below hb).box.c1;dsimp only at cc;obtain⟨ba,bk,rfl⟩:=hT.shape;dsimp only at HI an W aI;have bh:=W.1;have bz:nmL TxnQ.n d≤1048576:=by
     have h9:=aS;dsimp only[InstQ.n]at h9;omega
    generalize defL (ps.map InstQ.e) k=acc at*
    go_wp2
    clear cc;go_loopw[5,7] (fun v j wx=>∃ (m:Nat) (qs:List TxnQ),m≤d.length∧j=.int .i64 m∧Hid (qs.map TxnQ.e=onc acc ((d.map TxnQ.e).take m))∧Hid (qs.length≤4*k+m)∧txnK.Own wx v qs∧Hid ((txnK.fp v qs).Nodup∧∀k∈txnK.fp v qs,w.heap.size≤k)∧Below w.heap.size w wx) (fun _ j _=>d.length-(intOf j).toNat)
    case atStart=>exact⟨0,qs,Nat.zero_le _,rfl,HI,y,hO,HN,hb⟩
    case round=>
     clear HI y hO HN hb;obtain⟨m,qs,hm,rfl,HI,y,hO,HN,hb⟩:=hrel;obtain⟨sa,sc,rfl⟩:=hO.shape;have a6:=hP.below hb;have aC:=a6.box.c1;dsimp only at aC;by_cases J:m<d.length
     ·have be:(m:Int)<(d.length:Int):=by omega
      have bx:d.length≤4:=aI;obtain⟨b2,o2,rfl,bt,hc,N⟩:=(hT.below hb).cell (by decide) m J;have U:∀j x,(txnK.cells d[m])[j]?=some x→wr.cell? ⟨b2,o2+m*4+j,none⟩=some x:=hc;have t0:=U 0 (.int .i64 d[m].i) rfl;have t1:=U 1 (.int .i64 d[m].s) rfl;have t2:=U 2 (.int .i64 d[m].q) rfl;have t3:=U 3 (d[m].va) rfl;rw[Nat.add_zero]at t0;have au:=z1u TxnQ.n d m J;have X:=bh _ (List.getElem_mem J);have HS:(d.map TxnQ.e).take (m+1)=(d.map TxnQ.e).take m++[TxnQ.e d[m]]:=by
       rw[List.take_succ_eq_append_getElem (by simpa using J),List.getElem_map]
      have ai:Hid (knw (qs.map TxnQ.e) (TxnQ.e d[m])=true→qs.map TxnQ.e=onc acc ((d.map TxnQ.e).take (m+1))):=fun hx=>by
       rw[HS,z9N,←HI.out,if_pos hx]
      have aj:Hid (knw (qs.map TxnQ.e) (TxnQ.e d[m])=false→∀p':TxnQ,p'.e=TxnQ.e d[m]→(qs++[p']).map TxnQ.e=onc acc ((d.map TxnQ.e).take (m+1))):=fun hx p' bi=>by
       rw[HS,z9N,←HI.out,if_neg (by rw[hx];decide),List.map_append,List.map_singleton,bi]
      clear hc U HS;generalize d[m]=p at*;obtain⟨i,s,q,va,c⟩:=p;replace N:actK.At wr va c:=N;replace au:c.length≤nmL TxnQ.n d:=au;obtain⟨aa,ac,rfl⟩:=N.shape;dsimp only at t0 t1 t2 t3 X;obtain⟨ab,ao,bb⟩:∃ab ao,aa=some ⟨ab,ao,none⟩:=by
       rcases(z0T N).2 with h0|⟨ab,ao,e,_⟩
       ·have:=z0q c;rw[h0]at this;simp at this;omega
       ·exact⟨ab,ao,e⟩
      subst bb;have aK:=z6k i s q ab ao ac c _ (z0T N).2 X (by omega)
      go_wp2_with fail
      clear t0 t1 t2 t3 aC;have ax:Hid (∀x∈txnK.fp (.slice sa qs.length sc) qs,x<wr.heap.size):=hO.lt;have aB:Hid (w.heap.size≤wr.heap.size):=hb.size;refine aK.mono ?_;rintro e w2 ⟨a2,c2,rfl,aT,Z⟩;replace hO:=hO.below Z;replace hb:=hb.trans (Z.mono hb.size);have bu:=Z.size;obtain⟨bq,aM⟩:=z0u aT;have C:txnK.own w2 (⟨i,s,q,.slice a2 c.length c2,c⟩:TxnQ):=⟨bq,fun _ _=>trivial⟩
      have O:∀x∈txnK.foot (⟨i,s,q,.slice a2 c.length c2,c⟩:TxnQ),wr.heap.size≤x:=fun x hx=>aM x (by rw[←z03 (.slice a2 c.length c2) c];exact hx)
      have aG:(txnK.foot (⟨i,s,q,.slice a2 c.length c2,c⟩:TxnQ)).Nodup:=by
       show(actK.fp _ _).Nodup;rw[z03];exact z0r _
      have a7:=txnK.own_lt C;have T:Below w2.heap.size w2 (w2.alloc (.cells #[.int .i64 i,.int .i64 s,.int .i64 q,.slice a2 c.length c2] 39)):=by go_grown
      have Tb:=Blk.new w2 39 #[.int .i64 i,.int .i64 s,.int .i64 q,.slice a2 c.length c2];replace hO:=hO.below T;replace C:=txnK.own_out (F:=[]) C (Out.of_below T) (fun _ _=>by simp);replace hb:=hb.trans (T.mono hb.size);have ae:=fun w h hB=>z5q (.slice sa qs.length sc) qs w2.heap.size 0 (TxnQ.e (⟨i,s,q,.slice a2 c.length c2,c⟩:TxnQ)) (.slice a2 c.length c2) w h hB (by have:=y.out;omega)
      have aD:Box4 (w2.alloc (.cells #[.int .i64 i,.int .i64 s,.int .i64 q,.slice a2 c.length c2] 39)) w2.heap.size 0 (.int .i64 i) (.int .i64 s) (.int .i64 q) (.slice a2 c.length c2):=⟨Tb.cell 0 _ rfl,Tb.cell 1 _ rfl,Tb.cell 2 _ rfl,Tb.cell 3 _ rfl⟩
      have ar:=ae _ hO.at aD;have aE:TxnQ.e (⟨i,s,q,.slice a2 c.length c2,c⟩:TxnQ)=TxnQ.e ⟨i,s,q,.slice (some ⟨ab,ao,none⟩) c.length ac,c⟩:=rfl;rw[aE]at ar;clear aK aT aM ae aE aD;generalize knw (qs.map TxnQ.e) (TxnQ.e ⟨i,s,q,.slice (some ⟨ab,ao,none⟩) c.length ac,c⟩)=KN at*
      go_wp2_with fail
      generalize bj:w2.alloc (.cells #[.int .i64 i,.int .i64 s,.int .i64 q,.slice a2 c.length c2] 39)=WA at*;clear bj;refine ar.mono ?_;rintro e w3 ⟨rfl,M⟩;replace hO:=hO.below M;replace C:=txnK.own_out (F:=[]) C (Out.of_below M) (fun _ _=>by simp);replace hb:=hb.trans (M.mono hb.size);replace Tb:=Tb.below M;have bv:=M.size;have bw:=T.size;clear M ar
      cases KN with
      |true=>
       have HR:=ai.out rfl;have aZ:Hid _:=HR;have A:Hid (qs.length≤4*k+(m+1)):=show _≤_ by have:=y.out;omega
       clear ai aj HR HI y Tb C
       go_wp2
       go_roundw
       case rel=>exact⟨m+1,qs,by omega,by go_num,aZ,A,hO,HN,hb⟩
       case measure=>simp[intOf];omega
      |false=>
       have az:=aj.out rfl;have af:Hid _:=az;have ak:Hid (qs.length≤20):=show _≤_ by have:=y.out;omega
       have A:Hid (qs.length+1≤4*k+(m+1)):=show _≤_ by have:=y.out;omega
       obtain⟨u0,u1,u2,u3⟩:=Tb.cel4;have I:Below w3.heap.size w3 (w3.alloc (.cells #[.int .i64 i,.int .i64 s,.int .i64 q,.slice a2 c.length c2] 39)):=by go_grown
       have ap:=hO.below I;have aF:=txnK.own_out (F:=[]) C (Out.of_below I) (fun _ _=>by simp);have ad:=hb.trans (I.mono hb.size);have a8:wr.heap.size≤(w3.alloc (.cells #[.int .i64 i,.int .i64 s,.int .i64 q,.slice a2 c.length c2] 39)).heap.size:=by have:=I.size;omega
       clear hO C ai aj az;have Y:=ap.1
       go_wp2_with (at_builtin;refine wpList_append_own_at _ rfl _ _ 25 rfl 0 39 i0 (.agg #[.int .i64 0,.int .i64 0,.int .i64 0,.slice none 0 0]) 4 48 Tryz.underlying25 hi bn bo bp rfl (by decide) _ qs.length (txnK.row qs) rfl Y ⟨w3.heap.size,0,none⟩ 1 1 [.int .i64 i,.int .i64 s,.int .i64 q,.slice a2 c.length c2] rfl rfl ?c1 ?c2 ?c3 ?c4 ?c5 ?_)
       all_goals try(case c1=>intro j u hj;match j,hj with|0,hj=>simp at hj;subst hj;simp[Addr.add]|1,hj=>simp at hj;subst hj;simp[Addr.add]|2,hj=>simp at hj;subst hj;simp[Addr.add]|3,hj=>simp at hj;subst hj;simp[Addr.add])
       all_goals try(case c2=>intro u hu;simp at hu;rcases hu with rfl|rfl|rfl|rfl<;>rfl)
       all_goals try(case c3=>have:=ak.out;unfold maxLen;omega)
       all_goals try(case c4=>have:=ak.out;omega)
       all_goals try(case c5=>first|omega|simp)
       intro v' w5 ah V aR aq;clear aR Y u0 u1 u2 u3 Tb;rw[show w3.heap.size+1=(w3.alloc (.cells #[.int .i64 i,.int .i64 s,.int .i64 q,.slice a2 c.length c2] 39)).heap.size from(World.size_alloc _ _).symm]at aq;generalize bl:w3.alloc (.cells #[.int .i64 i,.int .i64 s,.int .i64 q,.slice a2 c.length c2] 39)=WB at*;clear bl;obtain⟨a1,aQ,ag,aU⟩:=ap.snoc (p:=(⟨i,s,q,.slice a2 c.length c2,c⟩:TxnQ)) HN.out.1 HN.out.2 aF aG (fun x hx bm=>by have:=ax.out x bm;have:=O x hx;omega) (fun x hx=>by have:=O x hx;have:=aB.out;omega) ad.size ah V aq;have bc:Below w.heap.size w w5:=Out.keep ad aU ad.size (fun x hx=>HN.out.2 x (by simp only[Kind.fp,List.mem_append];exact Or.inl hx));have aW:Hid ((qs++[(⟨i,s,q,.slice a2 c.length c2,c⟩:TxnQ)]).map TxnQ.e=onc acc ((d.map TxnQ.e).take (m+1))):=af.out _ rfl;have aY:Hid ((txnK.fp v' (qs++[(⟨i,s,q,.slice a2 c.length c2,c⟩:TxnQ)])).Nodup∧∀k∈txnK.fp v' (qs++[(⟨i,s,q,.slice a2 c.length c2,c⟩:TxnQ)]),w.heap.size≤k):=⟨aQ,ag⟩
       have aX:Hid ((qs++[(⟨i,s,q,.slice a2 c.length c2,c⟩:TxnQ)]).length≤4*k+(m+1)):=show _≤_ by rw[List.length_append];exact A.out
       clear af HN ax aB aF ap ad ah V aq aU aQ ag N hb T I au X a8 O aG a7 HI y ak A Z
       go_wp2
       go_roundw
       case rel=>exact⟨m+1,_,by omega,by go_num,aW,aX,a1,aY,bc⟩
       case measure=>simp[intOf];omega
     ·have bg:m=d.length:=by omega
      subst bg;have HR:Hid (qs.map TxnQ.e=defL (ps.map InstQ.e) (k+1)):=show _=_ by
       have h8:=HI.out;rw[List.take_of_length_le (by simp)]at h8;rw[an.out];exact h8
      have A:Hid (qs.length≤4*(k+1)):=show _≤_ by have:=y.out;omega
      clear HI y an
      go_wp2
      go_roundw
      case rel=>exact⟨k+1,qs,by omega,by go_num,HR,A,hO,HN,hb⟩
      case measure=>simp[intOf];omega
  ·have ae:k=n:=by omega
   subst ae;have aO:¬(k:Int)<(k:Int):=by omega
   go_wp2
   go_ret;first|exact⟨_,qs,rfl,HE.out,hO,HN.out.1,HN.out.2,hb⟩|exact⟨_,rfl,qs,HE.out,hO,HN.out.1,HN.out.2,hb⟩
theorem z30(i s q:Int)(a:Option Addr)(n c:Nat)(i' s' q':Int)(a':Option Addr)(n' c':Nat)(xs ys:List ActD)(w:World):
  Calls Tryz.prog 219 #[.agg #[.int .i64 i,.int .i64 s,.int .i64 q,.slice a n c],.agg #[.int .i64 i',.int .i64 s',.int .i64 q',.slice a' n' c']] w fun e w'=>e=.returned (.bool (stF ⟨i,s,q,xs⟩ ⟨i',s',q',ys⟩))∧Below w.heap.size w w':=by
 unfold stF;dsimp only
 cases h1:(i==i')
 ·cases h2:(s==s')
  ·go_enter Tryz.func219,Tryz.ntmps219
   go_wp2
   go_ret;exact⟨rfl,by go_grown⟩
  ·cases h3:(q==q')
   ·go_enter Tryz.func219,Tryz.ntmps219
    go_wp2
    go_ret;exact⟨rfl,by go_grown⟩
   ·go_enter Tryz.func219,Tryz.ntmps219
    go_wp2
    go_ret;exact⟨rfl,by go_grown⟩
 ·go_enter Tryz.func219,Tryz.ntmps219
  go_wp2
  go_ret;exact⟨rfl,by go_grown⟩
theorem q0x(i s q:Int)(a:Option Addr)(n c:Nat)(xs:List ActD)(x:TxnD)(bx:Nat)(a':Option Addr)(n' c':Nat)(w:World)(hX:Blk w bx 39 #[.int .i64 x.id,.int .i64 x.session,.int .i64 x.seq,.slice a' n' c']):
  Calls Tryz.prog 218 #[.agg #[.int .i64 i,.int .i64 s,.int .i64 q,.slice a n c],.pointer (some ⟨bx,0,none⟩)] w fun e w'=>e=.returned (.bool (stF ⟨i,s,q,xs⟩ x))∧Below w.heap.size w w':=by
 obtain⟨xi,xs',xq,xa⟩:=x;have hB:Below w.heap.size w (w.alloc (.cells #[.int .i64 i,.int .i64 s,.int .i64 q,.slice a n c] 39)):=by go_grown
 have hX':=hX.below hB;have hq:=fun w=>z30 i s q a n c xi xs' xq a' n' c' xs xa w
 have x0:=hX'.cell 0 _ rfl;have x1:=hX'.cell 1 _ rfl;have x2:=hX'.cell 2 _ rfl;have x3:=hX'.cell 3 _ rfl;generalize stF ⟨i,s,q,xs⟩ ⟨xi,xs',xq,xa⟩=E at*;go_enter Tryz.func218,Tryz.ntmps218
 go_wp2_with fail
 refine(hq _).mono ?_;rintro e w2 ⟨rfl,hb2⟩;replace hB:=hB.trans (hb2.mono hB.size)
 go_wp2
 go_ret;exact⟨rfl,hB⟩
theorem z51(v:Value)(ps:List TxnQ)(x:TxnD)(bx:Nat)(a':Option Addr)(n' c':Nat)(w:World)(h:txnK.At w v ps)(hX:Blk w bx 39 #[.int .i64 x.id,.int .i64 x.session,.int .i64 x.seq,.slice a' n' c'])(hl:ps.length≤1048576):
  Calls Tryz.prog 258 #[v,.func (.func 218) #[] #[.pointer (some ⟨bx,0,none⟩)]] w fun e w'=>∃r:Int,e=.returned (.int .i64 r)∧(knw (ps.map TxnQ.e) x=true→0≤r)∧(knw (ps.map TxnQ.e) x=false→r<0)∧Below w.heap.size w w':=by
 obtain⟨a,cap,rfl⟩:=h.shape;generalize hE:knw (ps.map TxnQ.e) x=E;have HE:Hid (knw (ps.map TxnQ.e) x=E):=hE;clear hE;go_enter Tryz.func258,Tryz.ntmps258
 go_wp2
 go_loopw[8] (fun j wr=>∃k:Nat,k≤ps.length∧j=.int .i64 k∧Below w.heap.size w wr∧Hid (∀j,j<k→stF ((ps.map TxnQ.e).getD j z4s) x=false)) (fun j _=>ps.length-(intOf j).toNat)
 case atStart=>exact⟨0,Nat.zero_le _,rfl,Below.refl _ _,fun j hj=>absurd hj (Nat.not_lt_zero _)⟩
 case round=>
  obtain⟨k,hk,rfl,hb,HA⟩:=hrel;by_cases y:k<ps.length
  ·obtain⟨b',M,rfl,J,hc,z⟩:=(h.below hb).cell (by decide) k y;have d:∀j x,(txnK.cells ps[k])[j]?=some x→wr.cell? ⟨b',M+k*4+j,none⟩=some x:=hc;have c0:=d 0 (.int .i64 ps[k].i) rfl;have c1:=d 1 (.int .i64 ps[k].s) rfl;have c2:=d 2 (.int .i64 ps[k].q) rfl;have c3:=d 3 (ps[k].va) rfl;rw[Nat.add_zero]at c0;have HY:Hid (stF (TxnQ.e ps[k]) x=true→E=true):=fun hx=>by rw[←HE.out];exact q1R k (by simpa using y) (by rw[z68 ps k y];exact hx)
   have HN:Hid (stF (TxnQ.e ps[k]) x=false→∀j,j<k+1→stF ((ps.map TxnQ.e).getD j z4s) x=false):=fun hx j hj=>by
    by_cases L:j=k
    ·subst L;rw[z68 ps j y];exact hx
    ·exact HA.out j (by omega)
   clear HA hc d;generalize ps[k]=p at*;obtain⟨i,s,q,N,c⟩:=p;replace z:actK.At wr N c:=z;obtain⟨aa,ac,rfl⟩:=z.shape;dsimp only[TxnQ.e]at c0 c1 c2 c3 HY HN;have hq:=q0x i s q aa c.length ac c x bx a' n' c' wr (hX.below hb);generalize stF ⟨i,s,q,c⟩ x=S at*;have C:(k:Int)<(ps.length:Int):=by omega
   go_wp2_with fail
   refine hq.mono ?_;rintro e w2 ⟨rfl,A⟩;replace hb:=hb.trans (A.mono hb.size);clear hq c0 c1 c2 c3 A z J
   cases S with
   |true=>
    have E1:Hid (E=true):=HY.out rfl;clear HY HN
    go_wp2
    go_ret;refine⟨_,rfl,fun _=>by omega,fun h0=>?_,hb⟩;rw[E1.out]at h0;exact absurd h0 (by decide)
   |false=>
    have I:Hid _:=HN.out rfl;clear HY HN
    go_wp2
    go_roundw
    case rel=>exact⟨k+1,by omega,by go_num,hb,I.out⟩
    case measure=>simp[intOf];omega
  ·have E1:Hid (E=false):=by rw[←HE.out];exact q3N (fun j hj=>HA.out j (by simp at hj;omega))
   have C:¬(k:Int)<(ps.length:Int):=by omega
   clear HA HE
   go_wp2
   go_ret;refine⟨_,rfl,fun h0=>?_,fun _=>by omega,hb⟩;rw[E1.out]at h0;exact absurd h0 (by decide)
theorem z31(v:Value)(ps:List TxnQ)(x:TxnD)(bx:Nat)(a':Option Addr)(n' c':Nat)(w:World)(h:txnK.At w v ps)(hX:Blk w bx 39 #[.int .i64 x.id,.int .i64 x.session,.int .i64 x.seq,.slice a' n' c'])(hl:ps.length≤1048576):
  Calls Tryz.prog 209 #[v,.func (.func 218) #[] #[.pointer (some ⟨bx,0,none⟩)]] w fun e w'=>e=.returned (.bool (knw (ps.map TxnQ.e) x))∧Below w.heap.size w w':=by
 have hq:=z51 v ps x bx a' n' c' w h hX hl;obtain⟨a,cap,rfl⟩:=h.shape;generalize knw (ps.map TxnQ.e) x=E at*;go_enter Tryz.func209,Tryz.ntmps209
 go_wp2_with fail
 refine hq.mono ?_;rintro e w2 ⟨r,rfl,h1,h2,hb⟩
 cases E with
 |true=>
  have h0:0≤r:=h1 rfl;clear h1 h2
  go_wp2
  go_ret;exact⟨by simp[h0],hb⟩
 |false=>
  have h0:¬0≤r:=by have:=h2 rfl;omega
  clear h1 h2
  go_wp2
  go_ret;exact⟨by simp[h0],hb⟩
theorem z52(v:Value)(ps:List TxnQ)(x:TxnD)(a':Option Addr)(n' c':Nat)(w:World)(h:txnK.At w v ps)(hl:ps.length≤1048576):
  Calls Tryz.prog 159 #[v,.agg #[.int .i64 x.id,.int .i64 x.session,.int .i64 x.seq,.slice a' n' c']] w fun e w'=>e=.returned (.bool (knw (ps.map TxnQ.e) x))∧Below w.heap.size w w':=by
 have hB:Below w.heap.size w (w.alloc (.cells #[.int .i64 x.id,.int .i64 x.session,.int .i64 x.seq,.slice a' n' c'] 39)):=by go_grown
 have hq:=z31 v ps x w.heap.size a' n' c' _ (h.below hB) (Blk.new w 39 #[.int .i64 x.id,.int .i64 x.session,.int .i64 x.seq,.slice a' n' c']) hl;have hmf:∀ (fn:Fn) (first cap:Array Value) (w:World),(Instr.makeFunc fn first cap).run Tryz.prog w=.ok (.func fn first cap) w:=fun _ _ _ _=>rfl
 obtain⟨a,cap,rfl⟩:=h.shape;generalize knw (ps.map TxnQ.e) x=E at*;obtain⟨xi,xs,xq,xa⟩:=x;dsimp only at hB hq⊢;go_enter Tryz.func159,Tryz.ntmps159
 go_wp2_with fail
 refine hq.mono ?_;rintro e w2 ⟨rfl,hb2⟩;replace hB:=hB.trans (hb2.mono hB.size);clear hmf
 go_wp2
 go_ret;exact⟨rfl,hB⟩
def stpF(acc:List TxnD)(t:TxnD):Int:=if t.F=0 then(if knw acc t then 6 else 0)else t.F
def z2n:List TxnD→List TxnD→Int
 |_,[]=>0
 |acc,t::r=>if stpF acc t=0 then z2n (acc++[t]) r else stpF acc t
def lstF(ds:List TxnD):Int:=if 40<ds.length then 2 else z2n [] ds
def q1S:List (List TxnD)→Int
 |[]=>0
 |d::r=>if lstF d=0 then q1S r else lstF d
theorem z9O(ds:List TxnD)(k:Nat)(hk:k<ds.length):z2n (ds.take k) (ds.drop k)=if stpF (ds.take k) ds[k]=0 then z2n (ds.take (k+1)) (ds.drop (k+1))else stpF (ds.take k) ds[k]:=by
 conv=>lhs;rw[List.drop_eq_getElem_cons hk]
 rw[z2n,List.take_succ_eq_append_getElem hk]
theorem z8d(ds:List TxnD)(k:Nat)(hk:ds.length≤k):z2n (ds.take k) (ds.drop k)=0:=by
 rw[List.drop_of_length_le hk];rfl
theorem q4C(ls:List (List TxnD))(k:Nat)(hk:k<ls.length):q1S (ls.drop k)=if lstF ls[k]=0 then q1S (ls.drop (k+1))else lstF ls[k]:=by
 rw[List.drop_eq_getElem_cons hk,q1S]
theorem Kind.At.rdm{P:Type}{K:Kind P}{w:World}{v:Value}{ps:List P}{p:P}(h:K.At w v ps)(hp:p∈ps):K.rd w p:=by
 obtain⟨a,c,e,hl,hr⟩:=h;exact hr p hp
theorem Blk.setOne{w:World}{b:Nat}{t:TypeId}{x y:Value}(h:Blk w b t #[x]):Blk (w.setCell ⟨b,0,none⟩ y) b t #[y]:=by
 have h1:w.heap[b]?=some (.cells #[x] t (0,0)):=h;show(w.setCell ⟨b,0,none⟩ y).heap[b]?=some (.cells #[y] t (0,0));simp[World.setCell,Array.getElem?_modify,h1]
theorem z69(p:TxnQ)(qs:List TxnQ)(bx:Nat)(va:Value)(w:World)(hT:actK.At w p.va p.acts)(hl:p.acts.length≤1048576)(hv:Blk w bx 25 #[va])(ho:w.ownsRow (bx+1) 39 4 va qs.length (txnK.row qs))(Z:∀q∈qs,txnK.rd w q)(hq:qs.length≤40):
  Calls Tryz.prog 283 #[.agg #[.int .i64 p.i,.int .i64 p.s,.int .i64 p.q,p.va],.pointer (some ⟨bx,0,none⟩)] w fun e w'=>e=.returned (.int .i64 (stpF (qs.map TxnQ.e) (TxnQ.e p)))∧Below bx w w'∧(stpF (qs.map TxnQ.e) (TxnQ.e p)=0→∃ad,Blk w' bx 25 #[ad]∧w'.ownsRow (bx+1) 39 4 ad (qs++[p]).length (txnK.row (qs++[p]))):=by
 obtain⟨i,s,q,pv,c⟩:=p;dsimp only at hT hl;obtain⟨aa,ac,rfl⟩:=hT.shape;obtain⟨sa,sc,rfl⟩:=z0g ho;obtain⟨i0,hi,aj,ak,al⟩:=info_parts z1p;have am:=hv.lt;have hB:Below w.heap.size w (w.alloc (.cells #[.int .i64 i,.int .i64 s,.int .i64 q,.slice aa c.length ac] 39)):=by go_grown
 have hX:=Blk.new w 39 #[.int .i64 i,.int .i64 s,.int .i64 q,.slice aa c.length ac];have O:=z2q i s q aa ac c _ ((z0T hT).2.below hB) hl;replace hv:=hv.below hB;replace ho:=z0a ho hB;have I:txnK.At (w.alloc (.cells #[.int .i64 i,.int .i64 s,.int .i64 q,.slice aa c.length ac] 39)) (.slice sa qs.length sc) qs:=Kind.at_of_row ho (fun q hq=>txnK.rd_below (Z q hq) hB);have HS:Hid (stpF (qs.map TxnQ.e) ⟨i,s,q,c⟩=if txnF i s q c=0 then(if knw (qs.map TxnQ.e) ⟨i,s,q,c⟩then 6 else 0)else txnF i s q c):=rfl;dsimp only[TxnQ.e];generalize stpF (qs.map TxnQ.e) ⟨i,s,q,c⟩=S at*;generalize txnF i s q c=C at*;clear hT Z;go_enter Tryz.func283,Tryz.ntmps283
 go_wp2_with fail
 have ae:=hB.size;have ap:w.heap.size<(w.alloc (.cells #[.int .i64 i,.int .i64 s,.int .i64 q,.slice aa c.length ac] 39)).heap.size:=by simp
 generalize w.heap.size=H at*;generalize w.alloc (.cells #[.int .i64 i,.int .i64 s,.int .i64 q,.slice aa c.length ac] 39)=W at*;refine O.mono ?_;rintro e w1 ⟨rfl,d⟩;replace hv:=hv.below d;replace ho:=z0a ho d;replace hX:=hX.below d;replace I:=I.below d;replace hB:=hB.trans (d.mono ae);by_cases hC:C=0
 ·subst hC;rw[if_pos rfl]at HS;have hh:=z52 (.slice sa qs.length sc) qs ⟨i,s,q,c⟩ aa c.length ac w1 I (by omega);dsimp only at hh;obtain⟨x0,x1,x2,x3⟩:=hX.cel4;have v0:=hv.cell 0 _ rfl;generalize knw (qs.map TxnQ.e) ⟨i,s,q,c⟩=Y at*;clear O I
  go_wp2_with fail
  refine hh.mono ?_;rintro e w2 ⟨rfl,z⟩;clear x0 x1 x2 x3 v0 hh;replace hv:=hv.below z;replace ho:=z0a ho z;replace hX:=hX.below z;have an:=z.size;have ah:=d.size;replace hB:=hB.trans (z.mono (by omega));clear d z
  cases Y with
  |true=>
   have A:Hid (S=6):=HS.out;clear HS
   go_wp2
   go_ret;rw[A.out];exact⟨rfl,hB.mono (by omega),fun h0=>absurd h0 (by decide)⟩
  |false=>
   have A:Hid (S=0):=HS.out;clear HS;obtain⟨x0,x1,x2,x3⟩:=hX.cel4;have v0:=hv.cell 0 _ rfl;have L:Below w2.heap.size w2 (w2.alloc (.cells #[.int .i64 i,.int .i64 s,.int .i64 q,.slice aa c.length ac] 39)):=by go_grown
   have ab:=hv.below L;have M:=z0a ho L;have T:=hB.trans (L.mono (by omega));have ao:=L.size;clear hv ho hB hX
   go_wp2_with (at_builtin;refine wpList_append_own_at _ rfl _ _ 25 rfl (bx+1) 39 i0 (.agg #[.int .i64 0,.int .i64 0,.int .i64 0,.slice none 0 0]) 4 48 Tryz.underlying25 hi aj ak al rfl (by decide) _ qs.length (txnK.row qs) rfl M ⟨w2.heap.size,0,none⟩ 1 1 [.int .i64 i,.int .i64 s,.int .i64 q,.slice aa c.length ac] rfl rfl ?c1 ?c2 ?c3 ?c4 ?c5 ?_)
   all_goals try(case c1=>intro j u hj;match j,hj with|0,hj=>simp at hj;subst hj;simp[Addr.add]|1,hj=>simp at hj;subst hj;simp[Addr.add]|2,hj=>simp at hj;subst hj;simp[Addr.add]|3,hj=>simp at hj;subst hj;simp[Addr.add])
   all_goals try(case c2=>intro u hu;simp at hu;rcases hu with rfl|rfl|rfl|rfl<;>rfl)
   all_goals try(case c3=>unfold maxLen;omega)
   all_goals try(case c4=>omega)
   all_goals try(case c5=>omega)
   intro v' w5 y x X U;obtain⟨a6,c6,rfl⟩:=z0g y;have J:Blk w5 bx 25 #[.slice sa qs.length sc]:=ab.grown x (fun e=>by have:=(M.lt bx e.symm).1;omega);have V:Below bx w w5:=(T.mono (show bx≤_ by omega)).grown x (by omega) (fun j hj=>by have:=(M.lt j hj).1;omega);have N:txnK.row (qs++[(⟨i,s,q,.slice aa c.length ac,c⟩:TxnQ)])=txnK.row qs++[.int .i64 i,.int .i64 s,.int .i64 q,.slice aa c.length ac]:=by simp[Kind.row];rfl
   have f5:=J.frozen 0;have c5:=J.cell 0 _ rfl;have af:Below bx w (w5.setCell ⟨bx,0,none⟩ (.slice a6 (qs.length+1) c6)):=Out.keep V (Out.setCell w5 bx 0 _) (by have:=J.lt;omega) (fun k hk=>by simp at hk;omega);have ai:Blk (w5.setCell ⟨bx,0,none⟩ (.slice a6 (qs.length+1) c6)) bx 25 #[.slice a6 (qs.length+1) c6]:=J.setOne;have ag:(w5.setCell ⟨bx,0,none⟩ (.slice a6 (qs.length+1) c6)).ownsRow (bx+1) 39 4 (.slice a6 (qs.length+1) c6) (qs++[(⟨i,s,q,.slice aa c.length ac,c⟩:TxnQ)]).length (txnK.row (qs++[(⟨i,s,q,.slice aa c.length ac,c⟩:TxnQ)])):=by
    rw[N,List.length_append];refine z0R y (Out.setCell w5 bx 0 _) (fun k hk e=>?_);simp only[List.mem_singleton]at e;subst e;have:=(y.lt k (by simpa[blk]using hk)).1;omega
   clear y x X U N M ab V T J x0 x1 x2 x3 v0
   go_wp2
   go_ret;rw[A.out];exact⟨rfl,af,fun _=>⟨_,ai,ag⟩⟩
 ·rw[if_neg hC]at HS;have A:Hid (S=C):=HS.out;clear HS O I;have ah:=d.size
  go_wp2
  go_ret;rw[A.out];exact⟨rfl,hB.mono (by omega),fun h0=>absurd h0 hC⟩
theorem z7a(w:World):Calls Tryz.prog 269 #[] w fun e w'=>e=.returned (.func (.func 283) #[] #[.pointer (some ⟨w.heap.size,0,none⟩)])∧w'=w.alloc (.cells #[.slice none 0 0] 25):=by
 have hmf:∀ (fn:Fn) (first cap:Array Value) (w:World),(Instr.makeFunc fn first cap).run Tryz.prog w=.ok (.func fn first cap) w:=fun _ _ _ _=>rfl
 go_enter Tryz.func269,Tryz.ntmps269
 go_wp2
 go_ret;exact⟨rfl,rfl⟩
theorem z54(b cap:Nat)(ls:List (Value × List TxnQ))(w:World)(ay:b<w.heap.size)(hc:∀ (k:Nat) (hk:k<ls.length),w.cell? ⟨b,k,none⟩=some ls[k].1)(hA:∀l∈ls,txnK.At w l.1 l.2)(hl:∀l∈ls,l.2.length+nmL TxnQ.n l.2≤1048576)(h2:ls.length≤2):
  Calls Tryz.prog 231 #[.slice (some ⟨b,0,none⟩) ls.length cap] w fun e w'=>e=.returned (.int .i64 (q1S (ls.map (fun l=>l.2.map TxnQ.e))))∧Below w.heap.size w w':=by
 generalize hE:q1S (ls.map (fun l=>l.2.map TxnQ.e))=E;have HE:Hid (q1S ((ls.map (fun l=>l.2.map TxnQ.e)).drop 0)=E):=hE;clear hE;go_enter Tryz.func231,Tryz.ntmps231
 go_wp2
 go_loopw[11] (fun j wr=>∃k:Nat,k≤ls.length∧j=.int .i64 k∧Below w.heap.size w wr∧Hid (q1S ((ls.map (fun l=>l.2.map TxnQ.e)).drop k)=E)) (fun j _=>ls.length-(intOf j).toNat)
 case atStart=>exact⟨0,Nat.zero_le _,rfl,Below.refl _ _,HE⟩
 case round=>
  clear HE;obtain⟨k,hk,rfl,hb,HE⟩:=hrel;obtain⟨U,rfl⟩:∃U,U=wr:=⟨_,rfl⟩
  by_cases J:k<ls.length
  ·have d:Hid ((if lstF (ls[k].2.map TxnQ.e)=0 then q1S ((ls.map (fun l=>l.2.map TxnQ.e)).drop (k+1))else lstF (ls[k].2.map TxnQ.e))=E):=show _=_ by
    have:=HE.out;rw[q4C _ k (by simpa using J)]at this;simpa using this
   have ai:=(hb.cell (p:=⟨b,k,none⟩) ay).trans (hc k J);have N:=(hA _ (List.getElem_mem J)).below hb;have X:=hl _ (List.getElem_mem J);generalize ls[k]=l at*;obtain⟨v,ps⟩:=l;dsimp only at ai N X d;obtain⟨a,cp,rfl⟩:=N.shape;clear HE;have al:(k:Int)<(ls.length:Int):=by omega
   by_cases ae:40<ps.length
   ·have E1:Hid (E=2):=show _=_ by
     have:=d.out;have e2:lstF (ps.map TxnQ.e)=2:=by unfold lstF;rw[List.length_map,if_pos ae]
     rw[e2]at this;exact this.symm
    clear d;have af:(40:Int)<(ps.length:Int):=by omega
    go_wp2
    go_ret;rw[E1.out];exact⟨rfl,hb⟩
   ·have af:¬(40:Int)<(ps.length:Int):=by omega
    have ad:Hid (z2n (((ps.map TxnQ.e)).take 0) ((ps.map TxnQ.e).drop 0)=lstF (ps.map TxnQ.e)):=show _=_ by unfold lstF;rw[List.length_map,if_neg ae];rfl
    have ak:=z7a U;have ah:Below U.heap.size U (U.alloc (.cells #[.slice none 0 0] 25)):=by go_grown
    have ap:=Blk.new U 25 #[.slice none 0 0];have am:=World.ownsRow_nil (U.alloc (.cells #[.slice none 0 0] 25)) (U.heap.size+1) 39 4;have aq:=hb.size
    go_wp2_with fail
    clear ai;refine ak.mono ?_;rintro e w2 ⟨rfl,rfl⟩;clear ak;generalize aw:U.heap.size=bx at*;generalize hY:U.alloc (.cells #[.slice none 0 0] 25)=Y at*;clear hY
    go_wp2
    go_loopw[21] (fun j wy=>∃ (m:Nat) (va:Value),m≤ps.length∧j=.int .i64 m∧Blk wy bx 25 #[va]∧wy.ownsRow (bx+1) 39 4 va (ps.take m).length (txnK.row (ps.take m))∧Below bx U wy∧Hid (z2n ((ps.map TxnQ.e).take m) ((ps.map TxnQ.e).drop m)=lstF (ps.map TxnQ.e))) (fun j _=>ps.length-(intOf j).toNat)
    case atStart=>exact⟨0,_,Nat.zero_le _,rfl,ap,am,ah,ad⟩
    case round=>
     clear ap am ah ad;obtain⟨m,va,hm,rfl,hv,ho,A,HG⟩:=hrel;by_cases c:m<ps.length
     ·have M:Hid ((if stpF ((ps.map TxnQ.e).take m) (TxnQ.e ps[m])=0 then z2n ((ps.map TxnQ.e).take (m+1)) ((ps.map TxnQ.e).drop (m+1))else stpF ((ps.map TxnQ.e).take m) (TxnQ.e ps[m]))=lstF (ps.map TxnQ.e)):=show _=_ by
       have:=HG.out;rw[z9O _ m (by simpa using c)]at this;simpa using this
      have C:Below U.heap.size U wr:=by rw[aw];exact A
      obtain⟨b',aB,rfl,aE,aj,an⟩:=(N.below C).cell (by decide) m c;have I:∀j x,(txnK.cells ps[m])[j]?=some x→wr.cell? ⟨b',aB+m*4+j,none⟩=some x:=aj;have c0:=I 0 (.int .i64 ps[m].i) rfl;have c1:=I 1 (.int .i64 ps[m].s) rfl;have c2:=I 2 (.int .i64 ps[m].q) rfl;have c3:=I 3 (ps[m].va) rfl;rw[Nat.add_zero]at c0;have ar:=z1u TxnQ.n ps m c;have ao:ps.take (m+1)=ps.take m++[ps[m]]:=List.take_succ_eq_append_getElem c;have V:∀q∈ps.take m,txnK.rd wr q:=fun q hq=>(N.below C).rdm (List.mem_of_mem_take hq)
      have X:(ps.take m).length≤40:=by rw[List.length_take];omega
      have T:=z69 ps[m] (ps.take m) bx va;rw[List.map_take,←ao]at T;clear HG aj I ao;generalize hS:stpF ((ps.map TxnQ.e).take m) (TxnQ.e ps[m])=S at*;clear hS;generalize ps[m]=p at*;obtain⟨i,s,q,aC,y⟩:=p;have L:actK.At wr aC y:=an;replace ar:y.length≤nmL TxnQ.n ps:=ar;obtain⟨aa,ac,rfl⟩:=L.shape;dsimp only at c0 c1 c2 c3 T;have ab:(m:Int)<(ps.length:Int):=by omega
      have z:Below wr.heap.size wr (wr.alloc (.cells #[.int .i64 i,.int .i64 s,.int .i64 q,.slice aa y.length ac] 39)):=by go_grown
      have hq:=T _ (L.below z) (by omega) (hv.below z) (z0a ho z) (fun q hq=>txnK.rd_below (V q hq) z) X;have O:=A.trans (z.mono (by have:=hv.lt;omega));clear T z hv ho L an V A C
      go_wp2_with fail
      clear c0 c1 c2 c3;generalize wr.alloc (.cells #[.int .i64 i,.int .i64 s,.int .i64 q,.slice aa y.length ac] 39)=Z at*;refine hq.mono ?_;rintro e w3 ⟨rfl,ag,hI⟩;replace O:=O.trans ag;clear hq ag;by_cases W:S=0
      ·subst W;obtain⟨aD,aA,az⟩:=hI rfl;clear hI;have av:Hid (z2n ((ps.map TxnQ.e).take (m+1)) ((ps.map TxnQ.e).drop (m+1))=lstF (ps.map TxnQ.e)):=show _=_ by
        have:=M.out;rw[if_pos rfl]at this;exact this
       clear M
       go_wp2
       go_roundw
       case rel=>exact⟨m+1,aD,by omega,by go_num,aA,az,O,av⟩
       case measure=>simp[intOf];omega
      ·have E1:Hid (E=S):=show _=_ by
        have h3:=M.out;rw[if_neg W]at h3;have h4:=d.out;rw[←h3,if_neg W]at h4;exact h4.symm
       clear M d hI
       go_wp2
       go_ret;rw[E1.out];exact⟨rfl,hb.trans (O.mono aq)⟩
     ·have h0:lstF (ps.map TxnQ.e)=0:=by rw[←HG.out];exact z8d _ _ (by simpa using Nat.le_of_not_lt c)
      have au:Hid (q1S ((ls.map (fun l=>l.2.map TxnQ.e)).drop (k+1))=E):=show _=_ by
       have:=d.out;rw[if_pos h0]at this;exact this
      have ab:¬(m:Int)<(ps.length:Int):=by omega
      have ax:Below w.heap.size w wr:=hb.trans (A.mono aq);clear HG d hv ho A
      go_wp2
      go_roundw
      case rel=>exact⟨k+1,by omega,by go_num,ax,au⟩
      case measure=>simp[intOf];omega
  ·have E1:Hid (E=0):=by
    show _=_;rw[←HE.out,List.drop_of_length_le (by simpa using Nat.le_of_not_lt J)];rfl
   have al:¬(k:Int)<(ls.length:Int):=by omega
   clear HE
   go_wp2
   go_ret;rw[E1.out];exact⟨rfl,hb⟩
theorem z34(v:Value)(ps:List TxnQ)(w:World)(h:txnK.At w v ps)(hl:ps.length+nmL TxnQ.n ps≤1048576):
  Calls Tryz.prog 178 #[v] w fun e w'=>e=.returned (.int .i64 (lstF (ps.map TxnQ.e)))∧Below w.heap.size w w':=by
 have hB:Below w.heap.size w (w.alloc (.cells #[v] 25)):=by go_grown
 have hX:=Blk.new w 25 #[v];have hq:=z54 w.heap.size 1 [(v,ps)] (w.alloc (.cells #[v] 25)) hX.lt (fun k hk=>by
  have h0:k=0:=by simpa using hk
  subst h0;exact hX.cell 0 _ rfl) (fun l hl=>by rw [List.mem_singleton.1 hl];exact h.below hB) (fun l hl=>by rw [List.mem_singleton.1 hl];assumption) (by simp)
 have e0:q1S ([(v,ps)].map (fun l:Value × List TxnQ=>l.2.map TxnQ.e))=lstF (ps.map TxnQ.e):=by
  show(if lstF (ps.map TxnQ.e)=0 then 0 else lstF (ps.map TxnQ.e))=_;split
  ·rename_i h0;exact h0.symm
  ·rfl
 rw[e0]at hq;clear e0;generalize lstF (ps.map TxnQ.e)=E at*;obtain⟨a,cap,rfl⟩:=h.shape;clear hX;go_enter Tryz.func178,Tryz.ntmps178
 go_wp2_with fail
 refine Calls.mono (show Calls Tryz.prog _ #[.slice (some ⟨w.heap.size,0,none⟩) 1 1] _ _ from hq) ?_;rintro e w2 ⟨rfl,hb⟩;replace hB:=hB.trans (hb.mono hB.size)
 go_wp2
 go_ret;exact⟨rfl,hB⟩
theorem z9d(v:Value)(ps:List TxnQ)(w:World)(h:txnK.At w v ps)(ae:z5U v)(hl:ps.length+nmL TxnQ.n ps≤1048576):
  Calls Tryz.prog 169 #[v] w fun e w'=>e=.returned (.int .i64 (lstF (ps.map TxnQ.e)))∧Below w.heap.size w w':=by
 obtain⟨a,cap,rfl⟩:=h.shape;obtain⟨ai,aj⟩:ps.length≤cap∧cap≤maxLen:=ae;by_cases U:40<ps.length
 ·have e2:lstF (ps.map TxnQ.e)=2:=by unfold lstF;rw[List.length_map,if_pos U]
  rw[e2];have V:(40:Int)<(ps.length:Int):=by omega
  go_enter Tryz.func169,Tryz.ntmps169
  go_wp2
  go_ret;exact⟨rfl,Below.refl _ _⟩
 ·have V:¬(40:Int)<(ps.length:Int):=by omega
  have e2:lstF (ps.map TxnQ.e)=z2n ((ps.map TxnQ.e).take 0) ((ps.map TxnQ.e).drop 0):=by unfold lstF;rw[List.length_map,if_neg U];rfl
  have HE:Hid (z2n ((ps.map TxnQ.e).take 0) ((ps.map TxnQ.e).drop 0)=lstF (ps.map TxnQ.e)):=e2.symm;clear e2;generalize lstF (ps.map TxnQ.e)=E at*;go_enter Tryz.func169,Tryz.ntmps169
  go_wp2
  go_loopw[3] (fun j wr=>∃m:Nat,m≤ps.length∧j=.int .i64 m∧Below w.heap.size w wr∧Hid (z2n ((ps.map TxnQ.e).take m) ((ps.map TxnQ.e).drop m)=E)) (fun j _=>ps.length-(intOf j).toNat)
  case atStart=>exact⟨0,Nat.zero_le _,rfl,Below.refl _ _,HE⟩
  case round=>
   clear HE;obtain⟨m,hm,rfl,hb,HG⟩:=hrel;by_cases y:m<ps.length
   ·have z:Hid ((if stpF ((ps.map TxnQ.e).take m) (TxnQ.e ps[m])=0 then z2n ((ps.map TxnQ.e).take (m+1)) ((ps.map TxnQ.e).drop (m+1))else stpF ((ps.map TxnQ.e).take m) (TxnQ.e ps[m]))=E):=show _=_ by
     have:=HG.out;rw[z9O _ m (by simpa using y)]at this;simpa using this
    have M:=(h.below hb).takeK m hm;obtain⟨b,d,rfl,al,X,Z⟩:=(h.below hb).cell (by decide) m y;have A:∀j x,(txnK.cells ps[m])[j]?=some x→wr.cell? ⟨b,d+m*4+j,none⟩=some x:=X;have c0:=A 0 (.int .i64 ps[m].i) rfl;have c1:=A 1 (.int .i64 ps[m].s) rfl;have c2:=A 2 (.int .i64 ps[m].q) rfl;have c3:=A 3 (ps[m].va) rfl;rw[Nat.add_zero]at c0;have ab:=z1u TxnQ.n ps m y;have I:=fun va w'=>z5q (.slice (some ⟨b,d,none⟩) m cap) (ps.take m) b (d+m*4) (TxnQ.e ps[m]) va w'
    have af:(ps.take m).length≤1048576:=by rw[List.length_take];omega
    rw[List.map_take]at I;have HS:Hid (stpF ((ps.map TxnQ.e).take m) (TxnQ.e ps[m])=if(TxnQ.e ps[m]).F=0 then(if knw ((ps.map TxnQ.e).take m) (TxnQ.e ps[m])then 6 else 0)else(TxnQ.e ps[m]).F):=rfl;clear HG X A;generalize stpF ((ps.map TxnQ.e).take m) (TxnQ.e ps[m])=S at*;generalize knw ((ps.map TxnQ.e).take m) (TxnQ.e ps[m])=Y at*;generalize ps[m]=p at*;obtain⟨i,s,q,ah,c⟩:=p;have J:actK.At wr ah c:=Z;replace ab:c.length≤nmL TxnQ.n ps:=ab;obtain⟨aa,ac,rfl⟩:=J.shape;have e3:(TxnQ.e ⟨i,s,q,.slice aa c.length ac,c⟩).F=txnF i s q c:=rfl;rw[e3]at HS;dsimp only[TxnQ.e]at c0 c1 c2 c3 I;have L:Box4 wr b (d+m*4) (.int .i64 i) (.int .i64 s) (.int .i64 q) (.slice aa c.length ac):=⟨c0,c1,c2,c3⟩
    have N:=z5a b (d+m*4) i s q aa ac c wr L (z0T J).2 (by omega);have O:(m:Int)<(ps.length:Int):=by omega
    generalize txnF i s q c=C at*;clear e3 c0 c1 c2 c3 J Z
    go_wp2_with fail
    refine N.mono ?_;rintro e w2 ⟨rfl,T⟩;replace T:=T.symm;subst T;by_cases hC:C=0
    ·subst hC;rw[if_pos rfl]at HS;have hW:Below wr.heap.size wr wr.drew:=(Below.refl _ _).drew;have ag:Nonempty (Lat wr):=⟨⟨wr,Below.refl _ _⟩⟩
     have an:m≤cap:=by omega
     have am:(0:Int)≤(m:Int):=by omega
     have ak:(m:Int)≤(cap:Int):=by omega
     clear N
     go_wp2_with fail
     refine z0e (S:=fun w'=>∃u:Lat wr,w'=u.val) (by kernel_rfl) ?_;refine sgr [(0,2),(3,3)] 2 (by kernel_rfl) ⟨⟨_,hW⟩,rfl⟩ ?_;simp only[pkE];repeat go_big_quiet_step (fail)
     refine wpQuiet_nil ?_;refine ona 2 1 rfl (by kernel_rfl) ?_
     go_wp2
     refine ThenGo.to ⟨⟨⟨_,hW⟩,rfl⟩,?_⟩;refine cla 6 (some 27) 174 #[.slice (some ⟨b,d,none⟩) m cap,.pointer (some ⟨b,d+m*4,none⟩)] 0 (by kernel_rfl) ?_;refine(I _ _ (M.below hW) (L.below hW) af).mono ?_;rintro e w9 ⟨rfl,W⟩;replace hW:=hW.trans (W.mono hW.size);clear W I L M;refine⟨_,rfl,⟨⟨_,hW⟩,rfl⟩,?_⟩;simp only[Act.put,pjE];refine z0i (by kernel_rfl) ?_;replace hb:=hb.trans (hW.mono hb.size);clear hW ag
     cases Y with
     |true=>
      have E1:Hid (E=6):=show _=_ by
       have h3:=z.out;have h4:S=6:=HS.out;rw[h4]at h3;exact h3.symm
      clear z HS
      go_wp2
      go_ret;rw[E1.out];exact⟨rfl,hb⟩
     |false=>
      have ad:Hid (z2n ((ps.map TxnQ.e).take (m+1)) ((ps.map TxnQ.e).drop (m+1))=E):=show _=_ by
       have h3:=z.out;have h4:S=0:=HS.out;rw[h4]at h3;exact h3
      clear z HS
      go_wp2
      go_roundw
      case rel=>exact⟨m+1,by omega,by go_num,hb,ad⟩
      case measure=>simp[intOf];omega
    ·rw[if_neg hC]at HS;have E1:Hid (E=C):=show _=_ by
      have h3:=z.out;have h4:S=C:=HS.out;rw[h4,if_neg hC]at h3;exact h3.symm
     clear z HS I M L N
     go_wp2
     go_ret;rw[E1.out];exact⟨rfl,hb⟩
   ·have E1:Hid (E=0):=by
     show _=_;rw[←HG.out];exact z8d _ _ (by simpa using Nat.le_of_not_lt y)
    have O:¬(m:Int)<(ps.length:Int):=by omega
    clear HG
    go_wp2
    go_ret;rw[E1.out];exact⟨rfl,hb⟩
end Go.Proofs.YtlkpdgjnhkjpjaaGreatDoor
