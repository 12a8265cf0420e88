/- Texts joined,with what the laws reach alone. -/
import Derived.Test.YtlkpdgjnhkjpjaaGreatDoorSCAM
set_option linter.unusedVariables false
set_option linter.unusedSimpArgs false
set_option maxRecDepth 100000
set_option maxHeartbeats 4000000
namespace Go.Proofs.YtlkpdgjnhkjpjaaGreatDoor
open Go.RowKit Go.BigFrame
theorem z3H(v:Value)(ps:List TxnQ)(w:World)(h:txnK.At w v ps)(ax:∀p∈ps,0<p.acts.length)(hl:ps.length+nmL TxnQ.n ps≤1048576):
  Calls Tryz.prog 170 #[v] w fun e w'=>∃v' qs,e=.returned v'∧qs.map TxnQ.e=ps.map TxnQ.e∧txnK.Own w' v' qs∧(txnK.fp v' qs).Nodup∧(∀k∈txnK.fp v' qs,w.heap.size≤k)∧Below w.heap.size w w':=by
 obtain⟨a,cap,rfl⟩:=h.shape;obtain⟨i0,hi,aB,aC,aD⟩:=info_parts z1p;have ho:=World.ownsRow_lit (e:=39) (size:=4) w #[] 0 (Nat.le_refl _) (by decide) rfl;have ai:txnK.Own (w.alloc (.cells #[] 39)) (.slice (some ⟨w.heap.size,0,none⟩) 0 0) ([]:List TxnQ):=⟨(z0u ho).1,fun p hp=>by simp at hp⟩
 have ak:Below w.heap.size w (w.alloc (.cells #[] 39)):=by go_grown
 have Y:Hid ((txnK.fp (.slice (some ⟨w.heap.size,0,none⟩) 0 0) ([]:List TxnQ)).Nodup∧∀k∈txnK.fp (.slice (some ⟨w.heap.size,0,none⟩) 0 0) ([]:List TxnQ),w.heap.size≤k):=by
  refine⟨?_,?_⟩
  ·simp[Kind.fp,blk,Value.ownBlock]
  ·simp[Kind.fp,blk,Value.ownBlock]
 clear ho;go_enter Tryz.func170,Tryz.ntmps170
 go_wp2
 go_loopw[3,4] (fun v j wr=>∃ (k:Nat) (qs:List TxnQ),k≤ps.length∧j=.int .i64 k∧Hid (qs.map TxnQ.e=(ps.take k).map TxnQ.e)∧txnK.Own wr v qs∧Hid ((txnK.fp v qs).Nodup∧∀k∈txnK.fp v qs,w.heap.size≤k)∧Below w.heap.size w wr) (fun _ j _=>ps.length-(intOf j).toNat)
 case atStart=>exact⟨0,[],Nat.zero_le _,rfl,(rfl:_=_),ai,Y,ak⟩
 case round=>
  clear Y ai ak;obtain⟨k,qs,hk,rfl,HE,hO,HN,hb⟩:=hrel;obtain⟨sa,sc,rfl⟩:=hO.shape;have ad:Hid (qs.length=k):=by
   have:=congrArg List.length HE.out;rw[List.length_map,List.length_map,List.length_take]at this;show qs.length=k;omega
  by_cases N:k<ps.length
  ·obtain⟨b,aE,rfl,aG,hc,d⟩:=(h.below hb).cell (by decide) k N;have A:∀j x,(txnK.cells ps[k])[j]?=some x→wr.cell? ⟨b,aE+k*4+j,none⟩=some x:=hc;have c0:=A 0 (.int .i64 ps[k].i) rfl;have c1:=A 1 (.int .i64 ps[k].s) rfl;have c2:=A 2 (.int .i64 ps[k].q) rfl;have c3:=A 3 (ps[k].va) rfl;have W:=z1u TxnQ.n ps k N;have I:=ax _ (List.getElem_mem N);have Z:Hid (∀p':TxnQ,p'.e=TxnQ.e ps[k]→(qs++[p']).map TxnQ.e=(ps.take (k+1)).map TxnQ.e):=fun p' ay=>by
    rw[List.take_succ_eq_append_getElem N,List.map_append,List.map_append,HE.out,List.map_singleton,List.map_singleton,ay]
   clear hc A;generalize ps[k]=p at*;obtain⟨i,s,q,va,c⟩:=p;replace d:actK.At wr va c:=d;replace W:c.length≤nmL TxnQ.n ps:=W;obtain⟨aa,ac,rfl⟩:=d.shape;dsimp only at c0 c1 c2 c3 I;obtain⟨ab,ao,au⟩:∃ab ao,aa=some ⟨ab,ao,none⟩:=by
    rcases(z0T d).2 with h0|⟨ab,ao,e,_⟩
    ·have:=z0q c;rw[h0]at this;simp at this;omega
    ·exact⟨ab,ao,e⟩
   subst au;have ag:=z6k i s q ab ao ac c _ (z0T d).2 I (by omega);rw[Nat.add_zero]at c0;clear HE
   go_wp2_with fail
   clear c0 c1 c2 c3;have aF:w.heap.size≤wr.heap.size:=hb.size;refine ag.mono ?_;rintro e w2 ⟨a2,c2,rfl,am,L⟩;have X:=hO.lt;replace hO:=hO.below L;replace hb:=hb.trans (L.mono hb.size);obtain⟨o2,ah⟩:=z0u am;have hP:txnK.own w2 ⟨i,s,q,.slice a2 c.length c2,c⟩:=⟨o2,fun _ _=>trivial⟩
   have y:∀x∈txnK.foot ⟨i,s,q,.slice a2 c.length c2,c⟩,wr.heap.size≤x:=fun x hx=>ah x (by rw[←z03 (.slice a2 c.length c2) c];exact hx)
   have af:(txnK.foot ⟨i,s,q,.slice a2 c.length c2,c⟩).Nodup:=by
    show(actK.fp _ _).Nodup;rw[z03];exact z0r _
   have z:Below w2.heap.size w2 (w2.alloc (.cells #[.int .i64 i,.int .i64 s,.int .i64 q,.slice a2 c.length c2] 39)):=by go_grown
   have U:=hO.below z;have ae:=txnK.own_out (F:=[]) hP (Out.of_below z) (fun _ _=>by simp);have M:=hb.trans (z.mono hb.size);clear ag am hO hP ah;have J:=U.1
   go_wp2_with (at_builtin;refine wpList_append_own_at _ rfl _ _ 25 rfl 0 39 i0 (.agg #[.int .i64 0,.int .i64 0,.int .i64 0,.slice none 0 0]) 4 48 Tryz.underlying25 hi aB aC aD rfl (by decide) _ qs.length (txnK.row qs) rfl J ⟨w2.heap.size,0,none⟩ 1 1 [.int .i64 i,.int .i64 s,.int .i64 q,.slice a2 c.length c2] rfl rfl ?c1 ?c2 ?c3 ?c4 ?c5 ?_)
   all_goals try(case c1=>intro j u hj;match j,hj with|0,hj=>simp at hj;subst hj;simp[Addr.add]|1,hj=>simp at hj;subst hj;simp[Addr.add]|2,hj=>simp at hj;subst hj;simp[Addr.add]|3,hj=>simp at hj;subst hj;simp[Addr.add])
   all_goals try(case c2=>intro u hu;simp at hu;rcases hu with rfl|rfl|rfl|rfl<;>rfl)
   all_goals try(case c3=>have:=ad.out;unfold maxLen;omega)
   all_goals try(case c4=>have:=ad.out;omega)
   all_goals try(case c5=>first|omega|simp)
   intro v' w5 T C al V;clear al J;rw[show w2.heap.size+1=(w2.alloc (.cells #[.int .i64 i,.int .i64 s,.int .i64 q,.slice a2 c.length c2] 39)).heap.size from(World.size_alloc _ _).symm]at V;generalize az:w2.alloc (.cells #[.int .i64 i,.int .i64 s,.int .i64 q,.slice a2 c.length c2] 39)=WA at*;clear az;have aH:wr.heap.size≤WA.heap.size:=by have:=L.size;have:=z.size;omega
   obtain⟨ar,aj,O,an⟩:=U.snoc HN.out.1 HN.out.2 ae af (fun x hx aA=>by have:=X x aA;have:=y x hx;omega) (fun x hx=>by have:=y x hx;omega) M.size T C V;have av:Below w.heap.size w w5:=Out.keep M an M.size (fun x hx=>HN.out.2 x (by simp only[Kind.fp,List.mem_append];exact Or.inl hx));have ap:Hid ((qs++[(⟨i,s,q,.slice a2 c.length c2,c⟩:TxnQ)]).map TxnQ.e=(ps.take (k+1)).map TxnQ.e):=Z.out _ rfl;have aq:Hid ((txnK.fp v' (qs++[(⟨i,s,q,.slice a2 c.length c2,c⟩:TxnQ)])).Nodup∧∀k∈txnK.fp v' (qs++[(⟨i,s,q,.slice a2 c.length c2,c⟩:TxnQ)]),w.heap.size≤k):=⟨aj,O⟩
   clear Z HN X y af ae U M T C V an aj O d hb z L W I
   go_wp2
   go_roundw
   case rel=>exact⟨k+1,_,by omega,by go_num,ap,ar,aq,av⟩
   case measure=>simp[intOf];omega
  ·have aw:k=ps.length:=by omega
   subst aw;have hE:=HE.out;rw[List.take_length]at hE;clear HE
   go_wp2
   go_ret;exact⟨_,qs,rfl,hE,hO,HN.out.1,HN.out.2,hb⟩
def z0N(c:Int)(p:TxnQ):TxnQ:=⟨c,c+1,c+1+1,p.va,z20 (c+1+1+1) p.acts⟩
def nmTxn(p:TxnQ):Nat:=1+1+1+p.acts.length*3
theorem z2K(c:Int)(p:TxnQ):txnK.foot (z0N c p)=txnK.foot p:=by
 simp only[z0N,show∀p:TxnQ,txnK.foot p=actK.fp p.va p.acts from fun _=>rfl,z7K]
theorem z3Z(v:Value)(ps:List TxnQ)(c:Int)(w:World)(h:txnK.Own w v ps)(am:(txnK.fp v ps).Nodup)(hl:(ps.length+nmL TxnQ.n ps)≤1048576)(h0:0≤c)(h1:c+(nmL nmTxn ps:Int)≤1099511627776):
  Calls Tryz.prog 85 #[v,.int .i64 c] w fun e w'=>e=.returned (.int .i64 (c+(nmL nmTxn ps:Int)))∧txnK.Own w' v (mkL z0N nmTxn c ps)∧Out (txnK.fp v ps) w w':=by
 obtain⟨a,cap,rfl⟩:=h.shape;have V:∀k,k≤ps.length→txnK.fp (.slice a ps.length cap) (half z0N nmTxn c ps k)=txnK.fp (.slice a ps.length cap) ps:=fun k hk=>z6F z2K _ c ps k
 have HF:Hid (∀k,k≤ps.length→txnK.fp (.slice a ps.length cap) (half z0N nmTxn c ps k)=txnK.fp (.slice a ps.length cap) ps):=V;have HA:Hid (txnK.Own w (.slice a ps.length cap) (half z0N nmTxn c ps 0)):=by rw[z3u];exact h
 clear V h;go_enter Tryz.func85,Tryz.ntmps85
 go_wp2
 go_loopw[1,5] (fun j i wr=>∃k:Nat,k≤ps.length∧j=.int .i64 (c+(nmL nmTxn (ps.take k):Int))∧i=.int .i64 k∧Hid (txnK.Own wr (.slice a ps.length cap) (half z0N nmTxn c ps k))∧Hid (Out (txnK.fp (.slice a ps.length cap) ps) w wr)) (fun _ i _=>ps.length-(intOf i).toNat)
 case atStart=>exact⟨0,Nat.zero_le _,by simp[nmL],rfl,HA,Out.refl _ _⟩
 case round=>
  clear HA;obtain⟨k,hk,rfl,rfl,HO,HU⟩:=hrel;by_cases N:k<ps.length
  ·have aw:(half z0N nmTxn c ps k).length=ps.length:=z1C _ _ _ _ _ hk;have hO:=HO.out;obtain⟨g,rfl⟩:=hO.blkOf (by omega);have W:(txnK.fp (.slice (some ⟨g,0,none⟩) ps.length cap) (half z0N nmTxn c ps k)).Nodup:=by rw[HF.out k hk];exact am
   have Y:Hid (∀x∈txnK.foot ps[k],x∈txnK.fp (.slice (some ⟨g,0,none⟩) ps.length cap) ps):=fun x hx=>by
    simp only[Kind.fp,List.mem_append,List.mem_flatMap];exact Or.inr ⟨_,List.getElem_mem N,hx⟩
   have T:Hid (∀x∈[g],x∈txnK.fp (.slice (some ⟨g,0,none⟩) ps.length cap) ps):=fun x hx=>by
    simp only[List.mem_singleton]at hx;subst hx;simp[Kind.fp,blk,Value.ownBlock]
   have ae:k<(half z0N nmTxn c ps k).length:=by omega
   have M:=z4L z0N nmTxn c ps k N;have z:txnK.Own wr (.slice (some ⟨g,0,none⟩) ps.length cap) ((half z0N nmTxn c ps k).set k ps[k]):=by
    have e:(half z0N nmTxn c ps k).set k ps[k]=half z0N nmTxn c ps k:=by
     rw[←M,List.set_getElem_self]
    rw[e];exact hO
   have I:(txnK.fp (.slice (some ⟨g,0,none⟩) ps.length cap) ((half z0N nmTxn c ps k).set k ps[k])).Nodup:=by
    have e:(half z0N nmTxn c ps k).set k ps[k]=half z0N nmTxn c ps k:=by
     rw[←M,List.set_getElem_self]
    rw[e];exact W
   clear M hO W;have X:=z4M z0N nmTxn c ps k N;have ao:=z1g nmTxn ps k N;have ak:=z3t nmTxn ps (k+1);have aq:=z1u TxnQ.n ps k N;have ab:Hid ((nmL nmTxn (ps.take (k+1)):Int)=(nmL nmTxn (ps.take k):Int)+(nmTxn ps[k]:Int)):=show _=_ by omega
   have ap:(nmL nmTxn (ps.take k):Int)+(nmTxn ps[k]:Int)≤nmL nmTxn ps:=by omega
   have U:Hid ((half z0N nmTxn c ps k).set k (z0N (c+(nmL nmTxn (ps.take k):Int)) ps[k])=half z0N nmTxn c ps (k+1)):=X;clear X ao ak HO;generalize half z0N nmTxn c ps k=hs at*;generalize an:ps[k]=p at*;clear an;obtain⟨av,aa,O,A,d⟩:=p;have C:k<hs.length:=ae;dsimp only[nmTxn,TxnQ.n]at ab ap aq;generalize hy:(nmL nmTxn (ps.take k):Int)=y at*;have ax:0≤y:=by omega
   clear hy;obtain⟨c0,f0⟩:=z.cell' C 0 (.int .i64 av) rfl;obtain⟨c1,f1⟩:=z.cell' C 1 (.int .i64 aa) rfl;obtain⟨c2,f2⟩:=z.cell' C 2 (.int .i64 O) rfl;obtain⟨c3,f3⟩:=z.cell' C 3 (A) rfl;have c0:wr.cell? ⟨g,k*4,none⟩=_:=c0;have f0:wr.frozen? ⟨g,k*4,none⟩=_:=f0;have c1:wr.cell? ⟨g,k*4+1,none⟩=_:=c1;have f1:wr.frozen? ⟨g,k*4+1,none⟩=_:=f1;have c2:wr.cell? ⟨g,k*4+2,none⟩=_:=c2;have f2:wr.frozen? ⟨g,k*4+2,none⟩=_:=f2;have c3:wr.cell? ⟨g,k*4+3,none⟩=_:=c3;have f3:wr.frozen? ⟨g,k*4+3,none⟩=_:=f3;obtain⟨J,L⟩:=z.store' I C (⟨c+y,aa,O,A,d⟩:TxnQ) 0 (.int .i64 (c+y)) (by decide) rfl rfl (fun _ h=>h);have z:txnK.Own (wr.setCell ⟨g,k*4,none⟩ (.int .i64 (c+y))) (.slice (some ⟨g,0,none⟩) ps.length cap) (hs.set k (⟨c+y,aa,O,A,d⟩:TxnQ)):=J;have I:=L;obtain⟨J,L⟩:=z.store' I C (⟨c+y,c+y+1,O,A,d⟩:TxnQ) 1 (.int .i64 (c+y+1)) (by decide) rfl rfl (fun _ h=>h);have z:txnK.Own ((wr.setCell ⟨g,k*4,none⟩ (.int .i64 (c+y))).setCell ⟨g,k*4+1,none⟩ (.int .i64 (c+y+1))) (.slice (some ⟨g,0,none⟩) ps.length cap) (hs.set k (⟨c+y,c+y+1,O,A,d⟩:TxnQ)):=J;have I:=L;obtain⟨J,L⟩:=z.store' I C (⟨c+y,c+y+1,c+y+1+1,A,d⟩:TxnQ) 2 (.int .i64 (c+y+1+1)) (by decide) rfl rfl (fun _ h=>h);have z:txnK.Own (((wr.setCell ⟨g,k*4,none⟩ (.int .i64 (c+y))).setCell ⟨g,k*4+1,none⟩ (.int .i64 (c+y+1))).setCell ⟨g,k*4+2,none⟩ (.int .i64 (c+y+1+1))) (.slice (some ⟨g,0,none⟩) ps.length cap) (hs.set k (⟨c+y,c+y+1,c+y+1+1,A,d⟩:TxnQ)):=J;have I:=L;have HU:Hid (Out (txnK.fp (.slice (some ⟨g,0,none⟩) ps.length cap) ps) w (((wr.setCell ⟨g,k*4,none⟩ (.int .i64 (c+y))).setCell ⟨g,k*4+1,none⟩ (.int .i64 (c+y+1))).setCell ⟨g,k*4+2,none⟩ (.int .i64 (c+y+1+1)))):=(((HU.out.trans ((Out.setCell _ g (k*4) (.int .i64 (c+y))).mono T.out)).trans ((Out.setCell _ g (k*4+1) (.int .i64 (c+y+1))).mono T.out)).trans ((Out.setCell _ g (k*4+2) (.int .i64 (c+y+1+1))).mono T.out))
   have ad:=z.elem' C;have Z:actK.Own (((wr.setCell ⟨g,k*4,none⟩ (.int .i64 (c+y))).setCell ⟨g,k*4+1,none⟩ (.int .i64 (c+y+1))).setCell ⟨g,k*4+2,none⟩ (.int .i64 (c+y+1+1))) A d:=ad;have af:=q0f A d (c+y+1+1+1) _ Z (by omega) (by omega) (by omega);obtain⟨ar,au,ah⟩:=Z.shape;subst ah;clear ad Z
   go_wp2_with fail
   refine af.mono ?_;rintro e ai ⟨rfl,al,ag⟩;clear af;obtain⟨J,L⟩:=z.turn' I C (⟨c+y,c+y+1,c+y+1+1,.slice ar d.length au,z20 (c+y+1+1+1) d⟩:TxnQ) ag (fun x hx=>hx) rfl (by exact z7K _ _ _) (al);have HU:Hid (Out (txnK.fp (.slice (some ⟨g,0,none⟩) ps.length cap) ps) w ai):=HU.out.trans (ag.mono (fun x hx=>Y.out x (show x∈txnK.foot _ from(fun x hx=>hx) x hx)));have z:=J;have I:=L;have R:Hid (txnK.Own ai (.slice (some ⟨g,0,none⟩) ps.length cap) (half z0N nmTxn c ps (k+1))):=by rw[←U.out];exact z
   clear z I U Y T
   go_wp2
   go_roundw
   case rel=>exact⟨k+1,by omega,by rw[ab.out];congr 1;omega,by go_num,R.out,HU.out⟩
   case measure=>simp[intOf];omega
  ·have aj:k=ps.length:=by omega
   subst aj;have hO:=HO.out;rw[z4K]at hO;rw[List.take_length];clear HF HO
   go_wp2
   go_ret;exact⟨rfl,hO,HU.out⟩
theorem z6q(v:Value)(ps:List TxnQ)(c:Int)(w:World)(h:txnK.At w v (mkL z0N nmTxn c ps))(hl:(ps.length+nmL TxnQ.n ps)≤1048576)(h0:0≤c)(h1:c+(nmL nmTxn ps:Int)≤1099511627776):
  Calls Tryz.prog 197 #[v,.int .i64 c] w fun e w'=>e=.returned (.int .i64 (c+(nmL nmTxn ps:Int)))∧Below w.heap.size w w':=by
 obtain⟨a,cap,rfl⟩:=h.shape;have I:=z1o z0N nmTxn c ps;rw[I]at h⊢;have HM:Hid ((mkL z0N nmTxn c ps).length=ps.length):=I;clear I;go_enter Tryz.func197,Tryz.ntmps197
 go_wp2
 go_loopw[1,5] (fun j i wr=>∃k:Nat,k≤ps.length∧j=.int .i64 (c+(nmL nmTxn (ps.take k):Int))∧i=.int .i64 k∧Below w.heap.size w wr) (fun _ i _=>ps.length-(intOf i).toNat)
 case atStart=>exact⟨0,Nat.zero_le _,by simp[nmL],rfl,Below.refl _ _⟩
 case round=>
  obtain⟨k,hk,rfl,rfl,hb⟩:=hrel;by_cases C:k<ps.length
  ·have N:k<(mkL z0N nmTxn c ps).length:=by have:=HM.out;omega
   obtain⟨b,aa,rfl,af,hc,O⟩:=(h.below hb).cell (by decide) k N;rw[z8O z0N nmTxn c ps k C]at hc O;have X:=z1g nmTxn ps k C;have V:=z3t nmTxn ps (k+1);have Z:=z1u TxnQ.n ps k C;have J:Hid ((nmL nmTxn (ps.take (k+1)):Int)=(nmL nmTxn (ps.take k):Int)+(nmTxn ps[k]:Int)):=show _=_ by omega
   have Y:(nmL nmTxn (ps.take k):Int)+(nmTxn ps[k]:Int)≤nmL nmTxn ps:=by omega
   clear X V h;generalize W:ps[k]=p at*;clear W;obtain⟨ab,ae,ad,z,d⟩:=p;dsimp only[nmTxn,TxnQ.n]at J Y Z;generalize hy:(nmL nmTxn (ps.take k):Int)=y at*;have ag:0≤y:=by omega
   clear hy;have A:∀j x,(txnK.cells (z0N (c+y) (⟨ab,ae,ad,z,d⟩:TxnQ)))[j]?=some x→wr.cell? ⟨b,aa+k*4+j,none⟩=some x:=hc;clear hc;have c0:=A 0 (.int .i64 (c+y)) rfl;have c1:=A 1 (.int .i64 (c+y+1)) rfl;have c2:=A 2 (.int .i64 (c+y+1+1)) rfl;have c3:=A 3 (z) rfl;have r3:actK.At wr z (z20 (c+y+1+1+1) d):=O;have M:=fun w h=>q0g z d (c+y+1+1+1) w h (by omega) (by omega) (by omega)
   obtain⟨ai,aj,T⟩:=r3.shape;subst T;rw[Nat.add_zero]at c0;clear A;have ah:¬(c+y+1+1+1+((d.length*3:Nat):Int)<0):=by omega
   go_wp2_with fail
   refine(M wr r3).mono ?_;rintro e w3 ⟨rfl,L⟩;replace hb:=hb.trans (L.mono hb.size);clear L M c0 c1 c2 c3
   go_wp2
   go_roundw
   case rel=>exact⟨k+1,by omega,by rw[J.out];congr 1;omega,by go_num,hb⟩
   case measure=>simp[intOf];omega
  ·have U:k=ps.length:=by omega
   subst U;rw[List.take_length]
   go_wp2
   go_ret;exact⟨rfl,hb⟩
theorem z4V{A B:List Nat}(h:(A++B).Nodup):∀k∈B,k∉A:=fun k hk hk2=>(List.nodup_append.1 h).2.2 k hk2 k hk rfl
theorem z67{A B:List Nat}(h:(A++B).Nodup):∀k∈A,k∉B:=fun k hk hk2=>(List.nodup_append.1 h).2.2 k hk k hk2 rfl
theorem z0X{P:Type}{K:Kind P}{v:Value}{hs:List P}{k:Nat}{p:P}(h:(K.fp v (hs.set k p)).Nodup)(hk:k<hs.length):(K.foot p).Nodup:=by
 have h2:=(List.nodup_append.1 h).2.1;rw[z7H hs k hk p]at h2;simp only[List.flatMap_append,List.flatMap_cons]at h2;exact(List.nodup_append.1 (List.nodup_append.1 h2).2.1).1
def z0y(c:Int)(p:RoundQ):RoundQ:=⟨p.vr,z2r (c) p.rep,p.vp,z2r (c+((p.rep.length:Nat):Int)) p.pro⟩
def nmRound(p:RoundQ):Nat:=p.rep.length+p.pro.length
theorem z4r(c:Int)(p:RoundQ):roundK.foot (z0y c p)=roundK.foot p:=by
 simp only[z0y,show∀p:RoundQ,roundK.foot p=intK.fp p.vr p.rep++intK.fp p.vp p.pro from fun _=>rfl,z1t,z1t]
theorem z8b(v:Value)(ps:List RoundQ)(c:Int)(w:World)(h:roundK.Own w v ps)(aw:(roundK.fp v ps).Nodup)(hl:(ps.length+nmL RoundQ.n ps)≤1048576)(h0:0≤c)(h1:c+(nmL nmRound ps:Int)≤1099511627776):
  Calls Tryz.prog 86 #[v,.int .i64 c] w fun e w'=>e=.returned (.int .i64 (c+(nmL nmRound ps:Int)))∧roundK.Own w' v (mkL z0y nmRound c ps)∧Out (roundK.fp v ps) w w':=by
 obtain⟨a,cap,rfl⟩:=h.shape;have W:∀k,k≤ps.length→roundK.fp (.slice a ps.length cap) (half z0y nmRound c ps k)=roundK.fp (.slice a ps.length cap) ps:=fun k hk=>z6F z4r _ c ps k
 have HF:Hid (∀k,k≤ps.length→roundK.fp (.slice a ps.length cap) (half z0y nmRound c ps k)=roundK.fp (.slice a ps.length cap) ps):=W;have HA:Hid (roundK.Own w (.slice a ps.length cap) (half z0y nmRound c ps 0)):=by rw[z3u];exact h
 clear W h;go_enter Tryz.func86,Tryz.ntmps86
 go_wp2
 go_loopw[1,5] (fun j i wr=>∃k:Nat,k≤ps.length∧j=.int .i64 (c+(nmL nmRound (ps.take k):Int))∧i=.int .i64 k∧Hid (roundK.Own wr (.slice a ps.length cap) (half z0y nmRound c ps k))∧Hid (Out (roundK.fp (.slice a ps.length cap) ps) w wr)) (fun _ i _=>ps.length-(intOf i).toNat)
 case atStart=>exact⟨0,Nat.zero_le _,by simp[nmL],rfl,HA,Out.refl _ _⟩
 case round=>
  clear HA;obtain⟨k,hk,rfl,rfl,HO,HU⟩:=hrel;by_cases M:k<ps.length
  ·have aD:(half z0y nmRound c ps k).length=ps.length:=z1C _ _ _ _ _ hk;have hO:=HO.out;obtain⟨g,rfl⟩:=hO.blkOf (by omega);have X:(roundK.fp (.slice (some ⟨g,0,none⟩) ps.length cap) (half z0y nmRound c ps k)).Nodup:=by rw[HF.out k hk];exact aw
   have O:Hid (∀x∈roundK.foot ps[k],x∈roundK.fp (.slice (some ⟨g,0,none⟩) ps.length cap) ps):=fun x hx=>by
    simp only[Kind.fp,List.mem_append,List.mem_flatMap];exact Or.inr ⟨_,List.getElem_mem M,hx⟩
   have ap:Hid (∀x∈[g],x∈roundK.fp (.slice (some ⟨g,0,none⟩) ps.length cap) ps):=fun x hx=>by
    simp only[List.mem_singleton]at hx;subst hx;simp[Kind.fp,blk,Value.ownBlock]
   have aj:k<(half z0y nmRound c ps k).length:=by omega
   have L:=z4L z0y nmRound c ps k M;have z:roundK.Own wr (.slice (some ⟨g,0,none⟩) ps.length cap) ((half z0y nmRound c ps k).set k ps[k]):=by
    have e:(half z0y nmRound c ps k).set k ps[k]=half z0y nmRound c ps k:=by
     rw[←L,List.set_getElem_self]
    rw[e];exact hO
   have I:(roundK.fp (.slice (some ⟨g,0,none⟩) ps.length cap) ((half z0y nmRound c ps k).set k ps[k])).Nodup:=by
    have e:(half z0y nmRound c ps k).set k ps[k]=half z0y nmRound c ps k:=by
     rw[←L,List.set_getElem_self]
    rw[e];exact X
   clear L hO X;have Y:=z4M z0y nmRound c ps k M;have ay:=z1g nmRound ps k M;have ar:=z3t nmRound ps (k+1);have aA:=z1u RoundQ.n ps k M;have ag:Hid ((nmL nmRound (ps.take (k+1)):Int)=(nmL nmRound (ps.take k):Int)+(nmRound ps[k]:Int)):=show _=_ by omega
   have az:(nmL nmRound (ps.take k):Int)+(nmRound ps[k]:Int)≤nmL nmRound ps:=by omega
   have V:Hid ((half z0y nmRound c ps k).set k (z0y (c+(nmL nmRound (ps.take k):Int)) ps[k])=half z0y nmRound c ps (k+1)):=Y;clear Y ay ar HO;generalize half z0y nmRound c ps k=hs at*;generalize ax:ps[k]=p at*;clear ax;obtain⟨T,d,J,A⟩:=p;have C:k<hs.length:=aj;dsimp only[nmRound,RoundQ.n]at ag az aA;generalize hy:(nmL nmRound (ps.take k):Int)=y at*;have aE:0≤y:=by omega
   clear hy;obtain⟨c0,f0⟩:=z.cell' C 0 (T) rfl;have c0:wr.cell? ⟨g,k*2,none⟩=_:=c0;have f0:wr.frozen? ⟨g,k*2,none⟩=_:=f0;have ah:=z.elem' C;have aa:intK.Own wr T d:=ah.1;have N:=z3U T d (c+y) _ aa (by omega) (by omega) (by omega);obtain⟨am,an,ak⟩:=aa.shape;subst ak;clear ah aa
   go_wp2_with fail
   refine N.mono ?_;rintro e U ⟨rfl,au,ae⟩;clear N;obtain⟨Z,ad⟩:=z.turn' I C (⟨.slice am d.length an,z2r (c+y) d,J,A⟩:RoundQ) ae (fun x hx=>List.mem_append_left _ hx) rfl (by simp only[show∀p:RoundQ,roundK.foot p=intK.fp p.vr p.rep++intK.fp p.vp p.pro from fun _=>rfl,z1t]) (⟨au,(z.elem' C).2.out ae (z4V (z0X I C))⟩);have HU:Hid (Out (roundK.fp (.slice (some ⟨g,0,none⟩) ps.length cap) ps) w U):=HU.out.trans (ae.mono (fun x hx=>O.out x (show x∈roundK.foot _ from(fun x hx=>List.mem_append_left _ hx) x hx)));have z:=Z;have I:=ad;obtain⟨c1,f1⟩:=z.cell' C 1 (J) rfl;have c1:U.cell? ⟨g,k*2+1,none⟩=_:=c1;have f1:U.frozen? ⟨g,k*2+1,none⟩=_:=f1;have ai:=z.elem' C;have ab:intK.Own U J A:=ai.2;have N:=z3U J A (c+y+((d.length:Nat):Int)) _ ab (by omega) (by omega) (by omega);obtain⟨aB,aC,al⟩:=ab.shape;subst al;clear ai ab
   go_wp2_with fail
   refine N.mono ?_;rintro e ao ⟨rfl,av,af⟩;clear N;obtain⟨Z,ad⟩:=z.turn' I C (⟨.slice am d.length an,z2r (c+y) d,.slice aB A.length aC,z2r (c+y+((d.length:Nat):Int)) A⟩:RoundQ) af (fun x hx=>List.mem_append_right _ (hx)) rfl (by simp only[show∀p:RoundQ,roundK.foot p=intK.fp p.vr p.rep++intK.fp p.vp p.pro from fun _=>rfl,z1t]) (⟨(z.elem' C).1.out af (z67 (z0X I C)),av⟩);have HU:Hid (Out (roundK.fp (.slice (some ⟨g,0,none⟩) ps.length cap) ps) w ao):=HU.out.trans (af.mono (fun x hx=>O.out x (show x∈roundK.foot _ from(fun x hx=>List.mem_append_right _ (hx)) x hx)));have z:=Z;have I:=ad;have R:Hid (roundK.Own ao (.slice (some ⟨g,0,none⟩) ps.length cap) (half z0y nmRound c ps (k+1))):=by rw[←V.out];exact z
   clear z I V O ap
   go_wp2
   go_roundw
   case rel=>exact⟨k+1,by omega,by rw[ag.out];congr 1;omega,by go_num,R.out,HU.out⟩
   case measure=>simp[intOf];omega
  ·have aq:k=ps.length:=by omega
   subst aq;have hO:=HO.out;rw[z4K]at hO;rw[List.take_length];clear HF HO
   go_wp2
   go_ret;exact⟨rfl,hO,HU.out⟩
theorem q3a(ps:List TxnQ):nmL nmTxn ps≤3*(ps.length+nmL TxnQ.n ps):=by
 induction ps with
 |nil=>simp[nmL]
 |cons p r ih=>
  simp only[nmL,List.map_cons,List.sum_cons,List.length_cons]at ih⊢;simp only[nmTxn,TxnQ.n]at ih⊢;omega
theorem q0w(ps:List RoundQ):nmL nmRound ps≤nmL RoundQ.n ps:=by
 induction ps with
 |nil=>simp[nmL]
 |cons p r ih=>
  simp only[nmL,List.map_cons,List.sum_cons]at ih⊢;simp only[nmRound,RoundQ.n]at ih⊢;omega
theorem q5l{q p:InstQ}(h:q.e=p.e):q.n=p.n:=by
 simp only[InstQ.e,InstE.mk.injEq]at h;obtain⟨_,h1,h2,h3⟩:=h;have t1:q.batch.length=p.batch.length:=by simpa using congrArg List.length h1
 have t2:nmL TxnQ.n q.batch=nmL TxnQ.n p.batch:=by
  have:=congrArg (fun l=>nmL (fun d:TxnD=>d.acts.length) l) h1;simp only[nmL,List.map_map]at this;exact this
 have t3:q.rounds.length=p.rounds.length:=by simpa using congrArg List.length h2
 have t4:nmL RoundQ.n q.rounds=nmL RoundQ.n p.rounds:=by
  have:=congrArg (fun l=>nmL (fun d:RoundE=>d.rep.length+d.pro.length) l) h2;simp only[nmL,List.map_map]at this;exact this
 unfold InstQ.n;rw[t1,t2,t3,t4,h3]
theorem q3b(i s q:Int):txnF i s q []≠0:=by
 unfold txnF;split<;>simp
theorem q4z{bt:List TxnQ}(h:batF (bt.map TxnQ.e)=0):∀p∈bt,0<p.acts.length:=by
 intro p hp;have ha:allF (bt.map TxnQ.e)=0:=by
  unfold batF at h;split at h
  ·omega
  ·split at h
   ·assumption
   ·exact h
 have hz:∀ (ds:List TxnD),allF ds=0→∀d∈ds,d.F=0:=by
  intro ds;induction ds with
  |nil=>intro _ d hd;simp at hd
  |cons x r ih=>
   intro h d hd;simp only[allF]at h;by_cases hx:x.F=0
   ·rw[if_pos hx]at h;rcases List.mem_cons.1 hd with rfl|hd
    ·exact hx
    ·exact ih h d hd
   ·rw[if_neg hx]at h;exact absurd h hx
 have hf:=hz _ ha p.e (List.mem_map.2 ⟨p,hp,rfl⟩);show 0<p.acts.length;have hf':txnF p.i p.s p.q p.acts=0:=hf;rcases Nat.eq_zero_or_pos p.acts.length with h0|h0
 ·exfalso
  have:p.acts=[]:=List.eq_nil_of_length_eq_zero h0;rw[this]at hf';exact q3b _ _ _ hf'
 ·exact h0
theorem q4A{p:InstQ}(h:insF p.e=0):(∀t∈p.batch,0<t.acts.length)∧(∀r∈p.rounds,0<r.rep.length∧0<r.pro.length)∧0<p.dec.length:=by
 obtain⟨h1,h2,h3,_,h5⟩:=q1N h;obtain⟨h6,_⟩:=z2a h;obtain⟨_,_,_,h7,h8⟩:=z1q h6;refine⟨?_,fun r hr=>?_,by have:p.dec.length=3:=h3;omega⟩
 ·cases hh:p.has with
  |true=>exact q4z (h8 hh)
  |false=>
   have:p.batch.map TxnQ.e=[]:=h7 hh;intro t ht;have:p.batch=[]:=List.map_eq_nil_iff.1 this;rw[this]at ht;simp at ht
 ·have:=h1 (RoundQ.e r) (List.mem_map.2 ⟨r,hr,rfl⟩);have h9:r.rep.length=3∧r.pro.length=3:=this;omega
abbrev z8c(c:Int)(ps:List TxnQ):List TxnQ:=mkL z0N nmTxn c ps
abbrev z4W(c:Int)(ps:List RoundQ):List RoundQ:=mkL z0y nmRound c ps
theorem z3I(v:Value)(c:Int)(ps:List TxnQ):txnK.fp v (z8c c ps)=txnK.fp v ps:=z7I z2K _ _ _
theorem z2f(v:Value)(c:Int)(ps:List RoundQ):roundK.fp v (z4W c ps)=roundK.fp v ps:=z7I z4r _ _ _
def z06(c:Int)(p:InstQ):InstQ:=⟨((c) % 3==0),p.vb,z8c (c+1) p.batch,p.vr,z4W (c+1+((nmL nmTxn p.batch:Nat):Int)) p.rounds,p.vd,z2r (c+1+((nmL nmTxn p.batch:Nat):Int)+((nmL nmRound p.rounds:Nat):Int)) p.dec⟩
def nmInsS(p:InstQ):Nat:=1+nmL nmTxn p.batch+nmL nmRound p.rounds+p.dec.length
theorem z9c(c:Int)(p:InstQ):instK.foot (z06 c p)=instK.foot p:=by
 simp only[z06,show∀p:InstQ,instK.foot p=txnK.fp p.vb p.batch++(roundK.fp p.vr p.rounds++intK.fp p.vd p.dec)from fun _=>rfl,z3I,z2f,z1t]
theorem z5p(v:Value)(ps:List InstQ)(c:Int)(w:World)(h:instK.Own w v ps)(aI:(instK.fp v ps).Nodup)(hl:(ps.length+nmL InstQ.n ps)≤1048576)(h0:0≤c)(h1:c+(nmL nmInsS ps:Int)≤1099511627776):
  Calls Tryz.prog 42 #[v,.int .i64 c] w fun e w'=>e=.returned (.int .i64 (c+(nmL nmInsS ps:Int)))∧instK.Own w' v (mkL z06 nmInsS c ps)∧Out (instK.fp v ps) w w':=by
 obtain⟨a,cap,rfl⟩:=h.shape;have af:∀k,k≤ps.length→instK.fp (.slice a ps.length cap) (half z06 nmInsS c ps k)=instK.fp (.slice a ps.length cap) ps:=fun k hk=>z6F z9c _ c ps k
 have HF:Hid (∀k,k≤ps.length→instK.fp (.slice a ps.length cap) (half z06 nmInsS c ps k)=instK.fp (.slice a ps.length cap) ps):=af;have HA:Hid (instK.Own w (.slice a ps.length cap) (half z06 nmInsS c ps 0)):=by rw[z3u];exact h
 clear af h;go_enter Tryz.func42,Tryz.ntmps42
 go_wp2
 go_loopw[1,5] (fun j i wr=>∃k:Nat,k≤ps.length∧j=.int .i64 (c+(nmL nmInsS (ps.take k):Int))∧i=.int .i64 k∧Hid (instK.Own wr (.slice a ps.length cap) (half z06 nmInsS c ps k))∧Hid (Out (instK.fp (.slice a ps.length cap) ps) w wr)) (fun _ i _=>ps.length-(intOf i).toNat)
 case atStart=>exact⟨0,Nat.zero_le _,by simp[nmL],rfl,HA,Out.refl _ _⟩
 case round=>
  clear HA;obtain⟨k,hk,rfl,rfl,HO,HU⟩:=hrel;by_cases X:k<ps.length
  ·have aP:(half z06 nmInsS c ps k).length=ps.length:=z1C _ _ _ _ _ hk;have hO:=HO.out;obtain⟨g,rfl⟩:=hO.blkOf (by omega);have ag:(instK.fp (.slice (some ⟨g,0,none⟩) ps.length cap) (half z06 nmInsS c ps k)).Nodup:=by rw[HF.out k hk];exact aI
   have V:Hid (∀x∈instK.foot ps[k],x∈instK.fp (.slice (some ⟨g,0,none⟩) ps.length cap) ps):=fun x hx=>by
    simp only[Kind.fp,List.mem_append,List.mem_flatMap];exact Or.inr ⟨_,List.getElem_mem X,hx⟩
   have av:Hid (∀x∈[g],x∈instK.fp (.slice (some ⟨g,0,none⟩) ps.length cap) ps):=fun x hx=>by
    simp only[List.mem_singleton]at hx;subst hx;simp[Kind.fp,blk,Value.ownBlock]
   have aw:k<(half z06 nmInsS c ps k).length:=by omega
   have W:=z4L z06 nmInsS c ps k X;have C:instK.Own wr (.slice (some ⟨g,0,none⟩) ps.length cap) ((half z06 nmInsS c ps k).set k ps[k]):=by
    have e:(half z06 nmInsS c ps k).set k ps[k]=half z06 nmInsS c ps k:=by
     rw[←W,List.set_getElem_self]
    rw[e];exact hO
   have J:(instK.fp (.slice (some ⟨g,0,none⟩) ps.length cap) ((half z06 nmInsS c ps k).set k ps[k])).Nodup:=by
    have e:(half z06 nmInsS c ps k).set k ps[k]=half z06 nmInsS c ps k:=by
     rw[←W,List.set_getElem_self]
    rw[e];exact ag
   clear W hO ag;have ah:=z4M z06 nmInsS c ps k X;have aK:=z1g nmInsS ps k X;have aE:=z3t nmInsS ps (k+1);have aM:=z1u InstQ.n ps k X;have ap:Hid ((nmL nmInsS (ps.take (k+1)):Int)=(nmL nmInsS (ps.take k):Int)+(nmInsS ps[k]:Int)):=show _=_ by omega
   have aL:(nmL nmInsS (ps.take k):Int)+(nmInsS ps[k]:Int)≤nmL nmInsS ps:=by omega
   have ae:Hid ((half z06 nmInsS c ps k).set k (z06 (c+(nmL nmInsS (ps.take k):Int)) ps[k])=half z06 nmInsS c ps (k+1)):=ah;clear ah aK aE HO;generalize half z06 nmInsS c ps k=hs at*;generalize aJ:ps[k]=p at*;clear aJ;obtain⟨ao,O,d,M,z,L,I⟩:=p;have A:k<hs.length:=aw;dsimp only[nmInsS,InstQ.n]at ap aL aM;generalize hy:(nmL nmInsS (ps.take k):Int)=y at*;have aQ:0≤y:=by omega
   clear hy;obtain⟨c0,f0⟩:=C.cell' A 0 (.bool ao) rfl;obtain⟨c1,f1⟩:=C.cell' A 1 (O) rfl;have c0:wr.cell? ⟨g,k*4,none⟩=_:=c0;have f0:wr.frozen? ⟨g,k*4,none⟩=_:=f0;have c1:wr.cell? ⟨g,k*4+1,none⟩=_:=c1;have f1:wr.frozen? ⟨g,k*4+1,none⟩=_:=f1;obtain⟨T,U⟩:=C.store' J A (⟨((c+y) % 3==0),O,d,M,z,L,I⟩:InstQ) 0 (.bool ((c+y) % 3==0)) (by decide) rfl rfl (fun _ h=>h);have C:instK.Own (wr.setCell ⟨g,k*4,none⟩ (.bool ((c+y) % 3==0))) (.slice (some ⟨g,0,none⟩) ps.length cap) (hs.set k (⟨((c+y) % 3==0),O,d,M,z,L,I⟩:InstQ)):=T;have J:=U;have HU:Hid (Out (instK.fp (.slice (some ⟨g,0,none⟩) ps.length cap) ps) w (wr.setCell ⟨g,k*4,none⟩ (.bool ((c+y) % 3==0)))):=(HU.out.trans ((Out.setCell _ g (k*4) (.bool ((c+y) % 3==0))).mono av.out))
   have aq:=C.elem' A;have aj:txnK.Own (wr.setCell ⟨g,k*4,none⟩ (.bool ((c+y) % 3==0))) O d:=aq.1;have N:=z3Z O d (c+y+1) _ aj (List.nodup_append.1 (z0X J A)).1 (by omega) (by omega) (by omega);obtain⟨am,an,ax⟩:=aj.shape;subst ax;clear aq aj
   go_wp2_with fail
   refine N.mono ?_;rintro e ab ⟨rfl,aF,Y⟩;clear N;obtain⟨T,U⟩:=C.turn' J A (⟨((c+y) % 3==0),.slice am d.length an,z8c (c+y+1) d,M,z,L,I⟩:InstQ) Y (fun x hx=>List.mem_append_left _ hx) rfl (by simp only[show∀p:InstQ,instK.foot p=txnK.fp p.vb p.batch++(roundK.fp p.vr p.rounds++intK.fp p.vd p.dec)from fun _=>rfl,z3I,z2f,z1t]) (⟨aF,(C.elem' A).2.1.out Y (fun k hk=>z4V (z0X J A) k (List.mem_append_left _ hk)),(C.elem' A).2.2.out Y (fun k hk=>z4V (z0X J A) k (List.mem_append_right _ hk))⟩);have HU:Hid (Out (instK.fp (.slice (some ⟨g,0,none⟩) ps.length cap) ps) w ab):=HU.out.trans (Y.mono (fun x hx=>V.out x (show x∈instK.foot _ from(fun x hx=>List.mem_append_left _ hx) x hx)));have C:=T;have J:=U;obtain⟨c2,f2⟩:=C.cell' A 2 (M) rfl;have c2:ab.cell? ⟨g,k*4+2,none⟩=_:=c2;have f2:ab.frozen? ⟨g,k*4+2,none⟩=_:=f2;have ar:=C.elem' A;have ak:roundK.Own ab M z:=ar.2.1;have N:=z8b M z (c+y+1+((nmL nmTxn d:Nat):Int)) _ ak (List.nodup_append.1 (List.nodup_append.1 (z0X J A)).2.1).1 (by omega) (by omega) (by omega);obtain⟨aA,aB,ay⟩:=ak.shape;subst ay;clear ar ak
   go_wp2_with fail
   refine N.mono ?_;rintro e ad ⟨rfl,aG,Z⟩;clear N;obtain⟨T,U⟩:=C.turn' J A (⟨((c+y) % 3==0),.slice am d.length an,z8c (c+y+1) d,.slice aA z.length aB,z4W (c+y+1+((nmL nmTxn d:Nat):Int)) z,L,I⟩:InstQ) Z (fun x hx=>List.mem_append_right _ (List.mem_append_left _ hx)) rfl (by simp only[show∀p:InstQ,instK.foot p=txnK.fp p.vb p.batch++(roundK.fp p.vr p.rounds++intK.fp p.vd p.dec)from fun _=>rfl,z3I,z2f,z1t]) (⟨(C.elem' A).1.out Z (fun k hk ai=>z67 (z0X J A) k hk (List.mem_append_left _ ai)),aG,(C.elem' A).2.2.out Z (z4V (List.nodup_append.1 (z0X J A)).2.1)⟩);have HU:Hid (Out (instK.fp (.slice (some ⟨g,0,none⟩) ps.length cap) ps) w ad):=HU.out.trans (Z.mono (fun x hx=>V.out x (show x∈instK.foot _ from(fun x hx=>List.mem_append_right _ (List.mem_append_left _ hx)) x hx)));have C:=T;have J:=U;obtain⟨c3,f3⟩:=C.cell' A 3 (L) rfl;have c3:ad.cell? ⟨g,k*4+3,none⟩=_:=c3;have f3:ad.frozen? ⟨g,k*4+3,none⟩=_:=f3;have au:=C.elem' A;have al:intK.Own ad L I:=au.2.2;have N:=z3U L I (c+y+1+((nmL nmTxn d:Nat):Int)+((nmL nmRound z:Nat):Int)) _ al (by omega) (by omega) (by omega);obtain⟨aN,aO,az⟩:=al.shape;subst az;clear au al
   go_wp2_with fail
   refine N.mono ?_;rintro e aC ⟨rfl,aH,aa⟩;clear N;obtain⟨T,U⟩:=C.turn' J A (⟨((c+y) % 3==0),.slice am d.length an,z8c (c+y+1) d,.slice aA z.length aB,z4W (c+y+1+((nmL nmTxn d:Nat):Int)) z,.slice aN I.length aO,z2r (c+y+1+((nmL nmTxn d:Nat):Int)+((nmL nmRound z:Nat):Int)) I⟩:InstQ) aa (fun x hx=>List.mem_append_right _ (List.mem_append_right _ (hx))) rfl (by simp only[show∀p:InstQ,instK.foot p=txnK.fp p.vb p.batch++(roundK.fp p.vr p.rounds++intK.fp p.vd p.dec)from fun _=>rfl,z3I,z2f,z1t]) (⟨(C.elem' A).1.out aa (fun k hk ai=>z67 (z0X J A) k hk (List.mem_append_right _ ai)),(C.elem' A).2.1.out aa (z67 (List.nodup_append.1 (z0X J A)).2.1),aH⟩);have HU:Hid (Out (instK.fp (.slice (some ⟨g,0,none⟩) ps.length cap) ps) w aC):=HU.out.trans (aa.mono (fun x hx=>V.out x (show x∈instK.foot _ from(fun x hx=>List.mem_append_right _ (List.mem_append_right _ (hx))) x hx)));have C:=T;have J:=U;have R:Hid (instK.Own aC (.slice (some ⟨g,0,none⟩) ps.length cap) (half z06 nmInsS c ps (k+1))):=by rw[←ae.out];exact C
   clear C J ae V av
   go_wp2
   go_roundw
   case rel=>exact⟨k+1,by omega,by rw[ap.out];congr 1;omega,by go_num,R.out,HU.out⟩
   case measure=>simp[intOf];omega
  ·have aD:k=ps.length:=by omega
   subst aD;have hO:=HO.out;rw[z4K]at hO;rw[List.take_length];clear HF HO
   go_wp2
   go_ret;exact⟨rfl,hO,HU.out⟩
theorem q1Q(ps:List InstQ):nmL nmInsS ps≤3*(ps.length+nmL InstQ.n ps):=by
 induction ps with
 |nil=>simp[nmL]
 |cons p r ih=>
  have h1:=q3a p.batch;have h2:=q0w p.rounds;simp only[nmL,List.map_cons,List.sum_cons,List.length_cons]at ih⊢;simp only[nmInsS,InstQ.n]at ih⊢;simp only[nmL]at h1 h2 ih⊢;omega
theorem q4B{qs ps:List InstQ}(h:qs.map InstQ.e=ps.map InstQ.e):qs.length+nmL InstQ.n qs=ps.length+nmL InstQ.n ps:=by
 induction qs generalizing ps with
 |nil=>
  cases ps with
  |nil=>rfl
  |cons p r=>simp at h
 |cons q s ih=>
  cases ps with
  |nil=>simp at h
  |cons p r=>
   simp only[List.map_cons,List.cons.injEq]at h;have h1:=q5l h.1;have h2:=ih h.2;simp only[nmL,List.map_cons,List.sum_cons,List.length_cons]at h2⊢;omega
end Go.Proofs.YtlkpdgjnhkjpjaaGreatDoor
