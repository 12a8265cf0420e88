import Derived.Test.YtlkpdgjnhkjpjaaGreatDoorSUAM
set_option linter.unusedVariables false
set_option linter.unusedSimpArgs false
set_option maxRecDepth 100000
set_option maxHeartbeats 4000000
namespace Go.Proofs.YtlkpdgjnhkjpjaaGreatDoor
open Go.RowKit Go.BigFrame
open TxnQ renaming e->H,n->o
open List renaming mem_append_right->m,mem_append_left->f,getElem_mem->Va
open IntKind renaming i64->G
open Value renaming int->Q,slice->S
open Go.Proofs.Tryz
theorem z1M(v:Value)(ps:List TxnQ)(w:World)(h:txnK.At w v ps)(av:∀p∈ps,0<p.acts.length)(hl:ps.length+nmL o ps≤1048576):
  Calls Tryz.prog 170 #[v] w fun e w'=>∃v' qs,e=.returned v'∧qs.map H=ps.map H∧txnK.Own w' v' qs∧(txnK.fp v' qs).Nodup∧(∀k∈txnK.fp v' qs,w.heap.size≤k)∧Below w.heap.size w w':=by
 obtain⟨a,cap,rfl⟩:=h.shape;obtain⟨i0,hi,az,aA,aB⟩:=info_parts z1f;have ho:=World.ownsRow_lit (e:=39) (size:=4) w #[] 0 (Nat.le_refl _) (by decide) rfl;have ag:txnK.Own (w.alloc (.cells #[] 39)) (S (some ⟨w.heap.size,0,none⟩) 0 0) ([]:List TxnQ):=⟨(z0u ho).1,fun p hp=>by simp at hp⟩
 have ai:Below w.heap.size w (w.alloc (.cells #[] 39)):=by go_grown
 have W:Hid ((txnK.fp (S (some ⟨w.heap.size,0,none⟩) 0 0) ([]:List TxnQ)).Nodup∧∀k∈txnK.fp (S (some ⟨w.heap.size,0,none⟩) 0 0) ([]:List TxnQ),w.heap.size≤k):=by
  refine⟨?_,?_⟩
  ·simp[Kind.fp,blk,Value.ownBlock]
  ·simp[Kind.fp,blk,Value.ownBlock]
 clear ho;go_enter func170,ntmps170
 go_wp2
 go_loopw[3,4] (fun v j wr=>∃ (k:Nat) (qs:List TxnQ),k≤ps.length∧j=Q G k∧Hid (qs.map H=(ps.take k).map H)∧txnK.Own wr v qs∧Hid ((txnK.fp v qs).Nodup∧∀k∈txnK.fp v qs,w.heap.size≤k)∧Below w.heap.size w wr) (fun _ j _=>ps.length-(intOf j).toNat)
 case atStart=>exact⟨0,[],Nat.zero_le _,rfl,(rfl:_=_),ag,W,ai⟩
 case round=>
  clear W ag ai;obtain⟨k,qs,hk,rfl,HE,hO,HN,hb⟩:=hrel;obtain⟨sa,sc,rfl⟩:=hO.shape;have Y:Hid (qs.length=k):=by
   have:=congrArg List.length HE.out;rw[List.length_map,List.length_map,List.length_take]at this;show qs.length=k;omega
  by_cases L:k<ps.length
  ·obtain⟨b,aC,rfl,aE,hc,d⟩:=(h.below hb).cell (by decide) k L;have A:∀j x,(txnK.cells ps[k])[j]?=some x→wr.cell? ⟨b,aC+k*4+j,none⟩=some x:=hc;have c0:=A 0 (Q G ps[k].i) rfl;have c1:=A 1 (Q G ps[k].s) rfl;have c2:=A 2 (Q G ps[k].q) rfl;have c3:=A 3 (ps[k].va) rfl;have U:=z1o o ps k L;have D:=av _ (Va L);have X:Hid (∀p':TxnQ,p'.e=H ps[k]→(qs++[p']).map H=(ps.take (k+1)).map H):=fun p' aw=>by
    rw[List.take_succ_eq_append_getElem L,List.map_append,List.map_append,HE.out,List.map_singleton,List.map_singleton,aw]
   clear hc A;generalize ps[k]=p at*;obtain⟨i,s,q,va,c⟩:=p;replace d:actK.At wr va c:=d;replace U:c.length≤nmL o ps:=U;obtain⟨aa,ac,rfl⟩:=d.shape;dsimp only at c0 c1 c2 c3 D;obtain⟨ab,ao,aq⟩:∃ab ao,aa=some ⟨ab,ao,none⟩:=by
    rcases(z0w d).2 with h0|⟨ab,ao,e,_⟩
    ·have:=z0q c;rw[h0]at this;simp at this;omega
    ·exact⟨ab,ao,e⟩
   subst aq;have ae:=z39 i s q ab ao ac c _ (z0w d).2 D (by omega);rw[Nat.add_zero]at c0;clear HE
   go_wp2_with fail
   clear c0 c1 c2 c3;have aD:w.heap.size≤wr.heap.size:=hb.size;refine ae.mono ?_;rintro e w2 ⟨a2,c2,rfl,ak,I⟩;have V:=hO.lt;replace hO:=hO.below I;replace hb:=hb.trans (I.mono hb.size);obtain⟨o2,af⟩:=z0u ak;have hP:txnK.own w2 ⟨i,s,q,S a2 c.length c2,c⟩:=⟨o2,fun _ _=>trivial⟩
   have y:∀x∈txnK.foot ⟨i,s,q,S a2 c.length c2,c⟩,wr.heap.size≤x:=fun x hx=>af x (by rw[←z0W (S a2 c.length c2) c];exact hx)
   have ad:(txnK.foot ⟨i,s,q,S a2 c.length c2,c⟩).Nodup:=by
    show(actK.fp _ _).Nodup;rw[z0W];exact z0t _
   have z:Below w2.heap.size w2 (w2.alloc (.cells #[Q G i,Q G s,Q G q,S a2 c.length c2] 39)):=by go_grown
   have O:=hO.below z;have Z:=txnK.own_out (F:=[]) hP (Out.of_below z) (fun _ _=>by simp);have J:=hb.trans (z.mono hb.size);clear ae ak hO hP af;have E:=O.1
   go_wp2_with (at_builtin;refine wpList_append_own_at _ rfl _ _ 25 rfl 0 39 i0 (.agg #[Q G 0,Q G 0,Q G 0,S none 0 0]) 4 48 Tryz.underlying25 hi az aA aB rfl (by decide) _ qs.length (txnK.row qs) rfl E ⟨w2.heap.size,0,none⟩ 1 1 [Q G i,Q G s,Q G q,S a2 c.length c2] rfl rfl ?c1 ?c2 ?c3 ?c4 ?c5 ?_)
   all_goals try(case c1=>intro j u hj;match j,hj with|0,hj=>simp at hj;subst hj;simp[Addr.add]|1,hj=>simp at hj;subst hj;simp[Addr.add]|2,hj=>simp at hj;subst hj;simp[Addr.add]|3,hj=>simp at hj;subst hj;simp[Addr.add])
   all_goals try(case c2=>intro u hu;simp at hu;rcases hu with rfl|rfl|rfl|rfl<;>rfl)
   all_goals try(case c3=>have:=Y.out;unfold maxLen;omega)
   all_goals try(case c4=>have:=Y.out;omega)
   all_goals try(case c5=>first|omega|simp)
   intro v' w5 N C aj T;clear aj E;rw[show w2.heap.size+1=(w2.alloc (.cells #[Q G i,Q G s,Q G q,S a2 c.length c2] 39)).heap.size from(World.size_alloc _ _).symm]at T;generalize ax:w2.alloc (.cells #[Q G i,Q G s,Q G q,S a2 c.length c2] 39)=WA at*;clear ax;have aF:wr.heap.size≤WA.heap.size:=by have:=I.size;have:=z.size;omega
   obtain⟨ap,ah,M,al⟩:=O.snoc HN.out.1 HN.out.2 Z ad (fun x hx ay=>by have:=V x ay;have:=y x hx;omega) (fun x hx=>by have:=y x hx;omega) J.size N C T;have ar:Below w.heap.size w w5:=Out.keep J al J.size (fun x hx=>HN.out.2 x (by simp only[Kind.fp,List.mem_append];exact Or.inl hx));have am:Hid ((qs++[(⟨i,s,q,S a2 c.length c2,c⟩:TxnQ)]).map H=(ps.take (k+1)).map H):=X.out _ rfl;have an:Hid ((txnK.fp v' (qs++[(⟨i,s,q,S a2 c.length c2,c⟩:TxnQ)])).Nodup∧∀k∈txnK.fp v' (qs++[(⟨i,s,q,S a2 c.length c2,c⟩:TxnQ)]),w.heap.size≤k):=⟨ah,M⟩
   clear X HN V y ad Z O J N C T al ah M d hb z I U D
   go_wp2
   go_roundw
   case rel=>exact⟨k+1,_,by omega,by go_num,am,ap,an,ar⟩
   case measure=>simp[intOf];omega
  ·have au:k=ps.length:=by omega
   subst au;have hE:=HE.out;rw[List.take_length]at hE;clear HE
   go_wp2
   go_ret;exact⟨_,qs,rfl,hE,hO,HN.out.1,HN.out.2,hb⟩
def z0O(c:Int)(p:TxnQ):TxnQ:=⟨c,c+1,c+1+1,p.va,z3g (c+1+1+1) p.acts⟩
def nmTxn(p:TxnQ):Nat:=1+1+1+p.acts.length*3
theorem z2S(c:Int)(p:TxnQ):txnK.foot (z0O c p)=txnK.foot p:=by
 simp only[z0O,show∀p:TxnQ,txnK.foot p=actK.fp p.va p.acts from fun _=>rfl,z76]
theorem z4e(v:Value)(ps:List TxnQ)(c:Int)(w:World)(h:txnK.Own w v ps)(ak:(txnK.fp v ps).Nodup)(hl:(ps.length+nmL o ps)≤1048576)(h0:0≤c)(h1:c+(nmL nmTxn ps:Int)≤1099511627776):
  Calls Tryz.prog 85 #[v,Q G c] w fun e w'=>e=.returned (Q G (c+(nmL nmTxn ps:Int)))∧txnK.Own w' v (mkL z0O nmTxn c ps)∧Out (txnK.fp v ps) w w':=by
 obtain⟨a,cap,rfl⟩:=h.shape;have T:∀k,k≤ps.length→txnK.fp (S a ps.length cap) (half z0O nmTxn c ps k)=txnK.fp (S a ps.length cap) ps:=fun k hk=>z6T z2S _ c ps k
 have HF:Hid (∀k,k≤ps.length→txnK.fp (S a ps.length cap) (half z0O nmTxn c ps k)=txnK.fp (S a ps.length cap) ps):=T;have HA:Hid (txnK.Own w (S a ps.length cap) (half z0O nmTxn c ps 0)):=by rw[z3D];exact h
 clear T h;go_enter func85,ntmps85
 go_wp2
 go_loopw[1,5] (fun j i wr=>∃k:Nat,k≤ps.length∧j=Q G (c+(nmL nmTxn (ps.take k):Int))∧i=Q G k∧Hid (txnK.Own wr (S a ps.length cap) (half z0O nmTxn c ps k))∧Hid (Out (txnK.fp (S a ps.length cap) ps) w wr)) (fun _ i _=>ps.length-(intOf i).toNat)
 case atStart=>exact⟨0,Nat.zero_le _,by simp[nmL],rfl,HA,Out.refl _ _⟩
 case round=>
  clear HA;obtain⟨k,hk,rfl,rfl,HO,HU⟩:=hrel;by_cases L:k<ps.length
  ·have au:(half z0O nmTxn c ps k).length=ps.length:=z1P _ _ _ _ _ hk;have hO:=HO.out;obtain⟨g,rfl⟩:=hO.blkOf (by omega);have U:(txnK.fp (S (some ⟨g,0,none⟩) ps.length cap) (half z0O nmTxn c ps k)).Nodup:=by rw[HF.out k hk];exact ak
   have W:Hid (∀x∈txnK.foot ps[k],x∈txnK.fp (S (some ⟨g,0,none⟩) ps.length cap) ps):=fun x hx=>by
    simp only[Kind.fp,List.mem_append,List.mem_flatMap];exact Or.inr ⟨_,Va L,hx⟩
   have N:Hid (∀x∈[g],x∈txnK.fp (S (some ⟨g,0,none⟩) ps.length cap) ps):=fun x hx=>by
    simp only[List.mem_singleton]at hx;subst hx;simp[Kind.fp,blk,Value.ownBlock]
   have ab:k<(half z0O nmTxn c ps k).length:=by omega
   have J:=z4S z0O nmTxn c ps k L;have z:txnK.Own wr (S (some ⟨g,0,none⟩) ps.length cap) ((half z0O nmTxn c ps k).set k ps[k]):=by
    have e:(half z0O nmTxn c ps k).set k ps[k]=half z0O nmTxn c ps k:=by
     rw[←J,List.set_getElem_self]
    rw[e];exact hO
   have D:(txnK.fp (S (some ⟨g,0,none⟩) ps.length cap) ((half z0O nmTxn c ps k).set k ps[k])).Nodup:=by
    have e:(half z0O nmTxn c ps k).set k ps[k]=half z0O nmTxn c ps k:=by
     rw[←J,List.set_getElem_self]
    rw[e];exact U
   clear J hO U;have V:=z4T z0O nmTxn c ps k L;have am:=z1r nmTxn ps k L;have ai:=z4s nmTxn ps (k+1);have ao:=z1o o ps k L;have Z:Hid ((nmL nmTxn (ps.take (k+1)):Int)=(nmL nmTxn (ps.take k):Int)+(nmTxn ps[k]:Int)):=show _=_ by omega
   have an:(nmL nmTxn (ps.take k):Int)+(nmTxn ps[k]:Int)≤nmL nmTxn ps:=by omega
   have O:Hid ((half z0O nmTxn c ps k).set k (z0O (c+(nmL nmTxn (ps.take k):Int)) ps[k])=half z0O nmTxn c ps (k+1)):=V;clear V am ai HO;generalize half z0O nmTxn c ps k=hs at*;generalize al:ps[k]=p at*;clear al;obtain⟨ar,Y,M,A,d⟩:=p;have C:k<hs.length:=ab;dsimp only[nmTxn,o]at Z an ao;generalize hy:(nmL nmTxn (ps.take k):Int)=y at*;have av:0≤y:=by omega
   clear hy;obtain⟨c0,f0⟩:=z.cell' C 0 (Q G ar) rfl;obtain⟨c1,f1⟩:=z.cell' C 1 (Q G Y) rfl;obtain⟨c2,f2⟩:=z.cell' C 2 (Q G M) rfl;obtain⟨c3,f3⟩:=z.cell' C 3 (A) rfl;have c0:wr.cell? ⟨g,k*4,none⟩=_:=c0;have f0:wr.frozen? ⟨g,k*4,none⟩=_:=f0;have c1:wr.cell? ⟨g,k*4+1,none⟩=_:=c1;have f1:wr.frozen? ⟨g,k*4+1,none⟩=_:=f1;have c2:wr.cell? ⟨g,k*4+2,none⟩=_:=c2;have f2:wr.frozen? ⟨g,k*4+2,none⟩=_:=f2;have c3:wr.cell? ⟨g,k*4+3,none⟩=_:=c3;have f3:wr.frozen? ⟨g,k*4+3,none⟩=_:=f3;obtain⟨E,I⟩:=z.store' D C (⟨c+y,Y,M,A,d⟩:TxnQ) 0 (Q G (c+y)) (by decide) rfl rfl (fun _ h=>h);have z:txnK.Own (wr.setCell ⟨g,k*4,none⟩ (Q G (c+y))) (S (some ⟨g,0,none⟩) ps.length cap) (hs.set k (⟨c+y,Y,M,A,d⟩:TxnQ)):=E;have D:=I;obtain⟨E,I⟩:=z.store' D C (⟨c+y,c+y+1,M,A,d⟩:TxnQ) 1 (Q G (c+y+1)) (by decide) rfl rfl (fun _ h=>h);have z:txnK.Own ((wr.setCell ⟨g,k*4,none⟩ (Q G (c+y))).setCell ⟨g,k*4+1,none⟩ (Q G (c+y+1))) (S (some ⟨g,0,none⟩) ps.length cap) (hs.set k (⟨c+y,c+y+1,M,A,d⟩:TxnQ)):=E;have D:=I;obtain⟨E,I⟩:=z.store' D C (⟨c+y,c+y+1,c+y+1+1,A,d⟩:TxnQ) 2 (Q G (c+y+1+1)) (by decide) rfl rfl (fun _ h=>h);have z:txnK.Own (((wr.setCell ⟨g,k*4,none⟩ (Q G (c+y))).setCell ⟨g,k*4+1,none⟩ (Q G (c+y+1))).setCell ⟨g,k*4+2,none⟩ (Q G (c+y+1+1))) (S (some ⟨g,0,none⟩) ps.length cap) (hs.set k (⟨c+y,c+y+1,c+y+1+1,A,d⟩:TxnQ)):=E;have D:=I;have HU:Hid (Out (txnK.fp (S (some ⟨g,0,none⟩) ps.length cap) ps) w (((wr.setCell ⟨g,k*4,none⟩ (Q G (c+y))).setCell ⟨g,k*4+1,none⟩ (Q G (c+y+1))).setCell ⟨g,k*4+2,none⟩ (Q G (c+y+1+1)))):=(((HU.out.trans ((Out.setCell _ g (k*4) (Q G (c+y))).mono N.out)).trans ((Out.setCell _ g (k*4+1) (Q G (c+y+1))).mono N.out)).trans ((Out.setCell _ g (k*4+2) (Q G (c+y+1+1))).mono N.out))
   have aa:=z.elem' C;have X:actK.Own (((wr.setCell ⟨g,k*4,none⟩ (Q G (c+y))).setCell ⟨g,k*4+1,none⟩ (Q G (c+y+1))).setCell ⟨g,k*4+2,none⟩ (Q G (c+y+1+1))) A d:=aa;have ad:=q0P A d (c+y+1+1+1) _ X (by omega) (by omega) (by omega);obtain⟨ap,aq,af⟩:=X.shape;subst af;clear aa X
   go_wp2_with fail
   refine ad.mono ?_;rintro e ag ⟨rfl,aj,ae⟩;clear ad;obtain⟨E,I⟩:=z.turn' D C (⟨c+y,c+y+1,c+y+1+1,S ap d.length aq,z3g (c+y+1+1+1) d⟩:TxnQ) ae (fun x hx=>hx) rfl (by exact z76 _ _ _) (aj);have HU:Hid (Out (txnK.fp (S (some ⟨g,0,none⟩) ps.length cap) ps) w ag):=HU.out.trans (ae.mono (fun x hx=>W.out x (show x∈txnK.foot _ from(fun x hx=>hx) x hx)));have z:=E;have D:=I;have R:Hid (txnK.Own ag (S (some ⟨g,0,none⟩) ps.length cap) (half z0O nmTxn c ps (k+1))):=by rw[←O.out];exact z
   clear z D O W N
   go_wp2
   go_roundw
   case rel=>exact⟨k+1,by omega,by rw[Z.out];congr 1;omega,by go_num,R.out,HU.out⟩
   case measure=>simp[intOf];omega
  ·have ah:k=ps.length:=by omega
   subst ah;have hO:=HO.out;rw[z4R]at hO;rw[List.take_length];clear HF HO
   go_wp2
   go_ret;exact⟨rfl,hO,HU.out⟩
theorem z6C(v:Value)(ps:List TxnQ)(c:Int)(w:World)(h:txnK.At w v (mkL z0O nmTxn c ps))(hl:(ps.length+nmL o ps)≤1048576)(h0:0≤c)(h1:c+(nmL nmTxn ps:Int)≤1099511627776):
  Calls Tryz.prog 197 #[v,Q G c] w fun e w'=>e=.returned (Q G (c+(nmL nmTxn ps:Int)))∧Below w.heap.size w w':=by
 obtain⟨a,cap,rfl⟩:=h.shape;have D:=z1v z0O nmTxn c ps;rw[D]at h⊢;have HM:Hid ((mkL z0O nmTxn c ps).length=ps.length):=D;clear D;go_enter func197,ntmps197
 go_wp2
 go_loopw[1,5] (fun j i wr=>∃k:Nat,k≤ps.length∧j=Q G (c+(nmL nmTxn (ps.take k):Int))∧i=Q G k∧Below w.heap.size w wr) (fun _ i _=>ps.length-(intOf i).toNat)
 case atStart=>exact⟨0,Nat.zero_le _,by simp[nmL],rfl,Below.refl _ _⟩
 case round=>
  obtain⟨k,hk,rfl,rfl,hb⟩:=hrel;by_cases C:k<ps.length
  ·have L:k<(mkL z0O nmTxn c ps).length:=by have:=HM.out;omega
   obtain⟨b,Y,rfl,ad,hc,M⟩:=(h.below hb).cell (by decide) k L;rw[z9h z0O nmTxn c ps k C]at hc M;have V:=z1r nmTxn ps k C;have T:=z4s nmTxn ps (k+1);have X:=z1o o ps k C;have E:Hid ((nmL nmTxn (ps.take (k+1)):Int)=(nmL nmTxn (ps.take k):Int)+(nmTxn ps[k]:Int)):=show _=_ by omega
   have W:(nmL nmTxn (ps.take k):Int)+(nmTxn ps[k]:Int)≤nmL nmTxn ps:=by omega
   clear V T h;generalize U:ps[k]=p at*;clear U;obtain⟨Z,ab,aa,z,d⟩:=p;dsimp only[nmTxn,o]at E W X;generalize hy:(nmL nmTxn (ps.take k):Int)=y at*;have ae:0≤y:=by omega
   clear hy;have A:∀j x,(txnK.cells (z0O (c+y) (⟨Z,ab,aa,z,d⟩:TxnQ)))[j]?=some x→wr.cell? ⟨b,Y+k*4+j,none⟩=some x:=hc;clear hc;have c0:=A 0 (Q G (c+y)) rfl;have c1:=A 1 (Q G (c+y+1)) rfl;have c2:=A 2 (Q G (c+y+1+1)) rfl;have c3:=A 3 (z) rfl;have r3:actK.At wr z (z3g (c+y+1+1+1) d):=M;have J:=fun w h=>q0Q z d (c+y+1+1+1) w h (by omega) (by omega) (by omega)
   obtain⟨ag,ah,N⟩:=r3.shape;subst N;rw[Nat.add_zero]at c0;clear A;have af:¬(c+y+1+1+1+((d.length*3:Nat):Int)<0):=by omega
   go_wp2_with fail
   refine(J wr r3).mono ?_;rintro e w3 ⟨rfl,I⟩;replace hb:=hb.trans (I.mono hb.size);clear I J c0 c1 c2 c3
   go_wp2
   go_roundw
   case rel=>exact⟨k+1,by omega,by rw[E.out];congr 1;omega,by go_num,hb⟩
   case measure=>simp[intOf];omega
  ·have O:k=ps.length:=by omega
   subst O;rw[List.take_length]
   go_wp2
   go_ret;exact⟨rfl,hb⟩
theorem z43{A B:List Nat}(h:(A++B).Nodup):∀k∈B,k∉A:=fun k hk hk2=>(List.nodup_append.1 h).2.2 k hk2 k hk rfl
theorem z7m{A B:List Nat}(h:(A++B).Nodup):∀k∈A,k∉B:=fun k hk hk2=>(List.nodup_append.1 h).2.2 k hk k hk2 rfl
theorem z03{P:Type}{K:Kind P}{v:Value}{hs:List P}{k:Nat}{p:P}(h:(K.fp v (hs.set k p)).Nodup)(hk:k<hs.length):(K.foot p).Nodup:=by
 have h2:=(List.nodup_append.1 h).2.1;rw[z73 hs k hk p]at h2;simp only[List.flatMap_append,List.flatMap_cons]at h2;exact(List.nodup_append.1 (List.nodup_append.1 h2).2.1).1
def z0y(c:Int)(p:RoundQ):RoundQ:=⟨p.vr,z2A (c) p.rep,p.vp,z2A (c+((p.rep.length:Nat):Int)) p.pro⟩
def nmRound(p:RoundQ):Nat:=p.rep.length+p.pro.length
theorem z4B(c:Int)(p:RoundQ):roundK.foot (z0y c p)=roundK.foot p:=by
 simp only[z0y,show∀p:RoundQ,roundK.foot p=intK.fp p.vr p.rep++intK.fp p.vp p.pro from fun _=>rfl,z1E,z1E]
theorem z8y(v:Value)(ps:List RoundQ)(c:Int)(w:World)(h:roundK.Own w v ps)(au:(roundK.fp v ps).Nodup)(hl:(ps.length+nmL RoundQ.n ps)≤1048576)(h0:0≤c)(h1:c+(nmL nmRound ps:Int)≤1099511627776):
  Calls Tryz.prog 86 #[v,Q G c] w fun e w'=>e=.returned (Q G (c+(nmL nmRound ps:Int)))∧roundK.Own w' v (mkL z0y nmRound c ps)∧Out (roundK.fp v ps) w w':=by
 obtain⟨a,cap,rfl⟩:=h.shape;have U:∀k,k≤ps.length→roundK.fp (S a ps.length cap) (half z0y nmRound c ps k)=roundK.fp (S a ps.length cap) ps:=fun k hk=>z6T z4B _ c ps k
 have HF:Hid (∀k,k≤ps.length→roundK.fp (S a ps.length cap) (half z0y nmRound c ps k)=roundK.fp (S a ps.length cap) ps):=U;have HA:Hid (roundK.Own w (S a ps.length cap) (half z0y nmRound c ps 0)):=by rw[z3D];exact h
 clear U h;go_enter func86,ntmps86
 go_wp2
 go_loopw[1,5] (fun j i wr=>∃k:Nat,k≤ps.length∧j=Q G (c+(nmL nmRound (ps.take k):Int))∧i=Q G k∧Hid (roundK.Own wr (S a ps.length cap) (half z0y nmRound c ps k))∧Hid (Out (roundK.fp (S a ps.length cap) ps) w wr)) (fun _ i _=>ps.length-(intOf i).toNat)
 case atStart=>exact⟨0,Nat.zero_le _,by simp[nmL],rfl,HA,Out.refl _ _⟩
 case round=>
  clear HA;obtain⟨k,hk,rfl,rfl,HO,HU⟩:=hrel;by_cases J:k<ps.length
  ·have aB:(half z0y nmRound c ps k).length=ps.length:=z1P _ _ _ _ _ hk;have hO:=HO.out;obtain⟨g,rfl⟩:=hO.blkOf (by omega);have V:(roundK.fp (S (some ⟨g,0,none⟩) ps.length cap) (half z0y nmRound c ps k)).Nodup:=by rw[HF.out k hk];exact au
   have M:Hid (∀x∈roundK.foot ps[k],x∈roundK.fp (S (some ⟨g,0,none⟩) ps.length cap) ps):=fun x hx=>by
    simp only[Kind.fp,List.mem_append,List.mem_flatMap];exact Or.inr ⟨_,Va J,hx⟩
   have an:Hid (∀x∈[g],x∈roundK.fp (S (some ⟨g,0,none⟩) ps.length cap) ps):=fun x hx=>by
    simp only[List.mem_singleton]at hx;subst hx;simp[Kind.fp,blk,Value.ownBlock]
   have ah:k<(half z0y nmRound c ps k).length:=by omega
   have I:=z4S z0y nmRound c ps k J;have z:roundK.Own wr (S (some ⟨g,0,none⟩) ps.length cap) ((half z0y nmRound c ps k).set k ps[k]):=by
    have e:(half z0y nmRound c ps k).set k ps[k]=half z0y nmRound c ps k:=by
     rw[←I,List.set_getElem_self]
    rw[e];exact hO
   have D:(roundK.fp (S (some ⟨g,0,none⟩) ps.length cap) ((half z0y nmRound c ps k).set k ps[k])).Nodup:=by
    have e:(half z0y nmRound c ps k).set k ps[k]=half z0y nmRound c ps k:=by
     rw[←I,List.set_getElem_self]
    rw[e];exact V
   clear I hO V;have W:=z4T z0y nmRound c ps k J;have aw:=z1r nmRound ps k J;have ap:=z4s nmRound ps (k+1);have ay:=z1o RoundQ.n ps k J;have ae:Hid ((nmL nmRound (ps.take (k+1)):Int)=(nmL nmRound (ps.take k):Int)+(nmRound ps[k]:Int)):=show _=_ by omega
   have ax:(nmL nmRound (ps.take k):Int)+(nmRound ps[k]:Int)≤nmL nmRound ps:=by omega
   have T:Hid ((half z0y nmRound c ps k).set k (z0y (c+(nmL nmRound (ps.take k):Int)) ps[k])=half z0y nmRound c ps (k+1)):=W;clear W aw ap HO;generalize half z0y nmRound c ps k=hs at*;generalize av:ps[k]=p at*;clear av;obtain⟨N,d,E,A⟩:=p;have C:k<hs.length:=ah;dsimp only[nmRound,RoundQ.n]at ae ax ay;generalize hy:(nmL nmRound (ps.take k):Int)=y at*;have aC:0≤y:=by omega
   clear hy;obtain⟨c0,f0⟩:=z.cell' C 0 (N) rfl;have c0:wr.cell? ⟨g,k*2,none⟩=_:=c0;have f0:wr.frozen? ⟨g,k*2,none⟩=_:=f0;have af:=z.elem' C;have Y:intK.Own wr N d:=af.1;have L:=z38 N d (c+y) _ Y (by omega) (by omega) (by omega);obtain⟨ak,al,ai⟩:=Y.shape;subst ai;clear af Y
   go_wp2_with fail
   refine L.mono ?_;rintro e O ⟨rfl,aq,ab⟩;clear L;obtain⟨X,aa⟩:=z.turn' D C (⟨S ak d.length al,z2A (c+y) d,E,A⟩:RoundQ) ab (fun x hx=>f _ hx) rfl (by simp only[show∀p:RoundQ,roundK.foot p=intK.fp p.vr p.rep++intK.fp p.vp p.pro from fun _=>rfl,z1E]) (⟨aq,(z.elem' C).2.out ab (z43 (z03 D C))⟩);have HU:Hid (Out (roundK.fp (S (some ⟨g,0,none⟩) ps.length cap) ps) w O):=HU.out.trans (ab.mono (fun x hx=>M.out x (show x∈roundK.foot _ from(fun x hx=>f _ hx) x hx)));have z:=X;have D:=aa;obtain⟨c1,f1⟩:=z.cell' C 1 (E) rfl;have c1:O.cell? ⟨g,k*2+1,none⟩=_:=c1;have f1:O.frozen? ⟨g,k*2+1,none⟩=_:=f1;have ag:=z.elem' C;have Z:intK.Own O E A:=ag.2;have L:=z38 E A (c+y+((d.length:Nat):Int)) _ Z (by omega) (by omega) (by omega);obtain⟨az,aA,aj⟩:=Z.shape;subst aj;clear ag Z
   go_wp2_with fail
   refine L.mono ?_;rintro e am ⟨rfl,ar,ad⟩;clear L;obtain⟨X,aa⟩:=z.turn' D C (⟨S ak d.length al,z2A (c+y) d,S az A.length aA,z2A (c+y+((d.length:Nat):Int)) A⟩:RoundQ) ad (fun x hx=>m _ (hx)) rfl (by simp only[show∀p:RoundQ,roundK.foot p=intK.fp p.vr p.rep++intK.fp p.vp p.pro from fun _=>rfl,z1E]) (⟨(z.elem' C).1.out ad (z7m (z03 D C)),ar⟩);have HU:Hid (Out (roundK.fp (S (some ⟨g,0,none⟩) ps.length cap) ps) w am):=HU.out.trans (ad.mono (fun x hx=>M.out x (show x∈roundK.foot _ from(fun x hx=>m _ (hx)) x hx)));have z:=X;have D:=aa;have R:Hid (roundK.Own am (S (some ⟨g,0,none⟩) ps.length cap) (half z0y nmRound c ps (k+1))):=by rw[←T.out];exact z
   clear z D T M an
   go_wp2
   go_roundw
   case rel=>exact⟨k+1,by omega,by rw[ae.out];congr 1;omega,by go_num,R.out,HU.out⟩
   case measure=>simp[intOf];omega
  ·have ao:k=ps.length:=by omega
   subst ao;have hO:=HO.out;rw[z4R]at hO;rw[List.take_length];clear HF HO
   go_wp2
   go_ret;exact⟨rfl,hO,HU.out⟩
theorem q3Y(ps:List TxnQ):nmL nmTxn ps≤3*(ps.length+nmL o ps):=by
 induction ps with
 |nil=>simp[nmL]
 |cons p r ih=>
  simp only[nmL,List.map_cons,List.sum_cons,List.length_cons]at ih⊢;simp only[nmTxn,o]at ih⊢;omega
theorem q07(ps:List RoundQ):nmL nmRound ps≤nmL RoundQ.n ps:=by
 induction ps with
 |nil=>simp[nmL]
 |cons p r ih=>
  simp only[nmL,List.map_cons,List.sum_cons]at ih⊢;simp only[nmRound,RoundQ.n]at ih⊢;omega
theorem q6l{q p:InstQ}(h:q.e=p.e):q.n=p.n:=by
 simp only[InstQ.e,InstE.mk.injEq]at h;obtain⟨_,h1,h2,h3⟩:=h;have t1:q.batch.length=p.batch.length:=by simpa using congrArg List.length h1
 have t2:nmL o q.batch=nmL o p.batch:=by
  have:=congrArg (fun l=>nmL (fun d:TxnD=>d.acts.length) l) h1;simp only[nmL,List.map_map]at this;exact this
 have t3:q.rounds.length=p.rounds.length:=by simpa using congrArg List.length h2
 have t4:nmL RoundQ.n q.rounds=nmL RoundQ.n p.rounds:=by
  have:=congrArg (fun l=>nmL (fun d:RoundE=>d.rep.length+d.pro.length) l) h2;simp only[nmL,List.map_map]at this;exact this
 unfold InstQ.n;rw[t1,t2,t3,t4,h3]
theorem q3Z(i s q:Int):txnF i s q []≠0:=by
 unfold txnF;split<;>simp
theorem q5n{bt:List TxnQ}(h:batF (bt.map H)=0):∀p∈bt,0<p.acts.length:=by
 intro p hp;have ha:allF (bt.map H)=0:=by
  unfold batF at h;split at h
  ·omega
  ·split at h
   ·assumption
   ·exact h
 have hz:∀ (ds:List TxnD),allF ds=0→∀d∈ds,d.F=0:=by
  intro ds;induction ds with
  |nil=>intro _ d hd;simp at hd
  |cons x r ih=>
   intro h d hd;simp only[allF]at h;by_cases hx:x.F=0
   ·rw[if_pos hx]at h;rcases List.mem_cons.1 hd with rfl|hd
    ·exact hx
    ·exact ih h d hd
   ·rw[if_neg hx]at h;exact absurd h hx
 have hf:=hz _ ha p.e (List.mem_map.2 ⟨p,hp,rfl⟩);show 0<p.acts.length;have hf':txnF p.i p.s p.q p.acts=0:=hf;rcases Nat.eq_zero_or_pos p.acts.length with h0|h0
 ·exfalso
  have:p.acts=[]:=List.eq_nil_of_length_eq_zero h0;rw[this]at hf';exact q3Z _ _ _ hf'
 ·exact h0
theorem q5o{p:InstQ}(h:insF p.e=0):(∀t∈p.batch,0<t.acts.length)∧(∀r∈p.rounds,0<r.rep.length∧0<r.pro.length)∧0<p.dec.length:=by
 obtain⟨h1,h2,h3,_,h5⟩:=q2q h;obtain⟨h6,_⟩:=z2l h;obtain⟨_,_,_,h7,h8⟩:=z1z h6;refine⟨?_,fun r hr=>?_,by have:p.dec.length=3:=h3;omega⟩
 ·cases hh:p.has with
  |true=>exact q5n (h8 hh)
  |false=>
   have:p.batch.map H=[]:=h7 hh;intro t ht;have:p.batch=[]:=List.map_eq_nil_iff.1 this;rw[this]at ht;simp at ht
 ·have:=h1 (RoundQ.e r) (List.mem_map.2 ⟨r,hr,rfl⟩);have h9:r.rep.length=3∧r.pro.length=3:=this;omega
abbrev z8z(c:Int)(ps:List TxnQ):List TxnQ:=mkL z0O nmTxn c ps
abbrev z45(c:Int)(ps:List RoundQ):List RoundQ:=mkL z0y nmRound c ps
theorem z3Q(v:Value)(c:Int)(ps:List TxnQ):txnK.fp v (z8z c ps)=txnK.fp v ps:=z74 z2S _ _ _
theorem z2o(v:Value)(c:Int)(ps:List RoundQ):roundK.fp v (z45 c ps)=roundK.fp v ps:=z74 z4B _ _ _
def z1b(c:Int)(p:InstQ):InstQ:=⟨((c) % 3==0),p.vb,z8z (c+1) p.batch,p.vr,z45 (c+1+((nmL nmTxn p.batch:Nat):Int)) p.rounds,p.vd,z2A (c+1+((nmL nmTxn p.batch:Nat):Int)+((nmL nmRound p.rounds:Nat):Int)) p.dec⟩
def nmInsS(p:InstQ):Nat:=1+nmL nmTxn p.batch+nmL nmRound p.rounds+p.dec.length
theorem z9F(c:Int)(p:InstQ):instK.foot (z1b c p)=instK.foot p:=by
 simp only[z1b,show∀p:InstQ,instK.foot p=txnK.fp p.vb p.batch++(roundK.fp p.vr p.rounds++intK.fp p.vd p.dec)from fun _=>rfl,z3Q,z2o,z1E]
theorem z5w(v:Value)(ps:List InstQ)(c:Int)(w:World)(h:instK.Own w v ps)(aG:(instK.fp v ps).Nodup)(hl:(ps.length+nmL InstQ.n ps)≤1048576)(h0:0≤c)(h1:c+(nmL nmInsS ps:Int)≤1099511627776):
  Calls Tryz.prog 42 #[v,Q G c] w fun e w'=>e=.returned (Q G (c+(nmL nmInsS ps:Int)))∧instK.Own w' v (mkL z1b nmInsS c ps)∧Out (instK.fp v ps) w w':=by
 obtain⟨a,cap,rfl⟩:=h.shape;have ad:∀k,k≤ps.length→instK.fp (S a ps.length cap) (half z1b nmInsS c ps k)=instK.fp (S a ps.length cap) ps:=fun k hk=>z6T z9F _ c ps k
 have HF:Hid (∀k,k≤ps.length→instK.fp (S a ps.length cap) (half z1b nmInsS c ps k)=instK.fp (S a ps.length cap) ps):=ad;have HA:Hid (instK.Own w (S a ps.length cap) (half z1b nmInsS c ps 0)):=by rw[z3D];exact h
 clear ad h;go_enter func42,ntmps42
 go_wp2
 go_loopw[1,5] (fun j i wr=>∃k:Nat,k≤ps.length∧j=Q G (c+(nmL nmInsS (ps.take k):Int))∧i=Q G k∧Hid (instK.Own wr (S a ps.length cap) (half z1b nmInsS c ps k))∧Hid (Out (instK.fp (S a ps.length cap) ps) w wr)) (fun _ i _=>ps.length-(intOf i).toNat)
 case atStart=>exact⟨0,Nat.zero_le _,by simp[nmL],rfl,HA,Out.refl _ _⟩
 case round=>
  clear HA;obtain⟨k,hk,rfl,rfl,HO,HU⟩:=hrel;by_cases V:k<ps.length
  ·have aN:(half z1b nmInsS c ps k).length=ps.length:=z1P _ _ _ _ _ hk;have hO:=HO.out;obtain⟨g,rfl⟩:=hO.blkOf (by omega);have ae:(instK.fp (S (some ⟨g,0,none⟩) ps.length cap) (half z1b nmInsS c ps k)).Nodup:=by rw[HF.out k hk];exact aG
   have T:Hid (∀x∈instK.foot ps[k],x∈instK.fp (S (some ⟨g,0,none⟩) ps.length cap) ps):=fun x hx=>by
    simp only[Kind.fp,List.mem_append,List.mem_flatMap];exact Or.inr ⟨_,Va V,hx⟩
   have ar:Hid (∀x∈[g],x∈instK.fp (S (some ⟨g,0,none⟩) ps.length cap) ps):=fun x hx=>by
    simp only[List.mem_singleton]at hx;subst hx;simp[Kind.fp,blk,Value.ownBlock]
   have au:k<(half z1b nmInsS c ps k).length:=by omega
   have U:=z4S z1b nmInsS c ps k V;have C:instK.Own wr (S (some ⟨g,0,none⟩) ps.length cap) ((half z1b nmInsS c ps k).set k ps[k]):=by
    have e:(half z1b nmInsS c ps k).set k ps[k]=half z1b nmInsS c ps k:=by
     rw[←U,List.set_getElem_self]
    rw[e];exact hO
   have E:(instK.fp (S (some ⟨g,0,none⟩) ps.length cap) ((half z1b nmInsS c ps k).set k ps[k])).Nodup:=by
    have e:(half z1b nmInsS c ps k).set k ps[k]=half z1b nmInsS c ps k:=by
     rw[←U,List.set_getElem_self]
    rw[e];exact ae
   clear U hO ae;have af:=z4T z1b nmInsS c ps k V;have aI:=z1r nmInsS ps k V;have aC:=z4s nmInsS ps (k+1);have aK:=z1o InstQ.n ps k V;have an:Hid ((nmL nmInsS (ps.take (k+1)):Int)=(nmL nmInsS (ps.take k):Int)+(nmInsS ps[k]:Int)):=show _=_ by omega
   have aJ:(nmL nmInsS (ps.take k):Int)+(nmInsS ps[k]:Int)≤nmL nmInsS ps:=by omega
   have ab:Hid ((half z1b nmInsS c ps k).set k (z1b (c+(nmL nmInsS (ps.take k):Int)) ps[k])=half z1b nmInsS c ps (k+1)):=af;clear af aI aC HO;generalize half z1b nmInsS c ps k=hs at*;generalize aH:ps[k]=p at*;clear aH;obtain⟨am,M,d,J,z,I,D⟩:=p;have A:k<hs.length:=au;dsimp only[nmInsS,InstQ.n]at an aJ aK;generalize hy:(nmL nmInsS (ps.take k):Int)=y at*;have aO:0≤y:=by omega
   clear hy;obtain⟨c0,f0⟩:=C.cell' A 0 (.bool am) rfl;obtain⟨c1,f1⟩:=C.cell' A 1 (M) rfl;have c0:wr.cell? ⟨g,k*4,none⟩=_:=c0;have f0:wr.frozen? ⟨g,k*4,none⟩=_:=f0;have c1:wr.cell? ⟨g,k*4+1,none⟩=_:=c1;have f1:wr.frozen? ⟨g,k*4+1,none⟩=_:=f1;obtain⟨N,O⟩:=C.store' E A (⟨((c+y) % 3==0),M,d,J,z,I,D⟩:InstQ) 0 (.bool ((c+y) % 3==0)) (by decide) rfl rfl (fun _ h=>h);have C:instK.Own (wr.setCell ⟨g,k*4,none⟩ (.bool ((c+y) % 3==0))) (S (some ⟨g,0,none⟩) ps.length cap) (hs.set k (⟨((c+y) % 3==0),M,d,J,z,I,D⟩:InstQ)):=N;have E:=O;have HU:Hid (Out (instK.fp (S (some ⟨g,0,none⟩) ps.length cap) ps) w (wr.setCell ⟨g,k*4,none⟩ (.bool ((c+y) % 3==0)))):=(HU.out.trans ((Out.setCell _ g (k*4) (.bool ((c+y) % 3==0))).mono ar.out))
   have ao:=C.elem' A;have ah:txnK.Own (wr.setCell ⟨g,k*4,none⟩ (.bool ((c+y) % 3==0))) M d:=ao.1;have L:=z4e M d (c+y+1) _ ah (List.nodup_append.1 (z03 E A)).1 (by omega) (by omega) (by omega);obtain⟨ak,al,av⟩:=ah.shape;subst av;clear ao ah
   go_wp2_with fail
   refine L.mono ?_;rintro e Z ⟨rfl,aD,W⟩;clear L;obtain⟨N,O⟩:=C.turn' E A (⟨((c+y) % 3==0),S ak d.length al,z8z (c+y+1) d,J,z,I,D⟩:InstQ) W (fun x hx=>f _ hx) rfl (by simp only[show∀p:InstQ,instK.foot p=txnK.fp p.vb p.batch++(roundK.fp p.vr p.rounds++intK.fp p.vd p.dec)from fun _=>rfl,z3Q,z2o,z1E]) (⟨aD,(C.elem' A).2.1.out W (fun k hk=>z43 (z03 E A) k (f _ hk)),(C.elem' A).2.2.out W (fun k hk=>z43 (z03 E A) k (m _ hk))⟩);have HU:Hid (Out (instK.fp (S (some ⟨g,0,none⟩) ps.length cap) ps) w Z):=HU.out.trans (W.mono (fun x hx=>T.out x (show x∈instK.foot _ from(fun x hx=>f _ hx) x hx)));have C:=N;have E:=O;obtain⟨c2,f2⟩:=C.cell' A 2 (J) rfl;have c2:Z.cell? ⟨g,k*4+2,none⟩=_:=c2;have f2:Z.frozen? ⟨g,k*4+2,none⟩=_:=f2;have ap:=C.elem' A;have ai:roundK.Own Z J z:=ap.2.1;have L:=z8y J z (c+y+1+((nmL nmTxn d:Nat):Int)) _ ai (List.nodup_append.1 (List.nodup_append.1 (z03 E A)).2.1).1 (by omega) (by omega) (by omega);obtain⟨ay,az,aw⟩:=ai.shape;subst aw;clear ap ai
   go_wp2_with fail
   refine L.mono ?_;rintro e aa ⟨rfl,aE,X⟩;clear L;obtain⟨N,O⟩:=C.turn' E A (⟨((c+y) % 3==0),S ak d.length al,z8z (c+y+1) d,S ay z.length az,z45 (c+y+1+((nmL nmTxn d:Nat):Int)) z,I,D⟩:InstQ) X (fun x hx=>m _ (f _ hx)) rfl (by simp only[show∀p:InstQ,instK.foot p=txnK.fp p.vb p.batch++(roundK.fp p.vr p.rounds++intK.fp p.vd p.dec)from fun _=>rfl,z3Q,z2o,z1E]) (⟨(C.elem' A).1.out X (fun k hk ag=>z7m (z03 E A) k hk (f _ ag)),aE,(C.elem' A).2.2.out X (z43 (List.nodup_append.1 (z03 E A)).2.1)⟩);have HU:Hid (Out (instK.fp (S (some ⟨g,0,none⟩) ps.length cap) ps) w aa):=HU.out.trans (X.mono (fun x hx=>T.out x (show x∈instK.foot _ from(fun x hx=>m _ (f _ hx)) x hx)));have C:=N;have E:=O;obtain⟨c3,f3⟩:=C.cell' A 3 (I) rfl;have c3:aa.cell? ⟨g,k*4+3,none⟩=_:=c3;have f3:aa.frozen? ⟨g,k*4+3,none⟩=_:=f3;have aq:=C.elem' A;have aj:intK.Own aa I D:=aq.2.2;have L:=z38 I D (c+y+1+((nmL nmTxn d:Nat):Int)+((nmL nmRound z:Nat):Int)) _ aj (by omega) (by omega) (by omega);obtain⟨aL,aM,ax⟩:=aj.shape;subst ax;clear aq aj
   go_wp2_with fail
   refine L.mono ?_;rintro e aA ⟨rfl,aF,Y⟩;clear L;obtain⟨N,O⟩:=C.turn' E A (⟨((c+y) % 3==0),S ak d.length al,z8z (c+y+1) d,S ay z.length az,z45 (c+y+1+((nmL nmTxn d:Nat):Int)) z,S aL D.length aM,z2A (c+y+1+((nmL nmTxn d:Nat):Int)+((nmL nmRound z:Nat):Int)) D⟩:InstQ) Y (fun x hx=>m _ (m _ (hx))) rfl (by simp only[show∀p:InstQ,instK.foot p=txnK.fp p.vb p.batch++(roundK.fp p.vr p.rounds++intK.fp p.vd p.dec)from fun _=>rfl,z3Q,z2o,z1E]) (⟨(C.elem' A).1.out Y (fun k hk ag=>z7m (z03 E A) k hk (m _ ag)),(C.elem' A).2.1.out Y (z7m (List.nodup_append.1 (z03 E A)).2.1),aF⟩);have HU:Hid (Out (instK.fp (S (some ⟨g,0,none⟩) ps.length cap) ps) w aA):=HU.out.trans (Y.mono (fun x hx=>T.out x (show x∈instK.foot _ from(fun x hx=>m _ (m _ (hx))) x hx)));have C:=N;have E:=O;have R:Hid (instK.Own aA (S (some ⟨g,0,none⟩) ps.length cap) (half z1b nmInsS c ps (k+1))):=by rw[←ab.out];exact C
   clear C E ab T ar
   go_wp2
   go_roundw
   case rel=>exact⟨k+1,by omega,by rw[an.out];congr 1;omega,by go_num,R.out,HU.out⟩
   case measure=>simp[intOf];omega
  ·have aB:k=ps.length:=by omega
   subst aB;have hO:=HO.out;rw[z4R]at hO;rw[List.take_length];clear HF HO
   go_wp2
   go_ret;exact⟨rfl,hO,HU.out⟩
theorem q2u(ps:List InstQ):nmL nmInsS ps≤3*(ps.length+nmL InstQ.n ps):=by
 induction ps with
 |nil=>simp[nmL]
 |cons p r ih=>
  have h1:=q3Y p.batch;have h2:=q07 p.rounds;simp only[nmL,List.map_cons,List.sum_cons,List.length_cons]at ih⊢;simp only[nmInsS,InstQ.n]at ih⊢;simp only[nmL]at h1 h2 ih⊢;omega
theorem q5p{qs ps:List InstQ}(h:qs.map InstQ.e=ps.map InstQ.e):qs.length+nmL InstQ.n qs=ps.length+nmL InstQ.n ps:=by
 induction qs generalizing ps with
 |nil=>
  cases ps with
  |nil=>rfl
  |cons p r=>simp at h
 |cons q s ih=>
  cases ps with
  |nil=>simp at h
  |cons p r=>
   simp only[List.map_cons,List.cons.injEq]at h;have h1:=q6l h.1;have h2:=ih h.2;simp only[nmL,List.map_cons,List.sum_cons,List.length_cons]at h2⊢;omega
end Go.Proofs.YtlkpdgjnhkjpjaaGreatDoor
