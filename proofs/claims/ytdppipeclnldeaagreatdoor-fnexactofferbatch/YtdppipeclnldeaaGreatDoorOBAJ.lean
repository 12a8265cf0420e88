import Derived.Test.YtdppipeclnldeaaGreatDoorOBAI
set_option linter.unusedVariables false
set_option linter.unusedSimpArgs false
set_option maxRecDepth 100000
set_option maxHeartbeats 8000000
namespace Go.Proofs.YtdppipeclnldeaaGreatDoor
open Go.RowKit Go.BigFrame
open TxnQ renaming e->f,n->Va
open RoundQ renaming e->Vb
open List renaming mem_append_right->Vc,mem_append_left->Vd,mem_singleton->Ve,getElem_mem->Vg
open Act renaming put->Vf
open Out renaming setCell->Vh
open IntKind renaming i64->Q
open Value renaming int->H,slice->G
open Go.Proofs.Tryz renaming prog->m
open Go.Proofs.Tryz
def z1p(c:Int)(p:TxnQ):TxnQ:=⟨c,c+1,c+1+1,p.va,z3p (c+1+1+1) p.acts⟩
def nmTxn(p:TxnQ):Nat:=1+1+1+p.acts.length*3
theorem z6U(c:Int)(p:TxnQ):txnK.foot (z1p c p)=txnK.foot p:=by
 simp only[z1p,show∀p:TxnQ,txnK.foot p=actK.fp p.va p.acts from fun _=>rfl,z8f]
theorem z4x(v:Value)(ps:List TxnQ)(c:Int)(w:World)(h:txnK.Own w v ps)(ak:(txnK.fp v ps).Nodup)(hl:(ps.length+nmL Va ps)≤1048576)(h0:0≤c)(h1:c+(nmL nmTxn ps:Int)≤1099511627776):
  Calls m 49 #[v,H Q c] w fun e w'=>e=.returned (H Q (c+(nmL nmTxn ps:Int)))∧txnK.Own w' v (mkL z1p nmTxn c ps)∧Out (txnK.fp v ps) w w':=by
 obtain⟨a,cap,rfl⟩:=h.shape;have T:∀k,k≤ps.length→txnK.fp (G a ps.length cap) (half z1p nmTxn c ps k)=txnK.fp (G a ps.length cap) ps:=fun k hk=>z5z z6U _ c ps k
 have HF:Hid (∀k,k≤ps.length→txnK.fp (G a ps.length cap) (half z1p nmTxn c ps k)=txnK.fp (G a ps.length cap) ps):=T;have HA:Hid (txnK.Own w (G a ps.length cap) (half z1p nmTxn c ps 0)):=by rw[z2E];exact h
 clear T h;go_enter func49,ntmps49
 go_wp2
 go_loopw[1,5] (fun j i wr=>∃k:Nat,k≤ps.length∧j=H Q (c+(nmL nmTxn (ps.take k):Int))∧i=H Q k∧Hid (txnK.Own wr (G a ps.length cap) (half z1p nmTxn c ps k))∧Hid (Out (txnK.fp (G a ps.length cap) ps) w wr)) (fun _ i _=>ps.length-(intOf i).toNat)
 case atStart=>exact⟨0,Nat.zero_le _,by simp[nmL],rfl,HA,Out.refl _ _⟩
 case round=>
  clear HA;obtain⟨k,hk,rfl,rfl,HO,HU⟩:=hrel;by_cases L:k<ps.length
  ·have au:(half z1p nmTxn c ps k).length=ps.length:=z1y _ _ _ _ _ hk;have hO:=HO.out;obtain⟨g,rfl⟩:=hO.blkOf (by omega);have U:(txnK.fp (G (some ⟨g,0,none⟩) ps.length cap) (half z1p nmTxn c ps k)).Nodup:=by rw[HF.out k hk];exact ak
   have W:Hid (∀x∈txnK.foot ps[k],x∈txnK.fp (G (some ⟨g,0,none⟩) ps.length cap) ps):=fun x hx=>by
    simp only[Kind.fp,List.mem_append,List.mem_flatMap];exact Or.inr ⟨_,Vg L,hx⟩
   have N:Hid (∀x∈[g],x∈txnK.fp (G (some ⟨g,0,none⟩) ps.length cap) ps):=fun x hx=>by
    simp only[Ve]at hx;subst hx;simp[Kind.fp,blk,Value.ownBlock]
   have ab:k<(half z1p nmTxn c ps k).length:=by omega
   have J:=z3O z1p nmTxn c ps k L;have z:txnK.Own wr (G (some ⟨g,0,none⟩) ps.length cap) ((half z1p nmTxn c ps k).set k ps[k]):=by
    have e:(half z1p nmTxn c ps k).set k ps[k]=half z1p nmTxn c ps k:=by
     rw[←J,List.set_getElem_self]
    rw[e];exact hO
   have D:(txnK.fp (G (some ⟨g,0,none⟩) ps.length cap) ((half z1p nmTxn c ps k).set k ps[k])).Nodup:=by
    have e:(half z1p nmTxn c ps k).set k ps[k]=half z1p nmTxn c ps k:=by
     rw[←J,List.set_getElem_self]
    rw[e];exact U
   clear J hO U;have V:=z3P z1p nmTxn c ps k L;have am:=z0S nmTxn ps k L;have ai:=z2w nmTxn ps (k+1);have ao:=z01 Va ps k L;have Z:Hid ((nmL nmTxn (ps.take (k+1)):Int)=(nmL nmTxn (ps.take k):Int)+(nmTxn ps[k]:Int)):=show _=_ by omega
   have an:(nmL nmTxn (ps.take k):Int)+(nmTxn ps[k]:Int)≤nmL nmTxn ps:=by omega
   have O:Hid ((half z1p nmTxn c ps k).set k (z1p (c+(nmL nmTxn (ps.take k):Int)) ps[k])=half z1p nmTxn c ps (k+1)):=V;clear V am ai HO;generalize half z1p nmTxn c ps k=hs at*;generalize al:ps[k]=p at*;clear al;obtain⟨ar,Y,M,A,d⟩:=p;have C:k<hs.length:=ab;dsimp only[nmTxn,Va]at Z an ao;generalize hy:(nmL nmTxn (ps.take k):Int)=y at*;have av:0≤y:=by omega
   clear hy;obtain⟨c0,f0⟩:=z.cell' C 0 (H Q ar) rfl;obtain⟨c1,f1⟩:=z.cell' C 1 (H Q Y) rfl;obtain⟨c2,f2⟩:=z.cell' C 2 (H Q M) rfl;obtain⟨c3,f3⟩:=z.cell' C 3 (A) rfl;have c0:wr.cell? ⟨g,k*4,none⟩=_:=c0;have f0:wr.frozen? ⟨g,k*4,none⟩=_:=f0;have c1:wr.cell? ⟨g,k*4+1,none⟩=_:=c1;have f1:wr.frozen? ⟨g,k*4+1,none⟩=_:=f1;have c2:wr.cell? ⟨g,k*4+2,none⟩=_:=c2;have f2:wr.frozen? ⟨g,k*4+2,none⟩=_:=f2;have c3:wr.cell? ⟨g,k*4+3,none⟩=_:=c3;have f3:wr.frozen? ⟨g,k*4+3,none⟩=_:=f3;obtain⟨E,I⟩:=z.store' D C (⟨c+y,Y,M,A,d⟩:TxnQ) 0 (H Q (c+y)) (by decide) rfl rfl (fun _ h=>h);have z:txnK.Own (wr.setCell ⟨g,k*4,none⟩ (H Q (c+y))) (G (some ⟨g,0,none⟩) ps.length cap) (hs.set k (⟨c+y,Y,M,A,d⟩:TxnQ)):=E;have D:=I;obtain⟨E,I⟩:=z.store' D C (⟨c+y,c+y+1,M,A,d⟩:TxnQ) 1 (H Q (c+y+1)) (by decide) rfl rfl (fun _ h=>h);have z:txnK.Own ((wr.setCell ⟨g,k*4,none⟩ (H Q (c+y))).setCell ⟨g,k*4+1,none⟩ (H Q (c+y+1))) (G (some ⟨g,0,none⟩) ps.length cap) (hs.set k (⟨c+y,c+y+1,M,A,d⟩:TxnQ)):=E;have D:=I;obtain⟨E,I⟩:=z.store' D C (⟨c+y,c+y+1,c+y+1+1,A,d⟩:TxnQ) 2 (H Q (c+y+1+1)) (by decide) rfl rfl (fun _ h=>h);have z:txnK.Own (((wr.setCell ⟨g,k*4,none⟩ (H Q (c+y))).setCell ⟨g,k*4+1,none⟩ (H Q (c+y+1))).setCell ⟨g,k*4+2,none⟩ (H Q (c+y+1+1))) (G (some ⟨g,0,none⟩) ps.length cap) (hs.set k (⟨c+y,c+y+1,c+y+1+1,A,d⟩:TxnQ)):=E;have D:=I;have HU:Hid (Out (txnK.fp (G (some ⟨g,0,none⟩) ps.length cap) ps) w (((wr.setCell ⟨g,k*4,none⟩ (H Q (c+y))).setCell ⟨g,k*4+1,none⟩ (H Q (c+y+1))).setCell ⟨g,k*4+2,none⟩ (H Q (c+y+1+1)))):=(((HU.out.trans ((Vh _ g (k*4) (H Q (c+y))).mono N.out)).trans ((Vh _ g (k*4+1) (H Q (c+y+1))).mono N.out)).trans ((Vh _ g (k*4+2) (H Q (c+y+1+1))).mono N.out))
   have aa:=z.elem' C;have X:actK.Own (((wr.setCell ⟨g,k*4,none⟩ (H Q (c+y))).setCell ⟨g,k*4+1,none⟩ (H Q (c+y+1))).setCell ⟨g,k*4+2,none⟩ (H Q (c+y+1+1))) A d:=aa;have ad:=q08 A d (c+y+1+1+1) _ X (by omega) (by omega) (by omega);obtain⟨ap,aq,af⟩:=X.shape;subst af;clear aa X
   go_wp2_with fail
   refine ad.mono ?_;rintro e ag ⟨rfl,aj,ae⟩;clear ad;obtain⟨E,I⟩:=z.turn' D C (⟨c+y,c+y+1,c+y+1+1,G ap d.length aq,z3p (c+y+1+1+1) d⟩:TxnQ) ae (fun x hx=>hx) rfl (by exact z8f _ _ _) (aj);have HU:Hid (Out (txnK.fp (G (some ⟨g,0,none⟩) ps.length cap) ps) w ag):=HU.out.trans (ae.mono (fun x hx=>W.out x (show x∈txnK.foot _ from(fun x hx=>hx) x hx)));have z:=E;have D:=I;have R:Hid (txnK.Own ag (G (some ⟨g,0,none⟩) ps.length cap) (half z1p nmTxn c ps (k+1))):=by rw[←O.out];exact z
   clear z D O W N
   go_wp2
   go_roundw
   case rel=>exact⟨k+1,by omega,by rw[Z.out];congr 1;omega,by go_num,R.out,HU.out⟩
   case measure=>simp[intOf];omega
  ·have ah:k=ps.length:=by omega
   subst ah;have hO:=HO.out;rw[z3N]at hO;rw[List.take_length];clear HF HO
   go_wp2
   go_ret;exact⟨rfl,hO,HU.out⟩
theorem z4y(v:Value)(ps:List TxnQ)(c:Int)(w:World)(h:txnK.At w v (mkL z1p nmTxn c ps))(hl:(ps.length+nmL Va ps)≤1048576)(h0:0≤c)(h1:c+(nmL nmTxn ps:Int)≤1099511627776):
  Calls m 95 #[v,H Q c] w fun e w'=>e=.returned (H Q (c+(nmL nmTxn ps:Int)))∧Below w.heap.size w w':=by
 obtain⟨a,cap,rfl⟩:=h.shape;have D:=z0U z1p nmTxn c ps;rw[D]at h⊢;have HM:Hid ((mkL z1p nmTxn c ps).length=ps.length):=D;clear D;go_enter func95,ntmps95
 go_wp2
 go_loopw[1,5] (fun j i wr=>∃k:Nat,k≤ps.length∧j=H Q (c+(nmL nmTxn (ps.take k):Int))∧i=H Q k∧Below w.heap.size w wr) (fun _ i _=>ps.length-(intOf i).toNat)
 case atStart=>exact⟨0,Nat.zero_le _,by simp[nmL],rfl,Below.refl _ _⟩
 case round=>
  obtain⟨k,hk,rfl,rfl,hb⟩:=hrel;by_cases C:k<ps.length
  ·have L:k<(mkL z1p nmTxn c ps).length:=by have:=HM.out;omega
   obtain⟨b,Y,rfl,ad,hc,M⟩:=(h.below hb).cell (by decide) k L;rw[z4n z1p nmTxn c ps k C]at hc M;have V:=z0S nmTxn ps k C;have T:=z2w nmTxn ps (k+1);have X:=z01 Va ps k C;have E:Hid ((nmL nmTxn (ps.take (k+1)):Int)=(nmL nmTxn (ps.take k):Int)+(nmTxn ps[k]:Int)):=show _=_ by omega
   have W:(nmL nmTxn (ps.take k):Int)+(nmTxn ps[k]:Int)≤nmL nmTxn ps:=by omega
   clear V T h;generalize U:ps[k]=p at*;clear U;obtain⟨Z,ab,aa,z,d⟩:=p;dsimp only[nmTxn,Va]at E W X;generalize hy:(nmL nmTxn (ps.take k):Int)=y at*;have ae:0≤y:=by omega
   clear hy;have A:∀j x,(txnK.cells (z1p (c+y) (⟨Z,ab,aa,z,d⟩:TxnQ)))[j]?=some x→wr.cell? ⟨b,Y+k*4+j,none⟩=some x:=hc;clear hc;have c0:=A 0 (H Q (c+y)) rfl;have c1:=A 1 (H Q (c+y+1)) rfl;have c2:=A 2 (H Q (c+y+1+1)) rfl;have c3:=A 3 (z) rfl;have r3:actK.At wr z (z3p (c+y+1+1+1) d):=M;have J:=fun w h=>q09 z d (c+y+1+1+1) w h (by omega) (by omega) (by omega)
   obtain⟨ag,ah,N⟩:=r3.shape;subst N;rw[Nat.add_zero]at c0;clear A;have af:¬(c+y+1+1+1+((d.length*3:Nat):Int)<0):=by omega
   go_wp2_with fail
   refine(J wr r3).mono ?_;rintro e w3 ⟨rfl,I⟩;replace hb:=hb.trans (I.mono hb.size);clear I J c0 c1 c2 c3
   go_wp2
   go_roundw
   case rel=>exact⟨k+1,by omega,by rw[E.out];congr 1;omega,by go_num,hb⟩
   case measure=>simp[intOf];omega
  ·have O:k=ps.length:=by omega
   subst O;rw[List.take_length]
   go_wp2
   go_ret;exact⟨rfl,hb⟩
theorem z06{A B:List Nat}(h:(A++B).Nodup):∀k∈B,k∉A:=fun k hk hk2=>(List.nodup_append.1 h).2.2 k hk2 k hk rfl
theorem z1u{A B:List Nat}(h:(A++B).Nodup):∀k∈A,k∉B:=fun k hk hk2=>(List.nodup_append.1 h).2.2 k hk k hk2 rfl
theorem z0l{P:Type}{K:Kind P}{v:Value}{hs:List P}{k:Nat}{p:P}(h:(K.fp v (hs.set k p)).Nodup)(hk:k<hs.length):(K.foot p).Nodup:=by
 have h2:=(List.nodup_append.1 h).2.1;rw[z5y hs k hk p]at h2;simp only[List.flatMap_append,List.flatMap_cons]at h2;exact(List.nodup_append.1 (List.nodup_append.1 h2).2.1).1
def z0z(c:Int)(p:RoundQ):RoundQ:=⟨p.vr,z1F (c) p.rep,p.vp,z1F (c+((p.rep.length:Nat):Int)) p.pro⟩
def nmRound(p:RoundQ):Nat:=p.rep.length+p.pro.length
theorem z4U(c:Int)(p:RoundQ):roundK.foot (z0z c p)=roundK.foot p:=by
 simp only[z0z,show∀p:RoundQ,roundK.foot p=intK.fp p.vr p.rep++intK.fp p.vp p.pro from fun _=>rfl,z1G,z1G]
theorem z8H(v:Value)(ps:List RoundQ)(c:Int)(w:World)(h:roundK.Own w v ps)(au:(roundK.fp v ps).Nodup)(hl:(ps.length+nmL RoundQ.n ps)≤1048576)(h0:0≤c)(h1:c+(nmL nmRound ps:Int)≤1099511627776):
  Calls m 50 #[v,H Q c] w fun e w'=>e=.returned (H Q (c+(nmL nmRound ps:Int)))∧roundK.Own w' v (mkL z0z nmRound c ps)∧Out (roundK.fp v ps) w w':=by
 obtain⟨a,cap,rfl⟩:=h.shape;have U:∀k,k≤ps.length→roundK.fp (G a ps.length cap) (half z0z nmRound c ps k)=roundK.fp (G a ps.length cap) ps:=fun k hk=>z5z z4U _ c ps k
 have HF:Hid (∀k,k≤ps.length→roundK.fp (G a ps.length cap) (half z0z nmRound c ps k)=roundK.fp (G a ps.length cap) ps):=U;have HA:Hid (roundK.Own w (G a ps.length cap) (half z0z nmRound c ps 0)):=by rw[z2E];exact h
 clear U h;go_enter func50,ntmps50
 go_wp2
 go_loopw[1,5] (fun j i wr=>∃k:Nat,k≤ps.length∧j=H Q (c+(nmL nmRound (ps.take k):Int))∧i=H Q k∧Hid (roundK.Own wr (G a ps.length cap) (half z0z nmRound c ps k))∧Hid (Out (roundK.fp (G a ps.length cap) ps) w wr)) (fun _ i _=>ps.length-(intOf i).toNat)
 case atStart=>exact⟨0,Nat.zero_le _,by simp[nmL],rfl,HA,Out.refl _ _⟩
 case round=>
  clear HA;obtain⟨k,hk,rfl,rfl,HO,HU⟩:=hrel;by_cases J:k<ps.length
  ·have aB:(half z0z nmRound c ps k).length=ps.length:=z1y _ _ _ _ _ hk;have hO:=HO.out;obtain⟨g,rfl⟩:=hO.blkOf (by omega);have V:(roundK.fp (G (some ⟨g,0,none⟩) ps.length cap) (half z0z nmRound c ps k)).Nodup:=by rw[HF.out k hk];exact au
   have M:Hid (∀x∈roundK.foot ps[k],x∈roundK.fp (G (some ⟨g,0,none⟩) ps.length cap) ps):=fun x hx=>by
    simp only[Kind.fp,List.mem_append,List.mem_flatMap];exact Or.inr ⟨_,Vg J,hx⟩
   have an:Hid (∀x∈[g],x∈roundK.fp (G (some ⟨g,0,none⟩) ps.length cap) ps):=fun x hx=>by
    simp only[Ve]at hx;subst hx;simp[Kind.fp,blk,Value.ownBlock]
   have ah:k<(half z0z nmRound c ps k).length:=by omega
   have I:=z3O z0z nmRound c ps k J;have z:roundK.Own wr (G (some ⟨g,0,none⟩) ps.length cap) ((half z0z nmRound c ps k).set k ps[k]):=by
    have e:(half z0z nmRound c ps k).set k ps[k]=half z0z nmRound c ps k:=by
     rw[←I,List.set_getElem_self]
    rw[e];exact hO
   have D:(roundK.fp (G (some ⟨g,0,none⟩) ps.length cap) ((half z0z nmRound c ps k).set k ps[k])).Nodup:=by
    have e:(half z0z nmRound c ps k).set k ps[k]=half z0z nmRound c ps k:=by
     rw[←I,List.set_getElem_self]
    rw[e];exact V
   clear I hO V;have W:=z3P z0z nmRound c ps k J;have aw:=z0S nmRound ps k J;have ap:=z2w nmRound ps (k+1);have ay:=z01 RoundQ.n ps k J;have ae:Hid ((nmL nmRound (ps.take (k+1)):Int)=(nmL nmRound (ps.take k):Int)+(nmRound ps[k]:Int)):=show _=_ by omega
   have ax:(nmL nmRound (ps.take k):Int)+(nmRound ps[k]:Int)≤nmL nmRound ps:=by omega
   have T:Hid ((half z0z nmRound c ps k).set k (z0z (c+(nmL nmRound (ps.take k):Int)) ps[k])=half z0z nmRound c ps (k+1)):=W;clear W aw ap HO;generalize half z0z nmRound c ps k=hs at*;generalize av:ps[k]=p at*;clear av;obtain⟨N,d,E,A⟩:=p;have C:k<hs.length:=ah;dsimp only[nmRound,RoundQ.n]at ae ax ay;generalize hy:(nmL nmRound (ps.take k):Int)=y at*;have aC:0≤y:=by omega
   clear hy;obtain⟨c0,f0⟩:=z.cell' C 0 (N) rfl;have c0:wr.cell? ⟨g,k*2,none⟩=_:=c0;have f0:wr.frozen? ⟨g,k*2,none⟩=_:=f0;have af:=z.elem' C;have Y:intK.Own wr N d:=af.1;have L:=z4o N d (c+y) _ Y (by omega) (by omega) (by omega);obtain⟨ak,al,ai⟩:=Y.shape;subst ai;clear af Y
   go_wp2_with fail
   refine L.mono ?_;rintro e O ⟨rfl,aq,ab⟩;clear L;obtain⟨X,aa⟩:=z.turn' D C (⟨G ak d.length al,z1F (c+y) d,E,A⟩:RoundQ) ab (fun x hx=>Vd _ hx) rfl (by simp only[show∀p:RoundQ,roundK.foot p=intK.fp p.vr p.rep++intK.fp p.vp p.pro from fun _=>rfl,z1G]) (⟨aq,(z.elem' C).2.out ab (z06 (z0l D C))⟩);have HU:Hid (Out (roundK.fp (G (some ⟨g,0,none⟩) ps.length cap) ps) w O):=HU.out.trans (ab.mono (fun x hx=>M.out x (show x∈roundK.foot _ from(fun x hx=>Vd _ hx) x hx)));have z:=X;have D:=aa;obtain⟨c1,f1⟩:=z.cell' C 1 (E) rfl;have c1:O.cell? ⟨g,k*2+1,none⟩=_:=c1;have f1:O.frozen? ⟨g,k*2+1,none⟩=_:=f1;have ag:=z.elem' C;have Z:intK.Own O E A:=ag.2;have L:=z4o E A (c+y+((d.length:Nat):Int)) _ Z (by omega) (by omega) (by omega);obtain⟨az,aA,aj⟩:=Z.shape;subst aj;clear ag Z
   go_wp2_with fail
   refine L.mono ?_;rintro e am ⟨rfl,ar,ad⟩;clear L;obtain⟨X,aa⟩:=z.turn' D C (⟨G ak d.length al,z1F (c+y) d,G az A.length aA,z1F (c+y+((d.length:Nat):Int)) A⟩:RoundQ) ad (fun x hx=>Vc _ (hx)) rfl (by simp only[show∀p:RoundQ,roundK.foot p=intK.fp p.vr p.rep++intK.fp p.vp p.pro from fun _=>rfl,z1G]) (⟨(z.elem' C).1.out ad (z1u (z0l D C)),ar⟩);have HU:Hid (Out (roundK.fp (G (some ⟨g,0,none⟩) ps.length cap) ps) w am):=HU.out.trans (ad.mono (fun x hx=>M.out x (show x∈roundK.foot _ from(fun x hx=>Vc _ (hx)) x hx)));have z:=X;have D:=aa;have R:Hid (roundK.Own am (G (some ⟨g,0,none⟩) ps.length cap) (half z0z nmRound c ps (k+1))):=by rw[←T.out];exact z
   clear z D T M an
   go_wp2
   go_roundw
   case rel=>exact⟨k+1,by omega,by rw[ae.out];congr 1;omega,by go_num,R.out,HU.out⟩
   case measure=>simp[intOf];omega
  ·have ao:k=ps.length:=by omega
   subst ao;have hO:=HO.out;rw[z3N]at hO;rw[List.take_length];clear HF HO
   go_wp2
   go_ret;exact⟨rfl,hO,HU.out⟩
theorem z8I(v:Value)(ps:List RoundQ)(c:Int)(w:World)(h:roundK.At w v (mkL z0z nmRound c ps))(hl:(ps.length+nmL RoundQ.n ps)≤1048576)(h0:0≤c)(h1:c+(nmL nmRound ps:Int)≤1099511627776):
  Calls m 96 #[v,H Q c] w fun e w'=>e=.returned (H Q (c+(nmL nmRound ps:Int)))∧Below w.heap.size w w':=by
 obtain⟨a,cap,rfl⟩:=h.shape;have J:=z0U z0z nmRound c ps;rw[J]at h⊢;have HM:Hid ((mkL z0z nmRound c ps).length=ps.length):=J;clear J;go_enter func96,ntmps96
 go_wp2
 go_loopw[1,5] (fun j i wr=>∃k:Nat,k≤ps.length∧j=H Q (c+(nmL nmRound (ps.take k):Int))∧i=H Q k∧Below w.heap.size w wr) (fun _ i _=>ps.length-(intOf i).toNat)
 case atStart=>exact⟨0,Nat.zero_le _,by simp[nmL],rfl,Below.refl _ _⟩
 case round=>
  obtain⟨k,hk,rfl,rfl,hb⟩:=hrel;by_cases I:k<ps.length
  ·have T:k<(mkL z0z nmRound c ps).length:=by have:=HM.out;omega
   obtain⟨b,ae,rfl,af,hc,U⟩:=(h.below hb).cell (by decide) k T;rw[z4n z0z nmRound c ps k I]at hc U;have aa:=z0S nmRound ps k I;have Y:=z2w nmRound ps (k+1);have ad:=z01 RoundQ.n ps k I;have L:Hid ((nmL nmRound (ps.take (k+1)):Int)=(nmL nmRound (ps.take k):Int)+(nmRound ps[k]:Int)):=show _=_ by omega
   have ab:(nmL nmRound (ps.take k):Int)+(nmRound ps[k]:Int)≤nmL nmRound ps:=by omega
   clear aa Y h;generalize Z:ps[k]=p at*;clear Z;obtain⟨C,d,A,z⟩:=p;dsimp only[nmRound,RoundQ.n]at L ab ad;generalize hy:(nmL nmRound (ps.take k):Int)=y at*;have ag:0≤y:=by omega
   clear hy;have E:∀j x,(roundK.cells (z0z (c+y) (⟨C,d,A,z⟩:RoundQ)))[j]?=some x→wr.cell? ⟨b,ae+k*2+j,none⟩=some x:=hc;clear hc;have c0:=E 0 (C) rfl;have c1:=E 1 (A) rfl;obtain⟨r0,r1⟩:intK.At wr C (z1F (c+y) d)∧intK.At wr A (z1F (c+y+((d.length:Nat):Int)) z):=U;have N:=fun w h=>z4p C d (c+y) w h (by omega) (by omega) (by omega)
   have O:=fun w h=>z4p A z (c+y+((d.length:Nat):Int)) w h (by omega) (by omega) (by omega)
   obtain⟨aj,al,V⟩:=r0.shape;subst V;obtain⟨ak,am,W⟩:=r1.shape;subst W;rw[Nat.add_zero]at c0;clear E;have ah:¬(c+y+((d.length:Nat):Int)<0):=by omega
   go_wp2_with fail
   refine(N wr r0).mono ?_;rintro e w0 ⟨rfl,D⟩;replace hb:=hb.trans (D.mono hb.size);replace c1:=(D.cell (p:=⟨b,_,none⟩) (World.block_lt_of_cell? _ _ c1)).trans c1;replace r1:=r1.below D;clear D N c0;have ai:¬(c+y+((d.length:Nat):Int)+((z.length:Nat):Int)<0):=by omega
   go_wp2_with fail
   refine(O w0 r1).mono ?_;rintro e w1 ⟨rfl,M⟩;replace hb:=hb.trans (M.mono hb.size);clear M O c1
   go_wp2
   go_roundw
   case rel=>exact⟨k+1,by omega,by rw[L.out];congr 1;omega,by go_num,hb⟩
   case measure=>simp[intOf];omega
  ·have X:k=ps.length:=by omega
   subst X;rw[List.take_length]
   go_wp2
   go_ret;exact⟨rfl,hb⟩
theorem q4d(ps:List TxnQ):nmL nmTxn ps≤3*(ps.length+nmL Va ps):=by
 induction ps with
 |nil=>simp[nmL]
 |cons p r ih=>
  simp only[nmL,List.map_cons,List.sum_cons,List.length_cons]at ih⊢;simp only[nmTxn,Va]at ih⊢;omega
theorem q1o(ps:List RoundQ):nmL nmRound ps≤nmL RoundQ.n ps:=by
 induction ps with
 |nil=>simp[nmL]
 |cons p r ih=>
  simp only[nmL,List.map_cons,List.sum_cons]at ih⊢;simp only[nmRound,RoundQ.n]at ih⊢;omega
theorem q6k{q p:InstQ}(h:q.e=p.e):q.n=p.n:=by
 simp only[InstQ.e,InstE.mk.injEq]at h;obtain⟨_,h1,h2,h3⟩:=h;have t1:q.batch.length=p.batch.length:=by simpa using congrArg List.length h1
 have t2:nmL Va q.batch=nmL Va p.batch:=by
  have:=congrArg (fun l=>nmL (fun d:TxnD=>d.acts.length) l) h1;simp only[nmL,List.map_map]at this;exact this
 have t3:q.rounds.length=p.rounds.length:=by simpa using congrArg List.length h2
 have t4:nmL RoundQ.n q.rounds=nmL RoundQ.n p.rounds:=by
  have:=congrArg (fun l=>nmL (fun d:RoundE=>d.rep.length+d.pro.length) l) h2;simp only[nmL,List.map_map]at this;exact this
 unfold InstQ.n;rw[t1,t2,t3,t4,h3]
abbrev q50(code cc:Int)(cd ck:Bool)(cx:Int)(p:InstQ):Array Value:=#[H Q code,H Q cc,.bool cd,.bool ck,H Q cx,.bool p.has,p.vb,p.vr,p.vd]
def z7C:InstQ:=⟨false,G none 0 0,[],G none 0 0,[],G none 0 0,[]⟩
def q0y:InstE:=⟨false,[],[],[]⟩
theorem z2R(w:World):instK.own w z7C:=⟨(Kind.own_nil w).1,(Kind.own_nil w).1,(Kind.own_nil w).1⟩
theorem z20:instK.foot z7C=[]:=by
 show txnK.fp _ _++(roundK.fp _ _++intK.fp _ _)=[]
 simp[z7C,Kind.fp,blk,Value.ownBlock]
theorem z31:(instK.foot z7C).Nodup:=by rw[z20];simp
theorem q5v{has has':Bool}{vb vb':Value}{rs:List RoundE}{dec:List Int}(h:Wel rs)(h4:rs.length≤4):((brdC has vb rs dec).toArray.setIfInBounds 25 (.bool has')).setIfInBounds 26 vb'=(brdC has' vb' rs dec).toArray:=by
 have hl:=z0u h h4;rw[List.setIfInBounds_toArray,List.setIfInBounds_toArray]
 congr 1
 unfold brdC;rw[List.set_append_right _ _ (by omega),List.set_append_right _ _ (by omega),hl];rfl
theorem z4V:(m.info? 66).map (·.size)=some 9:=by kernel_rfl
def sbC(x:InstE)(ds:List TxnD):Int:=if insF x=0 then(if x.has then 6 else batF ds)else insF x
def sbI(x:InstE)(ds:List TxnD):InstE:=if sbC x ds=0 then⟨true,ds,x.rounds,x.dec⟩else q0y
theorem q4e(i s q:Int):txnF i s q []≠0:=by
 unfold txnF;split<;>simp
theorem z9T{bt:List TxnQ}(h:batF (bt.map f)=0):∀p∈bt,0<p.acts.length:=by
 intro p hp;have ha:allF (bt.map f)=0:=by
  unfold batF at h;split at h
  ·omega
  ·split at h
   ·assumption
   ·exact h
 have hz:∀ (ds:List TxnD),allF ds=0→∀d∈ds,d.F=0:=by
  intro ds;induction ds with
  |nil=>intro _ d hd;simp at hd
  |cons x r ih=>
   intro h d hd;simp only[allF]at h;by_cases hx:x.F=0
   ·rw[if_pos hx]at h;rcases List.mem_cons.1 hd with rfl|hd
    ·exact hx
    ·exact ih h d hd
   ·rw[if_neg hx]at h;exact absurd h hx
 have hf:=hz _ ha p.e (List.mem_map.2 ⟨p,hp,rfl⟩);show 0<p.acts.length;have hf':txnF p.i p.s p.q p.acts=0:=hf;rcases Nat.eq_zero_or_pos p.acts.length with h0|h0
 ·exfalso
  have:p.acts=[]:=List.eq_nil_of_length_eq_zero h0;rw[this]at hf';exact q4e _ _ _ hf'
 ·exact h0
theorem z48(p:InstQ)(vn:Value)(bt:List TxnQ)(w:World)(hG:Rul w)(h:instK.rd w p)(hl:p.n≤1048576)(hT:txnK.At w vn bt)(aA:bt.length+nmL Va bt≤1048576):
  Calls m 23 #[.agg #[.bool p.has,p.vb,p.vr,p.vd],vn] w fun e w'=>∃q:InstQ,e=.returned (.agg (q50 (sbC p.e (bt.map f)) 0 false false 0 q))∧q.e=sbI p.e (bt.map f)∧instK.own w' q∧(instK.foot q).Nodup∧(∀k∈instK.foot q,w.heap.size≤k)∧Below w.heap.size w w':=by
 obtain⟨ai,aa⟩:=q5r h;have ah:=fun w hG h=>z3G p w hG h hl
 have aq:=fun(w':World) hb=>instK.rd_below (w':=w') h hb
 have ag:=fun w (hT:txnK.At w vn bt)=>z3t vn (bt.map f) w (z3U hT) (by rw[List.length_map,z7m];omega)
 have Y:=fun(hp:batF (bt.map f)=0) (rs:List RoundE) (dec:List Int) w (hT:txnK.At w vn bt) hw h4 h3=>z8C true vn bt rs dec w hT (z9T hp) aA hw h4 h3
 change∀w hG h,Calls _ _ _ _ fun e w'=>e=.returned (.tuple #[.agg (bdOf p).toArray,_])∧_ at ah
 have U:Hid (insF p.e=0→bdOf p=brdC p.has p.vb p.e.rounds p.dec∧Wel p.e.rounds∧p.e.rounds.length≤4∧p.dec.length=3):=fun h0=>by
  obtain⟨h1,h2,h3,_⟩:=z8A h0;exact⟨if_pos h0,h1,h2.2,h3⟩
 obtain⟨D,hD⟩:∃D,sbC p.e (bt.map f)=D:=⟨_,rfl⟩
 obtain⟨E,hE⟩:∃E,sbI p.e (bt.map f)=E:=⟨_,rfl⟩
 have A:Hid ((insF p.e≠0→D=insF p.e∧E=q0y)∧(insF p.e=0→p.has=true→D=6∧E=q0y)∧(insF p.e=0→p.has=false→batF (bt.map f)≠0→D=batF (bt.map f)∧E=q0y)∧(insF p.e=0→p.has=false→batF (bt.map f)=0→D=0∧E=⟨true,bt.map f,p.e.rounds,p.dec⟩)):=by
  have ap:p.e.has=p.has:=rfl;refine⟨fun h0=>?_,fun h0 h1=>?_,fun h0 h1 h2=>?_,fun h0 h1 h2=>?_⟩
  ·have e:D=insF p.e:=by rw[←hD];exact if_neg h0
   exact⟨e,by rw[←hE];exact if_neg (by rw[hD,e];exact h0)⟩
  ·have e:D=6:=by rw[←hD];unfold sbC;rw[if_pos h0,ap,h1];rfl
   exact⟨e,by rw[←hE];exact if_neg (by rw[hD,e];decide)⟩
  ·have e:D=batF (bt.map f):=by rw[←hD];unfold sbC;rw[if_pos h0,ap,h1];rfl
   exact⟨e,by rw[←hE];exact if_neg (by rw[hD,e];exact h2)⟩
  ·have e:D=0:=by rw[←hD];unfold sbC;rw[if_pos h0,ap,h1];exact h2
   exact⟨e,by rw[←hE];exact if_pos (by rw[hD,e])⟩
 rw[hD,hE];clear hD hE;generalize bdOf p=BD at*;generalize insF p.e=C at*;generalize p.e.rounds=rs at*;generalize aD:bt.map f=am at*;generalize O:batF am=BF at*;clear O;obtain⟨has,vb,d,vr,x,vd,dec⟩:=p;obtain⟨ba,bk,rfl⟩:∃a c,vb=G a d.length c:=h.1.shape;obtain⟨va,vk,rfl⟩:∃a c,vr=G a x.length c:=h.2.1.shape;obtain⟨da,dk,rfl⟩:∃a c,vd=G a dec.length c:=h.2.2.shape;obtain⟨na,nk,rfl⟩:=hT.shape;dsimp only at ah aq U A;have hB:Below w.heap.size w ((w.alloc (.cells #[.bool has,G ba d.length bk,G va x.length vk,G da dec.length dk] 64)).alloc (.cells #[H Q 0,H Q 0,.bool false,.bool false,H Q 0,.bool false,G none 0 0,G none 0 0,G none 0 0] 66)):=by go_grown
 have Rb:=Blk.new (w.alloc (.cells #[.bool has,G ba d.length bk,G va x.length vk,G da dec.length dk] 64)) 66 #[H Q 0,H Q 0,.bool false,.bool false,H Q 0,.bool false,G none 0 0,G none 0 0,G none 0 0];simp only[World.size_alloc]at Rb;have ab:(m.info? 105).map (·.size)=some BD.toArray.size:=by rw[List.size_toArray,ai];exact z2l
 have Z:(#[H Q 0,H Q 0,H Q 0,H Q 0,H Q 0,H Q 0,H Q 0,H Q 0,H Q 0,H Q 0,H Q 0,H Q 0,H Q 0,H Q 0,H Q 0,H Q 0,H Q 0,H Q 0,H Q 0,H Q 0,H Q 0,H Q 0,H Q 0,H Q 0,H Q 0,.bool false,G none 0 0,H Q 0,H Q 0,H Q 0]:Array Value).size=BD.toArray.size:=(show 30=BD.length from ai.symm)
 go_enter func23,ntmps23
 go_wp2_with fail
 generalize ((w.alloc (.cells #[.bool has,G ba d.length bk,G va x.length vk,G da dec.length dk] 64)).alloc (.cells #[H Q 0,H Q 0,.bool false,.bool false,H Q 0,.bool false,G none 0 0,G none 0 0,G none 0 0] 66))=W at*;refine(ah W (hG.below hB) (aq W hB)).mono ?_;rintro e w1 ⟨rfl,an⟩;replace hB:=hB.trans (an.mono hB.size);replace Rb:=Rb.below an;have Bz:=Blk.new w1 105 #[H Q 0,H Q 0,H Q 0,H Q 0,H Q 0,H Q 0,H Q 0,H Q 0,H Q 0,H Q 0,H Q 0,H Q 0,H Q 0,H Q 0,H Q 0,H Q 0,H Q 0,H Q 0,H Q 0,H Q 0,H Q 0,H Q 0,H Q 0,H Q 0,H Q 0,.bool false,G none 0 0,H Q 0,H Q 0,H Q 0];have I:=z0m (hB.alloc hB.size (.cells #[H Q 0,H Q 0,H Q 0,H Q 0,H Q 0,H Q 0,H Q 0,H Q 0,H Q 0,H Q 0,H Q 0,H Q 0,H Q 0,H Q 0,H Q 0,H Q 0,H Q 0,H Q 0,H Q 0,H Q 0,H Q 0,H Q 0,H Q 0,H Q 0,H Q 0,.bool false,G none 0 0,H Q 0,H Q 0,H Q 0] 105)) (g:=w1.heap.size) hB.size BD.toArray;have y:Blk ((w1.alloc (.cells #[H Q 0,H Q 0,H Q 0,H Q 0,H Q 0,H Q 0,H Q 0,H Q 0,H Q 0,H Q 0,H Q 0,H Q 0,H Q 0,H Q 0,H Q 0,H Q 0,H Q 0,H Q 0,H Q 0,H Q 0,H Q 0,H Q 0,H Q 0,H Q 0,H Q 0,.bool false,G none 0 0,H Q 0,H Q 0,H Q 0] 105)).setRow w1.heap.size BD.toArray) (w.heap.size+1) 66 #[H Q 0,H Q 0,.bool false,.bool false,H Q 0,.bool false,G none 0 0,G none 0 0,G none 0 0]:=(setRow_other _ _ _ _ (by have:=Rb.lt;omega)).trans (Rb.below ((Below.refl _ _).alloc (Nat.le_refl _) _));have B2:=Bz.row BD.toArray;have aB:=Rb.lt;clear ah aq an Rb;by_cases h0:C=0
 case neg=>
  have E1:Hid (D=C∧E=q0y):=A.out.1 h0;have az:(C !=0)=true:=by simpa using h0
  clear A U h0 B2 ag Y;have Rr:=y.row #[H Q C,H Q 0,.bool false,.bool false,H Q 0,.bool false,G none 0 0,G none 0 0,G none 0 0];have N:=z0m I (g:=w.heap.size+1) (by omega) #[H Q C,H Q 0,.bool false,.bool false,H Q 0,.bool false,G none 0 0,G none 0 0,G none 0 0];have T:(m.info? 66).map (·.size)=some (#[H Q C,H Q 0,.bool false,.bool false,H Q 0,.bool false,G none 0 0,G none 0 0,G none 0 0]:Array Value).size:=z4V
  go_wp2_with (first|(refine z0s (by kernel_rfl) 105 _ _ rfl _ BD.toArray rfl rfl 105 _ Bz ab Z aa ?_)|(refine z0s (by kernel_rfl) 66 _ _ rfl _ #[H Q C,H Q 0,.bool false,.bool false,H Q 0,.bool false,G none 0 0,G none 0 0,G none 0 0] rfl rfl 66 _ y T rfl (by simp[Value.oneCell']) ?_))
  obtain⟨q0,q1,q2,q3,q4,q5,q6,q7,q8⟩:=Rr.cel9;exact bodyPost_ret (v:=.agg #[H Q C,H Q 0,.bool false,.bool false,H Q 0,.bool false,G none 0 0,G none 0 0,G none 0 0]) (by simp[results,results23,go_sem,q0,q1,q2,q3,q4,q5,q6,q7,q8]) rfl ⟨z7C,by rw[E1.out.1];rfl,E1.out.2.symm,z2R _,z31,fun k hk=>by rw[z20]at hk;simp at hk,N⟩
 case pos=>
  obtain⟨ae,z,h4,au⟩:=U.out h0;have al:((w1.alloc (.cells #[H Q 0,H Q 0,H Q 0,H Q 0,H Q 0,H Q 0,H Q 0,H Q 0,H Q 0,H Q 0,H Q 0,H Q 0,H Q 0,H Q 0,H Q 0,H Q 0,H Q 0,H Q 0,H Q 0,H Q 0,H Q 0,H Q 0,H Q 0,H Q 0,H Q 0,.bool false,G none 0 0,H Q 0,H Q 0,H Q 0] 105)).setRow w1.heap.size BD.toArray).cell? ⟨w1.heap.size,25,none⟩=some (.bool has):=B2.cell 25 _ (by rw[List.getElem?_toArray,ae];exact z7o z h4);subst h0
  cases has with
  |true=>
   have E1:Hid (D=6∧E=q0y):=A.out.2.1 rfl rfl;clear A U B2 ag Y ae;have Rr:=y.row #[H Q 6,H Q 0,.bool false,.bool false,H Q 0,.bool false,G none 0 0,G none 0 0,G none 0 0];have N:=z0m I (g:=w.heap.size+1) (by omega) #[H Q 6,H Q 0,.bool false,.bool false,H Q 0,.bool false,G none 0 0,G none 0 0,G none 0 0];have T:(m.info? 66).map (·.size)=some (#[H Q 6,H Q 0,.bool false,.bool false,H Q 0,.bool false,G none 0 0,G none 0 0,G none 0 0]:Array Value).size:=z4V
   go_wp2_with (first|(refine z0s (by kernel_rfl) 105 _ _ rfl _ BD.toArray rfl rfl 105 _ Bz ab Z aa ?_)|(refine z0s (by kernel_rfl) 66 _ _ rfl _ #[H Q 6,H Q 0,.bool false,.bool false,H Q 0,.bool false,G none 0 0,G none 0 0,G none 0 0] rfl rfl 66 _ y T rfl (by simp[Value.oneCell']) ?_))
   obtain⟨q0,q1,q2,q3,q4,q5,q6,q7,q8⟩:=Rr.cel9;exact bodyPost_ret (v:=.agg #[H Q 6,H Q 0,.bool false,.bool false,H Q 0,.bool false,G none 0 0,G none 0 0,G none 0 0]) (by simp[results,results23,go_sem,q0,q1,q2,q3,q4,q5,q6,q7,q8]) rfl ⟨z7C,by rw[E1.out.1];rfl,E1.out.2.symm,z2R _,z31,fun k hk=>by rw[z20]at hk;simp at hk,N⟩
  |false=>
   have E4:Hid ((BF≠0→D=BF∧E=q0y)∧(BF=0→D=0∧E=⟨true,am,rs,dec⟩)):=⟨A.out.2.2.1 rfl rfl,A.out.2.2.2 rfl rfl⟩
   have ad:Hid (BD=brdC false (G ba d.length bk) rs dec):=ae;have ar:Hid (dec.length=3):=au;clear A U ae au
   go_wp2_with (first|(refine z0s (by kernel_rfl) 105 _ _ rfl _ BD.toArray rfl rfl 105 _ Bz ab Z aa ?_))
   clear al;generalize ((w1.alloc (.cells #[H Q 0,H Q 0,H Q 0,H Q 0,H Q 0,H Q 0,H Q 0,H Q 0,H Q 0,H Q 0,H Q 0,H Q 0,H Q 0,H Q 0,H Q 0,H Q 0,H Q 0,H Q 0,H Q 0,H Q 0,H Q 0,H Q 0,H Q 0,H Q 0,H Q 0,.bool false,G none 0 0,H Q 0,H Q 0,H Q 0] 105)).setRow w1.heap.size BD.toArray)=X at*;refine(ag X (hT.below I)).mono ?_;rintro e w2 ⟨rfl,af⟩;replace y:=y.below af;replace B2:=B2.below af;replace I:=I.trans (af.mono I.size);clear af ag Bz;by_cases O:BF=0
   case neg=>
    have E1:Hid (D=BF∧E=q0y):=E4.out.1 O;have az:(BF !=0)=true:=by simpa using O
    clear E4 O Y;have Rr:=y.row #[H Q BF,H Q 0,.bool false,.bool false,H Q 0,.bool false,G none 0 0,G none 0 0,G none 0 0];have N:=z0m I (g:=w.heap.size+1) (by omega) #[H Q BF,H Q 0,.bool false,.bool false,H Q 0,.bool false,G none 0 0,G none 0 0,G none 0 0];have T:(m.info? 66).map (·.size)=some (#[H Q BF,H Q 0,.bool false,.bool false,H Q 0,.bool false,G none 0 0,G none 0 0,G none 0 0]:Array Value).size:=z4V
    go_wp2_with (first|(refine z0s (by kernel_rfl) 66 _ _ rfl _ #[H Q BF,H Q 0,.bool false,.bool false,H Q 0,.bool false,G none 0 0,G none 0 0,G none 0 0] rfl rfl 66 _ y T rfl (by simp[Value.oneCell']) ?_))
    obtain⟨q0,q1,q2,q3,q4,q5,q6,q7,q8⟩:=Rr.cel9;exact bodyPost_ret (v:=.agg #[H Q BF,H Q 0,.bool false,.bool false,H Q 0,.bool false,G none 0 0,G none 0 0,G none 0 0]) (by simp[results,results23,go_sem,q0,q1,q2,q3,q4,q5,q6,q7,q8]) rfl ⟨z7C,by rw[E1.out.1];rfl,E1.out.2.symm,z2R _,z31,fun k hk=>by rw[z20]at hk;simp at hk,N⟩
   case pos=>
    have E1:Hid (D=0∧E=⟨true,am,rs,dec⟩):=E4.out.2 O;subst O;clear E4;have X3:=(B2.set 25 (.bool true)).set 26 (G na bt.length nk);rw[ad.out,q5v z h4]at X3;have X4:=rng X3 (brdC true (G na bt.length nk) rs dec) (o:=0) (fun j v hv=>by rw[Nat.zero_add,List.getElem?_toArray];exact hv);have aE:w.heap.size+2≤w1.heap.size:=by omega
    have V:Below w.heap.size w ((w2.setCell ⟨w1.heap.size,25,none⟩ (.bool true)).setCell ⟨w1.heap.size,26,none⟩ (G na bt.length nk)):=(I.setCell (p:=⟨w1.heap.size,25,none⟩) (by show w.heap.size≤w1.heap.size;omega) _).setCell (p:=⟨w1.heap.size,26,none⟩) (by show w.heap.size≤w1.heap.size;omega) _;have R3:Blk ((w2.setCell ⟨w1.heap.size,25,none⟩ (.bool true)).setCell ⟨w1.heap.size,26,none⟩ (G na bt.length nk)) (w.heap.size+1) 66 #[H Q 0,H Q 0,.bool false,.bool false,H Q 0,.bool false,G none 0 0,G none 0 0,G none 0 0]:=(y.other (b':=w1.heap.size) (by omega) _ _).other (b':=w1.heap.size) (by omega) _ _;have ak:(m.info? 105).map (·.size)=some (brdC true (G na bt.length nk) rs dec).length:=by rw[z2k z h4 ar.out];exact z2l
    have al:w2.cell? ⟨w1.heap.size,25,none⟩=some (.bool false):=B2.cell 25 _ (by rw[List.getElem?_toArray,ad.out];exact z7o z h4);have aw:w2.cell? ⟨w1.heap.size,26,none⟩=some (G ba d.length bk):=B2.cell 26 _ (by rw[List.getElem?_toArray,ad.out];exact q2u z h4);have ax:=B2.frozen 25;have ay:=B2.frozen 26;clear B2 y ad
    go_wp2_with (first|(refine z9J (by kernel_rfl) 105 _ rfl _ _ rfl (brdC true (G na bt.length nk) rs dec) _ X4 Tryz.underlying105 rfl ak ?_))
    clear al aw ax ay X4 X3 ak;generalize (w2.setCell ⟨w1.heap.size,25,none⟩ (.bool true)).setCell ⟨w1.heap.size,26,none⟩ (G na bt.length nk)=X5 at*;refine(Y (by trivial) rs dec X5 (hT.below V) z h4 ar.out).mono ?_;rintro e w5 ⟨q,rfl,eq,oq,nq,gq,ao⟩;have R5:=R3.below ao;have aC:=R3.lt;have L5:∀k∈instK.foot q,w.heap.size+2≤k:=fun k hk=>by have:=gq k hk;omega
    replace V:=V.trans (ao.mono V.size);clear Y gq ao R3;have aj:∀cs,instK.own (w5.setRow (w.heap.size+1) cs) q:=fun cs=>instK.own_out oq (z0v w5 (w.heap.size+1) cs) (fun k hk=>by have:=L5 k hk;simp only[Ve];omega)
    have HQ:Hid (q.e=E∧(instK.foot q).Nodup∧(∀k∈instK.foot q,w.heap.size≤k)∧∀cs,instK.own (w5.setRow (w.heap.size+1) cs) q):=⟨by rw[eq,E1.out.2],nq,fun k hk=>by have:=L5 k hk;omega,aj⟩
    have av:Hid (D=0):=E1.out.1;clear E1 eq nq aj L5;obtain⟨qh,qb,J,qr,M,qd,L⟩:=q;obtain⟨s1,t1,rfl⟩:∃a c,qb=G a J.length c:=oq.1.shape;obtain⟨s2,t2,rfl⟩:∃a c,qr=G a M.length c:=oq.2.1.shape;obtain⟨s3,t3,rfl⟩:∃a c,qd=G a L.length c:=oq.2.2.shape;have Rr:=R5.row #[H Q 0,H Q 0,.bool false,.bool false,H Q 0,.bool qh,G s1 J.length t1,G s2 M.length t2,G s3 L.length t3];have N:=z0m V (g:=w.heap.size+1) (by omega) #[H Q 0,H Q 0,.bool false,.bool false,H Q 0,.bool qh,G s1 J.length t1,G s2 M.length t2,G s3 L.length t3];have T:(m.info? 66).map (·.size)=some (#[H Q 0,H Q 0,.bool false,.bool false,H Q 0,.bool qh,G s1 J.length t1,G s2 M.length t2,G s3 L.length t3]:Array Value).size:=z4V;clear oq
    go_wp2_with (first|(refine z0s (by kernel_rfl) 66 _ _ rfl _ #[H Q 0,H Q 0,.bool false,.bool false,H Q 0,.bool qh,G s1 J.length t1,G s2 M.length t2,G s3 L.length t3] rfl rfl 66 _ R5 T rfl (by simp[Value.oneCell']) ?_))
    obtain⟨q0,q1,q2,q3,q4,q5,q6,q7,q8⟩:=Rr.cel9;exact bodyPost_ret (v:=.agg #[H Q 0,H Q 0,.bool false,.bool false,H Q 0,.bool qh,G s1 J.length t1,G s2 M.length t2,G s3 L.length t3]) (by simp[results,results23,go_sem,q0,q1,q2,q3,q4,q5,q6,q7,q8]) rfl ⟨⟨qh,G s1 J.length t1,J,G s2 M.length t2,M,G s3 L.length t3,L⟩,by rw[av.out],HQ.out.1,HQ.out.2.2.2 _,HQ.out.2.1,HQ.out.2.2.1,N⟩
theorem z6V(p:InstQ)(w:World)(h:instK.rd w p)(hl:p.n≤1048576)(aN:∀t∈p.batch,0<t.acts.length)(aQ:∀r∈p.rounds,0<r.rep.length∧0<r.pro.length)(aJ:0<p.dec.length):
  Calls m 69 #[.agg #[.bool p.has,p.vb,p.vr,p.vd]] w fun e w'=>∃q:InstQ,e=.returned (.agg #[.bool q.has,q.vb,q.vr,q.vd])∧q.e=p.e∧instK.own w' q∧(instK.foot q).Nodup∧(∀k∈instK.foot q,w.heap.size≤k)∧Below w.heap.size w w':=by
 obtain⟨has,vb,d,vr,c,vd,dec⟩:=p;obtain⟨h1,h2,h3⟩:txnK.At w vb d∧roundK.At w vr c∧intK.At w vd dec:=h;obtain⟨ba,bk,rfl⟩:=h1.shape;obtain⟨va,vk,rfl⟩:=h2.shape;obtain⟨da,dk,rfl⟩:=h3.shape;dsimp only[InstQ.n]at hl aN aQ aJ;have ak:=fun w (hT:txnK.At w (G ba d.length bk) d)=>z1Q _ d w hT aN (by omega)
 have aa:=fun w (hT:intK.At w (G da dec.length dk) dec)=>z4w _ dec w hT aJ (by omega)
 have hB:Below w.heap.size w ((w.alloc (.cells #[.bool has,G ba d.length bk,G va c.length vk,G da dec.length dk] 64)).alloc (.cells #[.bool false,G none 0 0,G none 0 0,G none 0 0] 64)):=by go_grown
 have Bx:=Blk.new w 64 #[.bool has,G ba d.length bk,G va c.length vk,G da dec.length dk];have aG:Below (w.alloc (.cells #[.bool has,G ba d.length bk,G va c.length vk,G da dec.length dk] 64)).heap.size (w.alloc (.cells #[.bool has,G ba d.length bk,G va c.length vk,G da dec.length dk] 64)) ((w.alloc (.cells #[.bool has,G ba d.length bk,G va c.length vk,G da dec.length dk] 64)).alloc (.cells #[.bool false,G none 0 0,G none 0 0,G none 0 0] 64)):=by go_grown
 have Rb:=Blk.new (w.alloc (.cells #[.bool has,G ba d.length bk,G va c.length vk,G da dec.length dk] 64)) 64 #[.bool false,G none 0 0,G none 0 0,G none 0 0];rw[World.size_alloc]at Rb;replace Bx:=Bx.below aG;clear aG;have br:w.heap.size+2≤((w.alloc (.cells #[.bool has,G ba d.length bk,G va c.length vk,G da dec.length dk] 64)).alloc (.cells #[.bool false,G none 0 0,G none 0 0,G none 0 0] 64)).heap.size:=by simp
 go_enter func69,ntmps69
 go_wp2_with fail
 generalize ((w.alloc (.cells #[.bool has,G ba d.length bk,G va c.length vk,G da dec.length dk] 64)).alloc (.cells #[.bool false,G none 0 0,G none 0 0,G none 0 0] 64))=W at*;refine z1m [some 5,some 6,some 7,some 8,some 9,some 10,some 11,some 12,some 13,some 3] (fun vs w'=>∃ (s1:Option Addr) (t1:Nat) (q1:List TxnQ) (a3:Option Addr) (c3 g:Nat),vs=[.pointer (some ⟨w.heap.size,0,none⟩),.bool has,.pointer (some ⟨w.heap.size,1,none⟩),G ba d.length bk,G s1 q1.length t1,.pointer (some ⟨w.heap.size,3,none⟩),G da dec.length dk,G a3 dec.length c3,.agg #[.bool has,G s1 q1.length t1,G none 0 0,G a3 dec.length c3],.pointer (some ⟨g,0,none⟩)]∧W.heap.size≤g∧Blk w' g 64 #[.bool has,G s1 q1.length t1,G none 0 0,G a3 dec.length c3]∧q1.map f=d.map f∧txnK.Own w' (G s1 q1.length t1) q1∧(txnK.fp (G s1 q1.length t1) q1).Nodup∧(∀k∈txnK.fp (G s1 q1.length t1) q1,W.heap.size≤k)∧(∀k∈txnK.fp (G s1 q1.length t1) q1,k≠g)∧intK.Own w' (G a3 dec.length c3) dec∧(∀k∈intK.fp (G a3 dec.length c3) dec,W.heap.size≤k)∧(∀k∈intK.fp (G a3 dec.length c3) dec,k≠g)∧(∀x∈txnK.fp (G s1 q1.length t1) q1,∀y∈intK.fp (G a3 dec.length c3) dec,x≠y)∧Below W.heap.size W w') ?_ ?_
 ·have hW:Below W.heap.size W W.drew:=(Below.refl _ _).drew;have aP:Nonempty (Lat W):=⟨⟨W,Below.refl _ _⟩⟩
  obtain⟨p0,p1⟩:=Bx.lts2;have p3:=Bx.lat 3 _ rfl;refine z0b (S:=fun w'=>∃u:Lat W,w'=u.val) (by kernel_rfl) ?_;refine sgr [(0,4),(5,2)] 5 (by kernel_rfl) ⟨⟨_,hW⟩,rfl⟩ ?_;simp only[pkE];repeat go_big_quiet_step (fail)
  refine wpQuiet_nil ?_;clear p0 p1 p3;generalize W.drew=wd at hW⊢;refine twa 4 9 4 (by kernel_rfl) ?_ ?_
  focus
   skip;refine opc 4 (some 9) 70 #[G ba d.length bk] (by kernel_rfl) ?_;refine(ak _ (h1.below (hB.trans (hW.mono hB.size)))).mono ?_;rintro e x0 ⟨v1,q1,rfl,e1,o1,n1,g1,hb⟩;obtain⟨s1,t1,rfl⟩:=o1.shape;have L1:∀k∈txnK.fp (G s1 q1.length t1) q1,W.heap.size≤k:=fun k hk=>by have:=g1 k hk;have:=hW.size;omega
   clear g1;replace hW:=hW.trans (hb.mono hW.size);clear hb;refine⟨_,rfl,⟨⟨_,hW⟩,rfl⟩,?_⟩;simp only[Vf,pgE,pjE];refine twa 7 9 3 (by kernel_rfl) ?_ ?_
   focus
    skip;refine opc 7 (some 12) 119 #[G da dec.length dk] (by kernel_rfl) ?_;refine(aa _ (h3.below (hB.trans (hW.mono hB.size)))).mono ?_;rintro e x1 ⟨a3,c3,rfl,o3,g3,hb⟩;have L3:∀k∈intK.fp (G a3 dec.length c3) dec,W.heap.size≤k:=fun k hk=>by have:=g3 k hk;have:=hW.size;omega
    have C:∀x∈txnK.fp (G s1 q1.length t1) q1,∀y∈intK.fp (G a3 dec.length c3) dec,x≠y:=fun x hx y hy e=>by have:=o1.lt x hx;have:=g3 y hy;omega
    replace o1:=o1.below hb;clear g3;replace hW:=hW.trans (hb.mono hW.size);clear hb;refine⟨_,rfl,⟨⟨_,hW⟩,rfl⟩,?_⟩;simp only[Vf,pgE,pjE];refine qta 8 (some 13) (.agg #[.bool has,G s1 q1.length t1,G none 0 0,G a3 dec.length c3]) 2 (by kernel_rfl) (fun u _=>by kernel_rfl) ⟨⟨_,hW⟩,rfl⟩ ?_;simp only[Vf,pgE,pjE];refine ona 9 1 rfl (by kernel_rfl) ?_;have Bz:=Blk.new x1 64 #[.bool false,G none 0 0,G none 0 0,G none 0 0];have aR:W.heap.size≤x1.heap.size:=hW.size;have N1:∀k∈txnK.fp (G s1 q1.length t1) q1,k≠x1.heap.size:=fun k hk e=>by have:=o1.lt k hk;omega
    have N3:∀k∈intK.fp (G a3 dec.length c3) dec,k≠x1.heap.size:=fun k hk e=>by have:=o3.lt k hk;omega
    have A:Below x1.heap.size x1 (x1.alloc (.cells #[.bool false,G none 0 0,G none 0 0,G none 0 0] 64)):=by go_grown
    replace o1:=o1.below A;replace o3:=o3.below A;replace hW:=hW.trans (A.mono hW.size);clear A
    go_wp2
    refine ThenGo.to ⟨⟨⟨_,hW⟩,rfl⟩,?_⟩;generalize a2:x1.heap.size=g at*;clear a2;generalize x1.alloc (.cells #[.bool false,G none 0 0,G none 0 0,G none 0 0] 64)=Y2 at*;refine ona 10 0 rfl (by kernel_rfl) ?_;have z:=z0v Y2 g #[.bool has,G s1 q1.length t1,G none 0 0,G a3 dec.length c3]
   rotate_left
   focus
    skip;refine z1O 9 _ rfl ?_;have Bz:=Blk.new x0 64 #[.bool false,G none 0 0,G none 0 0,G none 0 0];have aR:W.heap.size≤x0.heap.size:=hW.size;have N1:∀k∈txnK.fp (G s1 q1.length t1) q1,k≠x0.heap.size:=fun k hk e=>by have:=o1.lt k hk;omega
    have A:Below x0.heap.size x0 (x0.alloc (.cells #[.bool false,G none 0 0,G none 0 0,G none 0 0] 64)):=by go_grown
    replace o1:=o1.below A;replace hW:=hW.trans (A.mono hW.size);clear A
    go_wp2
    refine ThenGo.to ⟨⟨⟨_,hW⟩,rfl⟩,?_⟩;generalize a1:x0.heap.size=g at*;clear a1;generalize x0.alloc (.cells #[.bool false,G none 0 0,G none 0 0,G none 0 0] 64)=Y1 at*;refine cla 7 (some 12) 119 #[G da dec.length dk] 2 (by kernel_rfl) ?_;refine(aa _ (h3.below (hB.trans (hW.mono hB.size)))).mono ?_;rintro e x2 ⟨a3,c3,rfl,o3,g3,hb⟩;have L3:∀k∈intK.fp (G a3 dec.length c3) dec,W.heap.size≤k:=fun k hk=>by have:=g3 k hk;have:=hW.size;omega
    have C:∀x∈txnK.fp (G s1 q1.length t1) q1,∀y∈intK.fp (G a3 dec.length c3) dec,x≠y:=fun x hx y hy e=>by have:=o1.lt x hx;have:=g3 y hy;omega
    have N3:∀k∈intK.fp (G a3 dec.length c3) dec,k≠g:=fun k hk e=>by have:=g3 k hk;have:=Bz.lt;omega
    replace Bz:=Bz.below hb;replace o1:=o1.below hb;clear g3;replace hW:=hW.trans (hb.mono hW.size);clear hb;refine⟨_,rfl,⟨⟨_,hW⟩,rfl⟩,?_⟩;simp only[Vf,pgE,pjE];refine qta 8 (some 13) (.agg #[.bool has,G s1 q1.length t1,G none 0 0,G a3 dec.length c3]) 1 (by kernel_rfl) (fun u _=>by kernel_rfl) ⟨⟨_,hW⟩,rfl⟩ ?_;simp only[Vf,pgE,pjE];refine ona 10 0 rfl (by kernel_rfl) ?_;have z:=z0v x2 g #[.bool has,G s1 q1.length t1,G none 0 0,G a3 dec.length c3]
   rotate_left
  rotate_left 2
  focus
   skip;refine z1O 9 _ rfl ?_;have Bz:=Blk.new wd 64 #[.bool false,G none 0 0,G none 0 0,G none 0 0];have aR:W.heap.size≤wd.heap.size:=hW.size;have A:Below wd.heap.size wd (wd.alloc (.cells #[.bool false,G none 0 0,G none 0 0,G none 0 0] 64)):=by go_grown
   replace hW:=hW.trans (A.mono hW.size);clear A
   go_wp2
   refine ThenGo.to ⟨⟨⟨_,hW⟩,rfl⟩,?_⟩;generalize aZ:wd.heap.size=g at*;clear aZ;generalize wd.alloc (.cells #[.bool false,G none 0 0,G none 0 0,G none 0 0] 64)=Y0 at*;refine cla 4 (some 9) 70 #[G ba d.length bk] 3 (by kernel_rfl) ?_;refine(ak _ (h1.below (hB.trans (hW.mono hB.size)))).mono ?_;rintro e x1 ⟨v1,q1,rfl,e1,o1,n1,g1,hb⟩;obtain⟨s1,t1,rfl⟩:=o1.shape;have L1:∀k∈txnK.fp (G s1 q1.length t1) q1,W.heap.size≤k:=fun k hk=>by have:=g1 k hk;have:=hW.size;omega
   have N1:∀k∈txnK.fp (G s1 q1.length t1) q1,k≠g:=fun k hk e=>by have:=g1 k hk;have:=Bz.lt;omega
   replace Bz:=Bz.below hb;clear g1;replace hW:=hW.trans (hb.mono hW.size);clear hb;refine⟨_,rfl,⟨⟨_,hW⟩,rfl⟩,?_⟩;simp only[Vf,pgE,pjE];refine cla 7 (some 12) 119 #[G da dec.length dk] 2 (by kernel_rfl) ?_;refine(aa _ (h3.below (hB.trans (hW.mono hB.size)))).mono ?_;rintro e x2 ⟨a3,c3,rfl,o3,g3,hb⟩;have L3:∀k∈intK.fp (G a3 dec.length c3) dec,W.heap.size≤k:=fun k hk=>by have:=g3 k hk;have:=hW.size;omega
   have C:∀x∈txnK.fp (G s1 q1.length t1) q1,∀y∈intK.fp (G a3 dec.length c3) dec,x≠y:=fun x hx y hy e=>by have:=o1.lt x hx;have:=g3 y hy;omega
   have N3:∀k∈intK.fp (G a3 dec.length c3) dec,k≠g:=fun k hk e=>by have:=g3 k hk;have:=Bz.lt;omega
   replace Bz:=Bz.below hb;replace o1:=o1.below hb;clear g3;replace hW:=hW.trans (hb.mono hW.size);clear hb;refine⟨_,rfl,⟨⟨_,hW⟩,rfl⟩,?_⟩;simp only[Vf,pgE,pjE];refine qta 8 (some 13) (.agg #[.bool has,G s1 q1.length t1,G none 0 0,G a3 dec.length c3]) 1 (by kernel_rfl) (fun u _=>by kernel_rfl) ⟨⟨_,hW⟩,rfl⟩ ?_;simp only[Vf,pgE,pjE];refine ona 10 0 rfl (by kernel_rfl) ?_;have z:=z0v x2 g #[.bool has,G s1 q1.length t1,G none 0 0,G a3 dec.length c3]
  rotate_left
  all_goals
   have aK:W.heap.size≤g:=by omega
   have Rz:=Bz.row #[.bool has,G s1 q1.length t1,G none 0 0,G a3 dec.length c3];replace hW:=z0m hW aK #[.bool has,G s1 q1.length t1,G none 0 0,G a3 dec.length c3];replace o1:=o1.out z (fun k hk=>by simp only[Ve];exact N1 k hk);replace o3:=o3.out z (fun k hk=>by simp only[Ve];exact N3 k hk);refine z0s (by kernel_rfl) 64 _ _ rfl _ #[.bool has,G s1 q1.length t1,G none 0 0,G a3 dec.length c3] rfl rfl 64 _ Bz z7s rfl (by simp[Value.oneCell']) ?_;refine ThenGo.to ⟨⟨⟨_,hW⟩,rfl⟩,?_⟩;refine z0g (by kernel_rfl) ?_;refine⟨rfl,_,⟨s1,t1,q1,a3,c3,g,rfl,aK,Rz,e1,o1,n1,L1,N1,o3,L3,N3,C,hW⟩,?_⟩;simp only[z1P,Vf,pgE,pjE];try rfl
 rintro vs X ⟨s1,t1,q1,a3,c3,g,rfl,hg,Bg,e1,o1,n1,L1,N1,o3,L3,N3,C,hX⟩;simp only[z1P,Vf,pjE];have az:Below w.heap.size w X:=hB.trans (hX.mono hB.size);have ax:=Rb.below hX;have ao:=Bx.below hX;have bm:=h2;have bp:=Bg.lt;have bn:=hX.size;obtain⟨i0,hi,be,bf,bg⟩:=info_parts z3R;obtain⟨aL,aM⟩:=Kind.own_nil (K:=roundK) X;have aq:Hid ((roundK.fp (G none 0 0) ([]:List RoundQ)).Nodup∧∀k∈roundK.fp (G none 0 0) ([]:List RoundQ),X.heap.size≤k):=by
  rw[aM];exact⟨by simp,by simp⟩
 have av:Hid (q1.map f=d.map f∧txnK.Own X (G s1 q1.length t1) q1∧(txnK.fp (G s1 q1.length t1) q1).Nodup∧(∀k∈txnK.fp (G s1 q1.length t1) q1,W.heap.size≤k)∧(∀k∈txnK.fp (G s1 q1.length t1) q1,k≠g)∧intK.Own X (G a3 dec.length c3) dec∧(∀k∈intK.fp (G a3 dec.length c3) dec,W.heap.size≤k)∧(∀k∈intK.fp (G a3 dec.length c3) dec,k≠g)∧(∀x∈txnK.fp (G s1 q1.length t1) q1,∀y∈intK.fp (G a3 dec.length c3) dec,x≠y)):=⟨e1,o1,n1,L1,N1,o3,L3,N3,C⟩
 clear aM ak aa Rb Bx hB hX e1 o1 n1 L1 N1 o3 L3 N3 C h1 h3
 go_wp2
 go_loopw[4] (fun j wr=>∃ (k:Nat) (v2:Value) (qs:List RoundQ),k≤c.length∧j=H Q k∧Hid (qs.map Vb=(c.take k).map Vb)∧roundK.Own wr v2 qs∧Hid ((roundK.fp v2 qs).Nodup∧∀k∈roundK.fp v2 qs,X.heap.size≤k)∧Hid (Blk wr g 64 #[.bool has,G s1 q1.length t1,v2,G a3 dec.length c3])∧Hid (Out [g] X wr)) (fun j _=>c.length-(intOf j).toNat)
 case atStart=>exact⟨0,G none 0 0,[],Nat.zero_le _,rfl,(rfl:_=_),aL,aq,Bg,Out.refl _ _⟩
 case round=>
  clear aq aL Bg;obtain⟨k,v2,qs,hk,rfl,HE,hO,HN,E,HO⟩:=hrel;obtain⟨sa,sc,rfl⟩:=hO.shape;have aA:Below w.heap.size w wr:=Out.keep az HO.out az.size (fun x hx=>by simp only[Ve]at hx;omega);have a7:=HO.out.size;have aU:Blk wr w.heap.size 64 #[.bool has,G ba d.length bk,G va c.length vk,G da dec.length dk]:=(HO.out.block _ ao.lt (by simp only[Ve];omega)).trans ao;have J:Hid (∀x∈blk (G sa qs.length sc),X.heap.size≤x):=fun x hx=>HN.out.2 x (by simp only[Kind.fp,List.mem_append];exact Or.inl hx)
  have b2:=aU.cell 2 _ rfl;by_cases N:k<c.length
  ·obtain⟨rb,ro,rfl,bo,hc,bc⟩:=(h2.below aA).cell (by decide) k N;have bl:rb<w.heap.size:=by
    obtain⟨bs,bt,e',bi,_,_⟩:=h2.cell (by decide) k N;simp only[Option.some.injEq,Addr.mk.injEq,and_true]at e';omega
   have aj:∀j x,(roundK.cells c[k])[j]?=some x→wr.cell? ⟨rb,ro+k*2+j,none⟩=some x:=hc;have f0:=aj 0 (c[k].vr) rfl;have f1:=aj 1 (c[k].vp) rfl;have n1:=z01 RoundQ.n c k N;have O:=aQ _ (Vg N);have aw:Hid (qs.length≤1048576):=by
    have:=congrArg List.length HE.out;rw[List.length_map,List.length_map,List.length_take]at this;show qs.length≤1048576;omega
   have au:Hid (∀p':RoundQ,p'.e=Vb c[k]→(qs++[p']).map Vb=(c.take (k+1)).map Vb):=fun p' bb=>by
    rw[List.take_succ_eq_append_getElem N,List.map_append,List.map_append,HE.out,List.map_singleton,List.map_singleton,bb]
   clear HE hc aj;generalize c[k]=p at*;obtain⟨pv,pr,pw,pp⟩:=p;obtain⟨u1,u2⟩:intK.At wr pv pr∧intK.At wr pw pp:=bc;obtain⟨aS,j1,rfl⟩:=u1.shape;obtain⟨aT,j2,rfl⟩:=u2.shape;dsimp only[RoundQ.n]at f0 f1 n1 O;rw[Nat.add_zero]at f0;have aH:=fun w (hT:intK.At w (G aS pr.length j1) pr)=>z4w _ pr w hT O.1 (by omega)
   have aI:=fun w (hT:intK.At w (G aT pp.length j2) pp)=>z4w _ pp w hT O.2 (by omega)
   have af:g∉blk (G sa qs.length sc):=fun hx=>by have:=J.out g hx;omega
   have aB:w.heap.size∉blk (G sa qs.length sc):=fun hx=>by have:=J.out _ hx;omega
   have ag:rb∉blk (G sa qs.length sc):=fun hx=>by have:=J.out rb hx;omega
   have HF:Hid (∀x∈roundK.fp (G sa qs.length sc) qs,x<wr.heap.size):=hO.lt;have m0:=z0k (F:=blk (G sa qs.length sc)) (E.out.cell 2 _ rfl) af;have m1:=z0k (F:=blk (G sa qs.length sc)) b2 aB;have m2:=z0k (F:=blk (G sa qs.length sc)) f0 ag;have m3:=z0k (F:=blk (G sa qs.length sc)) f1 ag;have bj:(k:Int)<(c.length:Int):=by omega
   have aP:Nonempty (LatO (blk (G sa qs.length sc)) wr):=⟨⟨wr,Out.refl _ _⟩⟩
   have hW:Below wr.heap.size wr wr.drew:=(Below.refl _ _).drew;have I:∀w',Below wr.heap.size wr w'→∃u:LatO (blk (G sa qs.length sc)) wr,w'=u.val:=fun w' bd=>⟨⟨w',Out.of_below bd⟩,rfl⟩
   clear f0 f1
   go_wp2_with fail
   clear b2;refine z30 (S:=fun w'=>∃u:LatO (blk (G sa qs.length sc)) wr,w'=u.val) (R:=fun _ _=>False) 20 (by kernel_rfl) (fun _ _ _ _ h=>h.elim) ?_;refine sgX [(0,8),(9,6)] 7 (by kernel_rfl) (I _ hW) ?_;simp only[pkE];repeat go_big_quiet_step (fail)
   refine wpQuiet_nil ?_;refine clX 8 (some 29) 119 #[G aS pr.length j1] 6 (by kernel_rfl) rfl ?_;refine(aH _ (u1.below hW)).mono ?_;rintro e w8 ⟨x1,y1,rfl,oa,ga,aF⟩;have LA:∀x∈intK.fp (G x1 pr.length y1) pr,wr.heap.size≤x:=fun x hx=>by have:=ga x hx;have:=hW.size;omega
   have MA:=oa.lt;replace hW:=hW.trans (aF.mono hW.size);clear aF ga;refine Or.inl ⟨_,rfl,I _ hW,?_⟩;simp only[Vf,pgE,pjE];refine clX 15 (some 36) 119 #[G aT pp.length j2] 5 (by kernel_rfl) rfl ?_;refine(aI _ (u2.below hW)).mono ?_;rintro e w9 ⟨x2,y2,rfl,ob,gb,ai⟩;have LB:∀x∈intK.fp (G x2 pp.length y2) pp,wr.heap.size≤x:=fun x hx=>by have:=gb x hx;have:=hW.size;omega
   have ab:∀x∈intK.fp (G x1 pr.length y1) pr,∀y∈intK.fp (G x2 pp.length y2) pp,x≠y:=fun x hx y hy e=>by have:=MA x hx;have:=gb y hy;omega
   replace oa:=oa.below ai;replace hW:=hW.trans (ai.mono hW.size);clear ai gb MA;refine Or.inl ⟨_,rfl,I _ hW,?_⟩;simp only[Vf,pgE,pjE];refine onX 16 4 rfl (by kernel_rfl) ?_
   go_wp2
   refine ThenX.to ⟨Or.inr (I _ hW),?_⟩;refine onX 17 3 rfl (by kernel_rfl) ?_;have Y:Below w9.heap.size w9 (w9.alloc (.cells #[G x1 pr.length y1,G x2 pp.length y2] 138)):=by go_grown
   replace hW:=hW.trans (Y.mono hW.size);replace oa:=oa.below Y;replace ob:=ob.below Y;have ae:∀j u,[Value.slice x1 pr.length y1,G x2 pp.length y2][j]?=some u→(w9.alloc (.cells #[G x1 pr.length y1,G x2 pp.length y2] 138)).cell? ((⟨w9.heap.size,0,none⟩:Addr).add j)=some u:=by
    intro j u hj;match j,hj with|0,hj=>simp at hj;subst hj;simp[Addr.add]|1,hj=>simp at hj;subst hj;simp[Addr.add]
   go_wp2
   refine ThenX.to ⟨Or.inr (I _ hW),?_⟩;generalize w9.alloc (.cells #[G x1 pr.length y1,G x2 pp.length y2] 138)=Z at*;clear Y;have ah:=hO.below hW;have T:=ah.1;have bq:=hW.size;refine onX 18 2 rfl (by kernel_rfl) ?_;refine wpList_append_own_at _ rfl _ _ 61 rfl 0 138 i0 (.agg #[G none 0 0,G none 0 0]) 2 48 Tryz.underlying61 hi be bf bg rfl (by decide) _ qs.length (roundK.row qs) rfl T ⟨w9.heap.size,0,none⟩ 1 1 [G x1 pr.length y1,G x2 pp.length y2] rfl rfl ae ?c2 ?c3 ?c4 ?c5 ?_
   case c2=>intro u hu;simp at hu;rcases hu with rfl|rfl<;>rfl
   case c3=>have:=aw.out;unfold maxLen;omega
   case c4=>have:=aw.out;omega
   case c5=>omega
   intro v' w5 ad L aO aE;clear aO T ae;obtain ⟨V,al,M,z⟩:=ah.snoc (p:=⟨G x1 pr.length y1,pr,G x2 pp.length y2,pp⟩) (B:=X.heap.size) HN.out.1 HN.out.2 ⟨oa,ob⟩ (List.nodup_append.2 ⟨z1d _ _,z1d _ _,ab⟩) (fun x hx am => by
    have:=HF.out x am;rcases List.mem_append.1 hx with hx|hx
    ·have:=LA x hx;omega
    ·have:=LB x hx;omega) (fun x hx=>by
    rcases List.mem_append.1 hx with hx|hx
    ·have:=LA x hx;omega
    ·have:=LB x hx;omega) (by omega) ad L aE
   obtain⟨na,nc,rfl⟩:=V.shape;rw[List.length_append,List.length_singleton]at V al M;have D:Out (blk (G sa qs.length sc)) wr w5:=(Out.of_below hW).trans z;have U:Blk w5 g 64 #[.bool has,G s1 q1.length t1,G sa qs.length sc,G a3 dec.length c3]:=(D.block g (by omega) af).trans E.out;have aW:Hid ((qs++[(⟨G x1 pr.length y1,pr,G x2 pp.length y2,pp⟩:RoundQ)]).map Vb=(c.take (k+1)).map Vb):=au.out _ rfl;have ar:Hid ((roundK.fp (G na (qs.length+1) nc) (qs++[(⟨G x1 pr.length y1,pr,G x2 pp.length y2,pp⟩:RoundQ)])).Nodup∧∀k∈roundK.fp (G na (qs.length+1) nc) (qs++[(⟨G x1 pr.length y1,pr,G x2 pp.length y2,pp⟩:RoundQ)]),X.heap.size≤k):=⟨al,M⟩
   have aC:Out [g] X w5:=by
    refine⟨D.os.trans HO.out.os,D.tape.trans HO.out.tape,D.output.trans HO.out.output,Nat.le_trans a7 D.size,fun x hx hn=>?_⟩;exact(D.block x (by omega) (fun am=>by have:=J.out x am;omega)).trans (HO.out.block x hx hn)
   clear al M z au HN HF oa ob LA LB ab ad L aE ah hO m0 m1 m2 m3 aH aI
   go_wp2
   refine ThenX.to ⟨Or.inr ⟨⟨_,D⟩,rfl⟩,?_⟩;simp only[Vf,pgE,pjE];refine onX 19 1 rfl (by kernel_rfl) ?_
   go_wp2
   refine ThenX.to ⟨Or.inr ⟨⟨_,D⟩,rfl⟩,?_⟩;refine onX 20 0 rfl (by kernel_rfl) ?_;have t3:=U.cell 2 _ rfl;have t4:=U.frozen 2;have an:=U.set 2 (G na (qs.length+1) nc);have a6:=V.out (Vh w5 g 2 (G na (qs.length+1) nc)) (fun x hx=>by have:=ar.out.2 x hx;simp only[Ve];omega);have aD:Out [g] X (w5.setCell ⟨g,2,none⟩ (G na (qs.length+1) nc)):=aC.trans (Vh w5 g 2 _);have aV:Hid (Blk (w5.setCell ⟨g,2,none⟩ (G na (qs.length+1) nc)) g 64 #[.bool has,G s1 q1.length t1,G na (qs.length+1) nc,G a3 dec.length c3]):=an;have aX:Hid (Out [g] X (w5.setCell ⟨g,2,none⟩ (G na (qs.length+1) nc))):=aD;clear an aD aC V U E HO;generalize qs++[(⟨G x1 pr.length y1,pr,G x2 pp.length y2,pp⟩:RoundQ)]=bh at*
   go_wp2
   refine ThenX.to ⟨Or.inl (by kernel_rfl),?_⟩;refine q4c (by kernel_rfl) ?_;clear t3 t4 D aP I af aB ag;generalize w5.setCell ⟨g,2,none⟩ (G na (qs.length+1) nc)=w6 at*
   go_wp2
   go_roundw
   case rel=>exact⟨k+1,_,bh,by omega,by go_num,aW,a6,ar,aV,aX⟩
   case measure=>simp[intOf];omega
  ·have a8:k=c.length:=by omega
   subst a8;have hE:=HE.out;rw[List.take_length]at hE;have ap:Hid (qs.map Vb=c.map Vb):=hE;clear HE hE;have ay:Blk wr (w.heap.size+1) 64 #[.bool false,G none 0 0,G none 0 0,G none 0 0]:=(HO.out.block _ ax.lt (by simp only[Ve];omega)).trans ax;have g0:=E.out.cell 0 _ rfl;have g1:=E.out.cell 1 _ rfl;have g2:=E.out.cell 2 _ rfl;have g3:=E.out.cell 3 _ rfl;have Rz:=ay.row #[.bool has,G s1 q1.length t1,G sa qs.length sc,G a3 dec.length c3];have z:=z0v wr (w.heap.size+1) #[.bool has,G s1 q1.length t1,G sa qs.length sc,G a3 dec.length c3];have aY:=z0m aA (g:=w.heap.size+1) (by omega) #[.bool has,G s1 q1.length t1,G sa qs.length sc,G a3 dec.length c3];obtain⟨e1,o1,n1,L1,N1,o3,L3,N3,C⟩:=av.out;have oa:=(o1.out HO.out (fun x hx=>by simp only[Ve];exact N1 x hx)).out z (fun x hx=>by have:=L1 x hx;simp only[Ve];omega);have oc:=(o3.out HO.out (fun x hx=>by simp only[Ve];exact N3 x hx)).out z (fun x hx=>by have:=L3 x hx;simp only[Ve];omega);have ob:=hO.out z (fun x hx=>by have:=HN.out.2 x hx;simp only[Ve];omega);have HR:Hid ((InstQ.e ⟨has,G s1 q1.length t1,q1,G sa qs.length sc,qs,G a3 dec.length c3,dec⟩=InstQ.e ⟨has,G ba d.length bk,d,G va c.length vk,c,G da dec.length dk,dec⟩)∧(instK.foot ⟨has,G s1 q1.length t1,q1,G sa qs.length sc,qs,G a3 dec.length c3,dec⟩).Nodup∧∀x∈instK.foot ⟨has,G s1 q1.length t1,q1,G sa qs.length sc,qs,G a3 dec.length c3,dec⟩,w.heap.size≤x):=by
    refine⟨?_,?_,?_⟩
    ·simp only[InstQ.e,e1,ap.out]
    ·refine List.nodup_append.2 ⟨n1,List.nodup_append.2 ⟨HN.out.1,z1d _ _,fun x hx y hy e=>?_⟩,fun x hx y hy e=>?_⟩
     ·have:=HN.out.2 x hx;have:=o3.lt y hy;omega
     ·rcases List.mem_append.1 hy with hy|hy
      ·have:=HN.out.2 y hy;have:=o1.lt x hx;omega
      ·exact C x hx y hy e
    ·intro x hx;rcases List.mem_append.1 hx with hx|hx
     ·have:=L1 x hx;omega
     ·rcases List.mem_append.1 hx with hx|hx
      ·have:=HN.out.2 x hx;omega
      ·have:=L3 x hx;omega
   clear e1 o1 n1 L1 N1 o3 L3 N3 C z av ap hO HN J
   go_wp2_with (first|(refine z0s (by kernel_rfl) 64 _ _ rfl _ #[.bool has,G s1 q1.length t1,G sa qs.length sc,G a3 dec.length c3] rfl rfl 64 _ ay z7s rfl (by simp[Value.oneCell']) ?_))
   obtain⟨k0,k1,k2,k3⟩:=Rz.cel4;exact bodyPost_ret (v:=.agg #[.bool has,G s1 q1.length t1,G sa qs.length sc,G a3 dec.length c3]) (by simp[results,results69,go_sem,k0,k1,k2,k3]) rfl ⟨⟨has,G s1 q1.length t1,q1,G sa qs.length sc,qs,G a3 dec.length c3,dec⟩,rfl,HR.out.1,⟨oa,ob,oc⟩,HR.out.2.1,HR.out.2.2,aY⟩
theorem z8J(c:Int)(w:World):
  Calls m 67 #[H Q c] w fun e w'=>e=.returned (.agg #[H Q c,H Q 0,.bool false,.bool false,H Q 0,.bool false,G none 0 0,G none 0 0,G none 0 0])∧Below w.heap.size w w':=by
 have hB:Below w.heap.size w (w.alloc (.cells #[H Q 0,H Q 0,.bool false,.bool false,H Q 0,.bool false,G none 0 0,G none 0 0,G none 0 0] 66)):=by go_grown
 have Rb:=Blk.new w 66 #[H Q 0,H Q 0,.bool false,.bool false,H Q 0,.bool false,G none 0 0,G none 0 0,G none 0 0];have Rr:=Rb.row #[H Q c,H Q 0,.bool false,.bool false,H Q 0,.bool false,G none 0 0,G none 0 0,G none 0 0];have hBr:=z0m hB (g:=w.heap.size) (Nat.le_refl _) #[H Q c,H Q 0,.bool false,.bool false,H Q 0,.bool false,G none 0 0,G none 0 0,G none 0 0];have hsr:(m.info? 66).map (·.size)=some (#[H Q c,H Q 0,.bool false,.bool false,H Q 0,.bool false,G none 0 0,G none 0 0,G none 0 0]:Array Value).size:=z4V;go_enter func67,ntmps67
 go_wp2_with (first|(refine z0s (by kernel_rfl) 66 _ _ rfl _ #[H Q c,H Q 0,.bool false,.bool false,H Q 0,.bool false,G none 0 0,G none 0 0,G none 0 0] rfl rfl 66 _ Rb hsr rfl (by simp[Value.oneCell']) ?_))
 obtain⟨q0,q1,q2,q3,q4,q5,q6,q7,q8⟩:=Rr.cel9;exact bodyPost_ret (v:=.agg #[H Q c,H Q 0,.bool false,.bool false,H Q 0,.bool false,G none 0 0,G none 0 0,G none 0 0]) (by simp[results,results67,go_sem,q0,q1,q2,q3,q4,q5,q6,q7,q8]) rfl ⟨rfl,hBr⟩
theorem z7D{p:InstQ}(h:insF p.e=0):(∀t∈p.batch,0<t.acts.length)∧(∀r∈p.rounds,0<r.rep.length∧0<r.pro.length)∧0<p.dec.length:=by
 obtain⟨h1,h2,h3,_,h5⟩:=z8A h;obtain⟨h6,_⟩:=z1Z h;obtain⟨_,_,_,h7,h8⟩:=z1r h6;refine⟨?_,fun r hr=>?_,by have:p.dec.length=3:=h3;omega⟩
 ·cases hh:p.has with
  |true=>exact z9T (h8 hh)
  |false=>
   have:p.batch.map f=[]:=h7 hh;intro t ht;have:p.batch=[]:=List.map_eq_nil_iff.1 this;rw[this]at ht;simp at ht
 ·have:=h1 (Vb r) (List.mem_map.2 ⟨r,hr,rfl⟩);have h9:r.rep.length=3∧r.pro.length=3:=this;omega
theorem q2M(b o:Nat)(p:InstQ)(vn:Value)(bt:List TxnQ)(w:World)(hP:InstP w b o p)(av:b<w.heap.size)(hl:p.n≤1048576)(h0:insF p.e=0)(hT:txnK.At w vn bt)(ap:bt.length+nmL Va bt≤1048576):
  Calls m 38 #[.pointer (some ⟨b,o,none⟩),vn] w fun e w'=>∃q:InstQ,e=.returned (.agg (q50 (sbC p.e (bt.map f)) 0 false false 0 q))∧q.e=sbI p.e (bt.map f)∧instK.own w' q∧(instK.foot q).Nodup∧(∀k∈instK.foot q,w.heap.size≤k)∧Below w.heap.size w w':=by
 obtain⟨ak,am,aj⟩:=z7D h0;have N:=fun w h=>z6V p w h hl ak am aj
 have ah:=fun w (hT:txnK.At w vn bt)=>z5H vn (bt.map f) w (z3U hT) (by rw[List.length_map,z7m];omega)
 have X:=fun(hp:batF (bt.map f)=0) w (hT:txnK.At w vn bt)=>z1Q vn bt w hT (z9T hp) ap
 obtain⟨D,hD⟩:∃D,sbC p.e (bt.map f)=D:=⟨_,rfl⟩
 obtain⟨E,hE⟩:∃E,sbI p.e (bt.map f)=E:=⟨_,rfl⟩
 have I:Hid ((p.has=true→D=6∧E=q0y)∧(p.has=false→batF (bt.map f)≠0→D=batF (bt.map f)∧E=q0y)∧(p.has=false→batF (bt.map f)=0→D=0∧E=⟨true,bt.map f,p.e.rounds,p.dec⟩)):=by
  have ai:p.e.has=p.has:=rfl;refine⟨fun h1=>?_,fun h1 h2=>?_,fun h1 h2=>?_⟩
  ·have e:D=6:=by rw[←hD];unfold sbC;rw[if_pos h0,ai,h1];rfl
   exact⟨e,by rw[←hE];exact if_neg (by rw[hD,e];decide)⟩
  ·have e:D=batF (bt.map f):=by rw[←hD];unfold sbC;rw[if_pos h0,ai,h1];rfl
   exact⟨e,by rw[←hE];exact if_neg (by rw[hD,e];exact h2)⟩
  ·have e:D=0:=by rw[←hD];unfold sbC;rw[if_pos h0,ai,h1];exact h2
   exact⟨e,by rw[←hE];exact if_pos (by rw[hD,e])⟩
 rw[hD,hE];clear hD hE h0 ak am aj;have ad:Hid (p.e.rounds=p.rounds.map Vb∧p.e.dec=p.dec):=⟨rfl,rfl⟩
 generalize aw:bt.map f=ag at*;generalize C:batF ag=BF at*;clear C;have Y:=hP.rd;have al:=fun(w':World) hb=>instK.rd_below (w':=w') Y hb
 generalize ay:p.e=pe at*;obtain⟨has,vb,af,vr,aa,vd,dec⟩:=p;obtain⟨ba,bk,rfl⟩:∃a c,vb=G a af.length c:=Y.1.shape;obtain⟨va,vk,rfl⟩:∃a c,vr=G a aa.length c:=Y.2.1.shape;obtain⟨da,dk,rfl⟩:∃a c,vd=G a dec.length c:=Y.2.2.shape;obtain⟨na,nk,rfl⟩:=hT.shape;dsimp only at N al I ad;have hB:Below w.heap.size w (w.alloc (.cells #[H Q 0,H Q 0,.bool false,.bool false,H Q 0,.bool false,G none 0 0,G none 0 0,G none 0 0] 66)):=by go_grown
 have Rb:=Blk.new w 66 #[H Q 0,H Q 0,.bool false,.bool false,H Q 0,.bool false,G none 0 0,G none 0 0,G none 0 0];have T:=hP.below hB;have c0:=T.box.c0;dsimp only at c0
 cases has with
 |true=>
  have E1:Hid (D=6∧E=q0y):=I.out.1 rfl;clear I ah X N;go_enter func38,ntmps38
  go_wp2_with fail
  clear c0;generalize w.alloc (.cells #[H Q 0,H Q 0,.bool false,.bool false,H Q 0,.bool false,G none 0 0,G none 0 0,G none 0 0] 66)=W at*;refine(z8J 6 _).mono ?_;rintro e w8 ⟨rfl,A⟩;replace hB:=hB.trans (A.mono hB.size);replace Rb:=Rb.below A;clear A;have Rr:=Rb.row #[H Q 6,H Q 0,.bool false,.bool false,H Q 0,.bool false,G none 0 0,G none 0 0,G none 0 0];have M:=z0m hB (g:=w.heap.size) (by omega) #[H Q 6,H Q 0,.bool false,.bool false,H Q 0,.bool false,G none 0 0,G none 0 0,G none 0 0];have O:(m.info? 66).map (·.size)=some (#[H Q 6,H Q 0,.bool false,.bool false,H Q 0,.bool false,G none 0 0,G none 0 0,G none 0 0]:Array Value).size:=z4V
  go_wp2_with (first|(refine z0s (by kernel_rfl) 66 _ _ rfl _ #[H Q 6,H Q 0,.bool false,.bool false,H Q 0,.bool false,G none 0 0,G none 0 0,G none 0 0] rfl rfl 66 _ Rb O rfl (by simp[Value.oneCell']) ?_))
  obtain⟨q0,q1,q2,q3,q4,q5,q6,q7,q8⟩:=Rr.cel9;exact bodyPost_ret (v:=.agg #[H Q 6,H Q 0,.bool false,.bool false,H Q 0,.bool false,G none 0 0,G none 0 0,G none 0 0]) (by simp[results,results38,go_sem,q0,q1,q2,q3,q4,q5,q6,q7,q8]) rfl ⟨z7C,by rw[E1.out.1];rfl,E1.out.2.symm,z2R _,z31,fun k hk=>by rw[z20]at hk;simp at hk,M⟩
 |false=>
  have E4:Hid ((BF≠0→D=BF∧E=q0y)∧(BF=0→D=0∧E=⟨true,ag,pe.rounds,dec⟩)):=⟨I.out.2.1 rfl,I.out.2.2 rfl⟩
  clear I;go_enter func38,ntmps38
  go_wp2_with fail
  clear c0;generalize w.alloc (.cells #[H Q 0,H Q 0,.bool false,.bool false,H Q 0,.bool false,G none 0 0,G none 0 0,G none 0 0] 66)=W at*;refine(ah W (hT.below hB)).mono ?_;rintro e w2 ⟨rfl,U⟩;replace Rb:=Rb.below U;replace T:=T.below U;replace hB:=hB.trans (U.mono hB.size);clear U ah;by_cases C:BF=0
  case neg=>
   have E1:Hid (D=BF∧E=q0y):=E4.out.1 C;have au:(BF !=0)=true:=by simpa using C
   clear E4 C X N
   go_wp2_with fail
   refine(z8J BF _).mono ?_;rintro e w8 ⟨rfl,A⟩;replace hB:=hB.trans (A.mono hB.size);replace Rb:=Rb.below A;clear A;have Rr:=Rb.row #[H Q BF,H Q 0,.bool false,.bool false,H Q 0,.bool false,G none 0 0,G none 0 0,G none 0 0];have M:=z0m hB (g:=w.heap.size) (by omega) #[H Q BF,H Q 0,.bool false,.bool false,H Q 0,.bool false,G none 0 0,G none 0 0,G none 0 0];have O:(m.info? 66).map (·.size)=some (#[H Q BF,H Q 0,.bool false,.bool false,H Q 0,.bool false,G none 0 0,G none 0 0,G none 0 0]:Array Value).size:=z4V
   go_wp2_with (first|(refine z0s (by kernel_rfl) 66 _ _ rfl _ #[H Q BF,H Q 0,.bool false,.bool false,H Q 0,.bool false,G none 0 0,G none 0 0,G none 0 0] rfl rfl 66 _ Rb O rfl (by simp[Value.oneCell']) ?_))
   obtain⟨q0,q1,q2,q3,q4,q5,q6,q7,q8⟩:=Rr.cel9;exact bodyPost_ret (v:=.agg #[H Q BF,H Q 0,.bool false,.bool false,H Q 0,.bool false,G none 0 0,G none 0 0,G none 0 0]) (by simp[results,results38,go_sem,q0,q1,q2,q3,q4,q5,q6,q7,q8]) rfl ⟨z7C,by rw[E1.out.1];rfl,E1.out.2.symm,z2R _,z31,fun k hk=>by rw[z20]at hk;simp at hk,M⟩
  case pos=>
   have E1:Hid (D=0∧E=⟨true,ag,pe.rounds,dec⟩):=E4.out.2 C;subst C;clear E4;have ar:w.heap.size+1≤w2.heap.size:=Rb.lt;obtain⟨c0,c1,c2,c3⟩:=T.box;dsimp only at c0 c1 c2 c3
   go_wp2_with fail
   clear c0 c1 c2 c3;refine(N w2 (al w2 hB)).mono ?_;rintro e w3 ⟨q,rfl,eq,oq,nq,gq,V⟩;replace Rb:=Rb.below V;replace hB:=hB.trans (V.mono hB.size);obtain⟨qh,qb,Z,qr,z,qd,d⟩:=q;obtain⟨s1,t1,rfl⟩:∃a c,qb=G a Z.length c:=oq.1.shape;obtain⟨s2,t2,rfl⟩:∃a c,qr=G a z.length c:=oq.2.1.shape;obtain⟨s3,t3,rfl⟩:∃a c,qd=G a d.length c:=oq.2.2.shape;have L:Below w3.heap.size w3 (w3.alloc (.cells #[.bool true,G s1 Z.length t1,G s2 z.length t2,G s3 d.length t3] 64)):=by go_grown
   have Gz:=Blk.new w3 64 #[.bool true,G s1 Z.length t1,G s2 z.length t2,G s3 d.length t3];have ab:=(List.nodup_append.1 nq).2.1;have o2:=oq.2.1;have o3:=oq.2.2;have M2:=o2.lt;have M3:=o3.lt;have aq:=V.size;have L2:∀k∈roundK.fp (G s2 z.length t2) z,w2.heap.size≤k:=fun k hk=>gq k (Vc _ (Vd _ hk))
   have L3:∀k∈intK.fp (G s3 d.length t3) d,w2.heap.size≤k:=fun k hk=>gq k (Vc _ (Vc _ hk))
   have ae:Hid (pe.rounds=z.map Vb∧d=dec):=by
    have e1:pe.dec=dec:=ad.out.2;rw[←eq]at e1⊢;exact⟨rfl,e1⟩
   replace o2:=o2.below L;replace o3:=o3.below L;replace Rb:=Rb.below L;replace hB:=hB.trans (L.mono hB.size);clear N gq nq oq eq V ad
   go_wp2_with fail
   have ax:=Gz.lt;generalize w3.alloc (.cells #[.bool true,G s1 Z.length t1,G s2 z.length t2,G s3 d.length t3] 64)=W3 at*;refine(X (by trivial) W3 (hT.below hB)).mono ?_;rintro e w4 ⟨v4,qt,rfl,e4,o4,n4,g4,J⟩;obtain⟨s4,t4,rfl⟩:=o4.shape;replace o2:=o2.below J;replace o3:=o3.below J;replace Rb:=Rb.below J;replace Gz:=Gz.below J;replace hB:=hB.trans (J.mono hB.size);have az:w3.heap.size≤W3.heap.size:=L.size;have R5:=Rb.other (b':=w3.heap.size) (by omega) 1 (G s4 qt.length t4);have G5:Blk (w4.setCell ⟨w3.heap.size,1,none⟩ (G s4 qt.length t4)) w3.heap.size 64 #[.bool true,G s4 qt.length t4,G s2 z.length t2,G s3 d.length t3]:=Gz.set 1 (G s4 qt.length t4);have ao:Below w.heap.size w (w4.setCell ⟨w3.heap.size,1,none⟩ (G s4 qt.length t4)):=hB.setCell (p:=⟨w3.heap.size,1,none⟩) (by show w.heap.size≤w3.heap.size;omega) _;have U1:=Vh w4 w3.heap.size 1 (G s4 qt.length t4);have U2:=z0v (w4.setCell ⟨w3.heap.size,1,none⟩ (G s4 qt.length t4)) w.heap.size #[H Q 0,H Q 0,.bool false,.bool false,H Q 0,.bool true,G s4 qt.length t4,G s2 z.length t2,G s3 d.length t3];have Rr:=R5.row #[H Q 0,H Q 0,.bool false,.bool false,H Q 0,.bool true,G s4 qt.length t4,G s2 z.length t2,G s3 d.length t3];have M:=z0m ao (g:=w.heap.size) (Nat.le_refl _) #[H Q 0,H Q 0,.bool false,.bool false,H Q 0,.bool true,G s4 qt.length t4,G s2 z.length t2,G s3 d.length t3];have O:(m.info? 66).map (·.size)=some (#[H Q 0,H Q 0,.bool false,.bool false,H Q 0,.bool true,G s4 qt.length t4,G s2 z.length t2,G s3 d.length t3]:Array Value).size:=z4V;have K2:=(o2.out U1 (fun k hk=>by have:=M2 k hk;simp only[Ve];omega)).out U2 (fun k hk=>by have:=L2 k hk;simp only[Ve];omega);have K3:=(o3.out U1 (fun k hk=>by have:=M3 k hk;simp only[Ve];omega)).out U2 (fun k hk=>by have:=L3 k hk;simp only[Ve];omega);have K4:=(o4.out U1 (fun k hk=>by have:=g4 k hk;simp only[Ve];omega)).out U2 (fun k hk=>by have:=g4 k hk;simp only[Ve];omega);have HR:Hid (InstQ.e ⟨true,G s4 qt.length t4,qt,G s2 z.length t2,z,G s3 d.length t3,d⟩=E∧(instK.foot ⟨true,G s4 qt.length t4,qt,G s2 z.length t2,z,G s3 d.length t3,d⟩).Nodup∧∀k∈instK.foot ⟨true,G s4 qt.length t4,qt,G s2 z.length t2,z,G s3 d.length t3,d⟩,w.heap.size≤k):=by
    refine⟨?_,?_,?_⟩
    ·rw[E1.out.2,ae.out.1,←ae.out.2];simp only[InstQ.e,e4]
    ·refine List.nodup_append.2 ⟨n4,ab,fun x hx y hy e=>?_⟩;have:=g4 x hx;rcases List.mem_append.1 hy with hy|hy
     ·have:=M2 y hy;omega
     ·have:=M3 y hy;omega
    ·intro k hk;rcases List.mem_append.1 hk with hk|hk
     ·have:=g4 k hk;omega
     ·rcases List.mem_append.1 hk with hk|hk
      ·have:=L2 k hk;omega
      ·have:=L3 k hk;omega
   have an:Hid (D=0):=E1.out.1;obtain⟨k0,k1,k2,k3⟩:=Gz.cel4;have kf:=Gz.frozen 1;clear X e4 o4 n4 g4 J o2 o3 M2 M3 L2 L3 ab U1 U2 E1 ae L Gz G5 Rb
   go_wp2_with (first|(refine z0s (by kernel_rfl) 66 _ _ rfl _ #[H Q 0,H Q 0,.bool false,.bool false,H Q 0,.bool true,G s4 qt.length t4,G s2 z.length t2,G s3 d.length t3] rfl rfl 66 _ R5 O rfl (by simp[Value.oneCell']) ?_))
   obtain⟨q0,q1,q2,q3,q4,q5,q6,q7,q8⟩:=Rr.cel9;exact bodyPost_ret (v:=.agg #[H Q 0,H Q 0,.bool false,.bool false,H Q 0,.bool true,G s4 qt.length t4,G s2 z.length t2,G s3 d.length t3]) (by simp[results,results38,go_sem,q0,q1,q2,q3,q4,q5,q6,q7,q8]) rfl ⟨⟨true,G s4 qt.length t4,qt,G s2 z.length t2,z,G s3 d.length t3,d⟩,by rw[an.out],HR.out.1,⟨K4,K2,K3⟩,HR.out.2.1,HR.out.2.2,M⟩
abbrev z1x(c:Int)(ps:List TxnQ):List TxnQ:=mkL z1p nmTxn c ps
abbrev z34(c:Int)(ps:List RoundQ):List RoundQ:=mkL z0z nmRound c ps
theorem z1c(v:Value)(c:Int)(ps:List TxnQ):txnK.fp v (z1x c ps)=txnK.fp v ps:=q0l z6U _ _ _
theorem z2p(v:Value)(c:Int)(ps:List RoundQ):roundK.fp v (z34 c ps)=roundK.fp v ps:=q0l z4U _ _ _
def z0C(c:Int)(p:InstQ):InstQ:=⟨((c) % 3==0),p.vb,z1x (c+1) p.batch,p.vr,z34 (c+1+((nmL nmTxn p.batch:Nat):Int)) p.rounds,p.vd,z1F (c+1+((nmL nmTxn p.batch:Nat):Int)+((nmL nmRound p.rounds:Nat):Int)) p.dec⟩
def nmInsS(p:InstQ):Nat:=1+nmL nmTxn p.batch+nmL nmRound p.rounds+p.dec.length
theorem z5P(c:Int)(p:InstQ):instK.foot (z0C c p)=instK.foot p:=by
 simp only[z0C,show∀p:InstQ,instK.foot p=txnK.fp p.vb p.batch++(roundK.fp p.vr p.rounds++intK.fp p.vd p.dec)from fun _=>rfl,z1c,z2p,z1G]
theorem z5Q(v:Value)(ps:List InstQ)(c:Int)(w:World)(h:instK.Own w v ps)(aG:(instK.fp v ps).Nodup)(hl:(ps.length+nmL InstQ.n ps)≤1048576)(h0:0≤c)(h1:c+(nmL nmInsS ps:Int)≤1099511627776):
  Calls m 27 #[v,H Q c] w fun e w'=>e=.returned (H Q (c+(nmL nmInsS ps:Int)))∧instK.Own w' v (mkL z0C nmInsS c ps)∧Out (instK.fp v ps) w w':=by
 obtain⟨a,cap,rfl⟩:=h.shape;have ad:∀k,k≤ps.length→instK.fp (G a ps.length cap) (half z0C nmInsS c ps k)=instK.fp (G a ps.length cap) ps:=fun k hk=>z5z z5P _ c ps k
 have HF:Hid (∀k,k≤ps.length→instK.fp (G a ps.length cap) (half z0C nmInsS c ps k)=instK.fp (G a ps.length cap) ps):=ad;have HA:Hid (instK.Own w (G a ps.length cap) (half z0C nmInsS c ps 0)):=by rw[z2E];exact h
 clear ad h;go_enter func27,ntmps27
 go_wp2
 go_loopw[1,5] (fun j i wr=>∃k:Nat,k≤ps.length∧j=H Q (c+(nmL nmInsS (ps.take k):Int))∧i=H Q k∧Hid (instK.Own wr (G a ps.length cap) (half z0C nmInsS c ps k))∧Hid (Out (instK.fp (G a ps.length cap) ps) w wr)) (fun _ i _=>ps.length-(intOf i).toNat)
 case atStart=>exact⟨0,Nat.zero_le _,by simp[nmL],rfl,HA,Out.refl _ _⟩
 case round=>
  clear HA;obtain⟨k,hk,rfl,rfl,HO,HU⟩:=hrel;by_cases V:k<ps.length
  ·have aN:(half z0C nmInsS c ps k).length=ps.length:=z1y _ _ _ _ _ hk;have hO:=HO.out;obtain⟨g,rfl⟩:=hO.blkOf (by omega);have ae:(instK.fp (G (some ⟨g,0,none⟩) ps.length cap) (half z0C nmInsS c ps k)).Nodup:=by rw[HF.out k hk];exact aG
   have T:Hid (∀x∈instK.foot ps[k],x∈instK.fp (G (some ⟨g,0,none⟩) ps.length cap) ps):=fun x hx=>by
    simp only[Kind.fp,List.mem_append,List.mem_flatMap];exact Or.inr ⟨_,Vg V,hx⟩
   have ar:Hid (∀x∈[g],x∈instK.fp (G (some ⟨g,0,none⟩) ps.length cap) ps):=fun x hx=>by
    simp only[Ve]at hx;subst hx;simp[Kind.fp,blk,Value.ownBlock]
   have au:k<(half z0C nmInsS c ps k).length:=by omega
   have U:=z3O z0C nmInsS c ps k V;have C:instK.Own wr (G (some ⟨g,0,none⟩) ps.length cap) ((half z0C nmInsS c ps k).set k ps[k]):=by
    have e:(half z0C nmInsS c ps k).set k ps[k]=half z0C nmInsS c ps k:=by
     rw[←U,List.set_getElem_self]
    rw[e];exact hO
   have E:(instK.fp (G (some ⟨g,0,none⟩) ps.length cap) ((half z0C nmInsS c ps k).set k ps[k])).Nodup:=by
    have e:(half z0C nmInsS c ps k).set k ps[k]=half z0C nmInsS c ps k:=by
     rw[←U,List.set_getElem_self]
    rw[e];exact ae
   clear U hO ae;have af:=z3P z0C nmInsS c ps k V;have aI:=z0S nmInsS ps k V;have aC:=z2w nmInsS ps (k+1);have aK:=z01 InstQ.n ps k V;have an:Hid ((nmL nmInsS (ps.take (k+1)):Int)=(nmL nmInsS (ps.take k):Int)+(nmInsS ps[k]:Int)):=show _=_ by omega
   have aJ:(nmL nmInsS (ps.take k):Int)+(nmInsS ps[k]:Int)≤nmL nmInsS ps:=by omega
   have ab:Hid ((half z0C nmInsS c ps k).set k (z0C (c+(nmL nmInsS (ps.take k):Int)) ps[k])=half z0C nmInsS c ps (k+1)):=af;clear af aI aC HO;generalize half z0C nmInsS c ps k=hs at*;generalize aH:ps[k]=p at*;clear aH;obtain⟨am,M,d,J,z,I,D⟩:=p;have A:k<hs.length:=au;dsimp only[nmInsS,InstQ.n]at an aJ aK;generalize hy:(nmL nmInsS (ps.take k):Int)=y at*;have aO:0≤y:=by omega
   clear hy;obtain⟨c0,f0⟩:=C.cell' A 0 (.bool am) rfl;obtain⟨c1,f1⟩:=C.cell' A 1 (M) rfl;have c0:wr.cell? ⟨g,k*4,none⟩=_:=c0;have f0:wr.frozen? ⟨g,k*4,none⟩=_:=f0;have c1:wr.cell? ⟨g,k*4+1,none⟩=_:=c1;have f1:wr.frozen? ⟨g,k*4+1,none⟩=_:=f1;obtain⟨N,O⟩:=C.store' E A (⟨((c+y) % 3==0),M,d,J,z,I,D⟩:InstQ) 0 (.bool ((c+y) % 3==0)) (by decide) rfl rfl (fun _ h=>h);have C:instK.Own (wr.setCell ⟨g,k*4,none⟩ (.bool ((c+y) % 3==0))) (G (some ⟨g,0,none⟩) ps.length cap) (hs.set k (⟨((c+y) % 3==0),M,d,J,z,I,D⟩:InstQ)):=N;have E:=O;have HU:Hid (Out (instK.fp (G (some ⟨g,0,none⟩) ps.length cap) ps) w (wr.setCell ⟨g,k*4,none⟩ (.bool ((c+y) % 3==0)))):=(HU.out.trans ((Vh _ g (k*4) (.bool ((c+y) % 3==0))).mono ar.out))
   have ao:=C.elem' A;have ah:txnK.Own (wr.setCell ⟨g,k*4,none⟩ (.bool ((c+y) % 3==0))) M d:=ao.1;have L:=z4x M d (c+y+1) _ ah (List.nodup_append.1 (z0l E A)).1 (by omega) (by omega) (by omega);obtain⟨ak,al,av⟩:=ah.shape;subst av;clear ao ah
   go_wp2_with fail
   refine L.mono ?_;rintro e Z ⟨rfl,aD,W⟩;clear L;obtain⟨N,O⟩:=C.turn' E A (⟨((c+y) % 3==0),G ak d.length al,z1x (c+y+1) d,J,z,I,D⟩:InstQ) W (fun x hx=>Vd _ hx) rfl (by simp only[show∀p:InstQ,instK.foot p=txnK.fp p.vb p.batch++(roundK.fp p.vr p.rounds++intK.fp p.vd p.dec)from fun _=>rfl,z1c,z2p,z1G]) (⟨aD,(C.elem' A).2.1.out W (fun k hk=>z06 (z0l E A) k (Vd _ hk)),(C.elem' A).2.2.out W (fun k hk=>z06 (z0l E A) k (Vc _ hk))⟩);have HU:Hid (Out (instK.fp (G (some ⟨g,0,none⟩) ps.length cap) ps) w Z):=HU.out.trans (W.mono (fun x hx=>T.out x (show x∈instK.foot _ from(fun x hx=>Vd _ hx) x hx)));have C:=N;have E:=O;obtain⟨c2,f2⟩:=C.cell' A 2 (J) rfl;have c2:Z.cell? ⟨g,k*4+2,none⟩=_:=c2;have f2:Z.frozen? ⟨g,k*4+2,none⟩=_:=f2;have ap:=C.elem' A;have ai:roundK.Own Z J z:=ap.2.1;have L:=z8H J z (c+y+1+((nmL nmTxn d:Nat):Int)) _ ai (List.nodup_append.1 (List.nodup_append.1 (z0l E A)).2.1).1 (by omega) (by omega) (by omega);obtain⟨ay,az,aw⟩:=ai.shape;subst aw;clear ap ai
   go_wp2_with fail
   refine L.mono ?_;rintro e aa ⟨rfl,aE,X⟩;clear L;obtain⟨N,O⟩:=C.turn' E A (⟨((c+y) % 3==0),G ak d.length al,z1x (c+y+1) d,G ay z.length az,z34 (c+y+1+((nmL nmTxn d:Nat):Int)) z,I,D⟩:InstQ) X (fun x hx=>Vc _ (Vd _ hx)) rfl (by simp only[show∀p:InstQ,instK.foot p=txnK.fp p.vb p.batch++(roundK.fp p.vr p.rounds++intK.fp p.vd p.dec)from fun _=>rfl,z1c,z2p,z1G]) (⟨(C.elem' A).1.out X (fun k hk ag=>z1u (z0l E A) k hk (Vd _ ag)),aE,(C.elem' A).2.2.out X (z06 (List.nodup_append.1 (z0l E A)).2.1)⟩);have HU:Hid (Out (instK.fp (G (some ⟨g,0,none⟩) ps.length cap) ps) w aa):=HU.out.trans (X.mono (fun x hx=>T.out x (show x∈instK.foot _ from(fun x hx=>Vc _ (Vd _ hx)) x hx)));have C:=N;have E:=O;obtain⟨c3,f3⟩:=C.cell' A 3 (I) rfl;have c3:aa.cell? ⟨g,k*4+3,none⟩=_:=c3;have f3:aa.frozen? ⟨g,k*4+3,none⟩=_:=f3;have aq:=C.elem' A;have aj:intK.Own aa I D:=aq.2.2;have L:=z4o I D (c+y+1+((nmL nmTxn d:Nat):Int)+((nmL nmRound z:Nat):Int)) _ aj (by omega) (by omega) (by omega);obtain⟨aL,aM,ax⟩:=aj.shape;subst ax;clear aq aj
   go_wp2_with fail
   refine L.mono ?_;rintro e aA ⟨rfl,aF,Y⟩;clear L;obtain⟨N,O⟩:=C.turn' E A (⟨((c+y) % 3==0),G ak d.length al,z1x (c+y+1) d,G ay z.length az,z34 (c+y+1+((nmL nmTxn d:Nat):Int)) z,G aL D.length aM,z1F (c+y+1+((nmL nmTxn d:Nat):Int)+((nmL nmRound z:Nat):Int)) D⟩:InstQ) Y (fun x hx=>Vc _ (Vc _ (hx))) rfl (by simp only[show∀p:InstQ,instK.foot p=txnK.fp p.vb p.batch++(roundK.fp p.vr p.rounds++intK.fp p.vd p.dec)from fun _=>rfl,z1c,z2p,z1G]) (⟨(C.elem' A).1.out Y (fun k hk ag=>z1u (z0l E A) k hk (Vc _ ag)),(C.elem' A).2.1.out Y (z1u (List.nodup_append.1 (z0l E A)).2.1),aF⟩);have HU:Hid (Out (instK.fp (G (some ⟨g,0,none⟩) ps.length cap) ps) w aA):=HU.out.trans (Y.mono (fun x hx=>T.out x (show x∈instK.foot _ from(fun x hx=>Vc _ (Vc _ (hx))) x hx)));have C:=N;have E:=O;have R:Hid (instK.Own aA (G (some ⟨g,0,none⟩) ps.length cap) (half z0C nmInsS c ps (k+1))):=by rw[←ab.out];exact C
   clear C E ab T ar
   go_wp2
   go_roundw
   case rel=>exact⟨k+1,by omega,by rw[an.out];congr 1;omega,by go_num,R.out,HU.out⟩
   case measure=>simp[intOf];omega
  ·have aB:k=ps.length:=by omega
   subst aB;have hO:=HO.out;rw[z3N]at hO;rw[List.take_length];clear HF HO
   go_wp2
   go_ret;exact⟨rfl,hO,HU.out⟩
end Go.Proofs.YtdppipeclnldeaaGreatDoor
