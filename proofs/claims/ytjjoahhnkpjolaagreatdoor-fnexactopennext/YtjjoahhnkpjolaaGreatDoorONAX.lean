import Derived.Test.YtjjoahhnkpjolaaGreatDoorONAW
set_option linter.unusedVariables false
set_option linter.unusedSimpArgs false
set_option maxRecDepth 100000
set_option maxHeartbeats 4000000
namespace Go.Proofs.YtjjoahhnkpjolaaGreatDoor
open Go.RowKit Go.BigFrame
open List renaming mem_append_right->o,mem_append_left->m
open IntKind renaming i64->S
open Value renaming int->G,slice->K
open Go.Proofs.Tryz renaming prog->Q
open Go.Proofs.Tryz
abbrev q2V(c:Int)(ps:List USQ):List USQ:=mkL z3H nmUs c ps
theorem z3a(v:Value)(c:Int)(ps:List USQ):ussK.fp v (q2V c ps)=ussK.fp v ps:=z99 z8N _ _ _
def z0C(c:Int)(p:NodeQ):NodeQ:=⟨c,c+1,p.vd,z1v (c+1+1) p.done,p.vb,z1d (c+1+1+((nmL nmTxn p.done:Nat):Int)) p.base,p.vt,z1v (c+1+1+((nmL nmTxn p.done:Nat):Int)+((p.base.length*2:Nat):Int)) p.tent,p.vu,q2V (c+1+1+((nmL nmTxn p.done:Nat):Int)+((p.base.length*2:Nat):Int)+((nmL nmTxn p.tent:Nat):Int)) p.undos,p.vn,z1d (c+1+1+((nmL nmTxn p.done:Nat):Int)+((p.base.length*2:Nat):Int)+((nmL nmTxn p.tent:Nat):Int)+((nmL nmUs p.undos:Nat):Int)) p.now⟩
def nmNodS(p:NodeQ):Nat:=1+1+nmL nmTxn p.done+p.base.length*2+nmL nmTxn p.tent+nmL nmUs p.undos+p.now.length*2
theorem z9Q(c:Int)(p:NodeQ):nodeK.foot (z0C c p)=nodeK.foot p:=by
 simp only[z0C,show∀p:NodeQ,nodeK.foot p=txnK.fp p.vd p.done++(itemK.fp p.vb p.base++(txnK.fp p.vt p.tent++(ussK.fp p.vu p.undos++itemK.fp p.vn p.now)))from fun _=>rfl,z1b,z1z,z1b,z3a,z1z]
theorem z9R(v:Value)(ps:List NodeQ)(c:Int)(w:World)(h:nodeK.Own w v ps)(a2:(nodeK.fp v ps).Nodup)(hl:(ps.length+nmL NodeQ.n ps)≤1048576)(h0:0≤c)(h1:c+(nmL nmNodS ps:Int)≤1099511627776):
  Calls Q 34 #[v,G S c] w fun e w'=>e=.returned (G S (c+(nmL nmNodS ps:Int)))∧nodeK.Own w' v (mkL z0C nmNodS c ps)∧Out (nodeK.fp v ps) w w':=by
 obtain⟨a,cap,rfl⟩:=h.shape;have ar:∀k,k≤ps.length→nodeK.fp (K a ps.length cap) (half z0C nmNodS c ps k)=nodeK.fp (K a ps.length cap) ps:=fun k hk=>z5r z9Q _ c ps k
 have HF:Hid (∀k,k≤ps.length→nodeK.fp (K a ps.length cap) (half z0C nmNodS c ps k)=nodeK.fp (K a ps.length cap) ps):=ar;have HA:Hid (nodeK.Own w (K a ps.length cap) (half z0C nmNodS c ps 0)):=by rw[z2D];exact h
 clear ar h;go_enter func34,ntmps34
 go_wp2
 go_loopw[1,5] (fun j i wr=>∃k:Nat,k≤ps.length∧j=G S (c+(nmL nmNodS (ps.take k):Int))∧i=G S k∧Hid (nodeK.Own wr (K a ps.length cap) (half z0C nmNodS c ps k))∧Hid (Out (nodeK.fp (K a ps.length cap) ps) w wr)) (fun _ i _=>ps.length-(intOf i).toNat)
 case atStart=>exact⟨0,Nat.zero_le _,by simp[nmL],rfl,HA,Out.refl _ _⟩
 case round=>
  clear HA;obtain⟨k,hk,rfl,rfl,HO,HU⟩:=hrel;by_cases ag:k<ps.length
  ·have bd:(half z0C nmNodS c ps k).length=ps.length:=z1w _ _ _ _ _ hk;have hO:=HO.out;obtain⟨g,rfl⟩:=hO.blkOf (by omega);have au:(nodeK.fp (K (some ⟨g,0,none⟩) ps.length cap) (half z0C nmNodS c ps k)).Nodup:=by rw[HF.out k hk];exact a2
   have Y:Hid (∀x∈nodeK.foot ps[k],x∈nodeK.fp (K (some ⟨g,0,none⟩) ps.length cap) ps):=fun x hx=>by
    simp only[Kind.fp,List.mem_append,List.mem_flatMap];exact Or.inr ⟨_,List.getElem_mem ag,hx⟩
   have aw:Hid (∀x∈[g],x∈nodeK.fp (K (some ⟨g,0,none⟩) ps.length cap) ps):=fun x hx=>by
    simp only[List.mem_singleton]at hx;subst hx;simp[Kind.fp,blk,Value.ownBlock]
   have aK:k<(half z0C nmNodS c ps k).length:=by omega
   have af:=z3M z0C nmNodS c ps k ag;have D:nodeK.Own wr (K (some ⟨g,0,none⟩) ps.length cap) ((half z0C nmNodS c ps k).set k ps[k]):=by
    have e:(half z0C nmNodS c ps k).set k ps[k]=half z0C nmNodS c ps k:=by
     rw[←af,List.set_getElem_self]
    rw[e];exact hO
   have I:(nodeK.fp (K (some ⟨g,0,none⟩) ps.length cap) ((half z0C nmNodS c ps k).set k ps[k])).Nodup:=by
    have e:(half z0C nmNodS c ps k).set k ps[k]=half z0C nmNodS c ps k:=by
     rw[←af,List.set_getElem_self]
    rw[e];exact au
   clear af hO au;have av:=z3N z0C nmNodS c ps k ag;have a7:=z0S nmNodS ps k ag;have aV:=z2w nmNodS ps (k+1);have ba:=z01 NodeQ.n ps k ag;have aE:Hid ((nmL nmNodS (ps.take (k+1)):Int)=(nmL nmNodS (ps.take k):Int)+(nmNodS ps[k]:Int)):=show _=_ by omega
   have a8:(nmL nmNodS (ps.take k):Int)+(nmNodS ps[k]:Int)≤nmL nmNodS ps:=by omega
   have aq:Hid ((half z0C nmNodS c ps k).set k (z0C (c+(nmL nmNodS (ps.take k):Int)) ps[k])=half z0C nmNodS c ps (k+1)):=av;clear av a7 aV HO;generalize half z0C nmNodS c ps k=hs at*;generalize a6:ps[k]=p at*;clear a6;obtain⟨aT,aj,X,d,W,A,T,C,N,E,M,J⟩:=p;have z:k<hs.length:=aK;dsimp only[nmNodS,NodeQ.n,NodeQ.r,RepQ.n]at aE a8 ba;generalize hy:(nmL nmNodS (ps.take k):Int)=y at*;have be:0≤y:=by omega
   clear hy;obtain⟨c0,f0⟩:=D.cell' z 0 (G S aT) rfl;obtain⟨c1,f1⟩:=D.cell' z 1 (G S aj) rfl;obtain⟨c2,f2⟩:=D.cell' z 2 (X) rfl;have c0:wr.cell? ⟨g,k*7,none⟩=_:=c0;have f0:wr.frozen? ⟨g,k*7,none⟩=_:=f0;have c1:wr.cell? ⟨g,k*7+1,none⟩=_:=c1;have f1:wr.frozen? ⟨g,k*7+1,none⟩=_:=f1;have c2:wr.cell? ⟨g,k*7+2,none⟩=_:=c2;have f2:wr.frozen? ⟨g,k*7+2,none⟩=_:=f2;obtain⟨U,V⟩:=D.store' I z (⟨c+y,aj,X,d,W,A,T,C,N,E,M,J⟩:NodeQ) 0 (G S (c+y)) (by decide) rfl rfl (fun _ h=>h);have D:nodeK.Own (wr.setCell ⟨g,k*7,none⟩ (G S (c+y))) (K (some ⟨g,0,none⟩) ps.length cap) (hs.set k (⟨c+y,aj,X,d,W,A,T,C,N,E,M,J⟩:NodeQ)):=U;have I:=V;obtain⟨U,V⟩:=D.store' I z (⟨c+y,c+y+1,X,d,W,A,T,C,N,E,M,J⟩:NodeQ) 1 (G S (c+y+1)) (by decide) rfl rfl (fun _ h=>h);have D:nodeK.Own ((wr.setCell ⟨g,k*7,none⟩ (G S (c+y))).setCell ⟨g,k*7+1,none⟩ (G S (c+y+1))) (K (some ⟨g,0,none⟩) ps.length cap) (hs.set k (⟨c+y,c+y+1,X,d,W,A,T,C,N,E,M,J⟩:NodeQ)):=U;have I:=V;have HU:Hid (Out (nodeK.fp (K (some ⟨g,0,none⟩) ps.length cap) ps) w ((wr.setCell ⟨g,k*7,none⟩ (G S (c+y))).setCell ⟨g,k*7+1,none⟩ (G S (c+y+1)))):=((HU.out.trans ((Out.setCell _ g (k*7) (G S (c+y))).mono aw.out)).trans ((Out.setCell _ g (k*7+1) (G S (c+y+1))).mono aw.out))
   have aF:=D.elem' z;have ax:txnK.Own ((wr.setCell ⟨g,k*7,none⟩ (G S (c+y))).setCell ⟨g,k*7+1,none⟩ (G S (c+y+1))) X d:=aF.1;have O:=z4r X d (c+y+1+1) _ ax (List.nodup_append.1 (z0k I z)).1 (by omega) (by omega) (by omega);obtain⟨ah,ai,aL⟩:=ax.shape;subst aL;clear aF ax
   go_wp2_with fail
   refine O.mono ?_;rintro e am ⟨rfl,aW,Z⟩;clear O;obtain⟨U,V⟩:=D.turn' I z (⟨c+y,c+y+1,K ah d.length ai,z1v (c+y+1+1) d,W,A,T,C,N,E,M,J⟩:NodeQ) Z (fun x hx=>m _ hx) rfl (by simp only[show∀p:NodeQ,nodeK.foot p=txnK.fp p.vd p.done++(itemK.fp p.vb p.base++(txnK.fp p.vt p.tent++(ussK.fp p.vu p.undos++itemK.fp p.vn p.now)))from fun _=>rfl,z1b,z1z,z3a]) ((id ⟨aW,(D.elem' z).2.1.out Z (fun k hk=>z06 (z0k I z) k (m _ hk)),(D.elem' z).2.2.1.out Z (fun k hk=>z06 (z0k I z) k (o _ (m _ hk))),(D.elem' z).2.2.2.1.out Z (fun k hk=>z06 (z0k I z) k (o _ (o _ (m _ hk)))),(D.elem' z).2.2.2.2.out Z (fun k hk=>z06 (z0k I z) k (o _ (o _ (o _ hk))))⟩:_∧_∧_∧_∧_));have HU:Hid (Out (nodeK.fp (K (some ⟨g,0,none⟩) ps.length cap) ps) w am):=HU.out.trans (Z.mono (fun x hx=>Y.out x (show x∈nodeK.foot _ from(fun x hx=>m _ hx) x hx)));have D:=U;have I:=V;obtain⟨c3,f3⟩:=D.cell' z 3 (W) rfl;have c3:am.cell? ⟨g,k*7+3,none⟩=_:=c3;have f3:am.frozen? ⟨g,k*7+3,none⟩=_:=f3;have aG:=D.elem' z;have ay:itemK.Own am W A:=aG.2.1;have O:=z5t W A (c+y+1+1+((nmL nmTxn d:Nat):Int)) _ ay (by omega) (by omega) (by omega);obtain⟨ak,al,aM⟩:=ay.shape;subst aM;clear aG ay
   go_wp2_with fail
   refine O.mono ?_;rintro e an ⟨rfl,aX,aa⟩;clear O;obtain⟨U,V⟩:=D.turn' I z (⟨c+y,c+y+1,K ah d.length ai,z1v (c+y+1+1) d,K ak A.length al,z1d (c+y+1+1+((nmL nmTxn d:Nat):Int)) A,T,C,N,E,M,J⟩:NodeQ) aa (fun x hx=>o _ (m _ hx)) rfl (by simp only[show∀p:NodeQ,nodeK.foot p=txnK.fp p.vd p.done++(itemK.fp p.vb p.base++(txnK.fp p.vt p.tent++(ussK.fp p.vu p.undos++itemK.fp p.vn p.now)))from fun _=>rfl,z1b,z1z,z3a]) ((id ⟨(D.elem' z).1.out aa (fun k hk L=>z1s (z0k I z) k hk (m _ L)),aX,(D.elem' z).2.2.1.out aa (fun k hk=>z06 (List.nodup_append.1 (z0k I z)).2.1 k (m _ hk)),(D.elem' z).2.2.2.1.out aa (fun k hk=>z06 (List.nodup_append.1 (z0k I z)).2.1 k (o _ (m _ hk))),(D.elem' z).2.2.2.2.out aa (fun k hk=>z06 (List.nodup_append.1 (z0k I z)).2.1 k (o _ (o _ hk)))⟩:_∧_∧_∧_∧_));have HU:Hid (Out (nodeK.fp (K (some ⟨g,0,none⟩) ps.length cap) ps) w an):=HU.out.trans (aa.mono (fun x hx=>Y.out x (show x∈nodeK.foot _ from(fun x hx=>o _ (m _ hx)) x hx)));have D:=U;have I:=V;obtain⟨c4,f4⟩:=D.cell' z 4 (T) rfl;have c4:an.cell? ⟨g,k*7+4,none⟩=_:=c4;have f4:an.frozen? ⟨g,k*7+4,none⟩=_:=f4;have aH:=D.elem' z;have az:txnK.Own an T C:=aH.2.2.1;have O:=z4r T C (c+y+1+1+((nmL nmTxn d:Nat):Int)+((A.length*2:Nat):Int)) _ az (List.nodup_append.1 (List.nodup_append.1 (List.nodup_append.1 (z0k I z)).2.1).2.1).1 (by omega) (by omega) (by omega);obtain⟨aC,aD,aN⟩:=az.shape;subst aN;clear aH az
   go_wp2_with fail
   refine O.mono ?_;rintro e ao ⟨rfl,aY,ab⟩;clear O;obtain⟨U,V⟩:=D.turn' I z (⟨c+y,c+y+1,K ah d.length ai,z1v (c+y+1+1) d,K ak A.length al,z1d (c+y+1+1+((nmL nmTxn d:Nat):Int)) A,K aC C.length aD,z1v (c+y+1+1+((nmL nmTxn d:Nat):Int)+((A.length*2:Nat):Int)) C,N,E,M,J⟩:NodeQ) ab (fun x hx=>o _ (o _ (m _ hx))) rfl (by simp only[show∀p:NodeQ,nodeK.foot p=txnK.fp p.vd p.done++(itemK.fp p.vb p.base++(txnK.fp p.vt p.tent++(ussK.fp p.vu p.undos++itemK.fp p.vn p.now)))from fun _=>rfl,z1b,z1z,z3a]) ((id ⟨(D.elem' z).1.out ab (fun k hk L=>z1s (z0k I z) k hk (o _ (m _ L))),(D.elem' z).2.1.out ab (fun k hk L=>z1s (List.nodup_append.1 (z0k I z)).2.1 k hk (m _ L)),aY,(D.elem' z).2.2.2.1.out ab (fun k hk=>z06 (List.nodup_append.1 (List.nodup_append.1 (z0k I z)).2.1).2.1 k (m _ hk)),(D.elem' z).2.2.2.2.out ab (fun k hk=>z06 (List.nodup_append.1 (List.nodup_append.1 (z0k I z)).2.1).2.1 k (o _ hk))⟩:_∧_∧_∧_∧_));have HU:Hid (Out (nodeK.fp (K (some ⟨g,0,none⟩) ps.length cap) ps) w ao):=HU.out.trans (ab.mono (fun x hx=>Y.out x (show x∈nodeK.foot _ from(fun x hx=>o _ (o _ (m _ hx))) x hx)));have D:=U;have I:=V;obtain⟨c5,f5⟩:=D.cell' z 5 (N) rfl;have c5:ao.cell? ⟨g,k*7+5,none⟩=_:=c5;have f5:ao.frozen? ⟨g,k*7+5,none⟩=_:=f5;have aI:=D.elem' z;have aA:ussK.Own ao N E:=aI.2.2.2.1;have O:=q2T N E (c+y+1+1+((nmL nmTxn d:Nat):Int)+((A.length*2:Nat):Int)+((nmL nmTxn C:Nat):Int)) _ aA (List.nodup_append.1 (List.nodup_append.1 (List.nodup_append.1 (List.nodup_append.1 (z0k I z)).2.1).2.1).2.1).1 (by omega) (by omega) (by omega);obtain⟨aQ,aR,aO⟩:=aA.shape;subst aO;clear aI aA
   go_wp2_with fail
   refine O.mono ?_;rintro e ap ⟨rfl,aZ,ad⟩;clear O;obtain⟨U,V⟩:=D.turn' I z (⟨c+y,c+y+1,K ah d.length ai,z1v (c+y+1+1) d,K ak A.length al,z1d (c+y+1+1+((nmL nmTxn d:Nat):Int)) A,K aC C.length aD,z1v (c+y+1+1+((nmL nmTxn d:Nat):Int)+((A.length*2:Nat):Int)) C,K aQ E.length aR,q2V (c+y+1+1+((nmL nmTxn d:Nat):Int)+((A.length*2:Nat):Int)+((nmL nmTxn C:Nat):Int)) E,M,J⟩:NodeQ) ad (fun x hx=>o _ (o _ (o _ (m _ hx)))) rfl (by simp only[show∀p:NodeQ,nodeK.foot p=txnK.fp p.vd p.done++(itemK.fp p.vb p.base++(txnK.fp p.vt p.tent++(ussK.fp p.vu p.undos++itemK.fp p.vn p.now)))from fun _=>rfl,z1b,z1z,z3a]) ((id ⟨(D.elem' z).1.out ad (fun k hk L=>z1s (z0k I z) k hk (o _ (o _ (m _ L)))),(D.elem' z).2.1.out ad (fun k hk L=>z1s (List.nodup_append.1 (z0k I z)).2.1 k hk (o _ (m _ L))),(D.elem' z).2.2.1.out ad (fun k hk L=>z1s (List.nodup_append.1 (List.nodup_append.1 (z0k I z)).2.1).2.1 k hk (m _ L)),aZ,(D.elem' z).2.2.2.2.out ad (fun k hk=>z06 (List.nodup_append.1 (List.nodup_append.1 (List.nodup_append.1 (z0k I z)).2.1).2.1).2.1 k hk)⟩:_∧_∧_∧_∧_));have HU:Hid (Out (nodeK.fp (K (some ⟨g,0,none⟩) ps.length cap) ps) w ap):=HU.out.trans (ad.mono (fun x hx=>Y.out x (show x∈nodeK.foot _ from(fun x hx=>o _ (o _ (o _ (m _ hx)))) x hx)));have D:=U;have I:=V;obtain⟨c6,f6⟩:=D.cell' z 6 (M) rfl;have c6:ap.cell? ⟨g,k*7+6,none⟩=_:=c6;have f6:ap.frozen? ⟨g,k*7+6,none⟩=_:=f6;have aJ:=D.elem' z;have aB:itemK.Own ap M J:=aJ.2.2.2.2;have O:=z5t M J (c+y+1+1+((nmL nmTxn d:Nat):Int)+((A.length*2:Nat):Int)+((nmL nmTxn C:Nat):Int)+((nmL nmUs E:Nat):Int)) _ aB (by omega) (by omega) (by omega);obtain⟨bb,bc,aP⟩:=aB.shape;subst aP;clear aJ aB
   go_wp2_with fail
   refine O.mono ?_;rintro e aS ⟨rfl,a1,ae⟩;clear O;obtain⟨U,V⟩:=D.turn' I z (⟨c+y,c+y+1,K ah d.length ai,z1v (c+y+1+1) d,K ak A.length al,z1d (c+y+1+1+((nmL nmTxn d:Nat):Int)) A,K aC C.length aD,z1v (c+y+1+1+((nmL nmTxn d:Nat):Int)+((A.length*2:Nat):Int)) C,K aQ E.length aR,q2V (c+y+1+1+((nmL nmTxn d:Nat):Int)+((A.length*2:Nat):Int)+((nmL nmTxn C:Nat):Int)) E,K bb J.length bc,z1d (c+y+1+1+((nmL nmTxn d:Nat):Int)+((A.length*2:Nat):Int)+((nmL nmTxn C:Nat):Int)+((nmL nmUs E:Nat):Int)) J⟩:NodeQ) ae (fun x hx=>o _ (o _ (o _ (o _ (hx))))) rfl (by simp only[show∀p:NodeQ,nodeK.foot p=txnK.fp p.vd p.done++(itemK.fp p.vb p.base++(txnK.fp p.vt p.tent++(ussK.fp p.vu p.undos++itemK.fp p.vn p.now)))from fun _=>rfl,z1b,z1z,z3a]) ((id ⟨(D.elem' z).1.out ae (fun k hk L=>z1s (z0k I z) k hk (o _ (o _ (o _ L)))),(D.elem' z).2.1.out ae (fun k hk L=>z1s (List.nodup_append.1 (z0k I z)).2.1 k hk (o _ (o _ L))),(D.elem' z).2.2.1.out ae (fun k hk L=>z1s (List.nodup_append.1 (List.nodup_append.1 (z0k I z)).2.1).2.1 k hk (o _ L)),(D.elem' z).2.2.2.1.out ae (fun k hk L=>z1s (List.nodup_append.1 (List.nodup_append.1 (List.nodup_append.1 (z0k I z)).2.1).2.1).2.1 k hk L),a1⟩:_∧_∧_∧_∧_));have HU:Hid (Out (nodeK.fp (K (some ⟨g,0,none⟩) ps.length cap) ps) w aS):=HU.out.trans (ae.mono (fun x hx=>Y.out x (show x∈nodeK.foot _ from(fun x hx=>o _ (o _ (o _ (o _ (hx))))) x hx)));have D:=U;have I:=V;have R:Hid (nodeK.Own aS (K (some ⟨g,0,none⟩) ps.length cap) (half z0C nmNodS c ps (k+1))):=by rw[←aq.out];exact D
   clear D I aq Y aw
   go_wp2
   go_roundw
   case rel=>exact⟨k+1,by omega,by rw[aE.out];congr 1;omega,by go_num,R.out,HU.out⟩
   case measure=>simp[intOf];omega
  ·have aU:k=ps.length:=by omega
   subst aU;have hO:=HO.out;rw[z3L]at hO;rw[List.take_length];clear HF HO
   go_wp2
   go_ret;exact⟨rfl,hO,HU.out⟩
theorem z9S(v:Value)(ps:List NodeQ)(c:Int)(w:World)(h:nodeK.At w v (mkL z0C nmNodS c ps))(hl:(ps.length+nmL NodeQ.n ps)≤1048576)(h0:0≤c)(h1:c+(nmL nmNodS ps:Int)≤1099511627776):
  Calls Q 64 #[v,G S c] w fun e w'=>e=.returned (G S (c+(nmL nmNodS ps:Int)))∧Below w.heap.size w w':=by
 obtain⟨a,cap,rfl⟩:=h.shape;have X:=z0U z0C nmNodS c ps;rw[X]at h⊢;have HM:Hid ((mkL z0C nmNodS c ps).length=ps.length):=X;clear X;go_enter func64,ntmps64
 go_wp2
 go_loopw[1,5] (fun j i wr=>∃k:Nat,k≤ps.length∧j=G S (c+(nmL nmNodS (ps.take k):Int))∧i=G S k∧Below w.heap.size w wr) (fun _ i _=>ps.length-(intOf i).toNat)
 case atStart=>exact⟨0,Nat.zero_le _,by simp[nmL],rfl,Below.refl _ _⟩
 case round=>
  obtain⟨k,hk,rfl,rfl,hb⟩:=hrel;by_cases W:k<ps.length
  ·have ag:k<(mkL z0C nmNodS c ps).length:=by have:=HM.out;omega
   obtain⟨b,ax,rfl,ay,hc,ah⟩:=(h.below hb).cell (by decide) k ag;rw[z4h z0C nmNodS c ps k W]at hc ah;have au:=z0S nmNodS ps k W;have aq:=z2w nmNodS ps (k+1);have aw:=z01 NodeQ.n ps k W;have Y:Hid ((nmL nmNodS (ps.take (k+1)):Int)=(nmL nmNodS (ps.take k):Int)+(nmNodS ps[k]:Int)):=show _=_ by omega
   have av:(nmL nmNodS (ps.take k):Int)+(nmNodS ps[k]:Int)≤nmL nmNodS ps:=by omega
   clear au aq h;generalize ar:ps[k]=p at*;clear ar;obtain⟨an,ao,M,d,L,z,O,A,T,C,N,E⟩:=p;dsimp only[nmNodS,NodeQ.n,NodeQ.r,RepQ.n]at Y av aw;generalize hy:(nmL nmNodS (ps.take k):Int)=y at*;have az:0≤y:=by omega
   clear hy;have J:∀j x,(nodeK.cells (z0C (c+y) (⟨an,ao,M,d,L,z,O,A,T,C,N,E⟩:NodeQ)))[j]?=some x→wr.cell? ⟨b,ax+k*7+j,none⟩=some x:=hc;clear hc;have c0:=J 0 (G S (c+y)) rfl;have c1:=J 1 (G S (c+y+1)) rfl;have c2:=J 2 (M) rfl;have c3:=J 3 (L) rfl;have c4:=J 4 (O) rfl;have c5:=J 5 (T) rfl;have c6:=J 6 (N) rfl;obtain⟨r2,r3,r4,r5,r6⟩:txnK.At wr M (z1v (c+y+1+1) d)∧itemK.At wr L (z1d (c+y+1+1+((nmL nmTxn d:Nat):Int)) z)∧txnK.At wr O (z1v (c+y+1+1+((nmL nmTxn d:Nat):Int)+((z.length*2:Nat):Int)) A)∧ussK.At wr T (q2V (c+y+1+1+((nmL nmTxn d:Nat):Int)+((z.length*2:Nat):Int)+((nmL nmTxn A:Nat):Int)) C)∧itemK.At wr N (z1d (c+y+1+1+((nmL nmTxn d:Nat):Int)+((z.length*2:Nat):Int)+((nmL nmTxn A:Nat):Int)+((nmL nmUs C:Nat):Int)) E):=ah;have aa:=fun w h=>z4s M d (c+y+1+1) w h (by omega) (by omega) (by omega)
   have ab:=fun w h=>z5u L z (c+y+1+1+((nmL nmTxn d:Nat):Int)) w h (by omega) (by omega) (by omega)
   have ad:=fun w h=>z4s O A (c+y+1+1+((nmL nmTxn d:Nat):Int)+((z.length*2:Nat):Int)) w h (by omega) (by omega) (by omega)
   have ae:=fun w h=>q2U T C (c+y+1+1+((nmL nmTxn d:Nat):Int)+((z.length*2:Nat):Int)+((nmL nmTxn A:Nat):Int)) w h (by omega) (by omega) (by omega)
   have af:=fun w h=>z5u N E (c+y+1+1+((nmL nmTxn d:Nat):Int)+((z.length*2:Nat):Int)+((nmL nmTxn A:Nat):Int)+((nmL nmUs C:Nat):Int)) w h (by omega) (by omega) (by omega)
   obtain⟨aF,aK,ai⟩:=r2.shape;subst ai;obtain⟨aG,aL,aj⟩:=r3.shape;subst aj;obtain⟨aH,aM,ak⟩:=r4.shape;subst ak;obtain⟨aI,aN,al⟩:=r5.shape;subst al;obtain⟨aJ,aO,am⟩:=r6.shape;subst am;rw[Nat.add_zero]at c0;clear J;have aA:¬(c+y+1+1+((nmL nmTxn d:Nat):Int)<0):=by omega
   go_wp2_with fail
   refine(aa wr r2).mono ?_;rintro e w2 ⟨rfl,D⟩;replace hb:=hb.trans (D.mono hb.size);replace c3:=(D.cell (p:=⟨b,_,none⟩) (World.block_lt_of_cell? _ _ c3)).trans c3;replace c4:=(D.cell (p:=⟨b,_,none⟩) (World.block_lt_of_cell? _ _ c4)).trans c4;replace c5:=(D.cell (p:=⟨b,_,none⟩) (World.block_lt_of_cell? _ _ c5)).trans c5;replace c6:=(D.cell (p:=⟨b,_,none⟩) (World.block_lt_of_cell? _ _ c6)).trans c6;replace r3:=r3.below D;replace r4:=r4.below D;replace r5:=r5.below D;replace r6:=r6.below D;clear D aa c0 c1 c2;have aB:¬(c+y+1+1+((nmL nmTxn d:Nat):Int)+((z.length*2:Nat):Int)<0):=by omega
   go_wp2_with fail
   refine(ab w2 r3).mono ?_;rintro e w3 ⟨rfl,I⟩;replace hb:=hb.trans (I.mono hb.size);replace c4:=(I.cell (p:=⟨b,_,none⟩) (World.block_lt_of_cell? _ _ c4)).trans c4;replace c5:=(I.cell (p:=⟨b,_,none⟩) (World.block_lt_of_cell? _ _ c5)).trans c5;replace c6:=(I.cell (p:=⟨b,_,none⟩) (World.block_lt_of_cell? _ _ c6)).trans c6;replace r4:=r4.below I;replace r5:=r5.below I;replace r6:=r6.below I;clear I ab c3;have aC:¬(c+y+1+1+((nmL nmTxn d:Nat):Int)+((z.length*2:Nat):Int)+((nmL nmTxn A:Nat):Int)<0):=by omega
   go_wp2_with fail
   refine(ad w3 r4).mono ?_;rintro e w4 ⟨rfl,U⟩;replace hb:=hb.trans (U.mono hb.size);replace c5:=(U.cell (p:=⟨b,_,none⟩) (World.block_lt_of_cell? _ _ c5)).trans c5;replace c6:=(U.cell (p:=⟨b,_,none⟩) (World.block_lt_of_cell? _ _ c6)).trans c6;replace r5:=r5.below U;replace r6:=r6.below U;clear U ad c4;have aD:¬(c+y+1+1+((nmL nmTxn d:Nat):Int)+((z.length*2:Nat):Int)+((nmL nmTxn A:Nat):Int)+((nmL nmUs C:Nat):Int)<0):=by omega
   go_wp2_with fail
   refine(ae w4 r5).mono ?_;rintro e w5 ⟨rfl,V⟩;replace hb:=hb.trans (V.mono hb.size);replace c6:=(V.cell (p:=⟨b,_,none⟩) (World.block_lt_of_cell? _ _ c6)).trans c6;replace r6:=r6.below V;clear V ae c5;have aE:¬(c+y+1+1+((nmL nmTxn d:Nat):Int)+((z.length*2:Nat):Int)+((nmL nmTxn A:Nat):Int)+((nmL nmUs C:Nat):Int)+((E.length*2:Nat):Int)<0):=by omega
   go_wp2_with fail
   refine(af w5 r6).mono ?_;rintro e w6 ⟨rfl,Z⟩;replace hb:=hb.trans (Z.mono hb.size);clear Z af c6
   go_wp2
   go_roundw
   case rel=>exact⟨k+1,by omega,by rw[Y.out];congr 1;omega,by go_num,hb⟩
   case measure=>simp[intOf];omega
  ·have ap:k=ps.length:=by omega
   subst ap;rw[List.take_length]
   go_wp2
   go_ret;exact⟨rfl,hb⟩
def mkClu(c:Int):CluQ→CluQ
 |⟨vo,ord,vm,mem⟩=>⟨vo,mkL z0B nmInsS c ord,vm,mkL z0C nmNodS (c+((nmL nmInsS ord:Nat):Int)) mem⟩
def nmClu:CluQ→Nat
 |⟨vo,ord,vm,mem⟩=>nmL nmInsS ord+nmL nmNodS mem
theorem z3E(ps:List InstQ):nmL nmInsS ps≤3*(ps.length+nmL InstQ.n ps):=by
 induction ps with
 |nil=>simp[nmL]
 |cons p r ih=>
  have h1:=q32 p.batch;have h2:=q1a p.rounds;simp only[nmL,List.map_cons,List.sum_cons,List.length_cons]at ih⊢;simp only[nmInsS,InstQ.n]at ih⊢;simp only[nmL]at h1 h2 ih⊢;omega
theorem z5T(ps:List NodeQ):nmL nmNodS ps≤3*(ps.length+nmL NodeQ.n ps):=by
 induction ps with
 |nil=>simp[nmL]
 |cons p r ih=>
  have h1:=q0t p.done;have h2:=q0t p.tent;have h3:=q4a p.undos;simp only[nmL,List.map_cons,List.sum_cons,List.length_cons]at ih⊢;simp only[nmNodS,NodeQ.n,NodeQ.r,RepQ.n]at ih⊢;simp only[nmL]at h1 h2 h3 ih⊢;omega
theorem q0u(p:CluQ):nmClu p≤3*p.n:=by
 obtain⟨vo,ord,vm,mem⟩:=p;have h1:=z3E ord;have h2:=z5T mem;simp only[nmClu,CluQ.n];omega
theorem q0v{p:CluQ}{c:Int}{w:World}(h:cluK.rd w (mkClu c p)):(∃a k,p.vo=K a p.ord.length k)∧(∃a k,p.vm=K a p.mem.length k):=by
 obtain⟨vo,ord,vm,mem⟩:=p;obtain⟨h0,h1⟩:instK.At w vo (mkL z0B nmInsS c ord)∧nodeK.At w vm (mkL z0C nmNodS (c+((nmL nmInsS ord:Nat):Int)) mem):=h;obtain⟨a,k,e⟩:=h0.shape;obtain⟨a',k',e'⟩:=h1.shape;rw[z0U]at e e';exact⟨⟨a,k,e⟩,⟨a',k',e'⟩⟩
theorem z31(p:CluQ)(c:Int)(w:World)(h:cluK.own w p)(I:(cluK.foot p).Nodup)(hl:CluQ.n p≤1048576)(h0:0≤c)(h1:c≤1000000000):
  Calls Q 14 #[.agg #[p.vo,p.vm],G S c] w fun e w'=>e=.returned (G S (c+(nmClu p:Int)))∧cluK.own w' (mkClu c p)∧Out (cluK.foot p) w w':=by
 obtain⟨vo,d,vm,x⟩:=p;obtain⟨o0,o1⟩:instK.Own w vo d∧nodeK.Own w vm x:=h;obtain⟨n0,n1,x0⟩:=List.nodup_append.1 (show(instK.fp vo d++nodeK.fp vm x).Nodup from I);have J:∀k∈nodeK.fp vm x,k∉instK.fp vo d:=fun k hk z=>x0 k z k hk rfl
 have L:∀k∈instK.fp vo d,k∉nodeK.fp vm x:=fun k z hk=>x0 k z k hk rfl
 clear I x0;dsimp only[CluQ.n]at hl;have t0:=z3E d;have t1:=z5T x;have A:Hid (∀ {w w':World},Out (instK.fp vo d) w w'→Out (cluK.foot ⟨vo,d,vm,x⟩) w w'):=fun h=>h.mono (fun k hk=>m _ hk)
 have C:Hid (∀ {w w':World},Out (nodeK.fp vm x) w w'→Out (cluK.foot ⟨vo,d,vm,x⟩) w w'):=fun h=>h.mono (fun k hk=>o _ hk)
 have D:=fun w h=>z5K vo d c w h n0 (by omega) (by omega) (by omega)
 have E:=fun w h=>z9R vm x (c+((nmL nmInsS d:Nat):Int)) w h n1 (by omega) (by omega) (by omega)
 have e0:∀c,instK.fp vo (mkL z0B nmInsS c d)=instK.fp vo d:=fun c=>z99 z5J _ _ _
 have HR:Hid (∀w',instK.Own w' vo (mkL z0B nmInsS c d)→nodeK.Own w' vm (mkL z0C nmNodS (c+((nmL nmInsS d:Nat):Int)) x)→cluK.own w' (mkClu c ⟨vo,d,vm,x⟩)):=fun w' a b=>⟨a,b⟩
 have HS:Hid ((c+((nmL nmInsS d:Nat):Int)+((nmL nmNodS x:Nat):Int):Int)=c+(nmClu ⟨vo,d,vm,x⟩:Int)):=show _=_ by dsimp only[nmClu];omega
 obtain⟨a0,k0,rfl⟩:=o0.shape;obtain⟨a1,k1,rfl⟩:=o1.shape;have B:=Blk.new w 31 #[K a0 d.length k0,K a1 x.length k1];have hB:Below w.heap.size w (w.alloc (.cells #[K a0 d.length k0,K a1 x.length k1] 31)):=by go_grown
 have y:=o0.lt;have HB:Hid (w.heap.size∉instK.fp (K a0 d.length k0) d):=fun e=>Nat.lt_irrefl _ (y _ e)
 clear y t0 t1;replace o0:=o0.below hB;replace o1:=o1.below hB;have HU:Hid (Out (cluK.foot ⟨K a0 d.length k0,d,K a1 x.length k1,x⟩) w _):=Out.of_below hB;clear hB;generalize nmClu ⟨K a0 d.length k0,d,K a1 x.length k1,x⟩=NR at*;generalize mkClu c ⟨K a0 d.length k0,d,K a1 x.length k1,x⟩=MR at*;generalize ((nmL nmInsS d:Nat):Int)=C0 at*;generalize ((nmL nmNodS x:Nat):Int)=C1 at*;have p0:=B.cell 0 _ rfl;go_enter func14,ntmps14
 go_wp2_with fail
 generalize w.alloc (.cells #[K a0 d.length k0,K a1 x.length k1] 31)=W at*;clear p0;refine(D W o0).mono ?_;rintro e w1 ⟨rfl,O0,u0⟩;replace o1:=o1.out u0 J;replace B:Blk w1 _ _ _:=(u0.block _ B.lt HB.out).trans B;have HV:Hid (Out (cluK.foot ⟨K a0 d.length k0,d,K a1 x.length k1,x⟩) w w1):=HU.out.trans (A.out u0);clear D o0 u0 HU;have q:=B.cell 1 _ rfl
 go_wp2_with fail
 clear q;refine(E w1 o1).mono ?_;rintro e w2 ⟨rfl,O1,u1⟩;replace O0:=O0.out u1 (by rw[e0];exact L);have HU:Hid (Out (cluK.foot ⟨K a0 d.length k0,d,K a1 x.length k1,x⟩) w w2):=HV.out.trans (C.out u1);have R:=HR.out w2 O0 O1;clear B O0 O1 HB HR A C e0 HV E o1 u1
 go_wp2
 go_ret;exact⟨by rw[HS.out];rfl,R,HU.out⟩
theorem z7H(p:CluQ)(c:Int)(w:World)(h:cluK.rd w (mkClu c p))(hl:CluQ.n p≤1048576)(h0:0≤c)(h1:c≤1000000000):
  Calls Q 35 #[.agg #[p.vo,p.vm],G S c] w fun e w'=>e=.returned (G S (c+(nmClu p:Int)))∧Below w.heap.size w w':=by
 obtain⟨vo,d,vm,x⟩:=p;obtain⟨⟨a0,k0,s0⟩,⟨a1,k1,s1⟩⟩:=q0v h;dsimp only at s0 s1;subst s0 s1;obtain⟨o0,o1⟩:instK.At w (K a0 d.length k0) (mkL z0B nmInsS c d)∧nodeK.At w (K a1 x.length k1) (mkL z0C nmNodS (c+((nmL nmInsS d:Nat):Int)) x):=h;dsimp only[CluQ.n]at hl;have t0:=z3E d;have t1:=z5T x;have y:=fun w h=>z5L (K a0 d.length k0) d c w h (by omega) (by omega) (by omega)
 have z:=fun w h=>z9S (K a1 x.length k1) x (c+((nmL nmInsS d:Nat):Int)) w h (by omega) (by omega) (by omega)
 have HS:Hid ((c+((nmL nmInsS d:Nat):Int)+((nmL nmNodS x:Nat):Int):Int)=c+(nmClu ⟨K a0 d.length k0,d,K a1 x.length k1,x⟩:Int)):=show _=_ by dsimp only[nmClu];omega
 have B:=Blk.new w 31 #[K a0 d.length k0,K a1 x.length k1];have hB:Below w.heap.size w (w.alloc (.cells #[K a0 d.length k0,K a1 x.length k1] 31)):=by go_grown
 clear t0 t1;have z0:0≤((nmL nmInsS d:Nat):Int):=by omega
 have z1:0≤((nmL nmNodS x:Nat):Int):=by omega
 generalize nmClu ⟨K a0 d.length k0,d,K a1 x.length k1,x⟩=NR at*;generalize ((nmL nmInsS d:Nat):Int)=C0 at*;generalize ((nmL nmNodS x:Nat):Int)=C1 at*;have g0:¬c+C0<0:=by omega
 have g1:¬c+C0+C1<0:=by omega
 have p0:=B.cell 0 _ rfl;go_enter func35,ntmps35
 go_wp2_with fail
 generalize w.alloc (.cells #[K a0 d.length k0,K a1 x.length k1] 31)=W at*;clear p0;refine(y W (o0.below hB)).mono ?_;rintro e w1 ⟨rfl,hb⟩;replace B:=B.below hb;replace hB:=hB.trans (hb.mono hB.size);clear hb y;have q:=B.cell 1 _ rfl
 go_wp2_with fail
 clear q;refine(z w1 (o1.below hB)).mono ?_;rintro e w2 ⟨rfl,hb⟩;replace hB:=hB.trans (hb.mono hB.size);clear hb z
 go_wp2
 go_ret;exact⟨by rw[HS.out];rfl,hB⟩
theorem q2W(co an:Int)(p p':CluQ)(w:World)(h:cluK.rd w p)(h':cluK.rd w p')(he:p.e=p'.e)(hl:CluQ.n p≤1048576):
  Calls Q 13 #[.agg #[G S co,G S an,p.vo,p.vm],.agg #[G S co,G S an,p'.vo,p'.vm]] w fun e w'=>e=.returned (.bool true)∧Below w.heap.size w w':=by
 have hm:=fun w h h'=>z5E p p' w h h' he hl
 have hr:=fun(w':World) hb=>cluK.rd_below (w':=w') h hb
 have C:=fun(w':World) hb=>cluK.rd_below (w':=w') h' hb
 obtain⟨vo,z,vm,y⟩:=p;obtain⟨a0,k0,rfl⟩:∃a c,vo=K a z.length c:=h.1.shape;obtain⟨a1,k1,rfl⟩:∃a c,vm=K a y.length c:=h.2.shape;obtain⟨I,x,E,d⟩:=p';obtain⟨b0,m0,rfl⟩:∃a c,I=K a x.length c:=h'.1.shape;obtain⟨b1,m1,rfl⟩:∃a c,E=K a d.length c:=h'.2.shape;dsimp only at hm;clear he hl;have hB:Below w.heap.size w ((w.alloc (.cells #[G S co,G S an,K a0 z.length k0,K a1 y.length k1] 36)).alloc (.cells #[G S co,G S an,K b0 x.length m0,K b1 d.length m1] 36)):=by go_grown
 have B:=(Blk.new w 36 #[G S co,G S an,K a0 z.length k0,K a1 y.length k1]).below (w':=(w.alloc (.cells #[G S co,G S an,K a0 z.length k0,K a1 y.length k1] 36)).alloc (.cells #[G S co,G S an,K b0 x.length m0,K b1 d.length m1] 36)) (by go_grown);have B':=Blk.new (w.alloc (.cells #[G S co,G S an,K a0 z.length k0,K a1 y.length k1] 36)) 36 #[G S co,G S an,K b0 x.length m0,K b1 d.length m1];simp only[World.size_alloc]at B';obtain⟨q0,q1,q2,q3⟩:=B.cel4;have s0:=B'.cell 0 _ rfl;have s1:=B'.cell 1 _ rfl;have s2:=B'.cell 2 _ rfl;have s3:=B'.cell 3 _ rfl;have n0:(co !=co)=false:=by simp
 have n1:(an !=an)=false:=by simp
 go_enter func13,ntmps13
 go_wp2_with fail
 clear q0 q1 q2 q3 s0 s1 s2 s3 B B';have D:=hr _ hB;have A:=C _ hB;generalize ((w.alloc (.cells #[G S co,G S an,K a0 z.length k0,K a1 y.length k1] 36)).alloc (.cells #[G S co,G S an,K b0 x.length m0,K b1 d.length m1] 36))=W at*;refine(hm W D A).mono ?_;rintro e w3 ⟨rfl,hb⟩;replace hB:=hB.trans (hb.mono hB.size)
 go_wp2
 go_ret;exact⟨rfl,hB⟩
theorem q4b(co an:Int)(p:CluQ)(c:Int)(w:World)(h:cluK.own w p)(hnd:(cluK.foot p).Nodup)(hl:CluQ.n p≤1048576)(h0:0≤c)(h1:c≤1000000000):
  Calls Q 15 #[.agg #[G S co,G S an,p.vo,p.vm],G S c] w fun e w'=>e=.returned (G S (c+(nmClu p:Int)))∧cluK.own w' (mkClu c p)∧Out (cluK.foot p) w w':=by
 have hm:=fun w h=>z31 p c w h hnd hl h0 h1
 have hr:=fun(w':World) (hb:Below w.heap.size w w')=>cluK.own_out (F:=[]) (w':=w') h (Out.of_below hb) (fun _ _=>by simp)
 generalize mkClu c p=M at*;generalize nmClu p=NR at*;generalize cluK.foot p=FT at*;obtain⟨vo,ord,vm,mem⟩:=p;obtain⟨a0,k0,rfl⟩:∃a c,vo=K a ord.length c:=h.1.shape;obtain⟨a1,k1,rfl⟩:∃a c,vm=K a mem.length c:=h.2.shape;dsimp only at hm;have hB:Below w.heap.size w (w.alloc (.cells #[G S co,G S an,K a0 ord.length k0,K a1 mem.length k1] 36)):=by go_grown
 have B:=Blk.new w 36 #[G S co,G S an,K a0 ord.length k0,K a1 mem.length k1];obtain⟨q0,q1,q2,q3⟩:=B.cel4;go_enter func15,ntmps15
 go_wp2_with fail
 clear q0 q1 q2 q3 B;have hr0:=hr _ hB;generalize w.alloc (.cells #[G S co,G S an,K a0 ord.length k0,K a1 mem.length k1] 36)=W at*;refine(hm W hr0).mono ?_;rintro e w1 ⟨rfl,O,u⟩
 go_wp2
 go_ret;exact⟨rfl,O,(Out.of_below hB).trans u⟩
theorem q4c(co an:Int)(p:CluQ)(c:Int)(w:World)(h:cluK.rd w (mkClu c p))(hl:CluQ.n p≤1048576)(h0:0≤c)(h1:c≤1000000000):
  Calls Q 16 #[.agg #[G S co,G S an,p.vo,p.vm],G S c] w fun e w'=>e=.returned (G S (c+(nmClu p:Int)))∧Below w.heap.size w w':=by
 have hm:=fun w h=>z7H p c w h hl h0 h1
 have hr:=fun(w':World) hb=>cluK.rd_below (w':=w') h hb
 have hs:=q0v h;generalize mkClu c p=M at*;generalize nmClu p=NR at*;clear hl;obtain⟨vo,ord,vm,mem⟩:=p;obtain⟨⟨a0,k0,s0⟩,⟨a1,k1,s1⟩⟩:=hs;dsimp only at s0 s1;subst s0 s1;dsimp only at hm;have hB:Below w.heap.size w (w.alloc (.cells #[G S co,G S an,K a0 ord.length k0,K a1 mem.length k1] 36)):=by go_grown
 have B:=Blk.new w 36 #[G S co,G S an,K a0 ord.length k0,K a1 mem.length k1];obtain⟨q0,q1,q2,q3⟩:=B.cel4;have hg:¬c+(NR:Int)<0:=by omega
 go_enter func16,ntmps16
 go_wp2_with fail
 clear q0 q1 q2 q3 B;have hr0:=hr _ hB;generalize w.alloc (.cells #[G S co,G S an,K a0 ord.length k0,K a1 mem.length k1] 36)=W at*;refine(hm W hr0).mono ?_;rintro e w1 ⟨rfl,hb⟩;replace hB:=hB.trans (hb.mono hB.size)
 go_wp2
 go_ret;exact⟨rfl,hB⟩
section
open Go.Deep Go.ChangeShapes Go.WideShapes
section
variable {H:Type} {enc:TypeId × Value→H} {w:World} {base:Nat} {spare:Nat→Bool} {held:Bool}
theorem q1r(n:Nat)(l:List Value)(y:DataW H × List MemPlace)(h:DataW.trod enc Q w base spare held n 77 l=some y):∃p:InstQ,l=instK.cells p∧instK.rd w p∧InstQ.wf p:=by
 obtain⟨p,e,h1,h2⟩:=z6s h;exact⟨p,e,h1,h2⟩
end
section
variable {H:Type} {enc:TypeId × Value→H} {w:World} {base:Nat} {spare:Nat→Bool} {held:Bool}
theorem z8O{P:Program}{t:TypeId}{f0 f1 f2 f3 f4:Field}{fuel:Nat}{cs:List Value}{x:DataW H × List MemPlace}(ht:P.underlying t=some (.struct #[f0,f1,f2,f3,f4]))(h:DataW.trod enc P w base spare held fuel t cs=some x):
  ∃y0 y1 y2 y3 y4 n,cs.length=P.cellsOf t∧DataW.trod enc P w base spare held n f0.type ((cs.drop f0.offset).take (P.cellsOf f0.type))=some y0∧
   DataW.trod enc P w base spare held n f1.type ((cs.drop f1.offset).take (P.cellsOf f1.type))=some y1∧DataW.trod enc P w base spare held n f2.type ((cs.drop f2.offset).take (P.cellsOf f2.type))=some y2∧
   DataW.trod enc P w base spare held n f3.type ((cs.drop f3.offset).take (P.cellsOf f3.type))=some y3∧DataW.trod enc P w base spare held n f4.type ((cs.drop f4.offset).take (P.cellsOf f4.type))=some y4:=by
 obtain⟨xs,n,_,rfl,hl,hlen,hf⟩:=DataW.trod_struct ht h
 match xs,hlen with
 |[y0,y1,y2,y3,y4],_=>exact⟨y0,y1,y2,y3,y4,n,hl,by simpa using hf 0 f0 rfl,by simpa using hf 1 f1 rfl,by simpa using hf 2 f2 rfl,by simpa using hf 3 f3 rfl,by simpa using hf 4 f4 rfl⟩
theorem q2X{fuel:Nat}{cs:List Value}{x:DataW H × List MemPlace}(h:DataW.trod enc Q w base spare held fuel 241 cs=some x):∃z:ItemD,cs=z.cells:=by
 obtain⟨y0,y1,n,_,hl,h0,h1⟩:=trod_struct2 Tryz.underlying241 h;rw[show Q.cellsOf 241=2 by kernel_rfl]at hl;have e:Q.cellsOf 2=1:=by kernel_rfl
 match cs,hl with
 |[c0,c1],_=>
  simp only[e,List.drop_zero,List.drop_succ_cons,List.take_succ_cons,List.take_zero]at h0 h1;obtain⟨k,e0,_⟩:=DataW.trod_int Tryz.underlying2 h0;obtain⟨y,e1,_⟩:=DataW.trod_int Tryz.underlying2 h1;simp only[List.cons.injEq,and_true]at e0 e1;exact⟨⟨k,y⟩,by rw[e0,e1];rfl⟩
theorem q2Y{fuel:Nat}{cs:List Value}{x:DataW H × List MemPlace}(h:DataW.trod enc Q w base spare held fuel 288 cs=some x):∃z:UndoD,cs=z.cells:=by
 obtain⟨y0,y1,y2,n,_,hl,h0,h1,h2⟩:=trod_struct3 Tryz.underlying288 h;rw[show Q.cellsOf 288=3 by kernel_rfl]at hl;have e:Q.cellsOf 2=1:=by kernel_rfl
 have e':Q.cellsOf 4=1:=by kernel_rfl
 match cs,hl with
 |[c0,c1,c2],_=>
  simp only[e,e',List.drop_zero,List.drop_succ_cons,List.take_succ_cons,List.take_zero]at h0 h1 h2;obtain⟨k,e0,_⟩:=DataW.trod_int Tryz.underlying2 h0;obtain⟨y,e1,_⟩:=DataW.trod_bool Tryz.underlying4 h1;obtain⟨v,e2,_⟩:=DataW.trod_int Tryz.underlying2 h2;simp only[List.cons.injEq,and_true]at e0 e1 e2;exact⟨⟨k,y,v⟩,by rw[e0,e1,e2];rfl⟩
theorem q1s(n:Nat)(l:List Value)(y:DataW H × List MemPlace)(h:DataW.trod enc Q w base spare held n 241 l=some y):∃p:ItemD,l=itemK.cells p∧itemK.rd w p∧True:=by
 obtain⟨z,e⟩:=q2X h;exact⟨z,e,trivial,trivial⟩
theorem z5U{fuel:Nat}{cs:List Value}{x:DataW H × List MemPlace}(h:DataW.trod enc Q w base spare held fuel 79 cs=some x):
  ∃ (v:Value) (zs:List ItemD),cs=[v]∧itemK.At w v zs∧zs.length≤9223372036854775807:=by
 obtain⟨v,ps,h1,h2,h3,_⟩:=z1I itemK (fun _=>True) Tryz.underlying79 (by kernel_rfl) (by decide) q1s h;exact⟨v,ps,h1,h2,h3⟩
theorem q1t(n:Nat)(l:List Value)(y:DataW H × List MemPlace)(h:DataW.trod enc Q w base spare held n 288 l=some y):∃p:UndoD,l=undoK.cells p∧undoK.rd w p∧True:=by
 obtain⟨z,e⟩:=q2Y h;exact⟨z,e,trivial,trivial⟩
theorem z9T(n:Nat)(l:List Value)(y:DataW H × List MemPlace)(h:DataW.trod enc Q w base spare held n 228 l=some y):∃p:USQ,l=ussK.cells p∧ussK.rd w p∧USQ.wf p:=by
 obtain⟨v,ps,h1,h2,h3,_⟩:=z1I undoK (fun _=>True) Tryz.underlying228 (by kernel_rfl) (by decide) q1t h;exact⟨⟨v,ps⟩,h1,h2,h3⟩
theorem q2Z{fuel:Nat}{cs:List Value}{x:DataW H × List MemPlace}(h:DataW.trod enc Q w base spare held fuel 80 cs=some x):
  ∃ (v:Value) (ps:List USQ),cs=[v]∧ussK.At w v ps∧ps.length≤9223372036854775807∧∀p∈ps,USQ.wf p:=
 z1I ussK USQ.wf Tryz.underlying80 (by kernel_rfl) (by decide) z9T h
theorem z7I{fuel:Nat}{cs:List Value}{x:DataW H × List MemPlace}(h:DataW.trod enc Q w base spare held fuel 82 cs=some x):
  ∃p:RepQ,cs=[p.vd,p.vb,p.vt,p.vu,p.vn]∧repK.rd w p∧p.wf:=by
 obtain⟨y0,y1,y2,y3,y4,n,hl,h0,h1,h2,h3,h4⟩:=z8O Tryz.underlying82 h;rw[show Q.cellsOf 82=5 by kernel_rfl]at hl;have e:Q.cellsOf 73=1:=by kernel_rfl
 have e':Q.cellsOf 79=1:=by kernel_rfl
 have e2:Q.cellsOf 80=1:=by kernel_rfl
 match cs,hl with
 |[c0,c1,c2,c3,c4],_=>
  simp only[e,e',e2,List.drop_zero,List.drop_succ_cons,List.take_succ_cons,List.take_zero]at h0 h1 h2 h3 h4;obtain⟨v0,z0,e0,a0,l0,w0⟩:=z4x h0;obtain⟨v1,z1,e1,a1,l1⟩:=z5U h1;obtain⟨v2,z2,e2,a2,l2,w2⟩:=z4x h2;obtain⟨v3,z3,e3,a3,l3,w3⟩:=q2Z h3;obtain⟨v4,z4,e4,a4,l4⟩:=z5U h4;simp only[List.cons.injEq,and_true]at e0 e1 e2 e3 e4;exact⟨⟨v0,z0,v1,z1,v2,z2,v3,z3,v4,z4⟩,by rw[e0,e1,e2,e3,e4],⟨a0,a1,a2,a3,a4⟩,⟨⟨l0,w0⟩,l1,⟨l2,w2⟩,⟨l3,w3⟩,l4⟩⟩
end
section
variable {H:Type} {enc:TypeId × Value→H} {w:World} {base:Nat} {spare:Nat→Bool} {held:Bool}
theorem z6v{fuel:Nat}{cs:List Value}{x:DataW H × List MemPlace}(h:DataW.trod enc Q w base spare held fuel 84 cs=some x):
  ∃ (kn sf:Int) (p:RepQ),cs=[G S kn,G S sf,p.vd,p.vb,p.vt,p.vu,p.vn]∧repK.rd w p∧p.wf:=by
 obtain⟨y0,y1,y2,n,_,hl,h0,h1,h2⟩:=trod_struct3 Tryz.underlying84 h;rw[show Q.cellsOf 84=7 by kernel_rfl]at hl;have e:Q.cellsOf 2=1:=by kernel_rfl
 have e':Q.cellsOf 82=5:=by kernel_rfl
 match cs,hl with
 |[c0,c1,c2,c3,c4,c5,c6],_=>
  simp only[e,e',List.drop_zero,List.drop_succ_cons,List.take_succ_cons,List.take_zero]at h0 h1 h2;obtain⟨k,e0,_⟩:=DataW.trod_int Tryz.underlying2 h0;obtain⟨s,e1,_⟩:=DataW.trod_int Tryz.underlying2 h1;obtain⟨p,e2,r,wf⟩:=z7I h2;simp only[List.cons.injEq,and_true]at e0 e1 e2;exact⟨k,s,p,by rw[e0,e1,e2.1,e2.2.1,e2.2.2.1,e2.2.2.2.1,e2.2.2.2.2],r,wf⟩
end
section
variable {H:Type} {enc:TypeId × Value→H} {w:World} {base:Nat} {spare:Nat→Bool} {held:Bool}
theorem q1u(n:Nat)(l:List Value)(y:DataW H × List MemPlace)(h:DataW.trod enc Q w base spare held n 84 l=some y):∃p:NodeQ,l=nodeK.cells p∧nodeK.rd w p∧NodeQ.wf p:=by
 obtain⟨kn,sf,p,e,h1,h2⟩:=z6v h;exact⟨NodeQ.of kn sf p,e,h1,h2⟩
theorem q6r{r:Reach}{b0:Nat}{v:Value}{d:DataW H}{p:List MemPlace}(hv:Value.okWide Q w r b0 25 v)(h:DataW.Trod enc Q w base spare held 25 v d p):
  ∃q:CluQ,v=.agg #[q.vo,q.vm]∧cluK.rd w q∧q.wf:=by
 obtain⟨cs,rfl,hsz⟩:=okWide_struct Tryz.underlying25 hv;obtain⟨fuel,hf⟩:=h;obtain⟨y0,y1,n,_,hl,h0,h1⟩:=trod_struct2 Tryz.underlying25 hf;rw[show Q.cellsOf 25=2 by kernel_rfl]at hl;have e0:Q.cellsOf 22=1:=by kernel_rfl
 have e1:Q.cellsOf 23=1:=by kernel_rfl
 obtain⟨l⟩:=cs
 match l,hl with
 |[c0,c1],_=>
  simp only[Value.cells,e0,e1,List.drop_zero,List.drop_succ_cons,List.take_succ_cons,List.take_zero]at h0 h1;obtain⟨v0,ps,f0,r0,l0,w0⟩:=z1I instK InstQ.wf Tryz.underlying22 (by kernel_rfl) (by decide) q1r h0;obtain⟨v1,qs,f1,r1,l1,w1⟩:=z1I nodeK NodeQ.wf Tryz.underlying23 (by kernel_rfl) (by decide) q1u h1;simp only[List.cons.injEq,and_true]at f0 f1;subst f0 f1;exact⟨⟨c0,ps,c1,qs⟩,rfl,⟨r0,r1⟩,⟨l0,w0⟩,⟨l1,w1⟩⟩
end
end
section
open Go.ChangeShapes Go.WideShapes
theorem gOpn : Q.globalNamed "loop.example/g00631/impl.openRow" = some 0 := by kernel_rfl
theorem tOpn:(Q.globals[0]?).map (·.type)=some 131:=by kernel_rfl
theorem q1v {W : World} (h : laidMetH Q [("loop.example/g00631/impl.rules", Rows.laid_loop_example_g00631_impl_rules), ("loop.example/g00631/impl.openRow", Rows.laid_loop_example_g00631_impl_openRow)] W) : Rul W := by
 rw[MakeChecks.laidMetH_plain _ _ _ (by kernel_rfl)]at h;obtain⟨g,t,cs,fuel,p,hg,ht,hvar,hd⟩:=Lib.laidMet.reads h (List.mem_cons_self ..);obtain rfl:=Option.some.inj (gRul.symm.trans hg);obtain rfl:=Option.some.inj (tRul.symm.trans ht);unfold Rows.laid_loop_example_g00631_impl_rules at hd;have e:∀i,i<5→∃fuel' d q,_∧_:=fun i hi=>Lib.array_elem Tryz.underlying366 hd i hi
 rw[q6d]at e;obtain⟨f0,d0,q0,r0,s0⟩:=e 0 (by omega);obtain⟨f1,d1,q1,r1,s1⟩:=e 1 (by omega);obtain⟨f2,d2,q2,r2,s2⟩:=e 2 (by omega);obtain⟨f3,d3,q3,r3,s3⟩:=e 3 (by omega);obtain⟨f4,d4,q4,r4,s4⟩:=e 4 (by omega);simp only[List.getElem?_cons_zero,List.getElem?_cons_succ,Option.some.injEq]at r0 r1 r2 r3 r4;subst r0 r1 r2 r3 r4;have t0:=z2d s0;have t1:=z2d s1;have t2:=z2d s2;have t3:=z2d s3;have t4:=z2d s4;have hall:cs.toList.take 35=q6B:=by
  rw[show 35=0*7+7+7+7+7+7 from rfl,List.take_add,List.take_add,List.take_add,List.take_add];rw[show 0*7+7+7+7+7=4*7 from rfl,show 0*7+7+7+7=3*7 from rfl,show 0*7+7+7=2*7 from rfl,show 0*7+7=1*7 from rfl,t1,t2,t3,t4];have t0':List.take (1*7) cs.toList=_:=t0;rw[t0'];rfl
 intro i v hv;have hi:i<35:=by
  have:=(List.getElem?_eq_some_iff.1 hv).1;simpa[q6B]using this
 rw[World.var?_cell hg hvar i,←Array.getElem?_toList];rw[←hall,List.getElem?_take,if_pos hi]at hv;exact hv
theorem q1w {W : World} (h : laidMetH Q [("loop.example/g00631/impl.rules", Rows.laid_loop_example_g00631_impl_rules), ("loop.example/g00631/impl.openRow", Rows.laid_loop_example_g00631_impl_openRow)] W) : Opn W := by
 rw[MakeChecks.laidMetH_plain _ _ _ (by kernel_rfl)]at h;obtain⟨g,t,cs,fuel,p,hg,ht,hvar,hd⟩:=Lib.laidMet.reads h (List.mem_cons_of_mem _ (List.mem_singleton.2 rfl));obtain rfl:=Option.some.inj (gOpn.symm.trans hg);obtain rfl:=Option.some.inj (tOpn.symm.trans ht);unfold Rows.laid_loop_example_g00631_impl_openRow at hd;intro j hj;obtain⟨f0,d0,q0,r0,s0⟩:=Lib.array_elem Tryz.underlying131 hd j hj;rw[cI]at s0;have hd0:d0=.lit (.int .i64 3):=by
  match j,hj with
  |0,_=>simpa using r0.symm
  |1,_=>simpa using r0.symm
  |2,_=>simpa using r0.symm
 subst hd0;obtain⟨n0,e0,g0,_⟩:=DataW.trod_int Tryz.underlying2 s0;have hn:n0=3:=by have:=g0.symm;simp at this;exact this.1
 subst hn;rw[World.var?_cell hg hvar j,←Array.getElem?_toList];have:=congrArg (fun l=>l[0]?) e0;simpa using this
theorem q5u {W : World} (h : laidMetH Q [("loop.example/g00631/impl.rules", Rows.laid_loop_example_g00631_impl_rules), ("loop.example/g00631/impl.openRow", Rows.laid_loop_example_g00631_impl_openRow)] W) : RulO W := ⟨q1v h, q1w h⟩
end
end Go.Proofs.YtjjoahhnkpjolaaGreatDoor
