import Derived.Test.YtjjoahhnkpjolaaGreatDoorONAS
import Derived.Test.YtjjoahhnkpjolaaGreatDoorONAR
import Derived.Stop.Asserts
set_option linter.unusedVariables false
set_option linter.unusedSimpArgs false
set_option maxRecDepth 100000
set_option maxHeartbeats 4000000
namespace Go.Proofs.YtjjoahhnkpjolaaGreatDoor
open Go.RowKit Go.BigFrame
open TxnQ renaming e->Va
open List renaming length_map->Vb
open IntKind renaming i64->Q
open Value renaming int->H,slice->K
open Go.Proofs.Tryz renaming prog->l
open Go.Proofs.Tryz
theorem z1N(v v':Value)(xs ys:List TxnD)(w:World)(h:TxnsAt w v xs)(h':TxnsAt w v' ys)(hl:xs.length+z6g xs≤1048576)(ah:ys.length+z6g ys≤1048576):
  Calls l 74 #[v,v'] w fun e w'=>e=.returned (.bool (sameTs xs ys))∧Below w.heap.size w w':=by
 obtain⟨a,cap,rfl⟩:=h.shape;obtain⟨a',ae,rfl⟩:=h'.shape;by_cases c:xs.length=ys.length
 case neg=>
  have E:sameTs xs ys=false:=z2Z (f:=z1t) rfl (fun _ _ _ _=>rfl) (fun _ _=>rfl) (fun _ _=>rfl) xs ys c;rw[E];have hd:((xs.length:Int) !=(ys.length:Int))=true:=by simp;omega
  go_enter func74,ntmps74
  go_wp2
  go_ret;exact⟨rfl,Below.refl _ _⟩
 case pos=>
  have hd:((xs.length:Int) !=(ys.length:Int))=false:=by simp[c]
  have HL:Hid (xs.length=ys.length):=c;clear c;go_enter func74,ntmps74
  go_wp2
  go_loopw[5] (fun i wr=>∃k:Nat,k≤xs.length∧i=H Q k∧Below w.heap.size w wr∧Hid (∀j,j<k→z1t (xs.getD j z0m) (ys.getD j z0m)=true)) (fun i _=>xs.length-(intOf i).toNat)
  case atStart=>exact⟨0,Nat.zero_le _,rfl,Below.refl _ _,fun j hj=>absurd hj (Nat.not_lt_zero _)⟩
  case round=>
   obtain⟨k,hk,rfl,hb,HA⟩:=hrel;by_cases C:k<xs.length
   ·have z:k<ys.length:=by have:=HL.out;omega
    obtain⟨b,y,aa,cc,rfl,ag,M,N,O,T,hA⟩:=(h.below hb).at k C;obtain⟨b',d,Z,ab,rfl,af,U,V,W,X,I⟩:=(h'.below hb).at k z;have Y:(xs.getD k z0m).acts.length≤z6g xs:=z1x (by simp[List.getD,C]);have A:(ys.getD k z0m).acts.length≤z6g ys:=z1x (by simp[List.getD,z]);have J:Box4 wr b (y+k*4) _ _ _ _:=⟨M,N,O,T⟩
    have L:Box4 wr b' (d+k*4) _ _ _ _:=⟨U,V,W,X⟩
    have hq:=fun(w':World) (hW:Below wr.heap.size wr w')=>q1h (xs.getD k z0m) (ys.getD k z0m) b (y+k*4) b' (d+k*4) aa Z cc ab w' (J.below hW) (L.below hW) (hA.below hW) (I.below hW) (by omega) (by omega)
    clear J L hA I M N O T U V W X
    cases hs:z1t (xs.getD k z0m) (ys.getD k z0m)
    case false=>
     have E:Hid (sameTs xs ys=false):=z20 (f:=z1t) z0m (fun _ _ _ _=>rfl) xs ys k HL.out C hs;rw[hs]at hq;clear HA hs Y A;have hW:Below wr.heap.size wr wr.drew:=(Below.refl _ _).drew;have D:Nonempty (Lat wr):=⟨⟨wr,Below.refl _ _⟩⟩
     go_wp2_with fail
     refine z0d (S:=fun w'=>∃u:Lat wr,w'=u.val) (by kernel_rfl) ?_;refine sgr [(0,6)] 2 (by kernel_rfl) ⟨⟨_,hW⟩,rfl⟩ ?_;simp only[pkE];repeat go_big_quiet_step (fail)
     refine wpQuiet_nil ?_;refine cla 6 (some 23) 119 #[.pointer (some ⟨b,y+k*4,none⟩),.pointer (some ⟨b',d+k*4,none⟩)] 1 (by kernel_rfl) ?_;refine(hq _ hW).mono ?_;rintro e w2 ⟨rfl,x⟩;replace hW:=hW.trans (x.mono hW.size);clear x hq;refine⟨_,rfl,⟨⟨_,hW⟩,rfl⟩,?_⟩;simp only[Act.put,pjE];refine sgr [(7,1)] 0 (by kernel_rfl) ⟨⟨_,hW⟩,rfl⟩ ?_;simp only[pkE];repeat go_big_quiet_step (fail)
     refine wpQuiet_nil ?_;refine z0h (by kernel_rfl) ?_;replace hb:=hb.trans (hW.mono hb.size);clear hW D
     go_wp2
     go_ret;rw[E.out];exact⟨rfl,hb⟩
    case true=>
     have HB:Hid (∀j,j<k+1→z1t (xs.getD j z0m) (ys.getD j z0m)=true):=by
      intro j hj;by_cases ad:j=k
      ·subst ad;exact hs
      ·exact HA.out j (by omega)
     rw[hs]at hq;clear HA hs Y A;have hW:Below wr.heap.size wr wr.drew:=(Below.refl _ _).drew;have D:Nonempty (Lat wr):=⟨⟨wr,Below.refl _ _⟩⟩
     go_wp2_with fail
     refine z0d (S:=fun w'=>∃u:Lat wr,w'=u.val) (by kernel_rfl) ?_;refine sgr [(0,6)] 2 (by kernel_rfl) ⟨⟨_,hW⟩,rfl⟩ ?_;simp only[pkE];repeat go_big_quiet_step (fail)
     refine wpQuiet_nil ?_;refine cla 6 (some 23) 119 #[.pointer (some ⟨b,y+k*4,none⟩),.pointer (some ⟨b',d+k*4,none⟩)] 1 (by kernel_rfl) ?_;refine(hq _ hW).mono ?_;rintro e w2 ⟨rfl,x⟩;replace hW:=hW.trans (x.mono hW.size);clear x hq;refine⟨_,rfl,⟨⟨_,hW⟩,rfl⟩,?_⟩;simp only[Act.put,pjE];refine sgr [(7,1)] 0 (by kernel_rfl) ⟨⟨_,hW⟩,rfl⟩ ?_;simp only[pkE];repeat go_big_quiet_step (fail)
     refine wpQuiet_nil ?_;refine z0h (by kernel_rfl) ?_;replace hb:=hb.trans (hW.mono hb.size);clear hW D
     go_wp2
     go_roundw
     case rel=>exact⟨k+1,by omega,by go_num,hb,HB⟩
     case measure=>simp[intOf];omega
   ·have E:Hid (sameTs xs ys=true):=z21 (f:=z1t) z0m rfl (fun _ _ _ _=>rfl) xs ys HL.out (fun j hj=>HA.out j (by omega));clear HA
    go_wp2
    go_ret;rw[E.out];exact⟨rfl,hb⟩
def q6I:Value→Option Addr
 | K a _ _=>a
 |_=>none
def q6W:Value→Nat
 | K _ _ k=>k
 |_=>0
def TxnQ.p'(q:TxnQ):TxnP:=⟨q.e,q6I q.va,q6W q.va⟩
theorem TxnQ.p_cells'{w:World}{q:TxnQ}(h:actK.At w q.va q.acts):q.p'.cells=txnK.cells q:=by
 obtain⟨a,c,e⟩:=h.shape;show [_,_,_,_]=[_,_,_,_]
 simp only[TxnP.sl,TxnQ.p',Va,e,q6I,q6W]
theorem z0F{w:World}{v:Value}{ps:List TxnQ}(h:txnK.At w v ps):TxnsAt w v (ps.map Va):=by
 obtain⟨a,cap,e,hL,hr⟩:=h;refine⟨a,cap,ps.map TxnQ.p',by rw[Vb];exact e,by simp only[List.map_map];rfl,?_,?_⟩
 ·have e2:z0Y (ps.map TxnQ.p')=txnK.row ps:=by
   clear hL e;induction ps with
   |nil=>rfl
   |cons q r ih=>
    have h1:q.p'.cells=txnK.cells q:=TxnQ.p_cells' (hr q (by simp));have h2:=ih (fun p hp=>hr p (List.mem_cons_of_mem _ hp));show q.p'.cells++z0Y (r.map TxnQ.p')=txnK.cells q++txnK.row r;rw[h1,h2]
  rw[e2];exact hL
 ·intro p hp;obtain⟨q,hq,rfl⟩:=List.mem_map.1 hp;have h1:actK.At w q.va q.acts:=hr q hq;obtain⟨a',c',e',hl',_⟩:=h1;show ActRow w (q6I q.va) q.acts;rw[e'];exact hl'
theorem z1h(ps:List TxnQ):z6g (ps.map Va)=nmL TxnQ.n ps:=by
 simp only[z6g,nmL,List.map_map];rfl
def sameUss:List (List UndoD)→List (List UndoD)→Bool
 |[],[]=>true
 |x::r,y::s=>sameUs x y && sameUss r s
 |_,_=>false
theorem z2P(xs:List USQ)(k:Nat)(hk:k<xs.length):(xs.map USQ.e).getD k []=USQ.e xs[k]:=by simp[List.getD,hk]
theorem z7C{w:World}{b off k:Nat}{p:USQ}(h:∀j x,(ussK.cells p)[j]?=some x→w.cell? ⟨b,off+k*ussK.size+j,none⟩=some x):w.cell? ⟨b,off+k,none⟩=some p.va:=by
 have:=h 0 p.va rfl
 rwa [show off+k*ussK.size+0=off+k from by show off+k*1+0=off+k;omega]at this
theorem z8F(v v':Value)(xs ys:List USQ)(w:World)(h:ussK.At w v xs)(h':ussK.At w v' ys)(hl:xs.length+nmL USQ.n xs≤1048576)(O:ys.length+nmL USQ.n ys≤1048576):
  Calls l 178 #[v,v',.func (.func 179) #[] #[]] w fun e w'=>e=.returned (.bool (sameUss (xs.map USQ.e) (ys.map USQ.e)))∧Below w.heap.size w w':=by
 obtain⟨a,cap,rfl⟩:=h.shape;obtain⟨a',J,rfl⟩:=h'.shape;by_cases c:xs.length=ys.length
 case neg=>
  have E:sameUss (xs.map USQ.e) (ys.map USQ.e)=false:=z2Z (f:=sameUs) rfl (fun _ _ _ _=>rfl) (fun _ _=>rfl) (fun _ _=>rfl) _ _ (by simpa using c);rw[E];have hd:((xs.length:Int) !=(ys.length:Int))=true:=by simp;omega
  go_enter func178,ntmps178
  go_wp2
  go_ret;exact⟨rfl,Below.refl _ _⟩
 case pos=>
  have hd:((xs.length:Int) !=(ys.length:Int))=false:=by simp[c]
  have HL:Hid (xs.length=ys.length):=c;have HM:Hid ((xs.map USQ.e).length=(ys.map USQ.e).length):=show _=_ by simpa using c
  clear c;generalize hE:sameUss (xs.map USQ.e) (ys.map USQ.e)=E;have HE:Hid (sameUss (xs.map USQ.e) (ys.map USQ.e)=E):=hE;clear hE;go_enter func178,ntmps178
  go_wp2
  go_loopw[17] (fun i wr=>∃k:Nat,k≤xs.length∧i=H Q k∧Below w.heap.size w wr∧Hid (∀j,j<k→sameUs ((xs.map USQ.e).getD j []) ((ys.map USQ.e).getD j [])=true)) (fun i _=>xs.length-(intOf i).toNat)
  case atStart=>exact⟨0,Nat.zero_le _,rfl,Below.refl _ _,fun j hj=>absurd hj (Nat.not_lt_zero _)⟩
  case round=>
   obtain⟨k,hk,rfl,hb,HA⟩:=hrel;by_cases y:k<xs.length
   ·have x:k<ys.length:=by have:=HL.out;omega
    obtain⟨b,T,rfl,N,hc,z⟩:=(h.below hb).cell (by decide) k y;obtain⟨b',M,rfl,L,D,d⟩:=(h'.below hb).cell (by decide) k x;have c0:=z7C hc;have d0:=z7C D;have n1:=z01 USQ.n xs k y;have n2:=z01 USQ.n ys k x;have HY:Hid (sameUs (USQ.e xs[k]) (USQ.e ys[k])=false→E=false):=fun hx=>by
     rw[←HE.out];exact z20 (f:=sameUs) [] (fun _ _ _ _=>rfl) _ _ k HM.out (by simpa using y) (by rw[z2P xs k y,z2P ys k x];exact hx)
    have HN:Hid (sameUs (USQ.e xs[k]) (USQ.e ys[k])=true→∀j,j<k+1→sameUs ((xs.map USQ.e).getD j []) ((ys.map USQ.e).getD j [])=true):=fun hx j hj=>by
     by_cases I:j=k
     ·subst I;rw[z2P xs j y,z2P ys j x];exact hx
     ·exact HA.out j (by omega)
    clear HA hc D;generalize xs[k]=p at*;generalize ys[k]=q at*;obtain⟨pv,pu⟩:=p;obtain⟨qv,qu⟩:=q;replace z:undoK.At wr pv pu:=z;replace d:undoK.At wr qv qu:=d;replace n1:pu.length≤nmL USQ.n xs:=n1;replace n2:qu.length≤nmL USQ.n ys:=n2;dsimp only[USQ.e]at c0 d0 HY HN;obtain⟨a1,k1,rfl⟩:=z.shape;obtain⟨b1,m1,rfl⟩:=d.shape;have hq:=fun w f1 f2=>z42 a1 b1 k1 m1 pu qu w f1 f2 (by omega) (by omega)
    have g1:=(z1Y z).2;have g2:=(z1Y d).2;generalize sameUs pu qu=X at*;clear n1 n2 z d
    go_wp2_with fail
    refine(hq _ g1 g2).mono ?_;rintro e w2 ⟨rfl,A⟩;have C:=z0v hb A;clear A c0 d0 hq g1 g2
    cases X with
    |false=>
     have E1:Hid (E=false):=HY.out rfl;clear HY HN HE
     go_wp2
     go_ret;exact⟨by rw[E1.out];rfl,C⟩
    |true=>
     have R:=HN.out rfl;have HR:Hid _:=R;clear HY HN R
     go_wp2
     go_roundw
     case rel=>exact⟨k+1,by omega,by go_num,C,HR.out⟩
     case measure=>simp[intOf];omega
   ·have E1:Hid (E=true):=by rw[←HE.out];exact z21 (f:=sameUs) [] rfl (fun _ _ _ _=>rfl) _ _ HM.out (fun j hj=>HA.out j (by simpa using(by simpa using hj:j<xs.length)|>fun h=>Nat.lt_of_lt_of_le h (by omega)))
    clear HA HE
    go_wp2
    go_ret;exact⟨by rw[E1.out];rfl,hb⟩
theorem z5P(v v':Value)(xs ys:List USQ)(w:World)(h:ussK.At w v xs)(h':ussK.At w v' ys)(hl:xs.length+nmL USQ.n xs≤1048576)(U:ys.length+nmL USQ.n ys≤1048576):
  Calls l 163 #[v,v'] w fun e w'=>e=.returned (.bool (sameUss (xs.map USQ.e) (ys.map USQ.e)))∧Below w.heap.size w w':=by
 obtain⟨a,cap,rfl⟩:=h.shape;obtain⟨a',L,rfl⟩:=h'.shape;by_cases c:xs.length=ys.length
 case neg=>
  have E:sameUss (xs.map USQ.e) (ys.map USQ.e)=false:=z2Z (f:=sameUs) rfl (fun _ _ _ _=>rfl) (fun _ _=>rfl) (fun _ _=>rfl) _ _ (by simpa using c);rw[E];have hd:((xs.length:Int) !=(ys.length:Int))=true:=by simp;omega
  go_enter func163,ntmps163
  go_wp2
  go_ret;exact⟨rfl,Below.refl _ _⟩
 case pos=>
  have hd:((xs.length:Int) !=(ys.length:Int))=false:=by simp[c]
  have HL:Hid (xs.length=ys.length):=c;have HM:Hid ((xs.map USQ.e).length=(ys.map USQ.e).length):=show _=_ by simpa using c
  clear c;generalize hE:sameUss (xs.map USQ.e) (ys.map USQ.e)=E;have HE:Hid (sameUss (xs.map USQ.e) (ys.map USQ.e)=E):=hE;clear hE;go_enter func163,ntmps163
  go_wp2
  go_loopw[5] (fun i wr=>∃k:Nat,k≤xs.length∧i=H Q k∧Below w.heap.size w wr∧Hid (∀j,j<k→sameUs ((xs.map USQ.e).getD j []) ((ys.map USQ.e).getD j [])=true)) (fun i _=>xs.length-(intOf i).toNat)
  case atStart=>exact⟨0,Nat.zero_le _,rfl,Below.refl _ _,fun j hj=>absurd hj (Nat.not_lt_zero _)⟩
  case round=>
   obtain⟨k,hk,rfl,hb,HA⟩:=hrel;by_cases y:k<xs.length
   ·have x:k<ys.length:=by have:=HL.out;omega
    obtain⟨b,V,rfl,T,hc,z⟩:=(h.below hb).cell (by decide) k y;obtain⟨b',O,rfl,M,C,d⟩:=(h'.below hb).cell (by decide) k x;have c0:=z7C hc;have d0:=z7C C;have n1:=z01 USQ.n xs k y;have n2:=z01 USQ.n ys k x;have HY:Hid (sameUs (USQ.e xs[k]) (USQ.e ys[k])=false→E=false):=fun hx=>by
     rw[←HE.out];exact z20 (f:=sameUs) [] (fun _ _ _ _=>rfl) _ _ k HM.out (by simpa using y) (by rw[z2P xs k y,z2P ys k x];exact hx)
    have HN:Hid (sameUs (USQ.e xs[k]) (USQ.e ys[k])=true→∀j,j<k+1→sameUs ((xs.map USQ.e).getD j []) ((ys.map USQ.e).getD j [])=true):=fun hx j hj=>by
     by_cases D:j=k
     ·subst D;rw[z2P xs j y,z2P ys j x];exact hx
     ·exact HA.out j (by omega)
    clear HA hc C;generalize xs[k]=p at*;generalize ys[k]=q at*;obtain⟨pv,pu⟩:=p;obtain⟨qv,qu⟩:=q;replace z:undoK.At wr pv pu:=z;replace d:undoK.At wr qv qu:=d;replace n1:pu.length≤nmL USQ.n xs:=n1;replace n2:qu.length≤nmL USQ.n ys:=n2;dsimp only[USQ.e]at c0 d0 HY HN;obtain⟨a1,k1,rfl⟩:=z.shape;obtain⟨b1,m1,rfl⟩:=d.shape;have hq:=fun w f1 f2=>z40 a1 b1 k1 m1 pu qu w f1 f2 (by omega) (by omega)
    have g1:=(z1Y z).2;have g2:=(z1Y d).2;generalize sameUs pu qu=X at*;clear n1 n2 z d;have N:(k:Int)<(xs.length:Int):=by omega
    have I:(k:Int)<(ys.length:Int):=by omega
    replace c0:=z0a c0;replace d0:=z0a d0;have hW:Below wr.heap.size wr wr.drew:=(Below.refl _ _).drew;have J:Nonempty (Lat wr):=⟨⟨wr,Below.refl _ _⟩⟩
    go_wp2_with fail
    refine z0d (S:=fun w'=>∃u:Lat wr,w'=u.val) (by kernel_rfl) ?_;refine sgr [(0,8)] 2 (by kernel_rfl) ⟨⟨_,hW⟩,rfl⟩ ?_;simp only[pkE];repeat go_big_quiet_step (fail)
    refine wpQuiet_nil ?_;refine cla 8 (some 25) 198 #[K a1 pu.length k1,K b1 qu.length m1] 1 (by kernel_rfl) ?_;refine(hq _ (g1.below hW) (g2.below hW)).mono ?_;rintro e w9 ⟨rfl,A⟩;replace hW:=hW.trans (A.mono hW.size);clear A;refine⟨_,rfl,⟨⟨_,hW⟩,rfl⟩,?_⟩;simp only[Act.put,pjE];refine sgr [(9,1)] 0 (by kernel_rfl) ⟨⟨_,hW⟩,rfl⟩ ?_;simp only[pkE];repeat go_big_quiet_step (fail)
    refine wpQuiet_nil ?_;refine z0h (by kernel_rfl) ?_;replace hb:=hb.trans (hW.mono hb.size);clear hW J hq g1 g2 c0 d0
    cases X with
    |false=>
     have E1:Hid (E=false):=HY.out rfl;clear HY HN HE
     go_wp2
     go_ret;exact⟨by rw[E1.out];rfl,hb⟩
    |true=>
     have R:=HN.out rfl;have HR:Hid _:=R;clear HY HN R
     go_wp2
     go_roundw
     case rel=>exact⟨k+1,by omega,by go_num,hb,HR.out⟩
     case measure=>simp[intOf];omega
   ·have E1:Hid (E=true):=by rw[←HE.out];exact z21 (f:=sameUs) [] rfl (fun _ _ _ _=>rfl) _ _ HM.out (fun j hj=>HA.out j (by simpa using(by simpa using hj:j<xs.length)|>fun h=>Nat.lt_of_lt_of_le h (by omega)))
    clear HA HE
    go_wp2
    go_ret;exact⟨by rw[E1.out];rfl,hb⟩
def sameRep(x y:RepE):Bool:=sameTs x.done y.done && (sameIs x.base y.base && (sameTs x.tent y.tent && (sameUss x.undos y.undos && sameIs x.now y.now)))
theorem z3g(p q:RepQ)(w:World)(h:repK.rd w p)(h':repK.rd w q)(hl:p.n≤1048576)(d:q.n≤1048576):
  Calls l 133 #[.agg #[p.vd,p.vb,p.vt,p.vu,p.vn],.agg #[q.vd,q.vb,q.vt,q.vu,q.vn]] w fun e w'=>e=.returned (.bool (sameRep p.e q.e))∧Below w.heap.size w w':=by
 obtain⟨y,pd,x,pb,A,pt,C,pu,z,pn⟩:=p;obtain⟨p0,p5,rfl⟩:∃a c,y=K a pd.length c:=h.1.shape;obtain⟨p1,p6,rfl⟩:∃a c,x=K a pb.length c:=h.2.1.shape;obtain⟨p2,p7,rfl⟩:∃a c,A=K a pt.length c:=h.2.2.1.shape;obtain⟨p3,p8,rfl⟩:∃a c,C=K a pu.length c:=h.2.2.2.1.shape;obtain⟨p4,p9,rfl⟩:∃a c,z=K a pn.length c:=h.2.2.2.2.shape;obtain⟨I,qd,D,qb,L,qt,M,qu,J,qn⟩:=q;obtain⟨q0,q5,rfl⟩:∃a c,I=K a qd.length c:=h'.1.shape;obtain⟨q1,q6,rfl⟩:∃a c,D=K a qb.length c:=h'.2.1.shape;obtain⟨q2,q7,rfl⟩:∃a c,L=K a qt.length c:=h'.2.2.1.shape;obtain⟨q3,q8,rfl⟩:∃a c,M=K a qu.length c:=h'.2.2.2.1.shape;obtain⟨q4,q9,rfl⟩:∃a c,J=K a qn.length c:=h'.2.2.2.2.shape;dsimp only[RepQ.n]at hl d;have c0:=fun w h h'=>z1M (K p0 pd.length p5) (K q0 qd.length q5) (pd.map Va) (qd.map Va) w (z0F h) (z0F h') (by rw[Vb,z1h];omega) (by rw[Vb,z1h];omega)
 have c1:=fun w h h'=>z2c p1 q1 p6 q6 pb qb w h h' (by omega) (by omega)
 have c2:=fun w h h'=>z1M (K p2 pt.length p7) (K q2 qt.length q7) (pt.map Va) (qt.map Va) w (z0F h) (z0F h') (by rw[Vb,z1h];omega) (by rw[Vb,z1h];omega)
 have c3:=fun w h h'=>z8F (K p3 pu.length p8) (K q3 qu.length q8) pu qu w h h' (by omega) (by omega)
 have c4:=fun w h h'=>z2c p4 q4 p9 q9 pn qn w h h' (by omega) (by omega)
 obtain⟨r0,r1,r2,r3,r4⟩:txnK.At w (K p0 pd.length p5) pd∧itemK.At w (K p1 pb.length p6) pb∧txnK.At w (K p2 pt.length p7) pt∧ussK.At w (K p3 pu.length p8) pu∧itemK.At w (K p4 pn.length p9) pn:=h;obtain⟨s0,s1,s2,s3,s4⟩:txnK.At w (K q0 qd.length q5) qd∧itemK.At w (K q1 qb.length q6) qb∧txnK.At w (K q2 qt.length q7) qt∧ussK.At w (K q3 qu.length q8) qu∧itemK.At w (K q4 qn.length q9) qn:=h';replace r1:=(z05 r1).2;replace r4:=(z05 r4).2;replace s1:=(z05 s1).2;replace s4:=(z05 s4).2;have E:Hid (sameRep ⟨pd.map Va,pb,pt.map Va,pu.map USQ.e,pn⟩ ⟨qd.map Va,qb,qt.map Va,qu.map USQ.e,qn⟩=(sameTs (pd.map Va) (qd.map Va) && (sameIs pb qb && (sameTs (pt.map Va) (qt.map Va) && (sameUss (pu.map USQ.e) (qu.map USQ.e) && sameIs pn qn))))):=show _=_ from rfl
 dsimp only[RepQ.e];generalize sameTs (pd.map Va) (qd.map Va)=X0 at*;generalize sameIs pb qb=X1 at*;generalize sameTs (pt.map Va) (qt.map Va)=X2 at*;generalize sameUss (pu.map USQ.e) (qu.map USQ.e)=X3 at*;generalize sameIs pn qn=X4 at*;generalize sameRep ⟨pd.map Va,pb,pt.map Va,pu.map USQ.e,pn⟩ ⟨qd.map Va,qb,qt.map Va,qu.map USQ.e,qn⟩=S at*;have B:=(Blk.new w 56 #[K p0 pd.length p5,K p1 pb.length p6,K p2 pt.length p7,K p3 pu.length p8,K p4 pn.length p9]).below (w':=((w.alloc (.cells #[K p0 pd.length p5,K p1 pb.length p6,K p2 pt.length p7,K p3 pu.length p8,K p4 pn.length p9] 56)).alloc (.cells #[K q0 qd.length q5,K q1 qb.length q6,K q2 qt.length q7,K q3 qu.length q8,K q4 qn.length q9] 56))) (by go_grown);have B':=Blk.new (w.alloc (.cells #[K p0 pd.length p5,K p1 pb.length p6,K p2 pt.length p7,K p3 pu.length p8,K p4 pn.length p9] 56)) 56 #[K q0 qd.length q5,K q1 qb.length q6,K q2 qt.length q7,K q3 qu.length q8,K q4 qn.length q9];have hB:Below w.heap.size w ((w.alloc (.cells #[K p0 pd.length p5,K p1 pb.length p6,K p2 pt.length p7,K p3 pu.length p8,K p4 pn.length p9] 56)).alloc (.cells #[K q0 qd.length q5,K q1 qb.length q6,K q2 qt.length q7,K q3 qu.length q8,K q4 qn.length q9] 56)):=by go_grown
 rw[World.size_alloc]at B';go_enter func133,ntmps133;have f0:=B.cell 0 _ rfl;have g0:=B'.cell 0 _ rfl
 go_wp2_with fail
 clear f0 g0;generalize ((w.alloc (.cells #[K p0 pd.length p5,K p1 pb.length p6,K p2 pt.length p7,K p3 pu.length p8,K p4 pn.length p9] 56)).alloc (.cells #[K q0 qd.length q5,K q1 qb.length q6,K q2 qt.length q7,K q3 qu.length q8,K q4 qn.length q9] 56))=W at*;refine(c0 W (r0.below hB) (s0.below hB)).mono ?_;rintro e w0 ⟨rfl,hb⟩;replace B:=B.below hb;replace B':=B'.below hb;replace hB:=hB.trans (hb.mono hB.size);clear hb
 cases X0 with
 |false=>
  go_wp2
  go_ret;exact⟨by rw[E.out];rfl,hB⟩
 |true=>
  have f1:=B.cell 1 _ rfl;have g1:=B'.cell 1 _ rfl
  go_wp2_with fail
  clear f1 g1;refine(c1 w0 (r1.below hB) (s1.below hB)).mono ?_;rintro e w1 ⟨rfl,hb⟩;replace B:=B.below hb;replace B':=B'.below hb;replace hB:=hB.trans (hb.mono hB.size);clear hb
  cases X1 with
  |false=>
   go_wp2
   go_ret;exact⟨by rw[E.out];rfl,hB⟩
  |true=>
   have f2:=B.cell 2 _ rfl;have g2:=B'.cell 2 _ rfl
   go_wp2_with fail
   clear f2 g2;refine(c2 w1 (r2.below hB) (s2.below hB)).mono ?_;rintro e w2 ⟨rfl,hb⟩;replace B:=B.below hb;replace B':=B'.below hb;replace hB:=hB.trans (hb.mono hB.size);clear hb
   cases X2 with
   |false=>
    go_wp2
    go_ret;exact⟨by rw[E.out];rfl,hB⟩
   |true=>
    have f3:=B.cell 3 _ rfl;have g3:=B'.cell 3 _ rfl
    go_wp2_with fail
    clear f3 g3;refine(c3 w2 (r3.below hB) (s3.below hB)).mono ?_;rintro e w3 ⟨rfl,hb⟩;replace B:=B.below hb;replace B':=B'.below hb;replace hB:=hB.trans (hb.mono hB.size);clear hb
    cases X3 with
    |false=>
     go_wp2
     go_ret;exact⟨by rw[E.out];rfl,hB⟩
    |true=>
     have f4:=B.cell 4 _ rfl;have g4:=B'.cell 4 _ rfl
     go_wp2_with fail
     clear f4 g4;refine(c4 w3 (r4.below hB) (s4.below hB)).mono ?_;rintro e w4 ⟨rfl,hb⟩;replace B:=B.below hb;replace B':=B'.below hb;replace hB:=hB.trans (hb.mono hB.size);clear hb
     go_wp2
     go_ret;exact⟨by rw[E.out];rfl,hB⟩
section
open Go.Extern.Stop Go.Stop Go.Extern
theorem q6e(t:Value)(w:World):
  Calls l 135 #[.nilIface,t] w fun e w'=>e=.returned (.bool false)∧w'=w:=by
 go_enter func135,ntmps135
 go_wp2
 go_ret;exact⟨rfl,rfl⟩
theorem z7D(t:Addr)(w:World):(ReflectliteValue.unpack (.iface 207 (.pointer (some t)))).run l w
  =.ok (.agg #[.pointer (some ⟨3,207,none⟩),.pointer (some ⟨w.heap.size,0,none⟩),.int .u64 150]) (w.alloc (.cells #[.pointer (some t)] 207)):=by kernel_rfl
theorem q1i (a : Addr) (w : World) : (ReflectliteValue.methodAny (ReflectliteValue.valueError "reflectlite.Value.Type" 0) (fun t _ _ _ => ReflectliteType.toType t) #[.agg #[.pointer (some ⟨3, 207, none⟩), .pointer (some a), .int .u64 150]]).run l w
  =.ok (.iface 306 (.agg #[.pointer (some ⟨3,207,none⟩)])) w:=by kernel_rfl
theorem z6t (h : Value) (w : World) : (Go.method 265 306 (.agg #[h]) "Kind").run l w = .ok (294, h) w := by kernel_rfl
theorem q1j(w:World):((ReflectliteType.abiMethod fun t=>(fun a:Nat=>Value.int IntKind.u8 (a:Int))<$>Rtype.kind t) #[.pointer (some ⟨3,207,none⟩)]).run l w=.ok (.int .u8 22) w:=by kernel_rfl
theorem q1k(w:World):((ReflectliteType.abiMethod fun t=>(fun a:Nat=>Value.int IntKind.u8 (a:Int))<$>Rtype.kind t) #[.pointer (some ⟨3,202,none⟩)]).run l w=.ok (.int .u8 25) w:=by kernel_rfl
theorem q2E(z:Sem Value)(f:TypeId→Addr→Nat→Nat→Sem Value)(v:Value):
  ReflectliteValue.method z f #[v]=(do match←ReflectliteValue.parts v with|none=>z|some (t,a,fl)=>f t a fl (fl % 32)):=rfl
theorem z5Q(a:Addr)(w:World):(ReflectliteValue.parts (.agg #[.pointer (some ⟨3,207,none⟩),.pointer (some a),.int .u64 150])).run l w=.ok (some (207,a,150)) w:=by kernel_rfl
theorem z9J(a p:Addr)(W:World)(ha:W.cell? a=some (.pointer (some p))):
  (ReflectliteValue.method (ReflectliteValue.valueError "reflectlite.Value.IsNil" 0) ReflectliteValue.isNil #[.agg #[.pointer (some ⟨3, 207, none⟩), .pointer (some a), .int .u64 150]]).run l W = .ok (.bool false) W := by
 rw[q2E];simp only[Sem.run_bind,z5Q,Result.andThen];simp[ReflectliteValue.isNil,loadVar,isAgg,underlying,Tryz.underlying207,ha,Result.andThen]
theorem z6u (h : Value) (w : World) : (Go.method 265 306 (.agg #[h]) "Elem").run l w = .ok (305, .agg #[h]) w := by kernel_rfl
theorem z3h (h : Value) (w : World) : (Go.method 265 306 (.agg #[h]) "Implements").run l w = .ok (306, .agg #[h]) w := by kernel_rfl
theorem z2A (h : Value) (w : World) : (Go.method 265 306 (.agg #[h]) "AssignableTo").run l w = .ok (303, .agg #[h]) w := by kernel_rfl
theorem q1l(w:World):(ReflectliteType.method ReflectliteType.elem #[.agg #[.pointer (some ⟨3,207,none⟩)]]).run l w=.ok (.iface 306 (.agg #[.pointer (some ⟨3,202,none⟩)])) w:=by kernel_rfl
theorem z43 (w : World) : (ReflectliteType.relation "Implements" ReflectliteType.implements_ #[.agg #[.pointer (some ⟨3, 202, none⟩)], .iface 306 (.agg #[.pointer (some ⟨3, 151, none⟩)])]).run l w = .ok (.bool true) w := by kernel_rfl
theorem z8G(v:Value)(w:World):(ReflectliteType.typeOf #[.iface 202 v]).run l w=.ok (.iface 306 (.agg #[.pointer (some ⟨3,202,none⟩)])) w:=by kernel_rfl
theorem z45 (w : World) : (ReflectliteType.relation "AssignableTo" ReflectliteType.assignableTo #[.agg #[.pointer (some ⟨3, 202, none⟩)], .iface 306 (.agg #[.pointer (some ⟨3, 202, none⟩)])]).run l w = .ok (.bool true) w := by kernel_rfl
theorem z7E(c:Int)(w:World):(ReflectliteValue.unpack (.iface 202 (.agg #[H Q c]))).run l w
  =.ok (.agg #[.pointer (some ⟨3,202,none⟩),.pointer (some ⟨w.heap.size,0,none⟩),.int .u64 153]) (w.alloc (.cells #[H Q c] 202)):=by kernel_rfl
theorem z8H(w:World):(Rtype.elem? 207).run l w=.ok (some 202) w:=by kernel_rfl
theorem q37(p:Addr)(w:World):(ReflectliteValue.mk 202 p ReflectliteValue.flagAddr).run l w=.ok (.agg #[.pointer (some ⟨3,202,none⟩),.pointer (some p),.int .u64 409]) w:=by kernel_rfl
theorem z9K(a p:Addr)(W:World)(ha:W.cell? a=some (.pointer (some p))):
  (ReflectliteValue.method (ReflectliteValue.valueError "reflectlite.Value.Elem" 0) ReflectliteValue.elem #[.agg #[.pointer (some ⟨3, 207, none⟩), .pointer (some a), .int .u64 150]]).run l W
   =.ok (.agg #[.pointer (some ⟨3,202,none⟩),.pointer (some p),.int .u64 409]) W:=by
 rw[q2E];simp only[Sem.run_bind,z5Q,Result.andThen];simp[ReflectliteValue.elem,loadVar,isAgg,underlying,Tryz.underlying207,ha,Result.andThen,z8H,q37]
theorem q5p (v x:Value):ReflectliteValue.set #[v,x]=(do
  let(some (dst,a,fl),some (src,b,_)):=(←ReflectliteValue.parts v,←ReflectliteValue.parts x)
   | unsupported (.noEntry "extern/(internal/reflectlite.Value).Set.zeroValue")
  if fl / ReflectliteValue.flagAddr % 2 == 0 then unsupported (.noEntry "extern/(internal/reflectlite.Value).Set.unaddressable")
  let val←loadVar src b
  if←Rtype.directlyAssignable dst src then storeVar dst a val
  else if←Rtype.implements dst src then
   if(←Rtype.kind src)==20 then
    match val with
    | .nilIface => unsupported (.noEntry "extern/reflectlite: a nil value of one interface type handed on as a value of another")
    |_=>storeVar dst a val
   else storeVar dst a (.iface src val)
  else panicString ("reflectlite.Set: value of type " ++ (← Rtype.spelt src) ++ " is not assignable to type " ++ (← Rtype.spelt dst))
  pure (.tuple #[])):=rfl
theorem z8I(a:Addr)(w:World):(ReflectliteValue.parts (.agg #[.pointer (some ⟨3,202,none⟩),.pointer (some a),.int .u64 409])).run l w=.ok (some (202,a,409)) w:=by kernel_rfl
theorem z9L(a:Addr)(w:World):(ReflectliteValue.parts (.agg #[.pointer (some ⟨3,202,none⟩),.pointer (some a),.int .u64 153])).run l w=.ok (some (202,a,153)) w:=by kernel_rfl
theorem z8J(w:World):(Rtype.directlyAssignable 202 202).run l w=.ok true w:=by kernel_rfl
theorem z6Q(w:World):(sizeOf 202).run l w=.ok 1 w:=by kernel_rfl
theorem q6f(b:Addr)(c:Int)(W:World)(hb:W.cell? b=some (H Q c)):(loadVar 202 b).run l W=.ok (.agg #[H Q c]) W:=by
 have h1:(loadCells b 1).run l W=.ok #[H Q c] W:=run_loadCells_list (P:=l) (w:=W) b [H Q c] (fun j v hj=>by
  match j,hj with
  | 0,hj=>simp at hj;subst hj;simpa [Addr.add] using hb)
 unfold loadVar;simp only[Sem.run_bind];have h2:(isAgg 202).run l W=.ok true W:=by simp[isAgg,underlying,Tryz.underlying202,Result.andThen]
 rw[h2];simp[Result.andThen,z6Q,h1]
theorem q6g(ta:Addr)(c:Int)(old:Value)(W:World)(ht:W.cell? ta=some old)(hf:W.frozen? ta=false):(storeVar 202 ta (.agg #[H Q c])).run l W=.ok () (W.setCell ta (H Q c)):=by
 unfold storeVar;simp[z6Q,Value.cells,storeCells,Result.andThen,Addr.add];rw[run_store l W ta _ _ (by rfl)];simp[ht,hf]
theorem q2F(ta b:Addr)(c:Int)(old:Value)(W:World)(hb:W.cell? b=some (H Q c))(ht:W.cell? ta=some old)(hf:W.frozen? ta=false):
  (ReflectliteValue.set #[.agg #[.pointer (some ⟨3,202,none⟩),.pointer (some ta),.int .u64 409],.agg #[.pointer (some ⟨3,202,none⟩),.pointer (some b),.int .u64 153]]).run l W
   =.ok (.tuple #[]) (W.setCell ta (H Q c)):=by
 rw[q5p];simp only[Sem.run_bind,z8I,z9L,Result.andThen];simp[ReflectliteValue.flagAddr,Result.andThen,z8J,q6f b c W hb,q6g ta c old W ht hf]
theorem q6h(c:Int)(t:Addr)(old:Value)(w:World)(hg:w.cell? ⟨1,0,none⟩=some (.iface 306 (.agg #[.pointer (some ⟨3,151,none⟩)])))(ht0:w.cell? t=some old)(hf0:w.frozen? t=false):
  Calls l 135 #[.iface 202 (.agg #[H Q c]),.iface 207 (.pointer (some t))] w fun ev w'=>ev=.returned (.bool true)∧w'=((((w.alloc (.cells #[.pointer (some t)] 207)).alloc (.cells #[.pointer (some ⟨3,207,none⟩),.pointer (some ⟨w.heap.size,0,none⟩),.int .u64 150] 262)).alloc (.cells #[.pointer (some ⟨3,207,none⟩),.pointer (some ⟨w.heap.size,0,none⟩),.int .u64 150] 262)).alloc (.cells #[H Q c] 202)).setCell t (H Q c):=by
 have h6:=@run_callFunc_extern l 182 _ (fun args=>ReflectliteValue.unpack (args.getD 0 (.tuple #[]))) func182 (by kernel_rfl) (by kernel_rfl) (by kernel_rfl) (by kernel_rfl);have h7 := @run_callFunc_extern l 183 _ (ReflectliteValue.methodAny (ReflectliteValue.valueError "reflectlite.Value.Type" 0) (fun t _ _ _ => ReflectliteType.toType t)) func183 (by kernel_rfl) (by kernel_rfl) (by kernel_rfl) (by kernel_rfl)
 have h8 := @run_callFunc_extern l 184 _ (ReflectliteValue.method (ReflectliteValue.valueError "reflectlite.Value.IsNil" 0) ReflectliteValue.isNil) func184 (by kernel_rfl) (by kernel_rfl) (by kernel_rfl) (by kernel_rfl)
 have h27:=@run_callFunc_extern l 294 _ (ReflectliteType.abiMethod fun t=>do pure (.int .u8 (←Rtype.kind t))) func294 (by kernel_rfl) (by kernel_rfl) (by kernel_rfl) (by kernel_rfl);have h37:=@run_callFunc_extern l 305 _ (ReflectliteType.method ReflectliteType.elem) func305 (by kernel_rfl) (by kernel_rfl) (by kernel_rfl) (by kernel_rfl);have h38 := @run_callFunc_extern l 306 _ (ReflectliteType.relation "Implements" ReflectliteType.implements_) func306 (by kernel_rfl) (by kernel_rfl) (by kernel_rfl) (by kernel_rfl)
 have h10:=@run_callFunc_extern l 216 _ ReflectliteType.typeOf func216 (by kernel_rfl) (by kernel_rfl) (by kernel_rfl) (by kernel_rfl);have h35 := @run_callFunc_extern l 303 _ (ReflectliteType.relation "AssignableTo" ReflectliteType.assignableTo) func303 (by kernel_rfl) (by kernel_rfl) (by kernel_rfl) (by kernel_rfl)
 have h11 := @run_callFunc_extern l 217 _ (ReflectliteValue.method (ReflectliteValue.valueError "reflectlite.Value.Elem" 0) ReflectliteValue.elem) func217 (by kernel_rfl) (by kernel_rfl) (by kernel_rfl) (by kernel_rfl)
 have h12:=@run_callFunc_extern l 218 _ ReflectliteValue.set func218 (by kernel_rfl) (by kernel_rfl) (by kernel_rfl) (by kernel_rfl);have tO:=z8G;have mA:=z2A;have a25:=z45;have v25:=z7E;have f6:=z7D;have f7:=q1i;have mK:=z6t;have mE:=z6u;have mI:=z3h;have k27:=q1j;have k25:=q1k;have e27:=q1l;have i25:=z43;have n8:=z9J ⟨w.heap.size,0,none⟩ t ((w.alloc (.cells #[.pointer (some t)] 207)).alloc (.cells #[.pointer (some ⟨3,207,none⟩),.pointer (some ⟨w.heap.size,0,none⟩),.int .u64 150] 262)) (by simp);have hlt:1<w.heap.size:=World.block_lt_of_cell? w _ hg;have hg2:((w.alloc (.cells #[.pointer (some t)] 207)).alloc (.cells #[.pointer (some ⟨3,207,none⟩),.pointer (some ⟨w.heap.size,0,none⟩),.int .u64 150] 262)).cell? ⟨1,0,none⟩=some (.iface 306 (.agg #[.pointer (some ⟨3,151,none⟩)])):=by
  rw[World.cell?_alloc_lt _ _ ⟨1,0,none⟩ (by simp only[World.size_alloc];omega),World.cell?_alloc_lt _ _ ⟨1,0,none⟩ hlt];exact hg
 have htl:t.block<w.heap.size:=by
  rcases Nat.lt_or_ge t.block w.heap.size with h|h
  ·exact h
  ·simp[World.cell?,Array.getElem?_eq_none h]at ht0
 have el:=z9K ⟨w.heap.size,0,none⟩ t (((w.alloc (.cells #[.pointer (some t)] 207)).alloc (.cells #[.pointer (some ⟨3,207,none⟩),.pointer (some ⟨w.heap.size,0,none⟩),.int .u64 150] 262)).alloc (.cells #[.pointer (some ⟨3,207,none⟩),.pointer (some ⟨w.heap.size,0,none⟩),.int .u64 150] 262)) (by rw[World.cell?_alloc_lt _ _ ⟨w.heap.size,0,none⟩ (by simp;omega)];simp);have st:=q2F t ⟨w.heap.size+1+1+1,0,none⟩ c old ((((w.alloc (.cells #[.pointer (some t)] 207)).alloc (.cells #[.pointer (some ⟨3,207,none⟩),.pointer (some ⟨w.heap.size,0,none⟩),.int .u64 150] 262)).alloc (.cells #[.pointer (some ⟨3,207,none⟩),.pointer (some ⟨w.heap.size,0,none⟩),.int .u64 150] 262)).alloc (.cells #[H Q c] 202))
  (by rw[World.cell?_alloc_at _ _ _ _ (by simp)];rfl)
  (by rw[World.cell?_alloc_lt _ _ t (by simp;omega),World.cell?_alloc_lt _ _ t (by simp;omega),World.cell?_alloc_lt _ _ t (by simp;omega),World.cell?_alloc_lt _ _ t htl];exact ht0)
  (by rw[World.frozen?_alloc_old _ _ t (by simp;omega),World.frozen?_alloc_old _ _ t (by simp;omega),World.frozen?_alloc_old _ _ t (by simp;omega),World.frozen?_alloc_old _ _ t (Nat.ne_of_lt htl)];exact hf0)
 go_enter func135,ntmps135
 go_wp2
 refine wp_loop_rounds 1 ?_;rw[rounds_succ]
 go_wp2
 go_ret;exact⟨rfl,rfl⟩
def ErrT(w:World):Prop:=w.cell? ⟨1,0,none⟩=some (.iface 306 (.agg #[.pointer (some ⟨3,151,none⟩)]))
theorem ErrT.below{w w':World}(h:ErrT w)(hb:Below w.heap.size w w'):ErrT w':=by
 have hlt:1<w.heap.size:=World.block_lt_of_cell? w _ h;exact(hb.cell (p:=⟨1,0,none⟩) hlt).trans h
theorem q1m(w:World):Calls l 83 #[.nilIface] w fun e w'=>e=.returned (H Q 0)∧Below w.heap.size w w':=by
 have hB:Below w.heap.size w (w.alloc (.cells #[H Q 0] 202)):=by go_grown
 go_enter func83,ntmps83
 go_wp2_with fail
 refine(q6e _ _).mono ?_;rintro e w1 ⟨rfl,rfl⟩
 go_wp2
 go_ret;exact⟨rfl,hB⟩
theorem q1n(c:Int)(w:World)(hg:ErrT w):Calls l 83 #[.iface 202 (.agg #[H Q c])] w fun e w'=>e=.returned (H Q c)∧Below w.heap.size w w':=by
 have hB:Below w.heap.size w (w.alloc (.cells #[H Q 0] 202)):=by go_grown
 have B:=Blk.new w 202 #[H Q 0];have h0:=B.cell 0 _ rfl;have hf:=B.frozen 0;have hlt:=B.lt;go_enter func83,ntmps83
 go_wp2_with fail
 have hg':=hg.below hB;generalize w.alloc (.cells #[H Q 0] 202)=W at*;generalize hgs:w.heap.size=g at*;refine(q6h c ⟨g,0,none⟩ (H Q 0) W hg' h0 hf).mono ?_;rintro e w1 ⟨rfl,rfl⟩;have hb2:Below W.heap.size W ((((W.alloc (.cells #[.pointer (some ⟨g,0,none⟩)] 207)).alloc (.cells #[.pointer (some ⟨3,207,none⟩),.pointer (some ⟨W.heap.size,0,none⟩),.int .u64 150] 262)).alloc (.cells #[.pointer (some ⟨3,207,none⟩),.pointer (some ⟨W.heap.size,0,none⟩),.int .u64 150] 262)).alloc (.cells #[H Q c] 202)):=by go_grown
 have B2:=B.below hb2;have hB2:=hB.trans (hb2.mono (by rw[←hgs];exact hB.size));generalize (((W.alloc (.cells #[.pointer (some ⟨g,0,none⟩)] 207)).alloc (.cells #[.pointer (some ⟨3,207,none⟩),.pointer (some ⟨W.heap.size,0,none⟩),.int .u64 150] 262)).alloc (.cells #[.pointer (some ⟨3,207,none⟩),.pointer (some ⟨W.heap.size,0,none⟩),.int .u64 150] 262)).alloc (.cells #[H Q c] 202)=W2 at*;have c3:(W2.setCell ⟨g,0,none⟩ (H Q c)).cell? ⟨g,0,none⟩=some (H Q c):=by
  have:W2.heap[g]?=some (.cells #[H Q 0] 202 (0,0)):=B2;simp[World.cell?,World.setCell,Array.getElem?_modify,this]
 have hB3:Below g w (W2.setCell ⟨g,0,none⟩ (H Q c)):=hB2.setCell (p:=⟨g,0,none⟩) (Nat.le_refl _) _;generalize W2.setCell ⟨g,0,none⟩ (H Q c)=W3 at*
 go_wp2
 go_ret;exact⟨rfl,by rw[hgs];exact hB3⟩
end
def InstQ.setR(q:InstQ)(r n:Nat)(x:Int)(hr:r<q.rounds.length):InstQ:=⟨q.has,q.vb,q.batch,q.vr,q.rounds.set r ⟨q.rounds[r].vr,q.rounds[r].rep.set n x,q.rounds[r].vp,q.rounds[r].pro⟩,q.vd,q.dec⟩
theorem z7F{w w':World}{b o:Nat}{v:Value}(h:w.cell? ⟨b,o,none⟩=some v)(hb:Below w.heap.size w w'):w'.cell? ⟨b,o,none⟩=some v:=by
 have hlt:b<w.heap.size:=by
  rcases Nat.lt_or_ge b w.heap.size with h1|h1
  ·exact h1
  ·exfalso
   have:w.heap[b]?=none:=Array.getElem?_eq_none h1;simp[World.cell?,this]at h
 rw[hb.cell (p:=⟨b,o,none⟩) hlt];exact h
theorem Blk.outs{w w':World}{b:Nat}{t:TypeId}{cs:Array Value}{F:List Nat}(h:Blk w b t cs)(hU:Out F w w')(hF:b∉F):Blk w' b t cs:=(hU.block b h.lt hF).trans h
def Opn(w:World):Prop:=∀j,j<3→w.cell? ⟨0,j,none⟩=some (H Q 3)
theorem Opn.below{w w':World}(h:Opn w)(hb:Below w.heap.size w w'):Opn w':=fun j hj=>z7F (h j hj) hb
structure RulO (w:World):Prop where
 r:Rul w
 o:Opn w
theorem RulO.below{w w':World}(h:RulO w)(hb:Below w.heap.size w w'):RulO w':=⟨h.r.below hb,h.o.below hb⟩
theorem Opn.range{w:World}(h:Opn w):w.rangeAt 0 0 [H Q 3,H Q 3,H Q 3]:=fun j v hv=>by
 rw[Nat.zero_add]
 match j,hv with
 |0,hv=>simp at hv;subst hv;exact h 0 (by omega)
 |1,hv=>simp at hv;subst hv;exact h 1 (by omega)
 |2,hv=>simp at hv;subst hv;exact h 2 (by omega)
theorem Opn.glob{w:World}(h:Opn w):0<w.heap.size:=World.block_lt_of_cell? w ⟨0,0,none⟩ (h 0 (by omega))
def z7G:RoundE:=⟨[3,3,3],[3,3,3]⟩
theorem Opn.outs{w w':World}{F:List Nat}(h:Opn w)(hU:Out F w w')(hF:0∉F):Opn w':=fun j hj=>by
 have h0:=hU.block 0 h.glob hF;have h1:=h j hj;simp only[World.cell?]at h1⊢;rw[h0];exact h1
def q6J(rs:List RoundE)(r:Nat):List RoundE:=rs++List.replicate (r+1-rs.length) z7G
theorem q38{rs:List RoundE}(h:Wel rs)(m:Nat):Wel (rs++List.replicate m z7G):=fun x hx=>by
 rcases List.mem_append.1 hx with hx|hx
 ·exact h x hx
 ·rw[(List.mem_replicate.1 hx).2];exact⟨rfl,rfl⟩
theorem q2G(b:Nat)(t:TypeId)(rs:List RoundE)(c:List Value)(r:Nat)(w:World)(hO:Opn w)(D:b≠0)(hB:Blk w b t (rndC rs++c).toArray)(h:Wel rs)(h4:rs.length≤4)(J:r<4):
  Calls l 98 #[.pointer (some ⟨b,0,none⟩),H Q (r:Int)] w fun e w'=>e=.returned (.tuple #[])∧Blk w' b t (rndC (q6J rs r)++c).toArray∧Out [b] w w':=by
 have L:(r:Int)<4:=by omega
 go_enter func98,ntmps98
 go_wp2
 go_loopg[4] (r+1-rs.length) (fun n p wr=>∃m:Nat,n=r+1-(rs.length+m)∧m≤r+1-rs.length∧Blk wr b t (rndC (rs++List.replicate m z7G)++c).toArray∧Out [b] w wr)
 case atStart=>exact⟨0,by omega,by omega,by simpa using hB,Out.refl _ _⟩
 case round=>
  obtain⟨m,rfl,hm,hB,hU⟩:=hrel;have x:(rs++List.replicate m z7G).length=rs.length+m:=by simp
  have y:=q38 h m;have c0:wr.cell? ⟨b,0,none⟩=some (H Q ((rs++List.replicate m z7G).length:Int)):=hB.cell 0 _ rfl;rw[x]at c0;by_cases I:rs.length+m≤r
  ·have d:Calls l 128 #[.pointer (some ⟨b,0,none⟩),.agg #[H Q 3,H Q 3,H Q 3,H Q 3,H Q 3,H Q 3]] wr _:=z4M b t _ c z7G wr hB y ⟨rfl,rfl⟩ (by omega);have z:=(hO.outs hU (by simp only[List.mem_singleton];exact fun e=>D e.symm)).range;have es:rs++List.replicate m z7G++[z7G]=rs++List.replicate (m+1) z7G:=by
    rw[List.append_assoc,show [z7G]=List.replicate 1 z7G from rfl,List.replicate_append_replicate]
   rw[es]at d;clear es x y hB;have E:((rs.length+m:Nat):Int)≤(r:Int):=by omega
   generalize hk:rs.length+m=km at*
   go_wp2_with (first|(refine z7j (by kernel_rfl) 131 _ rfl _ _ rfl [H Q 3,H Q 3,H Q 3] _ z Tryz.underlying131 rfl z18 ?_))
   refine d.mono ?_;rintro e w2 ⟨rfl,C,A⟩;replace hU:=hU.trans A;clear d z c0 A
   go_wp2
   go_roundg (r+1-(rs.length+(m+1)))
   case rel=>exact⟨m+1,rfl,by omega,C,hU⟩
   case measure=>omega
  ·have e:rs++List.replicate m z7G=q6J rs r:=by
    unfold q6J;rw[show m=r+1-rs.length by omega]
   have E:¬((rs.length+m:Nat):Int)≤(r:Int):=by omega
   rw[e]at hB;clear e x y;generalize hk:rs.length+m=km at*
   go_wp2
   go_end0
   exact⟨rfl,hB,hU⟩
theorem z4z(w:World):
  Calls l 143 #[] w fun e w'=>∃a c,e=.returned (K a 3 c)∧intK.Own w' (K a 3 c) [3,3,3]∧(∀k∈intK.fp (K a 3 c) [3,3,3],w.heap.size≤k)∧Below w.heap.size w w':=by
 have hB:Below w.heap.size w (w.alloc (.cells #[H Q 3,H Q 3,H Q 3] 2)):=by go_grown
 have ho:=World.ownsRow_lit (e:=2) (size:=1) w #[H Q 3,H Q 3,H Q 3] 3 (Nat.le_refl _) (by decide) rfl;obtain⟨O,G⟩:=z5g (zs:=[3,3,3]) (n:=3) rfl ho;have HO:Hid (_∧_):=And.intro O G;clear ho O G;go_enter func143,ntmps143
 go_wp2
 go_ret;exact⟨_,_,rfl,HO.out.1,HO.out.2,hB⟩
theorem z8K{P:Type}(nm:P→Nat)(c:Nat)(ps:List P)(h:∀p∈ps,nm p≤c):nmL nm ps≤ps.length*c:=by
 induction ps with
 |nil=>simp[nmL]
 |cons p t ih=>
  have h1:=h p (by simp);have h2:=ih (fun q hq=>h q (List.mem_cons_of_mem _ hq));simp only[nmL,List.map_cons,List.sum_cons,List.length_cons]at h2⊢;rw[Nat.add_mul];omega
theorem q0q{ds:List TxnD}(h:allF ds=0):∀d∈ds,d.F=0:=by
 induction ds with
 |nil=>intro d hd;simp at hd
 |cons x r ih=>
  intro d hd;simp only[allF]at h;by_cases hx:x.F=0
  ·rw[if_pos hx]at h;rcases List.mem_cons.1 hd with rfl|hd
   ·exact hx
   ·exact ih h d hd
  ·rw[if_neg hx]at h;exact absurd h hx
theorem q1o{d:TxnD}(h:d.F=0):d.acts.length≤4:=by
 unfold TxnD.F txnF at h;split at h
 ·omega
 ·split at h
  ·omega
  ·omega
theorem q2H{ds:List TxnD}(h:batF ds=0):q0T ds≤20:=by
 unfold batF at h;split at h
 ·omega
 ·rename_i hl
  have ha:allF ds=0:=by
   split at h
   ·assumption
   ·exact h
  have:=z8K TxnD.n 4 ds (fun d hd=>q1o (q0q ha d hd));unfold q0T;omega
theorem q2I{x:InstE}(h:insF x=0):InstE.n x≤60:=by
 obtain⟨hw,⟨_,h4⟩,hd,_⟩:=q0j h;obtain⟨h6,_⟩:=z10 h;obtain⟨_,_,_,h7,h8⟩:=z1p h6;have hb:q0T x.batch≤20:=by
  cases hh:x.has with
  |true=>exact q2H (h8 hh)
  |false=>rw[h7 hh];simp[q0T,nmL]
 have hr:=z8K RoundE.n 6 x.rounds (fun r hr=>by
  have:=hw r hr;unfold RoundE.n;omega)
 unfold InstE.n z9b;omega
def dfC(ds:List InstE)(n:Int):Int:=if ordF ds=0 then(if 0≤n∧n≤(decN ds:Int)then 0 else 3)else ordF ds
def dfT(ds:List InstE)(n:Int):List TxnD:=if dfC ds n=0 then defL ds n.toNat else []
theorem z9M(ds:List InstE)(n:Int):(ordF ds≠0∧dfC ds n=ordF ds∧dfT ds n=[])∨(ordF ds=0∧¬(0≤n∧n≤(decN ds:Int))∧dfC ds n=3∧dfT ds n=[])∨(ordF ds=0∧(0≤n∧n≤(decN ds:Int))∧dfC ds n=0∧dfT ds n=defL ds n.toNat):=by
 unfold dfT dfC;by_cases h0:ordF ds=0
 ·by_cases h1:0≤n∧n≤(decN ds:Int)
  ·right;right;refine⟨h0,h1,?_,?_⟩
   ·rw[if_pos h0,if_pos h1]
   ·rw[if_pos h0,if_pos h1,if_pos rfl]
  ·right;left;refine⟨h0,h1,?_,?_⟩
   ·rw[if_pos h0,if_neg h1]
   ·rw[if_pos h0,if_neg h1,if_neg (by decide)]
 ·left;simp[h0]
theorem q6X{p:InstQ}(h:insF (InstQ.e p)=0):p.batch.length≤4:=by
 obtain⟨h0,_⟩:=z10 h;obtain⟨_,_,_,hb0,hb1⟩:=z1p h0
 cases hh:(InstQ.e p).has with
 |false=>
  have:=hb0 hh;have h2:p.batch.map Va=[]:=this;have:p.batch=[]:=by simpa using h2
  rw[this];simp
 |true=>
  have:=hb1 hh;unfold batF at this;by_cases hl:(InstQ.e p).batch.length<1∨4<(InstQ.e p).batch.length
  ·rw[if_pos hl]at this;exact absurd this (by decide)
  ·have h2:(InstQ.e p).batch.length=p.batch.length:=by show(p.batch.map Va).length=_;simp
   omega
end Go.Proofs.YtjjoahhnkpjolaaGreatDoor
