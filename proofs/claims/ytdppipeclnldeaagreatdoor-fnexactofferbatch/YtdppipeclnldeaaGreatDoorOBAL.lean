import Derived.Test.YtdppipeclnldeaaGreatDoorOBAK
import Derived.Stop.Asserts
import Derived.WideKeyEntry
set_option linter.unusedVariables false
set_option linter.unusedSimpArgs false
set_option maxRecDepth 100000
set_option maxHeartbeats 8000000
namespace Go.Proofs.YtdppipeclnldeaaGreatDoor
open Go.RowKit Go.BigFrame
open TxnQ renaming e->Va
open InstQ renaming e->Vb
open Nat renaming le_refl->Vc,zero_le->Vd
open List renaming length_map->Ve
open Act renaming put->Vf
open Value renaming slice->Q
open Go.Proofs.Tryz renaming prog->Sl
open Go.Proofs.Tryz
theorem z7J(v v':Value)(xs ys:List TxnD)(w:World)(h:TxnsAt w v xs)(h':TxnsAt w v' ys)(hl:xs.length+z6n xs≤1048576)(ag:ys.length+z6n ys≤1048576):
  Calls Sl 165 #[v,v',.func (.func 166) #[] #[]] w fun e w'=>e=.returned (.bool (sameTs xs ys))∧Below w.heap.size w w':=by
 obtain⟨a,cap,rfl⟩:=h.shape;obtain⟨a',ad,rfl⟩:=h'.shape;by_cases d:xs.length=ys.length
 case neg=>
  have E:sameTs xs ys=false:=z3a (f:=z1v) rfl (fun _ _ _ _=>rfl) (fun _ _=>rfl) (fun _ _=>rfl) xs ys d;rw[E];have hd:((xs.length:Int) !=(ys.length:Int))=true:=by simp;omega
  go_enter func165,ntmps165
  go_wp2
  go_ret;exact⟨rfl,Below.refl _ _⟩
 case pos=>
  have hd:((xs.length:Int) !=(ys.length:Int))=false:=by simp[d]
  have HL:Hid (xs.length=ys.length):=d;clear d;go_enter func165,ntmps165
  go_wp2
  go_loopw[17] (fun i wr=>∃k:Nat,k≤xs.length∧i=.int .i64 k∧Below w.heap.size w wr∧Hid (∀j,j<k→z1v (xs.getD j z0n) (ys.getD j z0n)=true)) (fun i _=>xs.length-(intOf i).toNat)
  case atStart=>exact⟨0,Vd _,rfl,Below.refl _ _,fun j hj=>absurd hj (Nat.not_lt_zero _)⟩
  case round=>
   obtain⟨k,hk,rfl,hb,HA⟩:=hrel;by_cases U:k<xs.length
   ·have T:k<ys.length:=by have:=HL.out;omega
    obtain⟨b,ai,aa,cc,rfl,af,y,A,C,D,hA⟩:=(h.below hb).at k U;obtain⟨b',ae,W,X,rfl,V,I,J,L,M,c⟩:=(h'.below hb).at k T;have O:(xs.getD k z0n).acts.length≤z6n xs:=z1z (by simp[List.getD,U]);have x:(ys.getD k z0n).acts.length≤z6n ys:=z1z (by simp[List.getD,T]);have hq:=fun w h h'=>z7I (xs.getD k z0n) (ys.getD k z0n) aa W cc X w h h' (by omega) (by omega)
    have ah:=hb.size;have Y:∀ (o:Obj) (j:Nat),(wr.alloc o).cell? ⟨b',j,none⟩=wr.cell? ⟨b',j,none⟩:=fun o j=>(show Below wr.heap.size wr (wr.alloc o) by go_grown).cell (p:=⟨b',j,none⟩) V
    cases hs:z1v (xs.getD k z0n) (ys.getD k z0n)
    case false=>
     have E:Hid (sameTs xs ys=false):=z3b (f:=z1v) z0n (fun _ _ _ _=>rfl) xs ys k HL.out U hs;rw[hs]at hq;clear HA hs;generalize xs.getD k z0n=z at y A C D hA hq O;generalize ys.getD k z0n=z' at I J L M c hq x;obtain⟨z0,z1,z2,zs⟩:=z;obtain⟨y0,y1,y2,us⟩:=z';dsimp only at y A C D hA I J L M c hq O x
     go_wp2_with fail
     refine(hq _ (hA.below (by go_grown)) (c.below (by go_grown))).mono ?_;rintro e w2 ⟨rfl,N⟩
     go_wp2
     go_ret;rw[E.out];exact⟨rfl,z0w (z0w hb (by go_grown)) N⟩
    case true=>
     have HB:Hid (∀j,j<k+1→z1v (xs.getD j z0n) (ys.getD j z0n)=true):=by
      intro j hj;by_cases ab:j=k
      ·subst ab;exact hs
      ·exact HA.out j (by omega)
     rw[hs]at hq;clear HA hs;generalize xs.getD k z0n=z at y A C D hA hq O;generalize ys.getD k z0n=z' at I J L M c hq x;obtain⟨z0,z1,z2,zs⟩:=z;obtain⟨y0,y1,y2,us⟩:=z';dsimp only at y A C D hA I J L M c hq O x
     go_wp2_with fail
     refine(hq _ (hA.below (by go_grown)) (c.below (by go_grown))).mono ?_;rintro e w2 ⟨rfl,N⟩;have Z:=z0w (z0w hb (by go_grown)) N;clear N Y y A C D I J L M hA c hq
     go_wp2
     go_roundw
     case rel=>exact⟨k+1,by omega,by go_num,Z,HB⟩
     case measure=>simp[intOf];omega
   ·have E:Hid (sameTs xs ys=true):=z3c (f:=z1v) z0n rfl (fun _ _ _ _=>rfl) xs ys HL.out (fun j hj=>HA.out j (by omega));clear HA
    go_wp2
    go_ret;rw[E.out];exact⟨rfl,hb⟩
theorem z1L(v v':Value)(xs ys:List TxnD)(w:World)(h:TxnsAt w v xs)(h':TxnsAt w v' ys)(hl:xs.length+z6n xs≤1048576)(hl':ys.length+z6n ys≤1048576):
  Calls Sl 128 #[v,v'] w fun e w'=>e=.returned (.bool (sameTs xs ys))∧Below w.heap.size w w':=by
 have hq:=z7J v v' xs ys w h h' hl hl';generalize sameTs xs ys=r at hq;go_enter func128,ntmps128
 go_wp2_with fail
 refine hq.mono ?_;rintro e w2 ⟨rfl,hb⟩
 go_wp2
 go_ret;exact⟨rfl,hb⟩
theorem z9W(x y:TxnD):((x.id !=y.id)=true∧z1v x y=false)∨((x.id !=y.id)=false∧(x.session !=y.session)=true∧z1v x y=false)∨((x.id !=y.id)=false∧(x.session !=y.session)=false∧(x.seq !=y.seq)=true∧z1v x y=false)∨
  ((x.id !=y.id)=false∧(x.session !=y.session)=false∧(x.seq !=y.seq)=false∧((x.acts.length:Int) !=(y.acts.length:Int))=true∧z1v x y=false)∨
  ((x.id !=y.id)=false∧(x.session !=y.session)=false∧(x.seq !=y.seq)=false∧((x.acts.length:Int) !=(y.acts.length:Int))=false∧z1v x y=sameAs x.acts y.acts):=by
 by_cases hl:x.acts.length=y.acts.length
 ·rcases z4E x y with⟨h1,e⟩|⟨h1,h2,e⟩|⟨h1,h2,h3,e⟩|⟨h1,h2,h3,e⟩<;>simp[bne, *]
 ·have hs:sameAs x.acts y.acts=false:=z3a (f:=z1T) rfl (fun _ _ _ _=>rfl) (fun _ _=>rfl) (fun _ _=>rfl) _ _ hl;have hl2:¬((x.acts.length:Int)=(y.acts.length:Int)):=by omega
  rcases z4E x y with⟨h1,e⟩|⟨h1,h2,e⟩|⟨h1,h2,h3,e⟩|⟨h1,h2,h3,e⟩<;>simp[bne, *]
theorem q1u(x y:TxnD)(b o b' o':Nat)(a a':Option Addr)(cap d:Nat)(w:World)(hB:Box4 w b o (.int .i64 x.id) (.int .i64 x.session) (.int .i64 x.seq) (Q a x.acts.length cap))(O:Box4 w b' o' (.int .i64 y.id) (.int .i64 y.session) (.int .i64 y.seq) (Q a' y.acts.length d))
  (h:ActRow w a x.acts) (h':ActRow w a' y.acts) (hl:x.acts.length≤1048576) (Y:y.acts.length≤1048576):
  Calls Sl 111 #[.pointer (some ⟨b,o,none⟩),.pointer (some ⟨b',o',none⟩)] w fun e w'=>e=.returned (.bool (z1v x y))∧Below w.heap.size w w':=by
 obtain⟨c0,c1,c2,c3⟩:=hB;obtain⟨d0,d1,d2,d3⟩:=O;rcases z9W x y with⟨h1,e⟩|⟨h1,h2,e⟩|⟨h1,h2,h3,e⟩|⟨h1,h2,h3,h4,e⟩|⟨h1,h2,h3,h4,e⟩<;>rw[e]<;>clear e<;>obtain⟨x0,x1,x2,xs⟩:=x<;>obtain⟨y0,y1,y2,ys⟩:=y<;>dsimp only at*
 ·go_enter func111,ntmps111
  go_wp2_with fail
  go_quiet (fail)
  go_wp2
  go_ret;exact⟨rfl,⟨rfl,rfl,rfl,Vc _,fun _ _=>rfl⟩⟩
 ·go_enter func111,ntmps111
  go_wp2_with fail
  go_quiet (fail)
  go_wp2
  go_ret;exact⟨rfl,⟨rfl,rfl,rfl,Vc _,fun _ _=>rfl⟩⟩
 ·go_enter func111,ntmps111
  go_wp2_with fail
  go_quiet (fail)
  go_wp2
  go_ret;exact⟨rfl,⟨rfl,rfl,rfl,Vc _,fun _ _=>rfl⟩⟩
 ·go_enter func111,ntmps111
  go_wp2_with fail
  go_quiet (fail)
  go_wp2
  go_ret;exact⟨rfl,⟨rfl,rfl,rfl,Vc _,fun _ _=>rfl⟩⟩
 ·have c:xs.length=ys.length:=by simp at h4;omega
  have HL:Hid (xs.length=ys.length):=c;clear c;go_enter func111,ntmps111
  go_wp2_with fail
  go_quiet (fail)
  go_wp2
  go_loopw[5] (fun i wr=>∃k m:Nat,k≤xs.length∧i=.int .i64 k∧wr=w.drewN m∧Hid (∀j,j<k→z1T (xs.getD j z0e) (ys.getD j z0e)=true)) (fun i _=>xs.length-(intOf i).toNat)
  case atStart=>exact⟨0,_,Vd _,rfl,rfl,fun j hj=>absurd hj (Nat.not_lt_zero _)⟩
  case round=>
   obtain⟨k,m,hk,rfl,rfl,HA⟩:=hrel;by_cases M:k<xs.length
   ·have N:k<ys.length:=by have:=HL.out;omega
    obtain⟨bb,Z,rfl,X,A,C,D⟩:=h.at k M;obtain⟨W,V,rfl,U,I,J,L⟩:=h'.at k N;have hr:=z5U (xs.getD k z0e).kind (xs.getD k z0e).key (xs.getD k z0e).val (ys.getD k z0e).kind (ys.getD k z0e).key (ys.getD k z0e).val
    cases hs:z1T (xs.getD k z0e) (ys.getD k z0e)
    case false=>
     have E:Hid (sameAs xs ys=false):=z3b (f:=z1T) z0e (fun _ _ _ _=>rfl) xs ys k HL.out M hs;rw[show z1T ⟨(xs.getD k z0e).kind,(xs.getD k z0e).key,(xs.getD k z0e).val⟩ ⟨(ys.getD k z0e).kind,(ys.getD k z0e).key,(ys.getD k z0e).val⟩=false from hs,Bool.not_false]at hr;clear HA hs;generalize xs.getD k z0e=z at A C D hr;generalize ys.getD k z0e=z' at I J L hr
     go_wp2
     go_quiet (fail)
     go_wp2
     go_ret;rw[E.out];exact⟨rfl,⟨rfl,rfl,rfl,Vc _,fun _ _=>rfl⟩⟩
    case true=>
     have HB:Hid (∀j,j<k+1→z1T (xs.getD j z0e) (ys.getD j z0e)=true):=by
      intro j hj;by_cases T:j=k
      ·subst T;exact hs
      ·exact HA.out j (by omega)
     rw[show z1T ⟨(xs.getD k z0e).kind,(xs.getD k z0e).key,(xs.getD k z0e).val⟩ ⟨(ys.getD k z0e).kind,(ys.getD k z0e).key,(ys.getD k z0e).val⟩=true from hs,Bool.not_true]at hr;clear HA hs;generalize xs.getD k z0e=z at A C D hr;generalize ys.getD k z0e=z' at I J L hr
     go_wp2
     go_quiet (fail)
     go_wp2
     go_roundw
     case rel=>exact⟨k+1,_,by omega,by go_num,rfl,HB⟩
     case measure=>simp[intOf];omega
   ·have E:Hid (sameAs xs ys=true):=z3c (f:=z1T) z0e rfl (fun _ _ _ _=>rfl) xs ys HL.out (fun j hj=>HA.out j (by omega));clear HA
    go_wp2
    go_ret;rw[E.out];exact⟨rfl,⟨rfl,rfl,rfl,Vc _,fun _ _=>rfl⟩⟩
theorem z1M(v v':Value)(xs ys:List TxnD)(w:World)(h:TxnsAt w v xs)(h':TxnsAt w v' ys)(hl:xs.length+z6n xs≤1048576)(ah:ys.length+z6n ys≤1048576):
  Calls Sl 64 #[v,v'] w fun e w'=>e=.returned (.bool (sameTs xs ys))∧Below w.heap.size w w':=by
 obtain⟨a,cap,rfl⟩:=h.shape;obtain⟨a',ae,rfl⟩:=h'.shape;by_cases c:xs.length=ys.length
 case neg=>
  have E:sameTs xs ys=false:=z3a (f:=z1v) rfl (fun _ _ _ _=>rfl) (fun _ _=>rfl) (fun _ _=>rfl) xs ys c;rw[E];have hd:((xs.length:Int) !=(ys.length:Int))=true:=by simp;omega
  go_enter func64,ntmps64
  go_wp2
  go_ret;exact⟨rfl,Below.refl _ _⟩
 case pos=>
  have hd:((xs.length:Int) !=(ys.length:Int))=false:=by simp[c]
  have HL:Hid (xs.length=ys.length):=c;clear c;go_enter func64,ntmps64
  go_wp2
  go_loopw[5] (fun i wr=>∃k:Nat,k≤xs.length∧i=.int .i64 k∧Below w.heap.size w wr∧Hid (∀j,j<k→z1v (xs.getD j z0n) (ys.getD j z0n)=true)) (fun i _=>xs.length-(intOf i).toNat)
  case atStart=>exact⟨0,Vd _,rfl,Below.refl _ _,fun j hj=>absurd hj (Nat.not_lt_zero _)⟩
  case round=>
   obtain⟨k,hk,rfl,hb,HA⟩:=hrel;by_cases C:k<xs.length
   ·have z:k<ys.length:=by have:=HL.out;omega
    obtain⟨b,y,aa,cc,rfl,ag,M,N,O,T,hA⟩:=(h.below hb).at k C;obtain⟨b',d,Z,ab,rfl,af,U,V,W,X,I⟩:=(h'.below hb).at k z;have Y:(xs.getD k z0n).acts.length≤z6n xs:=z1z (by simp[List.getD,C]);have A:(ys.getD k z0n).acts.length≤z6n ys:=z1z (by simp[List.getD,z]);have J:Box4 wr b (y+k*4) _ _ _ _:=⟨M,N,O,T⟩
    have L:Box4 wr b' (d+k*4) _ _ _ _:=⟨U,V,W,X⟩
    have hq:=fun(w':World) (hW:Below wr.heap.size wr w')=>q1u (xs.getD k z0n) (ys.getD k z0n) b (y+k*4) b' (d+k*4) aa Z cc ab w' (J.below hW) (L.below hW) (hA.below hW) (I.below hW) (by omega) (by omega)
    clear J L hA I M N O T U V W X
    cases hs:z1v (xs.getD k z0n) (ys.getD k z0n)
    case false=>
     have E:Hid (sameTs xs ys=false):=z3b (f:=z1v) z0n (fun _ _ _ _=>rfl) xs ys k HL.out C hs;rw[hs]at hq;clear HA hs Y A;have hW:Below wr.heap.size wr wr.drew:=(Below.refl _ _).drew;have D:Nonempty (Lat wr):=⟨⟨wr,Below.refl _ _⟩⟩
     go_wp2_with fail
     refine z0b (S:=fun w'=>∃u:Lat wr,w'=u.val) (by kernel_rfl) ?_;refine sgr [(0,6)] 2 (by kernel_rfl) ⟨⟨_,hW⟩,rfl⟩ ?_;simp only[pkE];repeat go_big_quiet_step (fail)
     refine wpQuiet_nil ?_;refine cla 6 (some 23) 111 #[.pointer (some ⟨b,y+k*4,none⟩),.pointer (some ⟨b',d+k*4,none⟩)] 1 (by kernel_rfl) ?_;refine(hq _ hW).mono ?_;rintro e w2 ⟨rfl,x⟩;replace hW:=hW.trans (x.mono hW.size);clear x hq;refine⟨_,rfl,⟨⟨_,hW⟩,rfl⟩,?_⟩;simp only[Vf,pjE];refine sgr [(7,1)] 0 (by kernel_rfl) ⟨⟨_,hW⟩,rfl⟩ ?_;simp only[pkE];repeat go_big_quiet_step (fail)
     refine wpQuiet_nil ?_;refine z0g (by kernel_rfl) ?_;replace hb:=hb.trans (hW.mono hb.size);clear hW D
     go_wp2
     go_ret;rw[E.out];exact⟨rfl,hb⟩
    case true=>
     have HB:Hid (∀j,j<k+1→z1v (xs.getD j z0n) (ys.getD j z0n)=true):=by
      intro j hj;by_cases ad:j=k
      ·subst ad;exact hs
      ·exact HA.out j (by omega)
     rw[hs]at hq;clear HA hs Y A;have hW:Below wr.heap.size wr wr.drew:=(Below.refl _ _).drew;have D:Nonempty (Lat wr):=⟨⟨wr,Below.refl _ _⟩⟩
     go_wp2_with fail
     refine z0b (S:=fun w'=>∃u:Lat wr,w'=u.val) (by kernel_rfl) ?_;refine sgr [(0,6)] 2 (by kernel_rfl) ⟨⟨_,hW⟩,rfl⟩ ?_;simp only[pkE];repeat go_big_quiet_step (fail)
     refine wpQuiet_nil ?_;refine cla 6 (some 23) 111 #[.pointer (some ⟨b,y+k*4,none⟩),.pointer (some ⟨b',d+k*4,none⟩)] 1 (by kernel_rfl) ?_;refine(hq _ hW).mono ?_;rintro e w2 ⟨rfl,x⟩;replace hW:=hW.trans (x.mono hW.size);clear x hq;refine⟨_,rfl,⟨⟨_,hW⟩,rfl⟩,?_⟩;simp only[Vf,pjE];refine sgr [(7,1)] 0 (by kernel_rfl) ⟨⟨_,hW⟩,rfl⟩ ?_;simp only[pkE];repeat go_big_quiet_step (fail)
     refine wpQuiet_nil ?_;refine z0g (by kernel_rfl) ?_;replace hb:=hb.trans (hW.mono hb.size);clear hW D
     go_wp2
     go_roundw
     case rel=>exact⟨k+1,by omega,by go_num,hb,HB⟩
     case measure=>simp[intOf];omega
   ·have E:Hid (sameTs xs ys=true):=z3c (f:=z1v) z0n rfl (fun _ _ _ _=>rfl) xs ys HL.out (fun j hj=>HA.out j (by omega));clear HA
    go_wp2
    go_ret;rw[E.out];exact⟨rfl,hb⟩
def q6Q:Value→Option Addr
 | Q a _ _=>a
 |_=>none
def q61:Value→Nat
 | Q _ _ k=>k
 |_=>0
def TxnQ.p'(q:TxnQ):TxnP:=⟨q.e,q6Q q.va,q61 q.va⟩
theorem TxnQ.p_cells'{w:World}{q:TxnQ}(h:actK.At w q.va q.acts):q.p'.cells=txnK.cells q:=by
 obtain⟨a,c,e⟩:=h.shape;show [_,_,_,_]=[_,_,_,_]
 simp only[TxnP.sl,TxnQ.p',Va,e,q6Q,q61]
theorem z0H{w:World}{v:Value}{ps:List TxnQ}(h:txnK.At w v ps):TxnsAt w v (ps.map Va):=by
 obtain⟨a,cap,e,hL,hr⟩:=h;refine⟨a,cap,ps.map TxnQ.p',by rw[Ve];exact e,by simp only[List.map_map];rfl,?_,?_⟩
 ·have e2:z0Y (ps.map TxnQ.p')=txnK.row ps:=by
   clear hL e;induction ps with
   |nil=>rfl
   |cons q r ih=>
    have h1:q.p'.cells=txnK.cells q:=TxnQ.p_cells' (hr q (by simp));have h2:=ih (fun p hp=>hr p (List.mem_cons_of_mem _ hp));show q.p'.cells++z0Y (r.map TxnQ.p')=txnK.cells q++txnK.row r;rw[h1,h2]
  rw[e2];exact hL
 ·intro p hp;obtain⟨q,hq,rfl⟩:=List.mem_map.1 hp;have h1:actK.At w q.va q.acts:=hr q hq;obtain⟨a',c',e',hl',_⟩:=h1;show ActRow w (q6Q q.va) q.acts;rw[e'];exact hl'
theorem z1j(ps:List TxnQ):z6n (ps.map Va)=nmL TxnQ.n ps:=by
 simp only[z6n,nmL,List.map_map];rfl
def sameUss:List (List UndoD)→List (List UndoD)→Bool
 |[],[]=>true
 |x::r,y::s=>sameUs x y && sameUss r s
 |_,_=>false
theorem z2S(xs:List USQ)(k:Nat)(hk:k<xs.length):(xs.map USQ.e).getD k []=USQ.e xs[k]:=by simp[List.getD,hk]
theorem z7K{w:World}{b off k:Nat}{p:USQ}(h:∀j x,(ussK.cells p)[j]?=some x→w.cell? ⟨b,off+k*ussK.size+j,none⟩=some x):w.cell? ⟨b,off+k,none⟩=some p.va:=by
 have:=h 0 p.va rfl
 rwa [show off+k*ussK.size+0=off+k from by show off+k*1+0=off+k;omega]at this
theorem z8O(v v':Value)(xs ys:List USQ)(w:World)(h:ussK.At w v xs)(h':ussK.At w v' ys)(hl:xs.length+nmL USQ.n xs≤1048576)(O:ys.length+nmL USQ.n ys≤1048576):
  Calls Sl 229 #[v,v',.func (.func 230) #[] #[]] w fun e w'=>e=.returned (.bool (sameUss (xs.map USQ.e) (ys.map USQ.e)))∧Below w.heap.size w w':=by
 obtain⟨a,cap,rfl⟩:=h.shape;obtain⟨a',J,rfl⟩:=h'.shape;by_cases c:xs.length=ys.length
 case neg=>
  have E:sameUss (xs.map USQ.e) (ys.map USQ.e)=false:=z3a (f:=sameUs) rfl (fun _ _ _ _=>rfl) (fun _ _=>rfl) (fun _ _=>rfl) _ _ (by simpa using c);rw[E];have hd:((xs.length:Int) !=(ys.length:Int))=true:=by simp;omega
  go_enter func229,ntmps229
  go_wp2
  go_ret;exact⟨rfl,Below.refl _ _⟩
 case pos=>
  have hd:((xs.length:Int) !=(ys.length:Int))=false:=by simp[c]
  have HL:Hid (xs.length=ys.length):=c;have HM:Hid ((xs.map USQ.e).length=(ys.map USQ.e).length):=show _=_ by simpa using c
  clear c;generalize hE:sameUss (xs.map USQ.e) (ys.map USQ.e)=E;have HE:Hid (sameUss (xs.map USQ.e) (ys.map USQ.e)=E):=hE;clear hE;go_enter func229,ntmps229
  go_wp2
  go_loopw[17] (fun i wr=>∃k:Nat,k≤xs.length∧i=.int .i64 k∧Below w.heap.size w wr∧Hid (∀j,j<k→sameUs ((xs.map USQ.e).getD j []) ((ys.map USQ.e).getD j [])=true)) (fun i _=>xs.length-(intOf i).toNat)
  case atStart=>exact⟨0,Vd _,rfl,Below.refl _ _,fun j hj=>absurd hj (Nat.not_lt_zero _)⟩
  case round=>
   obtain⟨k,hk,rfl,hb,HA⟩:=hrel;by_cases y:k<xs.length
   ·have x:k<ys.length:=by have:=HL.out;omega
    obtain⟨b,T,rfl,N,hc,z⟩:=(h.below hb).cell (by decide) k y;obtain⟨b',M,rfl,L,D,d⟩:=(h'.below hb).cell (by decide) k x;have c0:=z7K hc;have d0:=z7K D;have n1:=z01 USQ.n xs k y;have n2:=z01 USQ.n ys k x;have HY:Hid (sameUs (USQ.e xs[k]) (USQ.e ys[k])=false→E=false):=fun hx=>by
     rw[←HE.out];exact z3b (f:=sameUs) [] (fun _ _ _ _=>rfl) _ _ k HM.out (by simpa using y) (by rw[z2S xs k y,z2S ys k x];exact hx)
    have HN:Hid (sameUs (USQ.e xs[k]) (USQ.e ys[k])=true→∀j,j<k+1→sameUs ((xs.map USQ.e).getD j []) ((ys.map USQ.e).getD j [])=true):=fun hx j hj=>by
     by_cases I:j=k
     ·subst I;rw[z2S xs j y,z2S ys j x];exact hx
     ·exact HA.out j (by omega)
    clear HA hc D;generalize xs[k]=p at*;generalize ys[k]=q at*;obtain⟨pv,pu⟩:=p;obtain⟨qv,qu⟩:=q;replace z:undoK.At wr pv pu:=z;replace d:undoK.At wr qv qu:=d;replace n1:pu.length≤nmL USQ.n xs:=n1;replace n2:qu.length≤nmL USQ.n ys:=n2;dsimp only[USQ.e]at c0 d0 HY HN;obtain⟨a1,k1,rfl⟩:=z.shape;obtain⟨b1,m1,rfl⟩:=d.shape;have hq:=fun w f1 f2=>z5a a1 b1 k1 m1 pu qu w f1 f2 (by omega) (by omega)
    have g1:=(z1X z).2;have g2:=(z1X d).2;generalize sameUs pu qu=X at*;clear n1 n2 z d
    go_wp2_with fail
    refine(hq _ g1 g2).mono ?_;rintro e w2 ⟨rfl,A⟩;have C:=z0w hb A;clear A c0 d0 hq g1 g2
    cases X with
    |false=>
     have E1:Hid (E=false):=HY.out rfl;clear HY HN HE
     go_wp2
     go_ret;exact⟨by rw[E1.out];rfl,C⟩
    |true=>
     have R:=HN.out rfl;have HR:Hid _:=R;clear HY HN R
     go_wp2
     go_roundw
     case rel=>exact⟨k+1,by omega,by go_num,C,HR.out⟩
     case measure=>simp[intOf];omega
   ·have E1:Hid (E=true):=by rw[←HE.out];exact z3c (f:=sameUs) [] rfl (fun _ _ _ _=>rfl) _ _ HM.out (fun j hj=>HA.out j (by simpa using(by simpa using hj:j<xs.length)|>fun h=>Nat.lt_of_lt_of_le h (by omega)))
    clear HA HE
    go_wp2
    go_ret;exact⟨by rw[E1.out];rfl,hb⟩
theorem z5V(v v':Value)(xs ys:List USQ)(w:World)(h:ussK.At w v xs)(h':ussK.At w v' ys)(hl:xs.length+nmL USQ.n xs≤1048576)(U:ys.length+nmL USQ.n ys≤1048576):
  Calls Sl 157 #[v,v'] w fun e w'=>e=.returned (.bool (sameUss (xs.map USQ.e) (ys.map USQ.e)))∧Below w.heap.size w w':=by
 obtain⟨a,cap,rfl⟩:=h.shape;obtain⟨a',L,rfl⟩:=h'.shape;by_cases c:xs.length=ys.length
 case neg=>
  have E:sameUss (xs.map USQ.e) (ys.map USQ.e)=false:=z3a (f:=sameUs) rfl (fun _ _ _ _=>rfl) (fun _ _=>rfl) (fun _ _=>rfl) _ _ (by simpa using c);rw[E];have hd:((xs.length:Int) !=(ys.length:Int))=true:=by simp;omega
  go_enter func157,ntmps157
  go_wp2
  go_ret;exact⟨rfl,Below.refl _ _⟩
 case pos=>
  have hd:((xs.length:Int) !=(ys.length:Int))=false:=by simp[c]
  have HL:Hid (xs.length=ys.length):=c;have HM:Hid ((xs.map USQ.e).length=(ys.map USQ.e).length):=show _=_ by simpa using c
  clear c;generalize hE:sameUss (xs.map USQ.e) (ys.map USQ.e)=E;have HE:Hid (sameUss (xs.map USQ.e) (ys.map USQ.e)=E):=hE;clear hE;go_enter func157,ntmps157
  go_wp2
  go_loopw[5] (fun i wr=>∃k:Nat,k≤xs.length∧i=.int .i64 k∧Below w.heap.size w wr∧Hid (∀j,j<k→sameUs ((xs.map USQ.e).getD j []) ((ys.map USQ.e).getD j [])=true)) (fun i _=>xs.length-(intOf i).toNat)
  case atStart=>exact⟨0,Vd _,rfl,Below.refl _ _,fun j hj=>absurd hj (Nat.not_lt_zero _)⟩
  case round=>
   obtain⟨k,hk,rfl,hb,HA⟩:=hrel;by_cases y:k<xs.length
   ·have x:k<ys.length:=by have:=HL.out;omega
    obtain⟨b,V,rfl,T,hc,z⟩:=(h.below hb).cell (by decide) k y;obtain⟨b',O,rfl,M,C,d⟩:=(h'.below hb).cell (by decide) k x;have c0:=z7K hc;have d0:=z7K C;have n1:=z01 USQ.n xs k y;have n2:=z01 USQ.n ys k x;have HY:Hid (sameUs (USQ.e xs[k]) (USQ.e ys[k])=false→E=false):=fun hx=>by
     rw[←HE.out];exact z3b (f:=sameUs) [] (fun _ _ _ _=>rfl) _ _ k HM.out (by simpa using y) (by rw[z2S xs k y,z2S ys k x];exact hx)
    have HN:Hid (sameUs (USQ.e xs[k]) (USQ.e ys[k])=true→∀j,j<k+1→sameUs ((xs.map USQ.e).getD j []) ((ys.map USQ.e).getD j [])=true):=fun hx j hj=>by
     by_cases D:j=k
     ·subst D;rw[z2S xs j y,z2S ys j x];exact hx
     ·exact HA.out j (by omega)
    clear HA hc C;generalize xs[k]=p at*;generalize ys[k]=q at*;obtain⟨pv,pu⟩:=p;obtain⟨qv,qu⟩:=q;replace z:undoK.At wr pv pu:=z;replace d:undoK.At wr qv qu:=d;replace n1:pu.length≤nmL USQ.n xs:=n1;replace n2:qu.length≤nmL USQ.n ys:=n2;dsimp only[USQ.e]at c0 d0 HY HN;obtain⟨a1,k1,rfl⟩:=z.shape;obtain⟨b1,m1,rfl⟩:=d.shape;have hq:=fun w f1 f2=>z49 a1 b1 k1 m1 pu qu w f1 f2 (by omega) (by omega)
    have g1:=(z1X z).2;have g2:=(z1X d).2;generalize sameUs pu qu=X at*;clear n1 n2 z d;have N:(k:Int)<(xs.length:Int):=by omega
    have I:(k:Int)<(ys.length:Int):=by omega
    replace c0:=z0a c0;replace d0:=z0a d0;have hW:Below wr.heap.size wr wr.drew:=(Below.refl _ _).drew;have J:Nonempty (Lat wr):=⟨⟨wr,Below.refl _ _⟩⟩
    go_wp2_with fail
    refine z0b (S:=fun w'=>∃u:Lat wr,w'=u.val) (by kernel_rfl) ?_;refine sgr [(0,8)] 2 (by kernel_rfl) ⟨⟨_,hW⟩,rfl⟩ ?_;simp only[pkE];repeat go_big_quiet_step (fail)
    refine wpQuiet_nil ?_;refine cla 8 (some 25) 195 #[Q a1 pu.length k1,Q b1 qu.length m1] 1 (by kernel_rfl) ?_;refine(hq _ (g1.below hW) (g2.below hW)).mono ?_;rintro e w9 ⟨rfl,A⟩;replace hW:=hW.trans (A.mono hW.size);clear A;refine⟨_,rfl,⟨⟨_,hW⟩,rfl⟩,?_⟩;simp only[Vf,pjE];refine sgr [(9,1)] 0 (by kernel_rfl) ⟨⟨_,hW⟩,rfl⟩ ?_;simp only[pkE];repeat go_big_quiet_step (fail)
    refine wpQuiet_nil ?_;refine z0g (by kernel_rfl) ?_;replace hb:=hb.trans (hW.mono hb.size);clear hW J hq g1 g2 c0 d0
    cases X with
    |false=>
     have E1:Hid (E=false):=HY.out rfl;clear HY HN HE
     go_wp2
     go_ret;exact⟨by rw[E1.out];rfl,hb⟩
    |true=>
     have R:=HN.out rfl;have HR:Hid _:=R;clear HY HN R
     go_wp2
     go_roundw
     case rel=>exact⟨k+1,by omega,by go_num,hb,HR.out⟩
     case measure=>simp[intOf];omega
   ·have E1:Hid (E=true):=by rw[←HE.out];exact z3c (f:=sameUs) [] rfl (fun _ _ _ _=>rfl) _ _ HM.out (fun j hj=>HA.out j (by simpa using(by simpa using hj:j<xs.length)|>fun h=>Nat.lt_of_lt_of_le h (by omega)))
    clear HA HE
    go_wp2
    go_ret;exact⟨by rw[E1.out];rfl,hb⟩
def sameRep(x y:RepE):Bool:=sameTs x.done y.done && (sameIs x.base y.base && (sameTs x.tent y.tent && (sameUss x.undos y.undos && sameIs x.now y.now)))
theorem z3l(p q:RepQ)(w:World)(h:repK.rd w p)(h':repK.rd w q)(hl:p.n≤1048576)(d:q.n≤1048576):
  Calls Sl 201 #[.agg #[p.vd,p.vb,p.vt,p.vu,p.vn],.agg #[q.vd,q.vb,q.vt,q.vu,q.vn]] w fun e w'=>e=.returned (.bool (sameRep p.e q.e))∧Below w.heap.size w w':=by
 obtain⟨y,pd,x,pb,A,pt,C,pu,z,pn⟩:=p;obtain⟨p0,p5,rfl⟩:∃a c,y=Q a pd.length c:=h.1.shape;obtain⟨p1,p6,rfl⟩:∃a c,x=Q a pb.length c:=h.2.1.shape;obtain⟨p2,p7,rfl⟩:∃a c,A=Q a pt.length c:=h.2.2.1.shape;obtain⟨p3,p8,rfl⟩:∃a c,C=Q a pu.length c:=h.2.2.2.1.shape;obtain⟨p4,p9,rfl⟩:∃a c,z=Q a pn.length c:=h.2.2.2.2.shape;obtain⟨I,qd,D,qb,L,qt,M,qu,J,qn⟩:=q;obtain⟨q0,q5,rfl⟩:∃a c,I=Q a qd.length c:=h'.1.shape;obtain⟨q1,q6,rfl⟩:∃a c,D=Q a qb.length c:=h'.2.1.shape;obtain⟨q2,q7,rfl⟩:∃a c,L=Q a qt.length c:=h'.2.2.1.shape;obtain⟨q3,q8,rfl⟩:∃a c,M=Q a qu.length c:=h'.2.2.2.1.shape;obtain⟨q4,q9,rfl⟩:∃a c,J=Q a qn.length c:=h'.2.2.2.2.shape;dsimp only[RepQ.n]at hl d;have c0:=fun w h h'=>z1L (Q p0 pd.length p5) (Q q0 qd.length q5) (pd.map Va) (qd.map Va) w (z0H h) (z0H h') (by rw[Ve,z1j];omega) (by rw[Ve,z1j];omega)
 have c1:=fun w h h'=>z2a p1 q1 p6 q6 pb qb w h h' (by omega) (by omega)
 have c2:=fun w h h'=>z1L (Q p2 pt.length p7) (Q q2 qt.length q7) (pt.map Va) (qt.map Va) w (z0H h) (z0H h') (by rw[Ve,z1j];omega) (by rw[Ve,z1j];omega)
 have c3:=fun w h h'=>z8O (Q p3 pu.length p8) (Q q3 qu.length q8) pu qu w h h' (by omega) (by omega)
 have c4:=fun w h h'=>z2a p4 q4 p9 q9 pn qn w h h' (by omega) (by omega)
 obtain⟨r0,r1,r2,r3,r4⟩:txnK.At w (Q p0 pd.length p5) pd∧itemK.At w (Q p1 pb.length p6) pb∧txnK.At w (Q p2 pt.length p7) pt∧ussK.At w (Q p3 pu.length p8) pu∧itemK.At w (Q p4 pn.length p9) pn:=h;obtain⟨s0,s1,s2,s3,s4⟩:txnK.At w (Q q0 qd.length q5) qd∧itemK.At w (Q q1 qb.length q6) qb∧txnK.At w (Q q2 qt.length q7) qt∧ussK.At w (Q q3 qu.length q8) qu∧itemK.At w (Q q4 qn.length q9) qn:=h';replace r1:=(z05 r1).2;replace r4:=(z05 r4).2;replace s1:=(z05 s1).2;replace s4:=(z05 s4).2;have E:Hid (sameRep ⟨pd.map Va,pb,pt.map Va,pu.map USQ.e,pn⟩ ⟨qd.map Va,qb,qt.map Va,qu.map USQ.e,qn⟩=(sameTs (pd.map Va) (qd.map Va) && (sameIs pb qb && (sameTs (pt.map Va) (qt.map Va) && (sameUss (pu.map USQ.e) (qu.map USQ.e) && sameIs pn qn))))):=show _=_ from rfl
 dsimp only[RepQ.e];generalize sameTs (pd.map Va) (qd.map Va)=X0 at*;generalize sameIs pb qb=X1 at*;generalize sameTs (pt.map Va) (qt.map Va)=X2 at*;generalize sameUss (pu.map USQ.e) (qu.map USQ.e)=X3 at*;generalize sameIs pn qn=X4 at*;generalize sameRep ⟨pd.map Va,pb,pt.map Va,pu.map USQ.e,pn⟩ ⟨qd.map Va,qb,qt.map Va,qu.map USQ.e,qn⟩=S at*;have B:=(Blk.new w 55 #[Q p0 pd.length p5,Q p1 pb.length p6,Q p2 pt.length p7,Q p3 pu.length p8,Q p4 pn.length p9]).below (w':=((w.alloc (.cells #[Q p0 pd.length p5,Q p1 pb.length p6,Q p2 pt.length p7,Q p3 pu.length p8,Q p4 pn.length p9] 55)).alloc (.cells #[Q q0 qd.length q5,Q q1 qb.length q6,Q q2 qt.length q7,Q q3 qu.length q8,Q q4 qn.length q9] 55))) (by go_grown);have B':=Blk.new (w.alloc (.cells #[Q p0 pd.length p5,Q p1 pb.length p6,Q p2 pt.length p7,Q p3 pu.length p8,Q p4 pn.length p9] 55)) 55 #[Q q0 qd.length q5,Q q1 qb.length q6,Q q2 qt.length q7,Q q3 qu.length q8,Q q4 qn.length q9];have hB:Below w.heap.size w ((w.alloc (.cells #[Q p0 pd.length p5,Q p1 pb.length p6,Q p2 pt.length p7,Q p3 pu.length p8,Q p4 pn.length p9] 55)).alloc (.cells #[Q q0 qd.length q5,Q q1 qb.length q6,Q q2 qt.length q7,Q q3 qu.length q8,Q q4 qn.length q9] 55)):=by go_grown
 rw[World.size_alloc]at B';go_enter func201,ntmps201;have f0:=B.cell 0 _ rfl;have g0:=B'.cell 0 _ rfl
 go_wp2_with fail
 clear f0 g0;generalize ((w.alloc (.cells #[Q p0 pd.length p5,Q p1 pb.length p6,Q p2 pt.length p7,Q p3 pu.length p8,Q p4 pn.length p9] 55)).alloc (.cells #[Q q0 qd.length q5,Q q1 qb.length q6,Q q2 qt.length q7,Q q3 qu.length q8,Q q4 qn.length q9] 55))=W at*;refine(c0 W (r0.below hB) (s0.below hB)).mono ?_;rintro e w0 ⟨rfl,hb⟩;replace B:=B.below hb;replace B':=B'.below hb;replace hB:=hB.trans (hb.mono hB.size);clear hb
 cases X0 with
 |false=>
  go_wp2
  go_ret;exact⟨by rw[E.out];rfl,hB⟩
 |true=>
  have f1:=B.cell 1 _ rfl;have g1:=B'.cell 1 _ rfl
  go_wp2_with fail
  clear f1 g1;refine(c1 w0 (r1.below hB) (s1.below hB)).mono ?_;rintro e w1 ⟨rfl,hb⟩;replace B:=B.below hb;replace B':=B'.below hb;replace hB:=hB.trans (hb.mono hB.size);clear hb
  cases X1 with
  |false=>
   go_wp2
   go_ret;exact⟨by rw[E.out];rfl,hB⟩
  |true=>
   have f2:=B.cell 2 _ rfl;have g2:=B'.cell 2 _ rfl
   go_wp2_with fail
   clear f2 g2;refine(c2 w1 (r2.below hB) (s2.below hB)).mono ?_;rintro e w2 ⟨rfl,hb⟩;replace B:=B.below hb;replace B':=B'.below hb;replace hB:=hB.trans (hb.mono hB.size);clear hb
   cases X2 with
   |false=>
    go_wp2
    go_ret;exact⟨by rw[E.out];rfl,hB⟩
   |true=>
    have f3:=B.cell 3 _ rfl;have g3:=B'.cell 3 _ rfl
    go_wp2_with fail
    clear f3 g3;refine(c3 w2 (r3.below hB) (s3.below hB)).mono ?_;rintro e w3 ⟨rfl,hb⟩;replace B:=B.below hb;replace B':=B'.below hb;replace hB:=hB.trans (hb.mono hB.size);clear hb
    cases X3 with
    |false=>
     go_wp2
     go_ret;exact⟨by rw[E.out];rfl,hB⟩
    |true=>
     have f4:=B.cell 4 _ rfl;have g4:=B'.cell 4 _ rfl
     go_wp2_with fail
     clear f4 g4;refine(c4 w3 (r4.below hB) (s4.below hB)).mono ?_;rintro e w4 ⟨rfl,hb⟩;replace B:=B.below hb;replace B':=B'.below hb;replace hB:=hB.trans (hb.mono hB.size);clear hb
     go_wp2
     go_ret;exact⟨by rw[E.out];rfl,hB⟩
section
open Go.Extern.Stop Go.Stop Go.Extern
theorem q6m(t:Value)(w:World):
  Calls Sl 203 #[.nilIface,t] w fun e w'=>e=.returned (.bool false)∧w'=w:=by
 go_enter func203,ntmps203
 go_wp2
 go_ret;exact⟨rfl,rfl⟩
theorem z7L(t:Addr)(w:World):(ReflectliteValue.unpack (.iface 278 (.pointer (some t)))).run Sl w
  =.ok (.agg #[.pointer (some ⟨2,278,none⟩),.pointer (some ⟨w.heap.size,0,none⟩),.int .u64 150]) (w.alloc (.cells #[.pointer (some t)] 278)):=by kernel_rfl
theorem q1v (a : Addr) (w : World) : (ReflectliteValue.methodAny (ReflectliteValue.valueError "reflectlite.Value.Type" 0) (fun t _ _ _ => ReflectliteType.toType t) #[.agg #[.pointer (some ⟨2, 278, none⟩), .pointer (some a), .int .u64 150]]).run Sl w
  =.ok (.iface 342 (.agg #[.pointer (some ⟨2,278,none⟩)])) w:=by kernel_rfl
theorem z6z (h : Value) (w : World) : (Go.method 314 342 (.agg #[h]) "Kind").run Sl w = .ok (288, h) w := by kernel_rfl
theorem q1w(w:World):((ReflectliteType.abiMethod fun t=>(fun a:Nat=>Value.int IntKind.u8 (a:Int))<$>Rtype.kind t) #[.pointer (some ⟨2,278,none⟩)]).run Sl w=.ok (.int .u8 22) w:=by kernel_rfl
theorem q1x(w:World):((ReflectliteType.abiMethod fun t=>(fun a:Nat=>Value.int IntKind.u8 (a:Int))<$>Rtype.kind t) #[.pointer (some ⟨2,273,none⟩)]).run Sl w=.ok (.int .u8 25) w:=by kernel_rfl
theorem q2S(z:Sem Value)(f:TypeId→Addr→Nat→Nat→Sem Value)(v:Value):
  ReflectliteValue.method z f #[v]=(do match←ReflectliteValue.parts v with|none=>z|some (t,a,fl)=>f t a fl (fl % 32)):=rfl
theorem z5W(a:Addr)(w:World):(ReflectliteValue.parts (.agg #[.pointer (some ⟨2,278,none⟩),.pointer (some a),.int .u64 150])).run Sl w=.ok (some (278,a,150)) w:=by kernel_rfl
theorem z9X(a p:Addr)(W:World)(ha:W.cell? a=some (.pointer (some p))):
  (ReflectliteValue.method (ReflectliteValue.valueError "reflectlite.Value.IsNil" 0) ReflectliteValue.isNil #[.agg #[.pointer (some ⟨2, 278, none⟩), .pointer (some a), .int .u64 150]]).run Sl W = .ok (.bool false) W := by
 rw[q2S];simp only[Sem.run_bind,z5W,Result.andThen];simp[ReflectliteValue.isNil,loadVar,isAgg,underlying,Tryz.underlying278,ha,Result.andThen]
theorem z6A (h : Value) (w : World) : (Go.method 314 342 (.agg #[h]) "Elem").run Sl w = .ok (301, .agg #[h]) w := by kernel_rfl
theorem z3m (h : Value) (w : World) : (Go.method 314 342 (.agg #[h]) "Implements").run Sl w = .ok (302, .agg #[h]) w := by kernel_rfl
theorem z2A (h : Value) (w : World) : (Go.method 314 342 (.agg #[h]) "AssignableTo").run Sl w = .ok (299, .agg #[h]) w := by kernel_rfl
theorem q1y(w:World):(ReflectliteType.method ReflectliteType.elem #[.agg #[.pointer (some ⟨2,278,none⟩)]]).run Sl w=.ok (.iface 342 (.agg #[.pointer (some ⟨2,273,none⟩)])) w:=by kernel_rfl
theorem z5b (w : World) : (ReflectliteType.relation "Implements" ReflectliteType.implements_ #[.agg #[.pointer (some ⟨2, 273, none⟩)], .iface 342 (.agg #[.pointer (some ⟨2, 236, none⟩)])]).run Sl w = .ok (.bool true) w := by kernel_rfl
theorem z8P(v:Value)(w:World):(ReflectliteType.typeOf #[.iface 273 v]).run Sl w=.ok (.iface 342 (.agg #[.pointer (some ⟨2,273,none⟩)])) w:=by kernel_rfl
theorem z5c (w : World) : (ReflectliteType.relation "AssignableTo" ReflectliteType.assignableTo #[.agg #[.pointer (some ⟨2, 273, none⟩)], .iface 342 (.agg #[.pointer (some ⟨2, 273, none⟩)])]).run Sl w = .ok (.bool true) w := by kernel_rfl
theorem z7M(c:Int)(w:World):(ReflectliteValue.unpack (.iface 273 (.agg #[.int .i64 c]))).run Sl w
  =.ok (.agg #[.pointer (some ⟨2,273,none⟩),.pointer (some ⟨w.heap.size,0,none⟩),.int .u64 153]) (w.alloc (.cells #[.int .i64 c] 273)):=by kernel_rfl
theorem z8Q(w:World):(Rtype.elem? 278).run Sl w=.ok (some 273) w:=by kernel_rfl
theorem q4i(p:Addr)(w:World):(ReflectliteValue.mk 273 p ReflectliteValue.flagAddr).run Sl w=.ok (.agg #[.pointer (some ⟨2,273,none⟩),.pointer (some p),.int .u64 409]) w:=by kernel_rfl
theorem z9Y(a p:Addr)(W:World)(ha:W.cell? a=some (.pointer (some p))):
  (ReflectliteValue.method (ReflectliteValue.valueError "reflectlite.Value.Elem" 0) ReflectliteValue.elem #[.agg #[.pointer (some ⟨2, 278, none⟩), .pointer (some a), .int .u64 150]]).run Sl W
   =.ok (.agg #[.pointer (some ⟨2,273,none⟩),.pointer (some p),.int .u64 409]) W:=by
 rw[q2S];simp only[Sem.run_bind,z5W,Result.andThen];simp[ReflectliteValue.elem,loadVar,isAgg,underlying,Tryz.underlying278,ha,Result.andThen,z8Q,q4i]
theorem q5x (v x:Value):ReflectliteValue.set #[v,x]=(do
  let(some (dst,a,fl),some (src,b,_)):=(←ReflectliteValue.parts v,←ReflectliteValue.parts x)
   | unsupported (.noEntry "extern/(internal/reflectlite.Value).Set.zeroValue")
  if fl / ReflectliteValue.flagAddr % 2 == 0 then unsupported (.noEntry "extern/(internal/reflectlite.Value).Set.unaddressable")
  let val←loadVar src b
  if←Rtype.directlyAssignable dst src then storeVar dst a val
  else if←Rtype.implements dst src then
   if(←Rtype.kind src)==20 then
    match val with
    | .nilIface => unsupported (.noEntry "extern/reflectlite: a nil value of one interface type handed on as a value of another")
    |_=>storeVar dst a val
   else storeVar dst a (.iface src val)
  else panicString ("reflectlite.Set: value of type " ++ (← Rtype.spelt src) ++ " is not assignable to type " ++ (← Rtype.spelt dst))
  pure (.tuple #[])):=rfl
theorem z8R(a:Addr)(w:World):(ReflectliteValue.parts (.agg #[.pointer (some ⟨2,273,none⟩),.pointer (some a),.int .u64 409])).run Sl w=.ok (some (273,a,409)) w:=by kernel_rfl
theorem z9Z(a:Addr)(w:World):(ReflectliteValue.parts (.agg #[.pointer (some ⟨2,273,none⟩),.pointer (some a),.int .u64 153])).run Sl w=.ok (some (273,a,153)) w:=by kernel_rfl
theorem z8S(w:World):(Rtype.directlyAssignable 273 273).run Sl w=.ok true w:=by kernel_rfl
theorem z6W(w:World):(sizeOf 273).run Sl w=.ok 1 w:=by kernel_rfl
theorem q6n(b:Addr)(c:Int)(W:World)(hb:W.cell? b=some (.int .i64 c)):(loadVar 273 b).run Sl W=.ok (.agg #[.int .i64 c]) W:=by
 have h1:(loadCells b 1).run Sl W=.ok #[.int .i64 c] W:=run_loadCells_list (P:=Sl) (w:=W) b [.int .i64 c] (fun j v hj=>by
  match j,hj with
  | 0,hj=>simp at hj;subst hj;simpa [Addr.add] using hb)
 unfold loadVar;simp only[Sem.run_bind];have h2:(isAgg 273).run Sl W=.ok true W:=by simp[isAgg,underlying,Tryz.underlying273,Result.andThen]
 rw[h2];simp[Result.andThen,z6W,h1]
theorem q6o(ta:Addr)(c:Int)(old:Value)(W:World)(ht:W.cell? ta=some old)(hf:W.frozen? ta=false):(storeVar 273 ta (.agg #[.int .i64 c])).run Sl W=.ok () (W.setCell ta (.int .i64 c)):=by
 unfold storeVar;simp[z6W,Value.cells,storeCells,Result.andThen,Addr.add];rw[run_store Sl W ta _ _ (by rfl)];simp[ht,hf]
theorem q2T(ta b:Addr)(c:Int)(old:Value)(W:World)(hb:W.cell? b=some (.int .i64 c))(ht:W.cell? ta=some old)(hf:W.frozen? ta=false):
  (ReflectliteValue.set #[.agg #[.pointer (some ⟨2,273,none⟩),.pointer (some ta),.int .u64 409],.agg #[.pointer (some ⟨2,273,none⟩),.pointer (some b),.int .u64 153]]).run Sl W
   =.ok (.tuple #[]) (W.setCell ta (.int .i64 c)):=by
 rw[q5x];simp only[Sem.run_bind,z8R,z9Z,Result.andThen];simp[ReflectliteValue.flagAddr,Result.andThen,z8S,q6n b c W hb,q6o ta c old W ht hf]
theorem q6p(c:Int)(t:Addr)(old:Value)(w:World)(hg:w.cell? ⟨0,0,none⟩=some (.iface 342 (.agg #[.pointer (some ⟨2,236,none⟩)])))(ht0:w.cell? t=some old)(hf0:w.frozen? t=false):
  Calls Sl 203 #[.iface 273 (.agg #[.int .i64 c]),.iface 278 (.pointer (some t))] w fun ev w'=>ev=.returned (.bool true)∧w'=((((w.alloc (.cells #[.pointer (some t)] 278)).alloc (.cells #[.pointer (some ⟨2,278,none⟩),.pointer (some ⟨w.heap.size,0,none⟩),.int .u64 150] 311)).alloc (.cells #[.pointer (some ⟨2,278,none⟩),.pointer (some ⟨w.heap.size,0,none⟩),.int .u64 150] 311)).alloc (.cells #[.int .i64 c] 273)).setCell t (.int .i64 c):=by
 have h6:=@run_callFunc_extern Sl 233 _ (fun args=>ReflectliteValue.unpack (args.getD 0 (.tuple #[]))) func233 (by kernel_rfl) (by kernel_rfl) (by kernel_rfl) (by kernel_rfl);have h7 := @run_callFunc_extern Sl 234 _ (ReflectliteValue.methodAny (ReflectliteValue.valueError "reflectlite.Value.Type" 0) (fun t _ _ _ => ReflectliteType.toType t)) func234 (by kernel_rfl) (by kernel_rfl) (by kernel_rfl) (by kernel_rfl)
 have h8 := @run_callFunc_extern Sl 235 _ (ReflectliteValue.method (ReflectliteValue.valueError "reflectlite.Value.IsNil" 0) ReflectliteValue.isNil) func235 (by kernel_rfl) (by kernel_rfl) (by kernel_rfl) (by kernel_rfl)
 have h27:=@run_callFunc_extern Sl 288 _ (ReflectliteType.abiMethod fun t=>do pure (.int .u8 (←Rtype.kind t))) func288 (by kernel_rfl) (by kernel_rfl) (by kernel_rfl) (by kernel_rfl);have h37:=@run_callFunc_extern Sl 301 _ (ReflectliteType.method ReflectliteType.elem) func301 (by kernel_rfl) (by kernel_rfl) (by kernel_rfl) (by kernel_rfl);have h38 := @run_callFunc_extern Sl 302 _ (ReflectliteType.relation "Implements" ReflectliteType.implements_) func302 (by kernel_rfl) (by kernel_rfl) (by kernel_rfl) (by kernel_rfl)
 have h10:=@run_callFunc_extern Sl 250 _ ReflectliteType.typeOf func250 (by kernel_rfl) (by kernel_rfl) (by kernel_rfl) (by kernel_rfl);have h35 := @run_callFunc_extern Sl 299 _ (ReflectliteType.relation "AssignableTo" ReflectliteType.assignableTo) func299 (by kernel_rfl) (by kernel_rfl) (by kernel_rfl) (by kernel_rfl)
 have h11 := @run_callFunc_extern Sl 251 _ (ReflectliteValue.method (ReflectliteValue.valueError "reflectlite.Value.Elem" 0) ReflectliteValue.elem) func251 (by kernel_rfl) (by kernel_rfl) (by kernel_rfl) (by kernel_rfl)
 have h12:=@run_callFunc_extern Sl 252 _ ReflectliteValue.set func252 (by kernel_rfl) (by kernel_rfl) (by kernel_rfl) (by kernel_rfl);have tO:=z8P;have mA:=z2A;have a25:=z5c;have v25:=z7M;have f6:=z7L;have f7:=q1v;have mK:=z6z;have mE:=z6A;have mI:=z3m;have k27:=q1w;have k25:=q1x;have e27:=q1y;have i25:=z5b;have n8:=z9X ⟨w.heap.size,0,none⟩ t ((w.alloc (.cells #[.pointer (some t)] 278)).alloc (.cells #[.pointer (some ⟨2,278,none⟩),.pointer (some ⟨w.heap.size,0,none⟩),.int .u64 150] 311)) (by simp);have hlt:0<w.heap.size:=World.block_lt_of_cell? w _ hg;have hg2:((w.alloc (.cells #[.pointer (some t)] 278)).alloc (.cells #[.pointer (some ⟨2,278,none⟩),.pointer (some ⟨w.heap.size,0,none⟩),.int .u64 150] 311)).cell? ⟨0,0,none⟩=some (.iface 342 (.agg #[.pointer (some ⟨2,236,none⟩)])):=by
  rw[World.cell?_alloc_lt _ _ ⟨0,0,none⟩ (by simp only[World.size_alloc];omega),World.cell?_alloc_lt _ _ ⟨0,0,none⟩ hlt];exact hg
 have htl:t.block<w.heap.size:=by
  rcases Nat.lt_or_ge t.block w.heap.size with h|h
  ·exact h
  ·simp[World.cell?,Array.getElem?_eq_none h]at ht0
 have el:=z9Y ⟨w.heap.size,0,none⟩ t (((w.alloc (.cells #[.pointer (some t)] 278)).alloc (.cells #[.pointer (some ⟨2,278,none⟩),.pointer (some ⟨w.heap.size,0,none⟩),.int .u64 150] 311)).alloc (.cells #[.pointer (some ⟨2,278,none⟩),.pointer (some ⟨w.heap.size,0,none⟩),.int .u64 150] 311)) (by rw[World.cell?_alloc_lt _ _ ⟨w.heap.size,0,none⟩ (by simp;omega)];simp);have st:=q2T t ⟨w.heap.size+1+1+1,0,none⟩ c old ((((w.alloc (.cells #[.pointer (some t)] 278)).alloc (.cells #[.pointer (some ⟨2,278,none⟩),.pointer (some ⟨w.heap.size,0,none⟩),.int .u64 150] 311)).alloc (.cells #[.pointer (some ⟨2,278,none⟩),.pointer (some ⟨w.heap.size,0,none⟩),.int .u64 150] 311)).alloc (.cells #[.int .i64 c] 273))
  (by rw[World.cell?_alloc_at _ _ _ _ (by simp)];rfl)
  (by rw[World.cell?_alloc_lt _ _ t (by simp;omega),World.cell?_alloc_lt _ _ t (by simp;omega),World.cell?_alloc_lt _ _ t (by simp;omega),World.cell?_alloc_lt _ _ t htl];exact ht0)
  (by rw[World.frozen?_alloc_old _ _ t (by simp;omega),World.frozen?_alloc_old _ _ t (by simp;omega),World.frozen?_alloc_old _ _ t (by simp;omega),World.frozen?_alloc_old _ _ t (Nat.ne_of_lt htl)];exact hf0)
 go_enter func203,ntmps203
 go_wp2
 refine wp_loop_rounds 1 ?_;rw[rounds_succ]
 go_wp2
 go_ret;exact⟨rfl,rfl⟩
def ErrT(w:World):Prop:=w.cell? ⟨0,0,none⟩=some (.iface 342 (.agg #[.pointer (some ⟨2,236,none⟩)]))
theorem ErrT.below{w w':World}(h:ErrT w)(hb:Below w.heap.size w w'):ErrT w':=by
 have hlt:0<w.heap.size:=World.block_lt_of_cell? w _ h;exact(hb.cell (p:=⟨0,0,none⟩) hlt).trans h
theorem q1z(w:World):Calls Sl 164 #[.nilIface] w fun e w'=>e=.returned (.int .i64 0)∧Below w.heap.size w w':=by
 have hB:Below w.heap.size w (w.alloc (.cells #[.int .i64 0] 273)):=by go_grown
 go_enter func164,ntmps164
 go_wp2_with fail
 refine(q6m _ _).mono ?_;rintro e w1 ⟨rfl,rfl⟩
 go_wp2
 go_ret;exact⟨rfl,hB⟩
theorem q1A(c:Int)(w:World)(hg:ErrT w):Calls Sl 164 #[.iface 273 (.agg #[.int .i64 c])] w fun e w'=>e=.returned (.int .i64 c)∧Below w.heap.size w w':=by
 have hB:Below w.heap.size w (w.alloc (.cells #[.int .i64 0] 273)):=by go_grown
 have B:=Blk.new w 273 #[.int .i64 0];have h0:=B.cell 0 _ rfl;have hf:=B.frozen 0;have hlt:=B.lt;go_enter func164,ntmps164
 go_wp2_with fail
 have hg':=hg.below hB;generalize w.alloc (.cells #[.int .i64 0] 273)=W at*;generalize hgs:w.heap.size=g at*;refine(q6p c ⟨g,0,none⟩ (.int .i64 0) W hg' h0 hf).mono ?_;rintro e w1 ⟨rfl,rfl⟩;have hb2:Below W.heap.size W ((((W.alloc (.cells #[.pointer (some ⟨g,0,none⟩)] 278)).alloc (.cells #[.pointer (some ⟨2,278,none⟩),.pointer (some ⟨W.heap.size,0,none⟩),.int .u64 150] 311)).alloc (.cells #[.pointer (some ⟨2,278,none⟩),.pointer (some ⟨W.heap.size,0,none⟩),.int .u64 150] 311)).alloc (.cells #[.int .i64 c] 273)):=by go_grown
 have B2:=B.below hb2;have hB2:=hB.trans (hb2.mono (by rw[←hgs];exact hB.size));generalize (((W.alloc (.cells #[.pointer (some ⟨g,0,none⟩)] 278)).alloc (.cells #[.pointer (some ⟨2,278,none⟩),.pointer (some ⟨W.heap.size,0,none⟩),.int .u64 150] 311)).alloc (.cells #[.pointer (some ⟨2,278,none⟩),.pointer (some ⟨W.heap.size,0,none⟩),.int .u64 150] 311)).alloc (.cells #[.int .i64 c] 273)=W2 at*;have c3:(W2.setCell ⟨g,0,none⟩ (.int .i64 c)).cell? ⟨g,0,none⟩=some (.int .i64 c):=by
  have:W2.heap[g]?=some (.cells #[.int .i64 0] 273 (0,0)):=B2;simp[World.cell?,World.setCell,Array.getElem?_modify,this]
 have hB3:Below g w (W2.setCell ⟨g,0,none⟩ (.int .i64 c)):=hB2.setCell (p:=⟨g,0,none⟩) (Vc _) _;generalize W2.setCell ⟨g,0,none⟩ (.int .i64 c)=W3 at*
 go_wp2
 go_ret;exact⟨rfl,by rw[hgs];exact hB3⟩
end
def InstQ.setR(q:InstQ)(r n:Nat)(x:Int)(hr:r<q.rounds.length):InstQ:=⟨q.has,q.vb,q.batch,q.vr,q.rounds.set r ⟨q.rounds[r].vr,q.rounds[r].rep.set n x,q.rounds[r].vp,q.rounds[r].pro⟩,q.vd,q.dec⟩
theorem z8T{w w':World}{b o:Nat}{v:Value}(h:w.cell? ⟨b,o,none⟩=some v)(hb:Below w.heap.size w w'):w'.cell? ⟨b,o,none⟩=some v:=by
 have hlt:b<w.heap.size:=by
  rcases Nat.lt_or_ge b w.heap.size with h1|h1
  ·exact h1
  ·exfalso
   have:w.heap[b]?=none:=Array.getElem?_eq_none h1;simp[World.cell?,this]at h
 rw[hb.cell (p:=⟨b,o,none⟩) hlt];exact h
theorem z8U{P:Type}(nm:P→Nat)(c:Nat)(ps:List P)(h:∀p∈ps,nm p≤c):nmL nm ps≤ps.length*c:=by
 induction ps with
 |nil=>simp[nmL]
 |cons p t ih=>
  have h1:=h p (by simp);have h2:=ih (fun q hq=>h q (List.mem_cons_of_mem _ hq));simp only[nmL,List.map_cons,List.sum_cons,List.length_cons]at h2⊢;rw[Nat.add_mul];omega
theorem q0C{ds:List TxnD}(h:allF ds=0):∀d∈ds,d.F=0:=by
 induction ds with
 |nil=>intro d hd;simp at hd
 |cons x r ih=>
  intro d hd;simp only[allF]at h;by_cases hx:x.F=0
  ·rw[if_pos hx]at h;rcases List.mem_cons.1 hd with rfl|hd
   ·exact hx
   ·exact ih h d hd
  ·rw[if_neg hx]at h;exact absurd h hx
theorem q1B{d:TxnD}(h:d.F=0):d.acts.length≤4:=by
 unfold TxnD.F txnF at h;split at h
 ·omega
 ·split at h
  ·omega
  ·omega
theorem z8V{ds:List TxnD}(h:batF ds=0):q07 ds≤20:=by
 unfold batF at h;split at h
 ·omega
 ·rename_i hl
  have ha:allF ds=0:=by
   split at h
   ·assumption
   ·exact h
  have:=z8U TxnD.n 4 ds (fun d hd=>q1B (q0C ha d hd));unfold q07;omega
theorem z8W{x:InstE}(h:insF x=0):InstE.n x≤60:=by
 obtain⟨hw,⟨_,h4⟩,hd,_⟩:=z8A h;obtain⟨h6,_⟩:=z1Z h;obtain⟨_,_,_,h7,h8⟩:=z1r h6;have hb:q07 x.batch≤20:=by
  cases hh:x.has with
  |true=>exact z8V (h8 hh)
  |false=>rw[h7 hh];simp[q07,nmL]
 have hr:=z8U RoundE.n 6 x.rounds (fun r hr=>by
  have:=hw r hr;unfold RoundE.n;omega)
 unfold InstE.n z9o;omega
def dfC(ds:List InstE)(n:Int):Int:=if ordF ds=0 then(if 0≤n∧n≤(decN ds:Int)then 0 else 3)else ordF ds
def dfT(ds:List InstE)(n:Int):List TxnD:=if dfC ds n=0 then defL ds n.toNat else []
theorem z90(ds:List InstE)(n:Int):(ordF ds≠0∧dfC ds n=ordF ds∧dfT ds n=[])∨(ordF ds=0∧¬(0≤n∧n≤(decN ds:Int))∧dfC ds n=3∧dfT ds n=[])∨(ordF ds=0∧(0≤n∧n≤(decN ds:Int))∧dfC ds n=0∧dfT ds n=defL ds n.toNat):=by
 unfold dfT dfC;by_cases h0:ordF ds=0
 ·by_cases h1:0≤n∧n≤(decN ds:Int)
  ·right;right;refine⟨h0,h1,?_,?_⟩
   ·rw[if_pos h0,if_pos h1]
   ·rw[if_pos h0,if_pos h1,if_pos rfl]
  ·right;left;refine⟨h0,h1,?_,?_⟩
   ·rw[if_pos h0,if_neg h1]
   ·rw[if_pos h0,if_neg h1,if_neg (by decide)]
 ·left;simp[h0]
theorem q62{p:InstQ}(h:insF (Vb p)=0):p.batch.length≤4:=by
 obtain⟨h0,_⟩:=z1Z h;obtain⟨_,_,_,hb0,hb1⟩:=z1r h0
 cases hh:(Vb p).has with
 |false=>
  have:=hb0 hh;have h2:p.batch.map Va=[]:=this;have:p.batch=[]:=by simpa using h2
  rw[this];simp
 |true=>
  have:=hb1 hh;unfold batF at this;by_cases hl:(Vb p).batch.length<1∨4<(Vb p).batch.length
  ·rw[if_pos hl]at this;exact absurd this (by decide)
  ·have h2:(Vb p).batch.length=p.batch.length:=by show(p.batch.map Va).length=_;simp
   omega
theorem z2q(v:Value)(zs:List Int)(w:World)(h:intK.At w v zs)(h0:0<zs.length)(hl:zs.length≤1048576):
  Calls Sl 131 #[v] w fun e w'=>∃a c,e=.returned (Q a zs.length c)∧intK.Own w' (Q a zs.length c) zs∧(∀k∈intK.fp (Q a zs.length c) zs,w.heap.size≤k)∧Below w.heap.size w w':=by
 obtain⟨a,cap,rfl⟩:=h.shape;have hR:=(z0P h).2;obtain⟨b,off,rfl,_⟩:=hR 0 h0;refine(z6O b off cap zs w hR h0 hl).mono ?_;rintro e w2 ⟨a2,c2,rfl,ho,hb⟩;obtain⟨O,G⟩:=z7q rfl ho;exact⟨a2,c2,rfl,O,G,hb⟩
theorem z5X(v:Value)(ps:List RoundQ)(w:World)(h:roundK.At w v ps)(ar:∀p∈ps,0<p.rep.length∧0<p.pro.length)(hl:ps.length+nmL RoundQ.n ps≤1048576):
  Calls Sl 130 #[v] w fun e w'=>∃v' qs,e=.returned v'∧qs.map RoundQ.e=ps.map RoundQ.e∧roundK.Own w' v' qs∧(roundK.fp v' qs).Nodup∧(∀k∈roundK.fp v' qs,w.heap.size≤k)∧Below w.heap.size w w':=by
 obtain⟨a,cap,rfl⟩:=h.shape;obtain⟨i0,hi,az,aA,aB⟩:=info_parts z3R;obtain⟨ah,ai⟩:=Kind.own_nil (K:=roundK) w;have ab:Hid ((roundK.fp (Q none 0 0) ([]:List RoundQ)).Nodup∧∀k∈roundK.fp (Q none 0 0) ([]:List RoundQ),w.heap.size≤k):=by
  rw[ai];exact⟨by simp,by simp⟩
 clear ai;go_enter func130,ntmps130
 go_wp2
 go_loopw[3,8] (fun v j wr=>∃ (k:Nat) (qs:List RoundQ),k≤ps.length∧j=.int .i64 k∧Hid (qs.map RoundQ.e=(ps.take k).map RoundQ.e)∧roundK.Own wr v qs∧Hid ((roundK.fp v qs).Nodup∧∀k∈roundK.fp v qs,w.heap.size≤k)∧Below w.heap.size w wr) (fun _ j _=>ps.length-(intOf j).toNat)
 case atStart=>exact⟨0,[],Vd _,rfl,(rfl:_=_),ah,ab,Below.refl _ _⟩
 case round=>
  clear ab ah;obtain⟨k,qs,hk,rfl,HE,hO,HN,hb⟩:=hrel;obtain⟨sa,sc,rfl⟩:=hO.shape;have ae:Hid (qs.length=k):=by
   have:=congrArg List.length HE.out;rw[Ve,Ve,List.length_take]at this;show qs.length=k;omega
  by_cases L:k<ps.length
  ·obtain⟨b,aC,rfl,aE,hc,aw⟩:=(h.below hb).cell (by decide) k L;have Y:∀j x,(roundK.cells ps[k])[j]?=some x→wr.cell? ⟨b,aC+k*2+j,none⟩=some x:=hc;have c0:=Y 0 (ps[k].vr) rfl;have c1:=Y 1 (ps[k].vp) rfl;have al:=z01 RoundQ.n ps k L;have C:=ar _ (List.getElem_mem L);have ad:Hid (∀p':RoundQ,p'.e=RoundQ.e ps[k]→(qs++[p']).map RoundQ.e=(ps.take (k+1)).map RoundQ.e):=fun p' av=>by
    rw[List.take_succ_eq_append_getElem L,List.map_append,List.map_append,HE.out,List.map_singleton,List.map_singleton,av]
   clear hc Y;generalize ps[k]=p at*;obtain⟨vr,rp,vp,pp⟩:=p;obtain⟨r1,r2⟩:intK.At wr vr rp∧intK.At wr vp pp:=aw;replace al:rp.length+pp.length≤nmL RoundQ.n ps:=al;obtain⟨ra,rk,rfl⟩:=r1.shape;obtain⟨pa,pk,rfl⟩:=r2.shape;dsimp only at c0 c1 C;have c:Below wr.heap.size wr (wr.alloc (.cells #[Q ra rp.length rk,Q pa pp.length pk] 138)):=by go_grown
   have E:=Blk.new wr 138 #[Q ra rp.length rk,Q pa pp.length pk];have HF:Hid (∀x∈roundK.fp (Q sa qs.length sc) qs,x<wr.heap.size):=hO.lt;rw[Nat.add_zero]at c0;replace hO:=hO.below c;have r3:=r1.below c;have r4:=r2.below c;have I:=hb.trans (c.mono hb.size);have M:=fun w h=>z2q (Q ra rp.length rk) rp w h C.1 (by omega)
   have N:=fun w h=>z2q (Q pa pp.length pk) pp w h C.2 (by omega)
   clear HE
   go_wp2_with fail
   clear c0 c1 r1 r2 hb;generalize wr.alloc (.cells #[Q ra rp.length rk,Q pa pp.length pk] 138)=W3 at*;clear c;have hF:wr.heap.size∉blk (Q sa qs.length sc):=fun hx=>by
    have:=HF.out _ (by simp only[Kind.fp,List.mem_append];exact Or.inl hx);omega
   have p0:=z0k (F:=blk (Q sa qs.length sc)) (E.cell 0 _ rfl) hF;have p1:=z0k (F:=blk (Q sa qs.length sc)) (E.cell 1 _ rfl) hF;have au:Nonempty (LatO (blk (Q sa qs.length sc)) W3):=⟨⟨W3,Out.refl _ _⟩⟩
   have hW:Below W3.heap.size W3 W3.drew:=(Below.refl _ _).drew;have z:∀w',Below W3.heap.size W3 w'→∃u:LatO (blk (Q sa qs.length sc)) W3,w'=u.val:=fun w' ax=>⟨⟨w',Out.of_below ax⟩,rfl⟩
   refine z0b (S:=fun w'=>∃u:LatO (blk (Q sa qs.length sc)) W3,w'=u.val) (by kernel_rfl) ?_;refine sgr [(0,3),(4,2)] 6 (by kernel_rfl) (z _ hW) ?_;simp only[pkE];repeat go_big_quiet_step (fail)
   refine wpQuiet_nil ?_;refine cla 3 (some 15) 131 #[Q ra rp.length rk] 5 (by kernel_rfl) ?_;refine(M _ (r3.below hW)).mono ?_;rintro e w8 ⟨a1,c1,rfl,o1,g1,ag⟩;have L1:∀x∈intK.fp (Q a1 rp.length c1) rp,W3.heap.size≤x:=fun x hx=>by have:=g1 x hx;have:=hW.size;omega
   have M1:=o1.lt;replace hW:=hW.trans (ag.mono hW.size);clear ag g1;refine⟨_,rfl,z _ hW,?_⟩;simp only[Vf,pjE];refine cla 6 (some 18) 131 #[Q pa pp.length pk] 4 (by kernel_rfl) ?_;refine(N _ (r4.below hW)).mono ?_;rintro e w9 ⟨a2,c2,rfl,o2,g2,d⟩;have L2:∀x∈intK.fp (Q a2 pp.length c2) pp,W3.heap.size≤x:=fun x hx=>by have:=g2 x hx;have:=hW.size;omega
   have O:∀x∈intK.fp (Q a1 rp.length c1) rp,∀y∈intK.fp (Q a2 pp.length c2) pp,x≠y:=fun x hx y hy e=>by have:=M1 x hx;have:=g2 y hy;omega
   replace hW:=hW.trans (d.mono hW.size);replace o1:=o1.below d;clear d g2 M1 M N r3 r4;refine⟨_,rfl,z _ hW,?_⟩;simp only[Vf,pjE];refine qta 7 (some 19) (.agg #[Q a1 rp.length c1,Q a2 pp.length c2]) 3 (by kernel_rfl) (fun u _=>by kernel_rfl) (z _ hW) ?_;simp only[Vf,pjE];refine ona 8 2 rfl (by kernel_rfl) ?_;have J:Below w9.heap.size w9 (w9.alloc (.cells #[Q a1 rp.length c1,Q a2 pp.length c2] 138)):=by go_grown
   replace hW:=hW.trans (J.mono hW.size);replace o1:=o1.below J;replace o2:=o2.below J;have V:∀j u,[Value.slice a1 rp.length c1,Q a2 pp.length c2][j]?=some u→(w9.alloc (.cells #[Q a1 rp.length c1,Q a2 pp.length c2] 138)).cell? ((⟨w9.heap.size,0,none⟩:Addr).add j)=some u:=by
    intro j u hj;match j,hj with|0,hj=>simp at hj;subst hj;simp[Addr.add]|1,hj=>simp at hj;subst hj;simp[Addr.add]
   go_wp2
   refine ThenGo.to ⟨z _ hW,?_⟩;generalize w9.alloc (.cells #[Q a1 rp.length c1,Q a2 pp.length c2] 138)=Z at*;clear J;have W:=hO.below hW;have d:=I.trans (hW.mono I.size);have D:=W.1;refine ona 9 1 rfl (by kernel_rfl) ?_;refine wpList_append_own_at _ rfl _ _ 61 rfl 0 138 i0 (.agg #[Q none 0 0,Q none 0 0]) 2 48 Tryz.underlying61 hi az aA aB rfl (by decide) _ qs.length (roundK.row qs) rfl D ⟨w9.heap.size,0,none⟩ 1 1 [Q a1 rp.length c1,Q a2 pp.length c2] rfl rfl V ?c2 ?c3 ?c4 ?c5 ?_
   case c2=>intro u hu;simp at hu;rcases hu with rfl|rfl<;>rfl
   case c3=>have:=ae.out;unfold maxLen;omega
   case c4=>have:=ae.out;omega
   case c5=>omega
   intro v' w5 U A ak af;clear ak D V;have aD:wr.heap.size≤W3.heap.size:=by have:=E.lt;omega
   obtain ⟨ao,aj,T,aa⟩:=W.snoc (p:=⟨Q a1 rp.length c1,rp,Q a2 pp.length c2,pp⟩) HN.out.1 HN.out.2 ⟨o1,o2⟩ (List.nodup_append.2 ⟨z1d _ _,z1d _ _,O⟩) (fun x hx ay => by
    have:=HF.out x ay;rcases List.mem_append.1 hx with hx|hx
    ·have:=L1 x hx;omega
    ·have:=L2 x hx;omega) (fun x hx=>by
    have:=I.size;rcases List.mem_append.1 hx with hx|hx
    ·have:=L1 x hx;omega
    ·have:=L2 x hx;omega) d.size U A af
   have ap:Below w.heap.size w w5:=Out.keep d aa d.size (fun x hx=>HN.out.2 x (by simp only[Kind.fp,List.mem_append];exact Or.inl hx));have X:Out (blk (Q sa qs.length sc)) W3 w5:=(Out.of_below hW).trans aa;have am:Hid ((qs++[(⟨Q a1 rp.length c1,rp,Q a2 pp.length c2,pp⟩:RoundQ)]).map RoundQ.e=(ps.take (k+1)).map RoundQ.e):=ad.out _ rfl;have an:Hid ((roundK.fp v' (qs++[(⟨Q a1 rp.length c1,rp,Q a2 pp.length c2,pp⟩:RoundQ)])).Nodup∧∀k∈roundK.fp v' (qs++[(⟨Q a1 rp.length c1,rp,Q a2 pp.length c2,pp⟩:RoundQ)]),w.heap.size≤k):=⟨aj,T⟩
   clear aj T aa ad HN HF o1 o2 L1 L2 O U A af W hO d I
   go_wp2
   refine ThenGo.to ⟨⟨⟨_,X⟩,rfl⟩,?_⟩;simp only[Vf,pgE,pjE];refine sgr [(10,1)] 0 (by kernel_rfl) ⟨⟨_,X⟩,rfl⟩ ?_;simp only[pkE];repeat go_big_quiet_step (fail)
   refine wpQuiet_nil ?_;refine z0g (by kernel_rfl) ?_;clear p0 p1 au hW X z E hF
   go_wp2
   go_roundw
   case rel=>exact⟨k+1,_,by omega,by go_num,am,ao,an,ap⟩
   case measure=>simp[intOf];omega
  ·have aq:k=ps.length:=by omega
   subst aq;have hE:=HE.out;rw[List.take_length]at hE;clear HE
   go_wp2
   go_ret;exact⟨_,qs,rfl,hE,hO,HN.out.1,HN.out.2,hb⟩
theorem z4F(p:InstQ)(w:World)(h:instK.rd w p)(hl:p.n≤1048576)(N:∀t∈p.batch,0<t.acts.length)(O:∀r∈p.rounds,0<r.rep.length∧0<r.pro.length)(M:0<p.dec.length):
  Calls Sl 77 #[.agg #[.bool p.has,p.vb,p.vr,p.vd]] w fun e w'=>∃q:InstQ,e=.returned (.agg #[.bool q.has,q.vb,q.vr,q.vd])∧q.e=p.e∧instK.own w' q∧(instK.foot q).Nodup∧(∀k∈instK.foot q,w.heap.size≤k)∧Below w.heap.size w w':=by
 obtain⟨has,vb,d,vr,c,vd,dec⟩:=p;obtain⟨h1,h2,h3⟩:txnK.At w vb d∧roundK.At w vr c∧intK.At w vd dec:=h;dsimp only[InstQ.n]at hl N O M;have I:=fun w hT=>z1s vb d w hT N (by omega)
 have J:=fun w hT=>z5X vr c w hT O (by omega)
 have L:=fun w hT=>z2q vd dec w hT M (by omega)
 obtain⟨ba,bk,rfl⟩:=h1.shape;obtain⟨va,vk,rfl⟩:=h2.shape;obtain⟨da,dk,rfl⟩:=h3.shape;have z:Below w.heap.size w ((w.alloc (.cells #[.bool has,Q ba d.length bk,Q va c.length vk,Q da dec.length dk] 64)).alloc (.cells #[.bool false,Q none 0 0,Q none 0 0,Q none 0 0] 64)):=by go_grown
 have B:=(Blk.new w 64 #[.bool has,Q ba d.length bk,Q va c.length vk,Q da dec.length dk]).below (w':=((w.alloc (.cells #[.bool has,Q ba d.length bk,Q va c.length vk,Q da dec.length dk] 64)).alloc (.cells #[.bool false,Q none 0 0,Q none 0 0,Q none 0 0] 64))) (by go_grown);have R:=Blk.new (w.alloc (.cells #[.bool has,Q ba d.length bk,Q va c.length vk,Q da dec.length dk] 64)) 64 #[.bool false,Q none 0 0,Q none 0 0,Q none 0 0];rw[World.size_alloc]at R;go_enter func77,ntmps77
 go_wp2_with fail
 have ag:w.heap.size+2≤((w.alloc (.cells #[.bool has,Q ba d.length bk,Q va c.length vk,Q da dec.length dk] 64)).alloc (.cells #[.bool false,Q none 0 0,Q none 0 0,Q none 0 0] 64)).heap.size:=by simp
 generalize ((w.alloc (.cells #[.bool has,Q ba d.length bk,Q va c.length vk,Q da dec.length dk] 64)).alloc (.cells #[.bool false,Q none 0 0,Q none 0 0,Q none 0 0] 64))=W at*;have hF:w.heap.size∉[w.heap.size+1]:=by simp
 have p0:=z0k (F:=[w.heap.size+1]) (B.cell 0 _ rfl) hF;have p1:=z0k (F:=[w.heap.size+1]) (B.cell 1 _ rfl) hF;have p2:=z0k (F:=[w.heap.size+1]) (B.cell 2 _ rfl) hF;have p3:=z0k (F:=[w.heap.size+1]) (B.cell 3 _ rfl) hF;have aa:Nonempty (LatO [w.heap.size+1] W):=⟨⟨W,Out.refl _ _⟩⟩
 have hW:Below W.heap.size W W.drew:=(Below.refl _ _).drew;have A:∀w',Below W.heap.size W w'→∃u:LatO [w.heap.size+1] W,w'=u.val:=fun w' ab=>⟨⟨w',Out.of_below ab⟩,rfl⟩
 refine z0b (S:=fun w'=>∃u:LatO [w.heap.size+1] W,w'=u.val) (by kernel_rfl) ?_;refine sgr [(0,4),(5,2),(8,2)] 5 (by kernel_rfl) (A _ hW) ?_;simp only[pkE];repeat go_big_quiet_step (fail)
 refine wpQuiet_nil ?_;refine cla 4 (some 7) 86 #[Q ba d.length bk] 4 (by kernel_rfl) ?_;refine(I _ (h1.below (z.trans (hW.mono z.size)))).mono ?_;rintro e w1 ⟨v1,q1,rfl,e1,o1,n1,g1,hb⟩;have L1:∀x∈txnK.fp v1 q1,W.heap.size≤x:=fun x hx=>by have:=g1 x hx;have:=hW.size;omega
 have M1:=o1.lt;replace hW:=hW.trans (hb.mono hW.size);clear hb g1;refine⟨_,rfl,A _ hW,?_⟩;simp only[Vf,pjE];refine cla 7 (some 10) 130 #[Q va c.length vk] 3 (by kernel_rfl) ?_;refine(J _ (h2.below (z.trans (hW.mono z.size)))).mono ?_;rintro e w2 ⟨v2,q2,rfl,e2,o2,n2,g2,hb⟩;have L2:∀x∈roundK.fp v2 q2,W.heap.size≤x:=fun x hx=>by have:=g2 x hx;have:=hW.size;omega
 have U:∀x∈txnK.fp v1 q1,∀y∈roundK.fp v2 q2,x≠y:=fun x hx y hy e=>by have:=M1 x hx;have:=g2 y hy;omega
 have M2:=o2.lt;have T:=hb.size;replace o1:=o1.below hb;replace hW:=hW.trans (hb.mono hW.size);clear hb g2;refine⟨_,rfl,A _ hW,?_⟩;simp only[Vf,pjE];refine cla 10 (some 13) 131 #[Q da dec.length dk] 2 (by kernel_rfl) ?_;refine(L _ (h3.below (z.trans (hW.mono z.size)))).mono ?_;rintro e w3 ⟨a3,c3,rfl,o3,g3,hb⟩;have L3:∀x∈intK.fp (Q a3 dec.length c3) dec,W.heap.size≤x:=fun x hx=>by have:=g3 x hx;have:=hW.size;omega
 have V:∀x∈txnK.fp v1 q1,∀y∈intK.fp (Q a3 dec.length c3) dec,x≠y:=fun x hx y hy e=>by have:=M1 x hx;have:=g3 y hy;omega
 have X:∀x∈roundK.fp v2 q2,∀y∈intK.fp (Q a3 dec.length c3) dec,x≠y:=fun x hx y hy e=>by have:=M2 x hx;have:=g3 y hy;omega
 replace o1:=o1.below hb;replace o2:=o2.below hb;replace hW:=hW.trans (hb.mono hW.size);clear hb g3 M1 M2 T;obtain⟨s1,t1,rfl⟩:=o1.shape;obtain⟨s2,t2,rfl⟩:=o2.shape;refine⟨_,rfl,A _ hW,?_⟩;simp only[Vf,pjE];refine qta 11 (some 14) (.agg #[.bool has,Q s1 q1.length t1,Q s2 q2.length t2,Q a3 dec.length c3]) 1 (by kernel_rfl) (fun u _=>by kernel_rfl) (A _ hW) ?_;simp only[Vf,pjE];have R3:=R.below hW;refine ona 12 0 rfl (by kernel_rfl) ?_;have Z:=R3.row #[.bool has,Q s1 q1.length t1,Q s2 q2.length t2,Q a3 dec.length c3];have C:=z0v w3 (w.heap.size+1) #[.bool has,Q s1 q1.length t1,Q s2 q2.length t2,Q a3 dec.length c3];have E:Out [w.heap.size+1] W (w3.setRow (w.heap.size+1) #[.bool has,Q s1 q1.length t1,Q s2 q2.length t2,Q a3 dec.length c3]):=(Out.of_below hW).trans C;refine z0s (by kernel_rfl) 64 _ _ rfl _ #[.bool has,Q s1 q1.length t1,Q s2 q2.length t2,Q a3 dec.length c3] rfl rfl 64 _ R3 z7s rfl (by simp[Value.oneCell']) ?_
 go_wp2
 refine ThenGo.to ⟨⟨⟨_,E⟩,rfl⟩,?_⟩;refine z0g (by kernel_rfl) ?_;have D:∀x,W.heap.size≤x→x∉[w.heap.size+1]:=fun x hx=>by simp only[List.mem_singleton];omega
 have ad:=o1.out C (fun x hx=>D x (L1 x hx));have ae:=o2.out C (fun x hx=>D x (L2 x hx));have af:=o3.out C (fun x hx=>D x (L3 x hx));have Y:Below w.heap.size w (w3.setRow (w.heap.size+1) #[.bool has,Q s1 q1.length t1,Q s2 q2.length t2,Q a3 dec.length c3]):=z0m (z.trans (hW.mono z.size)) (by omega) _;clear p0 p1 p2 p3 aa A I J L C E o1 o2 o3 R3;generalize w3.setRow (w.heap.size+1) #[.bool has,Q s1 q1.length t1,Q s2 q2.length t2,Q a3 dec.length c3]=w4 at*;obtain⟨p0,p1,p2,p3⟩:=Z.cel4
 go_wp2
 refine bodyPost_ret (v:=.agg #[.bool has,Q s1 q1.length t1,Q s2 q2.length t2,Q a3 dec.length c3]) (by simp[results,results77,go_sem,p0,p1,p2,p3]) rfl ?_;refine⟨⟨has,Q s1 q1.length t1,q1,Q s2 q2.length t2,q2,Q a3 dec.length c3,dec⟩,rfl,?_,⟨ad,ae,af⟩,?_,?_,Y⟩
 ·simp only[Vb,e1,e2]
 ·exact List.nodup_append.2 ⟨n1,List.nodup_append.2 ⟨n2,z1d _ _,X⟩,fun x hx y hy=>by
   rcases List.mem_append.1 hy with hy|hy
   ·exact U x hx y hy
   ·exact V x hx y hy⟩
 ·intro x hx;rcases List.mem_append.1 hx with hx|hx
  ·have:=L1 x hx;omega
  ·rcases List.mem_append.1 hx with hx|hx
   ·have:=L2 x hx;omega
   ·have:=L3 x hx;omega
theorem z6B(v:Value)(ps:List InstQ)(w:World)(h:instK.At w v ps)(ah:(∀p∈ps,(∀t∈p.batch,0<t.acts.length)∧(∀r∈p.rounds,0<r.rep.length∧0<r.pro.length)∧0<p.dec.length))(hl:(ps.length+nmL InstQ.n ps)≤1048576):
  Calls Sl 42 #[v] w fun e w'=>∃v' qs,e=.returned v'∧qs.map Vb=ps.map Vb∧instK.Own w' v' qs∧(instK.fp v' qs).Nodup∧(∀k∈instK.fp v' qs,w.heap.size≤k)∧Below w.heap.size w w':=by
 obtain⟨a,cap,rfl⟩:=h.shape;obtain⟨i0,hi,ay,az,aA⟩:=info_parts z2Q;obtain⟨ai,aj⟩:=Kind.own_nil (K:=instK) w;have aa:Hid ((instK.fp (Q none 0 0) ([]:List InstQ)).Nodup∧∀k∈instK.fp (Q none 0 0) ([]:List InstQ),w.heap.size≤k):=by
  rw[aj];exact⟨by simp,by simp⟩
 have ag:Below w.heap.size w w:=Below.refl _ _;clear aj;go_enter func42,ntmps42
 go_wp2
 go_loopw[3,8] (fun v j wr=>∃ (k:Nat) (qs:List InstQ),k≤ps.length∧j=.int .i64 k∧Hid (qs.map Vb=(ps.take k).map Vb)∧instK.Own wr v qs∧Hid ((instK.fp v qs).Nodup∧∀k∈instK.fp v qs,w.heap.size≤k)∧Below w.heap.size w wr) (fun _ j _=>ps.length-(intOf j).toNat)
 case atStart=>exact⟨0,[],Vd _,rfl,(rfl:_=_),ai,aa,ag⟩
 case round=>
  clear aa ai ag;obtain⟨k,qs,hk,rfl,HE,hO,HN,hb⟩:=hrel;obtain⟨sa,sc,rfl⟩:=hO.shape;have ad:Hid (qs.length=k):=by
   have:=congrArg List.length HE.out;rw[Ve,Ve,List.length_take]at this;show qs.length=k;omega
  by_cases N:k<ps.length
  ·obtain⟨b,aC,rfl,aI,hc,E⟩:=(h.below hb).cell (by decide) k N;have C:∀j x,(instK.cells ps[k])[j]?=some x→wr.cell? ⟨b,aC+k*4+j,none⟩=some x:=hc;have c0:=C 0 (.bool ps[k].has) rfl;have c1:=C 1 ps[k].vb rfl;have c2:=C 2 ps[k].vr rfl;have c3:=C 3 ps[k].vd rfl;rw[Nat.add_zero]at c0;have aB:=z01 InstQ.n ps k N;have d:=ah _ (List.getElem_mem N);have ab:Hid (∀p':InstQ,p'.e=Vb ps[k]→(qs++[p']).map Vb=(ps.take (k+1)).map Vb):=fun p' av=>by
    rw[List.take_succ_eq_append_getElem N,List.map_append,List.map_append,HE.out,List.map_singleton,List.map_singleton,av]
   clear hc C;have O:=z4F ps[k];have X:=fun w h=>O w h (by omega) d.1 d.2.1 d.2.2
   clear O HE;generalize ps[k]=p at*;obtain⟨has,vb,z,vr,y,vd,dec⟩:=p;obtain⟨ba,bk,rfl⟩:∃a c,vb=Q a z.length c:=E.1.shape;obtain⟨va,vk,rfl⟩:∃a c,vr=Q a y.length c:=E.2.1.shape;obtain⟨da,dk,rfl⟩:∃a c,vd=Q a dec.length c:=E.2.2.shape;dsimp only at c0 c1 c2 c3 X;have M:Below wr.heap.size wr (wr.alloc (.cells #[.bool has,Q ba z.length bk,Q va y.length vk,Q da dec.length dk] 64)):=by go_grown
   have aG:=instK.rd_below E M;replace hO:=hO.below M;replace hb:=hb.trans (M.mono hb.size)
   go_wp2_with fail
   clear c0 c1 c2 c3 M;generalize wr.alloc (.cells #[.bool has,Q ba z.length bk,Q va y.length vk,Q da dec.length dk] 64)=Y at*;have Z:Hid (∀x∈instK.fp (Q sa qs.length sc) qs,x<Y.heap.size):=hO.lt;have ae:Hid (w.heap.size≤Y.heap.size):=hb.size;refine(X Y aG).mono ?_;rintro e w2 ⟨q,rfl,eq,oq,nq,gq,J⟩;replace hO:=hO.below J;replace hb:=hb.trans (J.mono hb.size);have aH:=J.size;clear X J;obtain⟨qh,aD,qb,aF,qr,aE,qd⟩:=q;obtain⟨x1,y1,rfl⟩:∃a c,aD=Q a qb.length c:=oq.1.shape;obtain⟨x2,y2,rfl⟩:∃a c,aF=Q a qr.length c:=oq.2.1.shape;obtain⟨x3,y3,rfl⟩:∃a c,aE=Q a qd.length c:=oq.2.2.shape;have A:Below w2.heap.size w2 (w2.alloc (.cells #[.bool qh,Q x1 qb.length y1,Q x2 qr.length y2,Q x3 qd.length y3] 64)):=by go_grown
   have V:=hO.below A;have af:=instK.own_out (F:=[]) oq (Out.of_below A) (fun _ _=>by simp);have L:=hb.trans (A.mono hb.size);have aq:Y.heap.size≤(w2.alloc (.cells #[.bool qh,Q x1 qb.length y1,Q x2 qr.length y2,Q x3 qd.length y3] 64)).heap.size:=by have:=A.size;omega
   clear hO oq;have I:=V.1
   go_wp2_with (at_builtin;refine wpList_append_own_at _ rfl _ _ 27 rfl 0 64 i0 (.agg #[.bool false,Q none 0 0,Q none 0 0,Q none 0 0]) 4 80 Tryz.underlying27 hi ay az aA rfl (by decide) _ qs.length (instK.row qs) rfl I ⟨w2.heap.size,0,none⟩ 1 1 [.bool qh,Q x1 qb.length y1,Q x2 qr.length y2,Q x3 qd.length y3] rfl rfl ?c1 ?c2 ?c3 ?c4 ?c5 ?_)
   all_goals try(case c1=>intro j u hj;match j,hj with|0,hj=>simp at hj;subst hj;simp[Addr.add]|1,hj=>simp at hj;subst hj;simp[Addr.add]|2,hj=>simp at hj;subst hj;simp[Addr.add]|3,hj=>simp at hj;subst hj;simp[Addr.add])
   all_goals try(case c2=>intro u hu;simp at hu;rcases hu with rfl|rfl|rfl|rfl<;>rfl)
   all_goals try(case c3=>have:=ad.out;unfold maxLen;omega)
   all_goals try(case c4=>have:=ad.out;omega)
   all_goals try(case c5=>first|omega|simp)
   intro v' w5 U D al W;clear al I;rw[show w2.heap.size+1=(w2.alloc (.cells #[.bool qh,Q x1 qb.length y1,Q x2 qr.length y2,Q x3 qd.length y3] 64)).heap.size from(World.size_alloc _ _).symm]at W;generalize aw:w2.alloc (.cells #[.bool qh,Q x1 qb.length y1,Q x2 qr.length y2,Q x3 qd.length y3] 64)=WA at*;clear aw;obtain⟨ap,ak,T,am⟩:=V.snoc (p:=(⟨qh,Q x1 qb.length y1,qb,Q x2 qr.length y2,qr,Q x3 qd.length y3,qd⟩:InstQ)) HN.out.1 HN.out.2 af nq (fun x hx ax=>by have:=Z.out x ax;have:=gq x hx;omega) (fun x hx=>by have:=gq x hx;have:=ae.out;omega) L.size U D W;have ar:Below w.heap.size w w5:=Out.keep L am L.size (fun x hx=>HN.out.2 x (by simp only[Kind.fp,List.mem_append];exact Or.inl hx));have an:Hid ((qs++[(⟨qh,Q x1 qb.length y1,qb,Q x2 qr.length y2,qr,Q x3 qd.length y3,qd⟩:InstQ)]).map Vb=(ps.take (k+1)).map Vb):=ab.out _ eq;have ao:Hid ((instK.fp v' (qs++[(⟨qh,Q x1 qb.length y1,qb,Q x2 qr.length y2,qr,Q x3 qd.length y3,qd⟩:InstQ)])).Nodup∧∀k∈instK.fp v' (qs++[(⟨qh,Q x1 qb.length y1,qb,Q x2 qr.length y2,qr,Q x3 qd.length y3,qd⟩:InstQ)]),w.heap.size≤k):=⟨ak,T⟩
   clear ab HN Z ae af V L U D W am ak T E hb A aB d aq gq nq eq
   go_wp2
   go_roundw
   case rel=>exact⟨k+1,_,by omega,by go_num,an,ap,ao,ar⟩
   case measure=>simp[intOf];omega
  ·have au:k=ps.length:=by omega
   subst au;have hE:=HE.out;rw[List.take_length]at hE;clear HE
   go_wp2
   go_ret;exact⟨_,qs,rfl,hE,hO,HN.out.1,HN.out.2,hb⟩
theorem rgtb{x:InstE}(h:insF x=0):x.has=false→x.batch=[]:=by
 obtain⟨h0,_⟩:=z1Z h;exact(z1r h0).2.2.2.1
theorem batp{p:InstQ}(h:insF (Vb p)=0)(hh:p.has=true):0<p.batch.length:=by
 obtain⟨h0,_⟩:=z1Z h;have:=(z1r h0).2.2.2.2 hh;unfold batF at this;by_cases hl:(Vb p).batch.length<1∨4<(Vb p).batch.length
 ·rw[if_pos hl]at this;exact absurd this (by decide)
 ·have h2:(Vb p).batch.length=p.batch.length:=by show(p.batch.map Va).length=_;simp
  omega
theorem q5y{ds:List InstE}(k:Nat)(hk:k<ds.length)(h0:insF (ds.getD k z0W)=0)(h:((ds.getD k z0W).has && (ocV (ds.getD k z0W)==1))=true):z4v (ds.take (k+1))=z4v (ds.take k)++(ds.getD k z0W).batch:=by
 rw[z5T ds k hk];rw[Bool.and_eq_true,beq_iff_eq]at h;have hv:=h.2;unfold ocV at hv;rw[if_pos h0]at hv;by_cases h3:outV (ds.getD k z0W).dec=3
 ·rw[if_pos h3]at hv;exact absurd hv (by decide)
 ·rw[if_neg h3]at hv;rw[if_pos hv]
theorem q6q{ds:List InstE}(k:Nat)(hk:k<ds.length)(h0:insF (ds.getD k z0W)=0)(h:((ds.getD k z0W).has && (ocV (ds.getD k z0W)==1))=false):z4v (ds.take (k+1))=z4v (ds.take k):=by
 rw[z5T ds k hk];rw[Bool.and_eq_false_iff]at h;have hb0:=(rgtb h0)
 rcases h with h|h
 ·rw[hb0 h];simp
 ·have hv:¬ocV (ds.getD k z0W)=1:=by simpa using h
  unfold ocV at hv;rw[if_pos h0]at hv;by_cases h3:outV (ds.getD k z0W).dec=3
  ·rw[if_neg (by rw[h3];decide)];simp
  ·rw[if_neg h3]at hv;rw[if_neg hv];simp
theorem z91(v:Value)(ps:List InstQ)(w:World)(hG:Rul w)(h:instK.At w v ps)(av:∀p∈ps,insF (Vb p)=0)(h4:ps.length≤4)(hl:(ps.length+nmL InstQ.n ps)≤1048576):
  Calls Sl 168 #[v] w fun e w'=>∃ (v':Value) (qs:List TxnQ),e=.returned v'∧qs.map Va=z4v (ps.map Vb)∧qs.length≤16∧w'.ownsRow w.heap.size 152 4 v' qs.length (txnK.row qs)∧(∀q∈qs,txnK.rd w q)∧Below w.heap.size w w':=by
 obtain⟨a,cap,rfl⟩:=h.shape;obtain⟨i0,hi,az,aA,aB⟩:=info_parts z1A;have ai:w.ownsRow w.heap.size 152 4 (Q none 0 0) ([]:List TxnQ).length (txnK.row []):=World.ownsRow_nil _ _ _ _;have ad:Hid (([]:List TxnQ).map Va=z4v ((ps.map Vb).take 0)):=by show _=_;simp[z4v]
 have ae:Hid (([]:List TxnQ).length≤4*0):=by show _≤_;simp
 have ag:Hid (∀q∈([]:List TxnQ),txnK.rd w q):=fun q hq=>by simp at hq
 go_enter func168,ntmps168
 go_wp2
 go_loopw[3,8] (fun v j wr=>∃ (k:Nat) (qs:List TxnQ),k≤ps.length∧j=.int .i64 k∧Hid (qs.map Va=z4v ((ps.map Vb).take k))∧Hid (qs.length≤4*k)∧wr.ownsRow w.heap.size 152 4 v qs.length (txnK.row qs)∧Hid (∀q∈qs,txnK.rd w q)∧Below w.heap.size w wr) (fun _ j _=>ps.length-(intOf j).toNat)
 case atStart=>exact⟨0,[],Vd _,rfl,ad,ae,ai,ag,Below.refl _ _⟩
 case round=>
  clear ad ae ai ag;obtain⟨k,qs,hk,rfl,HE,HL,hO,HR,hb⟩:=hrel;obtain⟨sa,sc,rfl⟩:=z0f hO;by_cases A:k<ps.length
  ·have h0:=av _ (List.getElem_mem A);have z:=z5N ps k A;have HY:Hid ((ps[k].has && (ocV (Vb ps[k])==1))=true→z4v ((ps.map Vb).take (k+1))=qs.map Va++ps[k].batch.map Va):=fun hx=>by
    rw[HE.out];have:=q5y (ds:=ps.map Vb) k (by simpa using A) (by rw[z];exact h0) (by rw[z];exact hx);rw[z]at this;exact this
   have HN:Hid ((ps[k].has && (ocV (Vb ps[k])==1))=false→z4v ((ps.map Vb).take (k+1))=qs.map Va):=fun hx=>by
    rw[HE.out];exact q6q (ds:=ps.map Vb) k (by simpa using A) (by rw[z];exact h0) (by rw[z];exact hx)
   have ao:=q62 h0;have D:Hid (ps[k].has=true→0<ps[k].batch.length):=fun hx=>batp h0 hx
   have hn:InstQ.n ps[k]≤1048576:=by have:=z6T ps k A;omega
   have T:=z2P ps[k];have M:=fun w hG h=>T w hG h hn
   obtain⟨b,aC,rfl,ar,hc,O⟩:=h.cell (by decide) k A;have I:∀j x,(instK.cells ps[k])[j]?=some x→w.cell? ⟨b,aC+k*4+j,none⟩=some x:=hc;have c0:=z8T (I 0 (.bool ps[k].has) rfl) hb;have c1:=z8T (I 1 ps[k].vb rfl) hb;have c2:=z8T (I 2 ps[k].vr rfl) hb;have c3:=z8T (I 3 ps[k].vd rfl) hb;rw[Nat.add_zero]at c0;have aD:b<wr.heap.size:=Nat.lt_of_lt_of_le ar hb.size;clear hc I T h0 z HE;generalize ocC (Vb ps[k])=OC at*;generalize ocV (Vb ps[k])=OV at*;generalize ps[k]=p at*;obtain⟨has,vb,d,vr,y,vd,dec⟩:=p;have hT:txnK.At w vb d:=O.1;obtain⟨ba,bk,rfl⟩:=hT.shape;obtain⟨va,vk,rfl⟩:∃a c,vr=Q a y.length c:=O.2.1.shape;obtain⟨da,dk,rfl⟩:∃a c,vd=Q a dec.length c:=O.2.2.shape;dsimp only at c0 c1 c2 c3 M HY HN ao D;have ab:Below wr.heap.size wr (wr.alloc (.cells #[.bool has,Q ba d.length bk,Q va y.length vk,Q da dec.length dk] 64)):=by go_grown
   have Yb:=Blk.new wr 64 #[.bool has,Q ba d.length bk,Q va y.length vk,Q da dec.length dk];replace hO:=z0d hO ab;replace hb:=hb.trans (ab.mono hb.size);have aE:=q5u OC OV;have af:Hid (qs.length≤16):=show _≤_ by have:=HL.out;omega
   cases has with
   |false=>
    have E:Hid (qs.map Va=z4v ((ps.map Vb).take (k+1))):=show _=_ by rw[HN.out rfl]
    have C:Hid (qs.length≤4*(k+1)):=show _≤_ by have:=HL.out;omega
    clear HY HN D HL M Yb
    go_wp2_with fail
    generalize wr.alloc (.cells #[.bool false,Q ba d.length bk,Q va y.length vk,Q da dec.length dk] 64)=Y at*
    go_wp2
    go_roundw
    case rel=>exact⟨k+1,qs,by omega,by go_num,E,C,hO,HR,hb⟩
    case measure=>simp[intOf];omega
   |true=>
    have am:=instK.rd_below (w':=wr.alloc (.cells #[.bool true,Q ba d.length bk,Q va y.length vk,Q da dec.length dk] 64)) O hb
    go_wp2_with fail
    generalize wr.alloc (.cells #[.bool true,Q ba d.length bk,Q va y.length vk,Q da dec.length dk] 64)=Y at*;clear c0 c1 c2 c3 ab;refine(M Y (hG.below hb) am).mono ?_;rintro e w2 ⟨rfl,L⟩;replace hO:=z0d hO L;replace hb:=hb.trans (L.mono hb.size);replace Yb:=Yb.below L;clear L M am
    cases hv:(OV==1)with
    |false=>
     have E:Hid (qs.map Va=z4v ((ps.map Vb).take (k+1))):=show _=_ by rw[HN.out (by rw[hv];rfl)]
     have C:Hid (qs.length≤4*(k+1)):=show _≤_ by have:=HL.out;omega
     clear HY HN D HL Yb
     go_wp2
     go_roundw
     case rel=>exact⟨k+1,qs,by omega,by go_num,E,C,hO,HR,hb⟩
     case measure=>simp[intOf];omega
    |true=>
     have ah:=HY.out (by rw[hv];rfl);have ax:=D.out (by simp);have E:Hid ((qs++d).map Va=z4v ((ps.map Vb).take (k+1))):=show _=_ by rw[ah,List.map_append]
     have C:Hid ((qs++d).length≤4*(k+1)):=show _≤_ by have:=HL.out;rw[List.length_append];omega
     have an:Hid (∀q∈qs++d,txnK.rd w q):=fun q hq=>by
      rcases List.mem_append.1 hq with hq|hq
      ·exact HR.out q hq
      ·obtain⟨a9,c9,e9,Z,N⟩:=hT;exact N q hq
     have aa:=hT.below hb;obtain⟨bb,bo,aq⟩:∃bb bo,ba=some ⟨bb,bo,none⟩:=by
      obtain⟨b9,o9,e9,_⟩:=aa.cell (by decide) 0 ax;exact⟨b9,o9,e9⟩
     subst aq;have X:∀j u,(txnK.row d)[j]?=some u→w2.cell? ((⟨bb,bo,none⟩:Addr).add j)=some u:=fun j u hu=>by
      obtain⟨a9,c9,e9,Z,N⟩:=aa;simp only[Value.slice.injEq]at e9;obtain⟨rfl,_,rfl⟩:=e9;rcases Z with h9|⟨b9,o9,ea,_,au⟩
      ·rw[h9]at hu;simp at hu
      ·simp only[Option.some.injEq,Addr.mk.injEq,and_true]at ea;obtain⟨rfl,rfl⟩:=ea;rw[Addr.add_lit];exact au j u hu
     have U:∀u∈txnK.row d,u.oneCell'=true:=fun u hu=>by
      obtain⟨q,hq,hu⟩:=List.mem_flatMap.1 hu;have ay:∃a c,q.va=Q a q.acts.length c:=by
       obtain⟨a9,c9,e9,Z,N⟩:=hT;have h9:actK.At w q.va q.acts:=N q hq;exact h9.shape
      obtain⟨a9,c9,e9⟩:=ay;have al:u∈[Value.int .i64 q.i,.int .i64 q.s,.int .i64 q.q,q.va]:=hu;simp only[List.mem_cons,List.not_mem_nil,or_false]at al;rcases al with rfl|rfl|rfl|rfl
      ·rfl
      ·rfl
      ·rfl
      ·rw[e9];rfl
     have ak:(txnK.row d).length=d.length*4:=Kind.row_length d;have y1:=Yb.cell 1 _ rfl;clear HY HN D HL HR ah
     go_wp2_with (at_builtin;refine wpList_append_own_at _ rfl _ _ 51 rfl w.heap.size 152 i0 (.agg #[.int .i64 0,.int .i64 0,.int .i64 0,Q none 0 0]) 4 48 Tryz.underlying51 hi az aA aB rfl (by decide) _ qs.length (txnK.row qs) rfl hO ⟨bb,bo,none⟩ d.length bk (txnK.row d) rfl ak X U ?c3 ?c4 ?c5 ?_)
     all_goals try(case c3=>have:=af.out;unfold maxLen;omega)
     all_goals try(case c4=>have:=af.out;omega)
     all_goals try(case c5=>exact hb.size)
     intro v' w5 V J aj z;have W:txnK.row (qs++d)=txnK.row qs++txnK.row d:=by simp[Kind.row]
     rw[←W,←List.length_append]at V;have ap:Below w.heap.size w w5:=hb.grown J hb.size (fun j hj=>(hO.lt j hj).1);clear aj z J W hO X U ak y1 Yb aa hb
     go_wp2
     go_roundw
     case rel=>exact⟨k+1,_,by omega,by go_num,E,C,V,an,ap⟩
     case measure=>simp[intOf];omega
  ·have aw:k=ps.length:=by omega
   subst aw;have hE:=HE.out;rw[List.take_of_length_le (by simp)]at hE;have hL:=HL.out;clear HE
   go_wp2
   go_ret;first|exact⟨_,qs,rfl,hE,by omega,hO,HR.out,hb⟩|exact⟨_,rfl,qs,hE,by omega,hO,HR.out,hb⟩
section
open Go.Maps
theorem q6r:laidOutB Sl=true:=by kernel_rfl
theorem q6s:(281:TypeId)<Sl.types.size:=of_decide_eq_true (by kernel_rfl)
theorem q4P:(match Sl.underlying 281 with|some (.array _ _)|some (.struct _)=>true|_=>false)=true:=by kernel_rfl
theorem lawNm:Keyed Sl 281:=Keyed.of_law (deep_law_laid q6r (m:=2) (by omega) q6s (by kernel_rfl) q4P)
theorem q6t:Sl.keyType 281=true:=by kernel_rfl
theorem szP:∃m,Sl.types.size+1=m+2:=⟨_,rfl⟩
theorem q6u(i s q:Int)(hi:(Lit.int .i64 i).wf=true)(hs:(Lit.int .i64 s).wf=true)(hq:(Lit.int .i64 q).wf=true):∃l,keyOf Sl 281 (.agg #[.int .i64 i,.int .i64 s,.int .i64 q])=some l:=by
 obtain⟨m,hm⟩:=szP;have hc:Sl.cellsOf 281=3:=by kernel_rfl
 have hc1:Sl.cellsOf 2=1:=by kernel_rfl
 have hf:(Value.agg #[.int .i64 i,.int .i64 s,.int .i64 q]).formed Sl 281=true:=by
  simp[Value.formed,Tryz.underlying281,hc]
 unfold keyOf;rw[Tryz.underlying281];simp only[q6t,hf,Bool.and_self,if_true,hm];simp[Program.keyLits,Tryz.underlying281,Tryz.underlying2,hc,hc1,Value.cells,hi,hs,hq]
abbrev Nm:=Int × Int × Int
def nmV(x:Nm):Value:=.agg #[.int .i64 x.1,.int .i64 x.2.1,.int .i64 x.2.2]
def nmW(x:Nm):Prop:=(Lit.int .i64 x.1).wf=true∧(Lit.int .i64 x.2.1).wf=true∧(Lit.int .i64 x.2.2).wf=true
noncomputable def kyL (x:Nm):Lit:=(keyOf Sl 281 (nmV x)).getD (.bool false)
theorem z4G{x:Nm}(h:nmW x):keyOf Sl 281 (nmV x)=some (kyL x):=by
 obtain⟨l,hl⟩:=q6u x.1 x.2.1 x.2.2 h.1 h.2.1 h.2.2;have e:keyOf Sl 281 (nmV x)=some l:=hl;unfold kyL;rw[e];rfl
theorem q5z{x y:Nm}(hx:nmW x)(hy:nmW y)(h:kyL x=kyL y):x=y:=by
 have e1:=z4G hx;have e2:=z4G hy;rw[←h]at e2;have e:=lawNm.inj e1 e2;obtain⟨a,b,c⟩:=x;obtain⟨a',b',c'⟩:=y;simp[nmV]at e;obtain⟨rfl,rfl,rfl⟩:=e;rfl
def Cnt{H:Type}(D:DataW H)(ns:List Nm):Prop:=IsMap D∧∀x,nmW x→D.atKey (kyL x) (.lit (.int .i64 0))=.lit (.int .i64 (ns.count x))
theorem Cnt.none{H:Type}:Cnt (H:=H) (.map []) []:=⟨⟨[],rfl⟩,fun x _=>rfl⟩
theorem Cnt.put{H:Type}{D:DataW H}{ns:List Nm}(h:Cnt D ns){x:Nm}(hx:nmW x):Cnt (D.put (kyL x) (.lit (.int .i64 ((ns.count x:Int)+1)))) (ns++[x]):=by
 refine⟨h.1.put _ _,fun y hy=>?_⟩;by_cases e:y=x
 ·subst e;rw[atKey_put_same h.1 (lawNm.key (z4G hx))];simp[List.count_append]
 ·rw[atKey_put_other (fun e1=>e (q5z hy hx e1)),h.2 y hy];have:[x].count y=0:=List.count_eq_zero.2 (by simpa using e);simp[List.count_append,this]
def nmA(t:TxnD):Nm:=(t.id,0,0)
def nmB(t:TxnD):Nm:=(0,t.session,t.seq)
def nms(acc:List TxnD):List Nm:=acc.flatMap (fun t=>[nmA t,nmB t])
theorem q4j(acc:List TxnD)(t:TxnD):nms (acc++[t])=nms acc++[nmA t]++[nmB t]:=by
 simp[nms]
theorem q2U(acc:List TxnD):(nms acc).length=2*acc.length:=by
 induction acc with
 |nil=>rfl
 |cons a r ih=>
  have:nms (a::r)=nmA a::nmB a::nms r:=rfl;rw[this];simp only[List.length_cons,ih];omega
theorem z92{acc:List TxnD}{t:TxnD}(ha:∀x∈acc,1≤x.id)(ht:1≤t.id):knw acc t=true↔0<(nms acc).count (nmA t)∨0<(nms acc).count (nmB t):=by
 rw[List.count_pos_iff,List.count_pos_iff];unfold knw nms stF;rw[List.any_eq_true];constructor
 ·rintro⟨x,hx,h⟩;simp only[Bool.or_eq_true,Bool.and_eq_true,beq_iff_eq]at h;rcases h with h|⟨h1,h2⟩
  ·exact Or.inl (List.mem_flatMap.2 ⟨x,hx,by simp[nmA,h]⟩)
  ·exact Or.inr (List.mem_flatMap.2 ⟨x,hx,by simp[nmB,h1,h2]⟩)
 ·rintro(h|h)
  ·obtain⟨x,hx,h⟩:=List.mem_flatMap.1 h;have hx1:=ha x hx;simp only[nmA,nmB,List.mem_cons,Prod.mk.injEq,List.not_mem_nil,or_false]at h;rcases h with h|h
   ·exact⟨x,hx,by simp[h.1]⟩
   ·omega
  ·obtain⟨x,hx,h⟩:=List.mem_flatMap.1 h;have hx1:=ha x hx;simp only[nmA,nmB,List.mem_cons,Prod.mk.injEq,List.not_mem_nil,or_false]at h;rcases h with h|h
   ·omega
   ·exact⟨x,hx,by simp[h.2.1,h.2.2]⟩
end
section
open Go.Maps Go.WideShapes Go.MapKept Go.ChangeMaps Go.ChangeShapes Go.WideElems
theorem q2V{H:Type}{P:Program}{w:World}{t k e:TypeId}{R:Value→Option (DataW H × List MemPlace)}{b n:Nat}{D:DataW H}(h:w.ownsMap P k R b n D)(L:Go.WideMaps.KeyLaw P k)
  (ht:P.underlying t=some (.map k e)) {z:Value} (hz:∀u:World,(zeroValue e).run P u=.ok z u) {zd:DataW H} {zp:List MemPlace} (ai:R z=some (zd,zp)) (hn:n<maxLen)
  {key:Value} {kl:Lit} (x:keyOf P k key=some kl):
  ∃ (v0:Value) (st:Nat) (w1:World) (D1:DataW H),(Instr.mapEntry t (.map (some b)) key).run P w=.ok (.tuple #[v0,goInt st]) w1∧w.mapTurned w1 b∧
   w1.ownsMap P k R b (n+1) D1∧D1.atKey kl zd=D.atKey kl zd∧
   ∀ (w2:World) (J:Value) (d:DataW H) (ps:List MemPlace),w2.heap[b]?=w1.heap[b]?→R J=some (d,ps)→
    ∃w3,(Instr.entryStore t (.map (some b)) (goInt st) J).run P w2=.ok () w3∧w3.ownsMap P k R b (n+1) (D.put kl d)∧w2.mapTurned w3 b:=by
 have K:Keyed P k:=Keyed.of_law L;have h0:=h;obtain⟨es,c,hb,F,hs,hD⟩:=h;obtain⟨v0,st,I,A,hr,hv,ag⟩:=entry_then_store L ht hz hb F x;have T:(setBlock w b (.map I A)).heap[b]?=some (.map I A):=heap_setBlock_same hb _;have V:∃D1,(setBlock w b (.map I A)).ownsMap P k R b (n+1) D1∧D1.atKey kl zd=D.atKey kl zd:=by
  rcases K.find w x es.toList F.keys with⟨h1,h2⟩|⟨j,e0,h1,h2,h3⟩
  ·obtain⟨w',hrun,E,_⟩:=h0.store K ht hn x ai;have e1:(Instr.mapEntry t (.map (some b)) key).run P w=.ok (.tuple #[z,goInt c]) (setBlock w b (.map (es.push ⟨key,z,c⟩) (c+1))):=by
    simp[Instr.mapEntry,run_underlying ht,MapKept.run_getObj_map hb,K.check w false x,h1,hz,MapKept.run_setObj_map _ hb,Result.andThen,setBlock]
   have e2:(Instr.mapUpdate t (.map (some b)) key z).run P w=.ok () (setBlock w b (.map (es.push ⟨key,z,c⟩) (c+1))):=by
    simp[Instr.mapUpdate,run_underlying ht,MapKept.run_getObj_map hb,K.check w false x,h1,MapKept.run_setObj_map _ hb,Result.andThen,setBlock]
   rw[e1]at hr;rw[e2]at hrun;simp only[Result.ok.injEq,true_and]at hrun hr;rw[←hr.2,hrun];refine⟨_,E,?_⟩;rw[atKey_put_same h0.isMap (K.key x)];have ah:(zeroValue e).run P w=.ok z w:=hz w;rcases fit_look false K ht ah hb F x with⟨_,_,Y⟩|⟨e0,y,ab,aa,_⟩
   ·rw[hD,Y zd]
   ·exact absurd aa (h2 e0 ab)
  ·have hj:es[j]?=some e0:=by simpa using h2
   have af:es.modify j (fun e=>{e with key:=key})=es:=by
    apply Array.ext';rw[Array.toList_modify,modify_eq_set _ _ _ _ h2];have:({e0 with key:=key}:MapEntry)=e0:=by rw[←h3]
    rw[this];exact set_self _ _ _ h2
   have e1:(Instr.mapEntry t (.map (some b)) key).run P w=.ok (.tuple #[e0.val,goInt e0.born]) (setBlock w b (.map es c)):=by
    simp[Instr.mapEntry,run_underlying ht,MapKept.run_getObj_map hb,K.check w false x,h1,hj,h3,L.stays w x,af,MapKept.run_setObj_map _ hb,Result.andThen,setBlock]
   rw[e1]at hr;simp only[Result.ok.injEq]at hr;rw[←hr.2];exact⟨D,⟨es,c,heap_setBlock_same hb _,F,by omega,hD⟩,rfl⟩
 obtain⟨D1,O,U⟩:=V;refine⟨v0,st,_,D1,hr,⟨es,c,I,A,hb,rfl⟩,O,U,fun w2 J d ps h2 W=>?_⟩;have N:=h2.trans T;obtain⟨M,C,ad,ae⟩:=ag w2 J N;obtain⟨w',hrun,E,_⟩:=h0.store K ht hn x W;rw[ae]at hrun;simp only[Result.ok.injEq,true_and]at hrun;refine⟨_,ad,?_,⟨I,A,M,C,N,rfl⟩⟩;rw[←hrun]at E;obtain⟨X,cx,Z,rest⟩:=E;have e3:(setBlock w b (.map M C)).heap[b]?=(setBlock w2 b (.map M C)).heap[b]?:=by
  rw[heap_setBlock_same hb,heap_setBlock_same N]
 exact⟨X,cx,e3▸Z,rest⟩
end
section
open Go.Maps
def Cts(w:World)(b:Nat)(ns:List Nm):Prop:=∃D:DataW Unit,w.ownsMap Sl 281 (plainElem Sl 2) b ns.length D∧Cnt D ns
theorem q6v:Go.WideMaps.KeyLaw Sl 281:=deep_law_laid q6r (m:=2) (by omega) q6s (by kernel_rfl) q4P
theorem q2W(u:World):(zeroValue 2).run Sl u=.ok (.int .i64 0) u:=by
 kernel_rfl
theorem Cts.made(w:World):Cts (w.alloc (.map #[] 0)) w.heap.size []:=⟨_,World.ownsMap_made w _ _ _,Cnt.none⟩
theorem Cts.lt{w:World}{b:Nat}{ns:List Nm}(h:Cts w b ns):b<w.heap.size:=by
 obtain⟨D,h,_⟩:=h;exact h.lt
theorem Cts.kept{w w':World}{b:Nat}{ns:List Nm}{row:Option Nat}(h:Cts w b ns)(hg:w.grownBy w' row)(hne:some b≠row):Cts w' b ns:=by
 obtain⟨D,h,hc⟩:=h;exact⟨D,h.kept hg hne,hc⟩
theorem Cts.look{w:World}{b:Nat}{ns:List Nm}(h:Cts w b ns){x:Nm}(hx:nmW x):(Instr.lookup 279 (.map (some b)) (nmV x) false).run Sl w=.ok (.int .i64 (ns.count x)) w:=by
 obtain⟨D,h,hc⟩:=h;obtain⟨c,hr,hat,_⟩:=h.lookup_int lawNm Tryz.underlying279 Tryz.underlying2 (q2W w) (z4G hx);rw[hc.2 x hx]at hat;simp only[DataW.lit.injEq,Lit.int.injEq,true_and]at hat;rw[hr,hat]
theorem Cts.inc{w:World}{b:Nat}{ns:List Nm}(h:Cts w b ns){x:Nm}(hx:nmW x)(hl:ns.length<1000):
  ∃ (v0:Value) (st:Nat) (w1 w3:World),(Instr.mapEntry 279 (.map (some b)) (nmV x)).run Sl w=.ok (.tuple #[v0,.int .i64 st]) w1∧
   (Instr.lookup 279 (.map (some b)) (nmV x) false).run Sl w1=.ok (.int .i64 (ns.count x)) w1∧
   (Instr.entryStore 279 (.map (some b)) (.int .i64 st) (.int .i64 ((ns.count x:Int)+1))).run Sl w1=.ok () w3∧w.mapTurned w1 b∧w.mapTurned w3 b∧Cts w3 b (ns++[x]):=by
 obtain⟨D,h,hc⟩:=h;have M:ns.count x≤ns.length:=List.count_le_length;have w0:(Lit.int .i64 0).wf=true:=by decide
 have wc:(Lit.int .i64 ((ns.count x:Int)+1)).wf=true:=WalkArith.wf_i64 (by omega);obtain⟨v0,st,w1,D1,hr,z,A,y,J⟩:=q2V h q6v Tryz.underlying279 q2W (plainElem_int Tryz.underlying2 w0) (by unfold maxLen;omega) (z4G hx);obtain⟨w3,E,C,L⟩:=J w1 _ _ _ rfl (plainElem_int Tryz.underlying2 wc);obtain⟨c,I,d,_⟩:=A.lookup_int lawNm Tryz.underlying279 Tryz.underlying2 (q2W w1) (z4G hx);rw[y,hc.2 x hx]at d;simp only[DataW.lit.injEq,Lit.int.injEq,true_and]at d;refine⟨v0,st,w1,w3,hr,by rw[I,d],E,z,z.trans L,⟨_,?_,hc.put hx⟩⟩;rw[List.length_append];exact C
end
end Go.Proofs.YtdppipeclnldeaaGreatDoor
