/- Texts joined,with what the laws reach alone. -/
import Derived.Test.YtljbililjlafcaaGreatDoorILAI
set_option linter.unusedVariables false
set_option linter.unusedSimpArgs false
set_option maxRecDepth 100000
set_option maxHeartbeats 8000000
namespace Go.Proofs.YtljbililjlafcaaGreatDoor
open Go.RowKit Go.BigFrame
def z2d(x y:Int):Bool:=x==y
def sameZs:List Int→List Int→Bool
 |[],[]=>true
 |x::r,y::s=>z2d x y && sameZs r s
 |_,_=>false
def sameR(x y:RoundE):Bool:=sameZs x.rep y.rep && sameZs x.pro y.pro
def sameRs:List RoundE→List RoundE→Bool
 |[],[]=>true
 |x::r,y::s=>sameR x y && sameRs r s
 |_,_=>false
def sameN(x y:InstE):Bool:=(x.has==y.has) && sameTs x.batch y.batch && sameRs x.rounds y.rounds && sameZs x.dec y.dec
def z3u:RoundE:=⟨[],[]⟩
theorem z2e(rs:List RoundQ)(r:Nat)(hr:r<rs.length):(rs.map RoundQ.e).getD r z3u=RoundQ.e rs[r]:=by simp[List.getD,hr]
theorem z3v(a a':Option Addr)(cap d:Nat)(xs ys:List Int)(w:World)(h:Row .i64 w a xs)(h':Row .i64 w a' ys)(hl:xs.length≤1048576)(M:ys.length≤1048576):
  Calls Tryz.prog 42 #[.slice a xs.length cap,.slice a' ys.length d] w fun e w'=>e=.returned (.bool (sameZs xs ys))∧Below w.heap.size w w':=by
 by_cases c:xs.length=ys.length
 case neg=>
  have E:sameZs xs ys=false:=z0X (f:=z2d) rfl (fun _ _ _ _=>rfl) (fun _ _=>rfl) (fun _ _=>rfl) xs ys c;rw[E];have hd:((xs.length:Int) !=(ys.length:Int))=true:=by simp;omega
  go_enter Tryz.func42,Tryz.ntmps42
  go_wp2
  go_ret;exact⟨rfl,Below.refl _ _⟩
 case pos=>
  have hd:((xs.length:Int) !=(ys.length:Int))=false:=by simp[c]
  have HL:Hid (xs.length=ys.length):=c;clear c;go_enter Tryz.func42,Tryz.ntmps42
  go_wp2
  go_loopw[13] (fun i wr=>∃k m:Nat,k≤xs.length∧i=.int .i64 k∧wr=w.drewN m∧Hid (∀j,j<k→z2d (xs.getD j 0) (ys.getD j 0)=true)) (fun i _=>xs.length-(intOf i).toNat)
  case atStart=>exact⟨0,0,Nat.zero_le _,rfl,rfl,fun j hj=>absurd hj (Nat.not_lt_zero _)⟩
  case round=>
   obtain⟨k,m,hk,rfl,rfl,HA⟩:=hrel;by_cases A:k<xs.length
   ·have C:k<ys.length:=by have:=HL.out;omega
    obtain⟨b,N,rfl,L,x⟩:=h k A;obtain⟨b',J,rfl,I,y⟩:=h' k C
    cases hs:z2d (xs.getD k 0) (ys.getD k 0)
    case false=>
     have E:Hid (sameZs xs ys=false):=z0Y (f:=z2d) 0 (fun _ _ _ _=>rfl) xs ys k HL.out A hs;have hr:(xs.getD k 0 !=ys.getD k 0)=true:=by
      unfold z2d at hs;simpa using hs
     clear HA hs;generalize xs.getD k 0=z at x hr;generalize ys.getD k 0=z' at y hr
     go_wp2
     go_quiet (fail)
     go_wp2
     go_ret;rw[E.out];exact⟨rfl,⟨rfl,rfl,rfl,Nat.le_refl _,fun _ _=>rfl⟩⟩
    case true=>
     have HB:Hid (∀j,j<k+1→z2d (xs.getD j 0) (ys.getD j 0)=true):=by
      intro j hj;by_cases D:j=k
      ·subst D;exact hs
      ·exact HA.out j (by omega)
     have hr:(xs.getD k 0 !=ys.getD k 0)=false:=by
      unfold z2d at hs;simpa using hs
     clear HA hs;generalize xs.getD k 0=z at x hr;generalize ys.getD k 0=z' at y hr
     go_wp2
     go_quiet (fail)
     go_wp2
     go_roundw
     case rel=>exact⟨k+1,_,by omega,by go_num,rfl,HB⟩
     case measure=>simp[intOf];omega
   ·have E:Hid (sameZs xs ys=true):=z0Z (f:=z2d) 0 rfl (fun _ _ _ _=>rfl) xs ys HL.out (fun j hj=>HA.out j (by omega));clear HA
    go_wp2
    go_ret;rw[E.out];exact⟨rfl,⟨rfl,rfl,rfl,Nat.le_refl _,fun _ _=>rfl⟩⟩
theorem z3w(a a':Option Addr)(cap d:Nat)(xs ys:List Int)(w:World)(h:Row .i64 w a xs)(h':Row .i64 w a' ys)(hl:xs.length≤1048576)(M:ys.length≤1048576):
  Calls Tryz.prog 30 #[.slice a xs.length cap,.slice a' ys.length d] w fun e w'=>e=.returned (.bool (sameZs xs ys))∧Below w.heap.size w w':=by
 by_cases c:xs.length=ys.length
 case neg=>
  have E:sameZs xs ys=false:=z0X (f:=z2d) rfl (fun _ _ _ _=>rfl) (fun _ _=>rfl) (fun _ _=>rfl) xs ys c;rw[E];have hd:((xs.length:Int) !=(ys.length:Int))=true:=by simp;omega
  go_enter Tryz.func30,Tryz.ntmps30
  go_wp2
  go_ret;exact⟨rfl,Below.refl _ _⟩
 case pos=>
  have hd:((xs.length:Int) !=(ys.length:Int))=false:=by simp[c]
  have HL:Hid (xs.length=ys.length):=c;clear c;go_enter Tryz.func30,Tryz.ntmps30
  go_wp2
  go_loopw[5] (fun i wr=>∃k m:Nat,k≤xs.length∧i=.int .i64 k∧wr=w.drewN m∧Hid (∀j,j<k→z2d (xs.getD j 0) (ys.getD j 0)=true)) (fun i _=>xs.length-(intOf i).toNat)
  case atStart=>exact⟨0,0,Nat.zero_le _,rfl,rfl,fun j hj=>absurd hj (Nat.not_lt_zero _)⟩
  case round=>
   obtain⟨k,m,hk,rfl,rfl,HA⟩:=hrel;by_cases A:k<xs.length
   ·have C:k<ys.length:=by have:=HL.out;omega
    obtain⟨b,N,rfl,L,x⟩:=h k A;obtain⟨b',J,rfl,I,y⟩:=h' k C
    cases hs:z2d (xs.getD k 0) (ys.getD k 0)
    case false=>
     have E:Hid (sameZs xs ys=false):=z0Y (f:=z2d) 0 (fun _ _ _ _=>rfl) xs ys k HL.out A hs;have hr:(xs.getD k 0 !=ys.getD k 0)=true:=by
      unfold z2d at hs;simpa using hs
     clear HA hs;generalize xs.getD k 0=z at x hr;generalize ys.getD k 0=z' at y hr
     go_wp2
     go_quiet (fail)
     go_wp2
     go_ret;rw[E.out];exact⟨rfl,⟨rfl,rfl,rfl,Nat.le_refl _,fun _ _=>rfl⟩⟩
    case true=>
     have HB:Hid (∀j,j<k+1→z2d (xs.getD j 0) (ys.getD j 0)=true):=by
      intro j hj;by_cases D:j=k
      ·subst D;exact hs
      ·exact HA.out j (by omega)
     have hr:(xs.getD k 0 !=ys.getD k 0)=false:=by
      unfold z2d at hs;simpa using hs
     clear HA hs;generalize xs.getD k 0=z at x hr;generalize ys.getD k 0=z' at y hr
     go_wp2
     go_quiet (fail)
     go_wp2
     go_roundw
     case rel=>exact⟨k+1,_,by omega,by go_num,rfl,HB⟩
     case measure=>simp[intOf];omega
   ·have E:Hid (sameZs xs ys=true):=z0Z (f:=z2d) 0 rfl (fun _ _ _ _=>rfl) xs ys HL.out (fun j hj=>HA.out j (by omega));clear HA
    go_wp2
    go_ret;rw[E.out];exact⟨rfl,⟨rfl,rfl,rfl,Nat.le_refl _,fun _ _=>rfl⟩⟩
theorem z4I(p q:RoundQ)(w:World)(h:roundK.rd w p)(h':roundK.rd w q)(hl:p.n≤1048576)(hl':q.n≤1048576):
  Calls Tryz.prog 41 #[.agg #[p.vr,p.vp],.agg #[q.vr,q.vp]] w fun e w'=>e=.returned (.bool (sameR p.e q.e))∧Below w.heap.size w w':=by
 obtain⟨pv,pr,pw,pp⟩:=p;obtain⟨qv,qr,qw,qp⟩:=q;obtain⟨h1,h2⟩:intK.At w pv pr∧intK.At w pw pp:=h;obtain⟨g1,g2⟩:intK.At w qv qr∧intK.At w qw qp:=h';dsimp only[RoundQ.n]at hl hl';obtain⟨a1,k1,rfl⟩:=h1.shape;obtain⟨a2,k2,rfl⟩:=h2.shape;obtain⟨b1,m1,rfl⟩:=g1.shape;obtain⟨b2,m2,rfl⟩:=g2.shape;have hB:Below w.heap.size w ((w.alloc (.cells #[.slice a1 pr.length k1,.slice a2 pp.length k2] 78)).alloc (.cells #[.slice b1 qr.length m1,.slice b2 qp.length m2] 78)):=by go_grown
 have B:=(Blk.new w 78 #[.slice a1 pr.length k1,.slice a2 pp.length k2]).below (w':=(w.alloc (.cells #[.slice a1 pr.length k1,.slice a2 pp.length k2] 78)).alloc (.cells #[.slice b1 qr.length m1,.slice b2 qp.length m2] 78)) (by go_grown);have C:=Blk.new (w.alloc (.cells #[.slice a1 pr.length k1,.slice a2 pp.length k2] 78)) 78 #[.slice b1 qr.length m1,.slice b2 qp.length m2];rw[World.size_alloc]at C;have e1:=z3v a1 b1 k1 m1 pr qr _ (z0m (h1.below hB)).2 (z0m (g1.below hB)).2 (by omega) (by omega);have e2:=fun w h h'=>z3v a2 b2 k2 m2 pp qp w h h' (by omega) (by omega)
 have HE:Hid (sameR (RoundQ.e ⟨.slice a1 pr.length k1,pr,.slice a2 pp.length k2,pp⟩) (RoundQ.e ⟨.slice b1 qr.length m1,qr,.slice b2 qp.length m2,qp⟩)=(sameZs pr qr && sameZs pp qp)):=(rfl:_=_)
 generalize sameR (RoundQ.e ⟨.slice a1 pr.length k1,pr,.slice a2 pp.length k2,pp⟩) (RoundQ.e ⟨.slice b1 qr.length m1,qr,.slice b2 qp.length m2,qp⟩)=E at HE⊢;generalize sameZs pr qr=X at*;generalize sameZs pp qp=Y at*;go_enter Tryz.func41,Tryz.ntmps41
 go_wp2_with fail
 generalize (w.alloc (.cells #[.slice a1 pr.length k1,.slice a2 pp.length k2] 78)).alloc (.cells #[.slice b1 qr.length m1,.slice b2 qp.length m2] 78)=W at*;refine e1.mono ?_;rintro e w1 ⟨rfl,hb⟩;replace hB:=hB.trans (hb.mono hB.size);replace B:=B.below hb;replace C:=C.below hb;clear e1 hb
 cases X with
 |false=>
  have E1:Hid (E=false):=HE.out;clear HE e2
  go_wp2
  go_ret;exact⟨by rw[E1.out];rfl,hB⟩
 |true=>
  have p1:=B.cell 1 _ rfl;have q1:=C.cell 1 _ rfl;have e3:=e2 w1 (z0m (h2.below hB)).2 (z0m (g2.below hB)).2;clear e2
  go_wp2_with fail
  refine e3.mono ?_;rintro e w2 ⟨rfl,hb⟩;replace hB:=hB.trans (hb.mono hB.size);have E1:Hid (E=Y):=by rw[HE.out];exact(rfl:_=_)
  clear e3 hb HE p1 q1 B C
  go_wp2
  go_ret;exact⟨by rw[E1.out];rfl,hB⟩
theorem z9u(v v':Value)(xs ys:List RoundQ)(w:World)(h:roundK.At w v xs)(h':roundK.At w v' ys)(hl:xs.length+nmL RoundQ.n xs≤1048576)(aa:ys.length+nmL RoundQ.n ys≤1048576):
  Calls Tryz.prog 40 #[v,v',.func (.func 41) #[] #[]] w fun e w'=>e=.returned (.bool (sameRs (xs.map RoundQ.e) (ys.map RoundQ.e)))∧Below w.heap.size w w':=by
 obtain⟨a,cap,rfl⟩:=h.shape;obtain⟨a',Y,rfl⟩:=h'.shape;by_cases d:xs.length=ys.length
 case neg=>
  have E:sameRs (xs.map RoundQ.e) (ys.map RoundQ.e)=false:=z0X (f:=sameR) rfl (fun _ _ _ _=>rfl) (fun _ _=>rfl) (fun _ _=>rfl) _ _ (by simpa using d);rw[E];have hd:((xs.length:Int) !=(ys.length:Int))=true:=by simp;omega
  go_enter Tryz.func40,Tryz.ntmps40
  go_wp2
  go_ret;exact⟨rfl,Below.refl _ _⟩
 case pos=>
  have hd:((xs.length:Int) !=(ys.length:Int))=false:=by simp[d]
  have HL:Hid (xs.length=ys.length):=d;have HM:Hid ((xs.map RoundQ.e).length=(ys.map RoundQ.e).length):=show _=_ by simpa using d
  clear d;generalize hE:sameRs (xs.map RoundQ.e) (ys.map RoundQ.e)=E;have HE:Hid (sameRs (xs.map RoundQ.e) (ys.map RoundQ.e)=E):=hE;clear hE;go_enter Tryz.func40,Tryz.ntmps40
  go_wp2
  go_loopw[17] (fun i wr=>∃k:Nat,k≤xs.length∧i=.int .i64 k∧Below w.heap.size w wr∧Hid (∀j,j<k→sameR ((xs.map RoundQ.e).getD j z3u) ((ys.map RoundQ.e).getD j z3u)=true)) (fun i _=>xs.length-(intOf i).toNat)
  case atStart=>exact⟨0,Nat.zero_le _,rfl,Below.refl _ _,fun j hj=>absurd hj (Nat.not_lt_zero _)⟩
  case round=>
   obtain⟨k,hk,rfl,hb,HA⟩:=hrel;by_cases A:k<xs.length
   ·have y:k<ys.length:=by have:=HL.out;omega
    obtain⟨b,W,rfl,Z,hc,C⟩:=(h.below hb).cell (by decide) k A;obtain⟨b',T,rfl,M,N,z⟩:=(h'.below hb).cell (by decide) k y;have D:∀j x,(roundK.cells xs[k])[j]?=some x→wr.cell? ⟨b,W+k*2+j,none⟩=some x:=hc;have I:∀j x,(roundK.cells ys[k])[j]?=some x→wr.cell? ⟨b',T+k*2+j,none⟩=some x:=N;have c0:=D 0 (xs[k].vr) rfl;have c1:=D 1 (xs[k].vp) rfl;have d0:=I 0 (ys[k].vr) rfl;have d1:=I 1 (ys[k].vp) rfl;have n1:=z0W RoundQ.n xs k A;have n2:=z0W RoundQ.n ys k y;have HY:Hid (sameR (RoundQ.e xs[k]) (RoundQ.e ys[k])=false→E=false):=fun hx=>by
     rw[←HE.out];exact z0Y (f:=sameR) z3u (fun _ _ _ _=>rfl) _ _ k HM.out (by simpa using A) (by rw[z2e xs k A,z2e ys k y];exact hx)
    have HN:Hid (sameR (RoundQ.e xs[k]) (RoundQ.e ys[k])=true→∀j,j<k+1→sameR ((xs.map RoundQ.e).getD j z3u) ((ys.map RoundQ.e).getD j z3u)=true):=fun hx j hj=>by
     by_cases V:j=k
     ·subst V;rw[z2e xs j A,z2e ys j y];exact hx
     ·exact HA.out j (by omega)
    have O:=z4I xs[k] ys[k];have hq:=fun w f1 f2=>O w f1 f2 (by omega) (by omega)
    clear O;have U:∀ (o:Obj) (j:Nat),(wr.alloc o).cell? ⟨b',j,none⟩=wr.cell? ⟨b',j,none⟩:=fun o j=>(show Below wr.heap.size wr (wr.alloc o) by go_grown).cell (p:=⟨b',j,none⟩) M
    clear HA hc D N I;generalize xs[k]=p at*;generalize ys[k]=q at*;generalize sameR (RoundQ.e p) (RoundQ.e q)=X at*;obtain⟨pv,pr,pw,pp⟩:=p;obtain⟨qv,qr,qw,qp⟩:=q;obtain⟨a1,k1,rfl⟩:∃a c,pv=.slice a pr.length c:=C.1.shape;obtain⟨a2,k2,rfl⟩:∃a c,pw=.slice a pp.length c:=C.2.shape;obtain⟨b1,m1,rfl⟩:∃a c,qv=.slice a qr.length c:=z.1.shape;obtain⟨b2,m2,rfl⟩:∃a c,qw=.slice a qp.length c:=z.2.shape;dsimp only at c0 c1 d0 d1 hq;rw[Nat.add_zero]at c0 d0
    go_wp2_with fail
    refine(hq _ (roundK.rd_below C (by go_grown)) (roundK.rd_below z (by go_grown))).mono ?_;rintro e w2 ⟨rfl,J⟩;have L:=z0o (z0o hb (by go_grown)) J;clear J U c0 c1 d0 d1 C z hq
    cases X with
    |false=>
     have E1:Hid (E=false):=HY.out rfl;clear HY HN HE
     go_wp2
     go_ret;exact⟨by rw[E1.out];rfl,L⟩
    |true=>
     have R:=HN.out rfl;have HR:Hid _:=R;clear HY HN R
     go_wp2
     go_roundw
     case rel=>exact⟨k+1,by omega,by go_num,L,HR.out⟩
     case measure=>simp[intOf];omega
   ·have E1:Hid (E=true):=by rw[←HE.out];exact z0Z (f:=sameR) z3u rfl (fun _ _ _ _=>rfl) _ _ HM.out (fun j hj=>HA.out j (by simpa using(by simpa using hj:j<xs.length)|>fun h=>Nat.lt_of_lt_of_le h (by omega)))
    clear HA HE
    go_wp2
    go_ret;exact⟨by rw[E1.out];rfl,hb⟩
theorem z3Z(p q:InstQ)(w:World)(h:instK.rd w p)(h':instK.rd w q)(hl:p.n≤1048576)(y:q.n≤1048576):
  Calls Tryz.prog 20 #[.agg #[.bool p.has,p.vb,p.vr,p.vd],.agg #[.bool q.has,q.vb,q.vr,q.vd]] w fun e w'=>e=.returned (.bool (sameN p.e q.e))∧Below w.heap.size w w':=by
 obtain⟨h1,vb,bt,vr,rs,vd,dc⟩:=p;obtain⟨h2,z,d,D,c,A,x⟩:=q;obtain⟨hT,hR,hD⟩:txnK.At w vb bt∧roundK.At w vr rs∧intK.At w vd dc:=h;obtain⟨gT,gR,gD⟩:txnK.At w z d∧roundK.At w D c∧intK.At w A x:=h';dsimp only[InstQ.n]at hl y;obtain⟨a1,k1,rfl⟩:=hT.shape;obtain⟨a2,k2,rfl⟩:=hR.shape;obtain⟨a3,k3,rfl⟩:=hD.shape;obtain⟨b1,m1,rfl⟩:=gT.shape;obtain⟨b2,m2,rfl⟩:=gR.shape;obtain⟨b3,m3,rfl⟩:=gD.shape;have hB:Below w.heap.size w ((w.alloc (.cells #[.bool h1,.slice a1 bt.length k1,.slice a2 rs.length k2,.slice a3 dc.length k3] 44)).alloc (.cells #[.bool h2,.slice b1 d.length m1,.slice b2 c.length m2,.slice b3 x.length m3] 44)):=by go_grown
 have B:=(Blk.new w 44 #[.bool h1,.slice a1 bt.length k1,.slice a2 rs.length k2,.slice a3 dc.length k3]).below (w':=(w.alloc (.cells #[.bool h1,.slice a1 bt.length k1,.slice a2 rs.length k2,.slice a3 dc.length k3] 44)).alloc (.cells #[.bool h2,.slice b1 d.length m1,.slice b2 c.length m2,.slice b3 x.length m3] 44)) (by go_grown);have C:=Blk.new (w.alloc (.cells #[.bool h1,.slice a1 bt.length k1,.slice a2 rs.length k2,.slice a3 dc.length k3] 44)) 44 #[.bool h2,.slice b1 d.length m1,.slice b2 c.length m2,.slice b3 x.length m3];rw[World.size_alloc]at C;have e1:=z00 _ _ (bt.map TxnQ.e) (d.map TxnQ.e) _ (z0k (hT.below hB)) (z0k (gT.below hB)) (by rw[List.length_map,z0u];omega) (by rw[List.length_map,z0u];omega);have e2:=fun w h h'=>z9u (.slice a2 rs.length k2) (.slice b2 c.length m2) rs c w h h' (by omega) (by omega)
 have e3:=fun w h h'=>z3v a3 b3 k3 m3 dc x w h h' (by omega) (by omega)
 generalize hE:sameN _ _=E;have HE:Hid (E=((h1==h2) && sameTs (bt.map TxnQ.e) (d.map TxnQ.e) && sameRs (rs.map RoundQ.e) (c.map RoundQ.e) && sameZs dc x)):=hE.symm;clear hE;generalize sameTs (bt.map TxnQ.e) (d.map TxnQ.e)=X at*;generalize sameRs (rs.map RoundQ.e) (c.map RoundQ.e)=Y at*;generalize sameZs dc x=Z at*;go_enter Tryz.func20,Tryz.ntmps20
 cases hh:(h1==h2)with
 |false=>
  have E1:Hid (E=false):=by rw[HE.out,hh];rfl
  clear HE e1 e2 e3
  go_wp2
  go_ret;exact⟨by rw[E1.out];rfl,hB⟩
 |true=>
  rw[hh]at HE
  go_wp2_with fail
  generalize (w.alloc (.cells #[.bool h1,.slice a1 bt.length k1,.slice a2 rs.length k2,.slice a3 dc.length k3] 44)).alloc (.cells #[.bool h2,.slice b1 d.length m1,.slice b2 c.length m2,.slice b3 x.length m3] 44)=W at*;refine e1.mono ?_;rintro e w1 ⟨rfl,hb⟩;replace hB:=hB.trans (hb.mono hB.size);replace B:=B.below hb;replace C:=C.below hb;clear e1 hb
  cases X with
  |false=>
   have E1:Hid (E=false):=by rw[HE.out];rfl
   clear HE e2 e3
   go_wp2
   go_ret;exact⟨by rw[E1.out];rfl,hB⟩
  |true=>
   have p2:=B.cell 2 _ rfl;have q2:=C.cell 2 _ rfl;have e4:=e2 w1 (hR.below hB) (gR.below hB);clear e2
   go_wp2_with fail
   refine e4.mono ?_;rintro e w2 ⟨rfl,hb⟩;replace hB:=hB.trans (hb.mono hB.size);replace B:=B.below hb;replace C:=C.below hb;clear e4 hb p2 q2
   cases Y with
   |false=>
    have E1:Hid (E=false):=by rw[HE.out];rfl
    clear HE e3
    go_wp2
    go_ret;exact⟨by rw[E1.out];rfl,hB⟩
   |true=>
    have p3:=B.cell 3 _ rfl;have q3:=C.cell 3 _ rfl;have e5:=e3 w2 (z0m (hD.below hB)).2 (z0m (gD.below hB)).2;clear e3
    go_wp2_with fail
    refine e5.mono ?_;rintro e w3 ⟨rfl,hb⟩;replace hB:=hB.trans (hb.mono hB.size);have E1:Hid (E=Z):=by rw[HE.out];exact(rfl:_=_)
    clear e5 hb p3 q3 B C HE
    go_wp2
    go_ret;exact⟨by rw[E1.out];rfl,hB⟩
structure InstP' (w:World) (b o:Nat) (p:InstQ):Prop where
 box:Box4 w b o (.bool p.has) p.vb p.vr p.vd
 rd:instK.rd w p
theorem InstP'.below{w w':World}{b o:Nat}{p:InstQ}(h:InstP' w b o p)(hb:Below w.heap.size w w'):InstP' w' b o p:=⟨h.box.below hb,instK.rd_below h.rd hb⟩
theorem z9v(b o b' o':Nat)(p q:InstQ)(w:World)(hP:InstP' w b o p)(hQ:InstP' w b' o' q)(hl:p.n≤1048576)(ad:q.n≤1048576):
  Calls Tryz.prog 12 #[.pointer (some ⟨b,o,none⟩),.pointer (some ⟨b',o',none⟩)] w fun e w'=>e=.returned (.bool (sameN p.e q.e))∧Below w.heap.size w w':=by
 have hB:Below w.heap.size w w:=Below.refl _ _;obtain⟨h1,vb,bt,vr,rs,vd,dc⟩:=p;obtain⟨h2,ai,z,ak,d,aj,D⟩:=q;obtain⟨hT,hR,hD⟩:txnK.At w vb bt∧roundK.At w vr rs∧intK.At w vd dc:=hP.rd;obtain⟨gT,gR,gD⟩:txnK.At w ai z∧roundK.At w ak d∧intK.At w aj D:=hQ.rd;dsimp only[InstQ.n]at hl ad;obtain⟨a1,k1,rfl⟩:=hT.shape;obtain⟨a2,k2,rfl⟩:=hR.shape;obtain⟨a3,k3,rfl⟩:=hD.shape;obtain⟨b1,m1,rfl⟩:=gT.shape;obtain⟨b2,m2,rfl⟩:=gR.shape;obtain⟨b3,m3,rfl⟩:=gD.shape;have e1:=fun w h h'=>z0N (.slice a1 bt.length k1) (.slice b1 z.length m1) (bt.map TxnQ.e) (z.map TxnQ.e) w h h' (by rw[List.length_map,z0u];omega) (by rw[List.length_map,z0u];omega)
 have e3:=fun w h h'=>z3w a3 b3 k3 m3 dc D w h h' (by omega) (by omega)
 generalize hE:sameN _ _=E;have HE:Hid (E=((h1==h2) && sameTs (bt.map TxnQ.e) (z.map TxnQ.e) && sameRs (rs.map RoundQ.e) (d.map RoundQ.e) && sameZs dc D)):=hE.symm;clear hE;generalize sameTs (bt.map TxnQ.e) (z.map TxnQ.e)=X at*;generalize sameZs dc D=Z at*;go_enter Tryz.func12,Tryz.ntmps12
 go_wp2_with fail
 cases hh:(h1==h2)with
 |false=>
  have V:(h1 !=h2)=true:=by
   have:h1≠h2:=by simpa using hh
   simpa using this
  have E1:Hid (E=false):=by rw[HE.out,hh];rfl
  have hW:Below w.heap.size w w.drew:=(Below.refl _ _).drew;have y:Nonempty (Lat w):=⟨⟨w,Below.refl _ _⟩⟩
  have c0:=z0a hP.box.c0;have c1:=z0a hP.box.c1;have c2:=z0a hP.box.c2;have c3:=z0a hP.box.c3;have d0:=z0a hQ.box.c0;have d1:=z0a hQ.box.c1;have d2:=z0a hQ.box.c2;have d3:=z0a hQ.box.c3;dsimp only at c0 c1 c2 c3 d0 d1 d2 d3;clear HE;refine z0b (S:=fun w'=>∃u:Lat w,w'=u.val) (by kernel_rfl) ?_;refine sgr [(0,18)] 28 (by kernel_rfl) ⟨⟨_,hW⟩,rfl⟩ ?_;simp only[pkE];repeat go_big_quiet_step (fail)
  refine wpQuiet_nil ?_;refine ska 18 (some 24) 27 (by kernel_rfl) ⟨⟨_,hW⟩,rfl⟩ ?_;simp only[Act.put,pjE];refine sgr [(19,7),(27,4)] 16 (by kernel_rfl) ⟨⟨_,hW⟩,rfl⟩ ?_;simp only[pkE];repeat go_big_quiet_step (fail)
  refine wpQuiet_nil ?_;refine ska 26 (some 32) 15 (by kernel_rfl) ⟨⟨_,hW⟩,rfl⟩ ?_;simp only[Act.put,pjE];refine ska 31 (some 37) 14 (by kernel_rfl) ⟨⟨_,hW⟩,rfl⟩ ?_;simp only[Act.put,pjE];refine sgr [(32,11)] 3 (by kernel_rfl) ⟨⟨_,hW⟩,rfl⟩ ?_;simp only[pkE];repeat go_big_quiet_step (fail)
  refine wpQuiet_nil ?_;refine ska 43 (some 49) 2 (by kernel_rfl) ⟨⟨_,hW⟩,rfl⟩ ?_;simp only[Act.put,pjE];refine sgr [(44,2)] 0 (by kernel_rfl) ⟨⟨_,hW⟩,rfl⟩ ?_;simp only[pkE];repeat go_big_quiet_step (fail)
  refine wpQuiet_nil ?_;refine z0f (by kernel_rfl) ?_;replace hB:=hB.trans (hW.mono hB.size);clear c0 c1 c2 c3 d0 d1 d2 d3 hW y
  go_wp2
  go_ret;exact⟨by rw[E1.out];rfl,hB⟩
 |true=>
  have V:(h1 !=h2)=false:=by
   have:h1=h2:=by simpa using hh
   simp[this]
  rw[hh]at HE
  cases X with
  |false=>
   have E1:Hid (E=false):=by rw[HE.out];rfl
   have hW:Below w.heap.size w w.drew:=(Below.refl _ _).drew;have y:Nonempty (Lat w):=⟨⟨w,Below.refl _ _⟩⟩
   have c0:=z0a hP.box.c0;have c1:=z0a hP.box.c1;have c2:=z0a hP.box.c2;have c3:=z0a hP.box.c3;have d0:=z0a hQ.box.c0;have d1:=z0a hQ.box.c1;have d2:=z0a hQ.box.c2;have d3:=z0a hQ.box.c3;dsimp only at c0 c1 c2 c3 d0 d1 d2 d3;clear HE;refine z0b (S:=fun w'=>∃u:Lat w,w'=u.val) (by kernel_rfl) ?_;refine sgr [(0,18)] 28 (by kernel_rfl) ⟨⟨_,hW⟩,rfl⟩ ?_;simp only[pkE];repeat go_big_quiet_step (fail)
   refine wpQuiet_nil ?_;refine cla 18 (some 24) 29 #[.slice a1 bt.length k1,.slice b1 z.length m1] 27 (by kernel_rfl) ?_;refine(e1 _ (z0k (hT.below hW)) (z0k (gT.below hW))).mono ?_;rintro e w9 ⟨rfl,c⟩;replace hW:=hW.trans (c.mono hW.size);clear c;refine⟨_,rfl,⟨⟨_,hW⟩,rfl⟩,?_⟩;simp only[Act.put,pjE];refine sgr [(19,7),(27,4)] 16 (by kernel_rfl) ⟨⟨_,hW⟩,rfl⟩ ?_;simp only[pkE];repeat go_big_quiet_step (fail)
   refine wpQuiet_nil ?_;refine ska 26 (some 32) 15 (by kernel_rfl) ⟨⟨_,hW⟩,rfl⟩ ?_;simp only[Act.put,pjE];refine ska 31 (some 37) 14 (by kernel_rfl) ⟨⟨_,hW⟩,rfl⟩ ?_;simp only[Act.put,pjE];refine sgr [(32,11)] 3 (by kernel_rfl) ⟨⟨_,hW⟩,rfl⟩ ?_;simp only[pkE];repeat go_big_quiet_step (fail)
   refine wpQuiet_nil ?_;refine ska 43 (some 49) 2 (by kernel_rfl) ⟨⟨_,hW⟩,rfl⟩ ?_;simp only[Act.put,pjE];refine sgr [(44,2)] 0 (by kernel_rfl) ⟨⟨_,hW⟩,rfl⟩ ?_;simp only[pkE];repeat go_big_quiet_step (fail)
   refine wpQuiet_nil ?_;refine z0f (by kernel_rfl) ?_;replace hB:=hB.trans (hW.mono hB.size);clear c0 c1 c2 c3 d0 d1 d2 d3 hW y
   go_wp2
   go_ret;exact⟨by rw[E1.out];rfl,hB⟩
  |true=>
   by_cases A:rs.length=d.length
   case neg=>
    have hd:((rs.length:Int) !=(d.length:Int))=true:=by simp;omega
    have hs:sameRs (rs.map RoundQ.e) (d.map RoundQ.e)=false:=z0X (f:=sameR) rfl (fun _ _ _ _=>rfl) (fun _ _=>rfl) (fun _ _=>rfl) _ _ (by simpa using A);have E1:Hid (E=false):=by rw[HE.out,hs];rfl
    have hW:Below w.heap.size w w.drew:=(Below.refl _ _).drew;have y:Nonempty (Lat w):=⟨⟨w,Below.refl _ _⟩⟩
    have c0:=z0a hP.box.c0;have c1:=z0a hP.box.c1;have c2:=z0a hP.box.c2;have c3:=z0a hP.box.c3;have d0:=z0a hQ.box.c0;have d1:=z0a hQ.box.c1;have d2:=z0a hQ.box.c2;have d3:=z0a hQ.box.c3;dsimp only at c0 c1 c2 c3 d0 d1 d2 d3;clear HE;refine z0b (S:=fun w'=>∃u:Lat w,w'=u.val) (by kernel_rfl) ?_;refine sgr [(0,18)] 28 (by kernel_rfl) ⟨⟨_,hW⟩,rfl⟩ ?_;simp only[pkE];repeat go_big_quiet_step (fail)
    refine wpQuiet_nil ?_;refine cla 18 (some 24) 29 #[.slice a1 bt.length k1,.slice b1 z.length m1] 27 (by kernel_rfl) ?_;refine(e1 _ (z0k (hT.below hW)) (z0k (gT.below hW))).mono ?_;rintro e w9 ⟨rfl,c⟩;replace hW:=hW.trans (c.mono hW.size);clear c;refine⟨_,rfl,⟨⟨_,hW⟩,rfl⟩,?_⟩;simp only[Act.put,pjE];refine sgr [(19,7),(27,4)] 16 (by kernel_rfl) ⟨⟨_,hW⟩,rfl⟩ ?_;simp only[pkE];repeat go_big_quiet_step (fail)
    refine wpQuiet_nil ?_;refine qta 26 (some 32) (.int .i64 (rs.length:Int)) 15 (by kernel_rfl) (fun u _=>by kernel_rfl) ⟨⟨_,hW⟩,rfl⟩ ?_;simp only[Act.put,pjE];refine qta 31 (some 37) (.int .i64 (d.length:Int)) 14 (by kernel_rfl) (fun u _=>by kernel_rfl) ⟨⟨_,hW⟩,rfl⟩ ?_;simp only[Act.put,pjE];refine sgr [(32,11)] 3 (by kernel_rfl) ⟨⟨_,hW⟩,rfl⟩ ?_;simp only[pkE];repeat go_big_quiet_step (fail)
    refine wpQuiet_nil ?_;refine ska 43 (some 49) 2 (by kernel_rfl) ⟨⟨_,hW⟩,rfl⟩ ?_;simp only[Act.put,pjE];refine sgr [(44,2)] 0 (by kernel_rfl) ⟨⟨_,hW⟩,rfl⟩ ?_;simp only[pkE];repeat go_big_quiet_step (fail)
    refine wpQuiet_nil ?_;refine z0f (by kernel_rfl) ?_;replace hB:=hB.trans (hW.mono hB.size);clear c0 c1 c2 c3 d0 d1 d2 d3 hW y
    go_wp2
    go_ret;exact⟨by rw[E1.out];rfl,hB⟩
   case pos=>
    have hd:((rs.length:Int) !=(d.length:Int))=false:=by simp[A]
    have HL:Hid (rs.length=d.length):=A;have HM:Hid ((rs.map RoundQ.e).length=(d.map RoundQ.e).length):=show _=_ by simpa using A
    clear A
    cases Z with
    |false=>
     have E1:Hid (E=false):=show _=_ by rw[HE.out];simp
     have hW:Below w.heap.size w w.drew:=(Below.refl _ _).drew;have y:Nonempty (Lat w):=⟨⟨w,Below.refl _ _⟩⟩
     have c0:=z0a hP.box.c0;have c1:=z0a hP.box.c1;have c2:=z0a hP.box.c2;have c3:=z0a hP.box.c3;have d0:=z0a hQ.box.c0;have d1:=z0a hQ.box.c1;have d2:=z0a hQ.box.c2;have d3:=z0a hQ.box.c3;dsimp only at c0 c1 c2 c3 d0 d1 d2 d3;clear HE;refine z0b (S:=fun w'=>∃u:Lat w,w'=u.val) (by kernel_rfl) ?_;refine sgr [(0,18)] 28 (by kernel_rfl) ⟨⟨_,hW⟩,rfl⟩ ?_;simp only[pkE];repeat go_big_quiet_step (fail)
     refine wpQuiet_nil ?_;refine cla 18 (some 24) 29 #[.slice a1 bt.length k1,.slice b1 z.length m1] 27 (by kernel_rfl) ?_;refine(e1 _ (z0k (hT.below hW)) (z0k (gT.below hW))).mono ?_;rintro e w9 ⟨rfl,c⟩;replace hW:=hW.trans (c.mono hW.size);clear c;refine⟨_,rfl,⟨⟨_,hW⟩,rfl⟩,?_⟩;simp only[Act.put,pjE];refine sgr [(19,7),(27,4)] 16 (by kernel_rfl) ⟨⟨_,hW⟩,rfl⟩ ?_;simp only[pkE];repeat go_big_quiet_step (fail)
     refine wpQuiet_nil ?_;refine qta 26 (some 32) (.int .i64 (rs.length:Int)) 15 (by kernel_rfl) (fun u _=>by kernel_rfl) ⟨⟨_,hW⟩,rfl⟩ ?_;simp only[Act.put,pjE];refine qta 31 (some 37) (.int .i64 (d.length:Int)) 14 (by kernel_rfl) (fun u _=>by kernel_rfl) ⟨⟨_,hW⟩,rfl⟩ ?_;simp only[Act.put,pjE];refine sgr [(32,11)] 3 (by kernel_rfl) ⟨⟨_,hW⟩,rfl⟩ ?_;simp only[pkE];repeat go_big_quiet_step (fail)
     refine wpQuiet_nil ?_;refine cla 43 (some 49) 30 #[.slice a3 dc.length k3,.slice b3 D.length m3] 2 (by kernel_rfl) ?_;refine(e3 _ (z0m (hD.below hW)).2 (z0m (gD.below hW)).2).mono ?_;rintro e w9 ⟨rfl,c⟩;replace hW:=hW.trans (c.mono hW.size);clear c;refine⟨_,rfl,⟨⟨_,hW⟩,rfl⟩,?_⟩;simp only[Act.put,pjE];refine sgr [(44,2)] 0 (by kernel_rfl) ⟨⟨_,hW⟩,rfl⟩ ?_;simp only[pkE];repeat go_big_quiet_step (fail)
     refine wpQuiet_nil ?_;refine z0f (by kernel_rfl) ?_;replace hB:=hB.trans (hW.mono hB.size);clear c0 c1 c2 c3 d0 d1 d2 d3 hW y
     go_wp2
     go_ret;exact⟨by rw[E1.out];rfl,hB⟩
    |true=>
     have I:Hid (E=sameRs (rs.map RoundQ.e) (d.map RoundQ.e)):=by rw[HE.out,Bool.and_true];exact(rfl:_=_)
     clear HE;have hW:Below w.heap.size w w.drew:=(Below.refl _ _).drew;have y:Nonempty (Lat w):=⟨⟨w,Below.refl _ _⟩⟩
     have c0:=z0a hP.box.c0;have c1:=z0a hP.box.c1;have c2:=z0a hP.box.c2;have c3:=z0a hP.box.c3;have d0:=z0a hQ.box.c0;have d1:=z0a hQ.box.c1;have d2:=z0a hQ.box.c2;have d3:=z0a hQ.box.c3;dsimp only at c0 c1 c2 c3 d0 d1 d2 d3;refine z0b (S:=fun w'=>∃u:Lat w,w'=u.val) (by kernel_rfl) ?_;refine sgr [(0,18)] 28 (by kernel_rfl) ⟨⟨_,hW⟩,rfl⟩ ?_;simp only[pkE];repeat go_big_quiet_step (fail)
     refine wpQuiet_nil ?_;refine cla 18 (some 24) 29 #[.slice a1 bt.length k1,.slice b1 z.length m1] 27 (by kernel_rfl) ?_;refine(e1 _ (z0k (hT.below hW)) (z0k (gT.below hW))).mono ?_;rintro e w9 ⟨rfl,c⟩;replace hW:=hW.trans (c.mono hW.size);clear c;refine⟨_,rfl,⟨⟨_,hW⟩,rfl⟩,?_⟩;simp only[Act.put,pjE];refine sgr [(19,7),(27,4)] 16 (by kernel_rfl) ⟨⟨_,hW⟩,rfl⟩ ?_;simp only[pkE];repeat go_big_quiet_step (fail)
     refine wpQuiet_nil ?_;refine qta 26 (some 32) (.int .i64 (rs.length:Int)) 15 (by kernel_rfl) (fun u _=>by kernel_rfl) ⟨⟨_,hW⟩,rfl⟩ ?_;simp only[Act.put,pjE];refine qta 31 (some 37) (.int .i64 (d.length:Int)) 14 (by kernel_rfl) (fun u _=>by kernel_rfl) ⟨⟨_,hW⟩,rfl⟩ ?_;simp only[Act.put,pjE];refine sgr [(32,11)] 3 (by kernel_rfl) ⟨⟨_,hW⟩,rfl⟩ ?_;simp only[pkE];repeat go_big_quiet_step (fail)
     refine wpQuiet_nil ?_;refine cla 43 (some 49) 30 #[.slice a3 dc.length k3,.slice b3 D.length m3] 2 (by kernel_rfl) ?_;refine(e3 _ (z0m (hD.below hW)).2 (z0m (gD.below hW)).2).mono ?_;rintro e w9 ⟨rfl,c⟩;replace hW:=hW.trans (c.mono hW.size);clear c;refine⟨_,rfl,⟨⟨_,hW⟩,rfl⟩,?_⟩;simp only[Act.put,pjE];refine sgr [(44,2)] 0 (by kernel_rfl) ⟨⟨_,hW⟩,rfl⟩ ?_;simp only[pkE];repeat go_big_quiet_step (fail)
     refine wpQuiet_nil ?_;refine z0f (by kernel_rfl) ?_;replace hB:=hB.trans (hW.mono hB.size);clear c0 c1 c2 c3 d0 d1 d2 d3 hW y;clear e1 e3 hd hT gT hD gD hh V;have T:=hP.below hB;obtain⟨c0,c1,c2,c3⟩:=T.box;dsimp only at c0 c1 c2 c3
     go_wp2
     clear c0 c1 c2 c3 T;go_loopw[5] (fun j wr=>∃k:Nat,k≤rs.length∧j=.int .i64 k∧Hid (∀j,j<k→sameR ((rs.map RoundQ.e).getD j z3u) ((d.map RoundQ.e).getD j z3u)=true)∧Below w.heap.size w wr) (fun j _=>rs.length-(intOf j).toNat)
     case atStart=>exact⟨0,Nat.zero_le _,rfl,fun j hj=>absurd hj (Nat.not_lt_zero _),hB⟩
     case round=>
      clear hB;obtain⟨k,hk,rfl,HA,hB⟩:=hrel;have L:=hP.below hB;have aa:=hQ.below hB;have Y:=L.box.c2;dsimp only at Y;by_cases J:k<rs.length
      ·have C:k<d.length:=by have:=HL.out;omega
       obtain⟨rb,ro,rfl,an,hc,af⟩:=(hR.below hB).cell (by decide) k J;obtain⟨ag,ah,rfl,al,U,W⟩:=(gR.below hB).cell (by decide) k C;have M:∀j x,(roundK.cells rs[k])[j]?=some x→wr.cell? ⟨rb,ro+k*2+j,none⟩=some x:=hc;have N:∀j x,(roundK.cells d[k])[j]?=some x→wr.cell? ⟨ag,ah+k*2+j,none⟩=some x:=U;have f0:=M 0 (rs[k].vr) rfl;have f1:=M 1 (rs[k].vp) rfl;have g0:=N 0 (d[k].vr) rfl;have g1:=N 1 (d[k].vp) rfl;have n1:=z0W RoundQ.n rs k J;have n2:=z0W RoundQ.n d k C;have HY:Hid (sameR (RoundQ.e rs[k]) (RoundQ.e d[k])=false→E=false):=fun hx=>by
        rw[I.out];exact z0Y (f:=sameR) z3u (fun _ _ _ _=>rfl) _ _ k HM.out (by simpa using J) (by rw[z2e rs k J,z2e d k C];exact hx)
       have HN:Hid (sameR (RoundQ.e rs[k]) (RoundQ.e d[k])=true→∀j,j<k+1→sameR ((rs.map RoundQ.e).getD j z3u) ((d.map RoundQ.e).getD j z3u)=true):=fun hx j hj=>by
        by_cases ab:j=k
        ·subst ab;rw[z2e rs j J,z2e d j C];exact hx
        ·exact HA.out j (by omega)
       clear HA hc M U N Y;generalize rs[k]=p at*;generalize d[k]=q at*;obtain⟨pv,pr,pw,pp⟩:=p;obtain⟨qv,qr,qw,qp⟩:=q;obtain⟨u1,u2⟩:intK.At wr pv pr∧intK.At wr pw pp:=af;obtain⟨t1,t2⟩:intK.At wr qv qr∧intK.At wr qw qp:=W;obtain⟨x1,j1,rfl⟩:=u1.shape;obtain⟨x2,j2,rfl⟩:=u2.shape;obtain⟨y1,l1,rfl⟩:=t1.shape;obtain⟨y2,l2,rfl⟩:=t2.shape;dsimp only[RoundQ.n,RoundQ.e,sameR]at f0 f1 g0 g1 n1 n2 HY HN;rw[Nat.add_zero]at f0 g0;have s1:=fun w h h'=>z3w x1 y1 j1 l1 pr qr w h h' (by omega) (by omega)
       have s2:=fun w h h'=>z3w x2 y2 j2 l2 pp qp w h h' (by omega) (by omega)
       generalize sameZs pr qr=X1 at*;generalize sameZs pp qp=X2 at*;have hW:Below wr.heap.size wr wr.drew:=(Below.refl _ _).drew;have y:Nonempty (Lat wr):=⟨⟨wr,Below.refl _ _⟩⟩
       have c2:=z0a L.box.c2;have d2:=z0a aa.box.c2;have v0:=z0a f0;have v1:=z0a f1;have z0:=z0a g0;have z1:=z0a g1;dsimp only at c2 d2;have O:=L.box.c2;dsimp only at O;have am:(k:Int)<(rs.length:Int):=by omega
       have ae:(k:Int)<(d.length:Int):=by omega
       clear f0 f1 g0 g1
       go_wp2_with fail
       clear O
       cases X1 with
       |false=>
        have E1:Hid (E=false):=HY.out rfl;refine z0b (S:=fun w'=>∃u:Lat wr,w'=u.val) (by kernel_rfl) ?_;refine sgr [(0,16)] 22 (by kernel_rfl) ⟨⟨_,hW⟩,rfl⟩ ?_;simp only[pkE];repeat go_big_quiet_step (fail)
        refine wpQuiet_nil ?_;refine cla 16 (some 77) 30 #[.slice x1 pr.length j1,.slice y1 qr.length l1] 21 (by kernel_rfl) ?_;refine(s1 _ (z0m (u1.below hW)).2 (z0m (t1.below hW)).2).mono ?_;rintro e w9 ⟨rfl,c⟩;replace hW:=hW.trans (c.mono hW.size);clear c;refine⟨_,rfl,⟨⟨_,hW⟩,rfl⟩,?_⟩;simp only[Act.put,pjE];refine sgr [(17,18)] 3 (by kernel_rfl) ⟨⟨_,hW⟩,rfl⟩ ?_;simp only[pkE];repeat go_big_quiet_step (fail)
        refine wpQuiet_nil ?_;refine ska 35 (some 96) 2 (by kernel_rfl) ⟨⟨_,hW⟩,rfl⟩ ?_;simp only[Act.put,pjE];refine sgr [(36,2)] 0 (by kernel_rfl) ⟨⟨_,hW⟩,rfl⟩ ?_;simp only[pkE];repeat go_big_quiet_step (fail)
        refine wpQuiet_nil ?_;refine z0f (by kernel_rfl) ?_;replace hB:=hB.trans (hW.mono hB.size);clear c2 d2 v0 v1 z0 z1 hW y s1 s2 HY HN I
        go_wp2
        go_ret;exact⟨by rw[E1.out];rfl,hB⟩
       |true=>
        cases X2 with
        |false=>
         have E1:Hid (E=false):=HY.out rfl;refine z0b (S:=fun w'=>∃u:Lat wr,w'=u.val) (by kernel_rfl) ?_;refine sgr [(0,16)] 22 (by kernel_rfl) ⟨⟨_,hW⟩,rfl⟩ ?_;simp only[pkE];repeat go_big_quiet_step (fail)
         refine wpQuiet_nil ?_;refine cla 16 (some 77) 30 #[.slice x1 pr.length j1,.slice y1 qr.length l1] 21 (by kernel_rfl) ?_;refine(s1 _ (z0m (u1.below hW)).2 (z0m (t1.below hW)).2).mono ?_;rintro e w9 ⟨rfl,c⟩;replace hW:=hW.trans (c.mono hW.size);clear c;refine⟨_,rfl,⟨⟨_,hW⟩,rfl⟩,?_⟩;simp only[Act.put,pjE];refine sgr [(17,18)] 3 (by kernel_rfl) ⟨⟨_,hW⟩,rfl⟩ ?_;simp only[pkE];repeat go_big_quiet_step (fail)
         refine wpQuiet_nil ?_;refine cla 35 (some 96) 30 #[.slice x2 pp.length j2,.slice y2 qp.length l2] 2 (by kernel_rfl) ?_;refine(s2 _ (z0m (u2.below hW)).2 (z0m (t2.below hW)).2).mono ?_;rintro e w9 ⟨rfl,c⟩;replace hW:=hW.trans (c.mono hW.size);clear c;refine⟨_,rfl,⟨⟨_,hW⟩,rfl⟩,?_⟩;simp only[Act.put,pjE];refine sgr [(36,2)] 0 (by kernel_rfl) ⟨⟨_,hW⟩,rfl⟩ ?_;simp only[pkE];repeat go_big_quiet_step (fail)
         refine wpQuiet_nil ?_;refine z0f (by kernel_rfl) ?_;replace hB:=hB.trans (hW.mono hB.size);clear c2 d2 v0 v1 z0 z1 hW y s1 s2 HY HN I
         go_wp2
         go_ret;exact⟨by rw[E1.out];rfl,hB⟩
        |true=>
         have R:=HN.out rfl;have HR:Hid _:=R;clear R HN HY;refine z0b (S:=fun w'=>∃u:Lat wr,w'=u.val) (by kernel_rfl) ?_;refine sgr [(0,16)] 22 (by kernel_rfl) ⟨⟨_,hW⟩,rfl⟩ ?_;simp only[pkE];repeat go_big_quiet_step (fail)
         refine wpQuiet_nil ?_;refine cla 16 (some 77) 30 #[.slice x1 pr.length j1,.slice y1 qr.length l1] 21 (by kernel_rfl) ?_;refine(s1 _ (z0m (u1.below hW)).2 (z0m (t1.below hW)).2).mono ?_;rintro e w9 ⟨rfl,c⟩;replace hW:=hW.trans (c.mono hW.size);clear c;refine⟨_,rfl,⟨⟨_,hW⟩,rfl⟩,?_⟩;simp only[Act.put,pjE];refine sgr [(17,18)] 3 (by kernel_rfl) ⟨⟨_,hW⟩,rfl⟩ ?_;simp only[pkE];repeat go_big_quiet_step (fail)
         refine wpQuiet_nil ?_;refine cla 35 (some 96) 30 #[.slice x2 pp.length j2,.slice y2 qp.length l2] 2 (by kernel_rfl) ?_;refine(s2 _ (z0m (u2.below hW)).2 (z0m (t2.below hW)).2).mono ?_;rintro e w9 ⟨rfl,c⟩;replace hW:=hW.trans (c.mono hW.size);clear c;refine⟨_,rfl,⟨⟨_,hW⟩,rfl⟩,?_⟩;simp only[Act.put,pjE];refine sgr [(36,2)] 0 (by kernel_rfl) ⟨⟨_,hW⟩,rfl⟩ ?_;simp only[pkE];repeat go_big_quiet_step (fail)
         refine wpQuiet_nil ?_;refine z0f (by kernel_rfl) ?_;replace hB:=hB.trans (hW.mono hB.size);clear c2 d2 v0 v1 z0 z1 hW y s1 s2
         go_wp2
         go_roundw
         case rel=>exact⟨k+1,by omega,by go_num,HR.out,hB⟩
         case measure=>simp[intOf];omega
      ·have E1:Hid (E=true):=by rw[I.out];exact z0Z (f:=sameR) z3u rfl (fun _ _ _ _=>rfl) _ _ HM.out (fun j hj=>HA.out j (Nat.lt_of_lt_of_le (show j<rs.length by simpa using hj) (by omega)))
       clear HA I
       go_wp2
       go_ret;exact⟨by rw[E1.out];rfl,hB⟩
def z2H:InstE:=⟨false,[],[],[]⟩
def sameNs:List InstE→List InstE→Bool
 |[],[]=>true
 |x::r,y::s=>sameN x y && sameNs r s
 |_,_=>false
theorem z1j(xs:List InstQ)(k:Nat)(hk:k<xs.length):(xs.map InstQ.e).getD k z2H=InstQ.e xs[k]:=by simp[List.getD,hk]
theorem z9w(v v':Value)(xs ys:List InstQ)(w:World)(h:instK.At w v xs)(h':instK.At w v' ys)(hl:xs.length+nmL InstQ.n xs≤1048576)(aa:ys.length+nmL InstQ.n ys≤1048576):
  Calls Tryz.prog 38 #[v,v',.func (.func 20) #[] #[]] w fun e w'=>e=.returned (.bool (sameNs (xs.map InstQ.e) (ys.map InstQ.e)))∧Below w.heap.size w w':=by
 obtain⟨a,cap,rfl⟩:=h.shape;obtain⟨a',Y,rfl⟩:=h'.shape;by_cases d:xs.length=ys.length
 case neg=>
  have E:sameNs (xs.map InstQ.e) (ys.map InstQ.e)=false:=z0X (f:=sameN) rfl (fun _ _ _ _=>rfl) (fun _ _=>rfl) (fun _ _=>rfl) _ _ (by simpa using d);rw[E];have hd:((xs.length:Int) !=(ys.length:Int))=true:=by simp;omega
  go_enter Tryz.func38,Tryz.ntmps38
  go_wp2
  go_ret;exact⟨rfl,Below.refl _ _⟩
 case pos=>
  have hd:((xs.length:Int) !=(ys.length:Int))=false:=by simp[d]
  have HL:Hid (xs.length=ys.length):=d;have HM:Hid ((xs.map InstQ.e).length=(ys.map InstQ.e).length):=show _=_ by simpa using d
  clear d;generalize hE:sameNs (xs.map InstQ.e) (ys.map InstQ.e)=E;have HE:Hid (sameNs (xs.map InstQ.e) (ys.map InstQ.e)=E):=hE;clear hE;go_enter Tryz.func38,Tryz.ntmps38
  go_wp2
  go_loopw[17] (fun i wr=>∃k:Nat,k≤xs.length∧i=.int .i64 k∧Below w.heap.size w wr∧Hid (∀j,j<k→sameN ((xs.map InstQ.e).getD j z2H) ((ys.map InstQ.e).getD j z2H)=true)) (fun i _=>xs.length-(intOf i).toNat)
  case atStart=>exact⟨0,Nat.zero_le _,rfl,Below.refl _ _,fun j hj=>absurd hj (Nat.not_lt_zero _)⟩
  case round=>
   obtain⟨k,hk,rfl,hb,HA⟩:=hrel;by_cases D:k<xs.length
   ·have z:k<ys.length:=by have:=HL.out;omega
    obtain⟨b,W,rfl,Z,hc,I⟩:=(h.below hb).cell (by decide) k D;obtain⟨b',T,rfl,M,N,y⟩:=(h'.below hb).cell (by decide) k z;have A:∀j x,(instK.cells xs[k])[j]?=some x→wr.cell? ⟨b,W+k*4+j,none⟩=some x:=hc;have C:∀j x,(instK.cells ys[k])[j]?=some x→wr.cell? ⟨b',T+k*4+j,none⟩=some x:=N;have c0:=A 0 (.bool xs[k].has) rfl;have c1:=A 1 (xs[k].vb) rfl;have c2:=A 2 (xs[k].vr) rfl;have c3:=A 3 (xs[k].vd) rfl;have d0:=C 0 (.bool ys[k].has) rfl;have d1:=C 1 (ys[k].vb) rfl;have d2:=C 2 (ys[k].vr) rfl;have d3:=C 3 (ys[k].vd) rfl;have n1:=z0W InstQ.n xs k D;have n2:=z0W InstQ.n ys k z;have HY:Hid (sameN (InstQ.e xs[k]) (InstQ.e ys[k])=false→E=false):=fun hx=>by
     rw[←HE.out];exact z0Y (f:=sameN) z2H (fun _ _ _ _=>rfl) _ _ k HM.out (by simpa using D) (by rw[z1j xs k D,z1j ys k z];exact hx)
    have HN:Hid (sameN (InstQ.e xs[k]) (InstQ.e ys[k])=true→∀j,j<k+1→sameN ((xs.map InstQ.e).getD j z2H) ((ys.map InstQ.e).getD j z2H)=true):=fun hx j hj=>by
     by_cases V:j=k
     ·subst V;rw[z1j xs j D,z1j ys j z];exact hx
     ·exact HA.out j (by omega)
    have O:=z3Z xs[k] ys[k];have hq:=fun w f1 f2=>O w f1 f2 (by omega) (by omega)
    clear O;have U:∀ (o:Obj) (j:Nat),(wr.alloc o).cell? ⟨b',j,none⟩=wr.cell? ⟨b',j,none⟩:=fun o j=>(show Below wr.heap.size wr (wr.alloc o) by go_grown).cell (p:=⟨b',j,none⟩) M
    clear HA hc A N C;generalize xs[k]=p at*;generalize ys[k]=q at*;generalize sameN (InstQ.e p) (InstQ.e q)=X at*;obtain⟨ph,pv,pb,pw,pr,pu,pd⟩:=p;obtain⟨qh,qv,qb,qw,qr,qu,qd⟩:=q;obtain⟨a1,k1,rfl⟩:∃a c,pv=.slice a pb.length c:=I.1.shape;obtain⟨a2,k2,rfl⟩:∃a c,pw=.slice a pr.length c:=I.2.1.shape;obtain⟨a3,k3,rfl⟩:∃a c,pu=.slice a pd.length c:=I.2.2.shape;obtain⟨b1,m1,rfl⟩:∃a c,qv=.slice a qb.length c:=y.1.shape;obtain⟨b2,m2,rfl⟩:∃a c,qw=.slice a qr.length c:=y.2.1.shape;obtain⟨b3,m3,rfl⟩:∃a c,qu=.slice a qd.length c:=y.2.2.shape;dsimp only at c0 c1 c2 c3 d0 d1 d2 d3 hq;rw[Nat.add_zero]at c0 d0
    go_wp2_with fail
    refine(hq _ (instK.rd_below I (by go_grown)) (instK.rd_below y (by go_grown))).mono ?_;rintro e w2 ⟨rfl,J⟩;have L:=z0o (z0o hb (by go_grown)) J;clear J U c0 c1 c2 c3 d0 d1 d2 d3 I y hq
    cases X with
    |false=>
     have E1:Hid (E=false):=HY.out rfl;clear HY HN HE
     go_wp2
     go_ret;exact⟨by rw[E1.out];rfl,L⟩
    |true=>
     have R:=HN.out rfl;have HR:Hid _:=R;clear HY HN R
     go_wp2
     go_roundw
     case rel=>exact⟨k+1,by omega,by go_num,L,HR.out⟩
     case measure=>simp[intOf];omega
   ·have E1:Hid (E=true):=by rw[←HE.out];exact z0Z (f:=sameN) z2H rfl (fun _ _ _ _=>rfl) _ _ HM.out (fun j hj=>HA.out j (by simpa using(by simpa using hj:j<xs.length)|>fun h=>Nat.lt_of_lt_of_le h (by omega)))
    clear HA HE
    go_wp2
    go_ret;exact⟨by rw[E1.out];rfl,hb⟩
theorem z7g{w:World}{a:Option Addr}{n cap:Nat}{ps:List InstQ}(h:instK.At w (.slice a n cap) ps)(k:Nat)(hk:k<ps.length):∃b off,a=some ⟨b,off,none⟩∧b<w.heap.size∧InstP' w b (off+k*4) ps[k]:=by
 obtain⟨b,off,e,hb,hc,hrd⟩:=h.cell (by decide) k hk;have hc':∀j x,(instK.cells ps[k])[j]?=some x→w.cell? ⟨b,off+k*4+j,none⟩=some x:=hc;exact⟨b,off,e,hb,⟨hc' 0 (.bool ps[k].has) rfl,hc' 1 ps[k].vb rfl,hc' 2 ps[k].vr rfl,hc' 3 ps[k].vd rfl⟩,hrd⟩
section
open Go.Deep Go.ChangeShapes Go.WideShapes
section
variable {H:Type} {enc:TypeId × Value→H} {w:World} {base:Nat} {spare:Nat→Bool} {held:Bool}
theorem z9x(n:Nat)(l:List Value)(y:DataW H × List MemPlace)(h:DataW.trod enc Tryz.prog w base spare held n 60 l=some y):∃p:InstQ,l=instK.cells p∧instK.rd w p∧InstQ.wf p:=by
 obtain⟨p,e,h1,h2⟩:=z5h h;exact⟨p,e,h1,h2⟩
end
section
variable {H:Type} {enc:TypeId × Value→H} {w:World} {base:Nat} {spare:Nat→Bool} {held:Bool}
theorem z7h{P:Program}{t:TypeId}{f0 f1 f2 f3 f4:Field}{fuel:Nat}{cs:List Value}{x:DataW H × List MemPlace}(ht:P.underlying t=some (.struct #[f0,f1,f2,f3,f4]))(h:DataW.trod enc P w base spare held fuel t cs=some x):
  ∃y0 y1 y2 y3 y4 n,cs.length=P.cellsOf t∧DataW.trod enc P w base spare held n f0.type ((cs.drop f0.offset).take (P.cellsOf f0.type))=some y0∧
   DataW.trod enc P w base spare held n f1.type ((cs.drop f1.offset).take (P.cellsOf f1.type))=some y1∧DataW.trod enc P w base spare held n f2.type ((cs.drop f2.offset).take (P.cellsOf f2.type))=some y2∧
   DataW.trod enc P w base spare held n f3.type ((cs.drop f3.offset).take (P.cellsOf f3.type))=some y3∧DataW.trod enc P w base spare held n f4.type ((cs.drop f4.offset).take (P.cellsOf f4.type))=some y4:=by
 obtain⟨xs,n,_,rfl,hl,hlen,hf⟩:=DataW.trod_struct ht h
 match xs,hlen with
 |[y0,y1,y2,y3,y4],_=>exact⟨y0,y1,y2,y3,y4,n,hl,by simpa using hf 0 f0 rfl,by simpa using hf 1 f1 rfl,by simpa using hf 2 f2 rfl,by simpa using hf 3 f3 rfl,by simpa using hf 4 f4 rfl⟩
theorem q0U{fuel:Nat}{cs:List Value}{x:DataW H × List MemPlace}(h:DataW.trod enc Tryz.prog w base spare held fuel 189 cs=some x):∃z:ItemD,cs=z.cells:=by
 obtain⟨y0,y1,n,_,hl,h0,h1⟩:=trod_struct2 Tryz.underlying189 h;rw[show Tryz.prog.cellsOf 189=2 by kernel_rfl]at hl;have e:Tryz.prog.cellsOf 2=1:=by kernel_rfl
 match cs,hl with
 |[c0,c1],_=>
  simp only[e,List.drop_zero,List.drop_succ_cons,List.take_succ_cons,List.take_zero]at h0 h1;obtain⟨k,e0,_⟩:=DataW.trod_int Tryz.underlying2 h0;obtain⟨y,e1,_⟩:=DataW.trod_int Tryz.underlying2 h1;simp only[List.cons.injEq,and_true]at e0 e1;exact⟨⟨k,y⟩,by rw[e0,e1];rfl⟩
theorem q0V{fuel:Nat}{cs:List Value}{x:DataW H × List MemPlace}(h:DataW.trod enc Tryz.prog w base spare held fuel 225 cs=some x):∃z:UndoD,cs=z.cells:=by
 obtain⟨y0,y1,y2,n,_,hl,h0,h1,h2⟩:=trod_struct3 Tryz.underlying225 h;rw[show Tryz.prog.cellsOf 225=3 by kernel_rfl]at hl;have e:Tryz.prog.cellsOf 2=1:=by kernel_rfl
 have e':Tryz.prog.cellsOf 4=1:=by kernel_rfl
 match cs,hl with
 |[c0,c1,c2],_=>
  simp only[e,e',List.drop_zero,List.drop_succ_cons,List.take_succ_cons,List.take_zero]at h0 h1 h2;obtain⟨k,e0,_⟩:=DataW.trod_int Tryz.underlying2 h0;obtain⟨y,e1,_⟩:=DataW.trod_bool Tryz.underlying4 h1;obtain⟨v,e2,_⟩:=DataW.trod_int Tryz.underlying2 h2;simp only[List.cons.injEq,and_true]at e0 e1 e2;exact⟨⟨k,y,v⟩,by rw[e0,e1,e2];rfl⟩
theorem z9y(n:Nat)(l:List Value)(y:DataW H × List MemPlace)(h:DataW.trod enc Tryz.prog w base spare held n 189 l=some y):∃p:ItemD,l=itemK.cells p∧itemK.rd w p∧True:=by
 obtain⟨z,e⟩:=q0U h;exact⟨z,e,trivial,trivial⟩
theorem z4J{fuel:Nat}{cs:List Value}{x:DataW H × List MemPlace}(h:DataW.trod enc Tryz.prog w base spare held fuel 62 cs=some x):
  ∃ (v:Value) (zs:List ItemD),cs=[v]∧itemK.At w v zs∧zs.length≤9223372036854775807:=by
 obtain⟨v,ps,h1,h2,h3,_⟩:=z1g itemK (fun _=>True) Tryz.underlying62 (by kernel_rfl) (by decide) z9y h;exact⟨v,ps,h1,h2,h3⟩
theorem z9z(n:Nat)(l:List Value)(y:DataW H × List MemPlace)(h:DataW.trod enc Tryz.prog w base spare held n 225 l=some y):∃p:UndoD,l=undoK.cells p∧undoK.rd w p∧True:=by
 obtain⟨z,e⟩:=q0V h;exact⟨z,e,trivial,trivial⟩
theorem z8b(n:Nat)(l:List Value)(y:DataW H × List MemPlace)(h:DataW.trod enc Tryz.prog w base spare held n 174 l=some y):∃p:USQ,l=ussK.cells p∧ussK.rd w p∧USQ.wf p:=by
 obtain⟨v,ps,h1,h2,h3,_⟩:=z1g undoK (fun _=>True) Tryz.underlying174 (by kernel_rfl) (by decide) z9z h;exact⟨⟨v,ps⟩,h1,h2,h3⟩
theorem q0W{fuel:Nat}{cs:List Value}{x:DataW H × List MemPlace}(h:DataW.trod enc Tryz.prog w base spare held fuel 63 cs=some x):
  ∃ (v:Value) (ps:List USQ),cs=[v]∧ussK.At w v ps∧ps.length≤9223372036854775807∧∀p∈ps,USQ.wf p:=
 z1g ussK USQ.wf Tryz.underlying63 (by kernel_rfl) (by decide) z8b h
theorem z6l{fuel:Nat}{cs:List Value}{x:DataW H × List MemPlace}(h:DataW.trod enc Tryz.prog w base spare held fuel 65 cs=some x):
  ∃p:RepQ,cs=[p.vd,p.vb,p.vt,p.vu,p.vn]∧repK.rd w p∧p.wf:=by
 obtain⟨y0,y1,y2,y3,y4,n,hl,h0,h1,h2,h3,h4⟩:=z7h Tryz.underlying65 h;rw[show Tryz.prog.cellsOf 65=5 by kernel_rfl]at hl;have e:Tryz.prog.cellsOf 57=1:=by kernel_rfl
 have e':Tryz.prog.cellsOf 62=1:=by kernel_rfl
 have e2:Tryz.prog.cellsOf 63=1:=by kernel_rfl
 match cs,hl with
 |[c0,c1,c2,c3,c4],_=>
  simp only[e,e',e2,List.drop_zero,List.drop_succ_cons,List.take_succ_cons,List.take_zero]at h0 h1 h2 h3 h4;obtain⟨v0,z0,e0,a0,l0,w0⟩:=z3r h0;obtain⟨v1,z1,e1,a1,l1⟩:=z4J h1;obtain⟨v2,z2,e2,a2,l2,w2⟩:=z3r h2;obtain⟨v3,z3,e3,a3,l3,w3⟩:=q0W h3;obtain⟨v4,z4,e4,a4,l4⟩:=z4J h4;simp only[List.cons.injEq,and_true]at e0 e1 e2 e3 e4;exact⟨⟨v0,z0,v1,z1,v2,z2,v3,z3,v4,z4⟩,by rw[e0,e1,e2,e3,e4],⟨a0,a1,a2,a3,a4⟩,⟨⟨l0,w0⟩,l1,⟨l2,w2⟩,⟨l3,w3⟩,l4⟩⟩
end
section
variable {H:Type} {enc:TypeId × Value→H} {w:World} {base:Nat} {spare:Nat→Bool} {held:Bool}
theorem z5k{fuel:Nat}{cs:List Value}{x:DataW H × List MemPlace}(h:DataW.trod enc Tryz.prog w base spare held fuel 67 cs=some x):
  ∃ (kn sf:Int) (p:RepQ),cs=[.int .i64 kn,.int .i64 sf,p.vd,p.vb,p.vt,p.vu,p.vn]∧repK.rd w p∧p.wf:=by
 obtain⟨y0,y1,y2,n,_,hl,h0,h1,h2⟩:=trod_struct3 Tryz.underlying67 h;rw[show Tryz.prog.cellsOf 67=7 by kernel_rfl]at hl;have e:Tryz.prog.cellsOf 2=1:=by kernel_rfl
 have e':Tryz.prog.cellsOf 65=5:=by kernel_rfl
 match cs,hl with
 |[c0,c1,c2,c3,c4,c5,c6],_=>
  simp only[e,e',List.drop_zero,List.drop_succ_cons,List.take_succ_cons,List.take_zero]at h0 h1 h2;obtain⟨k,e0,_⟩:=DataW.trod_int Tryz.underlying2 h0;obtain⟨s,e1,_⟩:=DataW.trod_int Tryz.underlying2 h1;obtain⟨p,e2,r,wf⟩:=z6l h2;simp only[List.cons.injEq,and_true]at e0 e1 e2;exact⟨k,s,p,by rw[e0,e1,e2.1,e2.2.1,e2.2.2.1,e2.2.2.2.1,e2.2.2.2.2],r,wf⟩
end
section
variable {H:Type} {enc:TypeId × Value→H} {w:World} {base:Nat} {spare:Nat→Bool} {held:Bool}
theorem z9A(n:Nat)(l:List Value)(y:DataW H × List MemPlace)(h:DataW.trod enc Tryz.prog w base spare held n 67 l=some y):∃p:NodeQ,l=nodeK.cells p∧nodeK.rd w p∧NodeQ.wf p:=by
 obtain⟨kn,sf,p,e,h1,h2⟩:=z5k h;exact⟨NodeQ.of kn sf p,e,h1,h2⟩
theorem q4k{r:Reach}{b0:Nat}{v:Value}{d:DataW H}{p:List MemPlace}(hv:Value.okWide Tryz.prog w r b0 25 v)(h:DataW.Trod enc Tryz.prog w base spare held 25 v d p):
  ∃q:CluQ,v=.agg #[q.vo,q.vm]∧cluK.rd w q∧q.wf:=by
 obtain⟨cs,rfl,hsz⟩:=okWide_struct Tryz.underlying25 hv;obtain⟨fuel,hf⟩:=h;obtain⟨y0,y1,n,_,hl,h0,h1⟩:=trod_struct2 Tryz.underlying25 hf;rw[show Tryz.prog.cellsOf 25=2 by kernel_rfl]at hl;have e0:Tryz.prog.cellsOf 22=1:=by kernel_rfl
 have e1:Tryz.prog.cellsOf 23=1:=by kernel_rfl
 obtain⟨l⟩:=cs
 match l,hl with
 |[c0,c1],_=>
  simp only[Value.cells,e0,e1,List.drop_zero,List.drop_succ_cons,List.take_succ_cons,List.take_zero]at h0 h1;obtain⟨v0,ps,f0,r0,l0,w0⟩:=z1g instK InstQ.wf Tryz.underlying22 (by kernel_rfl) (by decide) z9x h0;obtain⟨v1,qs,f1,r1,l1,w1⟩:=z1g nodeK NodeQ.wf Tryz.underlying23 (by kernel_rfl) (by decide) z9A h1;simp only[List.cons.injEq,and_true]at f0 f1;subst f0 f1;exact⟨⟨c0,ps,c1,qs⟩,rfl,⟨r0,r1⟩,⟨l0,w0⟩,⟨l1,w1⟩⟩
end
end
section
open Go.ChangeShapes Go.WideShapes
theorem q3I {W : World} (h : laidMet Tryz.prog [("loop.example/g00631/impl.rules", Rows.laid_loop_example_g00631_impl_rules)] W) : Rul W := by
 obtain⟨g,t,cs,fuel,p,hg,ht,hvar,hd⟩:=Lib.laidMet.reads h (List.mem_singleton.2 rfl);obtain rfl:=Option.some.inj (gRul.symm.trans hg);obtain rfl:=Option.some.inj (tRul.symm.trans ht);unfold Rows.laid_loop_example_g00631_impl_rules at hd;have e:∀i,i<5→∃fuel' d q,_∧_:=fun i hi=>Lib.array_elem Tryz.underlying333 hd i hi
 rw[q36]at e;obtain⟨f0,d0,q0,r0,s0⟩:=e 0 (by omega);obtain⟨f1,d1,q1,r1,s1⟩:=e 1 (by omega);obtain⟨f2,d2,q2,r2,s2⟩:=e 2 (by omega);obtain⟨f3,d3,q3,r3,s3⟩:=e 3 (by omega);obtain⟨f4,d4,q4,r4,s4⟩:=e 4 (by omega);simp only[List.getElem?_cons_zero,List.getElem?_cons_succ,Option.some.injEq]at r0 r1 r2 r3 r4;subst r0 r1 r2 r3 r4;have t0:=z1B s0;have t1:=z1B s1;have t2:=z1B s2;have t3:=z1B s3;have t4:=z1B s4;have hall:cs.toList.take 35=q4z:=by
  rw[show 35=0*7+7+7+7+7+7 from rfl,List.take_add,List.take_add,List.take_add,List.take_add];rw[show 0*7+7+7+7+7=4*7 from rfl,show 0*7+7+7+7=3*7 from rfl,show 0*7+7+7=2*7 from rfl,show 0*7+7=1*7 from rfl,t1,t2,t3,t4];have t0':List.take (1*7) cs.toList=_:=t0;rw[t0'];rfl
 intro i v hv;have hi:i<35:=by
  have:=(List.getElem?_eq_some_iff.1 hv).1;simpa[q4z]using this
 rw[World.var?_cell hg hvar i,←Array.getElem?_toList];rw[←hall,List.getElem?_take,if_pos hi]at hv;exact hv
end
end Go.Proofs.YtljbililjlafcaaGreatDoor
