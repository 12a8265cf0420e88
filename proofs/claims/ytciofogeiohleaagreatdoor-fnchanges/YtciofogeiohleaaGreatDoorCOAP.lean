/- Texts joined,with what the laws reach alone. -/
import Derived.Test.YtciofogeiohleaaGreatDoorCOAN
set_option linter.unusedVariables false
set_option linter.unusedSimpArgs false
set_option maxRecDepth 100000
set_option maxHeartbeats 8000000
namespace Go.Proofs.YtciofogeiohleaaGreatDoor
open Go.RowKit Go.BigFrame
theorem Blk.lts4{w:World}{b:Nat}{t:TypeId}{x0 x1 x2 x3:Value}{r:List Value}(h:Blk w b t (x0::x1::x2::x3::r).toArray):(∀u:Lat w,u.val.cell? ⟨b,0,none⟩=some x0)∧(∀u:Lat w,u.val.cell? ⟨b,1,none⟩=some x1)∧(∀u:Lat w,u.val.cell? ⟨b,2,none⟩=some x2)∧(∀u:Lat w,u.val.cell? ⟨b,3,none⟩=some x3):=
 ⟨h.lat 0 _ rfl,h.lat 1 _ rfl,h.lat 2 _ rfl,h.lat 3 _ rfl⟩
def kps(was now:List Int):Bool:=(List.range was.length).all (fun i=>(was.getD i 0==3)||(now.getD i 0==was.getD i 0))
section
open Go.Deep Go.ChangeShapes Go.WideShapes
end
section
open Go.ChangeShapes Go.WideShapes
theorem q0t {W : World} (h : laidMetH Tryz.prog [("loop.example/g00631/impl.rules", Rows.laid_loop_example_g00631_impl_rules)] W) : Rul W := by
 rw[MakeChecks.laidMetH_plain _ _ _ (by kernel_rfl)]at h;obtain⟨g,t,cs,fuel,p,hg,ht,hvar,hd⟩:=Lib.laidMet.reads h (List.mem_singleton.2 rfl);obtain rfl:=Option.some.inj (gRul.symm.trans hg);obtain rfl:=Option.some.inj (tRul.symm.trans ht);unfold Rows.laid_loop_example_g00631_impl_rules at hd;have e:∀i,i<5→∃fuel' d q,_∧_:=fun i hi=>Lib.array_elem Tryz.underlying323 hd i hi
 rw[q0o]at e;obtain⟨f0,d0,q0,r0,s0⟩:=e 0 (by omega);obtain⟨f1,d1,q1,r1,s1⟩:=e 1 (by omega);obtain⟨f2,d2,q2,r2,s2⟩:=e 2 (by omega);obtain⟨f3,d3,q3,r3,s3⟩:=e 3 (by omega);obtain⟨f4,d4,q4,r4,s4⟩:=e 4 (by omega);simp only[List.getElem?_cons_zero,List.getElem?_cons_succ,Option.some.injEq]at r0 r1 r2 r3 r4;subst r0 r1 r2 r3 r4;have t0:=z0V s0;have t1:=z0V s1;have t2:=z0V s2;have t3:=z0V s3;have t4:=z0V s4;have hall:cs.toList.take 35=q0K:=by
  rw[show 35=0*7+7+7+7+7+7 from rfl,List.take_add,List.take_add,List.take_add,List.take_add];rw[show 0*7+7+7+7+7=4*7 from rfl,show 0*7+7+7+7=3*7 from rfl,show 0*7+7+7=2*7 from rfl,show 0*7+7=1*7 from rfl,t1,t2,t3,t4];have t0':List.take (1*7) cs.toList=_:=t0;rw[t0'];rfl
 intro i v hv;have hi:i<35:=by
  have:=(List.getElem?_eq_some_iff.1 hv).1;simpa[q0K]using this
 rw[World.var?_cell hg hvar i,←Array.getElem?_toList];rw[←hall,List.getElem?_take,if_pos hi]at hv;exact hv
end
def z4z(x y:Int):Bool:=x==y
def sameZs:List Int→List Int→Bool
 |[],[]=>true
 |x::r,y::s=>z4z x y && sameZs r s
 |_,_=>false
def sameR(x y:RoundE):Bool:=sameZs x.rep y.rep && sameZs x.pro y.pro
def sameRs:List RoundE→List RoundE→Bool
 |[],[]=>true
 |x::r,y::s=>sameR x y && sameRs r s
 |_,_=>false
def sameI(x y:InstE):Bool:=(x.has==y.has) && sameTs x.batch y.batch && sameRs x.rounds y.rounds && sameZs x.dec y.dec
def z1d:RoundE:=⟨[],[]⟩
theorem z0Q(rs:List RoundQ)(r:Nat)(hr:r<rs.length):(rs.map RoundQ.e).getD r z1d=RoundQ.e rs[r]:=by simp[List.getD,hr]
theorem z3l(a a':Option Addr)(cap d:Nat)(xs ys:List Int)(w:World)(h:Row .i64 w a xs)(h':Row .i64 w a' ys)(hl:xs.length≤1048576)(G:ys.length≤1048576):
  Calls Tryz.prog 124 #[.slice a xs.length cap,.slice a' ys.length d] w fun e w'=>e=.returned (.bool (sameZs xs ys))∧Below w.heap.size w w':=by
 by_cases c:xs.length=ys.length
 case neg=>
  have E:sameZs xs ys=false:=z11 (f:=z4z) rfl (fun _ _ _ _=>rfl) (fun _ _=>rfl) (fun _ _=>rfl) xs ys c;rw[E];have hd:((xs.length:Int) !=(ys.length:Int))=true:=by simp;omega
  go_enter Tryz.func124,Tryz.ntmps124
  go_wp2
  go_ret;exact⟨rfl,Below.refl _ _⟩
 case pos=>
  have hd:((xs.length:Int) !=(ys.length:Int))=false:=by simp[c]
  have HL:Hid (xs.length=ys.length):=c;clear c;go_enter Tryz.func124,Tryz.ntmps124
  go_wp2
  go_loopw[13] (fun i wr=>∃k m:Nat,k≤xs.length∧i=.int .i64 k∧wr=w.drewN m∧Hid (∀j,j<k→z4z (xs.getD j 0) (ys.getD j 0)=true)) (fun i _=>xs.length-(intOf i).toNat)
  case atStart=>exact⟨0,0,Nat.zero_le _,rfl,rfl,fun j hj=>absurd hj (Nat.not_lt_zero _)⟩
  case round=>
   obtain⟨k,m,hk,rfl,rfl,HA⟩:=hrel;by_cases s:k<xs.length
   ·have x:k<ys.length:=by have:=HL.out;omega
    obtain⟨b,I,rfl,D,q⟩:=h k s;obtain⟨b',C,rfl,A,r⟩:=h' k x
    cases hs:z4z (xs.getD k 0) (ys.getD k 0)
    case false=>
     have E:Hid (sameZs xs ys=false):=z12 (f:=z4z) 0 (fun _ _ _ _=>rfl) xs ys k HL.out s hs;have hr:(xs.getD k 0 !=ys.getD k 0)=true:=by
      unfold z4z at hs;simpa using hs
     clear HA hs;generalize xs.getD k 0=z at q hr;generalize ys.getD k 0=z' at r hr
     go_wp2
     go_quiet (fail)
     go_wp2
     go_ret;rw[E.out];exact⟨rfl,⟨rfl,rfl,rfl,Nat.le_refl _,fun _ _=>rfl⟩⟩
    case true=>
     have HB:Hid (∀j,j<k+1→z4z (xs.getD j 0) (ys.getD j 0)=true):=by
      intro j hj;by_cases y:j=k
      ·subst y;exact hs
      ·exact HA.out j (by omega)
     have hr:(xs.getD k 0 !=ys.getD k 0)=false:=by
      unfold z4z at hs;simpa using hs
     clear HA hs;generalize xs.getD k 0=z at q hr;generalize ys.getD k 0=z' at r hr
     go_wp2
     go_quiet (fail)
     go_wp2
     go_roundw
     case rel=>exact⟨k+1,_,by omega,by go_num,rfl,HB⟩
     case measure=>simp[intOf];omega
   ·have E:Hid (sameZs xs ys=true):=z13 (f:=z4z) 0 rfl (fun _ _ _ _=>rfl) xs ys HL.out (fun j hj=>HA.out j (by omega));clear HA
    go_wp2
    go_ret;rw[E.out];exact⟨rfl,⟨rfl,rfl,rfl,Nat.le_refl _,fun _ _=>rfl⟩⟩
theorem z4A(p q:RoundQ)(w:World)(h:roundK.rd w p)(h':roundK.rd w q)(hl:p.n≤1048576)(hl':q.n≤1048576):
  Calls Tryz.prog 123 #[.agg #[p.vr,p.vp],.agg #[q.vr,q.vp]] w fun e w'=>e=.returned (.bool (sameR p.e q.e))∧Below w.heap.size w w':=by
 obtain⟨pv,pr,pw,pp⟩:=p;obtain⟨qv,qr,qw,qp⟩:=q;obtain⟨h1,h2⟩:intK.At w pv pr∧intK.At w pw pp:=h;obtain⟨g1,g2⟩:intK.At w qv qr∧intK.At w qw qp:=h';dsimp only[RoundQ.n]at hl hl';obtain⟨a1,k1,rfl⟩:=h1.shape;obtain⟨a2,k2,rfl⟩:=h2.shape;obtain⟨b1,m1,rfl⟩:=g1.shape;obtain⟨b2,m2,rfl⟩:=g2.shape;have hB:Below w.heap.size w ((w.alloc (.cells #[.slice a1 pr.length k1,.slice a2 pp.length k2] 172)).alloc (.cells #[.slice b1 qr.length m1,.slice b2 qp.length m2] 172)):=by go_grown
 have B:=(Blk.new w 172 #[.slice a1 pr.length k1,.slice a2 pp.length k2]).below (w':=(w.alloc (.cells #[.slice a1 pr.length k1,.slice a2 pp.length k2] 172)).alloc (.cells #[.slice b1 qr.length m1,.slice b2 qp.length m2] 172)) (by go_grown);have C:=Blk.new (w.alloc (.cells #[.slice a1 pr.length k1,.slice a2 pp.length k2] 172)) 172 #[.slice b1 qr.length m1,.slice b2 qp.length m2];rw[World.size_alloc]at C;have e1:=z3l a1 b1 k1 m1 pr qr _ (z0y (h1.below hB)).2 (z0y (g1.below hB)).2 (by omega) (by omega);have e2:=fun w h h'=>z3l a2 b2 k2 m2 pp qp w h h' (by omega) (by omega)
 have HE:Hid (sameR (RoundQ.e ⟨.slice a1 pr.length k1,pr,.slice a2 pp.length k2,pp⟩) (RoundQ.e ⟨.slice b1 qr.length m1,qr,.slice b2 qp.length m2,qp⟩)=(sameZs pr qr && sameZs pp qp)):=(rfl:_=_)
 generalize sameR (RoundQ.e ⟨.slice a1 pr.length k1,pr,.slice a2 pp.length k2,pp⟩) (RoundQ.e ⟨.slice b1 qr.length m1,qr,.slice b2 qp.length m2,qp⟩)=E at HE⊢;generalize sameZs pr qr=X at*;generalize sameZs pp qp=Y at*;go_enter Tryz.func123,Tryz.ntmps123
 go_wp2_with fail
 generalize (w.alloc (.cells #[.slice a1 pr.length k1,.slice a2 pp.length k2] 172)).alloc (.cells #[.slice b1 qr.length m1,.slice b2 qp.length m2] 172)=W at*;refine e1.mono ?_;rintro e w1 ⟨rfl,hb⟩;replace hB:=hB.trans (hb.mono hB.size);replace B:=B.below hb;replace C:=C.below hb;clear e1 hb
 cases X with
 |false=>
  have E1:Hid (E=false):=HE.out;clear HE e2
  go_wp2
  go_ret;exact⟨by rw[E1.out];rfl,hB⟩
 |true=>
  have p1:=B.cell 1 _ rfl;have q1:=C.cell 1 _ rfl;have e3:=e2 w1 (z0y (h2.below hB)).2 (z0y (g2.below hB)).2;clear e2
  go_wp2_with fail
  refine e3.mono ?_;rintro e w2 ⟨rfl,hb⟩;replace hB:=hB.trans (hb.mono hB.size);have E1:Hid (E=Y):=by rw[HE.out];exact(rfl:_=_)
  clear e3 hb HE p1 q1 B C
  go_wp2
  go_ret;exact⟨by rw[E1.out];rfl,hB⟩
theorem z7B(v v':Value)(xs ys:List RoundQ)(w:World)(h:roundK.At w v xs)(h':roundK.At w v' ys)(hl:xs.length+nmL RoundQ.n xs≤1048576)(W:ys.length+nmL RoundQ.n ys≤1048576):
  Calls Tryz.prog 122 #[v,v',.func (.func 123) #[] #[]] w fun e w'=>e=.returned (.bool (sameRs (xs.map RoundQ.e) (ys.map RoundQ.e)))∧Below w.heap.size w w':=by
 obtain⟨a,cap,rfl⟩:=h.shape;obtain⟨a',U,rfl⟩:=h'.shape;by_cases d:xs.length=ys.length
 case neg=>
  have E:sameRs (xs.map RoundQ.e) (ys.map RoundQ.e)=false:=z11 (f:=sameR) rfl (fun _ _ _ _=>rfl) (fun _ _=>rfl) (fun _ _=>rfl) _ _ (by simpa using d);rw[E];have hd:((xs.length:Int) !=(ys.length:Int))=true:=by simp;omega
  go_enter Tryz.func122,Tryz.ntmps122
  go_wp2
  go_ret;exact⟨rfl,Below.refl _ _⟩
 case pos=>
  have hd:((xs.length:Int) !=(ys.length:Int))=false:=by simp[d]
  have HL:Hid (xs.length=ys.length):=d;have HM:Hid ((xs.map RoundQ.e).length=(ys.map RoundQ.e).length):=show _=_ by simpa using d
  clear d;generalize hE:sameRs (xs.map RoundQ.e) (ys.map RoundQ.e)=E;have HE:Hid (sameRs (xs.map RoundQ.e) (ys.map RoundQ.e)=E):=hE;clear hE;go_enter Tryz.func122,Tryz.ntmps122
  go_wp2
  go_loopw[17] (fun i wr=>∃k:Nat,k≤xs.length∧i=.int .i64 k∧Below w.heap.size w wr∧Hid (∀j,j<k→sameR ((xs.map RoundQ.e).getD j z1d) ((ys.map RoundQ.e).getD j z1d)=true)) (fun i _=>xs.length-(intOf i).toNat)
  case atStart=>exact⟨0,Nat.zero_le _,rfl,Below.refl _ _,fun j hj=>absurd hj (Nat.not_lt_zero _)⟩
  case round=>
   obtain⟨k,hk,rfl,hb,HA⟩:=hrel;by_cases y:k<xs.length
   ·have r:k<ys.length:=by have:=HL.out;omega
    obtain⟨b,T,rfl,V,hc,z⟩:=(h.below hb).cell (by decide) k y;obtain⟨b',M,rfl,I,J,s⟩:=(h'.below hb).cell (by decide) k r;have A:∀j x,(roundK.cells xs[k])[j]?=some x→wr.cell? ⟨b,T+k*2+j,none⟩=some x:=hc;have C:∀j x,(roundK.cells ys[k])[j]?=some x→wr.cell? ⟨b',M+k*2+j,none⟩=some x:=J;have c0:=A 0 (xs[k].vr) rfl;have c1:=A 1 (xs[k].vp) rfl;have d0:=C 0 (ys[k].vr) rfl;have d1:=C 1 (ys[k].vp) rfl;have n1:=z2J RoundQ.n xs k y;have n2:=z2J RoundQ.n ys k r;have HY:Hid (sameR (RoundQ.e xs[k]) (RoundQ.e ys[k])=false→E=false):=fun hx=>by
     rw[←HE.out];exact z12 (f:=sameR) z1d (fun _ _ _ _=>rfl) _ _ k HM.out (by simpa using y) (by rw[z0Q xs k y,z0Q ys k r];exact hx)
    have HN:Hid (sameR (RoundQ.e xs[k]) (RoundQ.e ys[k])=true→∀j,j<k+1→sameR ((xs.map RoundQ.e).getD j z1d) ((ys.map RoundQ.e).getD j z1d)=true):=fun hx j hj=>by
     by_cases O:j=k
     ·subst O;rw[z0Q xs j y,z0Q ys j r];exact hx
     ·exact HA.out j (by omega)
    have L:=z4A xs[k] ys[k];have hq:=fun w f1 f2=>L w f1 f2 (by omega) (by omega)
    clear L;have N:∀ (o:Obj) (j:Nat),(wr.alloc o).cell? ⟨b',j,none⟩=wr.cell? ⟨b',j,none⟩:=fun o j=>(show Below wr.heap.size wr (wr.alloc o) by go_grown).cell (p:=⟨b',j,none⟩) I
    clear HA hc A J C;generalize xs[k]=p at*;generalize ys[k]=q at*;generalize sameR (RoundQ.e p) (RoundQ.e q)=X at*;obtain⟨pv,pr,pw,pp⟩:=p;obtain⟨qv,qr,qw,qp⟩:=q;obtain⟨a1,k1,rfl⟩:∃a c,pv=.slice a pr.length c:=z.1.shape;obtain⟨a2,k2,rfl⟩:∃a c,pw=.slice a pp.length c:=z.2.shape;obtain⟨b1,m1,rfl⟩:∃a c,qv=.slice a qr.length c:=s.1.shape;obtain⟨b2,m2,rfl⟩:∃a c,qw=.slice a qp.length c:=s.2.shape;dsimp only at c0 c1 d0 d1 hq;rw[Nat.add_zero]at c0 d0
    go_wp2_with fail
    refine(hq _ (roundK.rd_below z (by go_grown)) (roundK.rd_below s (by go_grown))).mono ?_;rintro e w2 ⟨rfl,D⟩;have G:=z0u (z0u hb (by go_grown)) D;clear D N c0 c1 d0 d1 z s hq
    cases X with
    |false=>
     have E1:Hid (E=false):=HY.out rfl;clear HY HN HE
     go_wp2
     go_ret;exact⟨by rw[E1.out];rfl,G⟩
    |true=>
     have R:=HN.out rfl;have HR:Hid _:=R;clear HY HN R
     go_wp2
     go_roundw
     case rel=>exact⟨k+1,by omega,by go_num,G,HR.out⟩
     case measure=>simp[intOf];omega
   ·have E1:Hid (E=true):=by rw[←HE.out];exact z13 (f:=sameR) z1d rfl (fun _ _ _ _=>rfl) _ _ HM.out (fun j hj=>HA.out j (by simpa using(by simpa using hj:j<xs.length)|>fun h=>Nat.lt_of_lt_of_le h (by omega)))
    clear HA HE
    go_wp2
    go_ret;exact⟨by rw[E1.out];rfl,hb⟩
theorem z3J(p q:InstQ)(w:World)(h:instK.rd w p)(h':instK.rd w q)(hl:p.n≤1048576)(s:q.n≤1048576):
  Calls Tryz.prog 68 #[.agg #[.bool p.has,p.vb,p.vr,p.vd],.agg #[.bool q.has,q.vb,q.vr,q.vd]] w fun e w'=>e=.returned (.bool (sameI p.e q.e))∧Below w.heap.size w w':=by
 obtain⟨h1,vb,bt,vr,rs,vd,dc⟩:=p;obtain⟨h2,x,d,z,c,y,r⟩:=q;obtain⟨hT,hR,hD⟩:txnK.At w vb bt∧roundK.At w vr rs∧intK.At w vd dc:=h;obtain⟨gT,gR,gD⟩:txnK.At w x d∧roundK.At w z c∧intK.At w y r:=h';dsimp only[InstQ.n]at hl s;obtain⟨a1,k1,rfl⟩:=hT.shape;obtain⟨a2,k2,rfl⟩:=hR.shape;obtain⟨a3,k3,rfl⟩:=hD.shape;obtain⟨b1,m1,rfl⟩:=gT.shape;obtain⟨b2,m2,rfl⟩:=gR.shape;obtain⟨b3,m3,rfl⟩:=gD.shape;have hB:Below w.heap.size w ((w.alloc (.cells #[.bool h1,.slice a1 bt.length k1,.slice a2 rs.length k2,.slice a3 dc.length k3] 49)).alloc (.cells #[.bool h2,.slice b1 d.length m1,.slice b2 c.length m2,.slice b3 r.length m3] 49)):=by go_grown
 have B:=(Blk.new w 49 #[.bool h1,.slice a1 bt.length k1,.slice a2 rs.length k2,.slice a3 dc.length k3]).below (w':=(w.alloc (.cells #[.bool h1,.slice a1 bt.length k1,.slice a2 rs.length k2,.slice a3 dc.length k3] 49)).alloc (.cells #[.bool h2,.slice b1 d.length m1,.slice b2 c.length m2,.slice b3 r.length m3] 49)) (by go_grown);have C:=Blk.new (w.alloc (.cells #[.bool h1,.slice a1 bt.length k1,.slice a2 rs.length k2,.slice a3 dc.length k3] 49)) 49 #[.bool h2,.slice b1 d.length m1,.slice b2 c.length m2,.slice b3 r.length m3];rw[World.size_alloc]at C;have e1:=z1n _ _ (bt.map TxnQ.e) (d.map TxnQ.e) _ (z0o (hT.below hB)) (z0o (gT.below hB)) (by rw[List.length_map,z07];omega) (by rw[List.length_map,z07];omega);have e2:=fun w h h'=>z7B (.slice a2 rs.length k2) (.slice b2 c.length m2) rs c w h h' (by omega) (by omega)
 have e3:=fun w h h'=>z3l a3 b3 k3 m3 dc r w h h' (by omega) (by omega)
 generalize hE:sameI _ _=E;have HE:Hid (E=((h1==h2) && sameTs (bt.map TxnQ.e) (d.map TxnQ.e) && sameRs (rs.map RoundQ.e) (c.map RoundQ.e) && sameZs dc r)):=hE.symm;clear hE;generalize sameTs (bt.map TxnQ.e) (d.map TxnQ.e)=X at*;generalize sameRs (rs.map RoundQ.e) (c.map RoundQ.e)=Y at*;generalize sameZs dc r=Z at*;go_enter Tryz.func68,Tryz.ntmps68
 cases hh:(h1==h2)with
 |false=>
  have E1:Hid (E=false):=by rw[HE.out,hh];rfl
  clear HE e1 e2 e3
  go_wp2
  go_ret;exact⟨by rw[E1.out];rfl,hB⟩
 |true=>
  rw[hh]at HE
  go_wp2_with fail
  generalize (w.alloc (.cells #[.bool h1,.slice a1 bt.length k1,.slice a2 rs.length k2,.slice a3 dc.length k3] 49)).alloc (.cells #[.bool h2,.slice b1 d.length m1,.slice b2 c.length m2,.slice b3 r.length m3] 49)=W at*;refine e1.mono ?_;rintro e w1 ⟨rfl,hb⟩;replace hB:=hB.trans (hb.mono hB.size);replace B:=B.below hb;replace C:=C.below hb;clear e1 hb
  cases X with
  |false=>
   have E1:Hid (E=false):=by rw[HE.out];rfl
   clear HE e2 e3
   go_wp2
   go_ret;exact⟨by rw[E1.out];rfl,hB⟩
  |true=>
   have p2:=B.cell 2 _ rfl;have q2:=C.cell 2 _ rfl;have e4:=e2 w1 (hR.below hB) (gR.below hB);clear e2
   go_wp2_with fail
   refine e4.mono ?_;rintro e w2 ⟨rfl,hb⟩;replace hB:=hB.trans (hb.mono hB.size);replace B:=B.below hb;replace C:=C.below hb;clear e4 hb p2 q2
   cases Y with
   |false=>
    have E1:Hid (E=false):=by rw[HE.out];rfl
    clear HE e3
    go_wp2
    go_ret;exact⟨by rw[E1.out];rfl,hB⟩
   |true=>
    have p3:=B.cell 3 _ rfl;have q3:=C.cell 3 _ rfl;have e5:=e3 w2 (z0y (hD.below hB)).2 (z0y (gD.below hB)).2;clear e3
    go_wp2_with fail
    refine e5.mono ?_;rintro e w3 ⟨rfl,hb⟩;replace hB:=hB.trans (hb.mono hB.size);have E1:Hid (E=Z):=by rw[HE.out];exact(rfl:_=_)
    clear e5 hb p3 q3 B C HE
    go_wp2
    go_ret;exact⟨by rw[E1.out];rfl,hB⟩
def kpZ(x y:Int):Bool:=(x==3)||(y==x)
theorem z8K{xs ys:List Int}(k:Nat)(hk:k<xs.length)(h:kpZ (xs.getD k 0) (ys.getD k 0)=false):kps xs ys=false:=by
 cases hc:kps xs ys with
 |false=>rfl
 |true=>
  unfold kps at hc;rw[List.all_eq_true]at hc;have:=hc k (List.mem_range.2 hk);rw[show((xs.getD k 0==3)||(ys.getD k 0==xs.getD k 0))=kpZ (xs.getD k 0) (ys.getD k 0)from rfl,h]at this;exact absurd this (by decide)
theorem z8L{xs ys:List Int}(h:∀j,j<xs.length→kpZ (xs.getD j 0) (ys.getD j 0)=true):kps xs ys=true:=by
 unfold kps;rw[List.all_eq_true];intro j hj;exact h j (List.mem_range.1 hj)
def kpR(x y:RoundE):Bool:=kps x.rep y.rep && kps x.pro y.pro
def z7O(xs ys:List RoundE):Bool:=(List.range xs.length).all (fun i=>kpR (xs.getD i z1d) (ys.getD i z1d))
theorem z3W{xs ys:List RoundE}(k:Nat)(hk:k<xs.length)(h:kpR (xs.getD k z1d) (ys.getD k z1d)=false):z7O xs ys=false:=by
 cases hc:z7O xs ys with
 |false=>rfl
 |true=>
  unfold z7O at hc;rw[List.all_eq_true]at hc;have:=hc k (List.mem_range.2 hk);rw[h]at this;exact absurd this (by decide)
theorem z3X{xs ys:List RoundE}(h:∀j,j<xs.length→kpR (xs.getD j z1d) (ys.getD j z1d)=true):z7O xs ys=true:=by
 unfold z7O;rw[List.all_eq_true];intro j hj;exact h j (List.mem_range.1 hj)
def grw(x y:InstE):Bool:=(!x.has||(y.has && sameTs x.batch y.batch)) && decide (x.rounds.length≤y.rounds.length) && z7O x.rounds y.rounds && kps x.dec y.dec
theorem z1x(v v':Value)(xs ys:List Int)(w:World)(h:intK.At w v xs)(h':intK.At w v' ys)(hl:xs.length=3)(r:ys.length=3):
  Calls Tryz.prog 117 #[v,v'] w fun e w'=>e=.returned (.bool (kps xs ys))∧Below w.heap.size w w':=by
 obtain⟨a,cap,rfl⟩:=h.shape;obtain⟨a',C,rfl⟩:=h'.shape;have hR:=(z0y h).2;have z:=(z0y h').2;generalize hE:kps xs ys=E;have HE:Hid (kps xs ys=E):=hE;clear hE;have HL:Hid (xs.length=3∧ys.length=3):=⟨hl,r⟩
 rw[hl,r];clear hl r h h';go_enter Tryz.func117,Tryz.ntmps117
 go_wp2
 go_loop[9] (fun j=>∃k:Nat,k≤3∧j=.int .i64 k∧Hid (∀j,j<k→kpZ (xs.getD j 0) (ys.getD j 0)=true)) (fun j=>3-(intOf j).toNat)
 case atStart=>exact⟨0,Nat.zero_le _,rfl,fun j hj=>absurd hj (Nat.not_lt_zero _)⟩
 case round=>
  obtain⟨k,hk,rfl,HA⟩:=hrel;by_cases L:k<3
  ·obtain⟨b,M,rfl,I,hc⟩:=hR k (by have:=HL.out;omega);obtain⟨b',G,rfl,D,J⟩:=z k (by have:=HL.out;omega);have HY:Hid (kpZ (xs.getD k 0) (ys.getD k 0)=false→E=false):=fun hx=>by rw[←HE.out];exact z8K k (by have:=HL.out;omega) hx
   have HN:Hid (kpZ (xs.getD k 0) (ys.getD k 0)=true→∀j,j<k+1→kpZ (xs.getD j 0) (ys.getD j 0)=true):=fun hx j hj=>by
    by_cases A:j=k
    ·subst A;exact hx
    ·exact HA.out j (by omega)
   have s:(k:Int)<3:=by omega
   clear HA;generalize xs.getD k 0=x at*;generalize ys.getD k 0=y at*;by_cases c:x=3
   ·have h1:(x !=3)=false:=by simp[c]
    have HR:=HN.out (by unfold kpZ;simp[c]);have q:Hid _:=HR;clear HY HN HR c
    go_wp2
    go_round
    case rel=>exact⟨k+1,by omega,by go_num,q.out⟩
    case measure=>simp[intOf];omega
   ·have h1:(x !=3)=true:=by simpa using c
    by_cases d:x=y
    ·have h2:(x !=y)=false:=by simp[d]
     have HR:=HN.out (by unfold kpZ;simp[d]);have q:Hid _:=HR;clear HY HN HR c d
     go_wp2
     go_round
     case rel=>exact⟨k+1,by omega,by go_num,q.out⟩
     case measure=>simp[intOf];omega
    ·have h2:(x !=y)=true:=by simpa using d
     have E1:Hid (E=false):=HY.out (by unfold kpZ;simp[c];exact fun e=>d e.symm);clear HY HN c d
     go_wp2
     go_ret;exact⟨by rw[E1.out];rfl,Below.refl _ _⟩
  ·have E1:Hid (E=true):=by rw[←HE.out];exact z8L (fun j hj=>HA.out j (by have:=HL.out;omega))
   have s:¬(k:Int)<3:=by omega
   clear HA HE
   go_wp2
   go_ret;exact⟨by rw[E1.out];rfl,Below.refl _ _⟩
theorem z1y(v v':Value)(xs ys:List Int)(w:World)(h:intK.At w v xs)(h':intK.At w v' ys)(hl:xs.length=3)(r:ys.length=3):
  Calls Tryz.prog 120 #[v,v'] w fun e w'=>e=.returned (.bool (kps xs ys))∧Below w.heap.size w w':=by
 obtain⟨a,cap,rfl⟩:=h.shape;obtain⟨a',C,rfl⟩:=h'.shape;have hR:=(z0y h).2;have z:=(z0y h').2;generalize hE:kps xs ys=E;have HE:Hid (kps xs ys=E):=hE;clear hE;have HL:Hid (xs.length=3∧ys.length=3):=⟨hl,r⟩
 rw[hl,r];clear hl r h h';go_enter Tryz.func120,Tryz.ntmps120
 go_wp2
 go_loopw[5] (fun j wr=>∃k m:Nat,k≤3∧j=.int .i64 k∧wr=w.drewN m∧Hid (∀j,j<k→kpZ (xs.getD j 0) (ys.getD j 0)=true)) (fun j _=>3-(intOf j).toNat)
 case atStart=>exact⟨0,0,Nat.zero_le _,rfl,rfl,fun j hj=>absurd hj (Nat.not_lt_zero _)⟩
 case round=>
  obtain⟨k,m,hk,rfl,rfl,HA⟩:=hrel;by_cases L:k<3
  ·obtain⟨b,M,rfl,I,hc⟩:=hR k (by have:=HL.out;omega);obtain⟨b',G,rfl,D,J⟩:=z k (by have:=HL.out;omega);have HY:Hid (kpZ (xs.getD k 0) (ys.getD k 0)=false→E=false):=fun hx=>by rw[←HE.out];exact z8K k (by have:=HL.out;omega) hx
   have HN:Hid (kpZ (xs.getD k 0) (ys.getD k 0)=true→∀j,j<k+1→kpZ (xs.getD j 0) (ys.getD j 0)=true):=fun hx j hj=>by
    by_cases A:j=k
    ·subst A;exact hx
    ·exact HA.out j (by omega)
   have s:(k:Int)<3:=by omega
   clear HA;generalize xs.getD k 0=x at*;generalize ys.getD k 0=y at*;by_cases c:x=3
   ·have h1:(x !=3)=false:=by simp[c]
    have HR:=HN.out (by unfold kpZ;simp[c]);have q:Hid _:=HR;clear HY HN HR c
    go_wp2
    go_quiet (fail)
    go_wp2
    go_roundw
    case rel=>exact⟨k+1,_,by omega,by go_num,rfl,q.out⟩
    case measure=>simp[intOf];omega
   ·have h1:(x !=3)=true:=by simpa using c
    by_cases d:x=y
    ·have h2:(y !=x)=false:=by simp[d]
     have HR:=HN.out (by unfold kpZ;simp[d]);have q:Hid _:=HR;clear HY HN HR c d
     go_wp2
     go_quiet (fail)
     go_wp2
     go_roundw
     case rel=>exact⟨k+1,_,by omega,by go_num,rfl,q.out⟩
     case measure=>simp[intOf];omega
    ·have h2:(y !=x)=true:=by simpa using(fun e=>d e.symm:¬y=x)
     have E1:Hid (E=false):=HY.out (by unfold kpZ;simp[c];exact fun e=>d e.symm);clear HY HN c d
     go_wp2
     go_quiet (fail)
     go_wp2
     go_ret;rw[E1.out];exact⟨rfl,⟨rfl,rfl,rfl,Nat.le_refl _,fun _ _=>rfl⟩⟩
  ·have E1:Hid (E=true):=by rw[←HE.out];exact z8L (fun j hj=>HA.out j (by have:=HL.out;omega))
   have s:¬(k:Int)<3:=by omega
   clear HA HE
   go_wp2
   go_ret;rw[E1.out];exact⟨rfl,⟨rfl,rfl,rfl,Nat.le_refl _,fun _ _=>rfl⟩⟩
theorem z6H(p q:InstQ)(w:World)(h:instK.rd w p)(h':instK.rd w q)(hl:p.n≤1048576)(an:q.n≤1048576)(hw:∀r∈p.rounds,r.rep.length=3∧r.pro.length=3)(ai:∀r∈q.rounds,r.rep.length=3∧r.pro.length=3)(ae:p.dec.length=3)(U:q.dec.length=3):
  Calls Tryz.prog 62 #[.agg #[.bool p.has,p.vb,p.vr,p.vd],.agg #[.bool q.has,q.vb,q.vr,q.vd]] w fun e w'=>e=.returned (.bool (grw p.e q.e))∧Below w.heap.size w w':=by
 obtain⟨h1,vb,bt,vr,rs,vd,dc⟩:=p;obtain⟨h2,ao,s,aq,c,ap,y⟩:=q;obtain⟨hT,hR,hD⟩:txnK.At w vb bt∧roundK.At w vr rs∧intK.At w vd dc:=h;obtain⟨gT,gR,gD⟩:txnK.At w ao s∧roundK.At w aq c∧intK.At w ap y:=h';dsimp only[InstQ.n]at hl an hw ai ae U;obtain⟨a1,k1,rfl⟩:=hT.shape;obtain⟨a2,k2,rfl⟩:=hR.shape;obtain⟨a3,k3,rfl⟩:=hD.shape;obtain⟨b1,m1,rfl⟩:=gT.shape;obtain⟨b2,m2,rfl⟩:=gR.shape;obtain⟨b3,m3,rfl⟩:=gD.shape;have e1:=fun w h h'=>z1n (.slice a1 bt.length k1) (.slice b1 s.length m1) (bt.map TxnQ.e) (s.map TxnQ.e) w h h' (by rw[List.length_map,z07];omega) (by rw[List.length_map,z07];omega)
 have e3:=fun w h h'=>z1x (.slice a3 dc.length k3) (.slice b3 y.length m3) dc y w h h' ae U
 generalize hE:grw _ _=E;have HE:Hid (E=((!h1||(h2 && sameTs (bt.map TxnQ.e) (s.map TxnQ.e))) && decide (rs.length≤c.length) && z7O (rs.map RoundQ.e) (c.map RoundQ.e) && kps dc y)):=show _=_ by
  rw[←hE];unfold grw;simp only[InstQ.e,List.length_map]
 clear hE ae U;generalize sameTs (bt.map TxnQ.e) (s.map TxnQ.e)=X at*;generalize kps dc y=Z at*;by_cases aa:c.length<rs.length
 ·have M:(c.length:Int)<(rs.length:Int):=by omega
  have V:decide (rs.length≤c.length)=false:=decide_eq_false (by omega);have E1:Hid (E=false):=show _=_ by rw[HE.out,V];simp
  clear V aa HE
  cases h1 with
  |false=>
   have hB:Below w.heap.size w ((w.alloc (.cells #[.bool false,.slice a1 bt.length k1,.slice a2 rs.length k2,.slice a3 dc.length k3] 49)).alloc (.cells #[.bool h2,.slice b1 s.length m1,.slice b2 c.length m2,.slice b3 y.length m3] 49)):=by go_grown
   have B1:=(Blk.new w 49 #[.bool false,.slice a1 bt.length k1,.slice a2 rs.length k2,.slice a3 dc.length k3]).below (w':=((w.alloc (.cells #[.bool false,.slice a1 bt.length k1,.slice a2 rs.length k2,.slice a3 dc.length k3] 49)).alloc (.cells #[.bool h2,.slice b1 s.length m1,.slice b2 c.length m2,.slice b3 y.length m3] 49))) (by go_grown);have B2:=Blk.new (w.alloc (.cells #[.bool false,.slice a1 bt.length k1,.slice a2 rs.length k2,.slice a3 dc.length k3] 49)) 49 #[.bool h2,.slice b1 s.length m1,.slice b2 c.length m2,.slice b3 y.length m3];rw[World.size_alloc]at B2;go_enter Tryz.func62,Tryz.ntmps62
   go_wp2
   go_ret;exact⟨by rw[E1.out];rfl,hB⟩
  |true=>
   cases h2 with
   |false=>
    have hB:Below w.heap.size w ((w.alloc (.cells #[.bool true,.slice a1 bt.length k1,.slice a2 rs.length k2,.slice a3 dc.length k3] 49)).alloc (.cells #[.bool false,.slice b1 s.length m1,.slice b2 c.length m2,.slice b3 y.length m3] 49)):=by go_grown
    have B1:=(Blk.new w 49 #[.bool true,.slice a1 bt.length k1,.slice a2 rs.length k2,.slice a3 dc.length k3]).below (w':=((w.alloc (.cells #[.bool true,.slice a1 bt.length k1,.slice a2 rs.length k2,.slice a3 dc.length k3] 49)).alloc (.cells #[.bool false,.slice b1 s.length m1,.slice b2 c.length m2,.slice b3 y.length m3] 49))) (by go_grown);have B2:=Blk.new (w.alloc (.cells #[.bool true,.slice a1 bt.length k1,.slice a2 rs.length k2,.slice a3 dc.length k3] 49)) 49 #[.bool false,.slice b1 s.length m1,.slice b2 c.length m2,.slice b3 y.length m3];rw[World.size_alloc]at B2;go_enter Tryz.func62,Tryz.ntmps62
    go_wp2
    go_ret;exact⟨by rw[E1.out];rfl,hB⟩
   |true=>
    have hB:Below w.heap.size w ((w.alloc (.cells #[.bool true,.slice a1 bt.length k1,.slice a2 rs.length k2,.slice a3 dc.length k3] 49)).alloc (.cells #[.bool true,.slice b1 s.length m1,.slice b2 c.length m2,.slice b3 y.length m3] 49)):=by go_grown
    have B1:=(Blk.new w 49 #[.bool true,.slice a1 bt.length k1,.slice a2 rs.length k2,.slice a3 dc.length k3]).below (w':=((w.alloc (.cells #[.bool true,.slice a1 bt.length k1,.slice a2 rs.length k2,.slice a3 dc.length k3] 49)).alloc (.cells #[.bool true,.slice b1 s.length m1,.slice b2 c.length m2,.slice b3 y.length m3] 49))) (by go_grown);have B2:=Blk.new (w.alloc (.cells #[.bool true,.slice a1 bt.length k1,.slice a2 rs.length k2,.slice a3 dc.length k3] 49)) 49 #[.bool true,.slice b1 s.length m1,.slice b2 c.length m2,.slice b3 y.length m3];rw[World.size_alloc]at B2;go_enter Tryz.func62,Tryz.ntmps62
    go_wp2_with fail
    generalize ((w.alloc (.cells #[.bool true,.slice a1 bt.length k1,.slice a2 rs.length k2,.slice a3 dc.length k3] 49)).alloc (.cells #[.bool true,.slice b1 s.length m1,.slice b2 c.length m2,.slice b3 y.length m3] 49))=X0 at*;refine(e1 X0 (z0o (hT.below hB)) (z0o (gT.below hB))).mono ?_;rintro e w1 ⟨rfl,G⟩;replace hB:=hB.trans (G.mono hB.size);have p2:=(B1.below G).cell 2 _ rfl;have q2:=(B2.below G).cell 2 _ rfl;clear G B1 B2
    cases X with
    |false=>
     go_wp2
     go_ret;exact⟨by rw[E1.out];rfl,hB⟩
    |true=>
     go_wp2
     go_ret;exact⟨by rw[E1.out];rfl,hB⟩
 ·have M:¬(c.length:Int)<(rs.length:Int):=by omega
  have V:decide (rs.length≤c.length)=true:=decide_eq_true (by omega);have HL:Hid (rs.length≤c.length):=show _≤_ by omega
  rw[V]at HE;clear V aa
  cases h1 with
  |false=>
   have I:Hid (E=(z7O (rs.map RoundQ.e) (c.map RoundQ.e) && Z)):=show _=_ by rw[HE.out];simp
   clear HE;have hB:Below w.heap.size w ((w.alloc (.cells #[.bool false,.slice a1 bt.length k1,.slice a2 rs.length k2,.slice a3 dc.length k3] 49)).alloc (.cells #[.bool h2,.slice b1 s.length m1,.slice b2 c.length m2,.slice b3 y.length m3] 49)):=by go_grown
   have B1:=(Blk.new w 49 #[.bool false,.slice a1 bt.length k1,.slice a2 rs.length k2,.slice a3 dc.length k3]).below (w':=((w.alloc (.cells #[.bool false,.slice a1 bt.length k1,.slice a2 rs.length k2,.slice a3 dc.length k3] 49)).alloc (.cells #[.bool h2,.slice b1 s.length m1,.slice b2 c.length m2,.slice b3 y.length m3] 49))) (by go_grown);have B2:=Blk.new (w.alloc (.cells #[.bool false,.slice a1 bt.length k1,.slice a2 rs.length k2,.slice a3 dc.length k3] 49)) 49 #[.bool h2,.slice b1 s.length m1,.slice b2 c.length m2,.slice b3 y.length m3];rw[World.size_alloc]at B2;go_enter Tryz.func62,Tryz.ntmps62
   go_wp2_with fail
   generalize ((w.alloc (.cells #[.bool false,.slice a1 bt.length k1,.slice a2 rs.length k2,.slice a3 dc.length k3] 49)).alloc (.cells #[.bool h2,.slice b1 s.length m1,.slice b2 c.length m2,.slice b3 y.length m3] 49))=X0 at*;have p2:=B1.cell 2 _ rfl
   go_wp2
   clear p2;go_loopw[33] (fun j wr=>∃k:Nat,k≤rs.length∧j=.int .i64 k∧Hid (∀j,j<k→kpR ((rs.map RoundQ.e).getD j z1d) ((c.map RoundQ.e).getD j z1d)=true)∧Below X0.heap.size X0 wr) (fun j _=>rs.length-(intOf j).toNat)
   case atStart=>exact⟨0,Nat.zero_le _,rfl,fun j hj=>absurd hj (Nat.not_lt_zero _),Below.refl _ _⟩
   case round=>
    obtain⟨k,hk,rfl,HA,hb⟩:=hrel;have A:=hB.trans (hb.mono hB.size);replace B1:=B1.below hb;replace B2:=B2.below hb;by_cases D:k<rs.length
    ·have C:k<c.length:=by have:=HL.out;omega
     obtain⟨rb,ro,rfl,am,hc,ah⟩:=(hR.below A).cell (by decide) k D;obtain⟨aj,ak,rfl,al,M,Y⟩:=(gR.below A).cell (by decide) k C;have J:∀j x,(roundK.cells rs[k])[j]?=some x→wr.cell? ⟨rb,ro+k*2+j,none⟩=some x:=hc;have L:∀j x,(roundK.cells c[k])[j]?=some x→wr.cell? ⟨aj,ak+k*2+j,none⟩=some x:=M;have f0:=J 0 (rs[k].vr) rfl;have f1:=J 1 (rs[k].vp) rfl;have g0:=L 0 (c[k].vr) rfl;have g1:=L 1 (c[k].vp) rfl;have w1:=hw _ (List.getElem_mem D);have w2:=ai _ (List.getElem_mem C);have HY:Hid (kpR (RoundQ.e rs[k]) (RoundQ.e c[k])=false→E=false):=fun hx=>by
      rw[I.out,z3W k (by simpa using D) (by rw[z0Q rs k D,z0Q c k C];exact hx),Bool.false_and]
     have HN:Hid (kpR (RoundQ.e rs[k]) (RoundQ.e c[k])=true→∀j,j<k+1→kpR ((rs.map RoundQ.e).getD j z1d) ((c.map RoundQ.e).getD j z1d)=true):=fun hx j hj=>by
      by_cases af:j=k
      ·subst af;rw[z0Q rs j D,z0Q c j C];exact hx
      ·exact HA.out j (by omega)
     clear HA hc J M L;generalize rs[k]=p at*;generalize c[k]=q at*;obtain⟨pv,pr,pw,pp⟩:=p;obtain⟨qv,qr,qw,qp⟩:=q;obtain⟨u1,u2⟩:intK.At wr pv pr∧intK.At wr pw pp:=ah;obtain⟨t1,t2⟩:intK.At wr qv qr∧intK.At wr qw qp:=Y;obtain⟨x1,j1,rfl⟩:=u1.shape;obtain⟨x2,j2,rfl⟩:=u2.shape;obtain⟨y1,l1,rfl⟩:=t1.shape;obtain⟨y2,l2,rfl⟩:=t2.shape;dsimp only[RoundQ.e,kpR]at f0 f1 g0 g1 w1 w2 HY HN;rw[Nat.add_zero]at f0 g0;have s1:=fun w h h'=>z1x (.slice x1 pr.length j1) (.slice y1 qr.length l1) pr qr w h h' w1.1 w2.1
     have s2:=fun w h h'=>z1x (.slice x2 pp.length j2) (.slice y2 qp.length l2) pp qp w h h' w1.2 w2.2
     clear w1 w2;generalize kps pr qr=X1 at*;generalize kps pp qp=X2 at*;have z:Below wr.heap.size wr (wr.alloc (.cells #[.slice x1 pr.length j1,.slice x2 pp.length j2] 172)):=by go_grown
     have Rk:=Blk.new wr 172 #[.slice x1 pr.length j1,.slice x2 pp.length j2];replace B2:=B2.below z;replace u1:=u1.below z;replace u2:=u2.below z;replace t1:=t1.below z;replace t2:=t2.below z;have O:=z03 g0 z;have T:=z03 g1 z;have W:(k:Int)<(rs.length:Int):=by omega
     have ag:(k:Int)<(c.length:Int):=by omega
     clear g0 g1 B1
     go_wp2_with fail
     replace hb:=hb.trans (z.mono hb.size);clear f0 f1 z A;generalize wr.alloc (.cells #[.slice x1 pr.length j1,.slice x2 pp.length j2] 172)=W3 at*;have hW:Below W3.heap.size W3 W3.drew:=(Below.refl _ _).drew;have N:Nonempty (Lat W3):=⟨⟨W3,Below.refl _ _⟩⟩
     have d2:=B2.lat 2 _ rfl;obtain⟨v0,v1⟩:=Rk.lts2;have z0:=z0a O;have z1:=z0a T;clear O T B2 Rk
     cases X1 with
     |false=>
      have E1:Hid (E=false):=HY.out rfl;refine z0b (S:=fun w'=>∃u:Lat W3,w'=u.val) (by kernel_rfl) ?_;refine sgr [(0,8)] 14 (by kernel_rfl) ⟨⟨_,hW⟩,rfl⟩ ?_;simp only[pkE];repeat go_big_quiet_step (fail)
      refine wpQuiet_nil ?_;refine cla 8 (some 46) 117 #[.slice x1 pr.length j1,.slice y1 qr.length l1] 13 (by kernel_rfl) ?_;refine(s1 _ (u1.below hW) (t1.below hW)).mono ?_;rintro e w9 ⟨rfl,d⟩;replace hW:=hW.trans (d.mono hW.size);clear d;refine⟨_,rfl,⟨⟨_,hW⟩,rfl⟩,?_⟩;simp only[Act.put,pjE];refine sgr [(9,10)] 3 (by kernel_rfl) ⟨⟨_,hW⟩,rfl⟩ ?_;simp only[pkE];repeat go_big_quiet_step (fail)
      refine wpQuiet_nil ?_;refine ska 19 (some 57) 2 (by kernel_rfl) ⟨⟨_,hW⟩,rfl⟩ ?_;simp only[Act.put,pjE];refine sgr [(20,2)] 0 (by kernel_rfl) ⟨⟨_,hW⟩,rfl⟩ ?_;simp only[pkE];repeat go_big_quiet_step (fail)
      refine wpQuiet_nil ?_;refine z0e (by kernel_rfl) ?_;replace hb:=hb.trans (hW.mono hb.size);clear v0 v1 z0 z1 d2 hW N s1 s2 HY HN
      go_wp2
      go_ret;exact⟨by rw[E1.out];rfl,hB.trans (hb.mono hB.size)⟩
     |true=>
      cases X2 with
      |false=>
       have E1:Hid (E=false):=HY.out rfl;refine z0b (S:=fun w'=>∃u:Lat W3,w'=u.val) (by kernel_rfl) ?_;refine sgr [(0,8)] 14 (by kernel_rfl) ⟨⟨_,hW⟩,rfl⟩ ?_;simp only[pkE];repeat go_big_quiet_step (fail)
       refine wpQuiet_nil ?_;refine cla 8 (some 46) 117 #[.slice x1 pr.length j1,.slice y1 qr.length l1] 13 (by kernel_rfl) ?_;refine(s1 _ (u1.below hW) (t1.below hW)).mono ?_;rintro e w9 ⟨rfl,d⟩;replace hW:=hW.trans (d.mono hW.size);clear d;refine⟨_,rfl,⟨⟨_,hW⟩,rfl⟩,?_⟩;simp only[Act.put,pjE];refine sgr [(9,10)] 3 (by kernel_rfl) ⟨⟨_,hW⟩,rfl⟩ ?_;simp only[pkE];repeat go_big_quiet_step (fail)
       refine wpQuiet_nil ?_;refine cla 19 (some 57) 117 #[.slice x2 pp.length j2,.slice y2 qp.length l2] 2 (by kernel_rfl) ?_;refine(s2 _ (u2.below hW) (t2.below hW)).mono ?_;rintro e w9 ⟨rfl,d⟩;replace hW:=hW.trans (d.mono hW.size);clear d;refine⟨_,rfl,⟨⟨_,hW⟩,rfl⟩,?_⟩;simp only[Act.put,pjE];refine sgr [(20,2)] 0 (by kernel_rfl) ⟨⟨_,hW⟩,rfl⟩ ?_;simp only[pkE];repeat go_big_quiet_step (fail)
       refine wpQuiet_nil ?_;refine z0e (by kernel_rfl) ?_;replace hb:=hb.trans (hW.mono hb.size);clear v0 v1 z0 z1 d2 hW N s1 s2 HY HN
       go_wp2
       go_ret;exact⟨by rw[E1.out];rfl,hB.trans (hb.mono hB.size)⟩
      |true=>
       have HR:=HN.out rfl;have ab:Hid _:=HR;clear HR;refine z0b (S:=fun w'=>∃u:Lat W3,w'=u.val) (by kernel_rfl) ?_;refine sgr [(0,8)] 14 (by kernel_rfl) ⟨⟨_,hW⟩,rfl⟩ ?_;simp only[pkE];repeat go_big_quiet_step (fail)
       refine wpQuiet_nil ?_;refine cla 8 (some 46) 117 #[.slice x1 pr.length j1,.slice y1 qr.length l1] 13 (by kernel_rfl) ?_;refine(s1 _ (u1.below hW) (t1.below hW)).mono ?_;rintro e w9 ⟨rfl,d⟩;replace hW:=hW.trans (d.mono hW.size);clear d;refine⟨_,rfl,⟨⟨_,hW⟩,rfl⟩,?_⟩;simp only[Act.put,pjE];refine sgr [(9,10)] 3 (by kernel_rfl) ⟨⟨_,hW⟩,rfl⟩ ?_;simp only[pkE];repeat go_big_quiet_step (fail)
       refine wpQuiet_nil ?_;refine cla 19 (some 57) 117 #[.slice x2 pp.length j2,.slice y2 qp.length l2] 2 (by kernel_rfl) ?_;refine(s2 _ (u2.below hW) (t2.below hW)).mono ?_;rintro e w9 ⟨rfl,d⟩;replace hW:=hW.trans (d.mono hW.size);clear d;refine⟨_,rfl,⟨⟨_,hW⟩,rfl⟩,?_⟩;simp only[Act.put,pjE];refine sgr [(20,2)] 0 (by kernel_rfl) ⟨⟨_,hW⟩,rfl⟩ ?_;simp only[pkE];repeat go_big_quiet_step (fail)
       refine wpQuiet_nil ?_;refine z0e (by kernel_rfl) ?_;replace hb:=hb.trans (hW.mono hb.size);clear v0 v1 z0 z1 d2 hW N s1 s2 HY HN
       go_wp2
       go_roundw
       case rel=>exact⟨k+1,by omega,by go_num,ab.out,hb⟩
       case measure=>simp[intOf];omega
    ·have E1:Hid (E=Z):=show _=_ by rw[I.out,z3X (fun j hj=>HA.out j (by simp at hj;omega))];simp
     have W:¬(k:Int)<(rs.length:Int):=by omega
     have p3:=B1.cell 3 _ rfl;have q3:=B2.cell 3 _ rfl;clear HA I
     go_wp2_with fail
     clear p3 q3;refine(e3 wr (hD.below A) (gD.below A)).mono ?_;rintro e w9 ⟨rfl,d⟩;have ad:=A.trans (d.mono A.size);clear d e3
     go_wp2
     go_ret;exact⟨by rw[E1.out];rfl,ad⟩
  |true=>
   cases h2 with
   |false=>
    have E1:Hid (E=false):=show _=_ by rw[HE.out];simp
    clear HE;have hB:Below w.heap.size w ((w.alloc (.cells #[.bool true,.slice a1 bt.length k1,.slice a2 rs.length k2,.slice a3 dc.length k3] 49)).alloc (.cells #[.bool false,.slice b1 s.length m1,.slice b2 c.length m2,.slice b3 y.length m3] 49)):=by go_grown
    have B1:=(Blk.new w 49 #[.bool true,.slice a1 bt.length k1,.slice a2 rs.length k2,.slice a3 dc.length k3]).below (w':=((w.alloc (.cells #[.bool true,.slice a1 bt.length k1,.slice a2 rs.length k2,.slice a3 dc.length k3] 49)).alloc (.cells #[.bool false,.slice b1 s.length m1,.slice b2 c.length m2,.slice b3 y.length m3] 49))) (by go_grown);have B2:=Blk.new (w.alloc (.cells #[.bool true,.slice a1 bt.length k1,.slice a2 rs.length k2,.slice a3 dc.length k3] 49)) 49 #[.bool false,.slice b1 s.length m1,.slice b2 c.length m2,.slice b3 y.length m3];rw[World.size_alloc]at B2;go_enter Tryz.func62,Tryz.ntmps62
    go_wp2
    go_ret;exact⟨by rw[E1.out];rfl,hB⟩
   |true=>
    have hB:Below w.heap.size w ((w.alloc (.cells #[.bool true,.slice a1 bt.length k1,.slice a2 rs.length k2,.slice a3 dc.length k3] 49)).alloc (.cells #[.bool true,.slice b1 s.length m1,.slice b2 c.length m2,.slice b3 y.length m3] 49)):=by go_grown
    have B1:=(Blk.new w 49 #[.bool true,.slice a1 bt.length k1,.slice a2 rs.length k2,.slice a3 dc.length k3]).below (w':=((w.alloc (.cells #[.bool true,.slice a1 bt.length k1,.slice a2 rs.length k2,.slice a3 dc.length k3] 49)).alloc (.cells #[.bool true,.slice b1 s.length m1,.slice b2 c.length m2,.slice b3 y.length m3] 49))) (by go_grown);have B2:=Blk.new (w.alloc (.cells #[.bool true,.slice a1 bt.length k1,.slice a2 rs.length k2,.slice a3 dc.length k3] 49)) 49 #[.bool true,.slice b1 s.length m1,.slice b2 c.length m2,.slice b3 y.length m3];rw[World.size_alloc]at B2;go_enter Tryz.func62,Tryz.ntmps62
    go_wp2_with fail
    generalize ((w.alloc (.cells #[.bool true,.slice a1 bt.length k1,.slice a2 rs.length k2,.slice a3 dc.length k3] 49)).alloc (.cells #[.bool true,.slice b1 s.length m1,.slice b2 c.length m2,.slice b3 y.length m3] 49))=Y0 at*;refine(e1 Y0 (z0o (hT.below hB)) (z0o (gT.below hB))).mono ?_;rintro e X0 ⟨rfl,G⟩;replace hB:=hB.trans (G.mono hB.size);replace B1:=B1.below G;replace B2:=B2.below G;clear G e1
    cases X with
    |false=>
     have E1:Hid (E=false):=show _=_ by rw[HE.out];simp
     clear HE
     go_wp2
     go_ret;exact⟨by rw[E1.out];rfl,hB⟩
    |true=>
     have I:Hid (E=(z7O (rs.map RoundQ.e) (c.map RoundQ.e) && Z)):=show _=_ by rw[HE.out];simp
     clear HE;have q2:=B2.cell 2 _ rfl;have p2:=B1.cell 2 _ rfl
     go_wp2
     clear p2 q2;go_loopw[33] (fun j wr=>∃k:Nat,k≤rs.length∧j=.int .i64 k∧Hid (∀j,j<k→kpR ((rs.map RoundQ.e).getD j z1d) ((c.map RoundQ.e).getD j z1d)=true)∧Below X0.heap.size X0 wr) (fun j _=>rs.length-(intOf j).toNat)
     case atStart=>exact⟨0,Nat.zero_le _,rfl,fun j hj=>absurd hj (Nat.not_lt_zero _),Below.refl _ _⟩
     case round=>
      obtain⟨k,hk,rfl,HA,hb⟩:=hrel;have A:=hB.trans (hb.mono hB.size);replace B1:=B1.below hb;replace B2:=B2.below hb;by_cases D:k<rs.length
      ·have C:k<c.length:=by have:=HL.out;omega
       obtain⟨rb,ro,rfl,am,hc,ah⟩:=(hR.below A).cell (by decide) k D;obtain⟨aj,ak,rfl,al,M,Y⟩:=(gR.below A).cell (by decide) k C;have J:∀j x,(roundK.cells rs[k])[j]?=some x→wr.cell? ⟨rb,ro+k*2+j,none⟩=some x:=hc;have L:∀j x,(roundK.cells c[k])[j]?=some x→wr.cell? ⟨aj,ak+k*2+j,none⟩=some x:=M;have f0:=J 0 (rs[k].vr) rfl;have f1:=J 1 (rs[k].vp) rfl;have g0:=L 0 (c[k].vr) rfl;have g1:=L 1 (c[k].vp) rfl;have w1:=hw _ (List.getElem_mem D);have w2:=ai _ (List.getElem_mem C);have HY:Hid (kpR (RoundQ.e rs[k]) (RoundQ.e c[k])=false→E=false):=fun hx=>by
        rw[I.out,z3W k (by simpa using D) (by rw[z0Q rs k D,z0Q c k C];exact hx),Bool.false_and]
       have HN:Hid (kpR (RoundQ.e rs[k]) (RoundQ.e c[k])=true→∀j,j<k+1→kpR ((rs.map RoundQ.e).getD j z1d) ((c.map RoundQ.e).getD j z1d)=true):=fun hx j hj=>by
        by_cases af:j=k
        ·subst af;rw[z0Q rs j D,z0Q c j C];exact hx
        ·exact HA.out j (by omega)
       clear HA hc J M L;generalize rs[k]=p at*;generalize c[k]=q at*;obtain⟨pv,pr,pw,pp⟩:=p;obtain⟨qv,qr,qw,qp⟩:=q;obtain⟨u1,u2⟩:intK.At wr pv pr∧intK.At wr pw pp:=ah;obtain⟨t1,t2⟩:intK.At wr qv qr∧intK.At wr qw qp:=Y;obtain⟨x1,j1,rfl⟩:=u1.shape;obtain⟨x2,j2,rfl⟩:=u2.shape;obtain⟨y1,l1,rfl⟩:=t1.shape;obtain⟨y2,l2,rfl⟩:=t2.shape;dsimp only[RoundQ.e,kpR]at f0 f1 g0 g1 w1 w2 HY HN;rw[Nat.add_zero]at f0 g0;have s1:=fun w h h'=>z1x (.slice x1 pr.length j1) (.slice y1 qr.length l1) pr qr w h h' w1.1 w2.1
       have s2:=fun w h h'=>z1x (.slice x2 pp.length j2) (.slice y2 qp.length l2) pp qp w h h' w1.2 w2.2
       clear w1 w2;generalize kps pr qr=X1 at*;generalize kps pp qp=X2 at*;have z:Below wr.heap.size wr (wr.alloc (.cells #[.slice x1 pr.length j1,.slice x2 pp.length j2] 172)):=by go_grown
       have Rk:=Blk.new wr 172 #[.slice x1 pr.length j1,.slice x2 pp.length j2];replace B2:=B2.below z;replace u1:=u1.below z;replace u2:=u2.below z;replace t1:=t1.below z;replace t2:=t2.below z;have O:=z03 g0 z;have T:=z03 g1 z;have W:(k:Int)<(rs.length:Int):=by omega
       have ag:(k:Int)<(c.length:Int):=by omega
       clear g0 g1 B1
       go_wp2_with fail
       replace hb:=hb.trans (z.mono hb.size);clear f0 f1 z A;generalize wr.alloc (.cells #[.slice x1 pr.length j1,.slice x2 pp.length j2] 172)=W3 at*;have hW:Below W3.heap.size W3 W3.drew:=(Below.refl _ _).drew;have N:Nonempty (Lat W3):=⟨⟨W3,Below.refl _ _⟩⟩
       have d2:=B2.lat 2 _ rfl;obtain⟨v0,v1⟩:=Rk.lts2;have z0:=z0a O;have z1:=z0a T;clear O T B2 Rk
       cases X1 with
       |false=>
        have E1:Hid (E=false):=HY.out rfl;refine z0b (S:=fun w'=>∃u:Lat W3,w'=u.val) (by kernel_rfl) ?_;refine sgr [(0,8)] 14 (by kernel_rfl) ⟨⟨_,hW⟩,rfl⟩ ?_;simp only[pkE];repeat go_big_quiet_step (fail)
        refine wpQuiet_nil ?_;refine cla 8 (some 46) 117 #[.slice x1 pr.length j1,.slice y1 qr.length l1] 13 (by kernel_rfl) ?_;refine(s1 _ (u1.below hW) (t1.below hW)).mono ?_;rintro e w9 ⟨rfl,d⟩;replace hW:=hW.trans (d.mono hW.size);clear d;refine⟨_,rfl,⟨⟨_,hW⟩,rfl⟩,?_⟩;simp only[Act.put,pjE];refine sgr [(9,10)] 3 (by kernel_rfl) ⟨⟨_,hW⟩,rfl⟩ ?_;simp only[pkE];repeat go_big_quiet_step (fail)
        refine wpQuiet_nil ?_;refine ska 19 (some 57) 2 (by kernel_rfl) ⟨⟨_,hW⟩,rfl⟩ ?_;simp only[Act.put,pjE];refine sgr [(20,2)] 0 (by kernel_rfl) ⟨⟨_,hW⟩,rfl⟩ ?_;simp only[pkE];repeat go_big_quiet_step (fail)
        refine wpQuiet_nil ?_;refine z0e (by kernel_rfl) ?_;replace hb:=hb.trans (hW.mono hb.size);clear v0 v1 z0 z1 d2 hW N s1 s2 HY HN
        go_wp2
        go_ret;exact⟨by rw[E1.out];rfl,hB.trans (hb.mono hB.size)⟩
       |true=>
        cases X2 with
        |false=>
         have E1:Hid (E=false):=HY.out rfl;refine z0b (S:=fun w'=>∃u:Lat W3,w'=u.val) (by kernel_rfl) ?_;refine sgr [(0,8)] 14 (by kernel_rfl) ⟨⟨_,hW⟩,rfl⟩ ?_;simp only[pkE];repeat go_big_quiet_step (fail)
         refine wpQuiet_nil ?_;refine cla 8 (some 46) 117 #[.slice x1 pr.length j1,.slice y1 qr.length l1] 13 (by kernel_rfl) ?_;refine(s1 _ (u1.below hW) (t1.below hW)).mono ?_;rintro e w9 ⟨rfl,d⟩;replace hW:=hW.trans (d.mono hW.size);clear d;refine⟨_,rfl,⟨⟨_,hW⟩,rfl⟩,?_⟩;simp only[Act.put,pjE];refine sgr [(9,10)] 3 (by kernel_rfl) ⟨⟨_,hW⟩,rfl⟩ ?_;simp only[pkE];repeat go_big_quiet_step (fail)
         refine wpQuiet_nil ?_;refine cla 19 (some 57) 117 #[.slice x2 pp.length j2,.slice y2 qp.length l2] 2 (by kernel_rfl) ?_;refine(s2 _ (u2.below hW) (t2.below hW)).mono ?_;rintro e w9 ⟨rfl,d⟩;replace hW:=hW.trans (d.mono hW.size);clear d;refine⟨_,rfl,⟨⟨_,hW⟩,rfl⟩,?_⟩;simp only[Act.put,pjE];refine sgr [(20,2)] 0 (by kernel_rfl) ⟨⟨_,hW⟩,rfl⟩ ?_;simp only[pkE];repeat go_big_quiet_step (fail)
         refine wpQuiet_nil ?_;refine z0e (by kernel_rfl) ?_;replace hb:=hb.trans (hW.mono hb.size);clear v0 v1 z0 z1 d2 hW N s1 s2 HY HN
         go_wp2
         go_ret;exact⟨by rw[E1.out];rfl,hB.trans (hb.mono hB.size)⟩
        |true=>
         have HR:=HN.out rfl;have ab:Hid _:=HR;clear HR;refine z0b (S:=fun w'=>∃u:Lat W3,w'=u.val) (by kernel_rfl) ?_;refine sgr [(0,8)] 14 (by kernel_rfl) ⟨⟨_,hW⟩,rfl⟩ ?_;simp only[pkE];repeat go_big_quiet_step (fail)
         refine wpQuiet_nil ?_;refine cla 8 (some 46) 117 #[.slice x1 pr.length j1,.slice y1 qr.length l1] 13 (by kernel_rfl) ?_;refine(s1 _ (u1.below hW) (t1.below hW)).mono ?_;rintro e w9 ⟨rfl,d⟩;replace hW:=hW.trans (d.mono hW.size);clear d;refine⟨_,rfl,⟨⟨_,hW⟩,rfl⟩,?_⟩;simp only[Act.put,pjE];refine sgr [(9,10)] 3 (by kernel_rfl) ⟨⟨_,hW⟩,rfl⟩ ?_;simp only[pkE];repeat go_big_quiet_step (fail)
         refine wpQuiet_nil ?_;refine cla 19 (some 57) 117 #[.slice x2 pp.length j2,.slice y2 qp.length l2] 2 (by kernel_rfl) ?_;refine(s2 _ (u2.below hW) (t2.below hW)).mono ?_;rintro e w9 ⟨rfl,d⟩;replace hW:=hW.trans (d.mono hW.size);clear d;refine⟨_,rfl,⟨⟨_,hW⟩,rfl⟩,?_⟩;simp only[Act.put,pjE];refine sgr [(20,2)] 0 (by kernel_rfl) ⟨⟨_,hW⟩,rfl⟩ ?_;simp only[pkE];repeat go_big_quiet_step (fail)
         refine wpQuiet_nil ?_;refine z0e (by kernel_rfl) ?_;replace hb:=hb.trans (hW.mono hb.size);clear v0 v1 z0 z1 d2 hW N s1 s2 HY HN
         go_wp2
         go_roundw
         case rel=>exact⟨k+1,by omega,by go_num,ab.out,hb⟩
         case measure=>simp[intOf];omega
      ·have E1:Hid (E=Z):=show _=_ by rw[I.out,z3X (fun j hj=>HA.out j (by simp at hj;omega))];simp
       have W:¬(k:Int)<(rs.length:Int):=by omega
       have p3:=B1.cell 3 _ rfl;have q3:=B2.cell 3 _ rfl;clear HA I
       go_wp2_with fail
       clear p3 q3;refine(e3 wr (hD.below A) (gD.below A)).mono ?_;rintro e w9 ⟨rfl,d⟩;have ad:=A.trans (d.mono A.size);clear d e3
       go_wp2
       go_ret;exact⟨by rw[E1.out];rfl,ad⟩
def clC(ds:List InstE)(x:InstE):Int:=if ordF ds=0 then(if insF x=0 then(if grw (z1z ds) x then 0 else 8)else insF x)else ordF ds
def clO(ds:List InstE)(x:InstE):List InstE:=if clC ds x=0 then ds.take (ds.length-1)++[x]else []
theorem z5q(ds:List InstE)(x:InstE):(ordF ds≠0∧clC ds x=ordF ds∧clO ds x=[])∨(ordF ds=0∧insF x≠0∧clC ds x=insF x∧clO ds x=[])∨(ordF ds=0∧insF x=0∧grw (z1z ds) x=false∧clC ds x=8∧clO ds x=[])∨(ordF ds=0∧insF x=0∧grw (z1z ds) x=true∧clC ds x=0∧clO ds x=ds.take (ds.length-1)++[x]):=by
 unfold clO clC;by_cases h0:ordF ds=0
 ·by_cases h1:insF x=0
  ·cases h2:grw (z1z ds) x
   ·right;right;left;simp[h0,h1]
   ·right;right;right;simp[h0,h1]
  ·right;left;simp[h0,h1]
 ·left;simp[h0]
theorem z9v{p:InstQ}(h:insF (InstQ.e p)=0):(∀r∈p.rounds,r.rep.length=3∧r.pro.length=3)∧p.dec.length=3:=by
 obtain⟨h1,_,h3,_⟩:=z2r h;exact⟨fun r hr=>h1 (RoundQ.e r) (List.mem_map.2 ⟨r,hr,rfl⟩),h3⟩
theorem q1i:(Tryz.prog.info? 33).map (·.size)=some 2:=by kernel_rfl
theorem z2S(v:Value)(ps:List InstQ)(p:InstQ)(w:World)(hG:Rul w)(h:instK.Own w v ps)(hp:instK.rd w p)(hl:(ps.length+nmL InstQ.n ps)≤1048576)(aG:p.n≤1048576):
  Calls Tryz.prog 24 #[v,.agg #[.bool p.has,p.vb,p.vr,p.vd]] w fun e w'=>∃ (v':Value) (qs:List InstQ),e=.returned (.agg #[.int .i64 (clC (ps.map InstQ.e) p.e),v'])∧qs.map InstQ.e=clO (ps.map InstQ.e) p.e∧instK.Own w' v' qs∧(instK.fp v' qs).Nodup∧(∀k∈instK.fp v' qs,w.heap.size≤k)∧Below w.heap.size w w':=by
 have aZ:=fun w hG h=>z0L v ps w hG h hl
 have aE:=fun w hG h=>z1i p w hG h aG
 have HO:Hid (ordF (ps.map InstQ.e)=0→1≤ps.length∧ps.length≤4∧∀q∈ps,insF (InstQ.e q)=0):=fun h0=>by
  have:=((z0P _).1 h0).1;rw[List.length_map]at this;exact⟨this.1,this.2,fun q hq=>z1m h0 _ (List.mem_map.2 ⟨q,hq,rfl⟩)⟩
 have ap:=fun(m:Nat) a cap w h aT hl=>z2s (.slice a m cap) (ps.take m) w h aT hl
 obtain⟨a,cap,rfl⟩:=h.shape;obtain⟨bw,bE⟩:=h.cap;obtain⟨i0,hi,bn,bo,bp⟩:=info_parts z0Y;have hw:=z5q (ps.map InstQ.e) (InstQ.e p);have aI:Hid (∀y:ps.length-1<ps.length,z1z (ps.map InstQ.e)=InstQ.e ps[ps.length-1]):=fun y=>z3j ps y
 generalize clC (ps.map InstQ.e) (InstQ.e p)=D at*;generalize clO (ps.map InstQ.e) (InstQ.e p)=O at*;have I:Hid (∀q1:List InstQ,∀q:InstQ,q1.map InstQ.e=(ps.take (ps.length-1)).map InstQ.e→q.e=InstQ.e p→(q1++[q]).map InstQ.e=(ps.map InstQ.e).take ((ps.map InstQ.e).length-1)++[InstQ.e p]):=fun q1 q h1 h2=>by rw[List.map_append,h1,List.map_singleton,h2,List.length_map,List.map_take]
 have J:Hid (∀q1:List InstQ,q1.map InstQ.e=(ps.take (ps.length-1)).map InstQ.e→q1.length=ps.length-1):=fun q1 h1=>by have:=congrArg List.length h1;simp at this;omega
 have M:Hid (insF (InstQ.e p)=0→((∀r∈p.rounds,r.rep.length=3∧r.pro.length=3)∧p.dec.length=3)∧(∀t∈p.batch,0<t.acts.length)∧(∀r∈p.rounds,0<r.rep.length∧0<r.pro.length)∧0<p.dec.length):=fun h0=>⟨z9v h0,z1t h0⟩
 have aa:=fun(l:InstQ) w h h' hl h1 h2 h3 h4=>z6H l p w h h' hl aG h1 h2 h3 h4
 have V:=fun w h h1 h2 h3=>z1P p w h aG h1 h2 h3
 have an:=fun(w':World) hb=>instK.rd_below (w':=w') hp hb
 generalize ordF (ps.map InstQ.e)=C at*;generalize insF (InstQ.e p)=PF at*;generalize bJ:InstQ.e p=pe at*;obtain⟨has,vb,s,vr,d,vd,dec⟩:=p;obtain⟨ba,bk,rfl⟩:∃a c,vb=.slice a s.length c:=hp.1.shape;obtain⟨va,vk,rfl⟩:∃a c,vr=.slice a d.length c:=hp.2.1.shape;obtain⟨da,dk,rfl⟩:∃a c,vd=.slice a dec.length c:=hp.2.2.shape;dsimp only at aE aa V an M;have hB:Below w.heap.size w ((w.alloc (.cells #[.bool has,.slice ba s.length bk,.slice va d.length vk,.slice da dec.length dk] 49)).alloc (.cells #[.int .i64 0,.slice none 0 0] 33)):=by go_grown
 have Bk:=(Blk.new w 49 #[.bool has,.slice ba s.length bk,.slice va d.length vk,.slice da dec.length dk]).below (w':=((w.alloc (.cells #[.bool has,.slice ba s.length bk,.slice va d.length vk,.slice da dec.length dk] 49)).alloc (.cells #[.int .i64 0,.slice none 0 0] 33))) (by go_grown);have Rb:=Blk.new (w.alloc (.cells #[.bool has,.slice ba s.length bk,.slice va d.length vk,.slice da dec.length dk] 49)) 33 #[.int .i64 0,.slice none 0 0];rw[World.size_alloc]at Rb;go_enter Tryz.func24,Tryz.ntmps24
 go_wp2_with fail
 generalize ((w.alloc (.cells #[.bool has,.slice ba s.length bk,.slice va d.length vk,.slice da dec.length dk] 49)).alloc (.cells #[.int .i64 0,.slice none 0 0] 33))=W at*;refine(aZ W (hG.below hB) (h.at.below hB)).mono ?_;rintro e w1 ⟨rfl,hb⟩;replace hB:=hB.trans (hb.mono hB.size);replace Rb:=Rb.below hb;replace Bk:=Bk.below hb;clear hb aZ;by_cases hC:C=0
 case neg=>
  have bA:(C !=0)=true:=by simpa using hC
  have E1:Hid (D=C∧O=[]):=by
   rcases hw with⟨_,e1,e2⟩|⟨h1,_⟩|⟨h1,_⟩|⟨h1,_⟩
   ·exact⟨e1,e2⟩
   ·exact absurd h1 hC
   ·exact absurd h1 hC
   ·exact absurd h1 hC
  clear hw HO I J M hC;obtain⟨q0,q1⟩:=Rb.cel2;obtain⟨f0,f1⟩:=Rb.frz2;obtain⟨ai,z⟩:=Kind.own_nil (K:=instK) w;clear ai
  go_wp2
  exact bodyPost_ret (v:=.agg #[.int .i64 C,.slice none 0 0]) (by simp[results,Tryz.results24,go_sem,q0,q1]) rfl ⟨.slice none 0 0,[],by rw[E1.out.1],by rw[E1.out.2];rfl,(Kind.own_nil _).1,by rw[z];simp,by rw[z];simp,(hB.setCell (p:=⟨w.heap.size+1,0,none⟩) (by show w.heap.size≤w.heap.size+1;omega) _).setCell (p:=⟨w.heap.size+1,1,none⟩) (by show w.heap.size≤w.heap.size+1;omega) _⟩
 case pos=>
 obtain⟨p1,p4,aF⟩:=HO.out hC;subst hC;obtain⟨c0,c1,c2,c3⟩:=Bk.cel4;clear HO
 go_wp2_with fail
 clear c0 c1 c2 c3;refine(aE w1 (hG.below hB) (an w1 hB)).mono ?_;rintro e X ⟨rfl,hb⟩;replace hB:=hB.trans (hb.mono hB.size);replace Rb:=Rb.below hb;replace Bk:=Bk.below hb;clear hb aE;by_cases hP:PF=0
 case neg=>
  have bB:(PF !=0)=true:=by simpa using hP
  have E1:Hid (D=PF∧O=[]):=by
   rcases hw with⟨h0,_⟩|⟨_,_,e1,e2⟩|⟨_,h1,_⟩|⟨_,h1,_⟩
   ·exact absurd rfl h0
   ·exact⟨e1,e2⟩
   ·exact absurd h1 hP
   ·exact absurd h1 hP
  clear hw I J M hP;obtain⟨q0,q1⟩:=Rb.cel2;obtain⟨f0,f1⟩:=Rb.frz2;obtain⟨ai,z⟩:=Kind.own_nil (K:=instK) w;clear ai
  go_wp2
  exact bodyPost_ret (v:=.agg #[.int .i64 PF,.slice none 0 0]) (by simp[results,Tryz.results24,go_sem,q0,q1]) rfl ⟨.slice none 0 0,[],by rw[E1.out.1],by rw[E1.out.2];rfl,(Kind.own_nil _).1,by rw[z];simp,by rw[z];simp,(hB.setCell (p:=⟨w.heap.size+1,0,none⟩) (by show w.heap.size≤w.heap.size+1;omega) _).setCell (p:=⟨w.heap.size+1,1,none⟩) (by show w.heap.size≤w.heap.size+1;omega) _⟩
 case pos=>
 obtain⟨⟨a6,aR⟩,ae,af,ag⟩:=M.out hP;have y:ps.length-1<ps.length:=by omega
 have a2:=aF _ (List.getElem_mem y);obtain⟨ax,aq⟩:=z9v a2;have aJ:Hid (z1z (ps.map InstQ.e)=InstQ.e ps[ps.length-1]):=aI.out y;have aY:InstQ.n ps[ps.length-1]≤1048576:=by have:=z3F ps _ y;omega
 have ar:=aa ps[ps.length-1];have Z:=fun w h h'=>ar w h h' aY ax a6 aq aR
 rw[aJ.out]at hw;subst hP;have ah:(∀p∈ps.take (ps.length-1),(∀t∈p.batch,0<t.acts.length)∧(∀r∈p.rounds,0<r.rep.length∧0<r.pro.length)∧0<p.dec.length):=fun q hq=>z1t (aF q (List.mem_of_mem_take hq))
 have aS:(ps.take (ps.length-1)).length+nmL InstQ.n (ps.take (ps.length-1))≤1048576:=by
  have:=z5M InstQ.n ps (ps.length-1);rw[List.length_take];omega
 have aQ:=fun a cap w h=>ap (ps.length-1) a cap w h ah aS
 have aP:=fun w h=>V w h ae af ag
 have aD:=(h.at.below hB).take (ps.length-1) (by omega);obtain⟨b,a7,rfl,bD,hc,rL⟩:=(h.at.below hB).cell (by decide) (ps.length-1) y;have U:∀j x,(instK.cells ps[ps.length-1])[j]?=some x→X.cell? ⟨b,a7+(ps.length-1)*4+j,none⟩=some x:=hc;have c0:=U 0 (.bool ps[ps.length-1].has) rfl;have c1:=U 1 ps[ps.length-1].vb rfl;have c2:=U 2 ps[ps.length-1].vr rfl;have c3:=U 3 ps[ps.length-1].vd rfl;rw[Nat.add_zero]at c0;have rP:=an X hB;clear hc U aa ar V ap an aI aJ ae af ag ah aS a6 aR ax aq a2 M aF aY hp;generalize grw (InstQ.e ps[ps.length-1]) pe=G at*;generalize ps[ps.length-1]=L at*;replace hw:(G=false∧D=8∧O=[])∨(G=true∧D=0∧O=(ps.map InstQ.e).take ((ps.map InstQ.e).length-1)++[pe]):=by
  rcases hw with⟨h0,_⟩|⟨_,h1,_⟩|⟨_,_,h1,e1,e2⟩|⟨_,_,h1,e1,e2⟩
  ·exact absurd rfl h0
  ·exact absurd rfl h1
  ·exact Or.inl ⟨h1,e1,e2⟩
  ·exact Or.inr ⟨h1,e1,e2⟩
 generalize hm:ps.length-1=m at*;have bh:(ps.length:Int)-1=(m:Int):=by omega
 have aw:ps.length=m+1:=by omega
 have bI:(m:Int)<((m+1:Nat):Int):=by omega
 rw[aw]at*;have bG:(m:Int)≤3:=by omega
 have aU:m≤cap:=by omega
 have bx:(0:Int)≤(m:Int):=by omega
 clear hm bh aw y;obtain⟨lh,bq,lb,bs,lr,br,ld⟩:=L;obtain⟨l1,n1,rfl⟩:∃a c,bq=.slice a lb.length c:=rL.1.shape;obtain⟨l2,n2,rfl⟩:∃a c,bs=.slice a lr.length c:=rL.2.1.shape;obtain⟨l3,n3,rfl⟩:∃a c,br=.slice a ld.length c:=rL.2.2.shape;dsimp only at c0 c1 c2 c3 Z;have hW:Below X.heap.size X X.drew:=(Below.refl _ _).drew;have am:Nonempty (Lat X):=⟨⟨X,Below.refl _ _⟩⟩
 have k0:=z0a c0;have k1:=z0a c1;have k2:=z0a c2;have k3:=z0a c3;obtain⟨j0,j1,j2,j3⟩:=Bk.lts4;clear c0 c1 c2 c3
 go_wp2_with fail
 rcases hw with⟨hg,e1,e2⟩|⟨hg,e1,e2⟩
 ·have E1:Hid (D=8∧O=[]):=⟨e1,e2⟩
  subst hg;clear e1 e2 I J;refine z0b (S:=fun w'=>∃u:Lat X,w'=u.val) (by kernel_rfl) ?_;refine sgr [(0,5)] 2 (by kernel_rfl) ⟨⟨_,hW⟩,rfl⟩ ?_;simp only[pkE];repeat go_big_quiet_step (fail)
  refine wpQuiet_nil ?_;refine cla 5 (some 28) 62 #[.agg #[.bool lh,.slice l1 lb.length n1,.slice l2 lr.length n2,.slice l3 ld.length n3],.agg #[.bool has,.slice ba s.length bk,.slice va d.length vk,.slice da dec.length dk]] 1 (by kernel_rfl) ?_;refine(Z _ (instK.rd_below rL hW) (instK.rd_below rP hW)).mono ?_;rintro e w9 ⟨rfl,N⟩;replace hW:=hW.trans (N.mono hW.size);clear N;refine⟨_,rfl,⟨⟨_,hW⟩,rfl⟩,?_⟩;simp only[Act.put,pjE];refine sgr [(6,1)] 0 (by kernel_rfl) ⟨⟨_,hW⟩,rfl⟩ ?_;simp only[pkE];repeat go_big_quiet_step (fail)
  refine wpQuiet_nil ?_;refine z0e (by kernel_rfl) ?_;replace hB:=hB.trans (hW.mono hB.size);replace Rb:=Rb.below hW;clear k0 k1 k2 k3 j0 j1 j2 j3 am hW Z Bk;obtain⟨q0,q1⟩:=Rb.cel2;obtain⟨f0,f1⟩:=Rb.frz2;obtain⟨ai,z⟩:=Kind.own_nil (K:=instK) w;clear ai
  go_wp2
  exact bodyPost_ret (v:=.agg #[.int .i64 8,.slice none 0 0]) (by simp[results,Tryz.results24,go_sem,q0,q1]) rfl ⟨.slice none 0 0,[],by rw[E1.out.1],by rw[E1.out.2];rfl,(Kind.own_nil _).1,by rw[z];simp,by rw[z];simp,(hB.setCell (p:=⟨w.heap.size+1,0,none⟩) (by show w.heap.size≤w.heap.size+1;omega) _).setCell (p:=⟨w.heap.size+1,1,none⟩) (by show w.heap.size≤w.heap.size+1;omega) _⟩
 ·have a8:Hid (D=0):=e1;subst hg;clear e1;refine z0b (S:=fun w'=>∃u:Lat X,w'=u.val) (by kernel_rfl) ?_;refine sgr [(0,5)] 2 (by kernel_rfl) ⟨⟨_,hW⟩,rfl⟩ ?_;simp only[pkE];repeat go_big_quiet_step (fail)
  refine wpQuiet_nil ?_;refine cla 5 (some 28) 62 #[.agg #[.bool lh,.slice l1 lb.length n1,.slice l2 lr.length n2,.slice l3 ld.length n3],.agg #[.bool has,.slice ba s.length bk,.slice va d.length vk,.slice da dec.length dk]] 1 (by kernel_rfl) ?_;refine(Z _ (instK.rd_below rL hW) (instK.rd_below rP hW)).mono ?_;rintro e w9 ⟨rfl,N⟩;replace hW:=hW.trans (N.mono hW.size);clear N;refine⟨_,rfl,⟨⟨_,hW⟩,rfl⟩,?_⟩;simp only[Act.put,pjE];refine sgr [(6,1)] 0 (by kernel_rfl) ⟨⟨_,hW⟩,rfl⟩ ?_;simp only[pkE];repeat go_big_quiet_step (fail)
  refine wpQuiet_nil ?_;refine z0e (by kernel_rfl) ?_;replace hB:=hB.trans (hW.mono hB.size);replace Rb:=Rb.below hW;replace Bk:=Bk.below hW;replace aD:=aD.below hW;replace rP:=instK.rd_below rP hW;clear k0 k1 k2 k3 j0 j1 j2 j3 am hW Z rL;have bH:m≤cap:=aU;have bF:(0:Int)≤(m:Int):=by omega
  have bz:(m:Int)≤(cap:Int):=by omega
  go_wp2_with fail
  generalize bf:w9=X at*;clear bf;have hF:w.heap.size∉[w.heap.size+1]:=by simp
  have p0:=z0g (F:=[w.heap.size+1]) (Bk.cell 0 _ rfl) hF;have p1:=z0g (F:=[w.heap.size+1]) (Bk.cell 1 _ rfl) hF;have p2:=z0g (F:=[w.heap.size+1]) (Bk.cell 2 _ rfl) hF;have p3:=z0g (F:=[w.heap.size+1]) (Bk.cell 3 _ rfl) hF;have am:Nonempty (LatO [w.heap.size+1] X):=⟨⟨X,Out.refl _ _⟩⟩
  have hW:Below X.heap.size X X.drew:=(Below.refl _ _).drew;have A:∀w',Below X.heap.size X w'→∃u:LatO [w.heap.size+1] X,w'=u.val:=fun w' bl=>⟨⟨w',Out.of_below bl⟩,rfl⟩
  refine z0b (S:=fun w'=>∃u:LatO [w.heap.size+1] X,w'=u.val) (by kernel_rfl) ?_;refine sgr [(0,2),(4,1)] 7 (by kernel_rfl) (A _ hW) ?_;simp only[pkE];repeat go_big_quiet_step (fail)
  refine wpQuiet_nil ?_;refine ona 2 6 rfl (by kernel_rfl) ?_
  go_wp2
  refine ThenGo.to ⟨A _ hW,?_⟩;refine cla 3 (some 34) 42 #[.slice (some ⟨b,a7,none⟩) m cap] 5 (by kernel_rfl) ?_;refine(aQ _ _ _ (aD.below hW)).mono ?_;rintro e Y ⟨vq,qs,rfl,aA,hO,aV,au,al⟩;obtain⟨sa,sc,rfl⟩:=hO.shape;have bi:=J.out qs aA;have az:Hid (qs.length≤4):=show _≤_ by omega
  have aK:Hid (∀x∈instK.fp (.slice sa qs.length sc) qs,x<Y.heap.size):=hO.lt;have aL:Hid (X.heap.size≤Y.heap.size):=by have:=hW.size;have:=al.size;exact Nat.le_trans hW.size al.size
  have HN:Hid ((instK.fp (.slice sa qs.length sc) qs).Nodup∧∀k∈instK.fp (.slice sa qs.length sc) qs,X.heap.size≤k):=⟨aV,fun k hk=>Nat.le_trans hW.size (au k hk)⟩
  replace hW:=hW.trans (al.mono hW.size);clear aV au aQ bi al;refine⟨_,rfl,A _ hW,?_⟩;simp only[Act.put,pjE];refine cla 5 (some 36) 63 #[.agg #[.bool has,.slice ba s.length bk,.slice va d.length vk,.slice da dec.length dk]] 4 (by kernel_rfl) ?_;refine(aP _ (instK.rd_below rP hW)).mono ?_;rintro e w2 ⟨q,rfl,eq,oq,nq,gq,ak⟩;have bb:Hid (_=O):=(I.out qs q aA eq).trans e2.symm;replace hO:=hO.below ak;replace hW:=hW.trans (ak.mono hW.size);have bc:=ak.size;clear ak aA eq e2 aP I J;refine⟨_,rfl,A _ hW,?_⟩;obtain⟨qh,bt,qb,bv,qr,bu,qd⟩:=q;obtain⟨x1,y1,rfl⟩:∃a c,bt=.slice a qb.length c:=oq.1.shape;obtain⟨x2,y2,rfl⟩:∃a c,bv=.slice a qr.length c:=oq.2.1.shape;obtain⟨x3,y3,rfl⟩:∃a c,bu=.slice a qd.length c:=oq.2.2.shape;simp only[Act.put,pjE];refine ona 6 3 rfl (by kernel_rfl) ?_;have T:Below w2.heap.size w2 (w2.alloc (.cells #[.bool qh,.slice x1 qb.length y1,.slice x2 qr.length y2,.slice x3 qd.length y3] 49)):=by go_grown
  have aC:=hO.below T;have aM:=instK.own_out (F:=[]) oq (Out.of_below T) (fun _ _=>by simp);have bg:Y.heap.size≤(w2.alloc (.cells #[.bool qh,.slice x1 qb.length y1,.slice x2 qr.length y2,.slice x3 qd.length y3] 49)).heap.size:=by have:=T.size;omega
  replace hW:=hW.trans (T.mono hW.size);have ay:∀j u,[.bool qh,.slice x1 qb.length y1,.slice x2 qr.length y2,.slice x3 qd.length y3][j]?=some u→(w2.alloc (.cells #[.bool qh,.slice x1 qb.length y1,.slice x2 qr.length y2,.slice x3 qd.length y3] 49)).cell? ((⟨w2.heap.size,0,none⟩:Addr).add j)=some u:=by
   intro j u hj;match j,hj with|0,hj=>simp at hj;subst hj;simp[Addr.add]|1,hj=>simp at hj;subst hj;simp[Addr.add]|2,hj=>simp at hj;subst hj;simp[Addr.add]|3,hj=>simp at hj;subst hj;simp[Addr.add]
  clear hO oq
  go_wp2
  refine ThenGo.to ⟨A _ hW,?_⟩;generalize w2.alloc (.cells #[.bool qh,.slice x1 qb.length y1,.slice x2 qr.length y2,.slice x3 qd.length y3] 49)=WA at*;clear T;have aj:=aC.1;refine ona 7 2 rfl (by kernel_rfl) ?_;refine wpList_append_own_at _ rfl _ _ 24 rfl 0 49 i0 (.agg #[.bool false,.slice none 0 0,.slice none 0 0,.slice none 0 0]) 4 80 Tryz.underlying24 hi bn bo bp rfl (by decide) _ qs.length (instK.row qs) rfl aj ⟨w2.heap.size,0,none⟩ 1 1 [.bool qh,.slice x1 qb.length y1,.slice x2 qr.length y2,.slice x3 qd.length y3] rfl rfl ay ?c2 ?c3 ?c4 ?c5 ?_
  case c2=>intro u hu;simp at hu;rcases hu with rfl|rfl|rfl|rfl<;>rfl
  case c3=>have:=az.out;unfold maxLen;omega
  case c4=>have:=az.out;omega
  case c5=>omega
  intro v' w5 av ab aX aO;clear aX aj ay;obtain⟨aB,aW,ad,a1⟩:=aC.snoc (p:=(⟨qh,.slice x1 qb.length y1,qb,.slice x2 qr.length y2,qr,.slice x3 qd.length y3,qd⟩:InstQ)) HN.out.1 HN.out.2 aM nq (fun x hx bm=>by have:=aK.out x bm;have:=gq x hx;omega) (fun x hx=>by have:=gq x hx;have:=aL.out;omega) hW.size av ab aO;have E:Below X.heap.size X w5:=Out.keep hW a1 hW.size (fun x hx=>HN.out.2 x (by simp only[Kind.fp,List.mem_append];exact Or.inl hx));clear a1 av ab aO aC aM HN aK aL az hW gq nq bc bg;obtain⟨xa,xc,bj⟩:=aB.shape;subst bj;generalize bd:qs++[(⟨qh,.slice x1 qb.length y1,qb,.slice x2 qr.length y2,qr,.slice x3 qd.length y3,qd⟩:InstQ)]=Q5 at*;clear bd;have R5:=Rb.below E;have bC:=Rb.lt;have ao:Hid (∀cs,instK.Own (w5.setRow (w.heap.size+1) cs) (.slice xa Q5.length xc) Q5∧Below w.heap.size w (w5.setRow (w.heap.size+1) cs)):=fun cs=>⟨aB.out (z0f w5 (w.heap.size+1) cs) (fun k hk=>by have:=ad k hk;simp only[List.mem_singleton];omega),z0c (hB.trans (E.mono hB.size)) (by omega) cs⟩
  have aH:Hid ((instK.fp (.slice xa Q5.length xc) Q5).Nodup∧∀k∈instK.fp (.slice xa Q5.length xc) Q5,w.heap.size≤k):=⟨aW,fun k hk=>by have:=ad k hk;omega⟩
  have be:=R5.row #[.int .i64 0,.slice xa Q5.length xc];have aN:Out [w.heap.size+1] X (w5.setRow (w.heap.size+1) #[.int .i64 0,.slice xa Q5.length xc]):=(Out.of_below E).trans (z0f _ _ _);clear aB aW ad hB
  go_wp2
  refine ThenGo.to ⟨A _ E,?_⟩;simp only[Act.put,pgE,pjE];refine qta 8 (some 39) (.agg #[.int .i64 0,.slice xa Q5.length xc]) 1 (by kernel_rfl) (fun u _=>by kernel_rfl) (A _ E) ?_;simp only[Act.put,pjE];refine ona 9 0 rfl (by kernel_rfl) ?_;refine z0d (by kernel_rfl) 33 _ _ rfl _ #[.int .i64 0,.slice xa Q5.length xc] rfl rfl 33 _ R5 q1i rfl (by simp[Value.oneCell']) ?_;refine ThenGo.to ⟨⟨⟨_,aN⟩,rfl⟩,?_⟩;refine z0e (by kernel_rfl) ?_;clear p0 p1 p2 p3 am A E R5 aN;obtain⟨q0,q1⟩:=be.cel2
  go_wp2
  exact bodyPost_ret (v:=.agg #[.int .i64 0,.slice xa Q5.length xc]) (by simp[results,Tryz.results24,go_sem,q0,q1]) rfl ⟨.slice xa Q5.length xc,Q5,by rw[a8.out],bb.out,(ao.out _).1,aH.out.1,aH.out.2,(ao.out _).2⟩
end Go.Proofs.YtciofogeiohleaaGreatDoor
