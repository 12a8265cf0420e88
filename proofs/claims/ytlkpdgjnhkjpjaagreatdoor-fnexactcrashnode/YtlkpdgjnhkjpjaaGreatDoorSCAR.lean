/- Texts joined,with what the laws reach alone. -/
import Derived.Test.YtlkpdgjnhkjpjaaGreatDoorSCAP
import Derived.Test.YtlkpdgjnhkjpjaaGreatDoorSCAQ
import Derived.Test.YtlkpdgjnhkjpjaaGreatDoorSCAO
import Derived.LaidEql
import Derived.Stop.Asserts
import Derived.RowKitTokens
import Derived.Maps.Own
import Derived.Maps.Keyed
import Derived.Maps.Views
import Derived.DeepKeys4
set_option linter.unusedVariables false
set_option linter.unusedSimpArgs false
set_option maxRecDepth 100000
set_option maxHeartbeats 8000000
namespace Go.Proofs.YtlkpdgjnhkjpjaaGreatDoor
open Go.RowKit Go.BigFrame
def sameUss:List (List UndoD)→List (List UndoD)→Bool
 |[],[]=>true
 |x::r,y::s=>sameUs x y && sameUss r s
 |_,_=>false
theorem z2A(xs:List USQ)(k:Nat)(hk:k<xs.length):(xs.map USQ.e).getD k []=USQ.e xs[k]:=by simp[List.getD,hk]
theorem z7e{w:World}{b off k:Nat}{p:USQ}(h:∀j x,(ussK.cells p)[j]?=some x→w.cell? ⟨b,off+k*ussK.size+j,none⟩=some x):w.cell? ⟨b,off+k,none⟩=some p.va:=by
 have:=h 0 p.va rfl
 rwa [show off+k*ussK.size+0=off+k from by show off+k*1+0=off+k;omega]at this
theorem z8h(v v':Value)(xs ys:List USQ)(w:World)(h:ussK.At w v xs)(h':ussK.At w v' ys)(hl:xs.length+nmL USQ.n xs≤1048576)(T:ys.length+nmL USQ.n ys≤1048576):
  Calls Tryz.prog 116 #[v,v',.func (.func 117) #[] #[]] w fun e w'=>e=.returned (.bool (sameUss (xs.map USQ.e) (ys.map USQ.e)))∧Below w.heap.size w w':=by
 obtain⟨a,cap,rfl⟩:=h.shape;obtain⟨a',L,rfl⟩:=h'.shape;by_cases c:xs.length=ys.length
 case neg=>
  have E:sameUss (xs.map USQ.e) (ys.map USQ.e)=false:=z2N (f:=sameUs) rfl (fun _ _ _ _=>rfl) (fun _ _=>rfl) (fun _ _=>rfl) _ _ (by simpa using c);rw[E];have hd:((xs.length:Int) !=(ys.length:Int))=true:=by simp;omega
  go_enter Tryz.func116,Tryz.ntmps116
  go_wp2
  go_ret;exact⟨rfl,Below.refl _ _⟩
 case pos=>
  have hd:((xs.length:Int) !=(ys.length:Int))=false:=by simp[c]
  have HL:Hid (xs.length=ys.length):=c;have HM:Hid ((xs.map USQ.e).length=(ys.map USQ.e).length):=show _=_ by simpa using c
  clear c;generalize hE:sameUss (xs.map USQ.e) (ys.map USQ.e)=E;have HE:Hid (sameUss (xs.map USQ.e) (ys.map USQ.e)=E):=hE;clear hE;go_enter Tryz.func116,Tryz.ntmps116
  go_wp2
  go_loopw[17] (fun i wr=>∃k:Nat,k≤xs.length∧i=.int .i64 k∧Below w.heap.size w wr∧Hid (∀j,j<k→sameUs ((xs.map USQ.e).getD j []) ((ys.map USQ.e).getD j [])=true)) (fun i _=>xs.length-(intOf i).toNat)
  case atStart=>exact⟨0,Nat.zero_le _,rfl,Below.refl _ _,fun j hj=>absurd hj (Nat.not_lt_zero _)⟩
  case round=>
   obtain⟨k,hk,rfl,hb,HA⟩:=hrel;by_cases y:k<xs.length
   ·have x:k<ys.length:=by have:=HL.out;omega
    obtain⟨b,U,rfl,O,hc,z⟩:=(h.below hb).cell (by decide) k y;obtain⟨b',N,rfl,M,I,d⟩:=(h'.below hb).cell (by decide) k x;have c0:=z7e hc;have d0:=z7e I;have n1:=z1u USQ.n xs k y;have n2:=z1u USQ.n ys k x;have HY:Hid (sameUs (USQ.e xs[k]) (USQ.e ys[k])=false→E=false):=fun hx=>by
     rw[←HE.out];exact z2O (f:=sameUs) [] (fun _ _ _ _=>rfl) _ _ k HM.out (by simpa using y) (by rw[z2A xs k y,z2A ys k x];exact hx)
    have HN:Hid (sameUs (USQ.e xs[k]) (USQ.e ys[k])=true→∀j,j<k+1→sameUs ((xs.map USQ.e).getD j []) ((ys.map USQ.e).getD j [])=true):=fun hx j hj=>by
     by_cases J:j=k
     ·subst J;rw[z2A xs j y,z2A ys j x];exact hx
     ·exact HA.out j (by omega)
    clear HA hc I;generalize xs[k]=p at*;generalize ys[k]=q at*;obtain⟨pv,pu⟩:=p;obtain⟨qv,qu⟩:=q;replace z:undoK.At wr pv pu:=z;replace d:undoK.At wr qv qu:=d;replace n1:pu.length≤nmL USQ.n xs:=n1;replace n2:qu.length≤nmL USQ.n ys:=n2;dsimp only[USQ.e]at c0 d0 HY HN;obtain⟨a1,k1,rfl⟩:=z.shape;obtain⟨b1,m1,rfl⟩:=d.shape;have hq:=fun w f1 f2=>z4G a1 b1 k1 m1 pu qu w f1 f2 (by omega) (by omega)
    have g1:=(z1L z).2;have g2:=(z1L d).2;generalize sameUs pu qu=X at*;clear n1 n2 z d
    go_wp2_with fail
    refine(hq _ g1 g2).mono ?_;rintro e w2 ⟨rfl,A⟩;have C:=z0s hb A;clear A c0 d0 hq g1 g2
    cases X with
    |false=>
     have E1:Hid (E=false):=HY.out rfl;clear HY HN HE
     go_wp2
     go_ret;exact⟨by rw[E1.out];rfl,C⟩
    |true=>
     have R:=HN.out rfl;have HR:Hid _:=R;clear HY HN R
     go_wp2
     go_roundw
     case rel=>exact⟨k+1,by omega,by go_num,C,HR.out⟩
     case measure=>simp[intOf];omega
   ·have E1:Hid (E=true):=by rw[←HE.out];exact z2P (f:=sameUs) [] rfl (fun _ _ _ _=>rfl) _ _ HM.out (fun j hj=>HA.out j (by simpa using(by simpa using hj:j<xs.length)|>fun h=>Nat.lt_of_lt_of_le h (by omega)))
    clear HA HE
    go_wp2
    go_ret;exact⟨by rw[E1.out];rfl,hb⟩
theorem z5t(v v':Value)(xs ys:List USQ)(w:World)(h:ussK.At w v xs)(h':ussK.At w v' ys)(hl:xs.length+nmL USQ.n xs≤1048576)(V:ys.length+nmL USQ.n ys≤1048576):
  Calls Tryz.prog 227 #[v,v'] w fun e w'=>e=.returned (.bool (sameUss (xs.map USQ.e) (ys.map USQ.e)))∧Below w.heap.size w w':=by
 obtain⟨a,cap,rfl⟩:=h.shape;obtain⟨a',M,rfl⟩:=h'.shape;by_cases c:xs.length=ys.length
 case neg=>
  have E:sameUss (xs.map USQ.e) (ys.map USQ.e)=false:=z2N (f:=sameUs) rfl (fun _ _ _ _=>rfl) (fun _ _=>rfl) (fun _ _=>rfl) _ _ (by simpa using c);rw[E];have hd:((xs.length:Int) !=(ys.length:Int))=true:=by simp;omega
  go_enter Tryz.func227,Tryz.ntmps227
  go_wp2
  go_ret;exact⟨rfl,Below.refl _ _⟩
 case pos=>
  have hd:((xs.length:Int) !=(ys.length:Int))=false:=by simp[c]
  have HL:Hid (xs.length=ys.length):=c;have HM:Hid ((xs.map USQ.e).length=(ys.map USQ.e).length):=show _=_ by simpa using c
  clear c;generalize hE:sameUss (xs.map USQ.e) (ys.map USQ.e)=E;have HE:Hid (sameUss (xs.map USQ.e) (ys.map USQ.e)=E):=hE;clear hE;go_enter Tryz.func227,Tryz.ntmps227
  go_wp2
  go_loopw[5] (fun i wr=>∃k:Nat,k≤xs.length∧i=.int .i64 k∧Below w.heap.size w wr∧Hid (∀j,j<k→sameUs ((xs.map USQ.e).getD j []) ((ys.map USQ.e).getD j [])=true)) (fun i _=>xs.length-(intOf i).toNat)
  case atStart=>exact⟨0,Nat.zero_le _,rfl,Below.refl _ _,fun j hj=>absurd hj (Nat.not_lt_zero _)⟩
  case round=>
   obtain⟨k,hk,rfl,hb,HA⟩:=hrel;by_cases y:k<xs.length
   ·have x:k<ys.length:=by have:=HL.out;omega
    obtain⟨b,W,rfl,U,hc,z⟩:=(h.below hb).cell (by decide) k y;obtain⟨b',T,rfl,N,C,d⟩:=(h'.below hb).cell (by decide) k x;have c0:=z7e hc;have d0:=z7e C;have n1:=z1u USQ.n xs k y;have n2:=z1u USQ.n ys k x;have HY:Hid (sameUs (USQ.e xs[k]) (USQ.e ys[k])=false→E=false):=fun hx=>by
     rw[←HE.out];exact z2O (f:=sameUs) [] (fun _ _ _ _=>rfl) _ _ k HM.out (by simpa using y) (by rw[z2A xs k y,z2A ys k x];exact hx)
    have HN:Hid (sameUs (USQ.e xs[k]) (USQ.e ys[k])=true→∀j,j<k+1→sameUs ((xs.map USQ.e).getD j []) ((ys.map USQ.e).getD j [])=true):=fun hx j hj=>by
     by_cases I:j=k
     ·subst I;rw[z2A xs j y,z2A ys j x];exact hx
     ·exact HA.out j (by omega)
    clear HA hc C;generalize xs[k]=p at*;generalize ys[k]=q at*;obtain⟨pv,pu⟩:=p;obtain⟨qv,qu⟩:=q;replace z:undoK.At wr pv pu:=z;replace d:undoK.At wr qv qu:=d;replace n1:pu.length≤nmL USQ.n xs:=n1;replace n2:qu.length≤nmL USQ.n ys:=n2;dsimp only[USQ.e]at c0 d0 HY HN;obtain⟨a1,k1,rfl⟩:=z.shape;obtain⟨b1,m1,rfl⟩:=d.shape;have hq:=fun w f1 f2=>z4F a1 b1 k1 m1 pu qu w f1 f2 (by omega) (by omega)
    have g1:=(z1L z).2;have g2:=(z1L d).2;generalize sameUs pu qu=X at*;clear n1 n2 z d;have O:(k:Int)<(xs.length:Int):=by omega
    have J:(k:Int)<(ys.length:Int):=by omega
    replace c0:=z0f c0;replace d0:=z0f d0;have hW:Below wr.heap.size wr wr.drew:=(Below.refl _ _).drew;have L:Nonempty (Lat wr):=⟨⟨wr,Below.refl _ _⟩⟩
    go_wp2_with fail
    refine z0e (S:=fun w'=>∃u:Lat wr,w'=u.val) (by kernel_rfl) ?_;refine sgr [(0,8)] 2 (by kernel_rfl) ⟨⟨_,hW⟩,rfl⟩ ?_;simp only[pkE];repeat go_big_quiet_step (fail)
    refine wpQuiet_nil ?_;refine cla 8 (some 25) 266 #[.slice a1 pu.length k1,.slice b1 qu.length m1] 1 (by kernel_rfl) ?_;refine(hq _ (g1.below hW) (g2.below hW)).mono ?_;rintro e w9 ⟨rfl,A⟩;replace hW:=hW.trans (A.mono hW.size);clear A;refine⟨_,rfl,⟨⟨_,hW⟩,rfl⟩,?_⟩;simp only[Act.put,pjE];refine sgr [(9,1)] 0 (by kernel_rfl) ⟨⟨_,hW⟩,rfl⟩ ?_;simp only[pkE];repeat go_big_quiet_step (fail)
    refine wpQuiet_nil ?_;refine z0i (by kernel_rfl) ?_;replace hb:=hb.trans (hW.mono hb.size);clear hW L hq g1 g2 c0 d0
    cases X with
    |false=>
     have E1:Hid (E=false):=HY.out rfl;clear HY HN HE
     go_wp2
     go_ret;exact⟨by rw[E1.out];rfl,hb⟩
    |true=>
     have R:=HN.out rfl;have HR:Hid _:=R;clear HY HN R
     go_wp2
     go_roundw
     case rel=>exact⟨k+1,by omega,by go_num,hb,HR.out⟩
     case measure=>simp[intOf];omega
   ·have E1:Hid (E=true):=by rw[←HE.out];exact z2P (f:=sameUs) [] rfl (fun _ _ _ _=>rfl) _ _ HM.out (fun j hj=>HA.out j (by simpa using(by simpa using hj:j<xs.length)|>fun h=>Nat.lt_of_lt_of_le h (by omega)))
    clear HA HE
    go_wp2
    go_ret;exact⟨by rw[E1.out];rfl,hb⟩
def sameRep(x y:RepE):Bool:=sameTs x.done y.done && (sameIs x.base y.base && (sameTs x.tent y.tent && (sameUss x.undos y.undos && sameIs x.now y.now)))
theorem z2W(p q:RepQ)(w:World)(h:repK.rd w p)(h':repK.rd w q)(hl:p.n≤1048576)(d:q.n≤1048576):
  Calls Tryz.prog 67 #[.agg #[p.vd,p.vb,p.vt,p.vu,p.vn],.agg #[q.vd,q.vb,q.vt,q.vu,q.vn]] w fun e w'=>e=.returned (.bool (sameRep p.e q.e))∧Below w.heap.size w w':=by
 obtain⟨y,pd,x,pb,A,pt,C,pu,z,pn⟩:=p;obtain⟨p0,p5,rfl⟩:∃a c,y=.slice a pd.length c:=h.1.shape;obtain⟨p1,p6,rfl⟩:∃a c,x=.slice a pb.length c:=h.2.1.shape;obtain⟨p2,p7,rfl⟩:∃a c,A=.slice a pt.length c:=h.2.2.1.shape;obtain⟨p3,p8,rfl⟩:∃a c,C=.slice a pu.length c:=h.2.2.2.1.shape;obtain⟨p4,p9,rfl⟩:∃a c,z=.slice a pn.length c:=h.2.2.2.2.shape;obtain⟨J,qd,I,qb,M,qt,N,qu,L,qn⟩:=q;obtain⟨q0,q5,rfl⟩:∃a c,J=.slice a qd.length c:=h'.1.shape;obtain⟨q1,q6,rfl⟩:∃a c,I=.slice a qb.length c:=h'.2.1.shape;obtain⟨q2,q7,rfl⟩:∃a c,M=.slice a qt.length c:=h'.2.2.1.shape;obtain⟨q3,q8,rfl⟩:∃a c,N=.slice a qu.length c:=h'.2.2.2.1.shape;obtain⟨q4,q9,rfl⟩:∃a c,L=.slice a qn.length c:=h'.2.2.2.2.shape;dsimp only[RepQ.n]at hl d;have c0:=fun w h h'=>z1y (.slice p0 pd.length p5) (.slice q0 qd.length q5) (pd.map TxnQ.e) (qd.map TxnQ.e) w (z0v h) (z0v h') (by rw[List.length_map,z07];omega) (by rw[List.length_map,z07];omega)
 have c1:=fun w h h'=>z1X p1 q1 p6 q6 pb qb w h h' (by omega) (by omega)
 have c2:=fun w h h'=>z1y (.slice p2 pt.length p7) (.slice q2 qt.length q7) (pt.map TxnQ.e) (qt.map TxnQ.e) w (z0v h) (z0v h') (by rw[List.length_map,z07];omega) (by rw[List.length_map,z07];omega)
 have c3:=fun w h h'=>z8h (.slice p3 pu.length p8) (.slice q3 qu.length q8) pu qu w h h' (by omega) (by omega)
 have c4:=fun w h h'=>z1X p4 q4 p9 q9 pn qn w h h' (by omega) (by omega)
 obtain⟨r0,r1,r2,r3,r4⟩:txnK.At w (.slice p0 pd.length p5) pd∧itemK.At w (.slice p1 pb.length p6) pb∧txnK.At w (.slice p2 pt.length p7) pt∧ussK.At w (.slice p3 pu.length p8) pu∧itemK.At w (.slice p4 pn.length p9) pn:=h;obtain⟨s0,s1,s2,s3,s4⟩:txnK.At w (.slice q0 qd.length q5) qd∧itemK.At w (.slice q1 qb.length q6) qb∧txnK.At w (.slice q2 qt.length q7) qt∧ussK.At w (.slice q3 qu.length q8) qu∧itemK.At w (.slice q4 qn.length q9) qn:=h';replace r1:=(z0Z r1).2;replace r4:=(z0Z r4).2;replace s1:=(z0Z s1).2;replace s4:=(z0Z s4).2;have E:Hid (sameRep ⟨pd.map TxnQ.e,pb,pt.map TxnQ.e,pu.map USQ.e,pn⟩ ⟨qd.map TxnQ.e,qb,qt.map TxnQ.e,qu.map USQ.e,qn⟩=(sameTs (pd.map TxnQ.e) (qd.map TxnQ.e) && (sameIs pb qb && (sameTs (pt.map TxnQ.e) (qt.map TxnQ.e) && (sameUss (pu.map USQ.e) (qu.map USQ.e) && sameIs pn qn))))):=show _=_ from rfl
 dsimp only[RepQ.e];generalize sameTs (pd.map TxnQ.e) (qd.map TxnQ.e)=X0 at*;generalize sameIs pb qb=X1 at*;generalize sameTs (pt.map TxnQ.e) (qt.map TxnQ.e)=X2 at*;generalize sameUss (pu.map USQ.e) (qu.map USQ.e)=X3 at*;generalize sameIs pn qn=X4 at*;generalize sameRep ⟨pd.map TxnQ.e,pb,pt.map TxnQ.e,pu.map USQ.e,pn⟩ ⟨qd.map TxnQ.e,qb,qt.map TxnQ.e,qu.map USQ.e,qn⟩=S at*;have B:=(Blk.new w 29 #[.slice p0 pd.length p5,.slice p1 pb.length p6,.slice p2 pt.length p7,.slice p3 pu.length p8,.slice p4 pn.length p9]).below (w':=((w.alloc (.cells #[.slice p0 pd.length p5,.slice p1 pb.length p6,.slice p2 pt.length p7,.slice p3 pu.length p8,.slice p4 pn.length p9] 29)).alloc (.cells #[.slice q0 qd.length q5,.slice q1 qb.length q6,.slice q2 qt.length q7,.slice q3 qu.length q8,.slice q4 qn.length q9] 29))) (by go_grown);have B':=Blk.new (w.alloc (.cells #[.slice p0 pd.length p5,.slice p1 pb.length p6,.slice p2 pt.length p7,.slice p3 pu.length p8,.slice p4 pn.length p9] 29)) 29 #[.slice q0 qd.length q5,.slice q1 qb.length q6,.slice q2 qt.length q7,.slice q3 qu.length q8,.slice q4 qn.length q9];have hB:Below w.heap.size w ((w.alloc (.cells #[.slice p0 pd.length p5,.slice p1 pb.length p6,.slice p2 pt.length p7,.slice p3 pu.length p8,.slice p4 pn.length p9] 29)).alloc (.cells #[.slice q0 qd.length q5,.slice q1 qb.length q6,.slice q2 qt.length q7,.slice q3 qu.length q8,.slice q4 qn.length q9] 29)):=by go_grown
 rw[World.size_alloc]at B';go_enter Tryz.func67,Tryz.ntmps67;have f0:=B.cell 0 _ rfl;have g0:=B'.cell 0 _ rfl
 go_wp2_with fail
 clear f0 g0;generalize ((w.alloc (.cells #[.slice p0 pd.length p5,.slice p1 pb.length p6,.slice p2 pt.length p7,.slice p3 pu.length p8,.slice p4 pn.length p9] 29)).alloc (.cells #[.slice q0 qd.length q5,.slice q1 qb.length q6,.slice q2 qt.length q7,.slice q3 qu.length q8,.slice q4 qn.length q9] 29))=W at*;refine(c0 W (r0.below hB) (s0.below hB)).mono ?_;rintro e w0 ⟨rfl,hb⟩;replace B:=B.below hb;replace B':=B'.below hb;replace hB:=hB.trans (hb.mono hB.size);clear hb
 cases X0 with
 |false=>
  go_wp2
  go_ret;exact⟨by rw[E.out];rfl,hB⟩
 |true=>
  have f1:=B.cell 1 _ rfl;have g1:=B'.cell 1 _ rfl
  go_wp2_with fail
  clear f1 g1;refine(c1 w0 (r1.below hB) (s1.below hB)).mono ?_;rintro e w1 ⟨rfl,hb⟩;replace B:=B.below hb;replace B':=B'.below hb;replace hB:=hB.trans (hb.mono hB.size);clear hb
  cases X1 with
  |false=>
   go_wp2
   go_ret;exact⟨by rw[E.out];rfl,hB⟩
  |true=>
   have f2:=B.cell 2 _ rfl;have g2:=B'.cell 2 _ rfl
   go_wp2_with fail
   clear f2 g2;refine(c2 w1 (r2.below hB) (s2.below hB)).mono ?_;rintro e w2 ⟨rfl,hb⟩;replace B:=B.below hb;replace B':=B'.below hb;replace hB:=hB.trans (hb.mono hB.size);clear hb
   cases X2 with
   |false=>
    go_wp2
    go_ret;exact⟨by rw[E.out];rfl,hB⟩
   |true=>
    have f3:=B.cell 3 _ rfl;have g3:=B'.cell 3 _ rfl
    go_wp2_with fail
    clear f3 g3;refine(c3 w2 (r3.below hB) (s3.below hB)).mono ?_;rintro e w3 ⟨rfl,hb⟩;replace B:=B.below hb;replace B':=B'.below hb;replace hB:=hB.trans (hb.mono hB.size);clear hb
    cases X3 with
    |false=>
     go_wp2
     go_ret;exact⟨by rw[E.out];rfl,hB⟩
    |true=>
     have f4:=B.cell 4 _ rfl;have g4:=B'.cell 4 _ rfl
     go_wp2_with fail
     clear f4 g4;refine(c4 w3 (r4.below hB) (s4.below hB)).mono ?_;rintro e w4 ⟨rfl,hb⟩;replace B:=B.below hb;replace B':=B'.below hb;replace hB:=hB.trans (hb.mono hB.size);clear hb
     go_wp2
     go_ret;exact⟨by rw[E.out];rfl,hB⟩
section
open Go.Extern.Stop Go.Stop Go.Extern
theorem q5q(t:Value)(w:World):
  Calls Tryz.prog 157 #[.nilIface,t] w fun e w'=>e=.returned (.bool false)∧w'=w:=by
 go_enter Tryz.func157,Tryz.ntmps157
 go_wp2
 go_ret;exact⟨rfl,rfl⟩
theorem z7f(t:Addr)(w:World):(ReflectliteValue.unpack (.iface 221 (.pointer (some t)))).run Tryz.prog w
  =.ok (.agg #[.pointer (some ⟨2,221,none⟩),.pointer (some ⟨w.heap.size,0,none⟩),.int .u64 150]) (w.alloc (.cells #[.pointer (some t)] 221)):=by kernel_rfl
theorem q0D (a : Addr) (w : World) : (ReflectliteValue.methodAny (ReflectliteValue.valueError "reflectlite.Value.Type" 0) (fun t _ _ _ => ReflectliteType.toType t) #[.agg #[.pointer (some ⟨2, 221, none⟩), .pointer (some a), .int .u64 150]]).run Tryz.prog w
  =.ok (.iface 344 (.agg #[.pointer (some ⟨2,221,none⟩)])) w:=by kernel_rfl
theorem z56 (h : Value) (w : World) : (Go.method 297 344 (.agg #[h]) "Kind").run Tryz.prog w = .ok (343, h) w := by kernel_rfl
theorem q0E(w:World):((ReflectliteType.abiMethod fun t=>(fun a:Nat=>Value.int IntKind.u8 (a:Int))<$>Rtype.kind t) #[.pointer (some ⟨2,221,none⟩)]).run Tryz.prog w=.ok (.int .u8 22) w:=by kernel_rfl
theorem q0F(w:World):((ReflectliteType.abiMethod fun t=>(fun a:Nat=>Value.int IntKind.u8 (a:Int))<$>Rtype.kind t) #[.pointer (some ⟨2,219,none⟩)]).run Tryz.prog w=.ok (.int .u8 25) w:=by kernel_rfl
theorem q1W(z:Sem Value)(f:TypeId→Addr→Nat→Nat→Sem Value)(v:Value):
  ReflectliteValue.method z f #[v]=(do match←ReflectliteValue.parts v with|none=>z|some (t,a,fl)=>f t a fl (fl % 32)):=rfl
theorem z5u(a:Addr)(w:World):(ReflectliteValue.parts (.agg #[.pointer (some ⟨2,221,none⟩),.pointer (some a),.int .u64 150])).run Tryz.prog w=.ok (some (221,a,150)) w:=by kernel_rfl
theorem z9j(a p:Addr)(W:World)(ha:W.cell? a=some (.pointer (some p))):
  (ReflectliteValue.method (ReflectliteValue.valueError "reflectlite.Value.IsNil" 0) ReflectliteValue.isNil #[.agg #[.pointer (some ⟨2, 221, none⟩), .pointer (some a), .int .u64 150]]).run Tryz.prog W = .ok (.bool false) W := by
 rw[q1W];simp only[Sem.run_bind,z5u,Result.andThen];simp[ReflectliteValue.isNil,loadVar,isAgg,underlying,Tryz.underlying221,ha,Result.andThen]
theorem z58 (h : Value) (w : World) : (Go.method 297 344 (.agg #[h]) "Elem").run Tryz.prog w = .ok (354, .agg #[h]) w := by kernel_rfl
theorem z2X (h : Value) (w : World) : (Go.method 297 344 (.agg #[h]) "Implements").run Tryz.prog w = .ok (355, .agg #[h]) w := by kernel_rfl
theorem z2o (h : Value) (w : World) : (Go.method 297 344 (.agg #[h]) "AssignableTo").run Tryz.prog w = .ok (352, .agg #[h]) w := by kernel_rfl
theorem q0G(w:World):(ReflectliteType.method ReflectliteType.elem #[.agg #[.pointer (some ⟨2,221,none⟩)]]).run Tryz.prog w=.ok (.iface 344 (.agg #[.pointer (some ⟨2,219,none⟩)])) w:=by kernel_rfl
theorem z4H (w : World) : (ReflectliteType.relation "Implements" ReflectliteType.implements_ #[.agg #[.pointer (some ⟨2, 219, none⟩)], .iface 344 (.agg #[.pointer (some ⟨2, 148, none⟩)])]).run Tryz.prog w = .ok (.bool true) w := by kernel_rfl
theorem z8i(v:Value)(w:World):(ReflectliteType.typeOf #[.iface 219 v]).run Tryz.prog w=.ok (.iface 344 (.agg #[.pointer (some ⟨2,219,none⟩)])) w:=by kernel_rfl
theorem z4I (w : World) : (ReflectliteType.relation "AssignableTo" ReflectliteType.assignableTo #[.agg #[.pointer (some ⟨2, 219, none⟩)], .iface 344 (.agg #[.pointer (some ⟨2, 219, none⟩)])]).run Tryz.prog w = .ok (.bool true) w := by kernel_rfl
theorem z7g(c:Int)(w:World):(ReflectliteValue.unpack (.iface 219 (.agg #[.int .i64 c]))).run Tryz.prog w
  =.ok (.agg #[.pointer (some ⟨2,219,none⟩),.pointer (some ⟨w.heap.size,0,none⟩),.int .u64 153]) (w.alloc (.cells #[.int .i64 c] 219)):=by kernel_rfl
theorem z8j(w:World):(Rtype.elem? 221).run Tryz.prog w=.ok (some 219) w:=by kernel_rfl
theorem q3f(p:Addr)(w:World):(ReflectliteValue.mk 219 p ReflectliteValue.flagAddr).run Tryz.prog w=.ok (.agg #[.pointer (some ⟨2,219,none⟩),.pointer (some p),.int .u64 409]) w:=by kernel_rfl
theorem z9k(a p:Addr)(W:World)(ha:W.cell? a=some (.pointer (some p))):
  (ReflectliteValue.method (ReflectliteValue.valueError "reflectlite.Value.Elem" 0) ReflectliteValue.elem #[.agg #[.pointer (some ⟨2, 221, none⟩), .pointer (some a), .int .u64 150]]).run Tryz.prog W
   =.ok (.agg #[.pointer (some ⟨2,219,none⟩),.pointer (some p),.int .u64 409]) W:=by
 rw[q1W];simp only[Sem.run_bind,z5u,Result.andThen];simp[ReflectliteValue.elem,loadVar,isAgg,underlying,Tryz.underlying221,ha,Result.andThen,z8j,q3f]
theorem q4G (v x:Value):ReflectliteValue.set #[v,x]=(do
  let(some (dst,a,fl),some (src,b,_)):=(←ReflectliteValue.parts v,←ReflectliteValue.parts x)
   | unsupported (.noEntry "extern/(internal/reflectlite.Value).Set.zeroValue")
  if fl / ReflectliteValue.flagAddr % 2 == 0 then unsupported (.noEntry "extern/(internal/reflectlite.Value).Set.unaddressable")
  let val←loadVar src b
  if←Rtype.directlyAssignable dst src then storeVar dst a val
  else if←Rtype.implements dst src then
   if(←Rtype.kind src)==20 then
    match val with
    | .nilIface => unsupported (.noEntry "extern/reflectlite: a nil value of one interface type handed on as a value of another")
    |_=>storeVar dst a val
   else storeVar dst a (.iface src val)
  else panicString ("reflectlite.Set: value of type " ++ (← Rtype.spelt src) ++ " is not assignable to type " ++ (← Rtype.spelt dst))
  pure (.tuple #[])):=rfl
theorem z8k(a:Addr)(w:World):(ReflectliteValue.parts (.agg #[.pointer (some ⟨2,219,none⟩),.pointer (some a),.int .u64 409])).run Tryz.prog w=.ok (some (219,a,409)) w:=by kernel_rfl
theorem z9l(a:Addr)(w:World):(ReflectliteValue.parts (.agg #[.pointer (some ⟨2,219,none⟩),.pointer (some a),.int .u64 153])).run Tryz.prog w=.ok (some (219,a,153)) w:=by kernel_rfl
theorem z8l(w:World):(Rtype.directlyAssignable 219 219).run Tryz.prog w=.ok true w:=by kernel_rfl
theorem z6r(w:World):(sizeOf 219).run Tryz.prog w=.ok 1 w:=by kernel_rfl
theorem q5r(b:Addr)(c:Int)(W:World)(hb:W.cell? b=some (.int .i64 c)):(loadVar 219 b).run Tryz.prog W=.ok (.agg #[.int .i64 c]) W:=by
 have h1:(loadCells b 1).run Tryz.prog W=.ok #[.int .i64 c] W:=run_loadCells_list (P:=Tryz.prog) (w:=W) b [.int .i64 c] (fun j v hj=>by
  match j,hj with
  | 0,hj=>simp at hj;subst hj;simpa [Addr.add] using hb)
 unfold loadVar;simp only[Sem.run_bind];have h2:(isAgg 219).run Tryz.prog W=.ok true W:=by simp[isAgg,underlying,Tryz.underlying219,Result.andThen]
 rw[h2];simp[Result.andThen,z6r,h1]
theorem q5s(ta:Addr)(c:Int)(old:Value)(W:World)(ht:W.cell? ta=some old)(hf:W.frozen? ta=false):(storeVar 219 ta (.agg #[.int .i64 c])).run Tryz.prog W=.ok () (W.setCell ta (.int .i64 c)):=by
 unfold storeVar;simp[z6r,Value.cells,storeCells,Result.andThen,Addr.add];rw[run_store Tryz.prog W ta _ _ (by rfl)];simp[ht,hf]
theorem q1X(ta b:Addr)(c:Int)(old:Value)(W:World)(hb:W.cell? b=some (.int .i64 c))(ht:W.cell? ta=some old)(hf:W.frozen? ta=false):
  (ReflectliteValue.set #[.agg #[.pointer (some ⟨2,219,none⟩),.pointer (some ta),.int .u64 409],.agg #[.pointer (some ⟨2,219,none⟩),.pointer (some b),.int .u64 153]]).run Tryz.prog W
   =.ok (.tuple #[]) (W.setCell ta (.int .i64 c)):=by
 rw[q4G];simp only[Sem.run_bind,z8k,z9l,Result.andThen];simp[ReflectliteValue.flagAddr,Result.andThen,z8l,q5r b c W hb,q5s ta c old W ht hf]
theorem q5t(c:Int)(t:Addr)(old:Value)(w:World)(hg:w.cell? ⟨0,0,none⟩=some (.iface 344 (.agg #[.pointer (some ⟨2,148,none⟩)])))(ht0:w.cell? t=some old)(hf0:w.frozen? t=false):
  Calls Tryz.prog 157 #[.iface 219 (.agg #[.int .i64 c]),.iface 221 (.pointer (some t))] w fun ev w'=>ev=.returned (.bool true)∧w'=((((w.alloc (.cells #[.pointer (some t)] 221)).alloc (.cells #[.pointer (some ⟨2,221,none⟩),.pointer (some ⟨w.heap.size,0,none⟩),.int .u64 150] 294)).alloc (.cells #[.pointer (some ⟨2,221,none⟩),.pointer (some ⟨w.heap.size,0,none⟩),.int .u64 150] 294)).alloc (.cells #[.int .i64 c] 219)).setCell t (.int .i64 c):=by
 have h6:=@run_callFunc_extern Tryz.prog 213 _ (fun args=>ReflectliteValue.unpack (args.getD 0 (.tuple #[]))) Tryz.func213 (by kernel_rfl) (by kernel_rfl) (by kernel_rfl) (by kernel_rfl);have h7 := @run_callFunc_extern Tryz.prog 214 _ (ReflectliteValue.methodAny (ReflectliteValue.valueError "reflectlite.Value.Type" 0) (fun t _ _ _ => ReflectliteType.toType t)) Tryz.func214 (by kernel_rfl) (by kernel_rfl) (by kernel_rfl) (by kernel_rfl)
 have h8 := @run_callFunc_extern Tryz.prog 215 _ (ReflectliteValue.method (ReflectliteValue.valueError "reflectlite.Value.IsNil" 0) ReflectliteValue.isNil) Tryz.func215 (by kernel_rfl) (by kernel_rfl) (by kernel_rfl) (by kernel_rfl)
 have h27:=@run_callFunc_extern Tryz.prog 343 _ (ReflectliteType.abiMethod fun t=>do pure (.int .u8 (←Rtype.kind t))) Tryz.func343 (by kernel_rfl) (by kernel_rfl) (by kernel_rfl) (by kernel_rfl);have h37:=@run_callFunc_extern Tryz.prog 354 _ (ReflectliteType.method ReflectliteType.elem) Tryz.func354 (by kernel_rfl) (by kernel_rfl) (by kernel_rfl) (by kernel_rfl);have h38 := @run_callFunc_extern Tryz.prog 355 _ (ReflectliteType.relation "Implements" ReflectliteType.implements_) Tryz.func355 (by kernel_rfl) (by kernel_rfl) (by kernel_rfl) (by kernel_rfl)
 have h10:=@run_callFunc_extern Tryz.prog 259 _ ReflectliteType.typeOf Tryz.func259 (by kernel_rfl) (by kernel_rfl) (by kernel_rfl) (by kernel_rfl);have h35 := @run_callFunc_extern Tryz.prog 352 _ (ReflectliteType.relation "AssignableTo" ReflectliteType.assignableTo) Tryz.func352 (by kernel_rfl) (by kernel_rfl) (by kernel_rfl) (by kernel_rfl)
 have h11 := @run_callFunc_extern Tryz.prog 260 _ (ReflectliteValue.method (ReflectliteValue.valueError "reflectlite.Value.Elem" 0) ReflectliteValue.elem) Tryz.func260 (by kernel_rfl) (by kernel_rfl) (by kernel_rfl) (by kernel_rfl)
 have h12:=@run_callFunc_extern Tryz.prog 261 _ ReflectliteValue.set Tryz.func261 (by kernel_rfl) (by kernel_rfl) (by kernel_rfl) (by kernel_rfl);have tO:=z8i;have mA:=z2o;have a25:=z4I;have v25:=z7g;have f6:=z7f;have f7:=q0D;have mK:=z56;have mE:=z58;have mI:=z2X;have k27:=q0E;have k25:=q0F;have e27:=q0G;have i25:=z4H;have n8:=z9j ⟨w.heap.size,0,none⟩ t ((w.alloc (.cells #[.pointer (some t)] 221)).alloc (.cells #[.pointer (some ⟨2,221,none⟩),.pointer (some ⟨w.heap.size,0,none⟩),.int .u64 150] 294)) (by simp);have hlt:0<w.heap.size:=by
  rcases Nat.eq_zero_or_pos w.heap.size with h0|h
  ·simp[World.cell?,h0]at hg
  ·exact h
 have hg2:((w.alloc (.cells #[.pointer (some t)] 221)).alloc (.cells #[.pointer (some ⟨2,221,none⟩),.pointer (some ⟨w.heap.size,0,none⟩),.int .u64 150] 294)).cell? ⟨0,0,none⟩=some (.iface 344 (.agg #[.pointer (some ⟨2,148,none⟩)])):=by
  rw[World.cell?_alloc_lt _ _ ⟨0,0,none⟩ (by simp),World.cell?_alloc_lt _ _ ⟨0,0,none⟩ hlt];exact hg
 have htl:t.block<w.heap.size:=by
  rcases Nat.lt_or_ge t.block w.heap.size with h|h
  ·exact h
  ·simp[World.cell?,Array.getElem?_eq_none h]at ht0
 have el:=z9k ⟨w.heap.size,0,none⟩ t (((w.alloc (.cells #[.pointer (some t)] 221)).alloc (.cells #[.pointer (some ⟨2,221,none⟩),.pointer (some ⟨w.heap.size,0,none⟩),.int .u64 150] 294)).alloc (.cells #[.pointer (some ⟨2,221,none⟩),.pointer (some ⟨w.heap.size,0,none⟩),.int .u64 150] 294)) (by rw[World.cell?_alloc_lt _ _ ⟨w.heap.size,0,none⟩ (by simp;omega)];simp);have st:=q1X t ⟨w.heap.size+1+1+1,0,none⟩ c old ((((w.alloc (.cells #[.pointer (some t)] 221)).alloc (.cells #[.pointer (some ⟨2,221,none⟩),.pointer (some ⟨w.heap.size,0,none⟩),.int .u64 150] 294)).alloc (.cells #[.pointer (some ⟨2,221,none⟩),.pointer (some ⟨w.heap.size,0,none⟩),.int .u64 150] 294)).alloc (.cells #[.int .i64 c] 219))
  (by rw[World.cell?_alloc_at _ _ _ _ (by simp)];rfl)
  (by rw[World.cell?_alloc_lt _ _ t (by simp;omega),World.cell?_alloc_lt _ _ t (by simp;omega),World.cell?_alloc_lt _ _ t (by simp;omega),World.cell?_alloc_lt _ _ t htl];exact ht0)
  (by rw[World.frozen?_alloc_old _ _ t (by simp;omega),World.frozen?_alloc_old _ _ t (by simp;omega),World.frozen?_alloc_old _ _ t (by simp;omega),World.frozen?_alloc_old _ _ t (Nat.ne_of_lt htl)];exact hf0)
 go_enter Tryz.func157,Tryz.ntmps157
 go_wp2
 refine wp_loop_rounds 1 ?_;rw[rounds_succ]
 go_wp2
 go_ret;exact⟨rfl,rfl⟩
def ErrT(w:World):Prop:=w.cell? ⟨0,0,none⟩=some (.iface 344 (.agg #[.pointer (some ⟨2,148,none⟩)]))
theorem ErrT.below{w w':World}(h:ErrT w)(hb:Below w.heap.size w w'):ErrT w':=by
 have hlt:0<w.heap.size:=by
  rcases Nat.eq_zero_or_pos w.heap.size with h0|h0
  ·unfold ErrT at h;simp[World.cell?,h0]at h
  ·exact h0
 exact(hb.cell (p:=⟨0,0,none⟩) hlt).trans h
theorem q0H(w:World):Calls Tryz.prog 102 #[.nilIface] w fun e w'=>e=.returned (.int .i64 0)∧Below w.heap.size w w':=by
 have hB:Below w.heap.size w (w.alloc (.cells #[.int .i64 0] 219)):=by go_grown
 go_enter Tryz.func102,Tryz.ntmps102
 go_wp2_with fail
 refine(q5q _ _).mono ?_;rintro e w1 ⟨rfl,rfl⟩
 go_wp2
 go_ret;exact⟨rfl,hB⟩
theorem q0I(c:Int)(w:World)(hg:ErrT w):Calls Tryz.prog 102 #[.iface 219 (.agg #[.int .i64 c])] w fun e w'=>e=.returned (.int .i64 c)∧Below w.heap.size w w':=by
 have hB:Below w.heap.size w (w.alloc (.cells #[.int .i64 0] 219)):=by go_grown
 have B:=Blk.new w 219 #[.int .i64 0];have h0:=B.cell 0 _ rfl;have hf:=B.frozen 0;have hlt:=B.lt;go_enter Tryz.func102,Tryz.ntmps102
 go_wp2_with fail
 have hg':=hg.below hB;generalize w.alloc (.cells #[.int .i64 0] 219)=W at*;generalize hgs:w.heap.size=g at*;refine(q5t c ⟨g,0,none⟩ (.int .i64 0) W hg' h0 hf).mono ?_;rintro e w1 ⟨rfl,rfl⟩;have hb2:Below W.heap.size W ((((W.alloc (.cells #[.pointer (some ⟨g,0,none⟩)] 221)).alloc (.cells #[.pointer (some ⟨2,221,none⟩),.pointer (some ⟨W.heap.size,0,none⟩),.int .u64 150] 294)).alloc (.cells #[.pointer (some ⟨2,221,none⟩),.pointer (some ⟨W.heap.size,0,none⟩),.int .u64 150] 294)).alloc (.cells #[.int .i64 c] 219)):=by go_grown
 have B2:=B.below hb2;have hB2:=hB.trans (hb2.mono (by rw[←hgs];exact hB.size));generalize (((W.alloc (.cells #[.pointer (some ⟨g,0,none⟩)] 221)).alloc (.cells #[.pointer (some ⟨2,221,none⟩),.pointer (some ⟨W.heap.size,0,none⟩),.int .u64 150] 294)).alloc (.cells #[.pointer (some ⟨2,221,none⟩),.pointer (some ⟨W.heap.size,0,none⟩),.int .u64 150] 294)).alloc (.cells #[.int .i64 c] 219)=W2 at*;have c3:(W2.setCell ⟨g,0,none⟩ (.int .i64 c)).cell? ⟨g,0,none⟩=some (.int .i64 c):=by
  have:W2.heap[g]?=some (.cells #[.int .i64 0] 219 (0,0)):=B2;simp[World.cell?,World.setCell,Array.getElem?_modify,this]
 have hB3:Below g w (W2.setCell ⟨g,0,none⟩ (.int .i64 c)):=hB2.setCell (p:=⟨g,0,none⟩) (Nat.le_refl _) _;generalize W2.setCell ⟨g,0,none⟩ (.int .i64 c)=W3 at*
 go_wp2
 go_ret;exact⟨rfl,by rw[hgs];exact hB3⟩
end
def InstQ.setR(q:InstQ)(r n:Nat)(x:Int)(hr:r<q.rounds.length):InstQ:=⟨q.has,q.vb,q.batch,q.vr,q.rounds.set r ⟨q.rounds[r].vr,q.rounds[r].rep.set n x,q.rounds[r].vp,q.rounds[r].pro⟩,q.vd,q.dec⟩
theorem z8m{w w':World}{b o:Nat}{v:Value}(h:w.cell? ⟨b,o,none⟩=some v)(hb:Below w.heap.size w w'):w'.cell? ⟨b,o,none⟩=some v:=by
 have hlt:b<w.heap.size:=by
  rcases Nat.lt_or_ge b w.heap.size with h1|h1
  ·exact h1
  ·exfalso
   have:w.heap[b]?=none:=Array.getElem?_eq_none h1;simp[World.cell?,this]at h
 rw[hb.cell (p:=⟨b,o,none⟩) hlt];exact h
theorem q3g{ds:List TxnD}(h:allF ds=0):∀d∈ds,d.F=0:=by
 induction ds with
 |nil=>intro d hd;simp at hd
 |cons x r ih=>
  intro d hd;simp only[allF]at h;by_cases hx:x.F=0
  ·rw[if_pos hx]at h;rcases List.mem_cons.1 hd with rfl|hd
   ·exact hx
   ·exact ih h d hd
  ·rw[if_neg hx]at h;exact absurd h hx
def dfC(ds:List InstE)(n:Int):Int:=if ordF ds=0 then(if 0≤n∧n≤(decN ds:Int)then 0 else 3)else ordF ds
def dfT(ds:List InstE)(n:Int):List TxnD:=if dfC ds n=0 then defL ds n.toNat else []
theorem z7h(ds:List InstE)(n:Int):(ordF ds≠0∧dfC ds n=ordF ds∧dfT ds n=[])∨(ordF ds=0∧¬(0≤n∧n≤(decN ds:Int))∧dfC ds n=3∧dfT ds n=[])∨(ordF ds=0∧(0≤n∧n≤(decN ds:Int))∧dfC ds n=0∧dfT ds n=defL ds n.toNat):=by
 unfold dfT dfC;by_cases h0:ordF ds=0
 ·by_cases h1:0≤n∧n≤(decN ds:Int)
  ·right;right;refine⟨h0,h1,?_,?_⟩
   ·rw[if_pos h0,if_pos h1]
   ·rw[if_pos h0,if_pos h1,if_pos rfl]
  ·right;left;refine⟨h0,h1,?_,?_⟩
   ·rw[if_pos h0,if_neg h1]
   ·rw[if_pos h0,if_neg h1,if_neg (by decide)]
 ·left;simp[h0]
theorem q6c{p:InstQ}(h:insF (InstQ.e p)=0):p.batch.length≤4:=by
 obtain⟨h0,_⟩:=z2a h;obtain⟨_,_,_,hb0,hb1⟩:=z1q h0
 cases hh:(InstQ.e p).has with
 |false=>
  have:=hb0 hh;have h2:p.batch.map TxnQ.e=[]:=this;have:p.batch=[]:=by simpa using h2
  rw[this];simp
 |true=>
  have:=hb1 hh;unfold batF at this;by_cases hl:(InstQ.e p).batch.length<1∨4<(InstQ.e p).batch.length
  ·rw[if_pos hl]at this;exact absurd this (by decide)
  ·have h2:(InstQ.e p).batch.length=p.batch.length:=by show(p.batch.map TxnQ.e).length=_;simp
   omega
theorem rgtb{x:InstE}(h:insF x=0):x.has=false→x.batch=[]:=by
 obtain⟨h0,_⟩:=z2a h;exact(z1q h0).2.2.2.1
theorem batp{p:InstQ}(h:insF (InstQ.e p)=0)(hh:p.has=true):0<p.batch.length:=by
 obtain⟨h0,_⟩:=z2a h;have:=(z1q h0).2.2.2.2 hh;unfold batF at this;by_cases hl:(InstQ.e p).batch.length<1∨4<(InstQ.e p).batch.length
 ·rw[if_pos hl]at this;exact absurd this (by decide)
 ·have h2:(InstQ.e p).batch.length=p.batch.length:=by show(p.batch.map TxnQ.e).length=_;simp
  omega
theorem q4H{ds:List InstE}(k:Nat)(hk:k<ds.length)(h0:insF (ds.getD k z0Q)=0)(h:((ds.getD k z0Q).has && (ocV (ds.getD k z0Q)==1))=true):z3R (ds.take (k+1))=z3R (ds.take k)++(ds.getD k z0Q).batch:=by
 rw[z5r ds k hk];rw[Bool.and_eq_true,beq_iff_eq]at h;have hv:=h.2;unfold ocV at hv;rw[if_pos h0]at hv;by_cases h3:outV (ds.getD k z0Q).dec=3
 ·rw[if_pos h3]at hv;exact absurd hv (by decide)
 ·rw[if_neg h3]at hv;rw[if_pos hv]
theorem q5u{ds:List InstE}(k:Nat)(hk:k<ds.length)(h0:insF (ds.getD k z0Q)=0)(h:((ds.getD k z0Q).has && (ocV (ds.getD k z0Q)==1))=false):z3R (ds.take (k+1))=z3R (ds.take k):=by
 rw[z5r ds k hk];rw[Bool.and_eq_false_iff]at h;have hb0:=(rgtb h0)
 rcases h with h|h
 ·rw[hb0 h];simp
 ·have hv:¬ocV (ds.getD k z0Q)=1:=by simpa using h
  unfold ocV at hv;rw[if_pos h0]at hv;by_cases h3:outV (ds.getD k z0Q).dec=3
  ·rw[if_neg (by rw[h3];decide)];simp
  ·rw[if_neg h3]at hv;rw[if_neg hv];simp
theorem z9m(v:Value)(ps:List InstQ)(w:World)(hG:Rul w)(h:instK.At w v ps)(ax:∀p∈ps,insF (InstQ.e p)=0)(h4:ps.length≤4)(hl:(ps.length+nmL InstQ.n ps)≤1048576):
  Calls Tryz.prog 75 #[v] w fun e w'=>∃ (v':Value) (qs:List TxnQ),e=.returned v'∧qs.map TxnQ.e=z3R (ps.map InstQ.e)∧qs.length≤16∧w'.ownsRow w.heap.size 39 4 v' qs.length (txnK.row qs)∧(∀q∈qs,txnK.rd w q)∧Below w.heap.size w w':=by
 obtain⟨a,cap,rfl⟩:=h.shape;obtain⟨i0,hi,aB,aC,aD⟩:=info_parts z1p;have ak:w.ownsRow w.heap.size 39 4 (.slice none 0 0) ([]:List TxnQ).length (txnK.row []):=World.ownsRow_nil _ _ _ _;have af:Hid (([]:List TxnQ).map TxnQ.e=z3R ((ps.map InstQ.e).take 0)):=by show _=_;simp[z3R]
 have ag:Hid (([]:List TxnQ).length≤4*0):=by show _≤_;simp
 have ai:Hid (∀q∈([]:List TxnQ),txnK.rd w q):=fun q hq=>by simp at hq
 go_enter Tryz.func75,Tryz.ntmps75
 go_wp2
 go_loopw[3,8] (fun v j wr=>∃ (k:Nat) (qs:List TxnQ),k≤ps.length∧j=.int .i64 k∧Hid (qs.map TxnQ.e=z3R ((ps.map InstQ.e).take k))∧Hid (qs.length≤4*k)∧wr.ownsRow w.heap.size 39 4 v qs.length (txnK.row qs)∧Hid (∀q∈qs,txnK.rd w q)∧Below w.heap.size w wr) (fun _ j _=>ps.length-(intOf j).toNat)
 case atStart=>exact⟨0,[],Nat.zero_le _,rfl,af,ag,ak,ai,Below.refl _ _⟩
 case round=>
  clear af ag ak ai;obtain⟨k,qs,hk,rfl,HE,HL,hO,HR,hb⟩:=hrel;obtain⟨sa,sc,rfl⟩:=z0g hO;by_cases A:k<ps.length
  ·have h0:=ax _ (List.getElem_mem A);have z:=z5o ps k A;have HY:Hid ((ps[k].has && (ocV (InstQ.e ps[k])==1))=true→z3R ((ps.map InstQ.e).take (k+1))=qs.map TxnQ.e++ps[k].batch.map TxnQ.e):=fun hx=>by
    rw[HE.out];have:=q4H (ds:=ps.map InstQ.e) k (by simpa using A) (by rw[z];exact h0) (by rw[z];exact hx);rw[z]at this;exact this
   have HN:Hid ((ps[k].has && (ocV (InstQ.e ps[k])==1))=false→z3R ((ps.map InstQ.e).take (k+1))=qs.map TxnQ.e):=fun hx=>by
    rw[HE.out];exact q5u (ds:=ps.map InstQ.e) k (by simpa using A) (by rw[z];exact h0) (by rw[z];exact hx)
   have aq:=q6c h0;have I:Hid (ps[k].has=true→0<ps[k].batch.length):=fun hx=>batp h0 hx
   have hn:InstQ.n ps[k]≤1048576:=by have:=z6p ps k A;omega
   have V:=z2z ps[k];have O:=fun w hG h=>V w hG h hn
   obtain⟨b,aE,rfl,av,hc,U⟩:=h.cell (by decide) k A;have L:∀j x,(instK.cells ps[k])[j]?=some x→w.cell? ⟨b,aE+k*4+j,none⟩=some x:=hc;have c0:=z8m (L 0 (.bool ps[k].has) rfl) hb;have c1:=z8m (L 1 ps[k].vb rfl) hb;have c2:=z8m (L 2 ps[k].vr rfl) hb;have c3:=z8m (L 3 ps[k].vd rfl) hb;rw[Nat.add_zero]at c0;have aF:b<wr.heap.size:=Nat.lt_of_lt_of_le av hb.size;clear hc L V h0 z HE;generalize ocC (InstQ.e ps[k])=OC at*;generalize ocV (InstQ.e ps[k])=OV at*;generalize ps[k]=p at*;obtain⟨has,vb,d,vr,y,vd,dec⟩:=p;have hT:txnK.At w vb d:=U.1;obtain⟨ba,bk,rfl⟩:=hT.shape;obtain⟨va,vk,rfl⟩:∃a c,vr=.slice a y.length c:=U.2.1.shape;obtain⟨da,dk,rfl⟩:∃a c,vd=.slice a dec.length c:=U.2.2.shape;dsimp only at c0 c1 c2 c3 O HY HN aq I;have ae:Below wr.heap.size wr (wr.alloc (.cells #[.bool has,.slice ba d.length bk,.slice va y.length vk,.slice da dec.length dk] 117)):=by go_grown
   have Yb:=Blk.new wr 117 #[.bool has,.slice ba d.length bk,.slice va y.length vk,.slice da dec.length dk];replace hO:=z0a hO ae;replace hb:=hb.trans (ae.mono hb.size);have aG:=q4y OC OV;have ah:Hid (qs.length≤16):=show _≤_ by have:=HL.out;omega
   cases has with
   |false=>
    have J:Hid (qs.map TxnQ.e=z3R ((ps.map InstQ.e).take (k+1))):=show _=_ by rw[HN.out rfl]
    have C:Hid (qs.length≤4*(k+1)):=show _≤_ by have:=HL.out;omega
    clear HY HN I HL O Yb
    go_wp2_with fail
    generalize wr.alloc (.cells #[.bool false,.slice ba d.length bk,.slice va y.length vk,.slice da dec.length dk] 117)=Y at*
    go_wp2
    go_roundw
    case rel=>exact⟨k+1,qs,by omega,by go_num,J,C,hO,HR,hb⟩
    case measure=>simp[intOf];omega
   |true=>
    have ao:=instK.rd_below (w':=wr.alloc (.cells #[.bool true,.slice ba d.length bk,.slice va y.length vk,.slice da dec.length dk] 117)) U hb
    go_wp2_with fail
    generalize wr.alloc (.cells #[.bool true,.slice ba d.length bk,.slice va y.length vk,.slice da dec.length dk] 117)=Y at*;clear c0 c1 c2 c3 ae;refine(O Y (hG.below hb) ao).mono ?_;rintro e w2 ⟨rfl,N⟩;replace hO:=z0a hO N;replace hb:=hb.trans (N.mono hb.size);replace Yb:=Yb.below N;clear N O ao
    cases hv:(OV==1)with
    |false=>
     have J:Hid (qs.map TxnQ.e=z3R ((ps.map InstQ.e).take (k+1))):=show _=_ by rw[HN.out (by rw[hv];rfl)]
     have C:Hid (qs.length≤4*(k+1)):=show _≤_ by have:=HL.out;omega
     clear HY HN I HL Yb
     go_wp2
     go_roundw
     case rel=>exact⟨k+1,qs,by omega,by go_num,J,C,hO,HR,hb⟩
     case measure=>simp[intOf];omega
    |true=>
     have aj:=HY.out (by rw[hv];rfl);have az:=I.out (by simp);have J:Hid ((qs++d).map TxnQ.e=z3R ((ps.map InstQ.e).take (k+1))):=show _=_ by rw[aj,List.map_append]
     have C:Hid ((qs++d).length≤4*(k+1)):=show _≤_ by have:=HL.out;rw[List.length_append];omega
     have ap:Hid (∀q∈qs++d,txnK.rd w q):=fun q hq=>by
      rcases List.mem_append.1 hq with hq|hq
      ·exact HR.out q hq
      ·obtain⟨a9,c9,e9,ab,T⟩:=hT;exact T q hq
     have ad:=hT.below hb;obtain⟨bb,bo,au⟩:∃bb bo,ba=some ⟨bb,bo,none⟩:=by
      obtain⟨b9,o9,e9,_⟩:=ad.cell (by decide) 0 az;exact⟨b9,o9,e9⟩
     subst au;have aa:∀j u,(txnK.row d)[j]?=some u→w2.cell? ((⟨bb,bo,none⟩:Addr).add j)=some u:=fun j u hu=>by
      obtain⟨a9,c9,e9,ab,T⟩:=ad;simp only[Value.slice.injEq]at e9;obtain⟨rfl,_,rfl⟩:=e9;rcases ab with h9|⟨b9,o9,ea,_,aw⟩
      ·rw[h9]at hu;simp at hu
      ·simp only[Option.some.injEq,Addr.mk.injEq,and_true]at ea;obtain⟨rfl,rfl⟩:=ea;rw[Addr.add_lit];exact aw j u hu
     have W:∀u∈txnK.row d,u.oneCell'=true:=fun u hu=>by
      obtain⟨q,hq,hu⟩:=List.mem_flatMap.1 hu;have aA:∃a c,q.va=.slice a q.acts.length c:=by
       obtain⟨a9,c9,e9,ab,T⟩:=hT;have h9:actK.At w q.va q.acts:=T q hq;exact h9.shape
      obtain⟨a9,c9,e9⟩:=aA;have an:u∈[Value.int .i64 q.i,.int .i64 q.s,.int .i64 q.q,q.va]:=hu;simp only[List.mem_cons,List.not_mem_nil,or_false]at an;rcases an with rfl|rfl|rfl|rfl
      ·rfl
      ·rfl
      ·rfl
      ·rw[e9];rfl
     have am:(txnK.row d).length=d.length*4:=Kind.row_length d;have y1:=Yb.cell 1 _ rfl;clear HY HN I HL HR aj
     go_wp2_with (at_builtin;refine wpList_append_own_at _ rfl _ _ 25 rfl w.heap.size 39 i0 (.agg #[.int .i64 0,.int .i64 0,.int .i64 0,.slice none 0 0]) 4 48 Tryz.underlying25 hi aB aC aD rfl (by decide) _ qs.length (txnK.row qs) rfl hO ⟨bb,bo,none⟩ d.length bk (txnK.row d) rfl am aa W ?c3 ?c4 ?c5 ?_)
     all_goals try(case c3=>have:=ah.out;unfold maxLen;omega)
     all_goals try(case c4=>have:=ah.out;omega)
     all_goals try(case c5=>exact hb.size)
     intro v' w5 X M al z;have Z:txnK.row (qs++d)=txnK.row qs++txnK.row d:=by simp[Kind.row]
     rw[←Z,←List.length_append]at X;have ar:Below w.heap.size w w5:=hb.grown M hb.size (fun j hj=>(hO.lt j hj).1);clear al z M Z hO aa W am y1 Yb ad hb
     go_wp2
     go_roundw
     case rel=>exact⟨k+1,_,by omega,by go_num,J,C,X,ap,ar⟩
     case measure=>simp[intOf];omega
  ·have ay:k=ps.length:=by omega
   subst ay;have hE:=HE.out;rw[List.take_of_length_le (by simp)]at hE;have hL:=HL.out;clear HE
   go_wp2
   go_ret;first|exact⟨_,qs,rfl,hE,by omega,hO,HR.out,hb⟩|exact⟨_,rfl,qs,hE,by omega,hO,HR.out,hb⟩
section
open Go.Maps
theorem q5v:laidOutB Tryz.prog=true:=by kernel_rfl
theorem q5w:(186:TypeId)<Tryz.prog.types.size:=of_decide_eq_true (by kernel_rfl)
theorem q3O:(match Tryz.prog.underlying 186 with|some (.array _ _)|some (.struct _)=>true|_=>false)=true:=by kernel_rfl
theorem lawNm:Keyed Tryz.prog 186:=Keyed.of_law (deep_law_laid q5v (m:=2) (by omega) q5w (by kernel_rfl) q3O)
theorem q5x:Tryz.prog.keyType 186=true:=by kernel_rfl
theorem szP:∃m,Tryz.prog.types.size+1=m+2:=⟨_,rfl⟩
theorem q5y(i s q:Int)(hi:(Lit.int .i64 i).wf=true)(hs:(Lit.int .i64 s).wf=true)(hq:(Lit.int .i64 q).wf=true):∃l,keyOf Tryz.prog 186 (.agg #[.int .i64 i,.int .i64 s,.int .i64 q])=some l:=by
 obtain⟨m,hm⟩:=szP;have hc:Tryz.prog.cellsOf 186=3:=by kernel_rfl
 have hc1:Tryz.prog.cellsOf 2=1:=by kernel_rfl
 have hf:(Value.agg #[.int .i64 i,.int .i64 s,.int .i64 q]).formed Tryz.prog 186=true:=by
  simp[Value.formed,Tryz.underlying186,hc]
 unfold keyOf;rw[Tryz.underlying186];simp only[q5x,hf,Bool.and_self,if_true,hm];simp[Program.keyLits,Tryz.underlying186,Tryz.underlying2,hc,hc1,Value.cells,hi,hs,hq]
abbrev Nm:=Int × Int × Int
def nmV(x:Nm):Value:=.agg #[.int .i64 x.1,.int .i64 x.2.1,.int .i64 x.2.2]
def nmW(x:Nm):Prop:=(Lit.int .i64 x.1).wf=true∧(Lit.int .i64 x.2.1).wf=true∧(Lit.int .i64 x.2.2).wf=true
noncomputable def kyL (x:Nm):Lit:=(keyOf Tryz.prog 186 (nmV x)).getD (.bool false)
theorem z4a{x:Nm}(h:nmW x):keyOf Tryz.prog 186 (nmV x)=some (kyL x):=by
 obtain⟨l,hl⟩:=q5y x.1 x.2.1 x.2.2 h.1 h.2.1 h.2.2;have e:keyOf Tryz.prog 186 (nmV x)=some l:=hl;unfold kyL;rw[e];rfl
theorem q4I{x y:Nm}(hx:nmW x)(hy:nmW y)(h:kyL x=kyL y):x=y:=by
 have e1:=z4a hx;have e2:=z4a hy;rw[←h]at e2;have e:=lawNm.inj e1 e2;obtain⟨a,b,c⟩:=x;obtain⟨a',b',c'⟩:=y;simp[nmV]at e;obtain⟨rfl,rfl,rfl⟩:=e;rfl
def Cnt{H:Type}(D:DataW H)(ns:List Nm):Prop:=IsMap D∧∀x,nmW x→D.atKey (kyL x) (.lit (.int .i64 0))=.lit (.int .i64 (ns.count x))
theorem Cnt.none{H:Type}:Cnt (H:=H) (.map []) []:=⟨⟨[],rfl⟩,fun x _=>rfl⟩
theorem Cnt.put{H:Type}{D:DataW H}{ns:List Nm}(h:Cnt D ns){x:Nm}(hx:nmW x):Cnt (D.put (kyL x) (.lit (.int .i64 ((ns.count x:Int)+1)))) (ns++[x]):=by
 refine⟨h.1.put _ _,fun y hy=>?_⟩;by_cases e:y=x
 ·subst e;rw[atKey_put_same h.1 (lawNm.key (z4a hx))];simp[List.count_append]
 ·rw[atKey_put_other (fun e1=>e (q4I hy hx e1)),h.2 y hy];have:[x].count y=0:=List.count_eq_zero.2 (by simpa using e);simp[List.count_append,this]
def nmA(t:TxnD):Nm:=(t.id,0,0)
def nmB(t:TxnD):Nm:=(0,t.session,t.seq)
def nms(acc:List TxnD):List Nm:=acc.flatMap (fun t=>[nmA t,nmB t])
theorem q3h(acc:List TxnD)(t:TxnD):nms (acc++[t])=nms acc++[nmA t]++[nmB t]:=by
 simp[nms]
theorem q1Y(acc:List TxnD):(nms acc).length=2*acc.length:=by
 induction acc with
 |nil=>rfl
 |cons a r ih=>
  have:nms (a::r)=nmA a::nmB a::nms r:=rfl;rw[this];simp only[List.length_cons,ih];omega
theorem z9n{acc:List TxnD}{t:TxnD}(ha:∀x∈acc,1≤x.id)(ht:1≤t.id):knw acc t=true↔0<(nms acc).count (nmA t)∨0<(nms acc).count (nmB t):=by
 rw[List.count_pos_iff,List.count_pos_iff];unfold knw nms stF;rw[List.any_eq_true];constructor
 ·rintro⟨x,hx,h⟩;simp only[Bool.or_eq_true,Bool.and_eq_true,beq_iff_eq]at h;rcases h with h|⟨h1,h2⟩
  ·exact Or.inl (List.mem_flatMap.2 ⟨x,hx,by simp[nmA,h]⟩)
  ·exact Or.inr (List.mem_flatMap.2 ⟨x,hx,by simp[nmB,h1,h2]⟩)
 ·rintro(h|h)
  ·obtain⟨x,hx,h⟩:=List.mem_flatMap.1 h;have hx1:=ha x hx;simp only[nmA,nmB,List.mem_cons,Prod.mk.injEq,List.not_mem_nil,or_false]at h;rcases h with h|h
   ·exact⟨x,hx,by simp[h.1]⟩
   ·omega
  ·obtain⟨x,hx,h⟩:=List.mem_flatMap.1 h;have hx1:=ha x hx;simp only[nmA,nmB,List.mem_cons,Prod.mk.injEq,List.not_mem_nil,or_false]at h;rcases h with h|h
   ·omega
   ·exact⟨x,hx,by simp[h.2.1,h.2.2]⟩
end
end Go.Proofs.YtlkpdgjnhkjpjaaGreatDoor
