import Derived.Test.YtlkpdgjnhkjpjaaGreatDoorSUAP
import Derived.Test.YtlkpdgjnhkjpjaaGreatDoorSUAQ
import Derived.Test.YtlkpdgjnhkjpjaaGreatDoorSUAO
import Derived.Stop.Asserts
set_option linter.unusedVariables false
set_option linter.unusedSimpArgs false
set_option maxRecDepth 100000
set_option maxHeartbeats 4000000
namespace Go.Proofs.YtlkpdgjnhkjpjaaGreatDoor
open Go.RowKit Go.BigFrame
open TxnQ renaming e->Va
open List renaming length_map->Vb
open IntKind renaming i64->Q
open Value renaming int->l,slice->G
open Go.Proofs.Tryz renaming prog->m
open Go.Proofs.Tryz
def sameUss:List (List UndoD)→List (List UndoD)→Bool
 |[],[]=>true
 |x::r,y::s=>sameUs x y && sameUss r s
 |_,_=>false
theorem z2K(xs:List USQ)(k:Nat)(hk:k<xs.length):(xs.map USQ.e).getD k []=USQ.e xs[k]:=by simp[List.getD,hk]
theorem z7r{w:World}{b off k:Nat}{p:USQ}(h:∀j x,(ussK.cells p)[j]?=some x→w.cell? ⟨b,off+k*ussK.size+j,none⟩=some x):w.cell? ⟨b,off+k,none⟩=some p.va:=by
 have:=h 0 p.va rfl
 rwa [show off+k*ussK.size+0=off+k from by show off+k*1+0=off+k;omega]at this
theorem z8F(v v':Value)(xs ys:List USQ)(w:World)(h:ussK.At w v xs)(h':ussK.At w v' ys)(hl:xs.length+nmL USQ.n xs≤1048576)(O:ys.length+nmL USQ.n ys≤1048576):
  Calls m 116 #[v,v',.func (.func 117) #[] #[]] w fun e w'=>e=.returned (.bool (sameUss (xs.map USQ.e) (ys.map USQ.e)))∧Below w.heap.size w w':=by
 obtain⟨a,cap,rfl⟩:=h.shape;obtain⟨a',J,rfl⟩:=h'.shape;by_cases c:xs.length=ys.length
 case neg=>
  have E:sameUss (xs.map USQ.e) (ys.map USQ.e)=false:=z2V (f:=sameUs) rfl (fun _ _ _ _=>rfl) (fun _ _=>rfl) (fun _ _=>rfl) _ _ (by simpa using c);rw[E];have hd:((xs.length:Int) !=(ys.length:Int))=true:=by simp;omega
  go_enter func116,ntmps116
  go_wp2
  go_ret;exact⟨rfl,Below.refl _ _⟩
 case pos=>
  have hd:((xs.length:Int) !=(ys.length:Int))=false:=by simp[c]
  have HL:Hid (xs.length=ys.length):=c;have HM:Hid ((xs.map USQ.e).length=(ys.map USQ.e).length):=show _=_ by simpa using c
  clear c;generalize hE:sameUss (xs.map USQ.e) (ys.map USQ.e)=E;have HE:Hid (sameUss (xs.map USQ.e) (ys.map USQ.e)=E):=hE;clear hE;go_enter func116,ntmps116
  go_wp2
  go_loopw[17] (fun i wr=>∃k:Nat,k≤xs.length∧i=l Q k∧Below w.heap.size w wr∧Hid (∀j,j<k→sameUs ((xs.map USQ.e).getD j []) ((ys.map USQ.e).getD j [])=true)) (fun i _=>xs.length-(intOf i).toNat)
  case atStart=>exact⟨0,Nat.zero_le _,rfl,Below.refl _ _,fun j hj=>absurd hj (Nat.not_lt_zero _)⟩
  case round=>
   obtain⟨k,hk,rfl,hb,HA⟩:=hrel;by_cases y:k<xs.length
   ·have x:k<ys.length:=by have:=HL.out;omega
    obtain⟨b,T,rfl,N,hc,z⟩:=(h.below hb).cell (by decide) k y;obtain⟨b',M,rfl,L,D,d⟩:=(h'.below hb).cell (by decide) k x;have c0:=z7r hc;have d0:=z7r D;have n1:=z1o USQ.n xs k y;have n2:=z1o USQ.n ys k x;have HY:Hid (sameUs (USQ.e xs[k]) (USQ.e ys[k])=false→E=false):=fun hx=>by
     rw[←HE.out];exact z2W (f:=sameUs) [] (fun _ _ _ _=>rfl) _ _ k HM.out (by simpa using y) (by rw[z2K xs k y,z2K ys k x];exact hx)
    have HN:Hid (sameUs (USQ.e xs[k]) (USQ.e ys[k])=true→∀j,j<k+1→sameUs ((xs.map USQ.e).getD j []) ((ys.map USQ.e).getD j [])=true):=fun hx j hj=>by
     by_cases I:j=k
     ·subst I;rw[z2K xs j y,z2K ys j x];exact hx
     ·exact HA.out j (by omega)
    clear HA hc D;generalize xs[k]=p at*;generalize ys[k]=q at*;obtain⟨pv,pu⟩:=p;obtain⟨qv,qu⟩:=q;replace z:undoK.At wr pv pu:=z;replace d:undoK.At wr qv qu:=d;replace n1:pu.length≤nmL USQ.n xs:=n1;replace n2:qu.length≤nmL USQ.n ys:=n2;dsimp only[USQ.e]at c0 d0 HY HN;obtain⟨a1,k1,rfl⟩:=z.shape;obtain⟨b1,m1,rfl⟩:=d.shape;have hq:=fun w f1 f2=>z4M a1 b1 k1 m1 pu qu w f1 f2 (by omega) (by omega)
    have g1:=(z1X z).2;have g2:=(z1X d).2;generalize sameUs pu qu=X at*;clear n1 n2 z d
    go_wp2_with fail
    refine(hq _ g1 g2).mono ?_;rintro e w2 ⟨rfl,A⟩;have C:=z0l hb A;clear A c0 d0 hq g1 g2
    cases X with
    |false=>
     have E1:Hid (E=false):=HY.out rfl;clear HY HN HE
     go_wp2
     go_ret;exact⟨by rw[E1.out];rfl,C⟩
    |true=>
     have R:=HN.out rfl;have HR:Hid _:=R;clear HY HN R
     go_wp2
     go_roundw
     case rel=>exact⟨k+1,by omega,by go_num,C,HR.out⟩
     case measure=>simp[intOf];omega
   ·have E1:Hid (E=true):=by rw[←HE.out];exact z2X (f:=sameUs) [] rfl (fun _ _ _ _=>rfl) _ _ HM.out (fun j hj=>HA.out j (by simpa using(by simpa using hj:j<xs.length)|>fun h=>Nat.lt_of_lt_of_le h (by omega)))
    clear HA HE
    go_wp2
    go_ret;exact⟨by rw[E1.out];rfl,hb⟩
theorem z5z(v v':Value)(xs ys:List USQ)(w:World)(h:ussK.At w v xs)(h':ussK.At w v' ys)(hl:xs.length+nmL USQ.n xs≤1048576)(U:ys.length+nmL USQ.n ys≤1048576):
  Calls m 227 #[v,v'] w fun e w'=>e=.returned (.bool (sameUss (xs.map USQ.e) (ys.map USQ.e)))∧Below w.heap.size w w':=by
 obtain⟨a,cap,rfl⟩:=h.shape;obtain⟨a',L,rfl⟩:=h'.shape;by_cases c:xs.length=ys.length
 case neg=>
  have E:sameUss (xs.map USQ.e) (ys.map USQ.e)=false:=z2V (f:=sameUs) rfl (fun _ _ _ _=>rfl) (fun _ _=>rfl) (fun _ _=>rfl) _ _ (by simpa using c);rw[E];have hd:((xs.length:Int) !=(ys.length:Int))=true:=by simp;omega
  go_enter func227,ntmps227
  go_wp2
  go_ret;exact⟨rfl,Below.refl _ _⟩
 case pos=>
  have hd:((xs.length:Int) !=(ys.length:Int))=false:=by simp[c]
  have HL:Hid (xs.length=ys.length):=c;have HM:Hid ((xs.map USQ.e).length=(ys.map USQ.e).length):=show _=_ by simpa using c
  clear c;generalize hE:sameUss (xs.map USQ.e) (ys.map USQ.e)=E;have HE:Hid (sameUss (xs.map USQ.e) (ys.map USQ.e)=E):=hE;clear hE;go_enter func227,ntmps227
  go_wp2
  go_loopw[5] (fun i wr=>∃k:Nat,k≤xs.length∧i=l Q k∧Below w.heap.size w wr∧Hid (∀j,j<k→sameUs ((xs.map USQ.e).getD j []) ((ys.map USQ.e).getD j [])=true)) (fun i _=>xs.length-(intOf i).toNat)
  case atStart=>exact⟨0,Nat.zero_le _,rfl,Below.refl _ _,fun j hj=>absurd hj (Nat.not_lt_zero _)⟩
  case round=>
   obtain⟨k,hk,rfl,hb,HA⟩:=hrel;by_cases y:k<xs.length
   ·have x:k<ys.length:=by have:=HL.out;omega
    obtain⟨b,V,rfl,T,hc,z⟩:=(h.below hb).cell (by decide) k y;obtain⟨b',O,rfl,M,C,d⟩:=(h'.below hb).cell (by decide) k x;have c0:=z7r hc;have d0:=z7r C;have n1:=z1o USQ.n xs k y;have n2:=z1o USQ.n ys k x;have HY:Hid (sameUs (USQ.e xs[k]) (USQ.e ys[k])=false→E=false):=fun hx=>by
     rw[←HE.out];exact z2W (f:=sameUs) [] (fun _ _ _ _=>rfl) _ _ k HM.out (by simpa using y) (by rw[z2K xs k y,z2K ys k x];exact hx)
    have HN:Hid (sameUs (USQ.e xs[k]) (USQ.e ys[k])=true→∀j,j<k+1→sameUs ((xs.map USQ.e).getD j []) ((ys.map USQ.e).getD j [])=true):=fun hx j hj=>by
     by_cases D:j=k
     ·subst D;rw[z2K xs j y,z2K ys j x];exact hx
     ·exact HA.out j (by omega)
    clear HA hc C;generalize xs[k]=p at*;generalize ys[k]=q at*;obtain⟨pv,pu⟩:=p;obtain⟨qv,qu⟩:=q;replace z:undoK.At wr pv pu:=z;replace d:undoK.At wr qv qu:=d;replace n1:pu.length≤nmL USQ.n xs:=n1;replace n2:qu.length≤nmL USQ.n ys:=n2;dsimp only[USQ.e]at c0 d0 HY HN;obtain⟨a1,k1,rfl⟩:=z.shape;obtain⟨b1,m1,rfl⟩:=d.shape;have hq:=fun w f1 f2=>z4L a1 b1 k1 m1 pu qu w f1 f2 (by omega) (by omega)
    have g1:=(z1X z).2;have g2:=(z1X d).2;generalize sameUs pu qu=X at*;clear n1 n2 z d;have N:(k:Int)<(xs.length:Int):=by omega
    have I:(k:Int)<(ys.length:Int):=by omega
    replace c0:=z0d c0;replace d0:=z0d d0;have hW:Below wr.heap.size wr wr.drew:=(Below.refl _ _).drew;have J:Nonempty (Lat wr):=⟨⟨wr,Below.refl _ _⟩⟩
    go_wp2_with fail
    refine z0a (S:=fun w'=>∃u:Lat wr,w'=u.val) (by kernel_rfl) ?_;refine sgr [(0,8)] 2 (by kernel_rfl) ⟨⟨_,hW⟩,rfl⟩ ?_;simp only[pkE];repeat go_big_quiet_step (fail)
    refine wpQuiet_nil ?_;refine cla 8 (some 25) 266 #[G a1 pu.length k1,G b1 qu.length m1] 1 (by kernel_rfl) ?_;refine(hq _ (g1.below hW) (g2.below hW)).mono ?_;rintro e w9 ⟨rfl,A⟩;replace hW:=hW.trans (A.mono hW.size);clear A;refine⟨_,rfl,⟨⟨_,hW⟩,rfl⟩,?_⟩;simp only[Act.put,pjE];refine sgr [(9,1)] 0 (by kernel_rfl) ⟨⟨_,hW⟩,rfl⟩ ?_;simp only[pkE];repeat go_big_quiet_step (fail)
    refine wpQuiet_nil ?_;refine z0e (by kernel_rfl) ?_;replace hb:=hb.trans (hW.mono hb.size);clear hW J hq g1 g2 c0 d0
    cases X with
    |false=>
     have E1:Hid (E=false):=HY.out rfl;clear HY HN HE
     go_wp2
     go_ret;exact⟨by rw[E1.out];rfl,hb⟩
    |true=>
     have R:=HN.out rfl;have HR:Hid _:=R;clear HY HN R
     go_wp2
     go_roundw
     case rel=>exact⟨k+1,by omega,by go_num,hb,HR.out⟩
     case measure=>simp[intOf];omega
   ·have E1:Hid (E=true):=by rw[←HE.out];exact z2X (f:=sameUs) [] rfl (fun _ _ _ _=>rfl) _ _ HM.out (fun j hj=>HA.out j (by simpa using(by simpa using hj:j<xs.length)|>fun h=>Nat.lt_of_lt_of_le h (by omega)))
    clear HA HE
    go_wp2
    go_ret;exact⟨by rw[E1.out];rfl,hb⟩
def sameRep(x y:RepE):Bool:=sameTs x.done y.done && (sameIs x.base y.base && (sameTs x.tent y.tent && (sameUss x.undos y.undos && sameIs x.now y.now)))
theorem z3d(p q:RepQ)(w:World)(h:repK.rd w p)(h':repK.rd w q)(hl:p.n≤1048576)(d:q.n≤1048576):
  Calls m 67 #[.agg #[p.vd,p.vb,p.vt,p.vu,p.vn],.agg #[q.vd,q.vb,q.vt,q.vu,q.vn]] w fun e w'=>e=.returned (.bool (sameRep p.e q.e))∧Below w.heap.size w w':=by
 obtain⟨y,pd,x,pb,A,pt,C,pu,z,pn⟩:=p;obtain⟨p0,p5,rfl⟩:∃a c,y=G a pd.length c:=h.1.shape;obtain⟨p1,p6,rfl⟩:∃a c,x=G a pb.length c:=h.2.1.shape;obtain⟨p2,p7,rfl⟩:∃a c,A=G a pt.length c:=h.2.2.1.shape;obtain⟨p3,p8,rfl⟩:∃a c,C=G a pu.length c:=h.2.2.2.1.shape;obtain⟨p4,p9,rfl⟩:∃a c,z=G a pn.length c:=h.2.2.2.2.shape;obtain⟨I,qd,D,qb,L,qt,M,qu,J,qn⟩:=q;obtain⟨q0,q5,rfl⟩:∃a c,I=G a qd.length c:=h'.1.shape;obtain⟨q1,q6,rfl⟩:∃a c,D=G a qb.length c:=h'.2.1.shape;obtain⟨q2,q7,rfl⟩:∃a c,L=G a qt.length c:=h'.2.2.1.shape;obtain⟨q3,q8,rfl⟩:∃a c,M=G a qu.length c:=h'.2.2.2.1.shape;obtain⟨q4,q9,rfl⟩:∃a c,J=G a qn.length c:=h'.2.2.2.2.shape;dsimp only[RepQ.n]at hl d;have c0:=fun w h h'=>z1I (G p0 pd.length p5) (G q0 qd.length q5) (pd.map Va) (qd.map Va) w (z0C h) (z0C h') (by rw[Vb,z1k];omega) (by rw[Vb,z1k];omega)
 have c1:=fun w h h'=>z2a p1 q1 p6 q6 pb qb w h h' (by omega) (by omega)
 have c2:=fun w h h'=>z1I (G p2 pt.length p7) (G q2 qt.length q7) (pt.map Va) (qt.map Va) w (z0C h) (z0C h') (by rw[Vb,z1k];omega) (by rw[Vb,z1k];omega)
 have c3:=fun w h h'=>z8F (G p3 pu.length p8) (G q3 qu.length q8) pu qu w h h' (by omega) (by omega)
 have c4:=fun w h h'=>z2a p4 q4 p9 q9 pn qn w h h' (by omega) (by omega)
 obtain⟨r0,r1,r2,r3,r4⟩:txnK.At w (G p0 pd.length p5) pd∧itemK.At w (G p1 pb.length p6) pb∧txnK.At w (G p2 pt.length p7) pt∧ussK.At w (G p3 pu.length p8) pu∧itemK.At w (G p4 pn.length p9) pn:=h;obtain⟨s0,s1,s2,s3,s4⟩:txnK.At w (G q0 qd.length q5) qd∧itemK.At w (G q1 qb.length q6) qb∧txnK.At w (G q2 qt.length q7) qt∧ussK.At w (G q3 qu.length q8) qu∧itemK.At w (G q4 qn.length q9) qn:=h';replace r1:=(z05 r1).2;replace r4:=(z05 r4).2;replace s1:=(z05 s1).2;replace s4:=(z05 s4).2;have E:Hid (sameRep ⟨pd.map Va,pb,pt.map Va,pu.map USQ.e,pn⟩ ⟨qd.map Va,qb,qt.map Va,qu.map USQ.e,qn⟩=(sameTs (pd.map Va) (qd.map Va) && (sameIs pb qb && (sameTs (pt.map Va) (qt.map Va) && (sameUss (pu.map USQ.e) (qu.map USQ.e) && sameIs pn qn))))):=show _=_ from rfl
 dsimp only[RepQ.e];generalize sameTs (pd.map Va) (qd.map Va)=X0 at*;generalize sameIs pb qb=X1 at*;generalize sameTs (pt.map Va) (qt.map Va)=X2 at*;generalize sameUss (pu.map USQ.e) (qu.map USQ.e)=X3 at*;generalize sameIs pn qn=X4 at*;generalize sameRep ⟨pd.map Va,pb,pt.map Va,pu.map USQ.e,pn⟩ ⟨qd.map Va,qb,qt.map Va,qu.map USQ.e,qn⟩=S at*;have B:=(Blk.new w 29 #[G p0 pd.length p5,G p1 pb.length p6,G p2 pt.length p7,G p3 pu.length p8,G p4 pn.length p9]).below (w':=((w.alloc (.cells #[G p0 pd.length p5,G p1 pb.length p6,G p2 pt.length p7,G p3 pu.length p8,G p4 pn.length p9] 29)).alloc (.cells #[G q0 qd.length q5,G q1 qb.length q6,G q2 qt.length q7,G q3 qu.length q8,G q4 qn.length q9] 29))) (by go_grown);have B':=Blk.new (w.alloc (.cells #[G p0 pd.length p5,G p1 pb.length p6,G p2 pt.length p7,G p3 pu.length p8,G p4 pn.length p9] 29)) 29 #[G q0 qd.length q5,G q1 qb.length q6,G q2 qt.length q7,G q3 qu.length q8,G q4 qn.length q9];have hB:Below w.heap.size w ((w.alloc (.cells #[G p0 pd.length p5,G p1 pb.length p6,G p2 pt.length p7,G p3 pu.length p8,G p4 pn.length p9] 29)).alloc (.cells #[G q0 qd.length q5,G q1 qb.length q6,G q2 qt.length q7,G q3 qu.length q8,G q4 qn.length q9] 29)):=by go_grown
 rw[World.size_alloc]at B';go_enter func67,ntmps67;have f0:=B.cell 0 _ rfl;have g0:=B'.cell 0 _ rfl
 go_wp2_with fail
 clear f0 g0;generalize ((w.alloc (.cells #[G p0 pd.length p5,G p1 pb.length p6,G p2 pt.length p7,G p3 pu.length p8,G p4 pn.length p9] 29)).alloc (.cells #[G q0 qd.length q5,G q1 qb.length q6,G q2 qt.length q7,G q3 qu.length q8,G q4 qn.length q9] 29))=W at*;refine(c0 W (r0.below hB) (s0.below hB)).mono ?_;rintro e w0 ⟨rfl,hb⟩;replace B:=B.below hb;replace B':=B'.below hb;replace hB:=hB.trans (hb.mono hB.size);clear hb
 cases X0 with
 |false=>
  go_wp2
  go_ret;exact⟨by rw[E.out];rfl,hB⟩
 |true=>
  have f1:=B.cell 1 _ rfl;have g1:=B'.cell 1 _ rfl
  go_wp2_with fail
  clear f1 g1;refine(c1 w0 (r1.below hB) (s1.below hB)).mono ?_;rintro e w1 ⟨rfl,hb⟩;replace B:=B.below hb;replace B':=B'.below hb;replace hB:=hB.trans (hb.mono hB.size);clear hb
  cases X1 with
  |false=>
   go_wp2
   go_ret;exact⟨by rw[E.out];rfl,hB⟩
  |true=>
   have f2:=B.cell 2 _ rfl;have g2:=B'.cell 2 _ rfl
   go_wp2_with fail
   clear f2 g2;refine(c2 w1 (r2.below hB) (s2.below hB)).mono ?_;rintro e w2 ⟨rfl,hb⟩;replace B:=B.below hb;replace B':=B'.below hb;replace hB:=hB.trans (hb.mono hB.size);clear hb
   cases X2 with
   |false=>
    go_wp2
    go_ret;exact⟨by rw[E.out];rfl,hB⟩
   |true=>
    have f3:=B.cell 3 _ rfl;have g3:=B'.cell 3 _ rfl
    go_wp2_with fail
    clear f3 g3;refine(c3 w2 (r3.below hB) (s3.below hB)).mono ?_;rintro e w3 ⟨rfl,hb⟩;replace B:=B.below hb;replace B':=B'.below hb;replace hB:=hB.trans (hb.mono hB.size);clear hb
    cases X3 with
    |false=>
     go_wp2
     go_ret;exact⟨by rw[E.out];rfl,hB⟩
    |true=>
     have f4:=B.cell 4 _ rfl;have g4:=B'.cell 4 _ rfl
     go_wp2_with fail
     clear f4 g4;refine(c4 w3 (r4.below hB) (s4.below hB)).mono ?_;rintro e w4 ⟨rfl,hb⟩;replace B:=B.below hb;replace B':=B'.below hb;replace hB:=hB.trans (hb.mono hB.size);clear hb
     go_wp2
     go_ret;exact⟨by rw[E.out];rfl,hB⟩
section
open Go.Extern.Stop Go.Stop Go.Extern
theorem q6q(t:Value)(w:World):
  Calls m 157 #[.nilIface,t] w fun e w'=>e=.returned (.bool false)∧w'=w:=by
 go_enter func157,ntmps157
 go_wp2
 go_ret;exact⟨rfl,rfl⟩
theorem z7s(t:Addr)(w:World):(ReflectliteValue.unpack (.iface 221 (.pointer (some t)))).run m w
  =.ok (.agg #[.pointer (some ⟨2,221,none⟩),.pointer (some ⟨w.heap.size,0,none⟩),.int .u64 150]) (w.alloc (.cells #[.pointer (some t)] 221)):=by kernel_rfl
theorem q1d (a : Addr) (w : World) : (ReflectliteValue.methodAny (ReflectliteValue.valueError "reflectlite.Value.Type" 0) (fun t _ _ _ => ReflectliteType.toType t) #[.agg #[.pointer (some ⟨2, 221, none⟩), .pointer (some a), .int .u64 150]]).run m w
  =.ok (.iface 344 (.agg #[.pointer (some ⟨2,221,none⟩)])) w:=by kernel_rfl
theorem z6i (h : Value) (w : World) : (Go.method 297 344 (.agg #[h]) "Kind").run m w = .ok (343, h) w := by kernel_rfl
theorem q1e(w:World):((ReflectliteType.abiMethod fun t=>(fun a:Nat=>Value.int IntKind.u8 (a:Int))<$>Rtype.kind t) #[.pointer (some ⟨2,221,none⟩)]).run m w=.ok (.int .u8 22) w:=by kernel_rfl
theorem q1f(w:World):((ReflectliteType.abiMethod fun t=>(fun a:Nat=>Value.int IntKind.u8 (a:Int))<$>Rtype.kind t) #[.pointer (some ⟨2,219,none⟩)]).run m w=.ok (.int .u8 25) w:=by kernel_rfl
theorem q2z(z:Sem Value)(f:TypeId→Addr→Nat→Nat→Sem Value)(v:Value):
  ReflectliteValue.method z f #[v]=(do match←ReflectliteValue.parts v with|none=>z|some (t,a,fl)=>f t a fl (fl % 32)):=rfl
theorem z5A(a:Addr)(w:World):(ReflectliteValue.parts (.agg #[.pointer (some ⟨2,221,none⟩),.pointer (some a),.int .u64 150])).run m w=.ok (some (221,a,150)) w:=by kernel_rfl
theorem z9O(a p:Addr)(W:World)(ha:W.cell? a=some (.pointer (some p))):
  (ReflectliteValue.method (ReflectliteValue.valueError "reflectlite.Value.IsNil" 0) ReflectliteValue.isNil #[.agg #[.pointer (some ⟨2, 221, none⟩), .pointer (some a), .int .u64 150]]).run m W = .ok (.bool false) W := by
 rw[q2z];simp only[Sem.run_bind,z5A,Result.andThen];simp[ReflectliteValue.isNil,loadVar,isAgg,underlying,Tryz.underlying221,ha,Result.andThen]
theorem z6j (h : Value) (w : World) : (Go.method 297 344 (.agg #[h]) "Elem").run m w = .ok (354, .agg #[h]) w := by kernel_rfl
theorem z3e (h : Value) (w : World) : (Go.method 297 344 (.agg #[h]) "Implements").run m w = .ok (355, .agg #[h]) w := by kernel_rfl
theorem z2x (h : Value) (w : World) : (Go.method 297 344 (.agg #[h]) "AssignableTo").run m w = .ok (352, .agg #[h]) w := by kernel_rfl
theorem q1g(w:World):(ReflectliteType.method ReflectliteType.elem #[.agg #[.pointer (some ⟨2,221,none⟩)]]).run m w=.ok (.iface 344 (.agg #[.pointer (some ⟨2,219,none⟩)])) w:=by kernel_rfl
theorem z4N (w : World) : (ReflectliteType.relation "Implements" ReflectliteType.implements_ #[.agg #[.pointer (some ⟨2, 219, none⟩)], .iface 344 (.agg #[.pointer (some ⟨2, 148, none⟩)])]).run m w = .ok (.bool true) w := by kernel_rfl
theorem z8G(v:Value)(w:World):(ReflectliteType.typeOf #[.iface 219 v]).run m w=.ok (.iface 344 (.agg #[.pointer (some ⟨2,219,none⟩)])) w:=by kernel_rfl
theorem z4O (w : World) : (ReflectliteType.relation "AssignableTo" ReflectliteType.assignableTo #[.agg #[.pointer (some ⟨2, 219, none⟩)], .iface 344 (.agg #[.pointer (some ⟨2, 219, none⟩)])]).run m w = .ok (.bool true) w := by kernel_rfl
theorem z7t(c:Int)(w:World):(ReflectliteValue.unpack (.iface 219 (.agg #[l Q c]))).run m w
  =.ok (.agg #[.pointer (some ⟨2,219,none⟩),.pointer (some ⟨w.heap.size,0,none⟩),.int .u64 153]) (w.alloc (.cells #[l Q c] 219)):=by kernel_rfl
theorem z8H(w:World):(Rtype.elem? 221).run m w=.ok (some 219) w:=by kernel_rfl
theorem q33(p:Addr)(w:World):(ReflectliteValue.mk 219 p ReflectliteValue.flagAddr).run m w=.ok (.agg #[.pointer (some ⟨2,219,none⟩),.pointer (some p),.int .u64 409]) w:=by kernel_rfl
theorem z9P(a p:Addr)(W:World)(ha:W.cell? a=some (.pointer (some p))):
  (ReflectliteValue.method (ReflectliteValue.valueError "reflectlite.Value.Elem" 0) ReflectliteValue.elem #[.agg #[.pointer (some ⟨2, 221, none⟩), .pointer (some a), .int .u64 150]]).run m W
   =.ok (.agg #[.pointer (some ⟨2,219,none⟩),.pointer (some p),.int .u64 409]) W:=by
 rw[q2z];simp only[Sem.run_bind,z5A,Result.andThen];simp[ReflectliteValue.elem,loadVar,isAgg,underlying,Tryz.underlying221,ha,Result.andThen,z8H,q33]
theorem q5u (v x:Value):ReflectliteValue.set #[v,x]=(do
  let(some (dst,a,fl),some (src,b,_)):=(←ReflectliteValue.parts v,←ReflectliteValue.parts x)
   | unsupported (.noEntry "extern/(internal/reflectlite.Value).Set.zeroValue")
  if fl / ReflectliteValue.flagAddr % 2 == 0 then unsupported (.noEntry "extern/(internal/reflectlite.Value).Set.unaddressable")
  let val←loadVar src b
  if←Rtype.directlyAssignable dst src then storeVar dst a val
  else if←Rtype.implements dst src then
   if(←Rtype.kind src)==20 then
    match val with
    | .nilIface => unsupported (.noEntry "extern/reflectlite: a nil value of one interface type handed on as a value of another")
    |_=>storeVar dst a val
   else storeVar dst a (.iface src val)
  else panicString ("reflectlite.Set: value of type " ++ (← Rtype.spelt src) ++ " is not assignable to type " ++ (← Rtype.spelt dst))
  pure (.tuple #[])):=rfl
theorem z8I(a:Addr)(w:World):(ReflectliteValue.parts (.agg #[.pointer (some ⟨2,219,none⟩),.pointer (some a),.int .u64 409])).run m w=.ok (some (219,a,409)) w:=by kernel_rfl
theorem z9Q(a:Addr)(w:World):(ReflectliteValue.parts (.agg #[.pointer (some ⟨2,219,none⟩),.pointer (some a),.int .u64 153])).run m w=.ok (some (219,a,153)) w:=by kernel_rfl
theorem z8J(w:World):(Rtype.directlyAssignable 219 219).run m w=.ok true w:=by kernel_rfl
theorem z6E(w:World):(sizeOf 219).run m w=.ok 1 w:=by kernel_rfl
theorem q6r(b:Addr)(c:Int)(W:World)(hb:W.cell? b=some (l Q c)):(loadVar 219 b).run m W=.ok (.agg #[l Q c]) W:=by
 have h1:(loadCells b 1).run m W=.ok #[l Q c] W:=run_loadCells_list (P:=m) (w:=W) b [l Q c] (fun j v hj=>by
  match j,hj with
  | 0,hj=>simp at hj;subst hj;simpa [Addr.add] using hb)
 unfold loadVar;simp only[Sem.run_bind];have h2:(isAgg 219).run m W=.ok true W:=by simp[isAgg,underlying,Tryz.underlying219,Result.andThen]
 rw[h2];simp[Result.andThen,z6E,h1]
theorem q6s(ta:Addr)(c:Int)(old:Value)(W:World)(ht:W.cell? ta=some old)(hf:W.frozen? ta=false):(storeVar 219 ta (.agg #[l Q c])).run m W=.ok () (W.setCell ta (l Q c)):=by
 unfold storeVar;simp[z6E,Value.cells,storeCells,Result.andThen,Addr.add];rw[run_store m W ta _ _ (by rfl)];simp[ht,hf]
theorem q2A(ta b:Addr)(c:Int)(old:Value)(W:World)(hb:W.cell? b=some (l Q c))(ht:W.cell? ta=some old)(hf:W.frozen? ta=false):
  (ReflectliteValue.set #[.agg #[.pointer (some ⟨2,219,none⟩),.pointer (some ta),.int .u64 409],.agg #[.pointer (some ⟨2,219,none⟩),.pointer (some b),.int .u64 153]]).run m W
   =.ok (.tuple #[]) (W.setCell ta (l Q c)):=by
 rw[q5u];simp only[Sem.run_bind,z8I,z9Q,Result.andThen];simp[ReflectliteValue.flagAddr,Result.andThen,z8J,q6r b c W hb,q6s ta c old W ht hf]
theorem q6t(c:Int)(t:Addr)(old:Value)(w:World)(hg:w.cell? ⟨0,0,none⟩=some (.iface 344 (.agg #[.pointer (some ⟨2,148,none⟩)])))(ht0:w.cell? t=some old)(hf0:w.frozen? t=false):
  Calls m 157 #[.iface 219 (.agg #[l Q c]),.iface 221 (.pointer (some t))] w fun ev w'=>ev=.returned (.bool true)∧w'=((((w.alloc (.cells #[.pointer (some t)] 221)).alloc (.cells #[.pointer (some ⟨2,221,none⟩),.pointer (some ⟨w.heap.size,0,none⟩),.int .u64 150] 294)).alloc (.cells #[.pointer (some ⟨2,221,none⟩),.pointer (some ⟨w.heap.size,0,none⟩),.int .u64 150] 294)).alloc (.cells #[l Q c] 219)).setCell t (l Q c):=by
 have h6:=@run_callFunc_extern m 213 _ (fun args=>ReflectliteValue.unpack (args.getD 0 (.tuple #[]))) func213 (by kernel_rfl) (by kernel_rfl) (by kernel_rfl) (by kernel_rfl);have h7 := @run_callFunc_extern m 214 _ (ReflectliteValue.methodAny (ReflectliteValue.valueError "reflectlite.Value.Type" 0) (fun t _ _ _ => ReflectliteType.toType t)) func214 (by kernel_rfl) (by kernel_rfl) (by kernel_rfl) (by kernel_rfl)
 have h8 := @run_callFunc_extern m 215 _ (ReflectliteValue.method (ReflectliteValue.valueError "reflectlite.Value.IsNil" 0) ReflectliteValue.isNil) func215 (by kernel_rfl) (by kernel_rfl) (by kernel_rfl) (by kernel_rfl)
 have h27:=@run_callFunc_extern m 343 _ (ReflectliteType.abiMethod fun t=>do pure (.int .u8 (←Rtype.kind t))) func343 (by kernel_rfl) (by kernel_rfl) (by kernel_rfl) (by kernel_rfl);have h37:=@run_callFunc_extern m 354 _ (ReflectliteType.method ReflectliteType.elem) func354 (by kernel_rfl) (by kernel_rfl) (by kernel_rfl) (by kernel_rfl);have h38 := @run_callFunc_extern m 355 _ (ReflectliteType.relation "Implements" ReflectliteType.implements_) func355 (by kernel_rfl) (by kernel_rfl) (by kernel_rfl) (by kernel_rfl)
 have h10:=@run_callFunc_extern m 259 _ ReflectliteType.typeOf func259 (by kernel_rfl) (by kernel_rfl) (by kernel_rfl) (by kernel_rfl);have h35 := @run_callFunc_extern m 352 _ (ReflectliteType.relation "AssignableTo" ReflectliteType.assignableTo) func352 (by kernel_rfl) (by kernel_rfl) (by kernel_rfl) (by kernel_rfl)
 have h11 := @run_callFunc_extern m 260 _ (ReflectliteValue.method (ReflectliteValue.valueError "reflectlite.Value.Elem" 0) ReflectliteValue.elem) func260 (by kernel_rfl) (by kernel_rfl) (by kernel_rfl) (by kernel_rfl)
 have h12:=@run_callFunc_extern m 261 _ ReflectliteValue.set func261 (by kernel_rfl) (by kernel_rfl) (by kernel_rfl) (by kernel_rfl);have tO:=z8G;have mA:=z2x;have a25:=z4O;have v25:=z7t;have f6:=z7s;have f7:=q1d;have mK:=z6i;have mE:=z6j;have mI:=z3e;have k27:=q1e;have k25:=q1f;have e27:=q1g;have i25:=z4N;have n8:=z9O ⟨w.heap.size,0,none⟩ t ((w.alloc (.cells #[.pointer (some t)] 221)).alloc (.cells #[.pointer (some ⟨2,221,none⟩),.pointer (some ⟨w.heap.size,0,none⟩),.int .u64 150] 294)) (by simp);have hlt:0<w.heap.size:=by
  rcases Nat.eq_zero_or_pos w.heap.size with h0|h
  ·simp[World.cell?,h0]at hg
  ·exact h
 have hg2:((w.alloc (.cells #[.pointer (some t)] 221)).alloc (.cells #[.pointer (some ⟨2,221,none⟩),.pointer (some ⟨w.heap.size,0,none⟩),.int .u64 150] 294)).cell? ⟨0,0,none⟩=some (.iface 344 (.agg #[.pointer (some ⟨2,148,none⟩)])):=by
  rw[World.cell?_alloc_lt _ _ ⟨0,0,none⟩ (by simp),World.cell?_alloc_lt _ _ ⟨0,0,none⟩ hlt];exact hg
 have htl:t.block<w.heap.size:=by
  rcases Nat.lt_or_ge t.block w.heap.size with h|h
  ·exact h
  ·simp[World.cell?,Array.getElem?_eq_none h]at ht0
 have el:=z9P ⟨w.heap.size,0,none⟩ t (((w.alloc (.cells #[.pointer (some t)] 221)).alloc (.cells #[.pointer (some ⟨2,221,none⟩),.pointer (some ⟨w.heap.size,0,none⟩),.int .u64 150] 294)).alloc (.cells #[.pointer (some ⟨2,221,none⟩),.pointer (some ⟨w.heap.size,0,none⟩),.int .u64 150] 294)) (by rw[World.cell?_alloc_lt _ _ ⟨w.heap.size,0,none⟩ (by simp;omega)];simp);have st:=q2A t ⟨w.heap.size+1+1+1,0,none⟩ c old ((((w.alloc (.cells #[.pointer (some t)] 221)).alloc (.cells #[.pointer (some ⟨2,221,none⟩),.pointer (some ⟨w.heap.size,0,none⟩),.int .u64 150] 294)).alloc (.cells #[.pointer (some ⟨2,221,none⟩),.pointer (some ⟨w.heap.size,0,none⟩),.int .u64 150] 294)).alloc (.cells #[l Q c] 219))
  (by rw[World.cell?_alloc_at _ _ _ _ (by simp)];rfl)
  (by rw[World.cell?_alloc_lt _ _ t (by simp;omega),World.cell?_alloc_lt _ _ t (by simp;omega),World.cell?_alloc_lt _ _ t (by simp;omega),World.cell?_alloc_lt _ _ t htl];exact ht0)
  (by rw[World.frozen?_alloc_old _ _ t (by simp;omega),World.frozen?_alloc_old _ _ t (by simp;omega),World.frozen?_alloc_old _ _ t (by simp;omega),World.frozen?_alloc_old _ _ t (Nat.ne_of_lt htl)];exact hf0)
 go_enter func157,ntmps157
 go_wp2
 refine wp_loop_rounds 1 ?_;rw[rounds_succ]
 go_wp2
 go_ret;exact⟨rfl,rfl⟩
def ErrT(w:World):Prop:=w.cell? ⟨0,0,none⟩=some (.iface 344 (.agg #[.pointer (some ⟨2,148,none⟩)]))
theorem ErrT.below{w w':World}(h:ErrT w)(hb:Below w.heap.size w w'):ErrT w':=by
 have hlt:0<w.heap.size:=by
  rcases Nat.eq_zero_or_pos w.heap.size with h0|h0
  ·unfold ErrT at h;simp[World.cell?,h0]at h
  ·exact h0
 exact(hb.cell (p:=⟨0,0,none⟩) hlt).trans h
theorem q1h(w:World):Calls m 102 #[.nilIface] w fun e w'=>e=.returned (l Q 0)∧Below w.heap.size w w':=by
 have hB:Below w.heap.size w (w.alloc (.cells #[l Q 0] 219)):=by go_grown
 go_enter func102,ntmps102
 go_wp2_with fail
 refine(q6q _ _).mono ?_;rintro e w1 ⟨rfl,rfl⟩
 go_wp2
 go_ret;exact⟨rfl,hB⟩
theorem q1i(c:Int)(w:World)(hg:ErrT w):Calls m 102 #[.iface 219 (.agg #[l Q c])] w fun e w'=>e=.returned (l Q c)∧Below w.heap.size w w':=by
 have hB:Below w.heap.size w (w.alloc (.cells #[l Q 0] 219)):=by go_grown
 have B:=Blk.new w 219 #[l Q 0];have h0:=B.cell 0 _ rfl;have hf:=B.frozen 0;have hlt:=B.lt;go_enter func102,ntmps102
 go_wp2_with fail
 have hg':=hg.below hB;generalize w.alloc (.cells #[l Q 0] 219)=W at*;generalize hgs:w.heap.size=g at*;refine(q6t c ⟨g,0,none⟩ (l Q 0) W hg' h0 hf).mono ?_;rintro e w1 ⟨rfl,rfl⟩;have hb2:Below W.heap.size W ((((W.alloc (.cells #[.pointer (some ⟨g,0,none⟩)] 221)).alloc (.cells #[.pointer (some ⟨2,221,none⟩),.pointer (some ⟨W.heap.size,0,none⟩),.int .u64 150] 294)).alloc (.cells #[.pointer (some ⟨2,221,none⟩),.pointer (some ⟨W.heap.size,0,none⟩),.int .u64 150] 294)).alloc (.cells #[l Q c] 219)):=by go_grown
 have B2:=B.below hb2;have hB2:=hB.trans (hb2.mono (by rw[←hgs];exact hB.size));generalize (((W.alloc (.cells #[.pointer (some ⟨g,0,none⟩)] 221)).alloc (.cells #[.pointer (some ⟨2,221,none⟩),.pointer (some ⟨W.heap.size,0,none⟩),.int .u64 150] 294)).alloc (.cells #[.pointer (some ⟨2,221,none⟩),.pointer (some ⟨W.heap.size,0,none⟩),.int .u64 150] 294)).alloc (.cells #[l Q c] 219)=W2 at*;have c3:(W2.setCell ⟨g,0,none⟩ (l Q c)).cell? ⟨g,0,none⟩=some (l Q c):=by
  have:W2.heap[g]?=some (.cells #[l Q 0] 219 (0,0)):=B2;simp[World.cell?,World.setCell,Array.getElem?_modify,this]
 have hB3:Below g w (W2.setCell ⟨g,0,none⟩ (l Q c)):=hB2.setCell (p:=⟨g,0,none⟩) (Nat.le_refl _) _;generalize W2.setCell ⟨g,0,none⟩ (l Q c)=W3 at*
 go_wp2
 go_ret;exact⟨rfl,by rw[hgs];exact hB3⟩
end
def z47(ds gone:List TxnD):List TxnD:=ds.filter (fun t=>!knw gone t)
def witQ(ps:List TxnQ)(gone:List TxnD):List TxnQ:=ps.filter (fun p=>!knw gone (Va p))
theorem q5v(ps:List TxnQ)(gone:List TxnD):(witQ ps gone).map Va=z47 (ps.map Va) gone:=by
 induction ps with
 |nil=>rfl
 |cons p r ih=>
  simp only[witQ,z47,List.map_cons,List.filter_cons]at ih⊢;split<;>simp[ih]
theorem q34(ps:List TxnQ)(gone:List TxnD)(k:Nat)(hk:k<ps.length):witQ (ps.take (k+1)) gone=if knw gone (Va ps[k])then witQ (ps.take k) gone else witQ (ps.take k) gone++[ps[k]]:=by
 unfold witQ;rw[List.take_succ_eq_append_getElem hk,List.filter_append]
 cases h:knw gone (Va ps[k])<;>simp[List.filter_cons,h]
theorem q2B(ds:List TxnD)(gone:List TxnD)(k:Nat)(hk:k<ds.length):z47 (ds.take (k+1)) gone=if knw gone ds[k]then z47 (ds.take k) gone else z47 (ds.take k) gone++[ds[k]]:=by
 unfold z47;rw[List.take_succ_eq_append_getElem hk,List.filter_append]
 cases h:knw gone ds[k]<;>simp[List.filter_cons,h]
theorem q5w(ps:List TxnQ)(gone:List TxnD)(k:Nat):(witQ (ps.take k) gone).length≤k:=by
 have h1:(witQ (ps.take k) gone).length≤(ps.take k).length:=List.length_filter_le ..;rw[List.length_take]at h1;omega
theorem q35(ds:List TxnD)(gone:List TxnD)(k:Nat):(z47 (ds.take k) gone).length≤k:=by
 have h1:(z47 (ds.take k) gone).length≤(ds.take k).length:=List.length_filter_le ..;rw[List.length_take]at h1;omega
theorem q2C{ps:List TxnQ}{gone:List TxnD}{p:TxnQ}(h:p∈witQ ps gone):p∈ps:=(List.mem_filter.1 h).1
theorem q60(ps:List TxnQ)(gone:List TxnD):(witQ ps gone).length+nmL TxnQ.n (witQ ps gone)≤ps.length+nmL TxnQ.n ps:=by
 induction ps with
 |nil=>simp[witQ,nmL]
 |cons p r ih=>
  simp only[witQ,List.filter_cons,List.length_cons]at ih⊢;simp only[nmL,List.map_cons,List.sum_cons]at ih⊢;split
  ·simp only[List.length_cons,List.map_cons,List.sum_cons];omega
  ·omega
theorem q2D{acc:List TxnD}{t:TxnD}(h:stpF acc t=0):t.F=0∧knw acc t=false:=by
 unfold stpF at h;by_cases h0:t.F=0
 ·rw[if_pos h0]at h;refine⟨h0,?_⟩
  cases hk:knw acc t with
  |false=>rfl
  |true=>rw[hk]at h;exact absurd h (by decide)
 ·rw[if_neg h0]at h;exact absurd h h0
theorem z8K:∀ (r acc:List TxnD),z17 acc r=0→∀t∈r,t.F=0
 |[],_,_,t,ht=>by simp at ht
 |x::r,acc,h,t,ht=>by
  rw[z17]at h;by_cases h0:stpF acc x=0
  ·rw[if_pos h0]at h;rcases List.mem_cons.1 ht with rfl|ht
   ·exact(q2D h0).1
   ·exact z8K r _ h t ht
  ·rw[if_neg h0]at h;exact absurd h h0
theorem z5B{ds:List TxnD}(h:lstF ds=0):ds.length≤40∧∀t∈ds,t.F=0:=by
 unfold lstF at h;by_cases h4:40<ds.length
 ·rw[if_pos h4]at h;exact absurd h (by decide)
 ·rw[if_neg h4]at h;exact⟨by omega,z8K ds [] h⟩
theorem q5x{t:TxnD}(h:t.F=0):0<t.acts.length:=by
 obtain⟨i,s,q,zs⟩:=t;have h:txnF i s q zs=0:=h;rcases z3B i s q zs with⟨_,e⟩|⟨_,_,e⟩|⟨_,_,_,e⟩|⟨_,_,_,⟨_,e⟩|⟨_,e⟩|⟨h1,_,_⟩⟩
 ·rw[e]at h;exact absurd h (by decide)
 ·rw[e]at h;exact absurd h (by decide)
 ·rw[e]at h;exact absurd h (by decide)
 ·rw[e]at h;exact absurd h (by decide)
 ·rw[e]at h;exact absurd h (by decide)
 ·show 0<zs.length;omega
theorem z1A{ds ds':List TxnD}(h:bthF ds ds'=0):lstF ds=0∧lstF ds'=0:=by
 unfold bthF at h;by_cases h0:lstF ds=0
 ·rw[if_pos h0]at h;exact⟨h0,h⟩
 ·rw[if_neg h0]at h;exact absurd h h0
theorem z7u{ps:List TxnQ}(h:lstF (ps.map Va)=0):∀p∈ps,0<p.acts.length:=fun p hp=>q5x (t:=Va p) ((z5B h).2 _ (List.mem_map.2 ⟨p,hp,rfl⟩))
theorem z9R(v v':Value)(ps gs:List TxnQ)(w:World)(h:txnK.At w v ps)(h':txnK.At w v' gs)(hl:ps.length≤40)(af:gs.length≤1048576):
  Calls m 212 #[v,v'] w fun e w'=>∃v2,e=.returned v2∧w'.ownsRow w.heap.size 39 4 v2 (witQ ps (gs.map Va)).length (txnK.row (witQ ps (gs.map Va)))∧Below w.heap.size w w':=by
 obtain⟨a,cap,rfl⟩:=h.shape;obtain⟨a',O,rfl⟩:=h'.shape;obtain⟨i0,hi,ag,ah,ai⟩:=info_parts z1f;have U:=fun x a n c w h=>z13 (G a' gs.length O) gs x a n c w h af
 generalize gs.map Va=gd at*;have X:w.ownsRow w.heap.size 39 4 (G none 0 0) (witQ (ps.take 0) gd).length (txnK.row (witQ (ps.take 0) gd)):=World.ownsRow_nil _ _ _ _;go_enter func212,ntmps212
 go_wp2
 go_loopw[5,10] (fun v j wr=>∃k:Nat,k≤ps.length∧j=l Q k∧wr.ownsRow w.heap.size 39 4 v (witQ (ps.take k) gd).length (txnK.row (witQ (ps.take k) gd))∧Below w.heap.size w wr) (fun _ j _=>ps.length-(intOf j).toNat)
 case atStart=>exact⟨0,Nat.zero_le _,rfl,X,Below.refl _ _⟩
 case round=>
  clear X;obtain⟨k,hk,rfl,hO,hb⟩:=hrel;by_cases V:k<ps.length
  ·have HW:=q34 ps gd k V;have ak:=q5w ps gd k;obtain⟨b,aj,rfl,al,hc,D⟩:=(h.below hb).cell (by decide) k V;have y:∀j x,(txnK.cells ps[k])[j]?=some x→wr.cell? ⟨b,aj+k*4+j,none⟩=some x:=hc;have c0:=y 0 (l Q ps[k].i) rfl;have c1:=y 1 (l Q ps[k].s) rfl;have c2:=y 2 (l Q ps[k].q) rfl;have c3:=y 3 (ps[k].va) rfl;rw[Nat.add_zero]at c0;clear hc y;generalize witQ (ps.take k) gd=qs at*;obtain⟨sa,sc,rfl⟩:=z0g hO;generalize hK:knw gd (Va ps[k])=K at*;have HK:Hid (knw gd (Va ps[k])=K):=hK;clear hK;generalize ps[k]=p at*;obtain⟨i,s,q,va,d⟩:=p;replace D:actK.At wr va d:=D;obtain⟨aa,ac,rfl⟩:=D.shape;dsimp only[Va]at c0 c1 c2 c3 HK;have C:Below wr.heap.size wr (wr.alloc (.cells #[l Q i,l Q s,l Q q,G aa d.length ac] 39)):=by go_grown
   have hX:=Blk.new wr 39 #[l Q i,l Q s,l Q q,G aa d.length ac];have hq:=U ⟨i,s,q,d⟩ aa d.length ac _ (h'.below (hb.trans (C.mono hb.size)));rw[HK.out]at hq;dsimp only at hq;replace hO:=z0b hO C;replace hb:=hb.trans (C.mono hb.size);have W:(k:Int)<(ps.length:Int):=by omega
   clear C HK D
   go_wp2_with fail
   clear c0 c1 c2 c3;have am:wr.heap.size<(wr.alloc (.cells #[l Q i,l Q s,l Q q,G aa d.length ac] 39)).heap.size:=by simp
   generalize wr.heap.size=H at*;generalize wr.alloc (.cells #[l Q i,l Q s,l Q q,G aa d.length ac] 39)=Y at*;refine hq.mono ?_;rintro e w2 ⟨rfl,A⟩;replace hO:=z0b hO A;replace hb:=hb.trans (A.mono hb.size);replace hX:=hX.below A;clear hq A
   cases K with
   |true=>
    rw[if_pos rfl]at HW;rw[←HW]at hO;have HH:Hid (w2.ownsRow w.heap.size 39 4 (.slice sa (witQ (ps.take (k+1)) gd).length sc) (witQ (ps.take (k+1)) gd).length (txnK.row (witQ (ps.take (k+1)) gd))):=hO;rw[←HW];clear HW hO
    go_wp2
    go_roundw
    case rel=>exact⟨k+1,by omega,by go_num,HH.out,hb⟩
    case measure=>simp[intOf];omega
   |false=>
    have ab:Hid (witQ (ps.take (k+1)) gd=qs++[(⟨i,s,q,G aa d.length ac,d⟩:TxnQ)]):=HW;clear HW;obtain⟨x0,x1,x2,x3⟩:=hX.cel4;have L:Below w2.heap.size w2 (w2.alloc (.cells #[l Q i,l Q s,l Q q,G aa d.length ac] 39)):=by go_grown
    have J:=z0b hO L;have M:=hb.trans (L.mono hb.size);have an:=hb.size;clear hO hb hX
    go_wp2_with (at_builtin;refine wpList_append_own_at _ rfl _ _ 25 rfl w.heap.size 39 i0 (.agg #[l Q 0,l Q 0,l Q 0,G none 0 0]) 4 48 Tryz.underlying25 hi ag ah ai rfl (by decide) _ qs.length (txnK.row qs) rfl J ⟨w2.heap.size,0,none⟩ 1 1 [l Q i,l Q s,l Q q,G aa d.length ac] rfl rfl ?c1 ?c2 ?c3 ?c4 ?c5 ?_)
    all_goals try(case c1=>intro j u hj;match j,hj with|0,hj=>simp at hj;subst hj;simp[Addr.add]|1,hj=>simp at hj;subst hj;simp[Addr.add]|2,hj=>simp at hj;subst hj;simp[Addr.add]|3,hj=>simp at hj;subst hj;simp[Addr.add])
    all_goals try(case c2=>intro u hu;simp at hu;rcases hu with rfl|rfl|rfl|rfl<;>rfl)
    all_goals try(case c3=>unfold maxLen;omega)
    all_goals try(case c4=>omega)
    all_goals try(case c5=>have:=L.size;omega)
    intro v' w5 E z Z T;have I:txnK.row (qs++[(⟨i,s,q,G aa d.length ac,d⟩:TxnQ)])=txnK.row qs++[l Q i,l Q s,l Q q,G aa d.length ac]:=by simp[Kind.row];rfl
    have N:w5.ownsRow w.heap.size 39 4 v' (witQ (ps.take (k+1)) gd).length (txnK.row (witQ (ps.take (k+1)) gd)):=by rw[ab.out,I,List.length_append];exact E
    have ad:Below w.heap.size w w5:=M.grown z M.size (fun j hj=>by have:=(J.lt j hj).1;omega);clear E z Z T I J M x0 x1 x2 x3
    go_wp2
    go_roundw
    case rel=>exact⟨k+1,by omega,by go_num,N,ad⟩
    case measure=>simp[intOf];omega
  ·have ae:k=ps.length:=by omega
   subst ae;rw[List.take_length]at hO;have W:¬((ps.length:Nat):Int)<(ps.length:Int):=by omega
   go_wp2
   go_ret;exact⟨_,rfl,hO,hb⟩
theorem z7v(v v':Value)(ps gs:List TxnQ)(w:World)(h:txnK.At w v ps)(h':txnK.At w v' gs)(aD:∀p∈ps,0<p.acts.length)(aK:ps.length≤40)(hl:ps.length+nmL TxnQ.n ps≤1048576)(aC:gs.length≤1048576):
  Calls m 233 #[v,v'] w fun e w'=>∃v2 qs,e=.returned v2∧qs.map Va=z47 (ps.map Va) (gs.map Va)∧txnK.Own w' v2 qs∧(txnK.fp v2 qs).Nodup∧(∀k∈txnK.fp v2 qs,w.heap.size≤k)∧Below w.heap.size w w':=by
 obtain⟨a,cap,rfl⟩:=h.shape;obtain⟨a',af,rfl⟩:=h'.shape;obtain⟨i0,hi,aH,aI,aJ⟩:=info_parts z1f;have ak:=fun b o x va w h hB=>z2p (G a' gs.length af) gs b o x va w h hB aC
 generalize gs.map Va=gd at*;have ho:=World.ownsRow_lit (e:=39) (size:=4) w #[] 0 (Nat.le_refl _) (by decide) rfl;have am:txnK.Own (w.alloc (.cells #[] 39)) (G (some ⟨w.heap.size,0,none⟩) 0 0) ([]:List TxnQ):=⟨(z0u ho).1,fun p hp=>by simp at hp⟩
 have ap:Below w.heap.size w (w.alloc (.cells #[] 39)):=by go_grown
 have Z:Hid ((txnK.fp (G (some ⟨w.heap.size,0,none⟩) 0 0) ([]:List TxnQ)).Nodup∧∀k∈txnK.fp (G (some ⟨w.heap.size,0,none⟩) 0 0) ([]:List TxnQ),w.heap.size≤k):=by
  refine⟨?_,?_⟩
  ·simp[Kind.fp,blk,Value.ownBlock]
  ·simp[Kind.fp,blk,Value.ownBlock]
 clear ho;go_enter func233,ntmps233
 go_wp2
 go_loopw[5,6] (fun v j wr=>∃ (k:Nat) (qs:List TxnQ),k≤ps.length∧j=l Q k∧Hid (qs.map Va=z47 ((ps.map Va).take k) gd)∧txnK.Own wr v qs∧Hid ((txnK.fp v qs).Nodup∧∀k∈txnK.fp v qs,w.heap.size≤k)∧Below w.heap.size w wr) (fun _ j _=>ps.length-(intOf j).toNat)
 case atStart=>exact⟨0,[],Nat.zero_le _,rfl,(rfl:_=_),am,Z,ap⟩
 case round=>
  clear Z am ap;obtain⟨k,qs,hk,rfl,HE,hO,HN,hb⟩:=hrel;obtain⟨sa,sc,rfl⟩:=hO.shape;have ae:Hid (qs.length≤k):=show _≤_ by
   have h1:=congrArg List.length HE.out;have h2:=q35 (ps.map Va) gd k;rw[Vb]at h1;omega
  by_cases M:k<ps.length
  ·obtain⟨b,X,rfl,aM,hc,y⟩:=(h.below hb).cell (by decide) k M;have C:∀j x,(txnK.cells ps[k])[j]?=some x→wr.cell? ⟨b,X+k*4+j,none⟩=some x:=hc;have c0:=C 0 (l Q ps[k].i) rfl;have c1:=C 1 (l Q ps[k].s) rfl;have c2:=C 2 (l Q ps[k].q) rfl;have c3:=C 3 (ps[k].va) rfl;rw[Nat.add_zero]at c0;have W:=z1o TxnQ.n ps k M;have E:=aD _ (List.getElem_mem M);have HW:Hid (z47 ((ps.map Va).take (k+1)) gd=if knw gd (Va ps[k])then qs.map Va else qs.map Va++[Va ps[k]]):=show _=_ by
    have:=q2B (ps.map Va) gd k (by simpa using M);rw[this,HE.out];simp
   clear hc C HE;generalize hK:knw gd (Va ps[k])=K at*;have HK:Hid (knw gd (Va ps[k])=K):=hK;clear hK;generalize ps[k]=p at*;obtain⟨i,s,q,va,c⟩:=p;replace y:actK.At wr va c:=y;replace W:c.length≤nmL TxnQ.n ps:=W;obtain⟨aa,ac,rfl⟩:=y.shape;dsimp only at c0 c1 c2 c3 E;obtain⟨ab,ao,az⟩:∃ab ao,aa=some ⟨ab,ao,none⟩:=by
    rcases(z0w y).2 with h0|⟨ab,ao,e,_⟩
    ·have:=z0q c;rw[h0]at this;simp at this;omega
    ·exact⟨ab,ao,e⟩
   subst az;have z:Box4 wr b (X+k*4) (l Q i) (l Q s) (l Q q) (G (some ⟨ab,ao,none⟩) c.length ac):=⟨c0,c1,c2,c3⟩
   have hq:=ak b (X+k*4) (Va ⟨i,s,q,G (some ⟨ab,ao,none⟩) c.length ac,c⟩) _ wr (h'.below hb) z;rw[HK.out]at hq;clear HK c0 c1 c2 c3 ak;have al:(k:Int)<(ps.length:Int):=by omega
   go_wp2_with fail
   refine hq.mono ?_;rintro e w1 ⟨rfl,d⟩;have Y:=hO.lt;replace hO:=hO.below d;replace hb:=hb.trans (d.mono hb.size);replace z:=z.below d;have aN:=d.size
   cases K with
   |true=>
    have av:Hid (qs.map Va=z47 ((ps.map Va).take (k+1)) gd):=show _=_ by rw[HW.out];rfl
    clear HW z d
    go_wp2
    go_roundw
    case rel=>exact⟨k+1,qs,by omega,by go_num,av,hO,HN,hb⟩
    case measure=>simp[intOf];omega
   |false=>
    have ad:Hid (∀p':TxnQ,p'.e=(⟨i,s,q,c⟩:TxnD)→(qs++[p']).map Va=z47 ((ps.map Va).take (k+1)) gd):=fun p' aE=>by
     rw[HW.out,List.map_append,List.map_singleton,aE];rfl
    clear HW;have ai:=z39 i s q ab ao ac c w1 ((z0w y).2.below d) E (by omega);obtain⟨c0,c1,c2,c3⟩:=z;clear y d
    go_wp2_with fail
    clear c0 c1 c2 c3;have aL:w.heap.size≤w1.heap.size:=hb.size;refine ai.mono ?_;rintro e w2 ⟨a2,c2,rfl,ar,V⟩;replace hO:=hO.below V;replace hb:=hb.trans (V.mono hb.size);obtain⟨o2,aj⟩:=z0u ar;have hP:txnK.own w2 ⟨i,s,q,G a2 c.length c2,c⟩:=⟨o2,fun _ _=>trivial⟩
    have A:∀x∈txnK.foot ⟨i,s,q,G a2 c.length c2,c⟩,w1.heap.size≤x:=fun x hx=>aj x (by rw[←z0W (G a2 c.length c2) c];exact hx)
    have ah:(txnK.foot ⟨i,s,q,G a2 c.length c2,c⟩).Nodup:=by
     show(actK.fp _ _).Nodup;rw[z0W];exact z0t _
    have J:Below w2.heap.size w2 (w2.alloc (.cells #[l Q i,l Q s,l Q q,G a2 c.length c2] 39)):=by go_grown
    have T:=hO.below J;have ag:=txnK.own_out (F:=[]) hP (Out.of_below J) (fun _ _=>by simp);have L:=hb.trans (J.mono hb.size);clear ai ar hO hP aj;have I:=T.1
    go_wp2_with (at_builtin;refine wpList_append_own_at _ rfl _ _ 25 rfl 0 39 i0 (.agg #[l Q 0,l Q 0,l Q 0,G none 0 0]) 4 48 Tryz.underlying25 hi aH aI aJ rfl (by decide) _ qs.length (txnK.row qs) rfl I ⟨w2.heap.size,0,none⟩ 1 1 [l Q i,l Q s,l Q q,G a2 c.length c2] rfl rfl ?c1 ?c2 ?c3 ?c4 ?c5 ?_)
    all_goals try(case c1=>intro j u hj;match j,hj with|0,hj=>simp at hj;subst hj;simp[Addr.add]|1,hj=>simp at hj;subst hj;simp[Addr.add]|2,hj=>simp at hj;subst hj;simp[Addr.add]|3,hj=>simp at hj;subst hj;simp[Addr.add])
    all_goals try(case c2=>intro u hu;simp at hu;rcases hu with rfl|rfl|rfl|rfl<;>rfl)
    all_goals try(case c3=>have:=ae.out;unfold maxLen;omega)
    all_goals try(case c4=>have:=ae.out;omega)
    all_goals try(case c5=>first|omega|simp)
    intro v' w5 O D aq U;clear aq I;rw[show w2.heap.size+1=(w2.alloc (.cells #[l Q i,l Q s,l Q q,G a2 c.length c2] 39)).heap.size from(World.size_alloc _ _).symm]at U;generalize aF:w2.alloc (.cells #[l Q i,l Q s,l Q q,G a2 c.length c2] 39)=WA at*;clear aF;obtain⟨ay,an,N,au⟩:=T.snoc HN.out.1 HN.out.2 ag ah (fun x hx aG=>by have:=Y x aG;have:=A x hx;omega) (fun x hx=>by have:=A x hx;omega) L.size O D U;have aA:Below w.heap.size w w5:=Out.keep L au L.size (fun x hx=>HN.out.2 x (by simp only[Kind.fp,List.mem_append];exact Or.inl hx));have aw:Hid ((qs++[(⟨i,s,q,G a2 c.length c2,c⟩:TxnQ)]).map Va=z47 ((ps.map Va).take (k+1)) gd):=ad.out _ rfl;have ax:Hid ((txnK.fp v' (qs++[(⟨i,s,q,G a2 c.length c2,c⟩:TxnQ)])).Nodup∧∀k∈txnK.fp v' (qs++[(⟨i,s,q,G a2 c.length c2,c⟩:TxnQ)]),w.heap.size≤k):=⟨an,N⟩
    clear ad HN Y A ah ag T L O D U au an N hb J V W E
    go_wp2
    go_roundw
    case rel=>exact⟨k+1,_,by omega,by go_num,aw,ay,ax,aA⟩
    case measure=>simp[intOf];omega
  ·have aB:k=ps.length:=by omega
   subst aB;have hE:=HE.out;rw[List.take_of_length_le (by simp)]at hE;have al:¬((ps.length:Nat):Int)<(ps.length:Int):=by omega
   clear HE
   go_wp2
   go_ret;first|exact⟨_,qs,rfl,hE,hO,HN.out.1,HN.out.2,hb⟩|exact⟨_,rfl,qs,hE,hO,HN.out.1,HN.out.2,hb⟩
end Go.Proofs.YtlkpdgjnhkjpjaaGreatDoor
