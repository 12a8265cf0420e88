import Derived.Test.YtdppipeclnldeaaGreatDoorOBAS
set_option linter.unusedVariables false
set_option linter.unusedSimpArgs false
set_option maxRecDepth 100000
set_option maxHeartbeats 16000000
namespace Go.Proofs.YtdppipeclnldeaaGreatDoor
open Go.RowKit Go.BigFrame
open TxnQ renaming e->s,n->f
open InstQ renaming e->l
open List renaming length_map->Va,mem_singleton->Vb,getElem_mem->Ve
open Blk renaming new->Vc
open Act renaming put->Vd
open Out renaming of_below->Vf
open IntKind renaming i64->Q
open Value renaming int->H,slice->G
open Go.Proofs.Tryz renaming prog->P
open Go.Proofs.Tryz
structure Off (w:World) (b o:Nat) (cs:Array Value):Prop where
 lt:b<w.heap.size
 cell:∀ (j:Nat) (x:Value),cs[j]?=some x→w.cell? ⟨b,o+j,none⟩=some x
theorem Off.below{w w':World}{b o:Nat}{cs:Array Value}(h:Off w b o cs)(hb:Below w.heap.size w w'):Off w' b o cs:=
 ⟨Nat.lt_of_lt_of_le h.lt hb.size,fun j x hx=>(hb.cell (p:=⟨b,o+j,none⟩) h.lt).trans (h.cell j x hx)⟩
theorem Off.cell0{w:World}{b o:Nat}{cs:Array Value}(h:Off w b o cs)(x:Value)(hx:cs[0]?=some x):w.cell? ⟨b,o,none⟩=some x:=h.cell 0 x hx
theorem Off.lat{w:World}{b o:Nat}{cs:Array Value}(h:Off w b o cs)(j:Nat)(x:Value)(hx:cs[j]?=some x):∀u:Lat w,u.val.cell? ⟨b,o+j,none⟩=some x:=z0a (h.cell j x hx)
theorem Off.lat0{w:World}{b o:Nat}{cs:Array Value}(h:Off w b o cs)(x:Value)(hx:cs[0]?=some x):∀u:Lat w,u.val.cell? ⟨b,o,none⟩=some x:=z0a (h.cell0 x hx)
theorem q4A(x z:Int)(y:Nat)(b b':Nat)(p q:RepQ)(w:World)(hP:Blk w b 55 #[p.vd,p.vb,p.vt,p.vu,p.vn])(hQ:Off w b' y #[H Q x,H Q z,q.vd,q.vb,q.vt,q.vu,q.vn])(h:repK.rd w p)(h':repK.rd w q)(hl:p.n≤1048576)(A:q.n≤1048576):
  Calls P 110 #[.pointer (some ⟨b,0,none⟩),.pointer (some ⟨b',y+2,none⟩)] w fun e w'=>e=.returned (.bool (sameRep p.e q.e))∧Below w.heap.size w w':=by
 obtain⟨D,pd,C,pb,J,pt,L,pu,I,pn⟩:=p;obtain⟨p0,p5,rfl⟩:∃a c,D=G a pd.length c:=h.1.shape;obtain⟨p1,p6,rfl⟩:∃a c,C=G a pb.length c:=h.2.1.shape;obtain⟨p2,p7,rfl⟩:∃a c,J=G a pt.length c:=h.2.2.1.shape;obtain⟨p3,p8,rfl⟩:∃a c,L=G a pu.length c:=h.2.2.2.1.shape;obtain⟨p4,p9,rfl⟩:∃a c,I=G a pn.length c:=h.2.2.2.2.shape;obtain⟨N,qd,M,qb,T,qt,U,qu,O,qn⟩:=q;obtain⟨q0,q5,rfl⟩:∃a c,N=G a qd.length c:=h'.1.shape;obtain⟨q1,q6,rfl⟩:∃a c,M=G a qb.length c:=h'.2.1.shape;obtain⟨q2,q7,rfl⟩:∃a c,T=G a qt.length c:=h'.2.2.1.shape;obtain⟨q3,q8,rfl⟩:∃a c,U=G a qu.length c:=h'.2.2.2.1.shape;obtain⟨q4,q9,rfl⟩:∃a c,O=G a qn.length c:=h'.2.2.2.2.shape;dsimp only[RepQ.n]at hl A;have c0:=fun w h h'=>z1M (G p0 pd.length p5) (G q0 qd.length q5) (pd.map s) (qd.map s) w (z0H h) (z0H h') (by rw[Va,z1j];omega) (by rw[Va,z1j];omega)
 have c1:=fun w h h'=>z19 p1 q1 p6 q6 pb qb w h h' (by omega) (by omega)
 have c2:=fun w h h'=>z1M (G p2 pt.length p7) (G q2 qt.length q7) (pt.map s) (qt.map s) w (z0H h) (z0H h') (by rw[Va,z1j];omega) (by rw[Va,z1j];omega)
 have c3:=fun w h h'=>z5V (G p3 pu.length p8) (G q3 qu.length q8) pu qu w h h' (by omega) (by omega)
 have c4:=fun w h h'=>z19 p4 q4 p9 q9 pn qn w h h' (by omega) (by omega)
 obtain⟨r0,r1,r2,r3,r4⟩:txnK.At w (G p0 pd.length p5) pd∧itemK.At w (G p1 pb.length p6) pb∧txnK.At w (G p2 pt.length p7) pt∧ussK.At w (G p3 pu.length p8) pu∧itemK.At w (G p4 pn.length p9) pn:=h;obtain⟨s0,s1,s2,s3,s4⟩:txnK.At w (G q0 qd.length q5) qd∧itemK.At w (G q1 qb.length q6) qb∧txnK.At w (G q2 qt.length q7) qt∧ussK.At w (G q3 qu.length q8) qu∧itemK.At w (G q4 qn.length q9) qn:=h';replace r1:=(z05 r1).2;replace r4:=(z05 r4).2;replace s1:=(z05 s1).2;replace s4:=(z05 s4).2;have E:Hid (sameRep ⟨pd.map s,pb,pt.map s,pu.map USQ.e,pn⟩ ⟨qd.map s,qb,qt.map s,qu.map USQ.e,qn⟩=(sameTs (pd.map s) (qd.map s) && (sameIs pb qb && (sameTs (pt.map s) (qt.map s) && (sameUss (pu.map USQ.e) (qu.map USQ.e) && sameIs pn qn))))):=show _=_ from rfl
 dsimp only[RepQ.e];generalize sameTs (pd.map s) (qd.map s)=X0 at*;generalize sameIs pb qb=X1 at*;generalize sameTs (pt.map s) (qt.map s)=X2 at*;generalize sameUss (pu.map USQ.e) (qu.map USQ.e)=X3 at*;generalize sameIs pn qn=X4 at*;generalize sameRep ⟨pd.map s,pb,pt.map s,pu.map USQ.e,pn⟩ ⟨qd.map s,qb,qt.map s,qu.map USQ.e,qn⟩=S at*;have f0:=hP.lat 0 _ rfl;have g0:=hQ.lat 2 _ rfl;have f1:=hP.lat 1 _ rfl;have g1:=hQ.lat 3 _ rfl;have f2:=hP.lat 2 _ rfl;have g2:=hQ.lat 4 _ rfl;have f3:=hP.lat 3 _ rfl;have g3:=hQ.lat 5 _ rfl;have f4:=hP.lat 4 _ rfl;have g4:=hQ.lat 6 _ rfl;have hW:Below w.heap.size w w.drew:=(Below.refl _ _).drew;have V:Nonempty (Lat w):=⟨⟨w,Below.refl _ _⟩⟩
 go_enter func110,ntmps110
 go_wp2_with fail
 refine z0b (S:=fun w'=>∃u:Lat w,w'=u.val) (by kernel_rfl) ?_;refine sgr [(0,8)] 46 (by kernel_rfl) ⟨⟨_,hW⟩,rfl⟩ ?_;simp only[pkE];repeat go_big_quiet_step (fail)
 refine wpQuiet_nil ?_;refine cla 8 (some 13) 64 #[G p0 pd.length p5,G q0 qd.length q5] 45 (by kernel_rfl) ?_;refine(c0 _ (r0.below hW) (s0.below hW)).mono ?_;rintro e w9 ⟨rfl,d⟩;replace hW:=hW.trans (d.mono hW.size);clear d;refine⟨_,rfl,⟨⟨_,hW⟩,rfl⟩,?_⟩;simp only[Vd,pjE]
 cases X0
 all_goals
  refine sgr [(9,9)] 36 (by kernel_rfl) ⟨⟨_,hW⟩,rfl⟩ ?_;simp only[pkE];repeat go_big_quiet_step (fail)
  refine wpQuiet_nil ?_
 focus
  refine ska 18 (some 23) 35 (by kernel_rfl) ⟨⟨_,hW⟩,rfl⟩ ?_;simp only[Vd,pjE]
 rotate_left
 focus
  refine cla 18 (some 23) 64 #[G p2 pt.length p7,G q2 qt.length q7] 35 (by kernel_rfl) ?_;refine(c2 _ (r2.below hW) (s2.below hW)).mono ?_;rintro e w9 ⟨rfl,d⟩;replace hW:=hW.trans (d.mono hW.size);clear d;refine⟨_,rfl,⟨⟨_,hW⟩,rfl⟩,?_⟩;simp only[Vd,pjE]
  cases X2
 rotate_right
 all_goals
  refine sgr [(19,10)] 25 (by kernel_rfl) ⟨⟨_,hW⟩,rfl⟩ ?_;simp only[pkE];repeat go_big_quiet_step (fail)
  refine wpQuiet_nil ?_
 iterate 2
  focus
   refine ska 29 (some 34) 24 (by kernel_rfl) ⟨⟨_,hW⟩,rfl⟩ ?_;simp only[Vd,pjE]
  rotate_left
 focus
  refine cla 29 (some 34) 156 #[G p1 pb.length p6,G q1 qb.length q6] 24 (by kernel_rfl) ?_;refine(c1 _ (r1.below hW) (s1.below hW)).mono ?_;rintro e w9 ⟨rfl,d⟩;replace hW:=hW.trans (d.mono hW.size);clear d;refine⟨_,rfl,⟨⟨_,hW⟩,rfl⟩,?_⟩;simp only[Vd,pjE]
  cases X1
 rotate_right 2
 all_goals
  refine sgr [(30,10)] 14 (by kernel_rfl) ⟨⟨_,hW⟩,rfl⟩ ?_;simp only[pkE];repeat go_big_quiet_step (fail)
  refine wpQuiet_nil ?_
 iterate 3
  focus
   refine ska 40 (some 45) 13 (by kernel_rfl) ⟨⟨_,hW⟩,rfl⟩ ?_;simp only[Vd,pjE]
  rotate_left
 focus
  refine cla 40 (some 45) 156 #[G p4 pn.length p9,G q4 qn.length q9] 13 (by kernel_rfl) ?_;refine(c4 _ (r4.below hW) (s4.below hW)).mono ?_;rintro e w9 ⟨rfl,d⟩;replace hW:=hW.trans (d.mono hW.size);clear d;refine⟨_,rfl,⟨⟨_,hW⟩,rfl⟩,?_⟩;simp only[Vd,pjE]
  cases X4
 rotate_right 3
 all_goals
  refine sgr [(41,10)] 3 (by kernel_rfl) ⟨⟨_,hW⟩,rfl⟩ ?_;simp only[pkE];repeat go_big_quiet_step (fail)
  refine wpQuiet_nil ?_
 iterate 4
  focus
   refine ska 51 (some 56) 2 (by kernel_rfl) ⟨⟨_,hW⟩,rfl⟩ ?_;simp only[Vd,pjE]
  rotate_left
 focus
  refine cla 51 (some 56) 157 #[G p3 pu.length p8,G q3 qu.length q8] 2 (by kernel_rfl) ?_;refine(c3 _ (r3.below hW) (s3.below hW)).mono ?_;rintro e w9 ⟨rfl,d⟩;replace hW:=hW.trans (d.mono hW.size);clear d;refine⟨_,rfl,⟨⟨_,hW⟩,rfl⟩,?_⟩;simp only[Vd,pjE]
 rotate_right 4
 all_goals
  refine sgr [(52,2)] 0 (by kernel_rfl) ⟨⟨_,hW⟩,rfl⟩ ?_;simp only[pkE];repeat go_big_quiet_step (fail)
  refine wpQuiet_nil ?_
 all_goals
  refine z0g (by kernel_rfl) ?_
  go_wp2
  go_ret;exact⟨by rw[E.out];simp,hW⟩
theorem q3G(U V:Int)(y:Nat)(b:Nat)(p:RepQ)(w:World)(hB:Off w b y #[H Q U,H Q V,p.vd,p.vb,p.vt,p.vu,p.vn])(h:repK.own w p)(hl:p.n≤1048576):
  Calls P 63 #[.pointer (some ⟨b,y+2,none⟩)] w fun e w'=>e=.returned (H Q (repF p.e))∧Below w.heap.size w w':=by
 obtain⟨aL,pd,aK,pb,aN,pt,aO,pu,aM,pn⟩:=p;obtain⟨p0,p5,rfl⟩:∃a c,aL=G a pd.length c:=h.1.shape;obtain⟨p1,p6,rfl⟩:∃a c,aK=G a pb.length c:=h.2.1.shape;obtain⟨p2,p7,rfl⟩:∃a c,aN=G a pt.length c:=h.2.2.1.shape;obtain⟨p3,p8,rfl⟩:∃a c,aO=G a pu.length c:=h.2.2.2.1.shape;obtain⟨p4,p9,rfl⟩:∃a c,aM=G a pn.length c:=h.2.2.2.2.shape;dsimp only[RepQ.n]at hl;have h0:=repK.own_rd h;have W:∀q∈pd,z9c q:=fun q hq=>q0N (h.1.2 q hq)
 have Y:∀q∈pt,z9c q:=fun q hq=>q0N (h.2.2.1.2 q hq)
 have nd:=h.1.niceV;have nt:=h.2.2.1.niceV;have hr:=fun(w':World) hb=>repK.rd_below (w':=w') h0 hb
 have aU:(pd.length:Int)≤1048576:=by omega
 have aV:(pt.length:Int)≤1048576:=by omega
 have q0:=hB.cell 2 _ rfl;have q2:=hB.cell 4 _ rfl;clear h h0;by_cases hm:16<pd.length∨8<pt.length
 ·have HC:Hid (repF (RepQ.e (⟨G p0 pd.length p5,pd,G p1 pb.length p6,pb,G p2 pt.length p7,pt,G p3 pu.length p8,pu,G p4 pn.length p9,pn⟩:RepQ))=2):=show _=_ from z7V (by simpa[RepQ.e]using hm)
  generalize repF (RepQ.e (⟨G p0 pd.length p5,pd,G p1 pb.length p6,pb,G p2 pt.length p7,pt,G p3 pu.length p8,pu,G p4 pn.length p9,pn⟩:RepQ))=c at*;clear hr W Y nd nt;by_cases aQ:16<pd.length
  ·have ay:(16:Int)<(pd.length:Int):=by omega
   go_enter func63,ntmps63
   go_wp2
   go_ret;exact⟨by first|(rw[HC.out];done)|(rw[HC.out];rfl)|(simp[HC.out]),Below.refl _ _⟩
  ·have ay:¬(16:Int)<(pd.length:Int):=by omega
   have i8:(8:Int)<(pt.length:Int):=by omega
   go_enter func63,ntmps63
   go_wp2
   go_ret;exact⟨by first|(rw[HC.out];done)|(rw[HC.out];rfl)|(simp[HC.out]),Below.refl _ _⟩
 have ay:¬(16:Int)<(pd.length:Int):=by omega
 have i8:¬(8:Int)<(pt.length:Int):=by omega
 have aP:pd.length≤16:=by omega
 have aT:pt.length≤8:=by omega
 have ae:¬(16<(pd.map s).length∨8<(pt.map s).length):=by simpa using hm
 have A:=Wrp.mk (z7W (r:=RepQ.e (⟨G p0 pd.length p5,pd,G p1 pb.length p6,pb,G p2 pt.length p7,pt,G p3 pu.length p8,pu,G p4 pn.length p9,pn⟩:RepQ)) ae);have C:=Wrp.mk (z7X (r:=RepQ.e (⟨G p0 pd.length p5,pd,G p1 pb.length p6,pb,G p2 pt.length p7,pt,G p3 pu.length p8,pu,G p4 pn.length p9,pn⟩:RepQ)) ae);dsimp only[RepQ.e]at A C⊢;clear hm ae;generalize repF _=CC at*;have aq:=fun(w':World) (hb:Below w.heap.size w w')=>z3y (G p0 pd.length p5) pd w' (hr w' hb).1 W (by omega)
 have ar:=fun(w':World) (hb:Below w.heap.size w w')=>z3y (G p2 pt.length p7) pt w' (hr w' hb).2.2.1 Y (by omega)
 go_enter func63,ntmps63
 go_wp2_with fail
 clear q0 q2;have f0:=hB.lat 2 _ rfl;have f2:=hB.lat 4 _ rfl;have hW:Below w.heap.size w w.drew:=(Below.refl _ _).drew;have ax:Nonempty (Lat w):=⟨⟨w,Below.refl _ _⟩⟩
 refine z0b (S:=fun w'=>∃u:Lat w,w'=u.val) (by kernel_rfl) ?_;refine sgr [(0,4),(5,4)] 5 (by kernel_rfl) ⟨⟨_,hW⟩,rfl⟩ ?_;simp only[pkE];repeat go_big_quiet_step (fail)
 refine wpQuiet_nil ?_;refine cla 4 (some 23) 70 #[G p0 pd.length p5] 4 (by kernel_rfl) ?_;refine(aq _ hW).mono ?_;rintro e x1 ⟨v1,q1,rfl,e1,o1,n1,g1,d⟩;have ND:Hid (∀k,∀q∈q1,k∈txnK.foot q→k∉blk v1):=fun k q hq hk hb=>(List.nodup_append.1 n1).2.2 k hb k (List.mem_flatMap.2 ⟨q,hq,hk⟩) rfl
 clear n1;obtain⟨a1,k1,rfl⟩:=o1.shape;have aW:=hW.size;replace hW:=hW.trans (d.mono hW.size);clear d;refine⟨_,rfl,⟨⟨_,hW⟩,rfl⟩,?_⟩;simp only[Vd,pjE];refine cla 9 (some 28) 70 #[G p2 pt.length p7] 3 (by kernel_rfl) ?_;refine(ar _ hW).mono ?_;rintro e x2 ⟨v2,q2,rfl,e2,o2,_,g2,d⟩;obtain⟨a2,k2,rfl⟩:=o2.shape;have aX:=hW.size;have i1:=o1.lt;replace o1:=o1.below d;replace hW:=hW.trans (d.mono hW.size);clear d;refine⟨_,rfl,⟨⟨_,hW⟩,rfl⟩,?_⟩;simp only[Vd,pjE];have aY:=hW.size;obtain⟨i0,hi,aB,aC,aD⟩:=info_parts z1A;have l1:q1.length=pd.length:=by simpa using congrArg List.length e1
 have l2:q2.length=pt.length:=by simpa using congrArg List.length e2
 obtain⟨_,_,ee,J,az⟩:=o2.at;simp only[Value.slice.injEq,true_and]at ee;obtain⟨rfl,rfl⟩:=ee;have w1:q1.length+q2.length≤maxLen:=by unfold maxLen;omega
 have w2:(q1.length+q2.length)*48≤140737488355328:=by omega
 clear l1 l2;refine ona 10 2 rfl (by kernel_rfl) ?_;refine z1o (K:=txnK) _ rfl _ _ 51 rfl i0 (.agg #[H Q 0,H Q 0,H Q 0,G none 0 0]) 48 Tryz.underlying51 hi aB aC aD rfl (by decide) 0 _ q1 rfl o1.1 _ q2 _ rfl J (z7T az) (o2.niceV _ _ _ rfl) w1 w2 (by omega) ?_;intro v3 x3 ag au;have M:Out (blk (G a1 q1.length k1)) x2 x3:=Out.of_grown au;have Z:∀x∈blk (G a1 q1.length k1),w.heap.size≤x∧x<x1.heap.size:=fun x hx=>⟨by have:=g1 x (by simp only[Kind.fp,List.mem_append];exact Or.inl hx);omega,i1 x (by simp only[Kind.fp,List.mem_append];exact Or.inl hx)⟩
 have aa:txnK.At x3 v3 (q1 ++ q2):=Kind.at_of_row ag (fun q hq=>by
  rcases List.mem_append.1 hq with hq|hq
  ·exact txnK.own_rd (txnK.own_out (o1.2 q hq) M (fun k hk e=>ND.out k q hq hk e))
  ·exact txnK.own_rd (txnK.own_out (o2.2 q hq) M (fun k hk e=>by
    have:=g2 k (by simp only[Kind.fp,List.mem_append,List.mem_flatMap];exact Or.inr ⟨q,hq,hk⟩);have:=(Z k e).2;omega)))
 replace hW:=Out.keep hW M (by omega) (fun x hx=>(Z x hx).1);have aA:=q4v ag;obtain⟨a3,k3,rfl⟩:=aa.shape
 go_wp2
 refine ThenGo.to ⟨⟨⟨_,hW⟩,rfl⟩,?_⟩;have aw:(q1++q2).length+nmL f (q1++q2)≤1048576:=by
  have e:nmL f (q1++q2)=nmL f q1+nmL f q2:=by simp[nmL]
  have s1:=q4S e1;have s2:=q4S e2;rw[List.length_append,e];omega
 have ad:=fun w h=>z9U (.slice a3 (q1++q2).length k3) (q1++q2) w h aA aw
 rw[List.map_append,e1,e2]at ad;simp only[Vd,pgE,pjE];refine cla 11 (some 30) 108 #[.slice a3 (q1++q2).length k3] 1 (by kernel_rfl) ?_;refine(ad _ aa).mono ?_;rintro e x4 ⟨rfl,d⟩;replace hW:=hW.trans (d.mono hW.size);clear d ad aa ag au M o1 o2 g1 g2 i1 Z J az ND;refine⟨_,rfl,⟨⟨_,hW⟩,rfl⟩,?_⟩;simp only[Vd,pjE];refine sgr [(12,1)] 0 (by kernel_rfl) ⟨⟨_,hW⟩,rfl⟩ ?_;simp only[pkE];repeat go_big_quiet_step (fail)
 refine wpQuiet_nil ?_;refine z0g (by kernel_rfl) ?_;clear f0 f2 ax aq ar W Y nd nt e1 e2 w1 w2;by_cases hL:lstF (pd.map s++pt.map s)=0
 case neg=>
  have HC:Hid (CC=lstF (pd.map s++pt.map s)):=A.out hL;clear A C;generalize lstF (pd.map s++pt.map s)=c at*;have aR:(c !=0)=true:=by simpa using hL
  go_wp2
  go_ret;exact⟨by first|(rw[HC.out];done)|(rw[HC.out];rfl)|(simp[HC.out]),hW⟩
 have E:=q5M hL;have aj:∀q∈pd,(s q).F=0:=fun q hq=>E _ (List.mem_append_left _ (List.mem_map_of_mem hq))
 have al:∀q∈pt,(s q).F=0:=fun q hq=>E _ (List.mem_append_right _ (List.mem_map_of_mem hq))
 have HC:=Wrp.mk (C.out hL);rw[hL];clear A C hL;have L:=hB.below hW;have O:=hr _ hW;have af:=fun(w':World) (hb:Below x4.heap.size x4 w')=>z62 (G p0 pd.length p5) (G p2 pt.length p7) pd pt w' (O.1.below hb) (O.2.2.1.below hb) aj al (by omega) (by omega)
 have ab:=hW;clear hW
 go_wp2_with fail
 generalize hX:x4=X at*;clear hX;try clear aw
 generalize (q1++q2).length=QL;have f0:=L.lat 2 _ rfl;have f2:=L.lat 4 _ rfl;refine z1m [some 34,some 35,some 36,some 37,some 38,some 39,some 40,some 41,some 42,some 4] (fun vs w'=>∃ (m:RepQ) (g:Nat),vs=[.pointer (some ⟨b,y+2,none⟩),.pointer (some ⟨b,y+2,none⟩),.pointer (some ⟨b,y+2,none⟩),G p0 pd.length p5,.pointer (some ⟨b,y+2,none⟩),.pointer (some ⟨b,y+2,none⟩),.pointer (some ⟨b,y+4,none⟩),G p2 pt.length p7,.agg #[m.vd,m.vb,m.vt,m.vu,m.vn],.pointer (some ⟨g,0,none⟩)]∧X.heap.size≤g∧Blk w' g 55 #[m.vd,m.vb,m.vt,m.vu,m.vn]∧m.e=mkR (pd.map s) (pt.map s)∧repK.own w' m∧Below X.heap.size X w') ?_ ?_
 ·have hW:Below X.heap.size X X.drew:=(Below.refl _ _).drew;have ax:Nonempty (Lat X):=⟨⟨X,Below.refl _ _⟩⟩
  refine z0b (S:=fun w'=>∃u:Lat X,w'=u.val) (by kernel_rfl) ?_;refine sgr [(0,8)] 3 (by kernel_rfl) ⟨⟨_,hW⟩,rfl⟩ ?_;simp only[pkE];repeat go_big_quiet_step (fail)
  refine wpQuiet_nil ?_;clear f0 f2;generalize X.drew=wd at hW⊢;refine twa 8 9 2 (by kernel_rfl) ?_ ?_
  focus
   skip;refine opc 8 (some 42) 109 #[G p0 pd.length p5,G p2 pt.length p7] (by kernel_rfl) ?_;refine(af _ hW).mono ?_;rintro e x1 ⟨m,rfl,em,om,nm,gm,hb⟩;clear nm;replace hW:=hW.trans (hb.mono hW.size);clear hb gm;refine⟨_,rfl,⟨⟨_,hW⟩,rfl⟩,?_⟩;simp only[Vd,pgE,pjE];refine ona 9 1 rfl (by kernel_rfl) ?_;have Bz:=Vc x1 55 #[G none 0 0,G none 0 0,G none 0 0,G none 0 0,G none 0 0];have aE:X.heap.size≤x1.heap.size:=hW.size;have D:Below x1.heap.size x1 (x1.alloc (.cells #[G none 0 0,G none 0 0,G none 0 0,G none 0 0,G none 0 0] 55)):=by go_grown
   have ah:∀k∈repK.foot m,k≠x1.heap.size:=fun k hk=>by have:=repK.own_lt om k hk;omega
   replace om:=repK.own_out (F:=[]) om (Vf D) (fun _ _=>by simp);replace hW:=hW.trans (D.mono hW.size);clear D;have ai:=Bz.lt
   go_wp2
   refine ThenGo.to ⟨⟨⟨_,hW⟩,rfl⟩,?_⟩;generalize an:x1.heap.size=g at*;generalize x1.alloc (.cells #[G none 0 0,G none 0 0,G none 0 0,G none 0 0,G none 0 0] 55)=y1 at*;clear an
  rotate_left
  focus
   skip;refine z1O 9 _ rfl ?_;have Bz:=Vc wd 55 #[G none 0 0,G none 0 0,G none 0 0,G none 0 0,G none 0 0];have aE:X.heap.size≤wd.heap.size:=hW.size;have D:Below wd.heap.size wd (wd.alloc (.cells #[G none 0 0,G none 0 0,G none 0 0,G none 0 0,G none 0 0] 55)):=by go_grown
   replace hW:=hW.trans (D.mono hW.size);clear D;have ai:=Bz.lt
   go_wp2
   refine ThenGo.to ⟨⟨⟨_,hW⟩,rfl⟩,?_⟩;generalize ao:wd.heap.size=g at*;generalize wd.alloc (.cells #[G none 0 0,G none 0 0,G none 0 0,G none 0 0,G none 0 0] 55)=y2 at*;clear ao;refine cla 8 (some 42) 109 #[G p0 pd.length p5,G p2 pt.length p7] 1 (by kernel_rfl) ?_;refine(af _ hW).mono ?_;rintro e x2 ⟨m,rfl,em,om,nm,gm,hb⟩;clear nm;have ah:∀k∈repK.foot m,k≠g:=fun k hk=>by have:=gm k hk;have:=Bz.lt;omega
   replace Bz:=Bz.below hb;replace hW:=hW.trans (hb.mono hW.size);clear hb gm;refine⟨_,rfl,⟨⟨_,hW⟩,rfl⟩,?_⟩;simp only[Vd,pgE,pjE]
  rotate_left
  all_goals
   obtain⟨aG,md,aF,mb,aI,mt,aJ,mu,aH,mn⟩:=m;obtain⟨s0,t0,rfl⟩:∃a c,aG=G a md.length c:=om.1.shape;obtain⟨s1,t1,rfl⟩:∃a c,aF=G a mb.length c:=om.2.1.shape;obtain⟨s2,t2,rfl⟩:∃a c,aI=G a mt.length c:=om.2.2.1.shape;obtain⟨s3,t3,rfl⟩:∃a c,aJ=G a mu.length c:=om.2.2.2.1.shape;obtain⟨s4,t4,rfl⟩:∃a c,aH=G a mn.length c:=om.2.2.2.2.shape;refine ona 10 0 rfl (by kernel_rfl) ?_;have av:X.heap.size≤g:=by omega
   have Rz:=Bz.row #[G s0 md.length t0,G s1 mb.length t1,G s2 mt.length t2,G s3 mu.length t3,G s4 mn.length t4];have oz:=repK.own_out om (z0v _ g #[G s0 md.length t0,G s1 mb.length t1,G s2 mt.length t2,G s3 mu.length t3,G s4 mn.length t4]) (fun k hk=>by simp only[Vb];exact ah k hk);replace hW:=z0m hW av #[G s0 md.length t0,G s1 mb.length t1,G s2 mt.length t2,G s3 mu.length t3,G s4 mn.length t4];refine z0s (by kernel_rfl) 55 _ _ rfl _ #[G s0 md.length t0,G s1 mb.length t1,G s2 mt.length t2,G s3 mu.length t3,G s4 mn.length t4] rfl rfl 55 _ Bz q3r rfl (by simp[Value.oneCell']) ?_;refine ThenGo.to ⟨⟨⟨_,hW⟩,rfl⟩,?_⟩;refine z0g (by kernel_rfl) ?_;refine⟨rfl,_,⟨_,g,rfl,av,Rz,em,oz,hW⟩,?_⟩;simp only[z1P,Vd,pgE,pjE];try rfl
 rintro vs w5 ⟨m,g,rfl,aS,Bg,em,om,N⟩;simp only[z1P,Vd,pjE];clear f0 f2 af;have ak:∀t∈pd.map s,t.F=0:=fun t ht=>by obtain⟨q,hq,rfl⟩:=List.mem_map.1 ht;exact aj q hq
 have am:∀t∈pt.map s,t.F=0:=fun t ht=>by obtain⟨q,hq,rfl⟩:=List.mem_map.1 ht;exact al q hq
 have T:=q4A U V y g b m (⟨G p0 pd.length p5,pd,G p1 pb.length p6,pb,G p2 pt.length p7,pt,G p3 pu.length p8,pu,G p4 pn.length p9,pn⟩:RepQ) w5 Bg (L.below N) (repK.own_rd om) (repK.rd_below O N) (by have:=z7Z em ak am (by rw[Va];omega) (by rw[Va];omega);omega) (by dsimp only[RepQ.n];omega);rw[em]at T;dsimp only[RepQ.e]at T;have I:=ab.trans (N.mono ab.size);clear om Bg L O em N ab
 go_wp2_with fail
 refine T.mono ?_;rintro e w6 ⟨rfl,ap⟩;replace I:=I.trans (ap.mono I.size);clear ap T
 cases hS:sameRep (mkR (pd.map s) (pt.map s)) ⟨pd.map s,pb,pt.map s,pu.map USQ.e,pn⟩with
 |false=>
  have h9:CC=(if sameRep (mkR (pd.map s) (pt.map s)) ⟨pd.map s,pb,pt.map s,pu.map USQ.e,pn⟩=true then 0 else 8):=HC.out;have z:Hid (CC=8):=show CC=8 by simpa[hS]using h9
  clear h9;clear HC
  go_wp2
  go_ret;exact⟨by first|(rw[z.out];done)|(rw[z.out];rfl)|(simp[z.out]),I⟩
 |true=>
  have h9:CC=(if sameRep (mkR (pd.map s) (pt.map s)) ⟨pd.map s,pb,pt.map s,pu.map USQ.e,pn⟩=true then 0 else 8):=HC.out;have z:Hid (CC=0):=show CC=0 by simpa[hS]using h9
  clear h9;clear HC
  go_wp2
  go_ret;exact⟨by first|(rw[z.out];done)|(rw[z.out];rfl)|(simp[z.out]),I⟩
theorem q1U(X:Nat)(v:Value)(ps:List InstQ)(b:Nat)(kn sf:Int)(p:RepQ)(w:World)(hB:Off w b X #[H Q kn,H Q sf,p.vd,p.vb,p.vt,p.vu,p.vn])(h:instK.At w v ps)(hl:(ps.length+nmL InstQ.n ps)≤1048576)(hp:repK.own w p)(ae:p.n≤1048576):
  Calls P 33 #[v,.pointer (some ⟨b,X,none⟩)] w fun e w'=>e=.returned (H Q (nodF (ps.map l) kn sf p.e))∧Below w.heap.size w w':=by
 have ag:=fun w h=>z5O v ps w h hl
 have O:=fun w h h0=>q5S v ps w h hl h0
 have N:=fun w h h0 hn=>q5T v ps kn w h hl h0 hn
 have U:=fun w hB h=>q3G kn sf X b p w hB h ae
 have af:p.done.length+nmL f p.done≤1048576:=by
  have:p.done.length+nmL f p.done≤p.n:=by simp only[RepQ.n];omega
  omega
 have I:=fun v' (ys:List TxnQ) w h h' hy=>q3y p.vd v' p.done ys w h h' af hy
 have V:Hid (ordF (ps.map l)=0→∀ys:List TxnQ,ys.map s=defL (ps.map l) kn.toNat→ys.length+nmL f ys≤1048576):=fun h0 ys hy=>by
  have h1:=q5P h0 kn.toNat;have h2:=q3s (qs:=ys) (by rw[hy];exact q6y (z1K h0) _);have h3:ys.length=(defL (ps.map l) kn.toNat).length:=by rw[←hy,Va]
  omega
 have T:=fun(w':World) (hb:Below w.heap.size w w')=>repK.own_out (F:=[]) (w':=w') hp (Vf hb) (fun _ _=>by simp)
 have y:=z70 (ps.map l) kn sf p.e;have ah:p.e.done=p.done.map s:=rfl;rw[ah]at y;generalize nodF (ps.map l) kn sf p.e=D at*;generalize defL (ps.map l) kn.toNat=DL at*;generalize ordF (ps.map l)=C at*;generalize (decN (ps.map l):Int)=M at*;generalize repF p.e=RF at*;clear ah;obtain⟨vd,done,vb,base,vt,aj,vu,Y,vn,an⟩:=p;obtain⟨a0,k0,rfl⟩:∃a c,vd=G a done.length c:=hp.1.shape;obtain⟨a1,k1,rfl⟩:∃a c,vb=G a base.length c:=hp.2.1.shape;obtain⟨a2,k2,rfl⟩:∃a c,vt=G a aj.length c:=hp.2.2.1.shape;obtain⟨a3,k3,rfl⟩:∃a c,vu=G a Y.length c:=hp.2.2.2.1.shape;obtain⟨a4,k4,rfl⟩:∃a c,vn=G a an.length c:=hp.2.2.2.2.shape;obtain⟨va,vc,rfl⟩:=h.shape;dsimp only at U I T y hB;clear ae af;have A0:=hB;have b1:Below w.heap.size w w:=Below.refl _ _;go_enter func33,ntmps33
 go_wp2_with fail
 refine(ag w h).mono ?_;rintro e w1 ⟨rfl,hb⟩;replace A0:=A0.below hb;replace b1:=b1.trans (hb.mono b1.size);clear hb ag;by_cases hC:C=0
 case neg=>
  have am:(C !=0)=true:=by simpa using hC
  have HD:Hid (D=C):=by
   rcases y with⟨_,e⟩|⟨h0,_⟩|⟨h0,_⟩|⟨h0,_⟩|⟨h0,_⟩|⟨h0,_⟩
   ·exact e
   all_goals exact absurd h0 hC
  clear y O N U I T hC V
  go_wp2
  go_ret;exact⟨by first|(rw[HD.out];done)|(rw[HD.out];rfl),b1⟩
 subst hC;have ad:=V.out rfl;have ai:=fun v' (ys:List TxnQ) w h h' hy=>I v' ys w h h' (ad ys hy)
 have al:Hid _:=ai;have L:=fun w h=>O w h rfl
 have ak:Hid _:=N;have Z:Hid _:=T;have aa:Hid _:=U;have J:Hid _:=y;clear V ad I ai O N T U y;have am:((0:Int) !=0)=false:=by decide
 have z:=fun w=>z1q kn 0 M w
 have A:=fun w=>z1q sf 0 kn w
 have c0:=A0.lat0 _ rfl;have c1:=A0.lat 1 _ rfl;have c2:=A0.lat 2 _ rfl;have c3:=A0.lat 3 _ rfl;have c4:=A0.lat 4 _ rfl;have c5:=A0.lat 5 _ rfl;have c6:=A0.lat 6 _ rfl;by_cases hk:0≤kn∧kn≤M
 case neg=>
  have HD:Hid (D=3):=by
   rcases J.out with⟨h0,_⟩|⟨_,_,e⟩|⟨_,h0,_⟩|⟨_,h0,_⟩|⟨_,h0,_⟩|⟨_,h0,_⟩
   ·exact absurd rfl h0
   ·exact e
   all_goals exact absurd h0 hk
  have hz:inB kn 0 M=false:=decide_eq_false hk;rw[hz]at z;clear hk hz
  go_wp2_with fail
  have hW:Below w1.heap.size w1 w1.drew:=(Below.refl _ _).drew;have E:Nonempty (Lat w1):=⟨⟨w1,Below.refl _ _⟩⟩
  refine z0b (S:=fun w'=>∃u:Lat w1,w'=u.val) (by kernel_rfl) ?_;refine sgr [(0,5)] 15 (by kernel_rfl) ⟨⟨_,hW⟩,rfl⟩ ?_;simp only[pkE];repeat go_big_quiet_step (fail)
  refine wpQuiet_nil ?_;refine cla 5 (some 17) 62 #[G va ps.length vc] 14 (by kernel_rfl) ?_;refine(L _ (h.below (b1.trans (hW.mono b1.size)))).mono ?_;rintro e w9 ⟨rfl,x⟩;replace hW:=hW.trans (x.mono hW.size);clear x;refine⟨_,rfl,⟨⟨_,hW⟩,rfl⟩,?_⟩;simp only[Vd,pjE];refine cla 6 (some 18) 34 #[H Q kn,H Q 0,H Q M] 13 (by kernel_rfl) ?_;refine(z _).mono ?_;rintro e w9 ⟨rfl,d⟩;replace d:=d.symm;subst d;refine⟨_,rfl,⟨⟨_,hW⟩,rfl⟩,?_⟩;simp only[Vd,pjE];refine sgr [(7,10)] 3 (by kernel_rfl) ⟨⟨_,hW⟩,rfl⟩ ?_;simp only[pkE];repeat go_big_quiet_step (fail)
  refine wpQuiet_nil ?_;refine ska 17 (some 29) 2 (by kernel_rfl) ⟨⟨_,hW⟩,rfl⟩ ?_;simp only[Vd,pjE];refine sgr [(18,2)] 0 (by kernel_rfl) ⟨⟨_,hW⟩,rfl⟩ ?_;simp only[pkE];repeat go_big_quiet_step (fail)
  refine wpQuiet_nil ?_;refine z0g (by kernel_rfl) ?_;replace A0:=A0.below hW;replace b1:=b1.trans (hW.mono b1.size);clear c0 c1 c2 c3 c4 c5 c6;clear E L z A
  go_wp2
  go_ret;exact⟨by first|(rw[HD.out];done)|(rw[HD.out];rfl),b1⟩
 have hz:inB kn 0 M=true:=decide_eq_true hk;rw[hz]at z;have HK:Hid (0≤kn∧kn≤M):=hk;clear hz;by_cases hs:0≤sf∧sf≤kn
 case neg=>
  have HD:Hid (D=3):=by
   rcases J.out with⟨h0,_⟩|⟨_,h0,_⟩|⟨_,_,_,e⟩|⟨_,_,h0,_⟩|⟨_,_,h0,_⟩|⟨_,_,h0,_⟩
   ·exact absurd rfl h0
   ·exact absurd hk h0
   ·exact e
   all_goals exact absurd h0 hs
  have hz:inB sf 0 kn=false:=decide_eq_false hs;rw[hz]at A;clear hk hz hs
  go_wp2_with fail
  have hW:Below w1.heap.size w1 w1.drew:=(Below.refl _ _).drew;have E:Nonempty (Lat w1):=⟨⟨w1,Below.refl _ _⟩⟩
  refine z0b (S:=fun w'=>∃u:Lat w1,w'=u.val) (by kernel_rfl) ?_;refine sgr [(0,5)] 15 (by kernel_rfl) ⟨⟨_,hW⟩,rfl⟩ ?_;simp only[pkE];repeat go_big_quiet_step (fail)
  refine wpQuiet_nil ?_;refine cla 5 (some 17) 62 #[G va ps.length vc] 14 (by kernel_rfl) ?_;refine(L _ (h.below (b1.trans (hW.mono b1.size)))).mono ?_;rintro e w9 ⟨rfl,x⟩;replace hW:=hW.trans (x.mono hW.size);clear x;refine⟨_,rfl,⟨⟨_,hW⟩,rfl⟩,?_⟩;simp only[Vd,pjE];refine cla 6 (some 18) 34 #[H Q kn,H Q 0,H Q M] 13 (by kernel_rfl) ?_;refine(z _).mono ?_;rintro e w9 ⟨rfl,d⟩;replace d:=d.symm;subst d;refine⟨_,rfl,⟨⟨_,hW⟩,rfl⟩,?_⟩;simp only[Vd,pjE];refine sgr [(7,10)] 3 (by kernel_rfl) ⟨⟨_,hW⟩,rfl⟩ ?_;simp only[pkE];repeat go_big_quiet_step (fail)
  refine wpQuiet_nil ?_;refine cla 17 (some 29) 34 #[H Q sf,H Q 0,H Q kn] 2 (by kernel_rfl) ?_;refine(A _).mono ?_;rintro e w9 ⟨rfl,d⟩;replace d:=d.symm;subst d;refine⟨_,rfl,⟨⟨_,hW⟩,rfl⟩,?_⟩;simp only[Vd,pjE];refine sgr [(18,2)] 0 (by kernel_rfl) ⟨⟨_,hW⟩,rfl⟩ ?_;simp only[pkE];repeat go_big_quiet_step (fail)
  refine wpQuiet_nil ?_;refine z0g (by kernel_rfl) ?_;replace A0:=A0.below hW;replace b1:=b1.trans (hW.mono b1.size);clear c0 c1 c2 c3 c4 c5 c6;clear E L z A
  go_wp2
  go_ret;exact⟨by first|(rw[HD.out];done)|(rw[HD.out];rfl),b1⟩
 have hz:inB sf 0 kn=true:=decide_eq_true hs;rw[hz]at A;have HS:Hid (0≤sf∧sf≤kn):=hs;clear hk hs hz
 go_wp2_with fail
 have hW:Below w1.heap.size w1 w1.drew:=(Below.refl _ _).drew;have E:Nonempty (Lat w1):=⟨⟨w1,Below.refl _ _⟩⟩
 refine z0b (S:=fun w'=>∃u:Lat w1,w'=u.val) (by kernel_rfl) ?_;refine sgr [(0,5)] 15 (by kernel_rfl) ⟨⟨_,hW⟩,rfl⟩ ?_;simp only[pkE];repeat go_big_quiet_step (fail)
 refine wpQuiet_nil ?_;refine cla 5 (some 17) 62 #[G va ps.length vc] 14 (by kernel_rfl) ?_;refine(L _ (h.below (b1.trans (hW.mono b1.size)))).mono ?_;rintro e w9 ⟨rfl,x⟩;replace hW:=hW.trans (x.mono hW.size);clear x;refine⟨_,rfl,⟨⟨_,hW⟩,rfl⟩,?_⟩;simp only[Vd,pjE];refine cla 6 (some 18) 34 #[H Q kn,H Q 0,H Q M] 13 (by kernel_rfl) ?_;refine(z _).mono ?_;rintro e w9 ⟨rfl,d⟩;replace d:=d.symm;subst d;refine⟨_,rfl,⟨⟨_,hW⟩,rfl⟩,?_⟩;simp only[Vd,pjE];refine sgr [(7,10)] 3 (by kernel_rfl) ⟨⟨_,hW⟩,rfl⟩ ?_;simp only[pkE];repeat go_big_quiet_step (fail)
 refine wpQuiet_nil ?_;refine cla 17 (some 29) 34 #[H Q sf,H Q 0,H Q kn] 2 (by kernel_rfl) ?_;refine(A _).mono ?_;rintro e w9 ⟨rfl,d⟩;replace d:=d.symm;subst d;refine⟨_,rfl,⟨⟨_,hW⟩,rfl⟩,?_⟩;simp only[Vd,pjE];refine sgr [(18,2)] 0 (by kernel_rfl) ⟨⟨_,hW⟩,rfl⟩ ?_;simp only[pkE];repeat go_big_quiet_step (fail)
 refine wpQuiet_nil ?_;refine z0g (by kernel_rfl) ?_;replace A0:=A0.below hW;replace b1:=b1.trans (hW.mono b1.size);clear c0 c1 c2 c3 c4 c5 c6;clear E L z A
 go_wp2_with fail
 refine(aa.out _ A0 (Z.out _ b1)).mono ?_;rintro e w3 ⟨rfl,W⟩;replace A0:=A0.below W;replace b1:=b1.trans (W.mono b1.size);clear W aa;by_cases hR:RF=0
 case neg=>
  have ab:(RF !=0)=true:=by simpa using hR
  have HD:Hid (D=RF):=by
   rcases J.out with⟨h0,_⟩|⟨_,h0,_⟩|⟨_,_,h0,_⟩|⟨_,_,_,_,e⟩|⟨_,_,_,h0,_⟩|⟨_,_,_,h0,_⟩
   ·exact absurd rfl h0
   ·exact absurd HK.out h0
   ·exact absurd HS.out h0
   ·exact e
   all_goals exact absurd h0 hR
  clear J hR
  go_wp2
  go_ret;exact⟨by first|(rw[HD.out];done)|(rw[HD.out];rfl),b1⟩
 subst hR;have ab:((0:Int) !=0)=false:=by decide
 have HW:Hid ((sameTs (done.map s) DL=false∧D=8)∨(sameTs (done.map s) DL=true∧D=0)):=by
  rcases J.out with⟨h0,_⟩|⟨_,h0,_⟩|⟨_,_,h0,_⟩|⟨_,_,_,h0,_⟩|⟨_,_,_,_,e1,e2⟩|⟨_,_,_,_,e1,e2⟩
  ·exact absurd rfl h0
  ·exact absurd HK.out h0
  ·exact absurd HS.out h0
  ·exact absurd rfl h0
  ·exact Or.inl ⟨e1,e2⟩
  ·exact Or.inr ⟨e1,e2⟩
 clear J
 go_wp2_with fail
 clear ab;have HH:Hid (instK.At w (G va ps.length vc) ps):=h;have c0:=A0.lat0 _ rfl;have c1:=A0.lat 1 _ rfl;have c2:=A0.lat 2 _ rfl;have c3:=A0.lat 3 _ rfl;have c4:=A0.lat 4 _ rfl;have c5:=A0.lat 5 _ rfl;have c6:=A0.lat 6 _ rfl;have hW:Below w3.heap.size w3 w3.drew:=(Below.refl _ _).drew;have E:Nonempty (Lat w3):=⟨⟨w3,Below.refl _ _⟩⟩
 refine z0b (S:=fun w'=>∃u:Lat w3,w'=u.val) (by kernel_rfl) ?_;refine sgr [(0,10)] 3 (by kernel_rfl) ⟨⟨_,hW⟩,rfl⟩ ?_;simp only[pkE];repeat go_big_quiet_step (fail)
 refine wpQuiet_nil ?_;refine cla 10 (some 49) 65 #[G va ps.length vc,H Q kn] 2 (by kernel_rfl) ?_;refine(ak.out _ (HH.out.below (b1.trans (hW.mono b1.size))) trivial HK.out).mono ?_;rintro e w9 ⟨vq,qs,rfl,eq,oq,_,_,x⟩;replace hW:=hW.trans (x.mono hW.size);obtain⟨xa,xc,rfl⟩:=oq.shape;clear x;refine⟨_,rfl,⟨⟨_,hW⟩,rfl⟩,?_⟩;simp only[Vd,pjE];refine cla 11 (some 50) 64 #[G a0 done.length k0,G xa qs.length xc] 1 (by kernel_rfl) ?_;refine(al.out _ qs _ ((repK.own_rd (Z.out _ (b1.trans (hW.mono b1.size)))).1) oq.at eq).mono ?_;rintro e w9 ⟨rfl,x⟩;replace hW:=hW.trans (x.mono hW.size);clear x;refine⟨_,rfl,⟨⟨_,hW⟩,rfl⟩,?_⟩;simp only[Vd,pjE];refine sgr [(12,1)] 0 (by kernel_rfl) ⟨⟨_,hW⟩,rfl⟩ ?_;simp only[pkE];repeat go_big_quiet_step (fail)
 refine wpQuiet_nil ?_;refine z0g (by kernel_rfl) ?_;have b2:=b1.trans (hW.mono b1.size);clear c0 c1 c2 c3 c4 c5 c6;clear oq hW E;rcases HW.out with⟨e1,e2⟩|⟨e1,e2⟩
 ·rw[eq,e1];clear HW
  go_wp2
  go_ret;exact⟨by first|(rw[e2];done)|(rw[e2];rfl),b2⟩
 ·rw[eq,e1];clear HW
  go_wp2
  go_ret;exact⟨by first|(rw[e2];done)|(rw[e2];rfl),b2⟩
theorem z9g(b:Nat)(p:CluQ)(w:World)(hB:Blk w b 30 #[p.vo,p.vm])(h:cluK.own w p)(hl:p.n≤1048576):
  Calls P 15 #[.pointer (some ⟨b,0,none⟩)] w fun e w'=>e=.returned (H Q (cluF p.e))∧Below w.heap.size w w':=by
 obtain⟨vo,y,vm,d⟩:=p;obtain⟨a0,k0,rfl⟩:∃a c,vo=G a y.length c:=h.1.shape;obtain⟨a1,k1,rfl⟩:∃a c,vm=G a d.length c:=h.2.shape;have Y:y.length+nmL InstQ.n y≤1048576:=by dsimp only[CluQ.n]at hl;omega
 have am:d.length+nmL NodeQ.n d≤1048576:=by dsimp only[CluQ.n]at hl;omega
 clear hl;obtain⟨ho,hm⟩:instK.Own w (G a0 y.length k0) y∧nodeK.Own w (G a1 d.length k1) d:=h;generalize hE:cluF _=E;have HE:Hid (E=if ordF (y.map l)=0 then(if(d.map NodeQ.e).length=3 then z2u (y.map l) (d.map NodeQ.e)else 2)else ordF (y.map l)):=hE.symm;clear hE;have ad:=fun w h=>z5O (G a0 y.length k0) y w h Y
 have aa:=fun g A kn sf (q:RepQ) w hB h hp aj=>q1U A (G a0 y.length k0) y g kn sf q w hB h Y hp aj
 have A0:Blk w b 30 #[G a0 y.length k0,G a1 d.length k1]:=hB;have b0:Below w.heap.size w w:=Below.refl _ _;clear hB;have ah:Hid _:=aa;clear aa;generalize ordF (y.map l)=C at*;have c0:=A0.cell 0 _ rfl;go_enter func15,ntmps15
 go_wp2_with fail
 clear c0;refine(ad w (ho.at.below b0)).mono ?_;rintro e w1 ⟨rfl,hb⟩;replace A0:=A0.below hb;replace b0:=b0.trans (hb.mono b0.size);clear hb ad;by_cases hC:C=0
 case neg=>
  have U:(C !=0)=true:=by simpa using hC
  have HD:Hid (E=C):=by rw[HE.out,if_neg hC];trivial
  clear HE hC
  go_wp2
  go_ret;exact⟨by first|(rw[HD.out];done)|(rw[HD.out];rfl),b0⟩
 subst hC;by_cases h3:d.length=3
 case neg=>
  have T:((d.length:Int) !=3)=true:=by
   have:¬(d.length:Int)=3:=by omega
   simpa using this
  have HD:Hid (E=2):=by rw[HE.out,if_pos rfl,if_neg (by rw[Va];exact h3)];trivial
  have c1:=A0.cell 1 _ rfl;clear HE
  go_wp2
  go_ret;exact⟨by first|(rw[HD.out];done)|(rw[HD.out];rfl),b0⟩
 have HG:Hid (E=z2u (y.map l) (d.map NodeQ.e)):=by rw[HE.out,if_pos rfl,if_pos (by rw[Va];exact h3)];trivial
 have T:((d.length:Int) !=3)=false:=by
  have:(d.length:Int)=3:=by omega
  rw[this];rfl
 clear HE;have c1:=A0.cell 1 _ rfl
 go_wp2_with fail
 clear T c1;go_loopw[4] (fun i wr=>∃k:Nat,k≤d.length∧i=H Q k∧Hid (E=z2u (y.map l) ((d.map NodeQ.e).drop k))∧Blk wr b 30 #[G a0 y.length k0,G a1 d.length k1]∧Below w.heap.size w wr) (fun i _=>d.length-(intOf i).toNat)
 case atStart=>exact⟨0,Nat.zero_le _,rfl,HG,A0,b0⟩
 case round=>
  clear HG A0 b0;obtain⟨k,hk,rfl,HG,A0,b0⟩:=hrel;obtain⟨c0,c1⟩:=A0.cel2;by_cases z:k<d.length
  ·have J:(d.map NodeQ.e)[k]'(by simpa using z)=NodeQ.e d[k]:=by simp
   have D:Hid (nodF (y.map l) d[k].kn d[k].sf d[k].r.e≠0→E=nodF (y.map l) d[k].kn d[k].sf d[k].r.e):=fun hx=>by
    rw[HG.out,q0O _ _ k (by simpa using z) (by rw[J];exact hx),J];exact(rfl:_=_)
   have I:Hid (nodF (y.map l) d[k].kn d[k].sf d[k].r.e=0→E=z2u (y.map l) ((d.map NodeQ.e).drop (k+1))):=fun hx=>by
    rw[HG.out,z9f _ _ k (by simpa using z) (by rw[J];exact hx)]
   have Z:NodeQ.n d[k]≤1048576:=by have:=z01 NodeQ.n d k z;omega
   have ae:repK.own w d[k].r:=hm.2 _ (Ve z);have af:=fun(w':World) (hb:Below w.heap.size w w')=>repK.own_out (F:=[]) (w':=w') ae (Vf hb) (fun _ _=>by simp)
   obtain⟨g,A,rfl,ai,hc,al⟩:=(hm.at.below b0).cell (by decide) k z;have W:∀j x,(nodeK.cells d[k])[j]?=some x→wr.cell? ⟨g,A+k*7+j,none⟩=some x:=hc;clear J HG hc al ae;have O0:Off wr g (A+k*7) #[H Q d[k].kn,H Q d[k].sf,d[k].r.vd,d[k].r.vb,d[k].r.vt,d[k].r.vu,d[k].r.vn]:=⟨ai,fun j x hx=>W j x (by simpa[nodeK,NodeQ.r]using hx)⟩
   have L:=ah.out g (A+k*7) d[k].kn d[k].sf d[k].r;have ab:=fun w hB h hp=>L w hB h hp Z
   clear L;have N:Hid _:=ab;have O:Hid _:=af;clear ab af W Z;generalize nodF (y.map l) d[k].kn d[k].sf d[k].r.e=C at*;generalize d[k]=p at*;have X:(k:Int)<(d.length:Int):=by omega
   go_wp2_with fail
   obtain⟨f0,f1⟩:=A0.lts2;have hW:Below wr.heap.size wr wr.drew:=(Below.refl _ _).drew;have ak:Nonempty (Lat wr):=⟨⟨wr,Below.refl _ _⟩⟩
   refine z0b (S:=fun w'=>∃u:Lat wr,w'=u.val) (by kernel_rfl) ?_;refine sgr [(0,10)] 2 (by kernel_rfl) ⟨⟨_,hW⟩,rfl⟩ ?_;simp only[pkE];repeat go_big_quiet_step (fail)
   refine wpQuiet_nil ?_;refine cla 10 (some 39) 33 #[G a0 y.length k0,.pointer (some ⟨g,A+k*7,none⟩)] 1 (by kernel_rfl) ?_;refine(N.out _ (O0.below hW) (ho.at.below (b0.trans (hW.mono b0.size))) (O.out _ (b0.trans (hW.mono b0.size)))).mono ?_;rintro e w9 ⟨rfl,V⟩;replace hW:=hW.trans (V.mono hW.size);clear V;refine⟨_,rfl,⟨⟨_,hW⟩,rfl⟩,?_⟩;simp only[Vd,pjE];refine sgr [(11,1)] 0 (by kernel_rfl) ⟨⟨_,hW⟩,rfl⟩ ?_;simp only[pkE];repeat go_big_quiet_step (fail)
   refine wpQuiet_nil ?_;refine z0g (by kernel_rfl) ?_;replace A0:=A0.below hW;replace b0:=b0.trans (hW.mono b0.size);clear c0 c1 f0 f1 ak hW O0 N O;by_cases hC:C=0
   ·subst hC;have U:((0:Int) !=0)=false:=by decide
    have M:=I.out rfl;clear I D;have ag:Hid _:=M;clear M
    go_wp2
    go_roundw
    case rel=>exact⟨k+1,by omega,by go_num,ag,A0,b0⟩
    case measure=>simp[intOf];omega
   ·have U:(C !=0)=true:=by simpa using hC
    have HD:Hid (E=C):=D.out hC;clear I D hC
    go_wp2
    go_ret;exact⟨by first|(rw[HD.out];done)|(rw[HD.out];rfl),b0⟩
  ·have HD:Hid (E=0):=by rw[HG.out,q0P _ _ k (by simpa using z)];trivial
   have X:¬(k:Int)<(d.length:Int):=by omega
   clear HG
   go_wp2
   go_ret;exact⟨by first|(rw[HD.out];done)|(rw[HD.out];rfl),b0⟩
theorem z3o(p:CluQ)(w:World)(hG:Rul w)(hT:ErrT w)(h:cluK.own w p)(hl:p.n≤1048576):
  Calls P 41 #[.agg #[p.vo,p.vm]] w fun e w'=>e=.returned (H Q (cluF p.e))∧Below w.heap.size w w':=by
 obtain⟨vo,y,vm,d⟩:=p;obtain⟨a0,k0,rfl⟩:∃a c,vo=G a y.length c:=h.1.shape;obtain⟨a1,k1,rfl⟩:∃a c,vm=G a d.length c:=h.2.shape;have af:y.length+nmL InstQ.n y≤1048576:=by dsimp only[CluQ.n]at hl;omega
 have ar:d.length+nmL NodeQ.n d≤1048576:=by dsimp only[CluQ.n]at hl;omega
 clear hl;obtain⟨ho,hm⟩:instK.Own w (G a0 y.length k0) y∧nodeK.Own w (G a1 d.length k1) d:=h;generalize hE:cluF _=E;have HE:Hid (E=if ordF (y.map l)=0 then(if(d.map NodeQ.e).length=3 then z2u (y.map l) (d.map NodeQ.e)else 2)else ordF (y.map l)):=hE.symm;clear hE;have aj:=fun w hG h=>z11 (G a0 y.length k0) y w hG h af
 have ad:=z7N ho.1;have ah:=fun kn sf (q:RepQ) w hG hE h hp nd nt an=>z4J (G a0 y.length k0) y kn sf q w hG hE h ad af hp nd nt an
 clear ad;have A0:=Vc w 30 #[G a0 y.length k0,G a1 d.length k1];have b0:Below w.heap.size w (w.alloc (.cells #[G a0 y.length k0,G a1 d.length k1] 30)):=by go_grown
 have am:Hid _:=ah;clear ah;generalize ordF (y.map l)=C at*;have c0:=A0.cell 0 _ rfl;go_enter func41,ntmps41
 go_wp2_with fail
 clear c0;generalize w.alloc (.cells #[G a0 y.length k0,G a1 d.length k1] 30)=W at*;refine(aj W (hG.below b0) (ho.at.below b0)).mono ?_;rintro e w1 ⟨rfl,hb⟩;replace A0:=A0.below hb;replace b0:=b0.trans (hb.mono b0.size);clear hb aj;by_cases hC:C=0
 case neg=>
  have ab:(C !=0)=true:=by simpa using hC
  have HD:Hid (E=C):=by rw[HE.out,if_neg hC];trivial
  clear HE hC
  go_wp2
  go_ret;exact⟨by first|(rw[HD.out];done)|(rw[HD.out];rfl),b0⟩
 subst hC;by_cases h3:d.length=3
 case neg=>
  have aa:((d.length:Int) !=3)=true:=by
   have:¬(d.length:Int)=3:=by omega
   simpa using this
  have HD:Hid (E=2):=by rw[HE.out,if_pos rfl,if_neg (by rw[Va];exact h3)];trivial
  have c1:=A0.cell 1 _ rfl;clear HE
  go_wp2
  go_ret;exact⟨by first|(rw[HD.out];done)|(rw[HD.out];rfl),b0⟩
 have HG:Hid (E=z2u (y.map l) (d.map NodeQ.e)):=by rw[HE.out,if_pos rfl,if_pos (by rw[Va];exact h3)];trivial
 have aa:((d.length:Int) !=3)=false:=by
  have:(d.length:Int)=3:=by omega
  rw[this];rfl
 clear HE;have c1:=A0.cell 1 _ rfl
 go_wp2_with fail
 clear aa c1;go_loopw[20] (fun i wr=>∃k:Nat,k≤d.length∧i=H Q k∧Hid (E=z2u (y.map l) ((d.map NodeQ.e).drop k))∧Blk wr w.heap.size 30 #[G a0 y.length k0,G a1 d.length k1]∧Below w.heap.size w wr) (fun i _=>d.length-(intOf i).toNat)
 case atStart=>exact⟨0,Nat.zero_le _,rfl,HG,A0,b0⟩
 case round=>
  clear HG A0 b0;obtain⟨k,hk,rfl,HG,A0,b0⟩:=hrel;obtain⟨c0,c1⟩:=A0.cel2;by_cases D:k<d.length
  ·have M:(d.map NodeQ.e)[k]'(by simpa using D)=NodeQ.e d[k]:=by simp
   have J:Hid (nodF (y.map l) d[k].kn d[k].sf d[k].r.e≠0→E=nodF (y.map l) d[k].kn d[k].sf d[k].r.e):=fun hx=>by
    rw[HG.out,q0O _ _ k (by simpa using D) (by rw[M];exact hx),M];exact(rfl:_=_)
   have L:Hid (nodF (y.map l) d[k].kn d[k].sf d[k].r.e=0→E=z2u (y.map l) ((d.map NodeQ.e).drop (k+1))):=fun hx=>by
    rw[HG.out,z9f _ _ k (by simpa using D) (by rw[M];exact hx)]
   have ag:NodeQ.n d[k]≤1048576:=by have:=z01 NodeQ.n d k D;omega
   have ak:repK.own w d[k].r:=hm.2 _ (Ve D);have V:=fun(w':World) (hb:Below w.heap.size w w')=>repK.own_out (F:=[]) (w':=w') ak (Vf hb) (fun _ _=>by simp)
   obtain⟨g,ap,rfl,aq,hc,ao⟩:=(hm.at.below b0).cell (by decide) k D;have A:∀j x,(nodeK.cells d[k])[j]?=some x→wr.cell? ⟨g,ap+k*7+j,none⟩=some x:=hc;clear M HG hc ao ak;have O:=am.out d[k].kn d[k].sf d[k].r;have ai:=fun w hG hE h hp nd nt=>O w hG hE h hp nd nt ag
   clear O;have Y:Hid _:=ai;have q0:=A 0 (H Q d[k].kn) rfl;have q1:=A 1 (H Q d[k].sf) rfl;have q2:=A 2 d[k].vd rfl;have q3:=A 3 d[k].vb rfl;have q4:=A 4 d[k].vt rfl;have q5:=A 5 d[k].vu rfl;have q6:=A 6 d[k].vn rfl;rw[Nat.add_zero]at q0;clear ai A ag;generalize nodF (y.map l) d[k].kn d[k].sf d[k].r.e=C at*;generalize d[k]=p at*;obtain⟨kn,sf,vd,done,vb,base,vt,I,vu,z,vn,N⟩:=p;have oq:=V _ b0;obtain⟨x0,y0,rfl⟩:∃a c,vd=G a done.length c:=oq.1.shape;obtain⟨x1,y1,rfl⟩:∃a c,vb=G a base.length c:=oq.2.1.shape;obtain⟨x2,y2,rfl⟩:∃a c,vt=G a I.length c:=oq.2.2.1.shape;obtain⟨x3,y3,rfl⟩:∃a c,vu=G a z.length c:=oq.2.2.2.1.shape;obtain⟨x4,y4,rfl⟩:∃a c,vn=G a N.length c:=oq.2.2.2.2.shape;clear oq;dsimp only at q0 q1 q2 q3 q4 q5 q6;have Z:Hid _:=V;clear V;have T:Below wr.heap.size wr (wr.alloc (.cells #[H Q kn,H Q sf,G x0 done.length y0,G x1 base.length y1,G x2 I.length y2,G x3 z.length y3,G x4 N.length y4] 57)):=by go_grown
   have X0:=Vc wr 57 #[H Q kn,H Q sf,G x0 done.length y0,G x1 base.length y1,G x2 I.length y2,G x3 z.length y3,G x4 N.length y4];replace A0:=A0.below T;have d0:=A0.cell 0 _ rfl;obtain⟨e0,e1,e2,e3,e4,e5,e6⟩:=X0.cel7;replace b0:=b0.trans (T.mono b0.size);have ae:(k:Int)<(d.length:Int):=by omega
   go_wp2_with fail
   clear q0 q1 q2 q3 q4 q5 q6 e0 e1 e2 e3 e4 e5 e6 d0 c0 c1 T;generalize wr.alloc (.cells #[H Q kn,H Q sf,G x0 done.length y0,G x1 base.length y1,G x2 I.length y2,G x3 z.length y3,G x4 N.length y4] 57)=WR at*;have oq:=Z.out _ b0;refine(Y.out WR (hG.below b0) (hT.below b0) (ho.at.below b0) (repK.own_rd oq) oq.1.niceV oq.2.2.1.niceV).mono ?_;rintro e w9 ⟨rfl,U⟩;replace A0:=A0.below U;replace b0:=b0.trans (U.mono b0.size);clear U oq Z Y X0;by_cases hC:C=0
   ·subst hC;have ab:((0:Int) !=0)=false:=by decide
    have X:=L.out rfl;clear L J;have al:Hid _:=X;clear X
    go_wp2
    go_roundw
    case rel=>exact⟨k+1,by omega,by go_num,al,A0,b0⟩
    case measure=>simp[intOf];omega
   ·have ab:(C !=0)=true:=by simpa using hC
    have HD:Hid (E=C):=J.out hC;clear L J hC
    go_wp2
    go_ret;exact⟨by first|(rw[HD.out];done)|(rw[HD.out];rfl),b0⟩
  ·have HD:Hid (E=0):=by rw[HG.out,q0P _ _ k (by simpa using D)];trivial
   have ae:¬(k:Int)<(d.length:Int):=by omega
   clear HG
   go_wp2
   go_ret;exact⟨by first|(rw[HD.out];done)|(rw[HD.out];rfl),b0⟩
def q4B(w w':World)(D:Int)(x:CluE)(e:Ending):Prop:=
 (D≠0∧e=.returned (.tuple #[.pointer none,H Q D])∧Below w.heap.size w w')∨
 (D=0∧∃ (g:Nat) (q:CluQ),e=.returned (.tuple #[.pointer (some ⟨g,0,none⟩),H Q 0])∧Blk w' g 30 #[q.vo,q.vm]∧q.e=x∧cluK.own w' q∧(cluK.foot q).Nodup∧(∀k∈cluK.foot q,w.heap.size≤k∧k≠g)∧w.heap.size≤g∧Below w.heap.size w w')
theorem q6F:(P.info? 30).map (·.size)=some 2:=by kernel_rfl
theorem z6G(p:CluQ)(w:World)(hG:Rul w)(hT:ErrT w)(h:cluK.own w p)(hl:p.n≤1048576):
  Calls P 20 #[.agg #[p.vo,p.vm]] w fun e w'=>q4B w w' (cluF p.e) p.e e:=by
 have hf:=fun w hG hT h=>z3o p w hG hT h hl
 have ai:=fun(w':World) (hb:Below w.heap.size w w')=>cluK.own_out (F:=[]) (w':=w') h (Vf hb) (fun _ _=>by simp)
 obtain⟨vo,J,vm,E⟩:=p;obtain⟨a0,k0,rfl⟩:∃a c,vo=G a J.length c:=h.1.shape;obtain⟨a1,k1,rfl⟩:∃a c,vm=G a E.length c:=h.2.shape;have br:J.length+nmL InstQ.n J≤1048576:=by dsimp only[CluQ.n]at hl;omega
 have aL:E.length+nmL NodeQ.n E≤1048576:=by dsimp only[CluQ.n]at hl;omega
 obtain⟨ho,hm⟩:instK.Own w (G a0 J.length k0) J∧nodeK.Own w (G a1 E.length k1) E:=h;have be:CluQ.e ⟨G a0 J.length k0,J,G a1 E.length k1,E⟩=⟨J.map l,E.map NodeQ.e⟩:=rfl;rw[be]at hf⊢;have am:=fun(hz:cluF (⟨J.map l,E.map NodeQ.e⟩:CluE)=0) p (hp:p∈J)=>z7D (p:=p) (z1K (z3i hz).1 _ (List.mem_map.2 ⟨p,hp,rfl⟩))
 have aq:=fun(hz:cluF (⟨J.map l,E.map NodeQ.e⟩:CluE)=0) (p:NodeQ) (hp:p∈E) w hr=>z72 p.kn p.sf p.r w hr (by have h1:NodeQ.n p≤nmL NodeQ.n E:=z4i NodeQ.n E p hp;have h2:NodeQ.n p=p.r.n:=rfl;omega) (q5U (z71 ((z3i hz).2.2 _ (List.mem_map.2 ⟨p,hp,rfl⟩))).2.2.2.1)
 have a7:=fun w h am=>z6B (G a0 J.length k0) J w h am br
 clear be hl;dsimp only at hf ai;generalize hx:(⟨J.map l,E.map NodeQ.e⟩:CluE)=x at*;have HX:Hid ((⟨J.map l,E.map NodeQ.e⟩:CluE)=x):=hx;generalize cluF x=D at*;clear hx;have ao:Hid _:=am;have an:Hid _:=aq;have aG:Hid _:=a7;clear am aq a7;have b0:Below w.heap.size w (w.alloc (.cells #[G a0 J.length k0,G a1 E.length k1] 30)):=by go_grown
 have A0:=Vc w 30 #[G a0 J.length k0,G a1 E.length k1];obtain⟨c0,c1⟩:=A0.cel2;go_enter func20,ntmps20
 go_wp2_with fail
 clear c0 c1;generalize w.alloc (.cells #[G a0 J.length k0,G a1 E.length k1] 30)=W at*;refine(hf W (hG.below b0) (hT.below b0) (ai W b0)).mono ?_;rintro e w1 ⟨rfl,hb⟩;replace A0:=A0.below hb;replace b0:=b0.trans (hb.mono b0.size);clear hb hf ai;by_cases hD:D=0
 case neg=>
  have aW:(D !=0)=true:=by simpa using hD
  have bl:Hid (D≠0):=hD;clear hD ao an aG
  go_wp2
  exact bodyPost_ret (v:=.tuple #[.pointer none,H Q D]) (by simp[results,results20,go_sem]) rfl (Or.inl ⟨bl.out,rfl,b0⟩)
 have aW:(D !=0)=false:=by simp[hD]
 have bn:Hid (D=0):=hD;have aq:=an.out hD;have bj:Hid _:=aq;have aC:Hid _:=ao.out hD;clear aq an ao hD;have c0:=A0.cell 0 _ rfl
 go_wp2_with fail
 clear c0 aW;refine(aG.out w1 (ho.at.below b0) aC.out).mono ?_;rintro e w2 ⟨bT,os,rfl,eo,oo,no,lo,hb⟩;obtain⟨z0,z1,rfl⟩:=oo.shape;replace A0:=A0.below hb;have bf:∀k∈instK.fp (G z0 os.length z1) os,w.heap.size≤k:=fun k hk=>Nat.le_trans b0.size (lo k hk)
 replace b0:=b0.trans (hb.mono b0.size);clear hb aG aC lo;have Bg:=Vc w2 30 #[G z0 os.length z1,G none 0 0];have hX:Below w2.heap.size w2 (w2.alloc (.cells #[G z0 os.length z1,G none 0 0] 30)):=by go_grown
 have Lo:=oo.lt;replace oo:=oo.below hX;replace A0:=A0.below hX;have a8:=b0.size;have bX:=b0.trans (hX.mono b0.size);have c1:=A0.cell 1 _ rfl
 go_wp2_with fail
 clear c1 hX b0;generalize w2.alloc (.cells #[G z0 os.length z1,G none 0 0] 30)=X at*;generalize w2.heap.size=g at*;have HQ:Hid (os.map l=J.map l∧instK.Own X (G z0 os.length z1) os∧(instK.fp (G z0 os.length z1) os).Nodup∧(∀k∈instK.fp (G z0 os.length z1) os,w.heap.size≤k)∧∀k∈instK.fp (G z0 os.length z1) os,k<g):=⟨eo,oo,no,bf,Lo⟩
 clear eo oo no bf Lo A0;obtain⟨i0,hi,bw,bx,bz⟩:=info_parts z4t;obtain⟨aL,ba⟩:=Kind.own_nil (K:=nodeK) X;have aQ:Hid ((nodeK.fp (G none 0 0) ([]:List NodeQ)).Nodup∧∀k∈nodeK.fp (G none 0 0) ([]:List NodeQ),X.heap.size≤k):=by
  rw[ba];exact⟨by simp,by simp⟩
 clear ba;have bO:=Bg.lt;have bK:=bX.size;go_loopw[20] (fun j wr=>∃ (k:Nat) (v2:Value) (qs:List NodeQ),k≤E.length∧j=H Q k∧Hid (qs.map NodeQ.e=(E.take k).map NodeQ.e)∧nodeK.Own wr v2 qs∧Hid ((nodeK.fp v2 qs).Nodup∧∀k∈nodeK.fp v2 qs,X.heap.size≤k)∧Hid (Blk wr g 30 #[G z0 os.length z1,v2])∧Hid (Out [g] X wr)) (fun j _=>E.length-(intOf j).toNat)
 case atStart=>exact⟨0,G none 0 0,[],Nat.zero_le _,rfl,(rfl:_=_),aL,aQ,Bg,Out.refl _ _⟩
 case round=>
  clear aQ aL Bg;obtain⟨k,v2,qs,hk,rfl,HE,hO,HN,az,HO⟩:=hrel;obtain⟨sa,sc,rfl⟩:=hO.shape;have ap:Below w.heap.size w wr:=Out.keep bX HO.out bX.size (fun x hx=>by simp only[Vb]at hx;omega);have bJ:=HO.out.size;have aH:Hid (∀x∈blk (G sa qs.length sc),X.heap.size≤x):=fun x hx=>HN.out.2 x (by simp only[Kind.fp,List.mem_append];exact Or.inl hx)
  by_cases aw:k<E.length
  ·obtain⟨rb,ro,rfl,bN,hc,bu⟩:=(hm.at.below ap).cell (by decide) k aw;have bI:rb<w.heap.size:=by
    obtain⟨bR,bS,e',bG,_,_⟩:=hm.at.cell (by decide) k aw;simp only[Option.some.injEq,Addr.mk.injEq,and_true]at e';omega
   have ah:∀j x,(nodeK.cells E[k])[j]?=some x→wr.cell? ⟨rb,ro+k*7+j,none⟩=some x:=hc;have q0:=ah 0 (H Q E[k].kn) rfl;have q1:=ah 1 (H Q E[k].sf) rfl;have q2:=ah 2 E[k].vd rfl;have q3:=ah 3 E[k].vb rfl;have q4:=ah 4 E[k].vt rfl;have q5:=ah 5 E[k].vu rfl;have q6:=ah 6 E[k].vn rfl;rw[Nat.add_zero]at q0;have bc:repK.own w E[k].r:=hm.2 _ (Ve aw);have ai:=fun(w':World) (hb:Below w.heap.size w w')=>repK.own_out (F:=[]) (w':=w') bc (Vf hb) (fun _ _=>by simp)
   have aT:Hid (qs.length≤1048576):=by
    have:=congrArg List.length HE.out;rw[Va,Va,List.length_take]at this;show qs.length≤1048576;omega
   have aS:Hid (∀p':NodeQ,p'.e=NodeQ.e E[k]→(qs++[p']).map NodeQ.e=(E.take (k+1)).map NodeQ.e):=fun p' bt=>by
    rw[List.take_succ_eq_append_getElem aw,List.map_append,List.map_append,HE.out,List.map_singleton,List.map_singleton,bt]
   have ar:=bj.out E[k] (Ve aw);clear HE hc ah bu bc;generalize E[k]=p at*;obtain⟨kn,sf,vd,done,vb,base,vt,af,vu,L,vn,al⟩:=p;have oq:=ai _ ap;obtain⟨x0,y0,rfl⟩:∃a c,vd=G a done.length c:=oq.1.shape;obtain⟨x1,y1,rfl⟩:∃a c,vb=G a base.length c:=oq.2.1.shape;obtain⟨x2,y2,rfl⟩:∃a c,vt=G a af.length c:=oq.2.2.1.shape;obtain⟨x3,y3,rfl⟩:∃a c,vu=G a L.length c:=oq.2.2.2.1.shape;obtain⟨x4,y4,rfl⟩:∃a c,vn=G a al.length c:=oq.2.2.2.2.shape;clear oq;dsimp only[NodeQ.r]at q0 q1 q2 q3 q4 q5 q6 ar ai;have aU:Hid _:=ai;have aP:Hid _:=ar;clear ai ar;have bH:(k:Int)<(E.length:Int):=by omega
   have hY:Below wr.heap.size wr (wr.alloc (.cells #[H Q kn,H Q sf,G x0 done.length y0,G x1 base.length y1,G x2 af.length y2,G x3 L.length y3,G x4 al.length y4] 57)):=by go_grown
   have Bn:=Vc wr 57 #[H Q kn,H Q sf,G x0 done.length y0,G x1 base.length y1,G x2 af.length y2,G x3 L.length y3,G x4 al.length y4];have aX:=hO.below hY;have aF:Hid (Blk (wr.alloc (.cells #[H Q kn,H Q sf,G x0 done.length y0,G x1 base.length y1,G x2 af.length y2,G x3 L.length y3,G x4 al.length y4] 57)) g 30 #[G z0 os.length z1,G sa qs.length sc]):=az.out.below hY;have aV:=ap.trans (hY.mono ap.size);have hF:Hid (∀x∈nodeK.fp (G sa qs.length sc) qs,x<wr.heap.size):=hO.lt;have aj:Hid (Out [g] X (wr.alloc (.cells #[H Q kn,H Q sf,G x0 done.length y0,G x1 base.length y1,G x2 af.length y2,G x3 L.length y3,G x4 al.length y4] 57))):=HO.out.trans (Vf hY);have bM:=hY.size;have bp:=Bn.lt
   go_wp2_with fail
   clear q0 q1 q2 q3 q4 q5 q6 hO az HO hY;generalize bL:wr.alloc (.cells #[H Q kn,H Q sf,G x0 done.length y0,G x1 base.length y1,G x2 af.length y2,G x3 L.length y3,G x4 al.length y4] 57)=Y at*;have bP:wr.heap.size<Y.heap.size:=bp;have aI:g∉blk (G sa qs.length sc):=fun hx=>by have:=aH.out g hx;omega
   have ak:wr.heap.size∉blk (G sa qs.length sc):=fun hx=>by have:=hF.out wr.heap.size (by simp only[Kind.fp,List.mem_append];exact Or.inl hx);omega
   have m0:=z0k (F:=blk (G sa qs.length sc)) (aF.out.cell 1 _ rfl) aI;have g0:=z0k (F:=blk (G sa qs.length sc)) (Bn.cell 0 _ rfl) ak;have g1:=z0k (F:=blk (G sa qs.length sc)) (Bn.cell 1 _ rfl) ak;have g2:=z0k (F:=blk (G sa qs.length sc)) (Bn.cell 2 _ rfl) ak;have g3:=z0k (F:=blk (G sa qs.length sc)) (Bn.cell 3 _ rfl) ak;have g4:=z0k (F:=blk (G sa qs.length sc)) (Bn.cell 4 _ rfl) ak;have g5:=z0k (F:=blk (G sa qs.length sc)) (Bn.cell 5 _ rfl) ak;have g6:=z0k (F:=blk (G sa qs.length sc)) (Bn.cell 6 _ rfl) ak;have bs:Nonempty (LatO (blk (G sa qs.length sc)) Y):=⟨⟨Y,Out.refl _ _⟩⟩
   have hW:Below Y.heap.size Y Y.drew:=(Below.refl _ _).drew;have aB:∀w',Below Y.heap.size Y w'→∃u:LatO (blk (G sa qs.length sc)) Y,w'=u.val:=fun w' bv=>⟨⟨w',Vf bv⟩,rfl⟩
   refine z30 (S:=fun w'=>∃u:LatO (blk (G sa qs.length sc)) Y,w'=u.val) (R:=fun _ _=>False) 7 (by kernel_rfl) (fun _ _ _ _ h=>h.elim) ?_;refine sgX [(0,3)] 5 (by kernel_rfl) (aB _ hW) ?_;simp only[pkE];repeat go_big_quiet_step (fail)
   refine wpQuiet_nil ?_;refine clX 3 (some 27) 43 #[.agg #[H Q kn,H Q sf,G x0 done.length y0,G x1 base.length y1,G x2 af.length y2,G x3 L.length y3,G x4 al.length y4]] 4 (by kernel_rfl) rfl ?_;refine(aP.out _ (aU.out _ (aV.trans (hW.mono aV.size)))).mono ?_;rintro e w9 ⟨q,rfl,eq,oq,nq,gq,a6⟩;have LA:∀x∈repK.foot q,Y.heap.size≤x:=fun x hx=>by have:=gq x hx;have:=hW.size;omega
   replace hW:=hW.trans (a6.mono hW.size);clear a6 gq;obtain⟨bC,A,bB,z,bE,C,bF,d,bD,I⟩:=q;obtain⟨M,V,rfl⟩:∃a c,bC=G a A.length c:=oq.1.shape;obtain⟨N,aa,rfl⟩:∃a c,bB=G a z.length c:=oq.2.1.shape;obtain⟨O,ab,rfl⟩:∃a c,bE=G a C.length c:=oq.2.2.1.shape;obtain⟨T,ad,rfl⟩:∃a c,bF=G a d.length c:=oq.2.2.2.1.shape;obtain⟨U,ae,rfl⟩:∃a c,bD=G a I.length c:=oq.2.2.2.2.shape;refine Or.inl ⟨_,rfl,aB _ hW,?_⟩;simp only[Vd,pgE,pjE];refine onX 4 3 rfl (by kernel_rfl) ?_;have aK:Below w9.heap.size w9 (w9.alloc (.cells #[H Q kn,H Q sf,G M A.length V,G N z.length aa,G O C.length ab,G T d.length ad,G U I.length ae] 57)):=by go_grown
   replace hW:=hW.trans (aK.mono hW.size);replace oq:=repK.own_out (F:=[]) oq (Vf aK) (fun _ _=>by simp);have aE:∀j u,([H Q kn,H Q sf,G M A.length V,G N z.length aa,G O C.length ab,G T d.length ad,G U I.length ae]:List Value)[j]?=some u→(w9.alloc (.cells #[H Q kn,H Q sf,G M A.length V,G N z.length aa,G O C.length ab,G T d.length ad,G U I.length ae] 57)).cell? ((⟨w9.heap.size,0,none⟩:Addr).add j)=some u:=by
    intro j u hj;match j,hj with|0,hj=>simp at hj;subst hj;simp[Addr.add]|1,hj=>simp at hj;subst hj;simp[Addr.add]|2,hj=>simp at hj;subst hj;simp[Addr.add]|3,hj=>simp at hj;subst hj;simp[Addr.add]|4,hj=>simp at hj;subst hj;simp[Addr.add]|5,hj=>simp at hj;subst hj;simp[Addr.add]|6,hj=>simp at hj;subst hj;simp[Addr.add]
   go_wp2
   refine ThenX.to ⟨Or.inr (aB _ hW),?_⟩;generalize w9.alloc (.cells #[H Q kn,H Q sf,G M A.length V,G N z.length aa,G O C.length ab,G T d.length ad,G U I.length ae] 57)=Z at*;clear aK;have aJ:=aX.below hW;have ax:=aJ.1;have bQ:=hW.size;refine onX 5 2 rfl (by kernel_rfl) ?_;refine wpList_append_own_at _ rfl _ _ 28 rfl 0 57 i0 (.agg #[H Q 0,H Q 0,G none 0 0,G none 0 0,G none 0 0,G none 0 0,G none 0 0]) 7 136 Tryz.underlying28 hi bw bx bz rfl (by decide) _ qs.length (nodeK.row qs) rfl ax ⟨w9.heap.size,0,none⟩ 1 1 [H Q kn,H Q sf,G M A.length V,G N z.length aa,G O C.length ab,G T d.length ad,G U I.length ae] rfl rfl aE ?c2 ?c3 ?c4 ?c5 ?_
   case c2=>intro u hu;simp at hu;rcases hu with rfl|rfl|rfl|rfl|rfl|rfl|rfl<;>rfl
   case c3=>have:=aT.out;unfold maxLen;omega
   case c4=>have:=aT.out;omega
   case c5=>omega
   intro v' w5 aD au bb a2;clear bb ax aE;obtain ⟨aA,aM,av,bd⟩:=aJ.snoc (p:=⟨kn,sf,G M A.length V,A,G N z.length aa,z,G O C.length ab,C,G T d.length ad,d,G U I.length ae,I⟩) (B:=X.heap.size) HN.out.1 HN.out.2 (show nodeK.own _ (⟨kn,sf,G M A.length V,A,G N z.length aa,z,G O C.length ab,C,G T d.length ad,d,G U I.length ae,I⟩:NodeQ) from oq) (show (nodeK.foot (⟨kn,sf,G M A.length V,A,G N z.length aa,z,G O C.length ab,C,G T d.length ad,d,G U I.length ae,I⟩:NodeQ)).Nodup from nq) (fun x hx aN => by
    have:=hF.out x aN;have:=LA x hx;omega) (fun x hx=>by have:=LA x hx;omega) (by omega) aD au a2
   obtain⟨na,nc,rfl⟩:=aA.shape;rw[List.length_append,List.length_singleton]at aA aM av;have ag:Out (blk (G sa qs.length sc)) Y w5:=(Vf hW).trans bd;have ay:Blk w5 g 30 #[G z0 os.length z1,G sa qs.length sc]:=(ag.block g (by omega) aI).trans aF.out;have bk:Hid ((qs++[(⟨kn,sf,G M A.length V,A,G N z.length aa,z,G O C.length ab,C,G T d.length ad,d,G U I.length ae,I⟩:NodeQ)]).map NodeQ.e=(E.take (k+1)).map NodeQ.e):=aS.out _ (by show(⟨_,_,_⟩:NodeE)=_;exact congrArg (NodeE.mk kn sf) eq);have aR:Hid ((nodeK.fp (G na (qs.length+1) nc) (qs++[(⟨kn,sf,G M A.length V,A,G N z.length aa,z,G O C.length ab,C,G T d.length ad,d,G U I.length ae,I⟩:NodeQ)])).Nodup∧∀k∈nodeK.fp (G na (qs.length+1) nc) (qs++[(⟨kn,sf,G M A.length V,A,G N z.length aa,z,G O C.length ab,C,G T d.length ad,d,G U I.length ae,I⟩:NodeQ)]),X.heap.size≤k):=⟨aM,av⟩
   have aY:Out [g] X w5:=by
    refine⟨ag.os.trans aj.out.os,ag.tape.trans aj.out.tape,ag.output.trans aj.out.output,by have:=aj.out.size;exact Nat.le_trans this ag.size,fun x hx hn=>?_⟩;exact(ag.block x (by have:=aj.out.size;omega) (fun aN=>by have:=aH.out x aN;omega)).trans (aj.out.block x hx hn)
   clear aM av bd aS HN hF oq LA nq aD au a2 aJ aX m0 g0 g1 g2 g3 g4 g5 g6 eq
   go_wp2
   refine ThenX.to ⟨Or.inr ⟨⟨_,ag⟩,rfl⟩,?_⟩;simp only[Vd,pgE,pjE];refine onX 6 1 rfl (by kernel_rfl) ?_
   go_wp2
   refine ThenX.to ⟨Or.inr ⟨⟨_,ag⟩,rfl⟩,?_⟩;refine onX 7 0 rfl (by kernel_rfl) ?_;have t3:=ay.cell 1 _ rfl;have t4:=ay.frozen 1;have aO:=ay.set 1 (G na (qs.length+1) nc);have bo:=aA.out (Out.setCell w5 g 1 (G na (qs.length+1) nc)) (fun x hx=>by have:=aR.out.2 x hx;simp only[Vb];omega);have aZ:Out [g] X (w5.setCell ⟨g,1,none⟩ (G na (qs.length+1) nc)):=aY.trans (Out.setCell w5 g 1 _);have bh:Hid (Blk (w5.setCell ⟨g,1,none⟩ (G na (qs.length+1) nc)) g 30 #[G z0 os.length z1,G na (qs.length+1) nc]):=aO;have bm:Hid (Out [g] X (w5.setCell ⟨g,1,none⟩ (G na (qs.length+1) nc))):=aZ;clear aO aZ aY aA ay aF aj;generalize qs++[(⟨kn,sf,G M A.length V,A,G N z.length aa,z,G O C.length ab,C,G T d.length ad,d,G U I.length ae,I⟩:NodeQ)]=bA at*
   go_wp2
   refine ThenX.to ⟨Or.inl (by kernel_rfl),?_⟩;refine q4c (by kernel_rfl) ?_;clear t3 t4 ag bs aB aI aP aU;generalize w5.setCell ⟨g,1,none⟩ (G na (qs.length+1) nc)=w6 at*
   go_wp2
   go_roundw
   case rel=>exact⟨k+1,_,bA,by omega,by go_num,bk,bo,aR,bh,bm⟩
   case measure=>simp[intOf];omega
  ·have bq:k=E.length:=by omega
   subst bq;have hE:=HE.out;rw[List.take_length]at hE;obtain⟨eo,oo,no,lo,Lo⟩:=HQ.out;have bg:instK.Own wr (G z0 os.length z1) os:=oo.out HO.out (fun x hx=>by simp only[Vb];have:=Lo x hx;omega);have HR:Hid (CluQ.e (⟨G z0 os.length z1,os,G sa qs.length sc,qs⟩:CluQ)=⟨J.map l,E.map NodeQ.e⟩∧cluK.own wr (⟨G z0 os.length z1,os,G sa qs.length sc,qs⟩:CluQ)∧(cluK.foot (⟨G z0 os.length z1,os,G sa qs.length sc,qs⟩:CluQ)).Nodup∧∀k∈cluK.foot (⟨G z0 os.length z1,os,G sa qs.length sc,qs⟩:CluQ),w.heap.size≤k∧k≠g):=by
    refine⟨by simp only[CluQ.e,eo,hE],⟨bg,hO⟩,?_,fun x hx=>?_⟩
    ·refine List.nodup_append.2 ⟨no,HN.out.1,fun x hx y hy e=>?_⟩;have:=Lo x hx;have:=HN.out.2 y hy;omega
    ·rcases List.mem_append.1 hx with hx|hx
     ·have:=Lo x hx;have:=lo x hx;omega
     ·have:=HN.out.2 x hx;omega
   clear HE hE oo no lo Lo bg hO HN HQ aH eo;have bi:Hid (Blk wr g 30 #[G z0 os.length z1,G sa qs.length sc]):=az.out;clear az HO
   go_wp2
   exact bodyPost_ret (v:=.tuple #[.pointer (some ⟨g,0,none⟩),H Q 0]) (by simp[results,results20,go_sem]) rfl (Or.inr ⟨bn.out,g,_,rfl,bi.out,HR.out.1.trans HX.out,HR.out.2.1,HR.out.2.2.1,HR.out.2.2.2,a8,ap⟩)
theorem q0e(p:CluQ)(w:World)(h:cluK.own w p)(hz:cluF p.e=0)(hl:p.n≤1048576):
  Calls P 66 #[.agg #[p.vo,p.vm]] w fun e w'=>∃q:CluQ,e=.returned (.agg #[q.vo,q.vm])∧q.e=p.e∧cluK.own w' q∧(cluK.foot q).Nodup∧(∀k∈cluK.foot q,w.heap.size≤k)∧Below w.heap.size w w':=by
 obtain⟨vo,I,vm,D⟩:=p;obtain⟨a0,k0,rfl⟩:∃a c,vo=G a I.length c:=h.1.shape;obtain⟨a1,k1,rfl⟩:∃a c,vm=G a D.length c:=h.2.shape;have bh:I.length+nmL InstQ.n I≤1048576:=by dsimp only[CluQ.n]at hl;omega
 have aD:D.length+nmL NodeQ.n D≤1048576:=by dsimp only[CluQ.n]at hl;omega
 obtain⟨ho,hm⟩:instK.Own w (G a0 I.length k0) I∧nodeK.Own w (G a1 D.length k1) D:=h;have aZ:CluQ.e ⟨G a0 I.length k0,I,G a1 D.length k1,D⟩=⟨I.map l,D.map NodeQ.e⟩:=rfl;rw[aZ]at hz⊢;have av:Hid (∀p∈I,(∀t∈p.batch,0<t.acts.length)∧(∀r∈p.rounds,0<r.rep.length∧0<r.pro.length)∧0<p.dec.length):=fun p hp=>z7D (z1K (z3i hz).1 _ (List.mem_map.2 ⟨p,hp,rfl⟩))
 have aU:=fun(p:NodeQ) (hp:p∈D) w hr=>q0d p.kn p.sf p.r w hr (z71 ((z3i hz).2.2 _ (List.mem_map.2 ⟨p,hp,rfl⟩))).2.2.2.1
 have aV:=fun w h=>q1D (G a0 I.length k0) I w h av.out bh
 clear aZ hl hz;generalize hx:(⟨I.map l,D.map NodeQ.e⟩:CluE)=x at*;have HX:Hid ((⟨I.map l,D.map NodeQ.e⟩:CluE)=x):=hx;clear hx av;have a8:Hid _:=aU;have aJ:Hid _:=aV;clear aU aV;have b0:Below w.heap.size w ((w.alloc (.cells #[G a0 I.length k0,G a1 D.length k1] 30)).alloc (.cells #[G none 0 0,G none 0 0] 30)):=by go_grown
 have A0:=(Vc w 30 #[G a0 I.length k0,G a1 D.length k1]).below (w':=(w.alloc (.cells #[G a0 I.length k0,G a1 D.length k1] 30)).alloc (.cells #[G none 0 0,G none 0 0] 30)) (by go_grown);have R0:=Vc (w.alloc (.cells #[G a0 I.length k0,G a1 D.length k1] 30)) 30 #[G none 0 0,G none 0 0];have aB:((w.alloc (.cells #[G a0 I.length k0,G a1 D.length k1] 30)).alloc (.cells #[G none 0 0,G none 0 0] 30)).heap.size=w.heap.size+2:=by simp only[World.size_alloc]
 simp only[World.size_alloc]at R0;have c0:=A0.cell 0 _ rfl;go_enter func66,ntmps66
 go_wp2_with fail
 clear c0;generalize (w.alloc (.cells #[G a0 I.length k0,G a1 D.length k1] 30)).alloc (.cells #[G none 0 0,G none 0 0] 30)=W at*;refine(aJ.out W (ho.at.below b0)).mono ?_;rintro e w2 ⟨bG,os,rfl,eo,oo,no,lo,hb⟩;obtain⟨z0,z1,rfl⟩:=oo.shape;replace A0:=A0.below hb;replace R0:=R0.below hb;rw[aB]at lo;have bf:=hb.size;rw[aB]at bf;replace b0:=b0.trans (hb.mono b0.size);clear hb aJ aB;have Bg:=Vc w2 30 #[G z0 os.length z1,G none 0 0];have hX:Below w2.heap.size w2 (w2.alloc (.cells #[G z0 os.length z1,G none 0 0] 30)):=by go_grown
 have Lo:=oo.lt;replace oo:=oo.below hX;have AX:=A0.below hX;have RX:=R0.below hX;have bX:=b0.trans (hX.mono b0.size)
 go_wp2_with fail
 clear hX b0 A0 R0;generalize w2.alloc (.cells #[G z0 os.length z1,G none 0 0] 30)=X at*;generalize w2.heap.size=g at*;have HQ:Hid (os.map l=I.map l∧instK.Own X (G z0 os.length z1) os∧(instK.fp (G z0 os.length z1) os).Nodup∧(∀k∈instK.fp (G z0 os.length z1) os,w.heap.size+2≤k)∧∀k∈instK.fp (G z0 os.length z1) os,k<g):=⟨eo,oo,no,lo,Lo⟩
 clear eo oo no lo Lo;obtain⟨i0,hi,bm,bn,bo⟩:=info_parts z4t;obtain⟨aD,aW⟩:=Kind.own_nil (K:=nodeK) X;have aK:Hid ((nodeK.fp (G none 0 0) ([]:List NodeQ)).Nodup∧∀k∈nodeK.fp (G none 0 0) ([]:List NodeQ),X.heap.size≤k):=by
  rw[aW];exact⟨by simp,by simp⟩
 clear aW;have bC:=Bg.lt;have bA:=bX.size;go_loopw[4] (fun j wr=>∃ (k:Nat) (v2:Value) (qs:List NodeQ),k≤D.length∧j=H Q k∧Hid (qs.map NodeQ.e=(D.take k).map NodeQ.e)∧nodeK.Own wr v2 qs∧Hid ((nodeK.fp v2 qs).Nodup∧∀k∈nodeK.fp v2 qs,X.heap.size≤k)∧Hid (Blk wr g 30 #[G z0 os.length z1,v2])∧Hid (Out [g] X wr)) (fun j _=>D.length-(intOf j).toNat)
 case atStart=>exact⟨0,G none 0 0,[],Nat.zero_le _,rfl,(rfl:_=_),aD,aK,Bg,Out.refl _ _⟩
 case round=>
  clear aK aD Bg;obtain⟨k,v2,qs,hk,rfl,HE,hO,HN,af,HO⟩:=hrel;obtain⟨sa,sc,rfl⟩:=hO.shape;have ah:Below w.heap.size w wr:=Out.keep bX HO.out bX.size (fun x hx=>by simp only[Vb]at hx;omega);have bz:=HO.out.size;have aG:Blk wr w.heap.size 30 #[G a0 I.length k0,G a1 D.length k1]:=(HO.out.block _ AX.lt (by simp only[Vb];omega)).trans AX;have b1:=aG.cell 1 _ rfl;have ag:Hid (∀x∈blk (G sa qs.length sc),X.heap.size≤x):=fun x hx=>HN.out.2 x (by simp only[Kind.fp,List.mem_append];exact Or.inl hx)
  by_cases al:k<D.length
  ·obtain⟨rb,ro,rfl,bB,hc,bk⟩:=(hm.at.below ah).cell (by decide) k al;have bx:rb<w.heap.size:=by
    obtain⟨bE,bF,e',bv,_,_⟩:=hm.at.cell (by decide) k al;simp only[Option.some.injEq,Addr.mk.injEq,and_true]at e';omega
   have ad:∀j x,(nodeK.cells D[k])[j]?=some x→wr.cell? ⟨rb,ro+k*7+j,none⟩=some x:=hc;have q0:=ad 0 (H Q D[k].kn) rfl;have q1:=ad 1 (H Q D[k].sf) rfl;have q2:=ad 2 D[k].vd rfl;have q3:=ad 3 D[k].vb rfl;have q4:=ad 4 D[k].vt rfl;have q5:=ad 5 D[k].vu rfl;have q6:=ad 6 D[k].vn rfl;rw[Nat.add_zero]at q0;have aY:repK.own w D[k].r:=hm.2 _ (Ve al);have au:=fun(w':World) (hb:Below w.heap.size w w')=>repK.own_out (F:=[]) (w':=w') aY (Vf hb) (fun _ _=>by simp)
   have aN:Hid (qs.length≤1048576):=by
    have:=congrArg List.length HE.out;rw[Va,Va,List.length_take]at this;show qs.length≤1048576;omega
   have aM:Hid (∀p':NodeQ,p'.e=NodeQ.e D[k]→(qs++[p']).map NodeQ.e=(D.take (k+1)).map NodeQ.e):=fun p' bj=>by
    rw[List.take_succ_eq_append_getElem al,List.map_append,List.map_append,HE.out,List.map_singleton,List.map_singleton,bj]
   have ai:=a8.out D[k] (Ve al);clear HE hc ad bk aY;generalize D[k]=p at*;obtain⟨kn,sf,vd,done,vb,base,vt,ay,vu,ao,vn,a2⟩:=p;have oq:=au _ ah;obtain⟨x0,y0,rfl⟩:∃a c,vd=G a done.length c:=oq.1.shape;obtain⟨x1,y1,rfl⟩:∃a c,vb=G a base.length c:=oq.2.1.shape;obtain⟨x2,y2,rfl⟩:∃a c,vt=G a ay.length c:=oq.2.2.1.shape;obtain⟨x3,y3,rfl⟩:∃a c,vu=G a ao.length c:=oq.2.2.2.1.shape;obtain⟨x4,y4,rfl⟩:∃a c,vn=G a a2.length c:=oq.2.2.2.2.shape;clear oq;dsimp only[NodeQ.r]at q0 q1 q2 q3 q4 q5 q6 ai au;have aO:Hid _:=au;have aI:Hid _:=ai;clear au ai;have bw:(k:Int)<(D.length:Int):=by omega
   have hF:Hid (∀x∈nodeK.fp (G sa qs.length sc) qs,x<wr.heap.size):=hO.lt;have az:g∉blk (G sa qs.length sc):=fun hx=>by have:=ag.out g hx;omega
   have bd:w.heap.size∉blk (G sa qs.length sc):=fun hx=>by have:=ag.out _ hx;omega
   have ae:rb∉blk (G sa qs.length sc):=fun hx=>by have:=ag.out rb hx;omega
   have m0:=z0k (F:=blk (G sa qs.length sc)) (af.out.cell 1 _ rfl) az;have m1:=z0k (F:=blk (G sa qs.length sc)) b1 bd;have g0:=z0k (F:=blk (G sa qs.length sc)) q0 ae;have g1:=z0k (F:=blk (G sa qs.length sc)) q1 ae;have g2:=z0k (F:=blk (G sa qs.length sc)) q2 ae;have g3:=z0k (F:=blk (G sa qs.length sc)) q3 ae;have g4:=z0k (F:=blk (G sa qs.length sc)) q4 ae;have g5:=z0k (F:=blk (G sa qs.length sc)) q5 ae;have g6:=z0k (F:=blk (G sa qs.length sc)) q6 ae;clear q0 q1 q2 q3 q4 q5 q6
   go_wp2_with fail
   clear b1;have bi:Nonempty (LatO (blk (G sa qs.length sc)) wr):=⟨⟨wr,Out.refl _ _⟩⟩
   have hW:Below wr.heap.size wr wr.drew:=(Below.refl _ _).drew;have ar:∀w',Below wr.heap.size wr w'→∃u:LatO (blk (G sa qs.length sc)) wr,w'=u.val:=fun w' bl=>⟨⟨w',Vf bl⟩,rfl⟩
   refine z30 (S:=fun w'=>∃u:LatO (blk (G sa qs.length sc)) wr,w'=u.val) (R:=fun _ _=>False) 11 (by kernel_rfl) (fun _ _ _ _ h=>h.elim) ?_;refine sgX [(0,7)] 5 (by kernel_rfl) (ar _ hW) ?_;simp only[pkE];repeat go_big_quiet_step (fail)
   refine wpQuiet_nil ?_;refine clX 7 (some 23) 115 #[.agg #[H Q kn,H Q sf,G x0 done.length y0,G x1 base.length y1,G x2 ay.length y2,G x3 ao.length y3,G x4 a2.length y4]] 4 (by kernel_rfl) rfl ?_;refine(aI.out _ (aO.out _ (ah.trans (hW.mono ah.size)))).mono ?_;rintro e w9 ⟨q,rfl,eq,oq,nq,gq,aT⟩;have LA:∀x∈repK.foot q,wr.heap.size≤x:=fun x hx=>by have:=gq x hx;have:=hW.size;omega
   replace hW:=hW.trans (aT.mono hW.size);clear aT gq;obtain⟨br,A,bq,z,bt,C,bu,d,bs,E⟩:=q;obtain⟨J,T,rfl⟩:∃a c,br=G a A.length c:=oq.1.shape;obtain⟨L,U,rfl⟩:∃a c,bq=G a z.length c:=oq.2.1.shape;obtain⟨M,V,rfl⟩:∃a c,bt=G a C.length c:=oq.2.2.1.shape;obtain⟨N,Y,rfl⟩:∃a c,bu=G a d.length c:=oq.2.2.2.1.shape;obtain⟨O,aa,rfl⟩:∃a c,bs=G a E.length c:=oq.2.2.2.2.shape;refine Or.inl ⟨_,rfl,ar _ hW,?_⟩;simp only[Vd,pgE,pjE];refine onX 8 3 rfl (by kernel_rfl) ?_;have aC:Below w9.heap.size w9 (w9.alloc (.cells #[H Q kn,H Q sf,G J A.length T,G L z.length U,G M C.length V,G N d.length Y,G O E.length aa] 57)):=by go_grown
   replace hW:=hW.trans (aC.mono hW.size);replace oq:=repK.own_out (F:=[]) oq (Vf aC) (fun _ _=>by simp);have ax:∀j u,([H Q kn,H Q sf,G J A.length T,G L z.length U,G M C.length V,G N d.length Y,G O E.length aa]:List Value)[j]?=some u→(w9.alloc (.cells #[H Q kn,H Q sf,G J A.length T,G L z.length U,G M C.length V,G N d.length Y,G O E.length aa] 57)).cell? ((⟨w9.heap.size,0,none⟩:Addr).add j)=some u:=by
    intro j u hj;match j,hj with|0,hj=>simp at hj;subst hj;simp[Addr.add]|1,hj=>simp at hj;subst hj;simp[Addr.add]|2,hj=>simp at hj;subst hj;simp[Addr.add]|3,hj=>simp at hj;subst hj;simp[Addr.add]|4,hj=>simp at hj;subst hj;simp[Addr.add]|5,hj=>simp at hj;subst hj;simp[Addr.add]|6,hj=>simp at hj;subst hj;simp[Addr.add]
   go_wp2
   refine ThenX.to ⟨Or.inr (ar _ hW),?_⟩;generalize w9.alloc (.cells #[H Q kn,H Q sf,G J A.length T,G L z.length U,G M C.length V,G N d.length Y,G O E.length aa] 57)=Z at*;clear aC;have aA:=hO.below hW;have an:=aA.1;have bD:=hW.size;refine onX 9 2 rfl (by kernel_rfl) ?_;refine wpList_append_own_at _ rfl _ _ 28 rfl 0 57 i0 (.agg #[H Q 0,H Q 0,G none 0 0,G none 0 0,G none 0 0,G none 0 0,G none 0 0]) 7 136 Tryz.underlying28 hi bm bn bo rfl (by decide) _ qs.length (nodeK.row qs) rfl an ⟨w9.heap.size,0,none⟩ 1 1 [H Q kn,H Q sf,G J A.length T,G L z.length U,G M C.length V,G N d.length Y,G O E.length aa] rfl rfl ax ?c2 ?c3 ?c4 ?c5 ?_
   case c2=>intro u hu;simp at hu;rcases hu with rfl|rfl|rfl|rfl|rfl|rfl|rfl<;>rfl
   case c3=>have:=aN.out;unfold maxLen;omega
   case c4=>have:=aN.out;omega
   case c5=>omega
   intro v' w5 aw aj aX aS;clear aX an ax;obtain ⟨aq,aE,ak,am⟩:=aA.snoc (p:=⟨kn,sf,G J A.length T,A,G L z.length U,z,G M C.length V,C,G N d.length Y,d,G O E.length aa,E⟩) (B:=X.heap.size) HN.out.1 HN.out.2 (show nodeK.own _ (⟨kn,sf,G J A.length T,A,G L z.length U,z,G M C.length V,C,G N d.length Y,d,G O E.length aa,E⟩:NodeQ) from oq) (show (nodeK.foot (⟨kn,sf,G J A.length T,A,G L z.length U,z,G M C.length V,C,G N d.length Y,d,G O E.length aa,E⟩:NodeQ)).Nodup from nq) (fun x hx aF => by
    have:=hF.out x aF;have:=LA x hx;omega) (fun x hx=>by have:=LA x hx;omega) (by omega) aw aj aS
   obtain⟨na,nc,rfl⟩:=aq.shape;rw[List.length_append,List.length_singleton]at aq aE ak;have ab:Out (blk (G sa qs.length sc)) wr w5:=(Vf hW).trans am;have ap:Blk w5 g 30 #[G z0 os.length z1,G sa qs.length sc]:=(ab.block g (by omega) az).trans af.out;have ba:Hid ((qs++[(⟨kn,sf,G J A.length T,A,G L z.length U,z,G M C.length V,C,G N d.length Y,d,G O E.length aa,E⟩:NodeQ)]).map NodeQ.e=(D.take (k+1)).map NodeQ.e):=aM.out _ (by show(⟨_,_,_⟩:NodeE)=_;exact congrArg (NodeE.mk kn sf) eq);have aL:Hid ((nodeK.fp (G na (qs.length+1) nc) (qs++[(⟨kn,sf,G J A.length T,A,G L z.length U,z,G M C.length V,C,G N d.length Y,d,G O E.length aa,E⟩:NodeQ)])).Nodup∧∀k∈nodeK.fp (G na (qs.length+1) nc) (qs++[(⟨kn,sf,G J A.length T,A,G L z.length U,z,G M C.length V,C,G N d.length Y,d,G O E.length aa,E⟩:NodeQ)]),X.heap.size≤k):=⟨aE,ak⟩
   have aQ:Out [g] X w5:=by
    refine⟨ab.os.trans HO.out.os,ab.tape.trans HO.out.tape,ab.output.trans HO.out.output,by have:=HO.out.size;exact Nat.le_trans this ab.size,fun x hx hn=>?_⟩;exact(ab.block x (by have:=HO.out.size;omega) (fun aF=>by have:=ag.out x aF;omega)).trans (HO.out.block x hx hn)
   clear aE ak am aM HN hF oq LA nq aw aj aS aA hO m0 m1 g0 g1 g2 g3 g4 g5 g6 eq
   go_wp2
   refine ThenX.to ⟨Or.inr ⟨⟨_,ab⟩,rfl⟩,?_⟩;simp only[Vd,pgE,pjE];refine onX 10 1 rfl (by kernel_rfl) ?_
   go_wp2
   refine ThenX.to ⟨Or.inr ⟨⟨_,ab⟩,rfl⟩,?_⟩;refine onX 11 0 rfl (by kernel_rfl) ?_;have t3:=ap.cell 1 _ rfl;have t4:=ap.frozen 1;have aH:=ap.set 1 (G na (qs.length+1) nc);have be:=aq.out (Out.setCell w5 g 1 (G na (qs.length+1) nc)) (fun x hx=>by have:=aL.out.2 x hx;simp only[Vb];omega);have aR:Out [g] X (w5.setCell ⟨g,1,none⟩ (G na (qs.length+1) nc)):=aQ.trans (Out.setCell w5 g 1 _);have a7:Hid (Blk (w5.setCell ⟨g,1,none⟩ (G na (qs.length+1) nc)) g 30 #[G z0 os.length z1,G na (qs.length+1) nc]):=aH;have bb:Hid (Out [g] X (w5.setCell ⟨g,1,none⟩ (G na (qs.length+1) nc))):=aR;clear aH aR aQ aq ap af HO;generalize qs++[(⟨kn,sf,G J A.length T,A,G L z.length U,z,G M C.length V,C,G N d.length Y,d,G O E.length aa,E⟩:NodeQ)]=bp at*
   go_wp2
   refine ThenX.to ⟨Or.inl (by kernel_rfl),?_⟩;refine q4c (by kernel_rfl) ?_;clear t3 t4 ab bi ar az aI aO;generalize w5.setCell ⟨g,1,none⟩ (G na (qs.length+1) nc)=w6 at*
   go_wp2
   go_roundw
   case rel=>exact⟨k+1,_,bp,by omega,by go_num,ba,be,aL,a7,bb⟩
   case measure=>simp[intOf];omega
  ·have bg:k=D.length:=by omega
   subst bg;have hE:=HE.out;rw[List.take_length]at hE;obtain⟨eo,oo,no,lo,Lo⟩:=HQ.out;have a6:instK.Own wr (G z0 os.length z1) os:=oo.out HO.out (fun x hx=>by simp only[Vb];have:=Lo x hx;omega);have HR:Hid (CluQ.e (⟨G z0 os.length z1,os,G sa qs.length sc,qs⟩:CluQ)=⟨I.map l,D.map NodeQ.e⟩∧cluK.own wr (⟨G z0 os.length z1,os,G sa qs.length sc,qs⟩:CluQ)∧(cluK.foot (⟨G z0 os.length z1,os,G sa qs.length sc,qs⟩:CluQ)).Nodup∧∀k∈cluK.foot (⟨G z0 os.length z1,os,G sa qs.length sc,qs⟩:CluQ),w.heap.size+2≤k∧k≠g):=by
    refine⟨by simp only[CluQ.e,eo,hE],⟨a6,hO⟩,?_,fun x hx=>?_⟩
    ·refine List.nodup_append.2 ⟨no,HN.out.1,fun x hx y hy e=>?_⟩;have:=Lo x hx;have:=HN.out.2 y hy;omega
    ·rcases List.mem_append.1 hx with hx|hx
     ·have:=Lo x hx;have:=lo x hx;omega
     ·have:=HN.out.2 x hx;omega
   clear HE hE oo no lo Lo a6 hO HN HQ ag eo;have aP:Blk wr (w.heap.size+1) 30 #[G none 0 0,G none 0 0]:=(HO.out.block _ RX.lt (by simp only[Vb];omega)).trans RX;have g0:=af.out.cell 0 _ rfl;have g1:=af.out.cell 1 _ rfl;have Rz:=aP.row #[G z0 os.length z1,G sa qs.length sc];have am:=z0v wr (w.heap.size+1) #[G z0 os.length z1,G sa qs.length sc];have bc:=z0m ah (g:=w.heap.size+1) (by omega) #[G z0 os.length z1,G sa qs.length sc];have oc:=cluK.own_out HR.out.2.1 am (fun x hx=>by have:=HR.out.2.2.2 x hx;simp only[Vb];omega);clear am af HO aG
   go_wp2_with (first|(refine z0s (by kernel_rfl) 30 _ _ rfl _ #[G z0 os.length z1,G sa qs.length sc] rfl rfl 30 _ aP q6F rfl (by simp[Value.oneCell']) ?_))
   obtain⟨r0,r1⟩:=Rz.cel2;exact bodyPost_ret (v:=.agg #[G z0 os.length z1,G sa qs.length sc]) (by simp[results,results66,go_sem,r0,r1]) rfl ⟨⟨G z0 os.length z1,os,G sa qs.length sc,qs⟩,rfl,HR.out.1.trans HX.out,oc,HR.out.2.2.1,fun x hx=>by have:=HR.out.2.2.2 x hx;omega,bc⟩
theorem z5e(b:Nat)(n:Nat)(a0:Option Addr)(k0:Nat)(v:Value)(w:World)(hB:Blk w b 30 #[G a0 n k0,v])(hn:n≤1048576):
  Calls P 35 #[.pointer (some ⟨b,0,none⟩)] w fun e w'=>e=.returned (H Q (((n:Int)+2).tmod 3))∧Below w.heap.size w w':=by
 have c0:=hB.cell 0 _ rfl;go_enter func35,ntmps35
 go_wp2
 go_ret;exact⟨rfl,Below.refl _ _⟩
theorem z73(n m:Nat)(a0 a1:Option Addr)(k0 k1:Nat)(w:World)(hn:n≤1048576):
  Calls P 22 #[.agg #[G a0 n k0,G a1 m k1]] w fun e w'=>e=.returned (H Q (((n:Int)+2).tmod 3))∧Below w.heap.size w w':=by
 have b0:Below w.heap.size w (w.alloc (.cells #[G a0 n k0,G a1 m k1] 30)):=by go_grown
 go_enter func22,ntmps22
 go_wp2
 go_ret;exact⟨rfl,b0⟩
def q1V:CluQ:=⟨G none 0 0,[],G none 0 0,[]⟩
theorem q4C(w:World):cluK.own w q1V∧cluK.foot q1V=[]:=by
 obtain⟨h1,h2⟩:=Kind.own_nil (K:=instK) w;obtain⟨h3,h4⟩:=Kind.own_nil (K:=nodeK) w;exact⟨⟨h1,h3⟩,by show instK.fp (G none 0 0) []++nodeK.fp (G none 0 0) []=_;rw[h2,h4];rfl⟩
theorem z0y(w:World)(B:Nat):cluK.own w q1V∧(cluK.foot q1V).Nodup∧∀k∈cluK.foot q1V,B≤k:=by
 obtain⟨h1,h2⟩:=q4C w;exact⟨h1,by rw[h2];simp,by rw[h2];simp⟩
theorem z3j(D:Int)(w:World):
  Calls P 16 #[H Q D] w fun e w'=>e=.returned (.agg #[H Q D,H Q 0,G none 0 0,G none 0 0])∧Below w.heap.size w w':=by
 have Rb:=Vc w 32 #[H Q 0,H Q 0,G none 0 0,G none 0 0];have b0:Below w.heap.size w (w.alloc (.cells #[H Q 0,H Q 0,G none 0 0,G none 0 0] 32)):=by go_grown
 go_enter func16,ntmps16;have Rr:=Rb.row #[H Q D,H Q 0,G none 0 0,G none 0 0];have U:=z0v (w.alloc (.cells #[H Q 0,H Q 0,G none 0 0,G none 0 0] 32)) (w.heap.size) #[H Q D,H Q 0,G none 0 0,G none 0 0];have b3:=Out.keep b0 U b0.size (fun k hk=>by simp only[Vb]at hk;omega);have hsr:(P.info? 32).map (·.size)=some (#[H Q D,H Q 0,G none 0 0,G none 0 0]:Array Value).size:=by kernel_rfl
 go_wp2_with (refine z0s (by kernel_rfl) 32 _ _ rfl _ #[H Q D,H Q 0,G none 0 0,G none 0 0] rfl rfl 32 _ Rb hsr rfl (by simp[Value.oneCell']) ?_)
 obtain⟨r0,r1,r2,r3⟩:=Rr.cel4;exact bodyPost_ret (v:=.agg #[H Q D,H Q 0,G none 0 0,G none 0 0]) (by simp[results,results16,go_sem,r0,r1,r2,r3]) rfl ⟨rfl,b3⟩
end Go.Proofs.YtdppipeclnldeaaGreatDoor
