/- Texts joined,with what the laws reach alone. -/
import Derived.Test.YtljbililjlafcaaGreatDoorILAO
import Derived.Test.YtljbililjlafcaaGreatDoorILAK
set_option linter.unusedVariables false
set_option linter.unusedSimpArgs false
set_option maxRecDepth 100000
set_option maxHeartbeats 16000000
namespace Go.Proofs.YtljbililjlafcaaGreatDoor
open Go.RowKit Go.BigFrame
theorem q2g(v v':Value)(xs ys:List TxnQ)(w:World)(h:txnK.At w v xs)(h':txnK.At w v' ys)(hl:xs.length+nmL TxnQ.n xs≤1048576)(hl':ys.length+nmL TxnQ.n ys≤1048576):
  Calls Tryz.prog 39 #[v,v'] w fun e w'=>e=.returned (.bool (sameTs (xs.map TxnQ.e) (ys.map TxnQ.e)))∧Below w.heap.size w w':=
 z00 v v' _ _ w (z0k h) (z0k h') (by rw[List.length_map,z0u];omega) (by rw[List.length_map,z0u];omega)
theorem q1m(v v':Value)(xs ys:List TxnQ)(w:World)(h:txnK.At w v xs)(h':txnK.At w v' ys)(hl:xs.length+nmL TxnQ.n xs≤1048576)(hl':ys.length+nmL TxnQ.n ys≤1048576):
  Calls Tryz.prog 29 #[v,v'] w fun e w'=>e=.returned (.bool (sameTs (xs.map TxnQ.e) (ys.map TxnQ.e)))∧Below w.heap.size w w':=
 z0N v v' _ _ w (z0k h) (z0k h') (by rw[List.length_map,z0u];omega) (by rw[List.length_map,z0u];omega)
theorem z8h(v:Value)(ps:List InstQ)(w:World)(h:instK.At w v ps)(hl:(ps.length+nmL InstQ.n ps)≤1048576)(h0:ordF (ps.map InstQ.e)=0):
  Calls Tryz.prog 15 #[v] w fun e w'=>e=.returned (.int .i64 (decN (ps.map InstQ.e):Int))∧Below w.heap.size w w':=by
 have h1:=((z2b _).1 h0).1;rw[List.length_map]at h1;exact z6a v ps w h hl h1.1 h1.2
theorem z8i(v:Value)(ps:List InstQ)(n:Int)(w:World)(h:instK.At w v ps)(hl:(ps.length+nmL InstQ.n ps)≤1048576)(h0:ordF (ps.map InstQ.e)=0)(hn:0≤n∧n≤(decN (ps.map InstQ.e):Int)):
  Calls Tryz.prog 14 #[v,.int .i64 n] w fun e w'=>∃v' qs,e=.returned v'∧qs.map TxnQ.e=defL (ps.map InstQ.e) n.toNat∧txnK.Own w' v' qs∧(txnK.fp v' qs).Nodup∧(∀k∈txnK.fp v' qs,w.heap.size≤k)∧Below w.heap.size w w':=by
 have h1:=((z2b _).1 h0).1;have hm:=z2G h0;have hd:=q0F (ps.map InstQ.e);rw[List.length_map]at h1 hd;obtain⟨m,rfl⟩:∃m:Nat,n=(m:Int):=⟨n.toNat,by omega⟩
 rw[Int.toNat_natCast];exact z5d v ps m w h (fun q hq=>q3k (hm _ (List.mem_map.2 ⟨q,hq,rfl⟩))) (fun q hq=>q4Q (hm _ (List.mem_map.2 ⟨q,hq,rfl⟩))) (by omega) h1.2 hl
structure Off (w:World) (b o:Nat) (cs:Array Value):Prop where
 lt:b<w.heap.size
 cell:∀ (j:Nat) (x:Value),cs[j]?=some x→w.cell? ⟨b,o+j,none⟩=some x
theorem Off.below{w w':World}{b o:Nat}{cs:Array Value}(h:Off w b o cs)(hb:Below w.heap.size w w'):Off w' b o cs:=
 ⟨Nat.lt_of_lt_of_le h.lt hb.size,fun j x hx=>(hb.cell (p:=⟨b,o+j,none⟩) h.lt).trans (h.cell j x hx)⟩
theorem Off.cell0{w:World}{b o:Nat}{cs:Array Value}(h:Off w b o cs)(x:Value)(hx:cs[0]?=some x):w.cell? ⟨b,o,none⟩=some x:=h.cell 0 x hx
theorem Off.lat{w:World}{b o:Nat}{cs:Array Value}(h:Off w b o cs)(j:Nat)(x:Value)(hx:cs[j]?=some x):∀u:Lat w,u.val.cell? ⟨b,o+j,none⟩=some x:=z0a (h.cell j x hx)
theorem Off.lat0{w:World}{b o:Nat}{cs:Array Value}(h:Off w b o cs)(x:Value)(hx:cs[0]?=some x):∀u:Lat w,u.val.cell? ⟨b,o,none⟩=some x:=z0a (h.cell0 x hx)
theorem q2h(x z:Int)(y:Nat)(b b':Nat)(p q:RepQ)(w:World)(hP:Blk w b 73 #[p.vd,p.vb,p.vt,p.vu,p.vn])(hQ:Off w b' y #[.int .i64 x,.int .i64 z,q.vd,q.vb,q.vt,q.vu,q.vn])(h:repK.rd w p)(h':repK.rd w q)(hl:p.n≤1048576)(A:q.n≤1048576):
  Calls Tryz.prog 86 #[.pointer (some ⟨b,0,none⟩),.pointer (some ⟨b',y+2,none⟩)] w fun e w'=>e=.returned (.bool (sameRep p.e q.e))∧Below w.heap.size w w':=by
 obtain⟨D,pd,C,pb,J,pt,L,pu,I,pn⟩:=p;obtain⟨p0,p5,rfl⟩:∃a c,D=.slice a pd.length c:=h.1.shape;obtain⟨p1,p6,rfl⟩:∃a c,C=.slice a pb.length c:=h.2.1.shape;obtain⟨p2,p7,rfl⟩:∃a c,J=.slice a pt.length c:=h.2.2.1.shape;obtain⟨p3,p8,rfl⟩:∃a c,L=.slice a pu.length c:=h.2.2.2.1.shape;obtain⟨p4,p9,rfl⟩:∃a c,I=.slice a pn.length c:=h.2.2.2.2.shape;obtain⟨N,qd,M,qb,T,qt,U,qu,O,qn⟩:=q;obtain⟨q0,q5,rfl⟩:∃a c,N=.slice a qd.length c:=h'.1.shape;obtain⟨q1,q6,rfl⟩:∃a c,M=.slice a qb.length c:=h'.2.1.shape;obtain⟨q2,q7,rfl⟩:∃a c,T=.slice a qt.length c:=h'.2.2.1.shape;obtain⟨q3,q8,rfl⟩:∃a c,U=.slice a qu.length c:=h'.2.2.2.1.shape;obtain⟨q4,q9,rfl⟩:∃a c,O=.slice a qn.length c:=h'.2.2.2.2.shape;dsimp only[RepQ.n]at hl A;have c0:=fun w h h'=>z0N (.slice p0 pd.length p5) (.slice q0 qd.length q5) (pd.map TxnQ.e) (qd.map TxnQ.e) w (z0k h) (z0k h') (by rw[List.length_map,z0u];omega) (by rw[List.length_map,z0u];omega)
 have c1:=fun w h h'=>z1z p1 q1 p6 q6 pb qb w h h' (by omega) (by omega)
 have c2:=fun w h h'=>z0N (.slice p2 pt.length p7) (.slice q2 qt.length q7) (pt.map TxnQ.e) (qt.map TxnQ.e) w (z0k h) (z0k h') (by rw[List.length_map,z0u];omega) (by rw[List.length_map,z0u];omega)
 have c3:=fun w h h'=>z4F (.slice p3 pu.length p8) (.slice q3 qu.length q8) pu qu w h h' (by omega) (by omega)
 have c4:=fun w h h'=>z1z p4 q4 p9 q9 pn qn w h h' (by omega) (by omega)
 obtain⟨r0,r1,r2,r3,r4⟩:txnK.At w (.slice p0 pd.length p5) pd∧itemK.At w (.slice p1 pb.length p6) pb∧txnK.At w (.slice p2 pt.length p7) pt∧ussK.At w (.slice p3 pu.length p8) pu∧itemK.At w (.slice p4 pn.length p9) pn:=h;obtain⟨s0,s1,s2,s3,s4⟩:txnK.At w (.slice q0 qd.length q5) qd∧itemK.At w (.slice q1 qb.length q6) qb∧txnK.At w (.slice q2 qt.length q7) qt∧ussK.At w (.slice q3 qu.length q8) qu∧itemK.At w (.slice q4 qn.length q9) qn:=h';replace r1:=(z0T r1).2;replace r4:=(z0T r4).2;replace s1:=(z0T s1).2;replace s4:=(z0T s4).2;have E:Hid (sameRep ⟨pd.map TxnQ.e,pb,pt.map TxnQ.e,pu.map USQ.e,pn⟩ ⟨qd.map TxnQ.e,qb,qt.map TxnQ.e,qu.map USQ.e,qn⟩=(sameTs (pd.map TxnQ.e) (qd.map TxnQ.e) && (sameIs pb qb && (sameTs (pt.map TxnQ.e) (qt.map TxnQ.e) && (sameUss (pu.map USQ.e) (qu.map USQ.e) && sameIs pn qn))))):=show _=_ from rfl
 dsimp only[RepQ.e];generalize sameTs (pd.map TxnQ.e) (qd.map TxnQ.e)=X0 at*;generalize sameIs pb qb=X1 at*;generalize sameTs (pt.map TxnQ.e) (qt.map TxnQ.e)=X2 at*;generalize sameUss (pu.map USQ.e) (qu.map USQ.e)=X3 at*;generalize sameIs pn qn=X4 at*;generalize sameRep ⟨pd.map TxnQ.e,pb,pt.map TxnQ.e,pu.map USQ.e,pn⟩ ⟨qd.map TxnQ.e,qb,qt.map TxnQ.e,qu.map USQ.e,qn⟩=S at*;have f0:=hP.lat 0 _ rfl;have g0:=hQ.lat 2 _ rfl;have f1:=hP.lat 1 _ rfl;have g1:=hQ.lat 3 _ rfl;have f2:=hP.lat 2 _ rfl;have g2:=hQ.lat 4 _ rfl;have f3:=hP.lat 3 _ rfl;have g3:=hQ.lat 5 _ rfl;have f4:=hP.lat 4 _ rfl;have g4:=hQ.lat 6 _ rfl;have hW:Below w.heap.size w w.drew:=(Below.refl _ _).drew;have V:Nonempty (Lat w):=⟨⟨w,Below.refl _ _⟩⟩
 go_enter Tryz.func86,Tryz.ntmps86
 go_wp2_with fail
 refine z0b (S:=fun w'=>∃u:Lat w,w'=u.val) (by kernel_rfl) ?_;refine sgr [(0,8)] 46 (by kernel_rfl) ⟨⟨_,hW⟩,rfl⟩ ?_;simp only[pkE];repeat go_big_quiet_step (fail)
 refine wpQuiet_nil ?_;refine cla 8 (some 13) 29 #[.slice p0 pd.length p5,.slice q0 qd.length q5] 45 (by kernel_rfl) ?_;refine(c0 _ (r0.below hW) (s0.below hW)).mono ?_;rintro e w9 ⟨rfl,d⟩;replace hW:=hW.trans (d.mono hW.size);clear d;refine⟨_,rfl,⟨⟨_,hW⟩,rfl⟩,?_⟩;simp only[Act.put,pjE]
 cases X0
 all_goals
  refine sgr [(9,9)] 36 (by kernel_rfl) ⟨⟨_,hW⟩,rfl⟩ ?_;simp only[pkE];repeat go_big_quiet_step (fail)
  refine wpQuiet_nil ?_
 focus
  refine ska 18 (some 23) 35 (by kernel_rfl) ⟨⟨_,hW⟩,rfl⟩ ?_;simp only[Act.put,pjE]
 rotate_left
 focus
  refine cla 18 (some 23) 29 #[.slice p2 pt.length p7,.slice q2 qt.length q7] 35 (by kernel_rfl) ?_;refine(c2 _ (r2.below hW) (s2.below hW)).mono ?_;rintro e w9 ⟨rfl,d⟩;replace hW:=hW.trans (d.mono hW.size);clear d;refine⟨_,rfl,⟨⟨_,hW⟩,rfl⟩,?_⟩;simp only[Act.put,pjE]
  cases X2
 rotate_right
 all_goals
  refine sgr [(19,10)] 25 (by kernel_rfl) ⟨⟨_,hW⟩,rfl⟩ ?_;simp only[pkE];repeat go_big_quiet_step (fail)
  refine wpQuiet_nil ?_
 iterate 2
  focus
   refine ska 29 (some 34) 24 (by kernel_rfl) ⟨⟨_,hW⟩,rfl⟩ ?_;simp only[Act.put,pjE]
  rotate_left
 focus
  refine cla 29 (some 34) 110 #[.slice p1 pb.length p6,.slice q1 qb.length q6] 24 (by kernel_rfl) ?_;refine(c1 _ (r1.below hW) (s1.below hW)).mono ?_;rintro e w9 ⟨rfl,d⟩;replace hW:=hW.trans (d.mono hW.size);clear d;refine⟨_,rfl,⟨⟨_,hW⟩,rfl⟩,?_⟩;simp only[Act.put,pjE]
  cases X1
 rotate_right 2
 all_goals
  refine sgr [(30,10)] 14 (by kernel_rfl) ⟨⟨_,hW⟩,rfl⟩ ?_;simp only[pkE];repeat go_big_quiet_step (fail)
  refine wpQuiet_nil ?_
 iterate 3
  focus
   refine ska 40 (some 45) 13 (by kernel_rfl) ⟨⟨_,hW⟩,rfl⟩ ?_;simp only[Act.put,pjE]
  rotate_left
 focus
  refine cla 40 (some 45) 110 #[.slice p4 pn.length p9,.slice q4 qn.length q9] 13 (by kernel_rfl) ?_;refine(c4 _ (r4.below hW) (s4.below hW)).mono ?_;rintro e w9 ⟨rfl,d⟩;replace hW:=hW.trans (d.mono hW.size);clear d;refine⟨_,rfl,⟨⟨_,hW⟩,rfl⟩,?_⟩;simp only[Act.put,pjE]
  cases X4
 rotate_right 3
 all_goals
  refine sgr [(41,10)] 3 (by kernel_rfl) ⟨⟨_,hW⟩,rfl⟩ ?_;simp only[pkE];repeat go_big_quiet_step (fail)
  refine wpQuiet_nil ?_
 iterate 4
  focus
   refine ska 51 (some 56) 2 (by kernel_rfl) ⟨⟨_,hW⟩,rfl⟩ ?_;simp only[Act.put,pjE]
  rotate_left
 focus
  refine cla 51 (some 56) 111 #[.slice p3 pu.length p8,.slice q3 qu.length q8] 2 (by kernel_rfl) ?_;refine(c3 _ (r3.below hW) (s3.below hW)).mono ?_;rintro e w9 ⟨rfl,d⟩;replace hW:=hW.trans (d.mono hW.size);clear d;refine⟨_,rfl,⟨⟨_,hW⟩,rfl⟩,?_⟩;simp only[Act.put,pjE]
 rotate_right 4
 all_goals
  refine sgr [(52,2)] 0 (by kernel_rfl) ⟨⟨_,hW⟩,rfl⟩ ?_;simp only[pkE];repeat go_big_quiet_step (fail)
  refine wpQuiet_nil ?_
 all_goals
  refine z0f (by kernel_rfl) ?_
  go_wp2
  go_ret;exact⟨by rw[E.out];simp,hW⟩
theorem q1n(U V:Int)(y:Nat)(b:Nat)(p:RepQ)(w:World)(hB:Off w b y #[.int .i64 U,.int .i64 V,p.vd,p.vb,p.vt,p.vu,p.vn])(h:repK.own w p)(hl:p.n≤1048576):
  Calls Tryz.prog 55 #[.pointer (some ⟨b,y+2,none⟩)] w fun e w'=>e=.returned (.int .i64 (repF p.e))∧Below w.heap.size w w':=by
 obtain⟨aL,pd,aK,pb,aN,pt,aO,pu,aM,pn⟩:=p;obtain⟨p0,p5,rfl⟩:∃a c,aL=.slice a pd.length c:=h.1.shape;obtain⟨p1,p6,rfl⟩:∃a c,aK=.slice a pb.length c:=h.2.1.shape;obtain⟨p2,p7,rfl⟩:∃a c,aN=.slice a pt.length c:=h.2.2.1.shape;obtain⟨p3,p8,rfl⟩:∃a c,aO=.slice a pu.length c:=h.2.2.2.1.shape;obtain⟨p4,p9,rfl⟩:∃a c,aM=.slice a pn.length c:=h.2.2.2.2.shape;dsimp only[RepQ.n]at hl;have h0:=repK.own_rd h;have W:∀q∈pd,z7t q:=fun q hq=>z8K (h.1.2 q hq)
 have Y:∀q∈pt,z7t q:=fun q hq=>z8K (h.2.2.1.2 q hq)
 have nd:=h.1.niceV;have nt:=h.2.2.1.niceV;have hr:=fun(w':World) hb=>repK.rd_below (w':=w') h0 hb
 have aU:(pd.length:Int)≤1048576:=by omega
 have aV:(pt.length:Int)≤1048576:=by omega
 have q0:=hB.cell 2 _ rfl;have q2:=hB.cell 4 _ rfl;clear h h0;by_cases hm:16<pd.length∨8<pt.length
 ·have HC:Hid (repF (RepQ.e (⟨.slice p0 pd.length p5,pd,.slice p1 pb.length p6,pb,.slice p2 pt.length p7,pt,.slice p3 pu.length p8,pu,.slice p4 pn.length p9,pn⟩:RepQ))=2):=show _=_ from z8F (by simpa[RepQ.e]using hm)
  generalize repF (RepQ.e (⟨.slice p0 pd.length p5,pd,.slice p1 pb.length p6,pb,.slice p2 pt.length p7,pt,.slice p3 pu.length p8,pu,.slice p4 pn.length p9,pn⟩:RepQ))=c at*;clear hr W Y nd nt;by_cases aQ:16<pd.length
  ·have ay:(16:Int)<(pd.length:Int):=by omega
   go_enter Tryz.func55,Tryz.ntmps55
   go_wp2
   go_ret;exact⟨by first|(rw[HC.out];done)|(rw[HC.out];rfl)|(simp[HC.out]),Below.refl _ _⟩
  ·have ay:¬(16:Int)<(pd.length:Int):=by omega
   have i8:(8:Int)<(pt.length:Int):=by omega
   go_enter Tryz.func55,Tryz.ntmps55
   go_wp2
   go_ret;exact⟨by first|(rw[HC.out];done)|(rw[HC.out];rfl)|(simp[HC.out]),Below.refl _ _⟩
 have ay:¬(16:Int)<(pd.length:Int):=by omega
 have i8:¬(8:Int)<(pt.length:Int):=by omega
 have aP:pd.length≤16:=by omega
 have aT:pt.length≤8:=by omega
 have ae:¬(16<(pd.map TxnQ.e).length∨8<(pt.map TxnQ.e).length):=by simpa using hm
 have A:=Wrp.mk (z8G (r:=RepQ.e (⟨.slice p0 pd.length p5,pd,.slice p1 pb.length p6,pb,.slice p2 pt.length p7,pt,.slice p3 pu.length p8,pu,.slice p4 pn.length p9,pn⟩:RepQ)) ae);have C:=Wrp.mk (z8H (r:=RepQ.e (⟨.slice p0 pd.length p5,pd,.slice p1 pb.length p6,pb,.slice p2 pt.length p7,pt,.slice p3 pu.length p8,pu,.slice p4 pn.length p9,pn⟩:RepQ)) ae);dsimp only[RepQ.e]at A C⊢;clear hm ae;generalize repF _=CC at*;have aq:=fun(w':World) (hb:Below w.heap.size w w')=>z2z (.slice p0 pd.length p5) pd w' (hr w' hb).1 W (by omega)
 have ar:=fun(w':World) (hb:Below w.heap.size w w')=>z2z (.slice p2 pt.length p7) pt w' (hr w' hb).2.2.1 Y (by omega)
 go_enter Tryz.func55,Tryz.ntmps55
 go_wp2_with fail
 clear q0 q2;have f0:=hB.lat 2 _ rfl;have f2:=hB.lat 4 _ rfl;have hW:Below w.heap.size w w.drew:=(Below.refl _ _).drew;have ax:Nonempty (Lat w):=⟨⟨w,Below.refl _ _⟩⟩
 refine z0b (S:=fun w'=>∃u:Lat w,w'=u.val) (by kernel_rfl) ?_;refine sgr [(0,4),(5,4)] 5 (by kernel_rfl) ⟨⟨_,hW⟩,rfl⟩ ?_;simp only[pkE];repeat go_big_quiet_step (fail)
 refine wpQuiet_nil ?_;refine cla 4 (some 23) 84 #[.slice p0 pd.length p5] 4 (by kernel_rfl) ?_;refine(aq _ hW).mono ?_;rintro e x1 ⟨v1,q1,rfl,e1,o1,n1,g1,d⟩;have ND:Hid (∀k,∀q∈q1,k∈txnK.foot q→k∉blk v1):=fun k q hq hk hb=>(List.nodup_append.1 n1).2.2 k hb k (List.mem_flatMap.2 ⟨q,hq,hk⟩) rfl
 clear n1;obtain⟨a1,k1,rfl⟩:=o1.shape;have aW:=hW.size;replace hW:=hW.trans (d.mono hW.size);clear d;refine⟨_,rfl,⟨⟨_,hW⟩,rfl⟩,?_⟩;simp only[Act.put,pjE];refine cla 9 (some 28) 84 #[.slice p2 pt.length p7] 3 (by kernel_rfl) ?_;refine(ar _ hW).mono ?_;rintro e x2 ⟨v2,q2,rfl,e2,o2,_,g2,d⟩;obtain⟨a2,k2,rfl⟩:=o2.shape;have aX:=hW.size;have i1:=o1.lt;replace o1:=o1.below d;replace hW:=hW.trans (d.mono hW.size);clear d;refine⟨_,rfl,⟨⟨_,hW⟩,rfl⟩,?_⟩;simp only[Act.put,pjE];have aY:=hW.size;obtain⟨i0,hi,aB,aC,aD⟩:=info_parts z09;have l1:q1.length=pd.length:=by simpa using congrArg List.length e1
 have l2:q2.length=pt.length:=by simpa using congrArg List.length e2
 obtain⟨_,_,ee,J,az⟩:=o2.at;simp only[Value.slice.injEq,true_and]at ee;obtain⟨rfl,rfl⟩:=ee;have w1:q1.length+q2.length≤maxLen:=by unfold maxLen;omega
 have w2:(q1.length+q2.length)*48≤140737488355328:=by omega
 clear l1 l2;refine ona 10 2 rfl (by kernel_rfl) ?_;refine z03 (K:=txnK) _ rfl _ _ 40 rfl i0 (.agg #[.int .i64 0,.int .i64 0,.int .i64 0,.slice none 0 0]) 48 Tryz.underlying40 hi aB aC aD rfl (by decide) 0 _ q1 rfl o1.1 _ q2 _ rfl J (z6p az) (o2.niceV _ _ _ rfl) w1 w2 (by omega) ?_;intro v3 x3 ag au;have M:Out (blk (.slice a1 q1.length k1)) x2 x3:=Out.of_grown au;have Z:∀x∈blk (.slice a1 q1.length k1),w.heap.size≤x∧x<x1.heap.size:=fun x hx=>⟨by have:=g1 x (by simp only[Kind.fp,List.mem_append];exact Or.inl hx);omega,i1 x (by simp only[Kind.fp,List.mem_append];exact Or.inl hx)⟩
 have aa:txnK.At x3 v3 (q1 ++ q2):=Kind.at_of_row ag (fun q hq=>by
  rcases List.mem_append.1 hq with hq|hq
  ·exact txnK.own_rd (txnK.own_out (o1.2 q hq) M (fun k hk e=>ND.out k q hq hk e))
  ·exact txnK.own_rd (txnK.own_out (o2.2 q hq) M (fun k hk e=>by
    have:=g2 k (by simp only[Kind.fp,List.mem_append,List.mem_flatMap];exact Or.inr ⟨q,hq,hk⟩);have:=(Z k e).2;omega)))
 replace hW:=Out.keep hW M (by omega) (fun x hx=>(Z x hx).1);have aA:=q2e ag;obtain⟨a3,k3,rfl⟩:=aa.shape
 go_wp2
 refine ThenGo.to ⟨⟨⟨_,hW⟩,rfl⟩,?_⟩;have aw:(q1++q2).length+nmL TxnQ.n (q1++q2)≤1048576:=by
  have e:nmL TxnQ.n (q1++q2)=nmL TxnQ.n q1+nmL TxnQ.n q2:=by simp[nmL]
  have s1:=q2A e1;have s2:=q2A e2;rw[List.length_append,e];omega
 have ad:=fun w h=>z72 (.slice a3 (q1++q2).length k3) (q1++q2) w h aA aw
 rw[List.map_append,e1,e2]at ad;simp only[Act.put,pgE,pjE];refine cla 11 (some 30) 83 #[.slice a3 (q1++q2).length k3] 1 (by kernel_rfl) ?_;refine(ad _ aa).mono ?_;rintro e x4 ⟨rfl,d⟩;replace hW:=hW.trans (d.mono hW.size);clear d ad aa ag au M o1 o2 g1 g2 i1 Z J az ND;refine⟨_,rfl,⟨⟨_,hW⟩,rfl⟩,?_⟩;simp only[Act.put,pjE];refine sgr [(12,1)] 0 (by kernel_rfl) ⟨⟨_,hW⟩,rfl⟩ ?_;simp only[pkE];repeat go_big_quiet_step (fail)
 refine wpQuiet_nil ?_;refine z0f (by kernel_rfl) ?_;clear f0 f2 ax aq ar W Y nd nt e1 e2 w1 w2;by_cases hL:lstF (pd.map TxnQ.e++pt.map TxnQ.e)=0
 case neg=>
  have HC:Hid (CC=lstF (pd.map TxnQ.e++pt.map TxnQ.e)):=A.out hL;clear A C;generalize lstF (pd.map TxnQ.e++pt.map TxnQ.e)=c at*;have aR:(c !=0)=true:=by simpa using hL
  go_wp2
  go_ret;exact⟨by first|(rw[HC.out];done)|(rw[HC.out];rfl)|(simp[HC.out]),hW⟩
 have E:=q4p hL;have aj:∀q∈pd,(TxnQ.e q).F=0:=fun q hq=>E _ (List.mem_append_left _ (List.mem_map_of_mem hq))
 have al:∀q∈pt,(TxnQ.e q).F=0:=fun q hq=>E _ (List.mem_append_right _ (List.mem_map_of_mem hq))
 have HC:=Wrp.mk (C.out hL);rw[hL];clear A C hL;have L:=hB.below hW;have O:=hr _ hW;have af:=fun(w':World) (hb:Below x4.heap.size x4 w')=>z9I (.slice p0 pd.length p5) (.slice p2 pt.length p7) pd pt w' (O.1.below hb) (O.2.2.1.below hb) aj al (by omega) (by omega)
 have ab:=hW;clear hW
 go_wp2_with fail
 generalize hX:x4=X at*;clear hX;try clear aw
 generalize (q1++q2).length=QL;have f0:=L.lat 2 _ rfl;have f2:=L.lat 4 _ rfl;refine z1o [some 34,some 35,some 36,some 37,some 38,some 39,some 40,some 41,some 42,some 4] (fun vs w'=>∃ (m:RepQ) (g:Nat),vs=[.pointer (some ⟨b,y+2,none⟩),.pointer (some ⟨b,y+2,none⟩),.pointer (some ⟨b,y+2,none⟩),.slice p0 pd.length p5,.pointer (some ⟨b,y+2,none⟩),.pointer (some ⟨b,y+2,none⟩),.pointer (some ⟨b,y+4,none⟩),.slice p2 pt.length p7,.agg #[m.vd,m.vb,m.vt,m.vu,m.vn],.pointer (some ⟨g,0,none⟩)]∧X.heap.size≤g∧Blk w' g 73 #[m.vd,m.vb,m.vt,m.vu,m.vn]∧m.e=mkR (pd.map TxnQ.e) (pt.map TxnQ.e)∧repK.own w' m∧Below X.heap.size X w') ?_ ?_
 ·have hW:Below X.heap.size X X.drew:=(Below.refl _ _).drew;have ax:Nonempty (Lat X):=⟨⟨X,Below.refl _ _⟩⟩
  refine z0b (S:=fun w'=>∃u:Lat X,w'=u.val) (by kernel_rfl) ?_;refine sgr [(0,8)] 3 (by kernel_rfl) ⟨⟨_,hW⟩,rfl⟩ ?_;simp only[pkE];repeat go_big_quiet_step (fail)
  refine wpQuiet_nil ?_;clear f0 f2;generalize X.drew=wd at hW⊢;refine twa 8 9 2 (by kernel_rfl) ?_ ?_
  focus
   skip;refine opc 8 (some 42) 85 #[.slice p0 pd.length p5,.slice p2 pt.length p7] (by kernel_rfl) ?_;refine(af _ hW).mono ?_;rintro e x1 ⟨m,rfl,em,om,nm,gm,hb⟩;clear nm;replace hW:=hW.trans (hb.mono hW.size);clear hb gm;refine⟨_,rfl,⟨⟨_,hW⟩,rfl⟩,?_⟩;simp only[Act.put,pgE,pjE];refine ona 9 1 rfl (by kernel_rfl) ?_;have Bz:=Blk.new x1 73 #[.slice none 0 0,.slice none 0 0,.slice none 0 0,.slice none 0 0,.slice none 0 0];have aE:X.heap.size≤x1.heap.size:=hW.size;have D:Below x1.heap.size x1 (x1.alloc (.cells #[.slice none 0 0,.slice none 0 0,.slice none 0 0,.slice none 0 0,.slice none 0 0] 73)):=by go_grown
   have ah:∀k∈repK.foot m,k≠x1.heap.size:=fun k hk=>by have:=repK.own_lt om k hk;omega
   replace om:=repK.own_out (F:=[]) om (Out.of_below D) (fun _ _=>by simp);replace hW:=hW.trans (D.mono hW.size);clear D;have ai:=Bz.lt
   go_wp2
   refine ThenGo.to ⟨⟨⟨_,hW⟩,rfl⟩,?_⟩;generalize an:x1.heap.size=g at*;generalize x1.alloc (.cells #[.slice none 0 0,.slice none 0 0,.slice none 0 0,.slice none 0 0,.slice none 0 0] 73)=y1 at*;clear an
  rotate_left
  focus
   skip;refine z2u 9 _ rfl ?_;have Bz:=Blk.new wd 73 #[.slice none 0 0,.slice none 0 0,.slice none 0 0,.slice none 0 0,.slice none 0 0];have aE:X.heap.size≤wd.heap.size:=hW.size;have D:Below wd.heap.size wd (wd.alloc (.cells #[.slice none 0 0,.slice none 0 0,.slice none 0 0,.slice none 0 0,.slice none 0 0] 73)):=by go_grown
   replace hW:=hW.trans (D.mono hW.size);clear D;have ai:=Bz.lt
   go_wp2
   refine ThenGo.to ⟨⟨⟨_,hW⟩,rfl⟩,?_⟩;generalize ao:wd.heap.size=g at*;generalize wd.alloc (.cells #[.slice none 0 0,.slice none 0 0,.slice none 0 0,.slice none 0 0,.slice none 0 0] 73)=y2 at*;clear ao;refine cla 8 (some 42) 85 #[.slice p0 pd.length p5,.slice p2 pt.length p7] 1 (by kernel_rfl) ?_;refine(af _ hW).mono ?_;rintro e x2 ⟨m,rfl,em,om,nm,gm,hb⟩;clear nm;have ah:∀k∈repK.foot m,k≠g:=fun k hk=>by have:=gm k hk;have:=Bz.lt;omega
   replace Bz:=Bz.below hb;replace hW:=hW.trans (hb.mono hW.size);clear hb gm;refine⟨_,rfl,⟨⟨_,hW⟩,rfl⟩,?_⟩;simp only[Act.put,pgE,pjE]
  rotate_left
  all_goals
   obtain⟨aG,md,aF,mb,aI,mt,aJ,mu,aH,mn⟩:=m;obtain⟨s0,t0,rfl⟩:∃a c,aG=.slice a md.length c:=om.1.shape;obtain⟨s1,t1,rfl⟩:∃a c,aF=.slice a mb.length c:=om.2.1.shape;obtain⟨s2,t2,rfl⟩:∃a c,aI=.slice a mt.length c:=om.2.2.1.shape;obtain⟨s3,t3,rfl⟩:∃a c,aJ=.slice a mu.length c:=om.2.2.2.1.shape;obtain⟨s4,t4,rfl⟩:∃a c,aH=.slice a mn.length c:=om.2.2.2.2.shape;refine ona 10 0 rfl (by kernel_rfl) ?_;have av:X.heap.size≤g:=by omega
   have Rz:=Bz.row #[.slice s0 md.length t0,.slice s1 mb.length t1,.slice s2 mt.length t2,.slice s3 mu.length t3,.slice s4 mn.length t4];have oz:=repK.own_out om (z2F _ g #[.slice s0 md.length t0,.slice s1 mb.length t1,.slice s2 mt.length t2,.slice s3 mu.length t3,.slice s4 mn.length t4]) (fun k hk=>by simp only[List.mem_singleton];exact ah k hk);replace hW:=z0x hW av #[.slice s0 md.length t0,.slice s1 mb.length t1,.slice s2 mt.length t2,.slice s3 mu.length t3,.slice s4 mn.length t4];refine z1n (by kernel_rfl) 73 _ _ rfl _ #[.slice s0 md.length t0,.slice s1 mb.length t1,.slice s2 mt.length t2,.slice s3 mu.length t3,.slice s4 mn.length t4] rfl rfl 73 _ Bz q2z rfl (by simp[Value.oneCell']) ?_;refine ThenGo.to ⟨⟨⟨_,hW⟩,rfl⟩,?_⟩;refine z0f (by kernel_rfl) ?_;refine⟨rfl,_,⟨_,g,rfl,av,Rz,em,oz,hW⟩,?_⟩;simp only[z1V,Act.put,pgE,pjE];try rfl
 rintro vs w5 ⟨m,g,rfl,aS,Bg,em,om,N⟩;simp only[z1V,Act.put,pjE];clear f0 f2 af;have ak:∀t∈pd.map TxnQ.e,t.F=0:=fun t ht=>by obtain⟨q,hq,rfl⟩:=List.mem_map.1 ht;exact aj q hq
 have am:∀t∈pt.map TxnQ.e,t.F=0:=fun t ht=>by obtain⟨q,hq,rfl⟩:=List.mem_map.1 ht;exact al q hq
 have T:=q2h U V y g b m (⟨.slice p0 pd.length p5,pd,.slice p1 pb.length p6,pb,.slice p2 pt.length p7,pt,.slice p3 pu.length p8,pu,.slice p4 pn.length p9,pn⟩:RepQ) w5 Bg (L.below N) (repK.own_rd om) (repK.rd_below O N) (by have:=z8I em ak am (by rw[List.length_map];omega) (by rw[List.length_map];omega);omega) (by dsimp only[RepQ.n];omega);rw[em]at T;dsimp only[RepQ.e]at T;have I:=ab.trans (N.mono ab.size);clear om Bg L O em N ab
 go_wp2_with fail
 refine T.mono ?_;rintro e w6 ⟨rfl,ap⟩;replace I:=I.trans (ap.mono I.size);clear ap T
 cases hS:sameRep (mkR (pd.map TxnQ.e) (pt.map TxnQ.e)) ⟨pd.map TxnQ.e,pb,pt.map TxnQ.e,pu.map USQ.e,pn⟩with
 |false=>
  have h9:CC=(if sameRep (mkR (pd.map TxnQ.e) (pt.map TxnQ.e)) ⟨pd.map TxnQ.e,pb,pt.map TxnQ.e,pu.map USQ.e,pn⟩=true then 0 else 8):=HC.out;have z:Hid (CC=8):=show CC=8 by simpa[hS]using h9
  clear h9;clear HC
  go_wp2
  go_ret;exact⟨by first|(rw[z.out];done)|(rw[z.out];rfl)|(simp[z.out]),I⟩
 |true=>
  have h9:CC=(if sameRep (mkR (pd.map TxnQ.e) (pt.map TxnQ.e)) ⟨pd.map TxnQ.e,pb,pt.map TxnQ.e,pu.map USQ.e,pn⟩=true then 0 else 8):=HC.out;have z:Hid (CC=0):=show CC=0 by simpa[hS]using h9
  clear h9;clear HC
  go_wp2
  go_ret;exact⟨by first|(rw[z.out];done)|(rw[z.out];rfl)|(simp[z.out]),I⟩
theorem z9J(X:Nat)(v:Value)(ps:List InstQ)(b:Nat)(kn sf:Int)(p:RepQ)(w:World)(hB:Off w b X #[.int .i64 kn,.int .i64 sf,p.vd,p.vb,p.vt,p.vu,p.vn])(h:instK.At w v ps)(hl:(ps.length+nmL InstQ.n ps)≤1048576)(hp:repK.own w p)(ae:p.n≤1048576):
  Calls Tryz.prog 28 #[v,.pointer (some ⟨b,X,none⟩)] w fun e w'=>e=.returned (.int .i64 (nodF (ps.map InstQ.e) kn sf p.e))∧Below w.heap.size w w':=by
 have ag:=fun w h=>z4B v ps w h hl
 have O:=fun w h h0=>z8h v ps w h hl h0
 have N:=fun w h h0 hn=>z8i v ps kn w h hl h0 hn
 have U:=fun w hB h=>q1n kn sf X b p w hB h ae
 have af:p.done.length+nmL TxnQ.n p.done≤1048576:=by
  have:p.done.length+nmL TxnQ.n p.done≤p.n:=by simp only[RepQ.n];omega
  omega
 have I:=fun v' (ys:List TxnQ) w h h' hy=>q1m p.vd v' p.done ys w h h' af hy
 have V:Hid (ordF (ps.map InstQ.e)=0→∀ys:List TxnQ,ys.map TxnQ.e=defL (ps.map InstQ.e) kn.toNat→ys.length+nmL TxnQ.n ys≤1048576):=fun h0 ys hy=>by
  have h1:=q3B h0 kn.toNat;have h2:=q1g (qs:=ys) (by rw[hy];exact q4j (z2G h0) _);have h3:ys.length=(defL (ps.map InstQ.e) kn.toNat).length:=by rw[←hy,List.length_map]
  omega
 have T:=fun(w':World) (hb:Below w.heap.size w w')=>repK.own_out (F:=[]) (w':=w') hp (Out.of_below hb) (fun _ _=>by simp)
 have y:=z8L (ps.map InstQ.e) kn sf p.e;have ah:p.e.done=p.done.map TxnQ.e:=rfl;rw[ah]at y;generalize nodF (ps.map InstQ.e) kn sf p.e=D at*;generalize defL (ps.map InstQ.e) kn.toNat=DL at*;generalize ordF (ps.map InstQ.e)=C at*;generalize (decN (ps.map InstQ.e):Int)=M at*;generalize repF p.e=RF at*;clear ah;obtain⟨vd,done,vb,base,vt,aj,vu,Y,vn,an⟩:=p;obtain⟨a0,k0,rfl⟩:∃a c,vd=.slice a done.length c:=hp.1.shape;obtain⟨a1,k1,rfl⟩:∃a c,vb=.slice a base.length c:=hp.2.1.shape;obtain⟨a2,k2,rfl⟩:∃a c,vt=.slice a aj.length c:=hp.2.2.1.shape;obtain⟨a3,k3,rfl⟩:∃a c,vu=.slice a Y.length c:=hp.2.2.2.1.shape;obtain⟨a4,k4,rfl⟩:∃a c,vn=.slice a an.length c:=hp.2.2.2.2.shape;obtain⟨va,vc,rfl⟩:=h.shape;dsimp only at U I T y hB;clear ae af;have A0:=hB;have b1:Below w.heap.size w w:=Below.refl _ _;go_enter Tryz.func28,Tryz.ntmps28
 go_wp2_with fail
 refine(ag w h).mono ?_;rintro e w1 ⟨rfl,hb⟩;replace A0:=A0.below hb;replace b1:=b1.trans (hb.mono b1.size);clear hb ag;by_cases hC:C=0
 case neg=>
  have am:(C !=0)=true:=by simpa using hC
  have HD:Hid (D=C):=by
   rcases y with⟨_,e⟩|⟨h0,_⟩|⟨h0,_⟩|⟨h0,_⟩|⟨h0,_⟩|⟨h0,_⟩
   ·exact e
   all_goals exact absurd h0 hC
  clear y O N U I T hC V
  go_wp2
  go_ret;exact⟨by first|(rw[HD.out];done)|(rw[HD.out];rfl),b1⟩
 subst hC;have ad:=V.out rfl;have ai:=fun v' (ys:List TxnQ) w h h' hy=>I v' ys w h h' (ad ys hy)
 have al:Hid _:=ai;have L:=fun w h=>O w h rfl
 have ak:Hid _:=N;have Z:Hid _:=T;have aa:Hid _:=U;have J:Hid _:=y;clear V ad I ai O N T U y;have am:((0:Int) !=0)=false:=by decide
 have z:=fun w=>z04 kn 0 M w
 have A:=fun w=>z04 sf 0 kn w
 have c0:=A0.lat0 _ rfl;have c1:=A0.lat 1 _ rfl;have c2:=A0.lat 2 _ rfl;have c3:=A0.lat 3 _ rfl;have c4:=A0.lat 4 _ rfl;have c5:=A0.lat 5 _ rfl;have c6:=A0.lat 6 _ rfl;by_cases hk:0≤kn∧kn≤M
 case neg=>
  have HD:Hid (D=3):=by
   rcases J.out with⟨h0,_⟩|⟨_,_,e⟩|⟨_,h0,_⟩|⟨_,h0,_⟩|⟨_,h0,_⟩|⟨_,h0,_⟩
   ·exact absurd rfl h0
   ·exact e
   all_goals exact absurd h0 hk
  have hz:inB kn 0 M=false:=decide_eq_false hk;rw[hz]at z;clear hk hz
  go_wp2_with fail
  have hW:Below w1.heap.size w1 w1.drew:=(Below.refl _ _).drew;have E:Nonempty (Lat w1):=⟨⟨w1,Below.refl _ _⟩⟩
  refine z0b (S:=fun w'=>∃u:Lat w1,w'=u.val) (by kernel_rfl) ?_;refine sgr [(0,5)] 15 (by kernel_rfl) ⟨⟨_,hW⟩,rfl⟩ ?_;simp only[pkE];repeat go_big_quiet_step (fail)
  refine wpQuiet_nil ?_;refine cla 5 (some 17) 15 #[.slice va ps.length vc] 14 (by kernel_rfl) ?_;refine(L _ (h.below (b1.trans (hW.mono b1.size)))).mono ?_;rintro e w9 ⟨rfl,x⟩;replace hW:=hW.trans (x.mono hW.size);clear x;refine⟨_,rfl,⟨⟨_,hW⟩,rfl⟩,?_⟩;simp only[Act.put,pjE];refine cla 6 (some 18) 54 #[.int .i64 kn,.int .i64 0,.int .i64 M] 13 (by kernel_rfl) ?_;refine(z _).mono ?_;rintro e w9 ⟨rfl,d⟩;replace d:=d.symm;subst d;refine⟨_,rfl,⟨⟨_,hW⟩,rfl⟩,?_⟩;simp only[Act.put,pjE];refine sgr [(7,10)] 3 (by kernel_rfl) ⟨⟨_,hW⟩,rfl⟩ ?_;simp only[pkE];repeat go_big_quiet_step (fail)
  refine wpQuiet_nil ?_;refine ska 17 (some 29) 2 (by kernel_rfl) ⟨⟨_,hW⟩,rfl⟩ ?_;simp only[Act.put,pjE];refine sgr [(18,2)] 0 (by kernel_rfl) ⟨⟨_,hW⟩,rfl⟩ ?_;simp only[pkE];repeat go_big_quiet_step (fail)
  refine wpQuiet_nil ?_;refine z0f (by kernel_rfl) ?_;replace A0:=A0.below hW;replace b1:=b1.trans (hW.mono b1.size);clear c0 c1 c2 c3 c4 c5 c6;clear E L z A
  go_wp2
  go_ret;exact⟨by first|(rw[HD.out];done)|(rw[HD.out];rfl),b1⟩
 have hz:inB kn 0 M=true:=decide_eq_true hk;rw[hz]at z;have HK:Hid (0≤kn∧kn≤M):=hk;clear hz;by_cases hs:0≤sf∧sf≤kn
 case neg=>
  have HD:Hid (D=3):=by
   rcases J.out with⟨h0,_⟩|⟨_,h0,_⟩|⟨_,_,_,e⟩|⟨_,_,h0,_⟩|⟨_,_,h0,_⟩|⟨_,_,h0,_⟩
   ·exact absurd rfl h0
   ·exact absurd hk h0
   ·exact e
   all_goals exact absurd h0 hs
  have hz:inB sf 0 kn=false:=decide_eq_false hs;rw[hz]at A;clear hk hz hs
  go_wp2_with fail
  have hW:Below w1.heap.size w1 w1.drew:=(Below.refl _ _).drew;have E:Nonempty (Lat w1):=⟨⟨w1,Below.refl _ _⟩⟩
  refine z0b (S:=fun w'=>∃u:Lat w1,w'=u.val) (by kernel_rfl) ?_;refine sgr [(0,5)] 15 (by kernel_rfl) ⟨⟨_,hW⟩,rfl⟩ ?_;simp only[pkE];repeat go_big_quiet_step (fail)
  refine wpQuiet_nil ?_;refine cla 5 (some 17) 15 #[.slice va ps.length vc] 14 (by kernel_rfl) ?_;refine(L _ (h.below (b1.trans (hW.mono b1.size)))).mono ?_;rintro e w9 ⟨rfl,x⟩;replace hW:=hW.trans (x.mono hW.size);clear x;refine⟨_,rfl,⟨⟨_,hW⟩,rfl⟩,?_⟩;simp only[Act.put,pjE];refine cla 6 (some 18) 54 #[.int .i64 kn,.int .i64 0,.int .i64 M] 13 (by kernel_rfl) ?_;refine(z _).mono ?_;rintro e w9 ⟨rfl,d⟩;replace d:=d.symm;subst d;refine⟨_,rfl,⟨⟨_,hW⟩,rfl⟩,?_⟩;simp only[Act.put,pjE];refine sgr [(7,10)] 3 (by kernel_rfl) ⟨⟨_,hW⟩,rfl⟩ ?_;simp only[pkE];repeat go_big_quiet_step (fail)
  refine wpQuiet_nil ?_;refine cla 17 (some 29) 54 #[.int .i64 sf,.int .i64 0,.int .i64 kn] 2 (by kernel_rfl) ?_;refine(A _).mono ?_;rintro e w9 ⟨rfl,d⟩;replace d:=d.symm;subst d;refine⟨_,rfl,⟨⟨_,hW⟩,rfl⟩,?_⟩;simp only[Act.put,pjE];refine sgr [(18,2)] 0 (by kernel_rfl) ⟨⟨_,hW⟩,rfl⟩ ?_;simp only[pkE];repeat go_big_quiet_step (fail)
  refine wpQuiet_nil ?_;refine z0f (by kernel_rfl) ?_;replace A0:=A0.below hW;replace b1:=b1.trans (hW.mono b1.size);clear c0 c1 c2 c3 c4 c5 c6;clear E L z A
  go_wp2
  go_ret;exact⟨by first|(rw[HD.out];done)|(rw[HD.out];rfl),b1⟩
 have hz:inB sf 0 kn=true:=decide_eq_true hs;rw[hz]at A;have HS:Hid (0≤sf∧sf≤kn):=hs;clear hk hs hz
 go_wp2_with fail
 have hW:Below w1.heap.size w1 w1.drew:=(Below.refl _ _).drew;have E:Nonempty (Lat w1):=⟨⟨w1,Below.refl _ _⟩⟩
 refine z0b (S:=fun w'=>∃u:Lat w1,w'=u.val) (by kernel_rfl) ?_;refine sgr [(0,5)] 15 (by kernel_rfl) ⟨⟨_,hW⟩,rfl⟩ ?_;simp only[pkE];repeat go_big_quiet_step (fail)
 refine wpQuiet_nil ?_;refine cla 5 (some 17) 15 #[.slice va ps.length vc] 14 (by kernel_rfl) ?_;refine(L _ (h.below (b1.trans (hW.mono b1.size)))).mono ?_;rintro e w9 ⟨rfl,x⟩;replace hW:=hW.trans (x.mono hW.size);clear x;refine⟨_,rfl,⟨⟨_,hW⟩,rfl⟩,?_⟩;simp only[Act.put,pjE];refine cla 6 (some 18) 54 #[.int .i64 kn,.int .i64 0,.int .i64 M] 13 (by kernel_rfl) ?_;refine(z _).mono ?_;rintro e w9 ⟨rfl,d⟩;replace d:=d.symm;subst d;refine⟨_,rfl,⟨⟨_,hW⟩,rfl⟩,?_⟩;simp only[Act.put,pjE];refine sgr [(7,10)] 3 (by kernel_rfl) ⟨⟨_,hW⟩,rfl⟩ ?_;simp only[pkE];repeat go_big_quiet_step (fail)
 refine wpQuiet_nil ?_;refine cla 17 (some 29) 54 #[.int .i64 sf,.int .i64 0,.int .i64 kn] 2 (by kernel_rfl) ?_;refine(A _).mono ?_;rintro e w9 ⟨rfl,d⟩;replace d:=d.symm;subst d;refine⟨_,rfl,⟨⟨_,hW⟩,rfl⟩,?_⟩;simp only[Act.put,pjE];refine sgr [(18,2)] 0 (by kernel_rfl) ⟨⟨_,hW⟩,rfl⟩ ?_;simp only[pkE];repeat go_big_quiet_step (fail)
 refine wpQuiet_nil ?_;refine z0f (by kernel_rfl) ?_;replace A0:=A0.below hW;replace b1:=b1.trans (hW.mono b1.size);clear c0 c1 c2 c3 c4 c5 c6;clear E L z A
 go_wp2_with fail
 refine(aa.out _ A0 (Z.out _ b1)).mono ?_;rintro e w3 ⟨rfl,W⟩;replace A0:=A0.below W;replace b1:=b1.trans (W.mono b1.size);clear W aa;by_cases hR:RF=0
 case neg=>
  have ab:(RF !=0)=true:=by simpa using hR
  have HD:Hid (D=RF):=by
   rcases J.out with⟨h0,_⟩|⟨_,h0,_⟩|⟨_,_,h0,_⟩|⟨_,_,_,_,e⟩|⟨_,_,_,h0,_⟩|⟨_,_,_,h0,_⟩
   ·exact absurd rfl h0
   ·exact absurd HK.out h0
   ·exact absurd HS.out h0
   ·exact e
   all_goals exact absurd h0 hR
  clear J hR
  go_wp2
  go_ret;exact⟨by first|(rw[HD.out];done)|(rw[HD.out];rfl),b1⟩
 subst hR;have ab:((0:Int) !=0)=false:=by decide
 have HW:Hid ((sameTs (done.map TxnQ.e) DL=false∧D=8)∨(sameTs (done.map TxnQ.e) DL=true∧D=0)):=by
  rcases J.out with⟨h0,_⟩|⟨_,h0,_⟩|⟨_,_,h0,_⟩|⟨_,_,_,h0,_⟩|⟨_,_,_,_,e1,e2⟩|⟨_,_,_,_,e1,e2⟩
  ·exact absurd rfl h0
  ·exact absurd HK.out h0
  ·exact absurd HS.out h0
  ·exact absurd rfl h0
  ·exact Or.inl ⟨e1,e2⟩
  ·exact Or.inr ⟨e1,e2⟩
 clear J
 go_wp2_with fail
 clear ab;have HH:Hid (instK.At w (.slice va ps.length vc) ps):=h;have c0:=A0.lat0 _ rfl;have c1:=A0.lat 1 _ rfl;have c2:=A0.lat 2 _ rfl;have c3:=A0.lat 3 _ rfl;have c4:=A0.lat 4 _ rfl;have c5:=A0.lat 5 _ rfl;have c6:=A0.lat 6 _ rfl;have hW:Below w3.heap.size w3 w3.drew:=(Below.refl _ _).drew;have E:Nonempty (Lat w3):=⟨⟨w3,Below.refl _ _⟩⟩
 refine z0b (S:=fun w'=>∃u:Lat w3,w'=u.val) (by kernel_rfl) ?_;refine sgr [(0,10)] 3 (by kernel_rfl) ⟨⟨_,hW⟩,rfl⟩ ?_;simp only[pkE];repeat go_big_quiet_step (fail)
 refine wpQuiet_nil ?_;refine cla 10 (some 49) 14 #[.slice va ps.length vc,.int .i64 kn] 2 (by kernel_rfl) ?_;refine(ak.out _ (HH.out.below (b1.trans (hW.mono b1.size))) trivial HK.out).mono ?_;rintro e w9 ⟨vq,qs,rfl,eq,oq,_,_,x⟩;replace hW:=hW.trans (x.mono hW.size);obtain⟨xa,xc,rfl⟩:=oq.shape;clear x;refine⟨_,rfl,⟨⟨_,hW⟩,rfl⟩,?_⟩;simp only[Act.put,pjE];refine cla 11 (some 50) 29 #[.slice a0 done.length k0,.slice xa qs.length xc] 1 (by kernel_rfl) ?_;refine(al.out _ qs _ ((repK.own_rd (Z.out _ (b1.trans (hW.mono b1.size)))).1) oq.at eq).mono ?_;rintro e w9 ⟨rfl,x⟩;replace hW:=hW.trans (x.mono hW.size);clear x;refine⟨_,rfl,⟨⟨_,hW⟩,rfl⟩,?_⟩;simp only[Act.put,pjE];refine sgr [(12,1)] 0 (by kernel_rfl) ⟨⟨_,hW⟩,rfl⟩ ?_;simp only[pkE];repeat go_big_quiet_step (fail)
 refine wpQuiet_nil ?_;refine z0f (by kernel_rfl) ?_;have b2:=b1.trans (hW.mono b1.size);clear c0 c1 c2 c3 c4 c5 c6;clear oq hW E;rcases HW.out with⟨e1,e2⟩|⟨e1,e2⟩
 ·rw[eq,e1];clear HW
  go_wp2
  go_ret;exact⟨by first|(rw[e2];done)|(rw[e2];rfl),b2⟩
 ·rw[eq,e1];clear HW
  go_wp2
  go_ret;exact⟨by first|(rw[e2];done)|(rw[e2];rfl),b2⟩
theorem z3y(v:Value)(ps:List InstQ)(kn sf:Int)(p:RepQ)(w:World)(hG:Rul w)(hE:ErrT w)(h:instK.At w v ps)(Z:z51 v)(hl:(ps.length+nmL InstQ.n ps)≤1048576)(hp:repK.rd w p)(nd:z30 p.vd)(nt:z30 p.vt)(ab:p.n≤1048576):
  Calls Tryz.prog 37 #[v,.agg #[.int .i64 kn,.int .i64 sf,p.vd,p.vb,p.vt,p.vu,p.vn]] w fun e w'=>e=.returned (.int .i64 (nodF (ps.map InstQ.e) kn sf p.e))∧Below w.heap.size w w':=by
 have aa:=fun w hG h=>z1a v ps w hG h hl
 have I:=fun w hG h=>z1w v ps kn w hG h Z hl
 have L:=fun w hE h=>z2t p w hE h nd nt ab
 have ad:p.done.length+nmL TxnQ.n p.done≤1048576:=by
  have:p.done.length+nmL TxnQ.n p.done≤p.n:=by simp only[RepQ.n];omega
  omega
 have z:=fun v' (ys:List TxnQ) w h h' (hq:ys.map TxnQ.e=dfT (ps.map InstQ.e) kn)=>q2g p.vd v' p.done ys w h h' ad (q15 hq hl)
 have y:=fun(w':World) hb=>repK.rd_below (w':=w') hp hb
 have d:=z8L (ps.map InstQ.e) kn sf p.e;have J:=z78 (ps.map InstQ.e) kn;have ae:p.e.done=p.done.map TxnQ.e:=rfl;rw[ae]at d;have X:Hid (ordF (ps.map InstQ.e)=0→diV (ps.map InstQ.e)=(decN (ps.map InstQ.e):Int)):=fun h0=>by unfold diV;rw[if_pos h0]
 generalize nodF (ps.map InstQ.e) kn sf p.e=D at*;generalize dfT (ps.map InstQ.e) kn=DT at*;generalize dfC (ps.map InstQ.e) kn=DC at*;generalize defL (ps.map InstQ.e) kn.toNat=DL at*;generalize ordF (ps.map InstQ.e)=C at*;generalize diV (ps.map InstQ.e)=VV at*;generalize (decN (ps.map InstQ.e):Int)=M at*;generalize repF p.e=RF at*;clear ae;obtain⟨vd,done,vb,base,vt,E,vu,x,vn,U⟩:=p;obtain⟨a0,k0,rfl⟩:∃a c,vd=.slice a done.length c:=hp.1.shape;obtain⟨a1,k1,rfl⟩:∃a c,vb=.slice a base.length c:=hp.2.1.shape;obtain⟨a2,k2,rfl⟩:∃a c,vt=.slice a E.length c:=hp.2.2.1.shape;obtain⟨a3,k3,rfl⟩:∃a c,vu=.slice a x.length c:=hp.2.2.2.1.shape;obtain⟨a4,k4,rfl⟩:∃a c,vn=.slice a U.length c:=hp.2.2.2.2.shape;obtain⟨va,vc,rfl⟩:=h.shape;dsimp only at L z y d;clear nd nt ab ad;have b0:Below w.heap.size w (w.alloc (.cells #[.int .i64 kn,.int .i64 sf,.slice a0 done.length k0,.slice a1 base.length k1,.slice a2 E.length k2,.slice a3 x.length k3,.slice a4 U.length k4] 75)):=by go_grown
 have A0:=Blk.new w 75 #[.int .i64 kn,.int .i64 sf,.slice a0 done.length k0,.slice a1 base.length k1,.slice a2 E.length k2,.slice a3 x.length k3,.slice a4 U.length k4];go_enter Tryz.func37,Tryz.ntmps37
 go_wp2_with fail
 generalize w.alloc (.cells #[.int .i64 kn,.int .i64 sf,.slice a0 done.length k0,.slice a1 base.length k1,.slice a2 E.length k2,.slice a3 x.length k3,.slice a4 U.length k4] 75)=W at*;refine(aa W (hG.below b0) (h.below b0)).mono ?_;rintro e w1 ⟨rfl,hb⟩;replace A0:=A0.below hb;replace b0:=b0.trans (hb.mono b0.size);clear hb aa;have S0:=Blk.new w1 113 #[.int .i64 C,.int .i64 VV];have hb:Below w1.heap.size w1 (w1.alloc (.cells #[.int .i64 C,.int .i64 VV] 113)):=by go_grown
 have A1:=A0.below hb;have b1:=b0.trans (hb.mono b0.size);by_cases hC:C=0
 case neg=>
  have aj:(C !=0)=true:=by simpa using hC
  have HD:Hid (D=C):=by
   rcases d with⟨_,e⟩|⟨h0,_⟩|⟨h0,_⟩|⟨h0,_⟩|⟨h0,_⟩|⟨h0,_⟩
   ·exact e
   all_goals exact absurd h0 hC
  clear d J X I L z y hC;obtain⟨q0,q1⟩:=S0.cel2
  go_wp2
  go_ret;exact⟨by first|(rw[HD.out];done)|(rw[HD.out];rfl),b1⟩
 have hV:=(X.out hC).symm;subst hC;subst hV;clear X;have aj:((0:Int) !=0)=false:=by decide
 obtain⟨q0,q1⟩:=S0.cel2;obtain⟨p0,p1,p2,p3,p4,p5,p6⟩:=A1.cel7
 go_wp2_with fail
 clear q0 q1;generalize w1.alloc (.cells #[.int .i64 0,.int .i64 M] 113)=W1 at*;have O:=z0E kn 0 M W1;by_cases hk:0≤kn∧kn≤M
 case neg=>
  have HD:Hid (D=3):=by
   rcases d with⟨h0,_⟩|⟨_,_,e⟩|⟨_,h0,_⟩|⟨_,h0,_⟩|⟨_,h0,_⟩|⟨_,h0,_⟩
   ·exact absurd rfl h0
   ·exact e
   all_goals exact absurd h0 hk
  have hz:inW kn 0 M=false:=by unfold inW;simp only[Bool.and_eq_false_iff,decide_eq_false_iff_not];omega
  rw[hz]at O;clear d J I L z y hk hz;refine O.mono ?_;rintro e w2 ⟨rfl,rfl⟩
  go_wp2
  go_ret;exact⟨by first|(rw[HD.out];done)|(rw[HD.out];rfl),b1⟩
 have hz:inW kn 0 M=true:=by unfold inW;simp only[Bool.and_eq_true,decide_eq_true_eq];exact hk
 rw[hz]at O;refine O.mono ?_;rintro e w2 ⟨rfl,A⟩;replace A:=A.symm;subst A;clear O hz;have T:=z0E sf 0 kn W1
 go_wp2_with fail
 by_cases hs:0≤sf∧sf≤kn
 case neg=>
  have HD:Hid (D=3):=by
   rcases d with⟨h0,_⟩|⟨_,h0,_⟩|⟨_,_,_,e⟩|⟨_,_,h0,_⟩|⟨_,_,h0,_⟩|⟨_,_,h0,_⟩
   ·exact absurd rfl h0
   ·exact absurd hk h0
   ·exact e
   all_goals exact absurd h0 hs
  have hz:inW sf 0 kn=false:=by unfold inW;simp only[Bool.and_eq_false_iff,decide_eq_false_iff_not];omega
  rw[hz]at T;clear d J I L z y hk hz hs;refine T.mono ?_;rintro e w2 ⟨rfl,rfl⟩
  go_wp2
  go_ret;exact⟨by first|(rw[HD.out];done)|(rw[HD.out];rfl),b1⟩
 have hz:inW sf 0 kn=true:=by unfold inW;simp only[Bool.and_eq_true,decide_eq_true_eq];exact hs
 rw[hz]at T;refine T.mono ?_;rintro e w2 ⟨rfl,A⟩;replace A:=A.symm;subst A;clear T hz
 go_wp2_with fail
 clear p0 p1 p2 p3 p4 p5 p6;refine(L W1 (hE.below b1) (y W1 b1)).mono ?_;rintro e w3 ⟨rfl,V⟩;replace A1:=A1.below V;replace b1:=b1.trans (V.mono b1.size);clear V L hb S0 A0;by_cases hR:RF=0
 case neg=>
  have Y:(RF !=0)=true:=by simpa using hR
  have HD:Hid (D=RF):=by
   rcases d with⟨h0,_⟩|⟨_,h0,_⟩|⟨_,_,h0,_⟩|⟨_,_,_,_,e⟩|⟨_,_,_,h0,_⟩|⟨_,_,_,h0,_⟩
   ·exact absurd rfl h0
   ·exact absurd hk h0
   ·exact absurd hs h0
   ·exact e
   all_goals exact absurd h0 hR
  clear d J I z y hk hs hR
  go_wp2
  go_ret;exact⟨by first|(rw[HD.out];done)|(rw[HD.out];rfl),b1⟩
 subst hR;have Y:((0:Int) !=0)=false:=by decide
 have hT:DT=DL:=by
  rcases J with⟨h0,_⟩|⟨_,h0,_⟩|⟨_,_,_,e⟩
  ·exact absurd rfl h0
  ·exact absurd hk h0
  ·exact e
 subst hT;have HW:Hid ((sameTs (done.map TxnQ.e) DT=false∧D=8)∨(sameTs (done.map TxnQ.e) DT=true∧D=0)):=by
  rcases d with⟨h0,_⟩|⟨_,h0,_⟩|⟨_,_,h0,_⟩|⟨_,_,_,h0,_⟩|⟨_,_,_,_,e1,e2⟩|⟨_,_,_,_,e1,e2⟩
  ·exact absurd rfl h0
  ·exact absurd hk h0
  ·exact absurd hs h0
  ·exact absurd rfl h0
  ·exact Or.inl ⟨e1,e2⟩
  ·exact Or.inr ⟨e1,e2⟩
 clear d J hk hs;have af:Hid _:=I;have ai:Hid _:=z;have ah:Hid _:=y;have HH:Hid (instK.At w (.slice va ps.length vc) ps):=h;have ag:Hid (Rul w):=hG;clear I z y hE hl Z
 go_wp2_with fail
 clear Y;obtain⟨c0,c1,c2,c3,c4,c5,c6⟩:=A1.lts7;have hW:Below w3.heap.size w3 w3.drew:=(Below.refl _ _).drew;have ak:Nonempty (Lat w3):=⟨⟨w3,Below.refl _ _⟩⟩
 refine z0b (S:=fun w'=>∃u:Lat w3,w'=u.val) (by kernel_rfl) ?_;refine sgr [(0,6)] 4 (by kernel_rfl) ⟨⟨_,hW⟩,rfl⟩ ?_;simp only[pkE];repeat go_big_quiet_step (fail)
 refine wpQuiet_nil ?_;refine cla 6 (some 40) 45 #[.slice va ps.length vc,.int .i64 kn] 3 (by kernel_rfl) ?_;refine(af.out _ (ag.out.below (b1.trans (hW.mono b1.size))) (HH.out.below (b1.trans (hW.mono b1.size)))).mono ?_;rintro e w9 ⟨vq,qs,rfl,eq,oq,_,_,N⟩;replace hW:=hW.trans (N.mono hW.size);obtain⟨xa,xc,rfl⟩:=oq.shape;clear N;refine⟨_,rfl,⟨⟨_,hW⟩,rfl⟩,?_⟩;simp only[Act.put,pjE];refine qta 7 (some 41) (.slice xa qs.length xc) 2 (by kernel_rfl) (fun u _=>by kernel_rfl) ⟨⟨_,hW⟩,rfl⟩ ?_;simp only[Act.put,pjE];refine cla 8 (some 42) 39 #[.slice a0 done.length k0,.slice xa qs.length xc] 1 (by kernel_rfl) ?_;refine(ai.out _ qs _ ((ah.out _ (b1.trans (hW.mono b1.size))).1) oq.at eq).mono ?_;rintro e w9 ⟨rfl,N⟩;replace hW:=hW.trans (N.mono hW.size);clear N;refine⟨_,rfl,⟨⟨_,hW⟩,rfl⟩,?_⟩;simp only[Act.put,pjE];refine sgr [(9,1)] 0 (by kernel_rfl) ⟨⟨_,hW⟩,rfl⟩ ?_;simp only[pkE];repeat go_big_quiet_step (fail)
 refine wpQuiet_nil ?_;refine z0f (by kernel_rfl) ?_;have b2:=b1.trans (hW.mono b1.size);clear c0 c1 c2 c3 c4 c5 c6;clear oq hW ak;rcases HW.out with⟨e1,e2⟩|⟨e1,e2⟩
 ·rw[eq,e1];clear HW
  go_wp2
  go_ret;exact⟨by first|(rw[e2];done)|(rw[e2];rfl),b2⟩
 ·rw[eq,e1];clear HW
  go_wp2
  go_ret;exact⟨by first|(rw[e2];done)|(rw[e2];rfl),b2⟩
theorem z3S(b:Nat)(p:CluQ)(w:World)(hB:Blk w b 31 #[p.vo,p.vm])(h:cluK.own w p)(hl:p.n≤1048576):
  Calls Tryz.prog 11 #[.pointer (some ⟨b,0,none⟩)] w fun e w'=>e=.returned (.int .i64 (z1W p.e))∧Below w.heap.size w w':=by
 obtain⟨vo,y,vm,d⟩:=p;obtain⟨a0,k0,rfl⟩:∃a c,vo=.slice a y.length c:=h.1.shape;obtain⟨a1,k1,rfl⟩:∃a c,vm=.slice a d.length c:=h.2.shape;have Y:y.length+nmL InstQ.n y≤1048576:=by dsimp only[CluQ.n]at hl;omega
 have am:d.length+nmL NodeQ.n d≤1048576:=by dsimp only[CluQ.n]at hl;omega
 clear hl;obtain⟨ho,hm⟩:instK.Own w (.slice a0 y.length k0) y∧nodeK.Own w (.slice a1 d.length k1) d:=h;generalize hE:z1W _=E;have HE:Hid (E=if ordF (y.map InstQ.e)=0 then(if(d.map NodeQ.e).length=3 then z1S (y.map InstQ.e) (d.map NodeQ.e)else 2)else ordF (y.map InstQ.e)):=hE.symm;clear hE;have ad:=fun w h=>z4B (.slice a0 y.length k0) y w h Y
 have aa:=fun g A kn sf (q:RepQ) w hB h hp aj=>z9J A (.slice a0 y.length k0) y g kn sf q w hB h Y hp aj
 have A0:Blk w b 31 #[.slice a0 y.length k0,.slice a1 d.length k1]:=hB;have b0:Below w.heap.size w w:=Below.refl _ _;clear hB;have ah:Hid _:=aa;clear aa;generalize ordF (y.map InstQ.e)=C at*;have c0:=A0.cell 0 _ rfl;go_enter Tryz.func11,Tryz.ntmps11
 go_wp2_with fail
 clear c0;refine(ad w (ho.at.below b0)).mono ?_;rintro e w1 ⟨rfl,hb⟩;replace A0:=A0.below hb;replace b0:=b0.trans (hb.mono b0.size);clear hb ad;by_cases hC:C=0
 case neg=>
  have U:(C !=0)=true:=by simpa using hC
  have HD:Hid (E=C):=by rw[HE.out,if_neg hC];trivial
  clear HE hC
  go_wp2
  go_ret;exact⟨by first|(rw[HD.out];done)|(rw[HD.out];rfl),b0⟩
 subst hC;by_cases h3:d.length=3
 case neg=>
  have T:((d.length:Int) !=3)=true:=by
   have:¬(d.length:Int)=3:=by omega
   simpa using this
  have HD:Hid (E=2):=by rw[HE.out,if_pos rfl,if_neg (by rw[List.length_map];exact h3)];trivial
  have c1:=A0.cell 1 _ rfl;clear HE
  go_wp2
  go_ret;exact⟨by first|(rw[HD.out];done)|(rw[HD.out];rfl),b0⟩
 have HG:Hid (E=z1S (y.map InstQ.e) (d.map NodeQ.e)):=by rw[HE.out,if_pos rfl,if_pos (by rw[List.length_map];exact h3)];trivial
 have T:((d.length:Int) !=3)=false:=by
  have:(d.length:Int)=3:=by omega
  rw[this];rfl
 clear HE;have c1:=A0.cell 1 _ rfl
 go_wp2_with fail
 clear T c1;go_loopw[4] (fun i wr=>∃k:Nat,k≤d.length∧i=.int .i64 k∧Hid (E=z1S (y.map InstQ.e) ((d.map NodeQ.e).drop k))∧Blk wr b 31 #[.slice a0 y.length k0,.slice a1 d.length k1]∧Below w.heap.size w wr) (fun i _=>d.length-(intOf i).toNat)
 case atStart=>exact⟨0,Nat.zero_le _,rfl,HG,A0,b0⟩
 case round=>
  clear HG A0 b0;obtain⟨k,hk,rfl,HG,A0,b0⟩:=hrel;obtain⟨c0,c1⟩:=A0.cel2;by_cases z:k<d.length
  ·have J:(d.map NodeQ.e)[k]'(by simpa using z)=NodeQ.e d[k]:=by simp
   have D:Hid (nodF (y.map InstQ.e) d[k].kn d[k].sf d[k].r.e≠0→E=nodF (y.map InstQ.e) d[k].kn d[k].sf d[k].r.e):=fun hx=>by
    rw[HG.out,z8M _ _ k (by simpa using z) (by rw[J];exact hx),J];exact(rfl:_=_)
   have I:Hid (nodF (y.map InstQ.e) d[k].kn d[k].sf d[k].r.e=0→E=z1S (y.map InstQ.e) ((d.map NodeQ.e).drop (k+1))):=fun hx=>by
    rw[HG.out,z7v _ _ k (by simpa using z) (by rw[J];exact hx)]
   have Z:NodeQ.n d[k]≤1048576:=by have:=z0W NodeQ.n d k z;omega
   have ae:repK.own w d[k].r:=hm.2 _ (List.getElem_mem z);have af:=fun(w':World) (hb:Below w.heap.size w w')=>repK.own_out (F:=[]) (w':=w') ae (Out.of_below hb) (fun _ _=>by simp)
   obtain⟨g,A,rfl,ai,hc,al⟩:=(hm.at.below b0).cell (by decide) k z;have W:∀j x,(nodeK.cells d[k])[j]?=some x→wr.cell? ⟨g,A+k*7+j,none⟩=some x:=hc;clear J HG hc al ae;have O0:Off wr g (A+k*7) #[.int .i64 d[k].kn,.int .i64 d[k].sf,d[k].r.vd,d[k].r.vb,d[k].r.vt,d[k].r.vu,d[k].r.vn]:=⟨ai,fun j x hx=>W j x (by simpa[nodeK,NodeQ.r]using hx)⟩
   have L:=ah.out g (A+k*7) d[k].kn d[k].sf d[k].r;have ab:=fun w hB h hp=>L w hB h hp Z
   clear L;have N:Hid _:=ab;have O:Hid _:=af;clear ab af W Z;generalize nodF (y.map InstQ.e) d[k].kn d[k].sf d[k].r.e=C at*;generalize d[k]=p at*;have X:(k:Int)<(d.length:Int):=by omega
   go_wp2_with fail
   obtain⟨f0,f1⟩:=A0.lts2;have hW:Below wr.heap.size wr wr.drew:=(Below.refl _ _).drew;have ak:Nonempty (Lat wr):=⟨⟨wr,Below.refl _ _⟩⟩
   refine z0b (S:=fun w'=>∃u:Lat wr,w'=u.val) (by kernel_rfl) ?_;refine sgr [(0,10)] 2 (by kernel_rfl) ⟨⟨_,hW⟩,rfl⟩ ?_;simp only[pkE];repeat go_big_quiet_step (fail)
   refine wpQuiet_nil ?_;refine cla 10 (some 39) 28 #[.slice a0 y.length k0,.pointer (some ⟨g,A+k*7,none⟩)] 1 (by kernel_rfl) ?_;refine(N.out _ (O0.below hW) (ho.at.below (b0.trans (hW.mono b0.size))) (O.out _ (b0.trans (hW.mono b0.size)))).mono ?_;rintro e w9 ⟨rfl,V⟩;replace hW:=hW.trans (V.mono hW.size);clear V;refine⟨_,rfl,⟨⟨_,hW⟩,rfl⟩,?_⟩;simp only[Act.put,pjE];refine sgr [(11,1)] 0 (by kernel_rfl) ⟨⟨_,hW⟩,rfl⟩ ?_;simp only[pkE];repeat go_big_quiet_step (fail)
   refine wpQuiet_nil ?_;refine z0f (by kernel_rfl) ?_;replace A0:=A0.below hW;replace b0:=b0.trans (hW.mono b0.size);clear c0 c1 f0 f1 ak hW O0 N O;by_cases hC:C=0
   ·subst hC;have U:((0:Int) !=0)=false:=by decide
    have M:=I.out rfl;clear I D;have ag:Hid _:=M;clear M
    go_wp2
    go_roundw
    case rel=>exact⟨k+1,by omega,by go_num,ag,A0,b0⟩
    case measure=>simp[intOf];omega
   ·have U:(C !=0)=true:=by simpa using hC
    have HD:Hid (E=C):=D.out hC;clear I D hC
    go_wp2
    go_ret;exact⟨by first|(rw[HD.out];done)|(rw[HD.out];rfl),b0⟩
  ·have HD:Hid (E=0):=by rw[HG.out,z8N _ _ k (by simpa using z)];trivial
   have X:¬(k:Int)<(d.length:Int):=by omega
   clear HG
   go_wp2
   go_ret;exact⟨by first|(rw[HD.out];done)|(rw[HD.out];rfl),b0⟩
theorem z1l(p:CluQ)(w:World)(hG:Rul w)(hT:ErrT w)(h:cluK.own w p)(hl:p.n≤1048576):
  Calls Tryz.prog 18 #[.agg #[p.vo,p.vm]] w fun e w'=>e=.returned (.int .i64 (z1W p.e))∧Below w.heap.size w w':=by
 obtain⟨vo,y,vm,d⟩:=p;obtain⟨a0,k0,rfl⟩:∃a c,vo=.slice a y.length c:=h.1.shape;obtain⟨a1,k1,rfl⟩:∃a c,vm=.slice a d.length c:=h.2.shape;have af:y.length+nmL InstQ.n y≤1048576:=by dsimp only[CluQ.n]at hl;omega
 have ar:d.length+nmL NodeQ.n d≤1048576:=by dsimp only[CluQ.n]at hl;omega
 clear hl;obtain⟨ho,hm⟩:instK.Own w (.slice a0 y.length k0) y∧nodeK.Own w (.slice a1 d.length k1) d:=h;generalize hE:z1W _=E;have HE:Hid (E=if ordF (y.map InstQ.e)=0 then(if(d.map NodeQ.e).length=3 then z1S (y.map InstQ.e) (d.map NodeQ.e)else 2)else ordF (y.map InstQ.e)):=hE.symm;clear hE;have aj:=fun w hG h=>z1v (.slice a0 y.length k0) y w hG h af
 have ad:=z6j ho.1;have ah:=fun kn sf (q:RepQ) w hG hE h hp nd nt an=>z3y (.slice a0 y.length k0) y kn sf q w hG hE h ad af hp nd nt an
 clear ad;have A0:=Blk.new w 31 #[.slice a0 y.length k0,.slice a1 d.length k1];have b0:Below w.heap.size w (w.alloc (.cells #[.slice a0 y.length k0,.slice a1 d.length k1] 31)):=by go_grown
 have am:Hid _:=ah;clear ah;generalize ordF (y.map InstQ.e)=C at*;have c0:=A0.cell 0 _ rfl;go_enter Tryz.func18,Tryz.ntmps18
 go_wp2_with fail
 clear c0;generalize w.alloc (.cells #[.slice a0 y.length k0,.slice a1 d.length k1] 31)=W at*;refine(aj W (hG.below b0) (ho.at.below b0)).mono ?_;rintro e w1 ⟨rfl,hb⟩;replace A0:=A0.below hb;replace b0:=b0.trans (hb.mono b0.size);clear hb aj;by_cases hC:C=0
 case neg=>
  have ab:(C !=0)=true:=by simpa using hC
  have HD:Hid (E=C):=by rw[HE.out,if_neg hC];trivial
  clear HE hC
  go_wp2
  go_ret;exact⟨by first|(rw[HD.out];done)|(rw[HD.out];rfl),b0⟩
 subst hC;by_cases h3:d.length=3
 case neg=>
  have aa:((d.length:Int) !=3)=true:=by
   have:¬(d.length:Int)=3:=by omega
   simpa using this
  have HD:Hid (E=2):=by rw[HE.out,if_pos rfl,if_neg (by rw[List.length_map];exact h3)];trivial
  have c1:=A0.cell 1 _ rfl;clear HE
  go_wp2
  go_ret;exact⟨by first|(rw[HD.out];done)|(rw[HD.out];rfl),b0⟩
 have HG:Hid (E=z1S (y.map InstQ.e) (d.map NodeQ.e)):=by rw[HE.out,if_pos rfl,if_pos (by rw[List.length_map];exact h3)];trivial
 have aa:((d.length:Int) !=3)=false:=by
  have:(d.length:Int)=3:=by omega
  rw[this];rfl
 clear HE;have c1:=A0.cell 1 _ rfl
 go_wp2_with fail
 clear aa c1;go_loopw[20] (fun i wr=>∃k:Nat,k≤d.length∧i=.int .i64 k∧Hid (E=z1S (y.map InstQ.e) ((d.map NodeQ.e).drop k))∧Blk wr w.heap.size 31 #[.slice a0 y.length k0,.slice a1 d.length k1]∧Below w.heap.size w wr) (fun i _=>d.length-(intOf i).toNat)
 case atStart=>exact⟨0,Nat.zero_le _,rfl,HG,A0,b0⟩
 case round=>
  clear HG A0 b0;obtain⟨k,hk,rfl,HG,A0,b0⟩:=hrel;obtain⟨c0,c1⟩:=A0.cel2;by_cases D:k<d.length
  ·have M:(d.map NodeQ.e)[k]'(by simpa using D)=NodeQ.e d[k]:=by simp
   have J:Hid (nodF (y.map InstQ.e) d[k].kn d[k].sf d[k].r.e≠0→E=nodF (y.map InstQ.e) d[k].kn d[k].sf d[k].r.e):=fun hx=>by
    rw[HG.out,z8M _ _ k (by simpa using D) (by rw[M];exact hx),M];exact(rfl:_=_)
   have L:Hid (nodF (y.map InstQ.e) d[k].kn d[k].sf d[k].r.e=0→E=z1S (y.map InstQ.e) ((d.map NodeQ.e).drop (k+1))):=fun hx=>by
    rw[HG.out,z7v _ _ k (by simpa using D) (by rw[M];exact hx)]
   have ag:NodeQ.n d[k]≤1048576:=by have:=z0W NodeQ.n d k D;omega
   have ak:repK.own w d[k].r:=hm.2 _ (List.getElem_mem D);have V:=fun(w':World) (hb:Below w.heap.size w w')=>repK.own_out (F:=[]) (w':=w') ak (Out.of_below hb) (fun _ _=>by simp)
   obtain⟨g,ap,rfl,aq,hc,ao⟩:=(hm.at.below b0).cell (by decide) k D;have A:∀j x,(nodeK.cells d[k])[j]?=some x→wr.cell? ⟨g,ap+k*7+j,none⟩=some x:=hc;clear M HG hc ao ak;have O:=am.out d[k].kn d[k].sf d[k].r;have ai:=fun w hG hE h hp nd nt=>O w hG hE h hp nd nt ag
   clear O;have Y:Hid _:=ai;have q0:=A 0 (.int .i64 d[k].kn) rfl;have q1:=A 1 (.int .i64 d[k].sf) rfl;have q2:=A 2 d[k].vd rfl;have q3:=A 3 d[k].vb rfl;have q4:=A 4 d[k].vt rfl;have q5:=A 5 d[k].vu rfl;have q6:=A 6 d[k].vn rfl;rw[Nat.add_zero]at q0;clear ai A ag;generalize nodF (y.map InstQ.e) d[k].kn d[k].sf d[k].r.e=C at*;generalize d[k]=p at*;obtain⟨kn,sf,vd,done,vb,base,vt,I,vu,z,vn,N⟩:=p;have oq:=V _ b0;obtain⟨x0,y0,rfl⟩:∃a c,vd=.slice a done.length c:=oq.1.shape;obtain⟨x1,y1,rfl⟩:∃a c,vb=.slice a base.length c:=oq.2.1.shape;obtain⟨x2,y2,rfl⟩:∃a c,vt=.slice a I.length c:=oq.2.2.1.shape;obtain⟨x3,y3,rfl⟩:∃a c,vu=.slice a z.length c:=oq.2.2.2.1.shape;obtain⟨x4,y4,rfl⟩:∃a c,vn=.slice a N.length c:=oq.2.2.2.2.shape;clear oq;dsimp only at q0 q1 q2 q3 q4 q5 q6;have Z:Hid _:=V;clear V;have T:Below wr.heap.size wr (wr.alloc (.cells #[.int .i64 kn,.int .i64 sf,.slice x0 done.length y0,.slice x1 base.length y1,.slice x2 I.length y2,.slice x3 z.length y3,.slice x4 N.length y4] 75)):=by go_grown
   have X0:=Blk.new wr 75 #[.int .i64 kn,.int .i64 sf,.slice x0 done.length y0,.slice x1 base.length y1,.slice x2 I.length y2,.slice x3 z.length y3,.slice x4 N.length y4];replace A0:=A0.below T;have d0:=A0.cell 0 _ rfl;obtain⟨e0,e1,e2,e3,e4,e5,e6⟩:=X0.cel7;replace b0:=b0.trans (T.mono b0.size);have ae:(k:Int)<(d.length:Int):=by omega
   go_wp2_with fail
   clear q0 q1 q2 q3 q4 q5 q6 e0 e1 e2 e3 e4 e5 e6 d0 c0 c1 T;generalize wr.alloc (.cells #[.int .i64 kn,.int .i64 sf,.slice x0 done.length y0,.slice x1 base.length y1,.slice x2 I.length y2,.slice x3 z.length y3,.slice x4 N.length y4] 75)=WR at*;have oq:=Z.out _ b0;refine(Y.out WR (hG.below b0) (hT.below b0) (ho.at.below b0) (repK.own_rd oq) oq.1.niceV oq.2.2.1.niceV).mono ?_;rintro e w9 ⟨rfl,U⟩;replace A0:=A0.below U;replace b0:=b0.trans (U.mono b0.size);clear U oq Z Y X0;by_cases hC:C=0
   ·subst hC;have ab:((0:Int) !=0)=false:=by decide
    have X:=L.out rfl;clear L J;have al:Hid _:=X;clear X
    go_wp2
    go_roundw
    case rel=>exact⟨k+1,by omega,by go_num,al,A0,b0⟩
    case measure=>simp[intOf];omega
   ·have ab:(C !=0)=true:=by simpa using hC
    have HD:Hid (E=C):=J.out hC;clear L J hC
    go_wp2
    go_ret;exact⟨by first|(rw[HD.out];done)|(rw[HD.out];rfl),b0⟩
  ·have HD:Hid (E=0):=by rw[HG.out,z8N _ _ k (by simpa using D)];trivial
   have ae:¬(k:Int)<(d.length:Int):=by omega
   clear HG
   go_wp2
   go_ret;exact⟨by first|(rw[HD.out];done)|(rw[HD.out];rfl),b0⟩
theorem z8P{ds:List InstE}:∀ {ns:List NodeE},z1S ds ns=0→∀n∈ns,nodF ds n.kn n.sf n.rep=0
 |[],_,n,hn=>by simp at hn
 |x::r,h,n,hn=>by
  unfold z1S at h;by_cases h0:nodF ds x.kn x.sf x.rep=0
  ·rw[if_pos h0]at h;rcases List.mem_cons.1 hn with rfl|hn
   ·exact h0
   ·exact z8P h n hn
  ·rw[if_neg h0]at h;exact absurd h h0
theorem q1o{c:CluE}(h:z1W c=0):ordF c.ord=0∧c.mem.length=3∧∀n∈c.mem,nodF c.ord n.kn n.sf n.rep=0:=by
 unfold z1W at h;by_cases h0:ordF c.ord=0
 ·rw[if_pos h0]at h;by_cases h3:c.mem.length=3
  ·rw[if_pos h3]at h;exact⟨h0,h3,z8P h⟩
  ·rw[if_neg h3]at h;exact absurd h (by decide)
 ·rw[if_neg h0]at h;exact absurd h h0
theorem z8Q{p:CluQ}(h:z1W p.e=0):ordF (p.ord.map InstQ.e)=0∧1≤p.ord.length∧p.ord.length≤4:=by
 have h0:ordF (p.ord.map InstQ.e)=0:=(q1o h).1;have h1:=((z2b _).1 h0).1;rw[List.length_map]at h1;exact⟨h0,h1.1,h1.2⟩
def q4s(xs ys:List InstE):Bool:=decide (xs.length≤ys.length) && sameNs xs (ys.take xs.length)
def laE(a b:CluE):Bool:=decide (z1W a=0) && (decide (z1W b=0) && (decide (a.ord.length≤b.ord.length) && (sameNs (a.ord.take (a.ord.length-1)) (b.ord.take (a.ord.length-1)) && preT (defL a.ord (decN a.ord)) (defL b.ord (decN b.ord)))))
theorem q2B{a b:CluE}(h:z1W a≠0):laE a b=false:=by unfold laE;rw[decide_eq_false h];rfl
theorem q2C{a b:CluE}(h:z1W a=0)(h':z1W b≠0):laE a b=false:=by unfold laE;rw[decide_eq_true h,decide_eq_false h'];rfl
theorem q2D{a b:CluE}(h:z1W a=0)(h':z1W b=0)(hl:¬a.ord.length≤b.ord.length):laE a b=false:=by unfold laE;rw[decide_eq_true h,decide_eq_true h',decide_eq_false hl];rfl
theorem q2E{p p':CluQ}(h:z1W p.e=0)(h':z1W p'.e=0)(hl:p.e.ord.length≤p'.e.ord.length):laE p.e p'.e=(sameNs ((p.ord.take (p.ord.length-1)).map InstQ.e) ((p'.ord.map InstQ.e).take (p.ord.take (p.ord.length-1)).length) && preT (defL (p.ord.map InstQ.e) (decN (p.ord.map InstQ.e))) (defL (p'.ord.map InstQ.e) (decN (p'.ord.map InstQ.e)))):=by
 unfold laE;rw[decide_eq_true h,decide_eq_true h',decide_eq_true hl,Bool.true_and,Bool.true_and,Bool.true_and];have e1:p.e.ord=p.ord.map InstQ.e:=rfl;have e2:p'.e.ord=p'.ord.map InstQ.e:=rfl;rw[e1,e2,List.length_map,List.map_take,List.length_take];have e3:min (p.ord.length-1) p.ord.length=p.ord.length-1:=Nat.min_eq_left (by omega);rw[e3]
theorem q4t{ord ord':List InstQ}{m k:Nat}(h:k<ord.length)(h':k<ord'.length)(hm:k<m)(hx:sameN (InstQ.e ord[k]) (InstQ.e ord'[k])=false):sameNs ((ord.take m).map InstQ.e) ((ord'.map InstQ.e).take m)=false:=by
 rw[←List.map_take];by_cases hlen:(ord.take m).length=(ord'.take m).length
 ·refine z0Y (f:=sameN) z2H (fun _ _ _ _=>rfl) _ _ k (by simpa using hlen) (by simp only[List.length_map,List.length_take];omega) ?_;rw[z1j (ord.take m) k (by simp only[List.length_take];omega),z1j (ord'.take m) k (by simp only[List.length_take];omega)];simp only[List.getElem_take];exact hx
 ·exact z0X (f:=sameN) rfl (fun _ _ _ _=>rfl) (fun _ _=>rfl) (fun _ _=>rfl) _ _ (by simpa using hlen)
theorem q3D{ord ord':List InstQ}{m:Nat}(h:m≤ord.length)(h':m≤ord'.length)(hA:∀j,j<m→sameN ((ord.map InstQ.e).getD j z2H) ((ord'.map InstQ.e).getD j z2H)=true):sameNs ((ord.take m).map InstQ.e) ((ord'.map InstQ.e).take m)=true:=by
 rw[←List.map_take];have e1:(ord.take m).length=m:=by rw[List.length_take];omega
 have e2:(ord'.take m).length=m:=by rw[List.length_take];omega
 refine z0Z (f:=sameN) z2H rfl (fun _ _ _ _=>rfl) _ _ (by rw[List.length_map,List.length_map,e1,e2]) (fun j hj=>?_);rw[List.length_map,e1]at hj;have h3:=hA j hj;rw[z1j ord j (by omega),z1j ord' j (by omega)]at h3;rw[z1j (ord.take m) j (by omega),z1j (ord'.take m) j (by omega)];simp only[List.getElem_take];exact h3
theorem q4u{ds ds':List TxnD}{P:Bool}(hP:preT ds ds'=P)(v v':Value)(xs ys:List TxnQ)(hx:xs.map TxnQ.e=ds)(hy:ys.map TxnQ.e=ds')(w:World)(h:txnK.At w v xs)(h':txnK.Own w v' ys)(hl:xs.length+nmL TxnQ.n xs≤1048576)(hl':ys.length+nmL TxnQ.n ys≤1048576):
  Calls Tryz.prog 21 #[v,v'] w fun e w'=>e=.returned (.bool P)∧Below w.heap.size w w':=by
 subst hx hy hP;exact z3Y v v' xs ys w h h' hl hl'
theorem q3E{ds ds':List TxnD}{P:Bool}(hP:preT ds ds'=P)(v v':Value)(xs ys:List TxnQ)(hx:xs.map TxnQ.e=ds)(hy:ys.map TxnQ.e=ds')(w:World)(h:txnK.At w v xs)(h':txnK.Own w v' ys)(hl:xs.length+nmL TxnQ.n xs≤1048576)(hl':ys.length+nmL TxnQ.n ys≤1048576):
  Calls Tryz.prog 13 #[v,v'] w fun e w'=>e=.returned (.bool P)∧Below w.heap.size w w':=by
 subst hx hy hP;exact z7f v v' xs ys w h h' hl hl'
theorem z9K(v v':Value)(xs ys:List InstQ)(w:World)(h:instK.At w v xs)(h':instK.Own w v' ys)(hl:xs.length+nmL InstQ.n xs≤1048576)(D:ys.length+nmL InstQ.n ys≤1048576):
  Calls Tryz.prog 19 #[v,v',.func (.func 20) #[] #[]] w fun e w'=>e=.returned (.bool (q4s (xs.map InstQ.e) (ys.map InstQ.e)))∧Below w.heap.size w w':=by
 obtain⟨a,cap,rfl⟩:=h.shape;obtain⟨a',c,rfl⟩:=h'.shape;obtain⟨hc,C⟩:=h'.cap';unfold q4s;rw[List.length_map,List.length_map];by_cases d:xs.length≤ys.length
 ·have hd:decide (xs.length≤ys.length)=true:=decide_eq_true d;rw[hd,Bool.true_and];have hT:=h'.at.take' xs.length d;have x:instK.At w (.slice a' xs.length c) (ys.take xs.length):=hT;have hn:nmL InstQ.n (ys.take xs.length)≤nmL InstQ.n ys:=z5r InstQ.n ys xs.length;have hq:=z9w (.slice a xs.length cap) (.slice a' xs.length c) xs (ys.take xs.length) w h (x) hl (by rw[List.length_take,Nat.min_eq_left d];omega);rw[List.map_take]at hq;generalize sameNs (xs.map InstQ.e) ((ys.map InstQ.e).take xs.length)=E at*;have z:(xs.length:Int)≤(ys.length:Int):=by omega
  have J:xs.length≤c:=by omega
  have A:(xs.length:Int)≤(c:Int):=by omega
  have I:(0:Int)≤(xs.length:Int):=by omega
  clear hT x hn hd;go_enter Tryz.func19,Tryz.ntmps19
  go_wp2_with fail
  refine hq.mono ?_;rintro e w2 ⟨rfl,y⟩
  go_wp2
  go_ret;exact⟨rfl,y⟩
 ·have hd:decide (xs.length≤ys.length)=false:=decide_eq_false d;rw[hd,Bool.false_and];have z:¬(xs.length:Int)≤(ys.length:Int):=by omega
  clear hd;go_enter Tryz.func19,Tryz.ntmps19
  go_wp2
  go_ret;exact⟨rfl,Below.refl _ _⟩
theorem z4d{ds:List InstE}(h:ordF ds=0):diV ds=(decN ds:Int)∧dfT ds (diV ds)=defL ds (decN ds):=by
 have e:diV ds=(decN ds:Int):=if_pos h;refine⟨e,?_⟩;rw[e];unfold dfT;rw[if_pos (by unfold dfC;rw[if_pos h,if_pos ⟨by omega,by omega⟩]),Int.toNat_natCast]
theorem z8j(p:CluQ)(w:World)(hG:Rul w)(h:instK.At w p.vo p.ord)(h':nodeK.At w p.vm p.mem)(hl:p.n≤1048576):
  Calls Tryz.prog 46 #[.agg #[p.vo,p.vm]] w fun e w'=>e=.returned (.int .i64 (diV (p.ord.map InstQ.e)))∧Below w.heap.size w w':=by
 have hd:=fun w hG h=>z1a p.vo p.ord w hG h (by unfold CluQ.n at hl;omega)
 obtain⟨vo,ord,vm,mem⟩:=p;dsimp only at h h' hd;obtain⟨a0,k0,rfl⟩:=h.shape;obtain⟨a1,k1,rfl⟩:=h'.shape;generalize ordF (ord.map InstQ.e)=C at*;generalize diV (ord.map InstQ.e)=V at*;have b0:Below w.heap.size w (w.alloc (.cells #[.slice a0 ord.length k0,.slice a1 mem.length k1] 31)):=by go_grown
 have A0:=Blk.new w 31 #[.slice a0 ord.length k0,.slice a1 mem.length k1];have c0:=A0.cell 0 _ rfl;go_enter Tryz.func46,Tryz.ntmps46
 go_wp2_with fail
 refine(hd _ (hG.below b0) (h.below b0)).mono ?_;rintro e w2 ⟨rfl,hb⟩;replace b0:=b0.trans (hb.mono b0.size);clear hb hd c0 A0;have hff:∀w,(Instr.field 113 (.agg #[.int .i64 C,.int .i64 V]) 1).run Tryz.prog w=.ok (.int .i64 V) w:=fun w=>by kernel_rfl
 go_wp2
 go_ret;exact⟨rfl,b0⟩
theorem z3e(p:CluQ)(w:World)(hG:Rul w)(h:cluK.own w p)(hl:p.n≤1048576):
  Calls Tryz.prog 22 #[.agg #[p.vo,p.vm]] w fun e w'=>∃ (v':Value) (qs:List TxnQ),e=.returned v'∧qs.map TxnQ.e=dfT (p.ord.map InstQ.e) (diV (p.ord.map InstQ.e))∧txnK.Own w' v' qs∧qs.length+nmL TxnQ.n qs≤1048576∧Below w.heap.size w w':=by
 have hc:=fun w hG h h'=>z8j p w hG h h' hl
 have A:p.ord.length+nmL InstQ.n p.ord≤1048576:=by unfold CluQ.n at hl;omega
 have z:=fun(w':World) (hb:Below w.heap.size w w')=>cluK.own_out (F:=[]) (w':=w') h (Out.of_below hb) (fun _ _=>by simp)
 obtain⟨vo,d,vm,y⟩:=p;dsimp only at hc A z;obtain⟨a0,k0,rfl⟩:∃a c,vo=.slice a d.length c:=h.1.shape;obtain⟨a1,k1,rfl⟩:∃a c,vm=.slice a y.length c:=h.2.shape;have E:z51 (.slice a0 d.length k0):=z6j (show instK.Own w (.slice a0 d.length k0) d from h.1).1;have I:=fun n w hG hA=>z1w (.slice a0 d.length k0) d n w hG hA E A
 dsimp only;generalize hV:diV (d.map InstQ.e)=V at*;generalize hT:dfT (d.map InstQ.e) V=T at*;have HT:Hid (dfT (d.map InstQ.e) V=T):=hT;clear hT hV;have b0:Below w.heap.size w (w.alloc (.cells #[.slice a0 d.length k0,.slice a1 y.length k1] 31)):=by go_grown
 have A0:=Blk.new w 31 #[.slice a0 d.length k0,.slice a1 y.length k1];go_enter Tryz.func22,Tryz.ntmps22
 go_wp2_with fail
 generalize w.alloc (.cells #[.slice a0 d.length k0,.slice a1 y.length k1] 31)=W at*;have hW:Below W.heap.size W W.drew:=(Below.refl _ _).drew;have M:Nonempty (Lat W):=⟨⟨W,Below.refl _ _⟩⟩
 obtain⟨c0,c1⟩:=A0.lts2;refine z0b (S:=fun w'=>∃u:Lat W,w'=u.val) (by kernel_rfl) ?_;refine sgr [(0,3)] 4 (by kernel_rfl) ⟨⟨_,hW⟩,rfl⟩ ?_;simp only[pkE];repeat go_big_quiet_step (fail)
 refine wpQuiet_nil ?_;refine cla 3 (some 6) 46 #[.agg #[.slice a0 d.length k0,.slice a1 y.length k1]] 3 (by kernel_rfl) ?_;have x:=b0.trans (hW.mono b0.size);refine(hc _ (hG.below x) (z _ x).1.at (z _ x).2.at).mono ?_;rintro e w8 ⟨rfl,C⟩;replace hW:=hW.trans (C.mono hW.size);clear C x hc;refine⟨_,rfl,⟨⟨_,hW⟩,rfl⟩,?_⟩;simp only[Act.put,pjE];refine cla 4 (some 7) 45 #[.slice a0 d.length k0,.int .i64 V] 2 (by kernel_rfl) ?_;have x:=b0.trans (hW.mono b0.size);refine(I V _ (hG.below x) (z _ x).1.at).mono ?_;rintro e w9 ⟨v',qs,rfl,eq,on,_,_,D⟩;obtain⟨za,zc,rfl⟩:=on.shape;have L:qs.length+nmL TxnQ.n qs≤1048576:=q15 eq A;have J:Hid (qs.map TxnQ.e=T):=eq.trans HT.out;replace hW:=hW.trans (D.mono hW.size);clear D x I eq HT;generalize dfC (d.map InstQ.e) V=DC at*;refine⟨_,rfl,⟨⟨_,hW⟩,rfl⟩,?_⟩;simp only[Act.put,pjE];refine qta 5 (some 8) (.slice za qs.length zc) 1 (by kernel_rfl) (fun u _=>by kernel_rfl) ⟨⟨_,hW⟩,rfl⟩ ?_;simp only[Act.put,pjE];refine sgr [(6,1)] 0 (by kernel_rfl) ⟨⟨_,hW⟩,rfl⟩ ?_;simp only[pkE];repeat go_big_quiet_step (fail)
 refine wpQuiet_nil ?_;refine z0f (by kernel_rfl) ?_;replace b0:=b0.trans (hW.mono b0.size)
 go_wp2
 go_ret;exact⟨_,qs,rfl,J.out,on,L,b0⟩
theorem z42(p p':CluQ)(w:World)(hG:Rul w)(hT:ErrT w)(h:cluK.own w p)(h':cluK.own w p')(hl:p.n≤1048576)(O:p'.n≤1048576):
  Calls Tryz.prog 7 #[.agg #[p.vo,p.vm],.agg #[p'.vo,p'.vm]] w fun e w'=>e=.returned (.bool (laE p.e p'.e))∧Below w.heap.size w w':=by
 have Z:=fun w hG hT h=>z1l p w hG hT h hl
 have aa:=fun w hG hT h=>z1l p' w hG hT h O
 have af:=fun w hG h=>z3e p w hG h hl
 have ag:=fun w hG h=>z3e p' w hG h O
 have T:=fun(w':World) (hb:Below w.heap.size w w')=>cluK.own_out (F:=[]) (w':=w') h (Out.of_below hb) (fun _ _=>by simp)
 have U:=fun(w':World) (hb:Below w.heap.size w w')=>cluK.own_out (F:=[]) (w':=w') h' (Out.of_below hb) (fun _ _=>by simp)
 have L1:Hid (z1W p.e≠0→laE p.e p'.e=false):=fun h1=>q2B h1
 have L2:Hid (z1W p.e=0→z1W p'.e≠0→laE p.e p'.e=false):=fun h1 h2=>q2C h1 h2
 have L3:Hid (z1W p.e=0→z1W p'.e=0→¬p.ord.length≤p'.ord.length→laE p.e p'.e=false):=fun h1 h2 h3=>q2D h1 h2 (by simpa[CluQ.e]using h3)
 have L4:Hid (z1W p.e=0→z1W p'.e=0→p.ord.length≤p'.ord.length→laE p.e p'.e=(sameNs ((p.ord.take (p.ord.length-1)).map InstQ.e) ((p'.ord.map InstQ.e).take (p.ord.take (p.ord.length-1)).length) && preT (defL (p.ord.map InstQ.e) (decN (p.ord.map InstQ.e))) (defL (p'.ord.map InstQ.e) (decN (p'.ord.map InstQ.e))))):=fun h1 h2 h3=>q2E h1 h2 (by simpa[CluQ.e]using h3)
 have L5:Hid (z1W p.e=0→ordF (p.ord.map InstQ.e)=0∧1≤p.ord.length∧p.ord.length≤4):=fun h1=>z8Q h1
 have L6:Hid (z1W p'.e=0→ordF (p'.ord.map InstQ.e)=0∧1≤p'.ord.length∧p'.ord.length≤4):=fun h1=>z8Q h1
 have aj:p.ord.length+nmL InstQ.n p.ord≤1048576:=by unfold CluQ.n at hl;omega
 have ab:p'.ord.length+nmL InstQ.n p'.ord≤1048576:=by unfold CluQ.n at O;omega
 clear hl O;obtain⟨vo,x,vm,I⟩:=p;obtain⟨aB,d,aA,z⟩:=p';obtain⟨a0,k0,rfl⟩:∃a c,vo=.slice a x.length c:=h.1.shape;obtain⟨a1,k1,rfl⟩:∃a c,vm=.slice a I.length c:=h.2.shape;obtain⟨C,E,rfl⟩:∃a c,aB=.slice a d.length c:=h'.1.shape;obtain⟨J,N,rfl⟩:∃a c,aA=.slice a z.length c:=h'.2.shape;dsimp only at Z aa T U L1 L2 L3 L4 L5 L6 aj ab af ag;generalize laE _ _=LA at*;generalize aq:z1W (CluQ.e ⟨.slice a0 x.length k0,x,.slice a1 I.length k1,I⟩)=D at*;generalize ar:z1W (CluQ.e ⟨.slice C d.length E,d,.slice J z.length N,z⟩)=D' at*;clear aq ar;have b0:Below w.heap.size w ((w.alloc (.cells #[.slice a0 x.length k0,.slice a1 I.length k1] 31)).alloc (.cells #[.slice C d.length E,.slice J z.length N] 31)):=by go_grown
 have A0:=(Blk.new w 31 #[.slice a0 x.length k0,.slice a1 I.length k1]).below (w':=(w.alloc (.cells #[.slice a0 x.length k0,.slice a1 I.length k1] 31)).alloc (.cells #[.slice C d.length E,.slice J z.length N] 31)) (by go_grown);have B0:=Blk.new (w.alloc (.cells #[.slice a0 x.length k0,.slice a1 I.length k1] 31)) 31 #[.slice C d.length E,.slice J z.length N];simp only[World.size_alloc]at B0;obtain⟨c0,c1⟩:=A0.cel2;go_enter Tryz.func7,Tryz.ntmps7
 go_wp2_with fail
 clear c0 c1;generalize (w.alloc (.cells #[.slice a0 x.length k0,.slice a1 I.length k1] 31)).alloc (.cells #[.slice C d.length E,.slice J z.length N] 31)=W at*;refine(Z W (hG.below b0) (hT.below b0) (T W b0)).mono ?_;rintro e w1 ⟨rfl,hb⟩;replace A0:=A0.below hb;replace B0:=B0.below hb;replace b0:=b0.trans (hb.mono b0.size);clear hb Z;by_cases hD:D=0
 case neg=>
  have ap:(D !=0)=true:=by simpa using hD
  have A:Hid (LA=false):=L1.out hD;clear L1 L2 L3 L4 L5 L6
  go_wp2
  go_ret;exact⟨by rw[A.out];rfl,b0⟩
 have aF:(D !=0)=false:=by simp[hD]
 obtain⟨c0,c1⟩:=B0.cel2
 go_wp2_with fail
 clear c0 c1;refine(aa w1 (hG.below b0) (hT.below b0) (U w1 b0)).mono ?_;rintro e w2 ⟨rfl,hb⟩;replace A0:=A0.below hb;replace B0:=B0.below hb;replace b0:=b0.trans (hb.mono b0.size);clear hb aa;have c0:=A0.cell 0 _ rfl;have d0:=B0.cell 0 _ rfl;by_cases L:D'=0
 case neg=>
  have ap:(D' !=0)=true:=by simpa using L
  have A:Hid (LA=false):=L2.out hD L;clear L1 L2 L3 L4 L5 L6
  go_wp2
  go_ret;exact⟨by rw[A.out];rfl,b0⟩
 have aD:(D' !=0)=false:=by simp[L]
 by_cases ah:x.length≤d.length
 case neg=>
  have A:Hid (LA=false):=L3.out hD L ah;have au:(d.length:Int)<(x.length:Int):=by omega
  clear L1 L2 L3 L4 L5 L6
  go_wp2
  go_ret;exact⟨by rw[A.out];rfl,b0⟩
 have A:Hid _:=L4.out hD L ah;have H5:Hid _:=L5.out hD;have H6:Hid _:=L6.out L;have au:¬(d.length:Int)<(x.length:Int):=by omega
 obtain⟨m,hm⟩:∃m,x.length-1=m:=⟨_,rfl⟩
 have ai:m+1=x.length:=by have:=H5.out.2.1;omega
 have aE:wrap64 ((x.length:Int)-1)=(m:Int):=by
  have:=H5.out.2.2;unfold wrap64;omega
 have V:(x.take m).length=m:=by rw[List.length_take];omega
 rw[hm]at A;rw[V]at A;have X:Hid _:=A;have HM:Hid (m+1=x.length):=ai;clear L1 L2 L3 L4 L5 L6 hm ai A;have am:Hid (dfT (x.map InstQ.e) (diV (x.map InstQ.e))=defL (x.map InstQ.e) (decN (x.map InstQ.e))):=(z4d H5.out.1).2;have an:Hid (dfT (d.map InstQ.e) (diV (d.map InstQ.e))=defL (d.map InstQ.e) (decN (d.map InstQ.e))):=(z4d H6.out.1).2;obtain⟨aG,aH⟩:x.length≤k0∧k0≤maxLen:=z6j h.1.1;have aJ:(m:Int)≤(k0:Int):=by have:=HM.out;omega
 have aK:m≤k0:=by have:=HM.out;omega
 have aI:(0:Int)≤(m:Int):=by omega
 have M:∀w',Below w.heap.size w w'→Calls Tryz.prog 19 #[.slice a0 m k0,.slice C d.length E,.func (.func 20) #[] #[]] w' fun e aC=>e=.returned (.bool (q4s ((x.take m).map InstQ.e) (d.map InstQ.e)))∧Below w'.heap.size w' aC:=fun w' ae=>by
  have hA:=(show instK.At w' (.slice a0 x.length k0) x from(T w' ae).1.at).take' m (by have:=HM.out;omega);have h2:=z9K (.slice a0 m k0) (.slice C d.length E) (x.take m) d w' hA (U w' ae).1 (by have:=z5r InstQ.n x m;rw[V];have:=HM.out;omega) ab;exact h2
 have ak:q4s ((x.take m).map InstQ.e) (d.map InstQ.e)=sameNs ((x.take m).map InstQ.e) ((d.map InstQ.e).take m):=by
  unfold q4s;rw[List.length_map,V,List.length_map,decide_eq_true (by have:=HM.out;omega),Bool.true_and]
 rw[ak]at M;have al:Hid _:=M;clear M ak V h h' aj ab;generalize sameNs ((x.take m).map InstQ.e) ((d.map InstQ.e).take m)=SB at*;obtain⟨PP,Y⟩:∃PP,preT (defL (x.map InstQ.e) (decN (x.map InstQ.e))) (defL (d.map InstQ.e) (decN (d.map InstQ.e)))=PP:=⟨_,rfl⟩
 have ao:Hid (preT (defL (x.map InstQ.e) (decN (x.map InstQ.e))) (defL (d.map InstQ.e) (decN (d.map InstQ.e)))=PP):=Y;rw[Y]at X;clear Y
 go_wp2_with fail
 clear c0 d0;have M:=al.out;have ad:=hG.below b0
 cases SB with
 |true=>
  have hW:Below w2.heap.size w2 w2.drew:=(Below.refl _ _).drew;have av:Nonempty (Lat w2):=⟨⟨w2,Below.refl _ _⟩⟩
  have aw:=A0.lat 0 _ rfl;have ay:=B0.lat 0 _ rfl;have ax:=A0.lat 1 _ rfl;have az:=B0.lat 1 _ rfl;refine z0b (S:=fun w'=>∃u:Lat w2,w'=u.val) (by kernel_rfl) ?_;refine sgr [(0,3)] 9 (by kernel_rfl) ⟨⟨_,hW⟩,rfl⟩ ?_;simp only[pkE];repeat go_big_quiet_step (fail)
  refine wpQuiet_nil ?_;refine cla 3 (some 33) 19 #[.slice a0 m k0,.slice C d.length E,.func (.func 20) #[] #[]] 8 (by kernel_rfl) ?_;refine(M _ (b0.trans (hW.mono b0.size))).mono ?_;rintro e w9 ⟨rfl,y⟩;replace hW:=hW.trans (y.mono hW.size);clear y;refine⟨_,rfl,⟨⟨_,hW⟩,rfl⟩,?_⟩;simp only[Act.put,pjE];refine sgr [(4,2),(7,1)] 5 (by kernel_rfl) ⟨⟨_,hW⟩,rfl⟩ ?_;simp only[pkE];repeat go_big_quiet_step (fail)
  refine wpQuiet_nil ?_;refine cla 6 (some 36) 22 #[.agg #[.slice a0 x.length k0,.slice a1 I.length k1]] 4 (by kernel_rfl) ?_;refine(af _ (ad.below hW) (T _ (b0.trans (hW.mono b0.size)))).mono ?_;rintro e w9 ⟨v1,q1,rfl,e1,o1,n1,y⟩;replace hW:=hW.trans (y.mono hW.size);obtain⟨z1,y1,rfl⟩:=o1.shape;clear y;refine⟨_,rfl,⟨⟨_,hW⟩,rfl⟩,?_⟩;simp only[Act.put,pjE];refine cla 8 (some 38) 22 #[.agg #[.slice C d.length E,.slice J z.length N]] 3 (by kernel_rfl) ?_;refine(ag _ (ad.below hW) (U _ (b0.trans (hW.mono b0.size)))).mono ?_;rintro e w9 ⟨v2,q2,rfl,e2,o2,n2,y⟩;replace hW:=hW.trans (y.mono hW.size);obtain⟨z2,y2,rfl⟩:=o2.shape;replace o1:=o1.out (F:=[]) (Out.of_below y) (fun _ _=>by simp);clear y;refine⟨_,rfl,⟨⟨_,hW⟩,rfl⟩,?_⟩;simp only[Act.put,pjE];refine cla 9 (some 39) 21 #[.slice z1 q1.length y1,.slice z2 q2.length y2] 2 (by kernel_rfl) ?_;refine(q4u ao.out _ _ q1 q2 (e1.trans am.out) (e2.trans an.out) _ o1.at o2 n1 n2).mono ?_;rintro e w9 ⟨rfl,y⟩;replace hW:=hW.trans (y.mono hW.size);clear y;refine⟨_,rfl,⟨⟨_,hW⟩,rfl⟩,?_⟩;simp only[Act.put,pjE];refine sgr [(10,2)] 0 (by kernel_rfl) ⟨⟨_,hW⟩,rfl⟩ ?_;simp only[pkE];repeat go_big_quiet_step (fail)
  refine wpQuiet_nil ?_;refine z0f (by kernel_rfl) ?_;replace b0:=b0.trans (hW.mono b0.size)
  go_wp2
  go_ret;exact⟨by rw[X.out];simp,b0⟩
 |false=>
  have hW:Below w2.heap.size w2 w2.drew:=(Below.refl _ _).drew;have av:Nonempty (Lat w2):=⟨⟨w2,Below.refl _ _⟩⟩
  have aw:=A0.lat 0 _ rfl;have ay:=B0.lat 0 _ rfl;have ax:=A0.lat 1 _ rfl;have az:=B0.lat 1 _ rfl;refine z0b (S:=fun w'=>∃u:Lat w2,w'=u.val) (by kernel_rfl) ?_;refine sgr [(0,3)] 9 (by kernel_rfl) ⟨⟨_,hW⟩,rfl⟩ ?_;simp only[pkE];repeat go_big_quiet_step (fail)
  refine wpQuiet_nil ?_;refine cla 3 (some 33) 19 #[.slice a0 m k0,.slice C d.length E,.func (.func 20) #[] #[]] 8 (by kernel_rfl) ?_;refine(M _ (b0.trans (hW.mono b0.size))).mono ?_;rintro e w9 ⟨rfl,y⟩;replace hW:=hW.trans (y.mono hW.size);clear y;refine⟨_,rfl,⟨⟨_,hW⟩,rfl⟩,?_⟩;simp only[Act.put,pjE];refine sgr [(4,2),(7,1)] 5 (by kernel_rfl) ⟨⟨_,hW⟩,rfl⟩ ?_;simp only[pkE];repeat go_big_quiet_step (fail)
  refine wpQuiet_nil ?_;refine ska 6 (some 36) 4 (by kernel_rfl) ⟨⟨_,hW⟩,rfl⟩ ?_;simp only[Act.put,pjE];refine ska 8 (some 38) 3 (by kernel_rfl) ⟨⟨_,hW⟩,rfl⟩ ?_;simp only[Act.put,pjE];refine ska 9 (some 39) 2 (by kernel_rfl) ⟨⟨_,hW⟩,rfl⟩ ?_;simp only[Act.put,pjE];refine sgr [(10,2)] 0 (by kernel_rfl) ⟨⟨_,hW⟩,rfl⟩ ?_;simp only[pkE];repeat go_big_quiet_step (fail)
  refine wpQuiet_nil ?_;refine z0f (by kernel_rfl) ?_;replace b0:=b0.trans (hW.mono b0.size)
  go_wp2
  go_ret;exact⟨by rw[X.out];simp,b0⟩
theorem z43(p p':CluQ)(w:World)(h:cluK.own w p)(h':cluK.own w p')(hl:p.n≤1048576)(ak:p'.n≤1048576):
  Calls Tryz.prog 5 #[.agg #[p.vo,p.vm],.agg #[p'.vo,p'.vm]] w fun e w'=>e=.returned (.bool (laE p.e p'.e))∧Below w.heap.size w w':=by
 have ai:=fun b w hB h=>z3S b p w hB h hl
 have aj:=fun b w hB h=>z3S b p' w hB h ak
 have T:=fun(w':World) (hb:Below w.heap.size w w')=>cluK.own_out (F:=[]) (w':=w') h (Out.of_below hb) (fun _ _=>by simp)
 have U:=fun(w':World) (hb:Below w.heap.size w w')=>cluK.own_out (F:=[]) (w':=w') h' (Out.of_below hb) (fun _ _=>by simp)
 have L1:Hid (z1W p.e≠0→laE p.e p'.e=false):=fun h1=>q2B h1
 have L2:Hid (z1W p.e=0→z1W p'.e≠0→laE p.e p'.e=false):=fun h1 h2=>q2C h1 h2
 have L3:Hid (z1W p.e=0→z1W p'.e=0→¬p.ord.length≤p'.ord.length→laE p.e p'.e=false):=fun h1 h2 h3=>q2D h1 h2 (by simpa[CluQ.e]using h3)
 have L4:Hid (z1W p.e=0→z1W p'.e=0→p.ord.length≤p'.ord.length→laE p.e p'.e=(sameNs ((p.ord.take (p.ord.length-1)).map InstQ.e) ((p'.ord.map InstQ.e).take (p.ord.take (p.ord.length-1)).length) && preT (defL (p.ord.map InstQ.e) (decN (p.ord.map InstQ.e))) (defL (p'.ord.map InstQ.e) (decN (p'.ord.map InstQ.e))))):=fun h1 h2 h3=>q2E h1 h2 (by simpa[CluQ.e]using h3)
 have L5:Hid (z1W p.e=0→ordF (p.ord.map InstQ.e)=0∧1≤p.ord.length∧p.ord.length≤4):=fun h1=>z8Q h1
 have L6:Hid (z1W p'.e=0→ordF (p'.ord.map InstQ.e)=0∧1≤p'.ord.length∧p'.ord.length≤4):=fun h1=>z8Q h1
 have ae:p.ord.length+nmL InstQ.n p.ord≤1048576:=by unfold CluQ.n at hl;omega
 have af:p'.ord.length+nmL InstQ.n p'.ord≤1048576:=by unfold CluQ.n at ak;omega
 clear hl ak;obtain⟨vo,x,vm,I⟩:=p;obtain⟨aL,d,aK,z⟩:=p';obtain⟨a0,k0,rfl⟩:∃a c,vo=.slice a x.length c:=h.1.shape;obtain⟨a1,k1,rfl⟩:∃a c,vm=.slice a I.length c:=h.2.shape;obtain⟨C,E,rfl⟩:∃a c,aL=.slice a d.length c:=h'.1.shape;obtain⟨J,M,rfl⟩:∃a c,aK=.slice a z.length c:=h'.2.shape;dsimp only at ai aj T U L1 L2 L3 L4 L5 L6 ae af;generalize laE _ _=LA at*;generalize aE:z1W (CluQ.e ⟨.slice a0 x.length k0,x,.slice a1 I.length k1,I⟩)=D at*;generalize aF:z1W (CluQ.e ⟨.slice C d.length E,d,.slice J z.length M,z⟩)=D' at*;clear aE aF;have b0:Below w.heap.size w ((w.alloc (.cells #[.slice a0 x.length k0,.slice a1 I.length k1] 31)).alloc (.cells #[.slice C d.length E,.slice J z.length M] 31)):=by go_grown
 have A0:=(Blk.new w 31 #[.slice a0 x.length k0,.slice a1 I.length k1]).below (w':=(w.alloc (.cells #[.slice a0 x.length k0,.slice a1 I.length k1] 31)).alloc (.cells #[.slice C d.length E,.slice J z.length M] 31)) (by go_grown);have B0:=Blk.new (w.alloc (.cells #[.slice a0 x.length k0,.slice a1 I.length k1] 31)) 31 #[.slice C d.length E,.slice J z.length M];simp only[World.size_alloc]at B0;go_enter Tryz.func5,Tryz.ntmps5
 go_wp2_with fail
 generalize (w.alloc (.cells #[.slice a0 x.length k0,.slice a1 I.length k1] 31)).alloc (.cells #[.slice C d.length E,.slice J z.length M] 31)=W at*;refine(ai _ W A0 (T W b0)).mono ?_;rintro e w1 ⟨rfl,hb⟩;replace A0:=A0.below hb;replace B0:=B0.below hb;replace b0:=b0.trans (hb.mono b0.size);clear hb ai;by_cases hD:D=0
 case neg=>
  have aD:(D !=0)=true:=by simpa using hD
  have A:Hid (LA=false):=L1.out hD;clear L1 L2 L3 L4 L5 L6
  go_wp2
  go_ret;exact⟨by rw[A.out];rfl,b0⟩
 have aQ:(D !=0)=false:=by simp[hD]
 go_wp2_with fail
 refine(aj _ w1 B0 (U w1 b0)).mono ?_;rintro e w2 ⟨rfl,hb⟩;replace A0:=A0.below hb;replace B0:=B0.below hb;replace b0:=b0.trans (hb.mono b0.size);clear hb aj;have c0:=A0.cell 0 _ rfl;have d0:=B0.cell 0 _ rfl;by_cases L:D'=0
 case neg=>
  have aD:(D' !=0)=true:=by simpa using L
  have A:Hid (LA=false):=L2.out hD L;clear L1 L2 L3 L4 L5 L6
  go_wp2
  go_ret;exact⟨by rw[A.out];rfl,b0⟩
 have aM:(D' !=0)=false:=by simp[L]
 by_cases al:x.length≤d.length
 case neg=>
  have A:Hid (LA=false):=L3.out hD L al;have am:(d.length:Int)<(x.length:Int):=by omega
  clear L1 L2 L3 L4 L5 L6
  go_wp2
  go_ret;exact⟨by rw[A.out];rfl,b0⟩
 have A:Hid _:=L4.out hD L al;have H5:Hid _:=L5.out hD;have H6:Hid _:=L6.out L;have am:¬(d.length:Int)<(x.length:Int):=by omega
 obtain⟨m,hm⟩:∃m,x.length-1=m:=⟨_,rfl⟩
 have ao:m+1=x.length:=by have:=H5.out.2.1;omega
 have aP:wrap64 ((x.length:Int)-1)=(m:Int):=by
  have:=H5.out.2.2;unfold wrap64;omega
 have ar:(x.take m).length=m:=by rw[List.length_take];omega
 rw[hm]at A;rw[ar]at A;have V:Hid _:=A;have HM:Hid (m+1=x.length):=ao;clear L1 L2 L3 L4 L5 L6 hm ao A;have Z:=fun w h=>z8h (.slice a0 x.length k0) x w h ae H5.out.1
 have aa:=fun w h=>z8h (.slice C d.length E) d w h af H6.out.1
 have N:=fun w h=>z8i (.slice a0 x.length k0) x (decN (x.map InstQ.e):Int) w h ae H5.out.1 (by omega)
 have O:=fun w h=>z8i (.slice C d.length E) d (decN (d.map InstQ.e):Int) w h af H6.out.1 (by omega)
 simp only[Int.toNat_natCast]at N O;have aw:Hid _:=Z;have ax:Hid _:=aa;have ay:Hid _:=N;have az:Hid _:=O;clear Z aa N O;have aA:Hid (∀q:List TxnQ,q.map TxnQ.e=defL (x.map InstQ.e) (decN (x.map InstQ.e))→q.length+nmL TxnQ.n q≤1048576):=fun q hq=>q15 (hq.trans (z4d H5.out.1).2.symm) ae
 have aB:Hid (∀q:List TxnQ,q.map TxnQ.e=defL (d.map InstQ.e) (decN (d.map InstQ.e))→q.length+nmL TxnQ.n q≤1048576):=fun q hq=>q15 (hq.trans (z4d H6.out.1).2.symm) af
 obtain⟨PP,ag⟩:∃PP,preT (defL (x.map InstQ.e) (decN (x.map InstQ.e))) (defL (d.map InstQ.e) (decN (d.map InstQ.e)))=PP:=⟨_,rfl⟩
 have aC:Hid (preT (defL (x.map InstQ.e) (decN (x.map InstQ.e))) (defL (d.map InstQ.e) (decN (d.map InstQ.e)))=PP):=ag;rw[ag]at V;clear ag;obtain⟨SB,ah⟩:∃SB,sameNs ((x.take m).map InstQ.e) ((d.map InstQ.e).take m)=SB:=⟨_,rfl⟩
 have Y:Hid (sameNs ((x.take m).map InstQ.e) ((d.map InstQ.e).take m)=SB):=ah;rw[ah]at V;clear ah ar;have aJ:(x.length:Int)-1=(m:Int):=by have:=HM.out;omega
 have aN:decide (d.length<x.length)=false:=decide_eq_false (by omega);have aG:decide ((d.length:Int)<(x.length:Int))=false:=decide_eq_false am
 go_wp2
 clear c0 d0;go_loopw[5] (fun i wr=>∃k:Nat,k≤m∧i=.int .i64 k∧Blk wr w.heap.size 31 #[.slice a0 x.length k0,.slice a1 I.length k1]∧Blk wr (w.heap.size+1) 31 #[.slice C d.length E,.slice J z.length M]∧Below w.heap.size w wr∧Hid (∀j,j<k→sameN ((x.map InstQ.e).getD j z2H) ((d.map InstQ.e).getD j z2H)=true)) (fun i _=>m-(intOf i).toNat)
 case atStart=>exact⟨0,Nat.zero_le _,rfl,A0,B0,b0,fun j hj=>absurd hj (Nat.not_lt_zero _)⟩
 case round=>
  clear A0 B0 b0;obtain⟨k,hk,rfl,A0,B0,b0,HA⟩:=hrel;have c0:=A0.cell 0 _ rfl;by_cases an:k<m
  ·have ab:k<x.length:=by have:=HM.out;omega
   have ad:k<d.length:=by omega
   obtain⟨ga,fa,rfl,aR,PA⟩:=z7g (T wr b0).1.at k ab;obtain⟨gb,fb,rfl,aS,PB⟩:=z7g (U wr b0).1.at k ad;have hq:=z9v ga (fa+k*4) gb (fb+k*4) x[k] d[k];have n1:=z0W InstQ.n x k ab;have n2:=z0W InstQ.n d k ad;have aq:=fun w hP hQ=>hq w hP hQ (by omega) (by omega)
   have HY:Hid (sameN (InstQ.e x[k]) (InstQ.e d[k])=false→SB=false):=fun hx=>by
    rw[←Y.out];exact q4t ab ad an hx
   have HN:Hid (sameN (InstQ.e x[k]) (InstQ.e d[k])=true→∀j,j<k+1→sameN ((x.map InstQ.e).getD j z2H) ((d.map InstQ.e).getD j z2H)=true):=fun hx j hj=>by
    by_cases aH:j=k
    ·subst aH;rw[z1j x j ab,z1j d j ad];exact hx
    ·exact HA.out j (by omega)
   clear hq HA n1 n2;generalize sameN (InstQ.e x[k]) (InstQ.e d[k])=X at*;have aI:(k:Int)<(m:Int):=by omega
   have aT:(k:Int)<(x.length:Int):=by omega
   have aO:(k:Int)<(d.length:Int):=by omega
   go_wp2_with fail
   clear c0;have hW:Below wr.heap.size wr wr.drew:=(Below.refl _ _).drew;have ap:Nonempty (Lat wr):=⟨⟨wr,Below.refl _ _⟩⟩
   have au:=A0.lat 0 _ rfl;have av:=B0.lat 0 _ rfl;refine z0b (S:=fun w'=>∃u:Lat wr,w'=u.val) (by kernel_rfl) ?_;refine sgr [(0,8)] 2 (by kernel_rfl) ⟨⟨_,hW⟩,rfl⟩ ?_;simp only[pkE];repeat go_big_quiet_step (fail)
   refine wpQuiet_nil ?_;refine cla 8 (some 37) 12 #[.pointer (some ⟨ga,fa+k*4,none⟩),.pointer (some ⟨gb,fb+k*4,none⟩)] 1 (by kernel_rfl) ?_;refine(aq _ (PA.below hW) (PB.below hW)).mono ?_;rintro e w9 ⟨rfl,y⟩;replace hW:=hW.trans (y.mono hW.size);clear y aq;refine⟨_,rfl,⟨⟨_,hW⟩,rfl⟩,?_⟩;simp only[Act.put,pjE];refine sgr [(9,1)] 0 (by kernel_rfl) ⟨⟨_,hW⟩,rfl⟩ ?_;simp only[pkE];repeat go_big_quiet_step (fail)
   refine wpQuiet_nil ?_;refine z0f (by kernel_rfl) ?_;replace A0:=A0.below hW;replace B0:=B0.below hW;replace b0:=b0.trans (hW.mono b0.size);clear hW ap au av PA PB
   cases X with
   |false=>
    have E1:Hid (SB=false):=HY.out rfl;clear HY HN Y
    go_wp2
    go_ret;exact⟨by rw[V.out,E1.out];rfl,b0⟩
   |true=>
    have R:=HN.out rfl;have HR:Hid _:=R;clear HY HN R
    go_wp2
    go_roundw
    case rel=>exact⟨k+1,by omega,by go_num,A0,B0,b0,HR.out⟩
    case measure=>simp[intOf];omega
  ·have aI:¬(k:Int)<(m:Int):=by omega
   have E1:Hid (SB=true):=by
    rw[←Y.out];exact q3D (m:=m) (by have:=HM.out;omega) (by have:=HM.out;omega) (fun j hj=>HA.out j (by omega))
   clear HA Y;have Z:=aw.out;have aa:=ax.out;have N:=ay.out;have O:=az.out
   go_wp2_with fail
   clear c0;have hW:Below wr.heap.size wr wr.drew:=(Below.refl _ _).drew;have ap:Nonempty (Lat wr):=⟨⟨wr,Below.refl _ _⟩⟩
   have au:=A0.lat 0 _ rfl;have av:=B0.lat 0 _ rfl;have aU:=A0.lat 1 _ rfl;have aV:=B0.lat 1 _ rfl;refine z0b (S:=fun w'=>∃u:Lat wr,w'=u.val) (by kernel_rfl) ?_;refine sgr [(0,4),(6,4)] 6 (by kernel_rfl) ⟨⟨_,hW⟩,rfl⟩ ?_;simp only[pkE];repeat go_big_quiet_step (fail)
   refine wpQuiet_nil ?_;refine cla 4 (some 43) 15 #[.slice a0 x.length k0] 5 (by kernel_rfl) ?_;refine(Z _ (T _ (b0.trans (hW.mono b0.size))).1.at).mono ?_;rintro e w9 ⟨rfl,y⟩;replace hW:=hW.trans (y.mono hW.size);clear y;refine⟨_,rfl,⟨⟨_,hW⟩,rfl⟩,?_⟩;simp only[Act.put,pjE];refine cla 5 (some 44) 14 #[.slice a0 x.length k0,.int .i64 (decN (x.map InstQ.e):Int)] 4 (by kernel_rfl) ?_;refine(N _ (T _ (b0.trans (hW.mono b0.size))).1.at).mono ?_;rintro e w9 ⟨v1,q1,rfl,e1,o1,_,_,y⟩;replace hW:=hW.trans (y.mono hW.size);obtain⟨z1,y1,rfl⟩:=o1.shape;clear y;refine⟨_,rfl,⟨⟨_,hW⟩,rfl⟩,?_⟩;simp only[Act.put,pjE];refine cla 10 (some 49) 15 #[.slice C d.length E] 3 (by kernel_rfl) ?_;refine(aa _ (U _ (b0.trans (hW.mono b0.size))).1.at).mono ?_;rintro e w9 ⟨rfl,y⟩;replace hW:=hW.trans (y.mono hW.size);replace o1:=o1.out (F:=[]) (Out.of_below y) (fun _ _=>by simp);clear y;refine⟨_,rfl,⟨⟨_,hW⟩,rfl⟩,?_⟩;simp only[Act.put,pjE];refine cla 11 (some 50) 14 #[.slice C d.length E,.int .i64 (decN (d.map InstQ.e):Int)] 2 (by kernel_rfl) ?_;refine(O _ (U _ (b0.trans (hW.mono b0.size))).1.at).mono ?_;rintro e w9 ⟨v2,q2,rfl,e2,o2,_,_,y⟩;replace hW:=hW.trans (y.mono hW.size);obtain⟨z2,y2,rfl⟩:=o2.shape;replace o1:=o1.out (F:=[]) (Out.of_below y) (fun _ _=>by simp);clear y;refine⟨_,rfl,⟨⟨_,hW⟩,rfl⟩,?_⟩;simp only[Act.put,pjE];refine cla 12 (some 51) 13 #[.slice z1 q1.length y1,.slice z2 q2.length y2] 1 (by kernel_rfl) ?_;refine(q3E aC.out _ _ q1 q2 e1 e2 _ o1.at o2 (aA.out q1 e1) (aB.out q2 e2)).mono ?_;rintro e w9 ⟨rfl,y⟩;replace hW:=hW.trans (y.mono hW.size);replace o1:=o1.out (F:=[]) (Out.of_below y) (fun _ _=>by simp);replace o2:=o2.out (F:=[]) (Out.of_below y) (fun _ _=>by simp);clear y;refine⟨_,rfl,⟨⟨_,hW⟩,rfl⟩,?_⟩;simp only[Act.put,pjE];refine sgr [(13,1)] 0 (by kernel_rfl) ⟨⟨_,hW⟩,rfl⟩ ?_;simp only[pkE];repeat go_big_quiet_step (fail)
   refine wpQuiet_nil ?_;refine z0f (by kernel_rfl) ?_;replace b0:=b0.trans (hW.mono b0.size)
   go_wp2
   go_ret;exact⟨by rw[V.out,E1.out];simp,b0⟩
end Go.Proofs.YtljbililjlafcaaGreatDoor
