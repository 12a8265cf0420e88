/- Texts joined,with what the laws reach alone. -/
import Derived.Test.YtciofogeiohleaaGreatDoorCOAP
set_option linter.unusedVariables false
set_option linter.unusedSimpArgs false
set_option maxRecDepth 100000
set_option maxHeartbeats 8000000
namespace Go.Proofs.YtciofogeiohleaaGreatDoor
open Go.RowKit Go.BigFrame
theorem z6I(b o b' o':Nat)(p q:InstQ)(w:World)(hP:InstP w b o p)(hQ:InstP w b' o' q)(hl:p.n≤1048576)(an:q.n≤1048576)(hw:∀r∈p.rounds,r.rep.length=3∧r.pro.length=3)(ai:∀r∈q.rounds,r.rep.length=3∧r.pro.length=3)(ae:p.dec.length=3)(T:q.dec.length=3):
  Calls Tryz.prog 64 #[.pointer (some ⟨b,o,none⟩),.pointer (some ⟨b',o',none⟩)] w fun e w'=>e=.returned (.bool (grw p.e q.e))∧Below w.heap.size w w':=by
 have hB:Below w.heap.size w w:=Below.refl _ _;obtain⟨h1,vb,bt,vr,rs,vd,dc⟩:=p;obtain⟨h2,ao,A,aq,d,ap,G⟩:=q;obtain⟨hT,hR,hD⟩:txnK.At w vb bt∧roundK.At w vr rs∧intK.At w vd dc:=hP.rd;obtain⟨gT,gR,gD⟩:txnK.At w ao A∧roundK.At w aq d∧intK.At w ap G:=hQ.rd;dsimp only[InstQ.n]at hl an hw ai ae T;obtain⟨a1,k1,rfl⟩:=hT.shape;obtain⟨a2,k2,rfl⟩:=hR.shape;obtain⟨a3,k3,rfl⟩:=hD.shape;obtain⟨b1,m1,rfl⟩:=gT.shape;obtain⟨b2,m2,rfl⟩:=gR.shape;obtain⟨b3,m3,rfl⟩:=gD.shape;have e1:=fun w h h'=>z16 (.slice a1 bt.length k1) (.slice b1 A.length m1) (bt.map TxnQ.e) (A.map TxnQ.e) w h h' (by rw[List.length_map,z07];omega) (by rw[List.length_map,z07];omega)
 have e3:=fun w h h'=>z1y (.slice a3 dc.length k3) (.slice b3 G.length m3) dc G w h h' ae T
 generalize hE:grw _ _=E;have HE:Hid (E=((!h1||(h2 && sameTs (bt.map TxnQ.e) (A.map TxnQ.e))) && decide (rs.length≤d.length) && z7O (rs.map RoundQ.e) (d.map RoundQ.e) && kps dc G)):=show _=_ by
  rw[←hE];unfold grw;simp only[InstQ.e,List.length_map]
 clear hE ae T;generalize sameTs (bt.map TxnQ.e) (A.map TxnQ.e)=X at*;generalize kps dc G=Z at*;go_enter Tryz.func64,Tryz.ntmps64
 go_wp2_with fail
 by_cases aa:d.length<rs.length
 ·have hd:decide ((d.length:Int)<(rs.length:Int))=true:=decide_eq_true (by omega);have I:(d.length:Int)<(rs.length:Int):=by omega
  have U:decide (rs.length≤d.length)=false:=decide_eq_false (by omega);have D:Hid (E=false):=show _=_ by rw[HE.out,U];simp
  clear U aa
  cases h1 with
  |false=>
   have E1:Hid (E=false):=D.out;have hW:Below w.heap.size w w.drew:=(Below.refl _ _).drew;have s:Nonempty (Lat w):=⟨⟨w,Below.refl _ _⟩⟩
   have c0:=z0a hP.box.c0;have c1:=z0a hP.box.c1;have c2:=z0a hP.box.c2;have c3:=z0a hP.box.c3;have d0:=z0a hQ.box.c0;have d1:=z0a hQ.box.c1;have d2:=z0a hQ.box.c2;have d3:=z0a hQ.box.c3;dsimp only at c0 c1 c2 c3 d0 d1 d2 d3;clear HE;refine z0b (S:=fun w'=>∃u:Lat w,w'=u.val) (by kernel_rfl) ?_;refine sgr [(0,19)] 29 (by kernel_rfl) ⟨⟨_,hW⟩,rfl⟩ ?_;simp only[pkE];repeat go_big_quiet_step (fail)
   refine wpQuiet_nil ?_;refine ska 19 (some 25) 28 (by kernel_rfl) ⟨⟨_,hW⟩,rfl⟩ ?_;simp only[Act.put,pjE];refine sgr [(20,8),(29,4)] 16 (by kernel_rfl) ⟨⟨_,hW⟩,rfl⟩ ?_;simp only[pkE];repeat go_big_quiet_step (fail)
   refine wpQuiet_nil ?_;refine qta 28 (some 34) (.int .i64 (d.length:Int)) 15 (by kernel_rfl) (fun u _=>by kernel_rfl) ⟨⟨_,hW⟩,rfl⟩ ?_;simp only[Act.put,pjE];refine qta 33 (some 39) (.int .i64 (rs.length:Int)) 14 (by kernel_rfl) (fun u _=>by kernel_rfl) ⟨⟨_,hW⟩,rfl⟩ ?_;simp only[Act.put,pjE];refine sgr [(34,11)] 3 (by kernel_rfl) ⟨⟨_,hW⟩,rfl⟩ ?_;simp only[pkE];repeat go_big_quiet_step (fail)
   refine wpQuiet_nil ?_;refine ska 45 (some 51) 2 (by kernel_rfl) ⟨⟨_,hW⟩,rfl⟩ ?_;simp only[Act.put,pjE];refine sgr [(46,2)] 0 (by kernel_rfl) ⟨⟨_,hW⟩,rfl⟩ ?_;simp only[pkE];repeat go_big_quiet_step (fail)
   refine wpQuiet_nil ?_;refine z0e (by kernel_rfl) ?_;replace hB:=hB.trans (hW.mono hB.size);clear c0 c1 c2 c3 d0 d1 d2 d3 hW s
   go_wp2
   go_ret;exact⟨by rw[E1.out];rfl,hB⟩
  |true=>
   cases h2 with
   |false=>
    have E1:Hid (E=false):=D.out;have hW:Below w.heap.size w w.drew:=(Below.refl _ _).drew;have s:Nonempty (Lat w):=⟨⟨w,Below.refl _ _⟩⟩
    have c0:=z0a hP.box.c0;have c1:=z0a hP.box.c1;have c2:=z0a hP.box.c2;have c3:=z0a hP.box.c3;have d0:=z0a hQ.box.c0;have d1:=z0a hQ.box.c1;have d2:=z0a hQ.box.c2;have d3:=z0a hQ.box.c3;dsimp only at c0 c1 c2 c3 d0 d1 d2 d3;clear HE;refine z0b (S:=fun w'=>∃u:Lat w,w'=u.val) (by kernel_rfl) ?_;refine sgr [(0,19)] 29 (by kernel_rfl) ⟨⟨_,hW⟩,rfl⟩ ?_;simp only[pkE];repeat go_big_quiet_step (fail)
    refine wpQuiet_nil ?_;refine ska 19 (some 25) 28 (by kernel_rfl) ⟨⟨_,hW⟩,rfl⟩ ?_;simp only[Act.put,pjE];refine sgr [(20,8),(29,4)] 16 (by kernel_rfl) ⟨⟨_,hW⟩,rfl⟩ ?_;simp only[pkE];repeat go_big_quiet_step (fail)
    refine wpQuiet_nil ?_;refine ska 28 (some 34) 15 (by kernel_rfl) ⟨⟨_,hW⟩,rfl⟩ ?_;simp only[Act.put,pjE];refine ska 33 (some 39) 14 (by kernel_rfl) ⟨⟨_,hW⟩,rfl⟩ ?_;simp only[Act.put,pjE];refine sgr [(34,11)] 3 (by kernel_rfl) ⟨⟨_,hW⟩,rfl⟩ ?_;simp only[pkE];repeat go_big_quiet_step (fail)
    refine wpQuiet_nil ?_;refine ska 45 (some 51) 2 (by kernel_rfl) ⟨⟨_,hW⟩,rfl⟩ ?_;simp only[Act.put,pjE];refine sgr [(46,2)] 0 (by kernel_rfl) ⟨⟨_,hW⟩,rfl⟩ ?_;simp only[pkE];repeat go_big_quiet_step (fail)
    refine wpQuiet_nil ?_;refine z0e (by kernel_rfl) ?_;replace hB:=hB.trans (hW.mono hB.size);clear c0 c1 c2 c3 d0 d1 d2 d3 hW s
    go_wp2
    go_ret;exact⟨by rw[E1.out];rfl,hB⟩
   |true=>
    cases X with
    |false=>
     have E1:Hid (E=false):=D.out;have hW:Below w.heap.size w w.drew:=(Below.refl _ _).drew;have s:Nonempty (Lat w):=⟨⟨w,Below.refl _ _⟩⟩
     have c0:=z0a hP.box.c0;have c1:=z0a hP.box.c1;have c2:=z0a hP.box.c2;have c3:=z0a hP.box.c3;have d0:=z0a hQ.box.c0;have d1:=z0a hQ.box.c1;have d2:=z0a hQ.box.c2;have d3:=z0a hQ.box.c3;dsimp only at c0 c1 c2 c3 d0 d1 d2 d3;clear HE;refine z0b (S:=fun w'=>∃u:Lat w,w'=u.val) (by kernel_rfl) ?_;refine sgr [(0,19)] 29 (by kernel_rfl) ⟨⟨_,hW⟩,rfl⟩ ?_;simp only[pkE];repeat go_big_quiet_step (fail)
     refine wpQuiet_nil ?_;refine cla 19 (some 25) 102 #[.slice a1 bt.length k1,.slice b1 A.length m1] 28 (by kernel_rfl) ?_;refine(e1 _ (z0o (hT.below hW)) (z0o (gT.below hW))).mono ?_;rintro e w9 ⟨rfl,c⟩;replace hW:=hW.trans (c.mono hW.size);clear c;refine⟨_,rfl,⟨⟨_,hW⟩,rfl⟩,?_⟩;simp only[Act.put,pjE];refine sgr [(20,8),(29,4)] 16 (by kernel_rfl) ⟨⟨_,hW⟩,rfl⟩ ?_;simp only[pkE];repeat go_big_quiet_step (fail)
     refine wpQuiet_nil ?_;refine ska 28 (some 34) 15 (by kernel_rfl) ⟨⟨_,hW⟩,rfl⟩ ?_;simp only[Act.put,pjE];refine ska 33 (some 39) 14 (by kernel_rfl) ⟨⟨_,hW⟩,rfl⟩ ?_;simp only[Act.put,pjE];refine sgr [(34,11)] 3 (by kernel_rfl) ⟨⟨_,hW⟩,rfl⟩ ?_;simp only[pkE];repeat go_big_quiet_step (fail)
     refine wpQuiet_nil ?_;refine ska 45 (some 51) 2 (by kernel_rfl) ⟨⟨_,hW⟩,rfl⟩ ?_;simp only[Act.put,pjE];refine sgr [(46,2)] 0 (by kernel_rfl) ⟨⟨_,hW⟩,rfl⟩ ?_;simp only[pkE];repeat go_big_quiet_step (fail)
     refine wpQuiet_nil ?_;refine z0e (by kernel_rfl) ?_;replace hB:=hB.trans (hW.mono hB.size);clear c0 c1 c2 c3 d0 d1 d2 d3 hW s
     go_wp2
     go_ret;exact⟨by rw[E1.out];rfl,hB⟩
    |true=>
     have E1:Hid (E=false):=D.out;have hW:Below w.heap.size w w.drew:=(Below.refl _ _).drew;have s:Nonempty (Lat w):=⟨⟨w,Below.refl _ _⟩⟩
     have c0:=z0a hP.box.c0;have c1:=z0a hP.box.c1;have c2:=z0a hP.box.c2;have c3:=z0a hP.box.c3;have d0:=z0a hQ.box.c0;have d1:=z0a hQ.box.c1;have d2:=z0a hQ.box.c2;have d3:=z0a hQ.box.c3;dsimp only at c0 c1 c2 c3 d0 d1 d2 d3;clear HE;refine z0b (S:=fun w'=>∃u:Lat w,w'=u.val) (by kernel_rfl) ?_;refine sgr [(0,19)] 29 (by kernel_rfl) ⟨⟨_,hW⟩,rfl⟩ ?_;simp only[pkE];repeat go_big_quiet_step (fail)
     refine wpQuiet_nil ?_;refine cla 19 (some 25) 102 #[.slice a1 bt.length k1,.slice b1 A.length m1] 28 (by kernel_rfl) ?_;refine(e1 _ (z0o (hT.below hW)) (z0o (gT.below hW))).mono ?_;rintro e w9 ⟨rfl,c⟩;replace hW:=hW.trans (c.mono hW.size);clear c;refine⟨_,rfl,⟨⟨_,hW⟩,rfl⟩,?_⟩;simp only[Act.put,pjE];refine sgr [(20,8),(29,4)] 16 (by kernel_rfl) ⟨⟨_,hW⟩,rfl⟩ ?_;simp only[pkE];repeat go_big_quiet_step (fail)
     refine wpQuiet_nil ?_;refine qta 28 (some 34) (.int .i64 (d.length:Int)) 15 (by kernel_rfl) (fun u _=>by kernel_rfl) ⟨⟨_,hW⟩,rfl⟩ ?_;simp only[Act.put,pjE];refine qta 33 (some 39) (.int .i64 (rs.length:Int)) 14 (by kernel_rfl) (fun u _=>by kernel_rfl) ⟨⟨_,hW⟩,rfl⟩ ?_;simp only[Act.put,pjE];refine sgr [(34,11)] 3 (by kernel_rfl) ⟨⟨_,hW⟩,rfl⟩ ?_;simp only[pkE];repeat go_big_quiet_step (fail)
     refine wpQuiet_nil ?_;refine ska 45 (some 51) 2 (by kernel_rfl) ⟨⟨_,hW⟩,rfl⟩ ?_;simp only[Act.put,pjE];refine sgr [(46,2)] 0 (by kernel_rfl) ⟨⟨_,hW⟩,rfl⟩ ?_;simp only[pkE];repeat go_big_quiet_step (fail)
     refine wpQuiet_nil ?_;refine z0e (by kernel_rfl) ?_;replace hB:=hB.trans (hW.mono hB.size);clear c0 c1 c2 c3 d0 d1 d2 d3 hW s
     go_wp2
     go_ret;exact⟨by rw[E1.out];rfl,hB⟩
 ·have hd:decide ((d.length:Int)<(rs.length:Int))=false:=decide_eq_false (by omega);have I:¬(d.length:Int)<(rs.length:Int):=by omega
  have U:decide (rs.length≤d.length)=true:=decide_eq_true (by omega);have HL:Hid (rs.length≤d.length):=show _≤_ by omega
  rw[U]at HE;clear U aa
  cases Z with
  |false=>
   have D:Hid (E=false):=show _=_ by rw[HE.out];simp
   cases h1 with
   |false=>
    have E1:Hid (E=false):=D.out;have hW:Below w.heap.size w w.drew:=(Below.refl _ _).drew;have s:Nonempty (Lat w):=⟨⟨w,Below.refl _ _⟩⟩
    have c0:=z0a hP.box.c0;have c1:=z0a hP.box.c1;have c2:=z0a hP.box.c2;have c3:=z0a hP.box.c3;have d0:=z0a hQ.box.c0;have d1:=z0a hQ.box.c1;have d2:=z0a hQ.box.c2;have d3:=z0a hQ.box.c3;dsimp only at c0 c1 c2 c3 d0 d1 d2 d3;clear HE;refine z0b (S:=fun w'=>∃u:Lat w,w'=u.val) (by kernel_rfl) ?_;refine sgr [(0,19)] 29 (by kernel_rfl) ⟨⟨_,hW⟩,rfl⟩ ?_;simp only[pkE];repeat go_big_quiet_step (fail)
    refine wpQuiet_nil ?_;refine ska 19 (some 25) 28 (by kernel_rfl) ⟨⟨_,hW⟩,rfl⟩ ?_;simp only[Act.put,pjE];refine sgr [(20,8),(29,4)] 16 (by kernel_rfl) ⟨⟨_,hW⟩,rfl⟩ ?_;simp only[pkE];repeat go_big_quiet_step (fail)
    refine wpQuiet_nil ?_;refine qta 28 (some 34) (.int .i64 (d.length:Int)) 15 (by kernel_rfl) (fun u _=>by kernel_rfl) ⟨⟨_,hW⟩,rfl⟩ ?_;simp only[Act.put,pjE];refine qta 33 (some 39) (.int .i64 (rs.length:Int)) 14 (by kernel_rfl) (fun u _=>by kernel_rfl) ⟨⟨_,hW⟩,rfl⟩ ?_;simp only[Act.put,pjE];refine sgr [(34,11)] 3 (by kernel_rfl) ⟨⟨_,hW⟩,rfl⟩ ?_;simp only[pkE];repeat go_big_quiet_step (fail)
    refine wpQuiet_nil ?_;refine cla 45 (some 51) 120 #[.slice a3 dc.length k3,.slice b3 G.length m3] 2 (by kernel_rfl) ?_;refine(e3 _ (hD.below hW) (gD.below hW)).mono ?_;rintro e w9 ⟨rfl,c⟩;replace hW:=hW.trans (c.mono hW.size);clear c;refine⟨_,rfl,⟨⟨_,hW⟩,rfl⟩,?_⟩;simp only[Act.put,pjE];refine sgr [(46,2)] 0 (by kernel_rfl) ⟨⟨_,hW⟩,rfl⟩ ?_;simp only[pkE];repeat go_big_quiet_step (fail)
    refine wpQuiet_nil ?_;refine z0e (by kernel_rfl) ?_;replace hB:=hB.trans (hW.mono hB.size);clear c0 c1 c2 c3 d0 d1 d2 d3 hW s
    go_wp2
    go_ret;exact⟨by rw[E1.out];rfl,hB⟩
   |true=>
    cases h2 with
    |false=>
     have E1:Hid (E=false):=D.out;have hW:Below w.heap.size w w.drew:=(Below.refl _ _).drew;have s:Nonempty (Lat w):=⟨⟨w,Below.refl _ _⟩⟩
     have c0:=z0a hP.box.c0;have c1:=z0a hP.box.c1;have c2:=z0a hP.box.c2;have c3:=z0a hP.box.c3;have d0:=z0a hQ.box.c0;have d1:=z0a hQ.box.c1;have d2:=z0a hQ.box.c2;have d3:=z0a hQ.box.c3;dsimp only at c0 c1 c2 c3 d0 d1 d2 d3;clear HE;refine z0b (S:=fun w'=>∃u:Lat w,w'=u.val) (by kernel_rfl) ?_;refine sgr [(0,19)] 29 (by kernel_rfl) ⟨⟨_,hW⟩,rfl⟩ ?_;simp only[pkE];repeat go_big_quiet_step (fail)
     refine wpQuiet_nil ?_;refine ska 19 (some 25) 28 (by kernel_rfl) ⟨⟨_,hW⟩,rfl⟩ ?_;simp only[Act.put,pjE];refine sgr [(20,8),(29,4)] 16 (by kernel_rfl) ⟨⟨_,hW⟩,rfl⟩ ?_;simp only[pkE];repeat go_big_quiet_step (fail)
     refine wpQuiet_nil ?_;refine ska 28 (some 34) 15 (by kernel_rfl) ⟨⟨_,hW⟩,rfl⟩ ?_;simp only[Act.put,pjE];refine ska 33 (some 39) 14 (by kernel_rfl) ⟨⟨_,hW⟩,rfl⟩ ?_;simp only[Act.put,pjE];refine sgr [(34,11)] 3 (by kernel_rfl) ⟨⟨_,hW⟩,rfl⟩ ?_;simp only[pkE];repeat go_big_quiet_step (fail)
     refine wpQuiet_nil ?_;refine ska 45 (some 51) 2 (by kernel_rfl) ⟨⟨_,hW⟩,rfl⟩ ?_;simp only[Act.put,pjE];refine sgr [(46,2)] 0 (by kernel_rfl) ⟨⟨_,hW⟩,rfl⟩ ?_;simp only[pkE];repeat go_big_quiet_step (fail)
     refine wpQuiet_nil ?_;refine z0e (by kernel_rfl) ?_;replace hB:=hB.trans (hW.mono hB.size);clear c0 c1 c2 c3 d0 d1 d2 d3 hW s
     go_wp2
     go_ret;exact⟨by rw[E1.out];rfl,hB⟩
    |true=>
     cases X with
     |false=>
      have E1:Hid (E=false):=D.out;have hW:Below w.heap.size w w.drew:=(Below.refl _ _).drew;have s:Nonempty (Lat w):=⟨⟨w,Below.refl _ _⟩⟩
      have c0:=z0a hP.box.c0;have c1:=z0a hP.box.c1;have c2:=z0a hP.box.c2;have c3:=z0a hP.box.c3;have d0:=z0a hQ.box.c0;have d1:=z0a hQ.box.c1;have d2:=z0a hQ.box.c2;have d3:=z0a hQ.box.c3;dsimp only at c0 c1 c2 c3 d0 d1 d2 d3;clear HE;refine z0b (S:=fun w'=>∃u:Lat w,w'=u.val) (by kernel_rfl) ?_;refine sgr [(0,19)] 29 (by kernel_rfl) ⟨⟨_,hW⟩,rfl⟩ ?_;simp only[pkE];repeat go_big_quiet_step (fail)
      refine wpQuiet_nil ?_;refine cla 19 (some 25) 102 #[.slice a1 bt.length k1,.slice b1 A.length m1] 28 (by kernel_rfl) ?_;refine(e1 _ (z0o (hT.below hW)) (z0o (gT.below hW))).mono ?_;rintro e w9 ⟨rfl,c⟩;replace hW:=hW.trans (c.mono hW.size);clear c;refine⟨_,rfl,⟨⟨_,hW⟩,rfl⟩,?_⟩;simp only[Act.put,pjE];refine sgr [(20,8),(29,4)] 16 (by kernel_rfl) ⟨⟨_,hW⟩,rfl⟩ ?_;simp only[pkE];repeat go_big_quiet_step (fail)
      refine wpQuiet_nil ?_;refine ska 28 (some 34) 15 (by kernel_rfl) ⟨⟨_,hW⟩,rfl⟩ ?_;simp only[Act.put,pjE];refine ska 33 (some 39) 14 (by kernel_rfl) ⟨⟨_,hW⟩,rfl⟩ ?_;simp only[Act.put,pjE];refine sgr [(34,11)] 3 (by kernel_rfl) ⟨⟨_,hW⟩,rfl⟩ ?_;simp only[pkE];repeat go_big_quiet_step (fail)
      refine wpQuiet_nil ?_;refine ska 45 (some 51) 2 (by kernel_rfl) ⟨⟨_,hW⟩,rfl⟩ ?_;simp only[Act.put,pjE];refine sgr [(46,2)] 0 (by kernel_rfl) ⟨⟨_,hW⟩,rfl⟩ ?_;simp only[pkE];repeat go_big_quiet_step (fail)
      refine wpQuiet_nil ?_;refine z0e (by kernel_rfl) ?_;replace hB:=hB.trans (hW.mono hB.size);clear c0 c1 c2 c3 d0 d1 d2 d3 hW s
      go_wp2
      go_ret;exact⟨by rw[E1.out];rfl,hB⟩
     |true=>
      have E1:Hid (E=false):=D.out;have hW:Below w.heap.size w w.drew:=(Below.refl _ _).drew;have s:Nonempty (Lat w):=⟨⟨w,Below.refl _ _⟩⟩
      have c0:=z0a hP.box.c0;have c1:=z0a hP.box.c1;have c2:=z0a hP.box.c2;have c3:=z0a hP.box.c3;have d0:=z0a hQ.box.c0;have d1:=z0a hQ.box.c1;have d2:=z0a hQ.box.c2;have d3:=z0a hQ.box.c3;dsimp only at c0 c1 c2 c3 d0 d1 d2 d3;clear HE;refine z0b (S:=fun w'=>∃u:Lat w,w'=u.val) (by kernel_rfl) ?_;refine sgr [(0,19)] 29 (by kernel_rfl) ⟨⟨_,hW⟩,rfl⟩ ?_;simp only[pkE];repeat go_big_quiet_step (fail)
      refine wpQuiet_nil ?_;refine cla 19 (some 25) 102 #[.slice a1 bt.length k1,.slice b1 A.length m1] 28 (by kernel_rfl) ?_;refine(e1 _ (z0o (hT.below hW)) (z0o (gT.below hW))).mono ?_;rintro e w9 ⟨rfl,c⟩;replace hW:=hW.trans (c.mono hW.size);clear c;refine⟨_,rfl,⟨⟨_,hW⟩,rfl⟩,?_⟩;simp only[Act.put,pjE];refine sgr [(20,8),(29,4)] 16 (by kernel_rfl) ⟨⟨_,hW⟩,rfl⟩ ?_;simp only[pkE];repeat go_big_quiet_step (fail)
      refine wpQuiet_nil ?_;refine qta 28 (some 34) (.int .i64 (d.length:Int)) 15 (by kernel_rfl) (fun u _=>by kernel_rfl) ⟨⟨_,hW⟩,rfl⟩ ?_;simp only[Act.put,pjE];refine qta 33 (some 39) (.int .i64 (rs.length:Int)) 14 (by kernel_rfl) (fun u _=>by kernel_rfl) ⟨⟨_,hW⟩,rfl⟩ ?_;simp only[Act.put,pjE];refine sgr [(34,11)] 3 (by kernel_rfl) ⟨⟨_,hW⟩,rfl⟩ ?_;simp only[pkE];repeat go_big_quiet_step (fail)
      refine wpQuiet_nil ?_;refine cla 45 (some 51) 120 #[.slice a3 dc.length k3,.slice b3 G.length m3] 2 (by kernel_rfl) ?_;refine(e3 _ (hD.below hW) (gD.below hW)).mono ?_;rintro e w9 ⟨rfl,c⟩;replace hW:=hW.trans (c.mono hW.size);clear c;refine⟨_,rfl,⟨⟨_,hW⟩,rfl⟩,?_⟩;simp only[Act.put,pjE];refine sgr [(46,2)] 0 (by kernel_rfl) ⟨⟨_,hW⟩,rfl⟩ ?_;simp only[pkE];repeat go_big_quiet_step (fail)
      refine wpQuiet_nil ?_;refine z0e (by kernel_rfl) ?_;replace hB:=hB.trans (hW.mono hB.size);clear c0 c1 c2 c3 d0 d1 d2 d3 hW s
      go_wp2
      go_ret;exact⟨by rw[E1.out];rfl,hB⟩
  |true=>
   cases h1 with
   |false=>
    have z:Hid (E=z7O (rs.map RoundQ.e) (d.map RoundQ.e)):=show _=_ by rw[HE.out];simp
    clear HE;have hW:Below w.heap.size w w.drew:=(Below.refl _ _).drew;have s:Nonempty (Lat w):=⟨⟨w,Below.refl _ _⟩⟩
    have c0:=z0a hP.box.c0;have c1:=z0a hP.box.c1;have c2:=z0a hP.box.c2;have c3:=z0a hP.box.c3;have d0:=z0a hQ.box.c0;have d1:=z0a hQ.box.c1;have d2:=z0a hQ.box.c2;have d3:=z0a hQ.box.c3;dsimp only at c0 c1 c2 c3 d0 d1 d2 d3;refine z0b (S:=fun w'=>∃u:Lat w,w'=u.val) (by kernel_rfl) ?_;refine sgr [(0,19)] 29 (by kernel_rfl) ⟨⟨_,hW⟩,rfl⟩ ?_;simp only[pkE];repeat go_big_quiet_step (fail)
    refine wpQuiet_nil ?_;refine ska 19 (some 25) 28 (by kernel_rfl) ⟨⟨_,hW⟩,rfl⟩ ?_;simp only[Act.put,pjE];refine sgr [(20,8),(29,4)] 16 (by kernel_rfl) ⟨⟨_,hW⟩,rfl⟩ ?_;simp only[pkE];repeat go_big_quiet_step (fail)
    refine wpQuiet_nil ?_;refine qta 28 (some 34) (.int .i64 (d.length:Int)) 15 (by kernel_rfl) (fun u _=>by kernel_rfl) ⟨⟨_,hW⟩,rfl⟩ ?_;simp only[Act.put,pjE];refine qta 33 (some 39) (.int .i64 (rs.length:Int)) 14 (by kernel_rfl) (fun u _=>by kernel_rfl) ⟨⟨_,hW⟩,rfl⟩ ?_;simp only[Act.put,pjE];refine sgr [(34,11)] 3 (by kernel_rfl) ⟨⟨_,hW⟩,rfl⟩ ?_;simp only[pkE];repeat go_big_quiet_step (fail)
    refine wpQuiet_nil ?_;refine cla 45 (some 51) 120 #[.slice a3 dc.length k3,.slice b3 G.length m3] 2 (by kernel_rfl) ?_;refine(e3 _ (hD.below hW) (gD.below hW)).mono ?_;rintro e w9 ⟨rfl,c⟩;replace hW:=hW.trans (c.mono hW.size);clear c;refine⟨_,rfl,⟨⟨_,hW⟩,rfl⟩,?_⟩;simp only[Act.put,pjE];refine sgr [(46,2)] 0 (by kernel_rfl) ⟨⟨_,hW⟩,rfl⟩ ?_;simp only[pkE];repeat go_big_quiet_step (fail)
    refine wpQuiet_nil ?_;refine z0e (by kernel_rfl) ?_;replace hB:=hB.trans (hW.mono hB.size);clear c0 c1 c2 c3 d0 d1 d2 d3 hW s;clear e1 e3 hd I hT gT hD gD;have O:=hP.below hB;obtain⟨c0,c1,c2,c3⟩:=O.box;dsimp only at c0 c1 c2 c3
    go_wp2
    clear c0 c1 c2 c3 O;go_loopw[5] (fun j wr=>∃k:Nat,k≤rs.length∧j=.int .i64 k∧Hid (∀j,j<k→kpR ((rs.map RoundQ.e).getD j z1d) ((d.map RoundQ.e).getD j z1d)=true)∧Below w.heap.size w wr) (fun j _=>rs.length-(intOf j).toNat)
    case atStart=>exact⟨0,Nat.zero_le _,rfl,fun j hj=>absurd hj (Nat.not_lt_zero _),hB⟩
    case round=>
     clear hB;obtain⟨k,hk,rfl,HA,hB⟩:=hrel;have J:=hP.below hB;have ad:=hQ.below hB;have N:=J.box.c2;have Y:=J.box.c2;dsimp only at Y;by_cases C:k<rs.length
     ·have y:k<d.length:=by have:=HL.out;omega
      obtain⟨rb,ro,rfl,am,hc,ah⟩:=(hR.below hB).cell (by decide) k C;obtain⟨aj,ak,rfl,al,I,W⟩:=(gR.below hB).cell (by decide) k y;have L:∀j x,(roundK.cells rs[k])[j]?=some x→wr.cell? ⟨rb,ro+k*2+j,none⟩=some x:=hc;have M:∀j x,(roundK.cells d[k])[j]?=some x→wr.cell? ⟨aj,ak+k*2+j,none⟩=some x:=I;have f0:=L 0 (rs[k].vr) rfl;have f1:=L 1 (rs[k].vp) rfl;have g0:=M 0 (d[k].vr) rfl;have g1:=M 1 (d[k].vp) rfl;have w1:=hw _ (List.getElem_mem C);have w2:=ai _ (List.getElem_mem y);have HY:Hid (kpR (RoundQ.e rs[k]) (RoundQ.e d[k])=false→E=false):=fun hx=>by
       rw[z.out,z3W k (by simpa using C) (by rw[z0Q rs k C,z0Q d k y];exact hx)]
      have HN:Hid (kpR (RoundQ.e rs[k]) (RoundQ.e d[k])=true→∀j,j<k+1→kpR ((rs.map RoundQ.e).getD j z1d) ((d.map RoundQ.e).getD j z1d)=true):=fun hx j hj=>by
       by_cases af:j=k
       ·subst af;rw[z0Q rs j C,z0Q d j y];exact hx
       ·exact HA.out j (by omega)
      clear HA hc L I M N;generalize rs[k]=p at*;generalize d[k]=q at*;obtain⟨pv,pr,pw,pp⟩:=p;obtain⟨qv,qr,qw,qp⟩:=q;obtain⟨u1,u2⟩:intK.At wr pv pr∧intK.At wr pw pp:=ah;obtain⟨t1,t2⟩:intK.At wr qv qr∧intK.At wr qw qp:=W;obtain⟨x1,j1,rfl⟩:=u1.shape;obtain⟨x2,j2,rfl⟩:=u2.shape;obtain⟨y1,l1,rfl⟩:=t1.shape;obtain⟨y2,l2,rfl⟩:=t2.shape;dsimp only[RoundQ.e,kpR]at f0 f1 g0 g1 w1 w2 HY HN;rw[Nat.add_zero]at f0 g0;have s1:=fun w h h'=>z1y (.slice x1 pr.length j1) (.slice y1 qr.length l1) pr qr w h h' w1.1 w2.1
      have s2:=fun w h h'=>z1y (.slice x2 pp.length j2) (.slice y2 qp.length l2) pp qp w h h' w1.2 w2.2
      clear w1 w2;generalize kps pr qr=X1 at*;generalize kps pp qp=X2 at*;have hW:Below wr.heap.size wr wr.drew:=(Below.refl _ _).drew;have s:Nonempty (Lat wr):=⟨⟨wr,Below.refl _ _⟩⟩
      have c2:=z0a J.box.c2;have d2:=z0a ad.box.c2;have v0:=z0a f0;have v1:=z0a f1;have z0:=z0a g0;have z1:=z0a g1;dsimp only at c2 d2;have V:(k:Int)<(rs.length:Int):=by omega
      have ag:(k:Int)<(d.length:Int):=by omega
      clear f0 f1 g0 g1
      go_wp2_with fail
      clear Y
      cases X1 with
      |false=>
       have E1:Hid (E=false):=HY.out rfl;refine z0b (S:=fun w'=>∃u:Lat wr,w'=u.val) (by kernel_rfl) ?_;refine sgr [(0,16)] 22 (by kernel_rfl) ⟨⟨_,hW⟩,rfl⟩ ?_;simp only[pkE];repeat go_big_quiet_step (fail)
       refine wpQuiet_nil ?_;refine cla 16 (some 79) 120 #[.slice x1 pr.length j1,.slice y1 qr.length l1] 21 (by kernel_rfl) ?_;refine(s1 _ (u1.below hW) (t1.below hW)).mono ?_;rintro e w9 ⟨rfl,c⟩;replace hW:=hW.trans (c.mono hW.size);clear c;refine⟨_,rfl,⟨⟨_,hW⟩,rfl⟩,?_⟩;simp only[Act.put,pjE];refine sgr [(17,18)] 3 (by kernel_rfl) ⟨⟨_,hW⟩,rfl⟩ ?_;simp only[pkE];repeat go_big_quiet_step (fail)
       refine wpQuiet_nil ?_;refine ska 35 (some 98) 2 (by kernel_rfl) ⟨⟨_,hW⟩,rfl⟩ ?_;simp only[Act.put,pjE];refine sgr [(36,2)] 0 (by kernel_rfl) ⟨⟨_,hW⟩,rfl⟩ ?_;simp only[pkE];repeat go_big_quiet_step (fail)
       refine wpQuiet_nil ?_;refine z0e (by kernel_rfl) ?_;replace hB:=hB.trans (hW.mono hB.size);clear c2 d2 v0 v1 z0 z1 hW s s1 s2 HY HN z
       go_wp2
       go_ret;exact⟨by rw[E1.out];rfl,hB⟩
      |true=>
       cases X2 with
       |false=>
        have E1:Hid (E=false):=HY.out rfl;refine z0b (S:=fun w'=>∃u:Lat wr,w'=u.val) (by kernel_rfl) ?_;refine sgr [(0,16)] 22 (by kernel_rfl) ⟨⟨_,hW⟩,rfl⟩ ?_;simp only[pkE];repeat go_big_quiet_step (fail)
        refine wpQuiet_nil ?_;refine cla 16 (some 79) 120 #[.slice x1 pr.length j1,.slice y1 qr.length l1] 21 (by kernel_rfl) ?_;refine(s1 _ (u1.below hW) (t1.below hW)).mono ?_;rintro e w9 ⟨rfl,c⟩;replace hW:=hW.trans (c.mono hW.size);clear c;refine⟨_,rfl,⟨⟨_,hW⟩,rfl⟩,?_⟩;simp only[Act.put,pjE];refine sgr [(17,18)] 3 (by kernel_rfl) ⟨⟨_,hW⟩,rfl⟩ ?_;simp only[pkE];repeat go_big_quiet_step (fail)
        refine wpQuiet_nil ?_;refine cla 35 (some 98) 120 #[.slice x2 pp.length j2,.slice y2 qp.length l2] 2 (by kernel_rfl) ?_;refine(s2 _ (u2.below hW) (t2.below hW)).mono ?_;rintro e w9 ⟨rfl,c⟩;replace hW:=hW.trans (c.mono hW.size);clear c;refine⟨_,rfl,⟨⟨_,hW⟩,rfl⟩,?_⟩;simp only[Act.put,pjE];refine sgr [(36,2)] 0 (by kernel_rfl) ⟨⟨_,hW⟩,rfl⟩ ?_;simp only[pkE];repeat go_big_quiet_step (fail)
        refine wpQuiet_nil ?_;refine z0e (by kernel_rfl) ?_;replace hB:=hB.trans (hW.mono hB.size);clear c2 d2 v0 v1 z0 z1 hW s s1 s2 HY HN z
        go_wp2
        go_ret;exact⟨by rw[E1.out];rfl,hB⟩
       |true=>
        have HR:=HN.out rfl;have ab:Hid _:=HR;refine z0b (S:=fun w'=>∃u:Lat wr,w'=u.val) (by kernel_rfl) ?_;refine sgr [(0,16)] 22 (by kernel_rfl) ⟨⟨_,hW⟩,rfl⟩ ?_;simp only[pkE];repeat go_big_quiet_step (fail)
        refine wpQuiet_nil ?_;refine cla 16 (some 79) 120 #[.slice x1 pr.length j1,.slice y1 qr.length l1] 21 (by kernel_rfl) ?_;refine(s1 _ (u1.below hW) (t1.below hW)).mono ?_;rintro e w9 ⟨rfl,c⟩;replace hW:=hW.trans (c.mono hW.size);clear c;refine⟨_,rfl,⟨⟨_,hW⟩,rfl⟩,?_⟩;simp only[Act.put,pjE];refine sgr [(17,18)] 3 (by kernel_rfl) ⟨⟨_,hW⟩,rfl⟩ ?_;simp only[pkE];repeat go_big_quiet_step (fail)
        refine wpQuiet_nil ?_;refine cla 35 (some 98) 120 #[.slice x2 pp.length j2,.slice y2 qp.length l2] 2 (by kernel_rfl) ?_;refine(s2 _ (u2.below hW) (t2.below hW)).mono ?_;rintro e w9 ⟨rfl,c⟩;replace hW:=hW.trans (c.mono hW.size);clear c;refine⟨_,rfl,⟨⟨_,hW⟩,rfl⟩,?_⟩;simp only[Act.put,pjE];refine sgr [(36,2)] 0 (by kernel_rfl) ⟨⟨_,hW⟩,rfl⟩ ?_;simp only[pkE];repeat go_big_quiet_step (fail)
        refine wpQuiet_nil ?_;refine z0e (by kernel_rfl) ?_;replace hB:=hB.trans (hW.mono hB.size);clear c2 d2 v0 v1 z0 z1 hW s s1 s2 HY HN HR
        go_wp2
        go_roundw
        case rel=>exact⟨k+1,by omega,by go_num,ab.out,hB⟩
        case measure=>simp[intOf];omega
     ·have E1:Hid (E=true):=by rw[z.out];exact z3X (fun j hj=>HA.out j (by simp at hj;omega))
      have V:¬(k:Int)<(rs.length:Int):=by omega
      clear HA z N
      go_wp2
      go_ret;exact⟨by rw[E1.out];rfl,hB⟩
   |true=>
    cases h2 with
    |false=>
     have E1:Hid (E=false):=show _=_ by rw[HE.out];simp
     have hW:Below w.heap.size w w.drew:=(Below.refl _ _).drew;have s:Nonempty (Lat w):=⟨⟨w,Below.refl _ _⟩⟩
     have c0:=z0a hP.box.c0;have c1:=z0a hP.box.c1;have c2:=z0a hP.box.c2;have c3:=z0a hP.box.c3;have d0:=z0a hQ.box.c0;have d1:=z0a hQ.box.c1;have d2:=z0a hQ.box.c2;have d3:=z0a hQ.box.c3;dsimp only at c0 c1 c2 c3 d0 d1 d2 d3;clear HE;refine z0b (S:=fun w'=>∃u:Lat w,w'=u.val) (by kernel_rfl) ?_;refine sgr [(0,19)] 29 (by kernel_rfl) ⟨⟨_,hW⟩,rfl⟩ ?_;simp only[pkE];repeat go_big_quiet_step (fail)
     refine wpQuiet_nil ?_;refine ska 19 (some 25) 28 (by kernel_rfl) ⟨⟨_,hW⟩,rfl⟩ ?_;simp only[Act.put,pjE];refine sgr [(20,8),(29,4)] 16 (by kernel_rfl) ⟨⟨_,hW⟩,rfl⟩ ?_;simp only[pkE];repeat go_big_quiet_step (fail)
     refine wpQuiet_nil ?_;refine ska 28 (some 34) 15 (by kernel_rfl) ⟨⟨_,hW⟩,rfl⟩ ?_;simp only[Act.put,pjE];refine ska 33 (some 39) 14 (by kernel_rfl) ⟨⟨_,hW⟩,rfl⟩ ?_;simp only[Act.put,pjE];refine sgr [(34,11)] 3 (by kernel_rfl) ⟨⟨_,hW⟩,rfl⟩ ?_;simp only[pkE];repeat go_big_quiet_step (fail)
     refine wpQuiet_nil ?_;refine ska 45 (some 51) 2 (by kernel_rfl) ⟨⟨_,hW⟩,rfl⟩ ?_;simp only[Act.put,pjE];refine sgr [(46,2)] 0 (by kernel_rfl) ⟨⟨_,hW⟩,rfl⟩ ?_;simp only[pkE];repeat go_big_quiet_step (fail)
     refine wpQuiet_nil ?_;refine z0e (by kernel_rfl) ?_;replace hB:=hB.trans (hW.mono hB.size);clear c0 c1 c2 c3 d0 d1 d2 d3 hW s
     go_wp2
     go_ret;exact⟨by rw[E1.out];rfl,hB⟩
    |true=>
     cases X with
     |false=>
      have E1:Hid (E=false):=show _=_ by rw[HE.out];simp
      have hW:Below w.heap.size w w.drew:=(Below.refl _ _).drew;have s:Nonempty (Lat w):=⟨⟨w,Below.refl _ _⟩⟩
      have c0:=z0a hP.box.c0;have c1:=z0a hP.box.c1;have c2:=z0a hP.box.c2;have c3:=z0a hP.box.c3;have d0:=z0a hQ.box.c0;have d1:=z0a hQ.box.c1;have d2:=z0a hQ.box.c2;have d3:=z0a hQ.box.c3;dsimp only at c0 c1 c2 c3 d0 d1 d2 d3;clear HE;refine z0b (S:=fun w'=>∃u:Lat w,w'=u.val) (by kernel_rfl) ?_;refine sgr [(0,19)] 29 (by kernel_rfl) ⟨⟨_,hW⟩,rfl⟩ ?_;simp only[pkE];repeat go_big_quiet_step (fail)
      refine wpQuiet_nil ?_;refine cla 19 (some 25) 102 #[.slice a1 bt.length k1,.slice b1 A.length m1] 28 (by kernel_rfl) ?_;refine(e1 _ (z0o (hT.below hW)) (z0o (gT.below hW))).mono ?_;rintro e w9 ⟨rfl,c⟩;replace hW:=hW.trans (c.mono hW.size);clear c;refine⟨_,rfl,⟨⟨_,hW⟩,rfl⟩,?_⟩;simp only[Act.put,pjE];refine sgr [(20,8),(29,4)] 16 (by kernel_rfl) ⟨⟨_,hW⟩,rfl⟩ ?_;simp only[pkE];repeat go_big_quiet_step (fail)
      refine wpQuiet_nil ?_;refine ska 28 (some 34) 15 (by kernel_rfl) ⟨⟨_,hW⟩,rfl⟩ ?_;simp only[Act.put,pjE];refine ska 33 (some 39) 14 (by kernel_rfl) ⟨⟨_,hW⟩,rfl⟩ ?_;simp only[Act.put,pjE];refine sgr [(34,11)] 3 (by kernel_rfl) ⟨⟨_,hW⟩,rfl⟩ ?_;simp only[pkE];repeat go_big_quiet_step (fail)
      refine wpQuiet_nil ?_;refine ska 45 (some 51) 2 (by kernel_rfl) ⟨⟨_,hW⟩,rfl⟩ ?_;simp only[Act.put,pjE];refine sgr [(46,2)] 0 (by kernel_rfl) ⟨⟨_,hW⟩,rfl⟩ ?_;simp only[pkE];repeat go_big_quiet_step (fail)
      refine wpQuiet_nil ?_;refine z0e (by kernel_rfl) ?_;replace hB:=hB.trans (hW.mono hB.size);clear c0 c1 c2 c3 d0 d1 d2 d3 hW s
      go_wp2
      go_ret;exact⟨by rw[E1.out];rfl,hB⟩
     |true=>
      have z:Hid (E=z7O (rs.map RoundQ.e) (d.map RoundQ.e)):=show _=_ by rw[HE.out];simp
      clear HE;have hW:Below w.heap.size w w.drew:=(Below.refl _ _).drew;have s:Nonempty (Lat w):=⟨⟨w,Below.refl _ _⟩⟩
      have c0:=z0a hP.box.c0;have c1:=z0a hP.box.c1;have c2:=z0a hP.box.c2;have c3:=z0a hP.box.c3;have d0:=z0a hQ.box.c0;have d1:=z0a hQ.box.c1;have d2:=z0a hQ.box.c2;have d3:=z0a hQ.box.c3;dsimp only at c0 c1 c2 c3 d0 d1 d2 d3;refine z0b (S:=fun w'=>∃u:Lat w,w'=u.val) (by kernel_rfl) ?_;refine sgr [(0,19)] 29 (by kernel_rfl) ⟨⟨_,hW⟩,rfl⟩ ?_;simp only[pkE];repeat go_big_quiet_step (fail)
      refine wpQuiet_nil ?_;refine cla 19 (some 25) 102 #[.slice a1 bt.length k1,.slice b1 A.length m1] 28 (by kernel_rfl) ?_;refine(e1 _ (z0o (hT.below hW)) (z0o (gT.below hW))).mono ?_;rintro e w9 ⟨rfl,c⟩;replace hW:=hW.trans (c.mono hW.size);clear c;refine⟨_,rfl,⟨⟨_,hW⟩,rfl⟩,?_⟩;simp only[Act.put,pjE];refine sgr [(20,8),(29,4)] 16 (by kernel_rfl) ⟨⟨_,hW⟩,rfl⟩ ?_;simp only[pkE];repeat go_big_quiet_step (fail)
      refine wpQuiet_nil ?_;refine qta 28 (some 34) (.int .i64 (d.length:Int)) 15 (by kernel_rfl) (fun u _=>by kernel_rfl) ⟨⟨_,hW⟩,rfl⟩ ?_;simp only[Act.put,pjE];refine qta 33 (some 39) (.int .i64 (rs.length:Int)) 14 (by kernel_rfl) (fun u _=>by kernel_rfl) ⟨⟨_,hW⟩,rfl⟩ ?_;simp only[Act.put,pjE];refine sgr [(34,11)] 3 (by kernel_rfl) ⟨⟨_,hW⟩,rfl⟩ ?_;simp only[pkE];repeat go_big_quiet_step (fail)
      refine wpQuiet_nil ?_;refine cla 45 (some 51) 120 #[.slice a3 dc.length k3,.slice b3 G.length m3] 2 (by kernel_rfl) ?_;refine(e3 _ (hD.below hW) (gD.below hW)).mono ?_;rintro e w9 ⟨rfl,c⟩;replace hW:=hW.trans (c.mono hW.size);clear c;refine⟨_,rfl,⟨⟨_,hW⟩,rfl⟩,?_⟩;simp only[Act.put,pjE];refine sgr [(46,2)] 0 (by kernel_rfl) ⟨⟨_,hW⟩,rfl⟩ ?_;simp only[pkE];repeat go_big_quiet_step (fail)
      refine wpQuiet_nil ?_;refine z0e (by kernel_rfl) ?_;replace hB:=hB.trans (hW.mono hB.size);clear c0 c1 c2 c3 d0 d1 d2 d3 hW s;clear e1 e3 hd I hT gT hD gD;have O:=hP.below hB;obtain⟨c0,c1,c2,c3⟩:=O.box;dsimp only at c0 c1 c2 c3
      go_wp2
      clear c0 c1 c2 c3 O;go_loopw[5] (fun j wr=>∃k:Nat,k≤rs.length∧j=.int .i64 k∧Hid (∀j,j<k→kpR ((rs.map RoundQ.e).getD j z1d) ((d.map RoundQ.e).getD j z1d)=true)∧Below w.heap.size w wr) (fun j _=>rs.length-(intOf j).toNat)
      case atStart=>exact⟨0,Nat.zero_le _,rfl,fun j hj=>absurd hj (Nat.not_lt_zero _),hB⟩
      case round=>
       clear hB;obtain⟨k,hk,rfl,HA,hB⟩:=hrel;have J:=hP.below hB;have ad:=hQ.below hB;have N:=J.box.c2;have Y:=J.box.c2;dsimp only at Y;by_cases C:k<rs.length
       ·have y:k<d.length:=by have:=HL.out;omega
        obtain⟨rb,ro,rfl,am,hc,ah⟩:=(hR.below hB).cell (by decide) k C;obtain⟨aj,ak,rfl,al,I,W⟩:=(gR.below hB).cell (by decide) k y;have L:∀j x,(roundK.cells rs[k])[j]?=some x→wr.cell? ⟨rb,ro+k*2+j,none⟩=some x:=hc;have M:∀j x,(roundK.cells d[k])[j]?=some x→wr.cell? ⟨aj,ak+k*2+j,none⟩=some x:=I;have f0:=L 0 (rs[k].vr) rfl;have f1:=L 1 (rs[k].vp) rfl;have g0:=M 0 (d[k].vr) rfl;have g1:=M 1 (d[k].vp) rfl;have w1:=hw _ (List.getElem_mem C);have w2:=ai _ (List.getElem_mem y);have HY:Hid (kpR (RoundQ.e rs[k]) (RoundQ.e d[k])=false→E=false):=fun hx=>by
         rw[z.out,z3W k (by simpa using C) (by rw[z0Q rs k C,z0Q d k y];exact hx)]
        have HN:Hid (kpR (RoundQ.e rs[k]) (RoundQ.e d[k])=true→∀j,j<k+1→kpR ((rs.map RoundQ.e).getD j z1d) ((d.map RoundQ.e).getD j z1d)=true):=fun hx j hj=>by
         by_cases af:j=k
         ·subst af;rw[z0Q rs j C,z0Q d j y];exact hx
         ·exact HA.out j (by omega)
        clear HA hc L I M N;generalize rs[k]=p at*;generalize d[k]=q at*;obtain⟨pv,pr,pw,pp⟩:=p;obtain⟨qv,qr,qw,qp⟩:=q;obtain⟨u1,u2⟩:intK.At wr pv pr∧intK.At wr pw pp:=ah;obtain⟨t1,t2⟩:intK.At wr qv qr∧intK.At wr qw qp:=W;obtain⟨x1,j1,rfl⟩:=u1.shape;obtain⟨x2,j2,rfl⟩:=u2.shape;obtain⟨y1,l1,rfl⟩:=t1.shape;obtain⟨y2,l2,rfl⟩:=t2.shape;dsimp only[RoundQ.e,kpR]at f0 f1 g0 g1 w1 w2 HY HN;rw[Nat.add_zero]at f0 g0;have s1:=fun w h h'=>z1y (.slice x1 pr.length j1) (.slice y1 qr.length l1) pr qr w h h' w1.1 w2.1
        have s2:=fun w h h'=>z1y (.slice x2 pp.length j2) (.slice y2 qp.length l2) pp qp w h h' w1.2 w2.2
        clear w1 w2;generalize kps pr qr=X1 at*;generalize kps pp qp=X2 at*;have hW:Below wr.heap.size wr wr.drew:=(Below.refl _ _).drew;have s:Nonempty (Lat wr):=⟨⟨wr,Below.refl _ _⟩⟩
        have c2:=z0a J.box.c2;have d2:=z0a ad.box.c2;have v0:=z0a f0;have v1:=z0a f1;have z0:=z0a g0;have z1:=z0a g1;dsimp only at c2 d2;have V:(k:Int)<(rs.length:Int):=by omega
        have ag:(k:Int)<(d.length:Int):=by omega
        clear f0 f1 g0 g1
        go_wp2_with fail
        clear Y
        cases X1 with
        |false=>
         have E1:Hid (E=false):=HY.out rfl;refine z0b (S:=fun w'=>∃u:Lat wr,w'=u.val) (by kernel_rfl) ?_;refine sgr [(0,16)] 22 (by kernel_rfl) ⟨⟨_,hW⟩,rfl⟩ ?_;simp only[pkE];repeat go_big_quiet_step (fail)
         refine wpQuiet_nil ?_;refine cla 16 (some 79) 120 #[.slice x1 pr.length j1,.slice y1 qr.length l1] 21 (by kernel_rfl) ?_;refine(s1 _ (u1.below hW) (t1.below hW)).mono ?_;rintro e w9 ⟨rfl,c⟩;replace hW:=hW.trans (c.mono hW.size);clear c;refine⟨_,rfl,⟨⟨_,hW⟩,rfl⟩,?_⟩;simp only[Act.put,pjE];refine sgr [(17,18)] 3 (by kernel_rfl) ⟨⟨_,hW⟩,rfl⟩ ?_;simp only[pkE];repeat go_big_quiet_step (fail)
         refine wpQuiet_nil ?_;refine ska 35 (some 98) 2 (by kernel_rfl) ⟨⟨_,hW⟩,rfl⟩ ?_;simp only[Act.put,pjE];refine sgr [(36,2)] 0 (by kernel_rfl) ⟨⟨_,hW⟩,rfl⟩ ?_;simp only[pkE];repeat go_big_quiet_step (fail)
         refine wpQuiet_nil ?_;refine z0e (by kernel_rfl) ?_;replace hB:=hB.trans (hW.mono hB.size);clear c2 d2 v0 v1 z0 z1 hW s s1 s2 HY HN z
         go_wp2
         go_ret;exact⟨by rw[E1.out];rfl,hB⟩
        |true=>
         cases X2 with
         |false=>
          have E1:Hid (E=false):=HY.out rfl;refine z0b (S:=fun w'=>∃u:Lat wr,w'=u.val) (by kernel_rfl) ?_;refine sgr [(0,16)] 22 (by kernel_rfl) ⟨⟨_,hW⟩,rfl⟩ ?_;simp only[pkE];repeat go_big_quiet_step (fail)
          refine wpQuiet_nil ?_;refine cla 16 (some 79) 120 #[.slice x1 pr.length j1,.slice y1 qr.length l1] 21 (by kernel_rfl) ?_;refine(s1 _ (u1.below hW) (t1.below hW)).mono ?_;rintro e w9 ⟨rfl,c⟩;replace hW:=hW.trans (c.mono hW.size);clear c;refine⟨_,rfl,⟨⟨_,hW⟩,rfl⟩,?_⟩;simp only[Act.put,pjE];refine sgr [(17,18)] 3 (by kernel_rfl) ⟨⟨_,hW⟩,rfl⟩ ?_;simp only[pkE];repeat go_big_quiet_step (fail)
          refine wpQuiet_nil ?_;refine cla 35 (some 98) 120 #[.slice x2 pp.length j2,.slice y2 qp.length l2] 2 (by kernel_rfl) ?_;refine(s2 _ (u2.below hW) (t2.below hW)).mono ?_;rintro e w9 ⟨rfl,c⟩;replace hW:=hW.trans (c.mono hW.size);clear c;refine⟨_,rfl,⟨⟨_,hW⟩,rfl⟩,?_⟩;simp only[Act.put,pjE];refine sgr [(36,2)] 0 (by kernel_rfl) ⟨⟨_,hW⟩,rfl⟩ ?_;simp only[pkE];repeat go_big_quiet_step (fail)
          refine wpQuiet_nil ?_;refine z0e (by kernel_rfl) ?_;replace hB:=hB.trans (hW.mono hB.size);clear c2 d2 v0 v1 z0 z1 hW s s1 s2 HY HN z
          go_wp2
          go_ret;exact⟨by rw[E1.out];rfl,hB⟩
         |true=>
          have HR:=HN.out rfl;have ab:Hid _:=HR;refine z0b (S:=fun w'=>∃u:Lat wr,w'=u.val) (by kernel_rfl) ?_;refine sgr [(0,16)] 22 (by kernel_rfl) ⟨⟨_,hW⟩,rfl⟩ ?_;simp only[pkE];repeat go_big_quiet_step (fail)
          refine wpQuiet_nil ?_;refine cla 16 (some 79) 120 #[.slice x1 pr.length j1,.slice y1 qr.length l1] 21 (by kernel_rfl) ?_;refine(s1 _ (u1.below hW) (t1.below hW)).mono ?_;rintro e w9 ⟨rfl,c⟩;replace hW:=hW.trans (c.mono hW.size);clear c;refine⟨_,rfl,⟨⟨_,hW⟩,rfl⟩,?_⟩;simp only[Act.put,pjE];refine sgr [(17,18)] 3 (by kernel_rfl) ⟨⟨_,hW⟩,rfl⟩ ?_;simp only[pkE];repeat go_big_quiet_step (fail)
          refine wpQuiet_nil ?_;refine cla 35 (some 98) 120 #[.slice x2 pp.length j2,.slice y2 qp.length l2] 2 (by kernel_rfl) ?_;refine(s2 _ (u2.below hW) (t2.below hW)).mono ?_;rintro e w9 ⟨rfl,c⟩;replace hW:=hW.trans (c.mono hW.size);clear c;refine⟨_,rfl,⟨⟨_,hW⟩,rfl⟩,?_⟩;simp only[Act.put,pjE];refine sgr [(36,2)] 0 (by kernel_rfl) ⟨⟨_,hW⟩,rfl⟩ ?_;simp only[pkE];repeat go_big_quiet_step (fail)
          refine wpQuiet_nil ?_;refine z0e (by kernel_rfl) ?_;replace hB:=hB.trans (hW.mono hB.size);clear c2 d2 v0 v1 z0 z1 hW s s1 s2 HY HN HR
          go_wp2
          go_roundw
          case rel=>exact⟨k+1,by omega,by go_num,ab.out,hB⟩
          case measure=>simp[intOf];omega
       ·have E1:Hid (E=true):=by rw[z.out];exact z3X (fun j hj=>HA.out j (by simp at hj;omega))
        have V:¬(k:Int)<(rs.length:Int):=by omega
        clear HA z N
        go_wp2
        go_ret;exact⟨by rw[E1.out];rfl,hB⟩
theorem z2T(v:Value)(ps:List InstQ)(p:InstQ)(w:World)(h:instK.At w v ps)(hp:instK.rd w p)(hl:(ps.length+nmL InstQ.n ps)≤1048576)(ay:p.n≤1048576):
  Calls Tryz.prog 25 #[v,.agg #[.bool p.has,p.vb,p.vr,p.vd]] w fun e w'=>∃ (v':Value) (qs:List InstQ),e=.returned (.agg #[.int .i64 (clC (ps.map InstQ.e) p.e),v'])∧qs.map InstQ.e=clO (ps.map InstQ.e) p.e∧instK.Own w' v' qs∧(instK.fp v' qs).Nodup∧(∀k∈instK.fp v' qs,w.heap.size≤k)∧Below w.heap.size w w':=by
 have aO:=fun w h=>z1v v ps w h hl
 have aK:=fun b o w h=>z2B b o p w h ay
 have HO:Hid (ordF (ps.map InstQ.e)=0→1≤ps.length∧ps.length≤4∧∀q∈ps,insF (InstQ.e q)=0):=fun h0=>by
  have:=((z0P _).1 h0).1;rw[List.length_map]at this;exact⟨this.1,this.2,fun q hq=>z1m h0 _ (List.mem_map.2 ⟨q,hq,rfl⟩)⟩
 have ak:=fun w h aL=>z4Z v ps w h aL hl
 obtain⟨a,cap,rfl⟩:=h.shape;have hw:=z5q (ps.map InstQ.e) (InstQ.e p);have aA:Hid (∀z:ps.length-1<ps.length,z1z (ps.map InstQ.e)=InstQ.e ps[ps.length-1]):=fun z=>z3j ps z
 generalize clC (ps.map InstQ.e) (InstQ.e p)=D at*;generalize clO (ps.map InstQ.e) (InstQ.e p)=O at*;have ae:Hid (∀q1:List InstQ,∀q:InstQ,q1.map InstQ.e=ps.map InstQ.e→q.e=InstQ.e p→1≤ps.length→(q1.set (ps.length-1) q).map InstQ.e=(ps.map InstQ.e).take ((ps.map InstQ.e).length-1)++[InstQ.e p]):=fun q1 q h1 h2 h3=>by
  rw[List.map_set,h1,h2,List.length_map,List.set_eq_take_append_cons_drop,if_pos (by rw[List.length_map];omega),List.drop_of_length_le (by rw[List.length_map];omega)]
 have J:Hid (∀q1:List InstQ,q1.map InstQ.e=ps.map InstQ.e→q1.length=ps.length):=fun q1 h1=>by simpa using congrArg List.length h1
 have L:Hid (insF (InstQ.e p)=0→((∀r∈p.rounds,r.rep.length=3∧r.pro.length=3)∧p.dec.length=3)∧(∀t∈p.batch,0<t.acts.length)∧(∀r∈p.rounds,0<r.rep.length∧0<r.pro.length)∧0<p.dec.length):=fun h0=>⟨z9v h0,z1t h0⟩
 have am:=fun b o b' o' (l:InstQ) w h h' hl h1 h2 h3 h4=>z6I b o b' o' l p w h h' hl ay h1 h2 h3 h4
 have M:=fun w h h1 h2 h3=>z1q p w h ay h1 h2 h3
 have aS:=fun(w':World) hb=>instK.rd_below (w':=w') hp hb
 have af:Hid (∀w' b o,Box4 w' b o (.bool p.has) p.vb p.vr p.vd→Below w.heap.size w w'→InstP w' b o p):=fun w' b o hx hb=>⟨hx,instK.rd_below hp hb⟩
 generalize ordF (ps.map InstQ.e)=C at*;generalize insF (InstQ.e p)=PF at*;generalize bi:InstQ.e p=pe at*;obtain⟨has,vb,s,vr,d,vd,dec⟩:=p;obtain⟨ba,bk,rfl⟩:∃a c,vb=.slice a s.length c:=hp.1.shape;obtain⟨va,vk,rfl⟩:∃a c,vr=.slice a d.length c:=hp.2.1.shape;obtain⟨da,dk,rfl⟩:∃a c,vd=.slice a dec.length c:=hp.2.2.shape;dsimp only at M aS L af;have hB:Below w.heap.size w ((w.alloc (.cells #[.bool has,.slice ba s.length bk,.slice va d.length vk,.slice da dec.length dk] 49)).alloc (.cells #[.int .i64 0,.slice none 0 0] 33)):=by go_grown
 have Bk:=(Blk.new w 49 #[.bool has,.slice ba s.length bk,.slice va d.length vk,.slice da dec.length dk]).below (w':=((w.alloc (.cells #[.bool has,.slice ba s.length bk,.slice va d.length vk,.slice da dec.length dk] 49)).alloc (.cells #[.int .i64 0,.slice none 0 0] 33))) (by go_grown);have Rb:=Blk.new (w.alloc (.cells #[.bool has,.slice ba s.length bk,.slice va d.length vk,.slice da dec.length dk] 49)) 33 #[.int .i64 0,.slice none 0 0];rw[World.size_alloc]at Rb;go_enter Tryz.func25,Tryz.ntmps25
 go_wp2_with fail
 generalize ((w.alloc (.cells #[.bool has,.slice ba s.length bk,.slice va d.length vk,.slice da dec.length dk] 49)).alloc (.cells #[.int .i64 0,.slice none 0 0] 33))=W at*;refine(aO W (h.below hB)).mono ?_;rintro e w1 ⟨rfl,hb⟩;replace hB:=hB.trans (hb.mono hB.size);replace Rb:=Rb.below hb;replace Bk:=Bk.below hb;clear hb aO;by_cases hC:C=0
 case neg=>
  have bb:(C !=0)=true:=by simpa using hC
  have E1:Hid (D=C∧O=[]):=by
   rcases hw with⟨_,e1,e2⟩|⟨h1,_⟩|⟨h1,_⟩|⟨h1,_⟩
   ·exact⟨e1,e2⟩
   ·exact absurd h1 hC
   ·exact absurd h1 hC
   ·exact absurd h1 hC
  clear hw HO ae J L hC;obtain⟨q0,q1⟩:=Rb.cel2;obtain⟨f0,f1⟩:=Rb.frz2;obtain⟨aa,A⟩:=Kind.own_nil (K:=instK) w;clear aa
  go_wp2
  exact bodyPost_ret (v:=.agg #[.int .i64 C,.slice none 0 0]) (by simp[results,Tryz.results25,go_sem,q0,q1]) rfl ⟨.slice none 0 0,[],by rw[E1.out.1],by rw[E1.out.2];rfl,(Kind.own_nil _).1,by rw[A];simp,by rw[A];simp,(hB.setCell (p:=⟨w.heap.size+1,0,none⟩) (by show w.heap.size≤w.heap.size+1;omega) _).setCell (p:=⟨w.heap.size+1,1,none⟩) (by show w.heap.size≤w.heap.size+1;omega) _⟩
 case pos=>
 obtain⟨p1,p4,ax⟩:=HO.out hC;subst hC;have aD:=af.out w1 w.heap.size 0 ⟨Bk.cell 0 _ rfl,Bk.cell 1 _ rfl,Bk.cell 2 _ rfl,Bk.cell 3 _ rfl⟩ hB;clear HO
 go_wp2_with fail
 refine(aK w.heap.size 0 w1 aD).mono ?_;rintro e X ⟨rfl,hb⟩;replace hB:=hB.trans (hb.mono hB.size);replace Rb:=Rb.below hb;replace Bk:=Bk.below hb;clear hb aK aD;by_cases hP:PF=0
 case neg=>
  have bc:(PF !=0)=true:=by simpa using hP
  have E1:Hid (D=PF∧O=[]):=by
   rcases hw with⟨h0,_⟩|⟨_,_,e1,e2⟩|⟨_,h1,_⟩|⟨_,h1,_⟩
   ·exact absurd rfl h0
   ·exact⟨e1,e2⟩
   ·exact absurd h1 hP
   ·exact absurd h1 hP
  clear hw ae J L hP;obtain⟨q0,q1⟩:=Rb.cel2;obtain⟨f0,f1⟩:=Rb.frz2;obtain⟨aa,A⟩:=Kind.own_nil (K:=instK) w;clear aa
  go_wp2
  exact bodyPost_ret (v:=.agg #[.int .i64 PF,.slice none 0 0]) (by simp[results,Tryz.results25,go_sem,q0,q1]) rfl ⟨.slice none 0 0,[],by rw[E1.out.1],by rw[E1.out.2];rfl,(Kind.own_nil _).1,by rw[A];simp,by rw[A];simp,(hB.setCell (p:=⟨w.heap.size+1,0,none⟩) (by show w.heap.size≤w.heap.size+1;omega) _).setCell (p:=⟨w.heap.size+1,1,none⟩) (by show w.heap.size≤w.heap.size+1;omega) _⟩
 case pos=>
 obtain⟨⟨aR,aG⟩,T,U,V⟩:=L.out hP;have z:ps.length-1<ps.length:=by omega
 have aP:=ax _ (List.getElem_mem z);obtain⟨aq,al⟩:=z9v aP;have aB:Hid (z1z (ps.map InstQ.e)=InstQ.e ps[ps.length-1]):=aA.out z;have aN:InstQ.n ps[ps.length-1]≤1048576:=by have:=z3F ps _ z;omega
 obtain⟨b,aZ,rfl,be,aE⟩:=z3V (h.below hB) (ps.length-1) z;have an:=am b (aZ+(ps.length-1)*4) w.heap.size 0 ps[ps.length-1] X aE;have aJ:=an (af.out X w.heap.size 0 ⟨Bk.cell 0 _ rfl,Bk.cell 1 _ rfl,Bk.cell 2 _ rfl,Bk.cell 3 _ rfl⟩ hB) aN aq aR al aG;rw[aB.out]at hw;subst hP;have Z:(∀p∈ps,(∀t∈p.batch,0<t.acts.length)∧(∀r∈p.rounds,0<r.rep.length∧0<r.pro.length)∧0<p.dec.length):=fun q hq=>z1t (ax q hq)
 have av:=fun w h=>ak w h Z
 have aF:=fun w h=>M w h T U V
 have I:Hid (∀q1:List InstQ,∀q:InstQ,q1.map InstQ.e=ps.map InstQ.e→q.e=pe→(q1.set (ps.length-1) q).map InstQ.e=(ps.map InstQ.e).take ((ps.map InstQ.e).length-1)++[pe]):=fun q1 q h1 h2=>ae.out q1 q h1 h2 p1
 clear am an M ak aA aB T U V Z aR aG aq al aP L ax aN aE ae af;generalize grw (InstQ.e ps[ps.length-1]) pe=G at*;replace hw:(G=false∧D=8∧O=[])∨(G=true∧D=0∧O=(ps.map InstQ.e).take ((ps.map InstQ.e).length-1)++[pe]):=by
  rcases hw with⟨h0,_⟩|⟨_,h1,_⟩|⟨_,_,h1,e1,e2⟩|⟨_,_,h1,e1,e2⟩
  ·exact absurd rfl h0
  ·exact absurd rfl h1
  ·exact Or.inl ⟨h1,e1,e2⟩
  ·exact Or.inr ⟨h1,e1,e2⟩
 generalize hm:ps.length-1=m at*;have ab:ps.length=m+1:=by omega
 have bh:(m:Int)<((m+1:Nat):Int):=by omega
 have aU:Hid (ps.length=m+1):=ab;rw[ab]at h av⊢;have bg:(m:Int)≤3:=by omega
 have a8:(0:Int)≤(m:Int):=by omega
 clear hm ab z
 go_wp2_with fail
 refine aJ.mono ?_;rintro e X2 ⟨rfl,hb⟩;replace hB:=hB.trans (hb.mono hB.size);replace Rb:=Rb.below hb;replace Bk:=Bk.below hb;clear hb aJ;rcases hw with⟨hg,e1,e2⟩|⟨hg,e1,e2⟩
 ·have E1:Hid (D=8∧O=[]):=⟨e1,e2⟩
  subst hg;clear e1 e2 I J;obtain⟨q0,q1⟩:=Rb.cel2;obtain⟨f0,f1⟩:=Rb.frz2;obtain⟨aa,A⟩:=Kind.own_nil (K:=instK) w;clear aa
  go_wp2
  exact bodyPost_ret (v:=.agg #[.int .i64 8,.slice none 0 0]) (by simp[results,Tryz.results25,go_sem,q0,q1]) rfl ⟨.slice none 0 0,[],by rw[E1.out.1],by rw[E1.out.2];rfl,(Kind.own_nil _).1,by rw[A];simp,by rw[A];simp,(hB.setCell (p:=⟨w.heap.size+1,0,none⟩) (by show w.heap.size≤w.heap.size+1;omega) _).setCell (p:=⟨w.heap.size+1,1,none⟩) (by show w.heap.size≤w.heap.size+1;omega) _⟩
 ·have aT:Hid (D=0):=e1;subst hg;clear e1
  go_wp2_with fail
  refine(av X2 (h.below hB)).mono ?_;rintro e Y ⟨vq,qs,rfl,au,hO,aM,ao,ai⟩;obtain⟨sa,sc,rfl⟩:=hO.shape;have aQ:qs.length=m+1:=by have h1:=J.out qs au;have h2:=aU.out;omega
  obtain⟨g,rfl⟩:=hO.blkOf (by omega);have bd:=Rb.lt;have y:m<qs.length:=by omega
  have HN:Hid ((instK.fp (.slice (some ⟨g,0,none⟩) qs.length sc) qs).Nodup∧∀k∈instK.fp (.slice (some ⟨g,0,none⟩) qs.length sc) qs,X2.heap.size≤k):=⟨aM,ao⟩
  have ar:Hid (∀x∈instK.fp (.slice (some ⟨g,0,none⟩) qs.length sc) qs,x<Y.heap.size):=hO.lt;replace hB:=hB.trans (ai.mono hB.size);replace Rb:=Rb.below ai;replace Bk:=Bk.below ai;have rP:=aS Y hB;obtain⟨c0,c1,c2,c3⟩:=Bk.cel4;clear aM ao av ai
  go_wp2_with fail
  clear c0 c1 c2 c3;refine(aF Y rP).mono ?_;rintro e Y2 ⟨q,rfl,eq,oq,nq,gq,ah⟩;have aV:Hid ((qs.set m q).map InstQ.e=O):=(I.out qs q au eq).trans e2.symm;have E:=hO.below ah;replace hB:=hB.trans (ah.mono hB.size);replace Rb:=Rb.below ah;clear ah au eq e2 aF I J hO rP Bk;have N:∀k∈instK.foot q,k∉instK.fp (.slice (some ⟨g,0,none⟩) qs.length sc) qs:=fun k hk aW=>by have:=gq k hk;have:=ar.out k aW;omega
  have aw:g∈instK.fp (.slice (some ⟨g,0,none⟩) qs.length sc) qs:=by simp[Kind.fp,blk,Value.ownBlock]
  have bf:=HN.out.2 g aw;have ag:Hid ((instK.fp (.slice (some ⟨g,0,none⟩) qs.length sc) (qs.set m q)).Nodup∧∀k∈instK.fp (.slice (some ⟨g,0,none⟩) qs.length sc) (qs.set m q),X2.heap.size≤k):=by
   refine⟨z55 HN.out.1 m y q nq N,fun k hk=>?_⟩;simp only[Kind.fp,List.mem_append]at hk;rcases hk with hk|hk
   ·exact HN.out.2 k (by simp only[Kind.fp,List.mem_append];exact Or.inl hk)
   ·rcases z3y y hk with hk|hk
    ·exact HN.out.2 k (by simp only[Kind.fp,List.mem_append];exact Or.inr hk)
    ·have:=gq k hk;have:=ar.out g aw;omega
  have aI:∀q'∈qs,∀k∈instK.foot q',k≠g:=fun q' aY k hk e=>by
   have h1:=HN.out.1;simp only[Kind.fp,blk,Value.ownBlock,Option.toList,List.cons_append,List.nil_append,List.nodup_cons]at h1;exact h1.1 (List.mem_flatMap.2 ⟨q',aY,e▸hk⟩)
  have aH:∀k∈instK.foot q,k≠g:=fun k hk e=>N k hk (e▸aw)
  obtain⟨qh,a1,qb,a6,qr,a2,qd⟩:=q;obtain⟨x1,y1,rfl⟩:∃a c,a1=.slice a qb.length c:=oq.1.shape;obtain⟨x2,y2,rfl⟩:∃a c,a6=.slice a qr.length c:=oq.2.1.shape;obtain⟨x3,y3,rfl⟩:∃a c,a2=.slice a qd.length c:=oq.2.2.shape;obtain⟨d0,f0⟩:=E.cell m y 0 (.bool qs[m].has) rfl;obtain⟨d1,f1⟩:=E.cell m y 1 qs[m].vb rfl;obtain⟨d2,f2⟩:=E.cell m y 2 qs[m].vr rfl;obtain⟨d3,f3⟩:=E.cell m y 3 qs[m].vd rfl;have aX:∀j,m*instK.size+j=m*4+j:=fun j=>rfl
  rw[aX]at d0 f0 d1 f1 d2 f2 d3 f3;rw[Nat.add_zero]at d0 f0;have ad:=z38 E.1 (m*4) [.bool qh,.slice x1 qb.length y1,.slice x2 qr.length y2,.slice x3 qd.length y3];have ap:=E.put (w':=((((Y2.setCell ⟨g,m*4,none⟩ (.bool qh)).setCell ⟨g,m*4+1,none⟩ (.slice x1 qb.length y1)).setCell ⟨g,m*4+2,none⟩ (.slice x2 qr.length y2)).setCell ⟨g,m*4+3,none⟩ (.slice x3 qd.length y3))) m y (⟨qh,.slice x1 qb.length y1,qb,.slice x2 qr.length y2,qr,.slice x3 qd.length y3,qd⟩:InstQ) (by simp[List.zipIdx_cons]at ad;exact ad) (((Out.setCell _ _ _ _).trans (Out.setCell _ _ _ _)).trans (Out.setCell _ _ _ _)|>.trans (Out.setCell _ _ _ _)) aI oq aH;have aC:Below w.heap.size w ((((Y2.setCell ⟨g,m*4,none⟩ (.bool qh)).setCell ⟨g,m*4+1,none⟩ (.slice x1 qb.length y1)).setCell ⟨g,m*4+2,none⟩ (.slice x2 qr.length y2)).setCell ⟨g,m*4+3,none⟩ (.slice x3 qd.length y3)):=(((hB.setCell (p:=⟨g,m*4,none⟩) (by show w.heap.size≤g;omega) _).setCell (p:=⟨g,m*4+1,none⟩) (by show w.heap.size≤g;omega) _).setCell (p:=⟨g,m*4+2,none⟩) (by show w.heap.size≤g;omega) _).setCell (p:=⟨g,m*4+3,none⟩) (by show w.heap.size≤g;omega) _;have Rp:Blk ((((Y2.setCell ⟨g,m*4,none⟩ (.bool qh)).setCell ⟨g,m*4+1,none⟩ (.slice x1 qb.length y1)).setCell ⟨g,m*4+2,none⟩ (.slice x2 qr.length y2)).setCell ⟨g,m*4+3,none⟩ (.slice x3 qd.length y3)) (w.heap.size+1) 33 #[.int .i64 0,.slice none 0 0]:=(((Rb.other (b':=g) (by omega) _ _).other (b':=g) (by omega) _ _).other (b':=g) (by omega) _ _).other (b':=g) (by omega) _ _;obtain⟨r0,r1⟩:=Rp.cel2;obtain⟨g0,g1⟩:=Rp.frz2;rw[←aQ];have a7:(m:Int)<(qs.length:Int):=by omega
  have aj:Hid (∀u u',instK.Own ((((((Y2.setCell ⟨g,m*4,none⟩ (.bool qh)).setCell ⟨g,m*4+1,none⟩ (.slice x1 qb.length y1)).setCell ⟨g,m*4+2,none⟩ (.slice x2 qr.length y2)).setCell ⟨g,m*4+3,none⟩ (.slice x3 qd.length y3)).setCell ⟨w.heap.size+1,0,none⟩ u).setCell ⟨w.heap.size+1,1,none⟩ u') (.slice (some ⟨g,0,none⟩) qs.length sc) (qs.set m (⟨qh,.slice x1 qb.length y1,qb,.slice x2 qr.length y2,qr,.slice x3 qd.length y3,qd⟩:InstQ))∧Below w.heap.size w ((((((Y2.setCell ⟨g,m*4,none⟩ (.bool qh)).setCell ⟨g,m*4+1,none⟩ (.slice x1 qb.length y1)).setCell ⟨g,m*4+2,none⟩ (.slice x2 qr.length y2)).setCell ⟨g,m*4+3,none⟩ (.slice x3 qd.length y3)).setCell ⟨w.heap.size+1,0,none⟩ u).setCell ⟨w.heap.size+1,1,none⟩ u')):=fun u u'=>by
   refine⟨ap.out (((Out.refl [w.heap.size+1] _).set (b:=w.heap.size+1) (j:=0) (u:=u) (by simp)).set (b:=w.heap.size+1) (j:=1) (u:=u') (by simp)) (fun k hk=>by have:=ag.out.2 k hk;simp only[List.mem_singleton];omega),?_⟩;exact(aC.setCell (p:=⟨w.heap.size+1,0,none⟩) (by show w.heap.size≤w.heap.size+1;omega) _).setCell (p:=⟨w.heap.size+1,1,none⟩) (by show w.heap.size≤w.heap.size+1;omega) _
  have az:Hid ((instK.fp (.slice (some ⟨g,0,none⟩) qs.length sc) (qs.set m (⟨qh,.slice x1 qb.length y1,qb,.slice x2 qr.length y2,qr,.slice x3 qd.length y3,qd⟩:InstQ))).Nodup∧∀k∈instK.fp (.slice (some ⟨g,0,none⟩) qs.length sc) (qs.set m (⟨qh,.slice x1 qb.length y1,qb,.slice x2 qr.length y2,qr,.slice x3 qd.length y3,qd⟩:InstQ)),w.heap.size≤k):=⟨ag.out.1,fun k hk=>by have:=ag.out.2 k hk;omega⟩
  clear ad E HN ar aI aH N nq gq oq hB Rb ap aC Rp ag
  go_wp2
  exact bodyPost_ret (v:=.agg #[.int .i64 0,.slice (some ⟨g,0,none⟩) qs.length sc]) (by simp[results,Tryz.results25,go_sem,r0,r1,aQ]) rfl ⟨.slice (some ⟨g,0,none⟩) qs.length sc,qs.set m (⟨qh,.slice x1 qb.length y1,qb,.slice x2 qr.length y2,qr,.slice x3 qd.length y3,qd⟩:InstQ),by rw[aT.out],aV.out,(aj.out _ _).1,az.out.1,az.out.2,(aj.out _ _).2⟩
theorem q1j{ps:List InstQ}{p:InstQ}{qs:List InstQ}(h:qs.map InstQ.e=clO (ps.map InstQ.e) (InstQ.e p)):qs.length+nmL InstQ.n qs≤1048576:=by
 rcases z5q (ps.map InstQ.e) (InstQ.e p)with⟨_,_,e2⟩|⟨_,_,_,e2⟩|⟨_,_,_,_,e2⟩|⟨h0,h1,_,_,e2⟩
 ·rw[e2]at h;have:qs=[]:=by simpa using h
  subst this;simp[nmL]
 ·rw[e2]at h;have:qs=[]:=by simpa using h
  subst this;simp[nmL]
 ·rw[e2]at h;have:qs=[]:=by simpa using h
  subst this;simp[nmL]
 ·rw[e2]at h;have hl:=congrArg List.length h;have hl2:=((z0P _).1 h0).1;rw[List.length_map]at hl2;simp only[List.length_map,List.length_append,List.length_singleton,List.length_take]at hl;have:=z4w (qs:=qs) (fun q hq=>by
   have hm:InstQ.e q∈(ps.map InstQ.e).take ((ps.map InstQ.e).length-1)++[InstQ.e p]:=by rw[←h];exact List.mem_map.2 ⟨q,hq,rfl⟩
   rcases List.mem_append.1 hm with hm|hm
   ·exact z1m h0 _ (List.mem_of_mem_take hm)
   ·simp only[List.mem_singleton]at hm;rw [hm];exact h1)
  have h5:qs.length≤5:=by omega
  have h6:qs.length*61≤5*61:=Nat.mul_le_mul_right _ h5;omega
def z6J:InstE:=⟨false,[],[],[]⟩
def sameIs:List InstE→List InstE→Bool
 |[],[]=>true
 |x::r,y::s=>sameI x y && sameIs r s
 |_,_=>false
theorem z5r(xs:List InstQ)(k:Nat)(hk:k<xs.length):(xs.map InstQ.e).getD k z6J=InstQ.e xs[k]:=by simp[List.getD,hk]
theorem z7C(v v':Value)(xs ys:List InstQ)(w:World)(h:instK.At w v xs)(h':instK.At w v' ys)(hl:xs.length+nmL InstQ.n xs≤1048576)(W:ys.length+nmL InstQ.n ys≤1048576):
  Calls Tryz.prog 67 #[v,v',.func (.func 68) #[] #[]] w fun e w'=>e=.returned (.bool (sameIs (xs.map InstQ.e) (ys.map InstQ.e)))∧Below w.heap.size w w':=by
 obtain⟨a,cap,rfl⟩:=h.shape;obtain⟨a',U,rfl⟩:=h'.shape;by_cases d:xs.length=ys.length
 case neg=>
  have E:sameIs (xs.map InstQ.e) (ys.map InstQ.e)=false:=z11 (f:=sameI) rfl (fun _ _ _ _=>rfl) (fun _ _=>rfl) (fun _ _=>rfl) _ _ (by simpa using d);rw[E];have hd:((xs.length:Int) !=(ys.length:Int))=true:=by simp;omega
  go_enter Tryz.func67,Tryz.ntmps67
  go_wp2
  go_ret;exact⟨rfl,Below.refl _ _⟩
 case pos=>
  have hd:((xs.length:Int) !=(ys.length:Int))=false:=by simp[d]
  have HL:Hid (xs.length=ys.length):=d;have HM:Hid ((xs.map InstQ.e).length=(ys.map InstQ.e).length):=show _=_ by simpa using d
  clear d;generalize hE:sameIs (xs.map InstQ.e) (ys.map InstQ.e)=E;have HE:Hid (sameIs (xs.map InstQ.e) (ys.map InstQ.e)=E):=hE;clear hE;go_enter Tryz.func67,Tryz.ntmps67
  go_wp2
  go_loopw[17] (fun i wr=>∃k:Nat,k≤xs.length∧i=.int .i64 k∧Below w.heap.size w wr∧Hid (∀j,j<k→sameI ((xs.map InstQ.e).getD j z6J) ((ys.map InstQ.e).getD j z6J)=true)) (fun i _=>xs.length-(intOf i).toNat)
  case atStart=>exact⟨0,Nat.zero_le _,rfl,Below.refl _ _,fun j hj=>absurd hj (Nat.not_lt_zero _)⟩
  case round=>
   obtain⟨k,hk,rfl,hb,HA⟩:=hrel;by_cases A:k<xs.length
   ·have s:k<ys.length:=by have:=HL.out;omega
    obtain⟨b,T,rfl,V,hc,C⟩:=(h.below hb).cell (by decide) k A;obtain⟨b',M,rfl,I,J,r⟩:=(h'.below hb).cell (by decide) k s;have y:∀j x,(instK.cells xs[k])[j]?=some x→wr.cell? ⟨b,T+k*4+j,none⟩=some x:=hc;have z:∀j x,(instK.cells ys[k])[j]?=some x→wr.cell? ⟨b',M+k*4+j,none⟩=some x:=J;have c0:=y 0 (.bool xs[k].has) rfl;have c1:=y 1 (xs[k].vb) rfl;have c2:=y 2 (xs[k].vr) rfl;have c3:=y 3 (xs[k].vd) rfl;have d0:=z 0 (.bool ys[k].has) rfl;have d1:=z 1 (ys[k].vb) rfl;have d2:=z 2 (ys[k].vr) rfl;have d3:=z 3 (ys[k].vd) rfl;have n1:=z2J InstQ.n xs k A;have n2:=z2J InstQ.n ys k s;have HY:Hid (sameI (InstQ.e xs[k]) (InstQ.e ys[k])=false→E=false):=fun hx=>by
     rw[←HE.out];exact z12 (f:=sameI) z6J (fun _ _ _ _=>rfl) _ _ k HM.out (by simpa using A) (by rw[z5r xs k A,z5r ys k s];exact hx)
    have HN:Hid (sameI (InstQ.e xs[k]) (InstQ.e ys[k])=true→∀j,j<k+1→sameI ((xs.map InstQ.e).getD j z6J) ((ys.map InstQ.e).getD j z6J)=true):=fun hx j hj=>by
     by_cases O:j=k
     ·subst O;rw[z5r xs j A,z5r ys j s];exact hx
     ·exact HA.out j (by omega)
    have L:=z3J xs[k] ys[k];have hq:=fun w f1 f2=>L w f1 f2 (by omega) (by omega)
    clear L;have N:∀ (o:Obj) (j:Nat),(wr.alloc o).cell? ⟨b',j,none⟩=wr.cell? ⟨b',j,none⟩:=fun o j=>(show Below wr.heap.size wr (wr.alloc o) by go_grown).cell (p:=⟨b',j,none⟩) I
    clear HA hc y J z;generalize xs[k]=p at*;generalize ys[k]=q at*;generalize sameI (InstQ.e p) (InstQ.e q)=X at*;obtain⟨ph,pv,pb,pw,pr,pu,pd⟩:=p;obtain⟨qh,qv,qb,qw,qr,qu,qd⟩:=q;obtain⟨a1,k1,rfl⟩:∃a c,pv=.slice a pb.length c:=C.1.shape;obtain⟨a2,k2,rfl⟩:∃a c,pw=.slice a pr.length c:=C.2.1.shape;obtain⟨a3,k3,rfl⟩:∃a c,pu=.slice a pd.length c:=C.2.2.shape;obtain⟨b1,m1,rfl⟩:∃a c,qv=.slice a qb.length c:=r.1.shape;obtain⟨b2,m2,rfl⟩:∃a c,qw=.slice a qr.length c:=r.2.1.shape;obtain⟨b3,m3,rfl⟩:∃a c,qu=.slice a qd.length c:=r.2.2.shape;dsimp only at c0 c1 c2 c3 d0 d1 d2 d3 hq;rw[Nat.add_zero]at c0 d0
    go_wp2_with fail
    refine(hq _ (instK.rd_below C (by go_grown)) (instK.rd_below r (by go_grown))).mono ?_;rintro e w2 ⟨rfl,D⟩;have G:=z0u (z0u hb (by go_grown)) D;clear D N c0 c1 c2 c3 d0 d1 d2 d3 C r hq
    cases X with
    |false=>
     have E1:Hid (E=false):=HY.out rfl;clear HY HN HE
     go_wp2
     go_ret;exact⟨by rw[E1.out];rfl,G⟩
    |true=>
     have R:=HN.out rfl;have HR:Hid _:=R;clear HY HN R
     go_wp2
     go_roundw
     case rel=>exact⟨k+1,by omega,by go_num,G,HR.out⟩
     case measure=>simp[intOf];omega
   ·have E1:Hid (E=true):=by rw[←HE.out];exact z13 (f:=sameI) z6J rfl (fun _ _ _ _=>rfl) _ _ HM.out (fun j hj=>HA.out j (by simpa using(by simpa using hj:j<xs.length)|>fun h=>Nat.lt_of_lt_of_le h (by omega)))
    clear HA HE
    go_wp2
    go_ret;exact⟨by rw[E1.out];rfl,hb⟩
theorem z2U(v v':Value)(xs ys:List InstQ)(w:World)(h:instK.At w v xs)(h':instK.At w v' ys)(hl:xs.length+nmL InstQ.n xs≤1048576)(hl':ys.length+nmL InstQ.n ys≤1048576):
  Calls Tryz.prog 26 #[v,v'] w fun e w'=>e=.returned (.bool (sameIs (xs.map InstQ.e) (ys.map InstQ.e)))∧Below w.heap.size w w':=by
 have hq:=z7C v v' xs ys w h h' hl hl';obtain⟨a,cap,rfl⟩:=h.shape;obtain⟨a',cap',rfl⟩:=h'.shape;generalize sameIs (xs.map InstQ.e) (ys.map InstQ.e)=E at*;go_enter Tryz.func26,Tryz.ntmps26
 go_wp2_with fail
 refine hq.mono ?_;rintro e w2 ⟨rfl,hb2⟩
 go_wp2
 go_ret;exact⟨rfl,hb2⟩
theorem z3G(xs:List Int):sameZs xs xs=true:=z1s (f:=z4z) rfl (fun _ _ _ _=>rfl) (fun x=>by simp[z4z]) xs
theorem z6a(xs:List RoundE):sameRs xs xs=true:=z1s (f:=sameR) rfl (fun _ _ _ _=>rfl) (fun x=>by simp[sameR,z3G]) xs
theorem z6b(xs:List InstE):sameIs xs xs=true:=z1s (f:=sameI) rfl (fun _ _ _ _=>rfl) (fun x=>by simp[sameI,z1D,z6a,z3G]) xs
theorem z5s{α:Type}{f:α→α→Bool}{g:List α→List α→Bool}(h1:∀x r y s,g (x::r) (y::s)=(f x y && g r s))(h2:∀x r,g (x::r) []=false)(h3:∀y s,g [] (y::s)=false)(hf:∀x y,f x y=true→x=y):∀xs ys,g xs ys=true→xs=ys
 |[],[],_=>rfl
 |[],y::s,h=>by rw[h3]at h;exact absurd h (by decide)
 |x::r,[],h=>by rw[h2]at h;exact absurd h (by decide)
 |x::r,y::s,h=>by
  rw[h1,Bool.and_eq_true]at h;rw[hf x y h.1,z5s h1 h2 h3 hf r s h.2]
theorem z7D (xs ys:List ActD) (h:sameAs xs ys=true):xs=ys:=z5s (f:=z1w) (g:=sameAs) (fun _ _ _ _=>rfl) (fun _ _=>rfl) (fun _ _=>rfl) (fun x y h=>by
 obtain⟨x1,x2,x3⟩:=x;obtain⟨y1,y2,y3⟩:=y;simp only[z1w,Bool.and_eq_true,beq_iff_eq]at h;obtain⟨rfl,rfl,rfl⟩:=h;rfl) xs ys h
theorem z7E (xs ys:List TxnD) (h:sameTs xs ys=true):xs=ys:=z5s (f:=z1c) (g:=sameTs) (fun _ _ _ _=>rfl) (fun _ _=>rfl) (fun _ _=>rfl) (fun x y h=>by
 obtain⟨x1,x2,x3,x4⟩:=x;obtain⟨y1,y2,y3,y4⟩:=y;simp only[z1c,Bool.and_eq_true,beq_iff_eq]at h;obtain⟨⟨⟨rfl,rfl⟩,rfl⟩,h4⟩:=h;rw [z7D _ _ h4]) xs ys h
theorem z8M{x y:InstE}(hx:insF x=0)(hy:insF y=0)(hg:grw x y=true)(h:outV x.dec≠3):outV y.dec=outV x.dec:=by
 have Rx:=z4n hx;have Ry:=z4n hy;have hk:kps x.dec y.dec=true:=by
  unfold grw at hg;rw[Bool.and_eq_true]at hg;exact hg.2
 have hm:=z3T _ h;obtain⟨n,hn,e⟩:=z8x (z0A Rx.dec) hm;have hz:y.dec.getD n 0=outV x.dec:=by
  unfold kps at hk;rw[List.all_eq_true]at hk;have h1:=hk n (List.mem_range.2 (by rw[z0A Rx.dec];exact hn));rw[e]at h1;rw[Bool.or_eq_true]at h1;rcases h1 with h1|h1
  ·exact absurd (by simpa using h1) h
  ·simpa using h1
 have hly:=z0A Ry.dec;have hmy:outV x.dec∈y.dec:=by
  rw[←hz];have:n<y.dec.length:=by omega
  simp only[List.getD,this,List.getElem?_eq_getElem,Option.getD_some];exact List.getElem_mem _
 obtain⟨h01,hag⟩:=z4o Ry hmy h;refine z5j _ h _ (fun z hz=>?_) hmy;rcases Decidable.em (z=3)with h3|h3
 ·exact Or.inl h3
 ·obtain⟨hz1,hz2⟩:=z4o Ry hz h3;exact Or.inr (q0k Ry hz1 h01 hz2 hag)
theorem q0u{x:InstE}(hx:insF x=0)(h:outV x.dec=1):x.has=true:=by
 have Rx:=z4n hx;have h3:outV x.dec≠3:=by rw[h];decide
 obtain⟨_,hag⟩:=z4o Rx (z3T _ h3) h3;rw[h]at hag;obtain⟨k,hk,hc⟩:=agr_iff.1 hag
 cases hh:x.has with
 |true=>rfl
 |false=>exact absurd (by omega) (z68 Rx hh k hk)
theorem q0v{x y:InstE}(hx:insF x=0)(hy:insF y=0)(hg:grw x y=true)(h:outV x.dec≠3):(if outV x.dec=1 then x.batch else [])=(if outV y.dec=1 then y.batch else []):=by
 rw[z8M hx hy hg h];by_cases h1:outV x.dec=1
 ·rw[if_pos h1,if_pos h1];have hh:=q0u hx h1;unfold grw at hg;simp only[Bool.and_eq_true,Bool.or_eq_true,hh]at hg;have h5:=hg.1.1.1;rcases h5 with h5|h5
  ·exact absurd h5 (by simp)
  ·exact z7E _ _ h5.2
 ·rw[if_neg h1,if_neg h1]
theorem z7d(ds:List InstE)(x:InstE)(h:1≤ds.length):z1z (ds.take (ds.length-1)++[x])=x:=by
 unfold z1z;simp only[List.length_append,List.length_take,List.length_singleton];have:min (ds.length-1) ds.length=ds.length-1:=by omega
 rw[this];simp[List.getD,this]
theorem z7F(ds:List InstE)(h:1≤ds.length):ds=ds.take (ds.length-1)++[z1z ds]:=by
 have hlt:ds.length-1<ds.length:=by omega
 have e:=(List.take_append_drop (ds.length-1) ds).symm;rw[List.drop_eq_getElem_cons hlt,List.drop_of_length_le (by omega)]at e;have:z1z ds=ds[ds.length-1]:=by simp[z1z,List.getD,hlt]
 rw[this];exact e
theorem z5t{ds:List InstE}{x:InstE}(h:clC ds x=0):ordF ds=0∧insF x=0∧grw (z1z ds) x=true∧clO ds x=ds.take (ds.length-1)++[x]:=by
 rcases z5q ds x with⟨h0,e,_⟩|⟨_,h1,e,_⟩|⟨_,_,_,e,_⟩|⟨h0,h1,h2,_,e⟩
 ·exact absurd (e.symm.trans h) h0
 ·exact absurd (e.symm.trans h) h1
 ·rw[e]at h;exact absurd h (by decide)
 ·exact⟨h0,h1,h2,e⟩
theorem q1k{ds:List InstE}{x:InstE}(h:clC ds x=0):ordF (clO ds x)=0:=by
 obtain⟨h0,h1,h2,e⟩:=z5t h;obtain⟨hl,ha⟩:=(z0P ds).1 h0;rw[e,z0P];have hln:(ds.take (ds.length-1)++[x]).length=ds.length:=by simp;omega
 rw[hln];refine⟨hl,fun k hk=>?_⟩;by_cases hk1:k<ds.length-1
 ·have e2:(ds.take (ds.length-1)++[x]).getD k z0D=ds.getD k z0D:=by
   simp only[List.getD];rw[List.getElem?_append_left (by simp;omega),List.getElem?_take_of_lt hk1]
  rw[e2];exact ha k hk
 ·have hk2:k=ds.length-1:=by omega
  have e2:(ds.take (ds.length-1)++[x]).getD k z0D=x:=by
   have:=z7d ds x hl.1;unfold z1z at this;rw[hln]at this;rw[hk2];exact this
  rw[e2];exact⟨h1,fun hk3=>by omega⟩
theorem q1l{ds:List InstE}{x:InstE}(h:clC ds x=0):decN ds≤decN (clO ds x):=by
 obtain⟨h0,h1,h2,e⟩:=z5t h;obtain⟨hl,ha⟩:=(z0P ds).1 h0;have hln:(ds.take (ds.length-1)++[x]).length=ds.length:=by simp;omega
 rw[e];unfold decN;rw[z7d ds x hl.1,hln];by_cases h3:outV (z1z ds).dec=3
 ·rw[if_pos h3];split<;>omega
 ·have hli:insF (z1z ds)=0:=(ha (ds.length-1) (by omega)).1;rw[if_neg h3,z8M hli h1 h2 h3,if_neg h3];exact Nat.le_refl _
theorem z9J{ds:List InstE}{x:InstE}(h:clC ds x=0):defL (clO ds x) (decN ds)=defL ds (decN ds):=by
 obtain⟨h0,h1,h2,e⟩:=z5t h;obtain⟨hl,ha⟩:=(z0P ds).1 h0;have hli:insF (z1z ds)=0:=(ha (ds.length-1) (by omega)).1;have hln:(ds.take (ds.length-1)++[x]).length=ds.length:=by simp;omega
 rw[e];unfold defL;refine congrArg (onc []) ?_;unfold decN;by_cases h3:outV (z1z ds).dec=3
 ·rw[if_pos h3,List.take_append_of_le_length (by simp),List.take_take,Nat.min_self]
 ·rw[if_neg h3,List.take_of_length_le (by omega),List.take_of_length_le (Nat.le_refl _)];have e3:=z7F ds hl.1;unfold z2P
  conv=>rhs;rw[e3]
  rw[List.flatMap_append,List.flatMap_append];simp only[List.flatMap_cons,List.flatMap_nil,List.append_nil];rw[q0v hli h1 h2 h3]
theorem q1m{ds:List InstE}{x:InstE}(h:clC ds x=0):ordF ds=0∧ordF (clO ds x)=0∧diV ds≤diV (clO ds x)∧preT (dfT ds (diV ds)) (dfT (clO ds x) (diV (clO ds x)))=true∧sameTs (dfT ds (diV ds)) (dfT (clO ds x) (diV ds))=true:=by
 have h0:=(z5t h).1;have h1:=q1k h;have h2:=q1l h;have d0:diV ds=(decN ds:Int):=by unfold diV;rw[if_pos h0]
 have d1:diV (clO ds x)=(decN (clO ds x):Int):=by unfold diV;rw[if_pos h1]
 have t0:dfT ds (decN ds:Int)=defL ds (decN ds):=by
  unfold dfT dfC;rw[if_pos h0,if_pos (by omega)];simp
 have t1:dfT (clO ds x) (decN ds:Int)=defL (clO ds x) (decN ds):=by
  unfold dfT dfC;rw[if_pos h1,if_pos (by omega)];simp
 have t2:dfT (clO ds x) (decN (clO ds x):Int)=defL (clO ds x) (decN (clO ds x)):=by
  unfold dfT dfC;rw[if_pos h1,if_pos (by omega)];simp
 rw[d0,d1,t0,t1,t2,z9J h];refine⟨h0,h1,by omega,?_,z1D _⟩;obtain⟨zs,e⟩:=z8A (clO ds x) _ _ h2;rw[e,z9J h];exact z8B _ _
end Go.Proofs.YtciofogeiohleaaGreatDoor
