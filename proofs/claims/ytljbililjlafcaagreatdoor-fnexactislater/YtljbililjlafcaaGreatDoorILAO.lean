/- Texts joined,with what the laws reach alone. -/
import Derived.Test.YtljbililjlafcaaGreatDoorILAN
set_option linter.unusedVariables false
set_option linter.unusedSimpArgs false
set_option maxRecDepth 100000
set_option maxHeartbeats 16000000
namespace Go.Proofs.YtljbililjlafcaaGreatDoor
open Go.RowKit Go.BigFrame
structure Wrp (P:Prop):Prop where
 out:P
def misC(c:Int):Value:=if c=0 then .nilIface else .iface 196 (.agg #[.int .i64 c])
theorem z9G(c:Int)(w:World)(hg:ErrT w):Calls Tryz.prog 94 #[misC c] w fun e w'=>e=.returned (.int .i64 c)∧Below w.heap.size w w':=by
 unfold misC;by_cases h:c=0
 ·rw[if_pos h,h];exact z9r w
 ·rw[if_neg h];exact z9s c w hg
def q1h(p:RepQ)(w:World)(e:Ending)(w':World):Prop:=∃ (a0 a1 a2 a3:Option Addr) (l0 c0 l1 c1 l2 c2 l3 c3:Nat),e=.returned (.tuple #[.agg #[.slice a0 l0 c0,.slice a1 l1 c1,.slice a2 l2 c2,.slice a3 l3 c3],misC (repF p.e)])∧(repF p.e=0→∃w1,Below w.heap.size w w1∧RecPost w1 w' (.slice a0 l0 c0) (.slice a1 l1 c1) (.slice a2 l2 c2) (.slice a3 l3 c3) (p.done.map TxnQ.e) (p.tent.map TxnQ.e))∧Below w.heap.size w w'
theorem q1i{p:RepQ}{w w':World}{c:Int}{a0 a1 a2 a3:Option Addr}{l0 c0 l1 c1 l2 c2 l3 c3:Nat}(h:repF p.e=c)(hne:c≠0)(hb:Below w.heap.size w w'):q1h p w (.returned (.tuple #[.agg #[.slice a0 l0 c0,.slice a1 l1 c1,.slice a2 l2 c2,.slice a3 l3 c3],.iface 196 (.agg #[.int .i64 c])])) w':=
 ⟨a0,a1,a2,a3,l0,c0,l1,c1,l2,c2,l3,c3,by rw[h,show misC c=.iface 196 (.agg #[.int .i64 c])from if_neg hne],fun h0=>absurd (h.symm.trans h0) hne,hb⟩
theorem q4M{p:RepQ}{w w1 w':World}{a0 a1 a2 a3:Option Addr}{l0 c0 l1 c1 l2 c2 l3 c3:Nat}(h:repF p.e=0)(h1:Below w.heap.size w w1)(hp:RecPost w1 w' (.slice a0 l0 c0) (.slice a1 l1 c1) (.slice a2 l2 c2) (.slice a3 l3 c3) (p.done.map TxnQ.e) (p.tent.map TxnQ.e))(hb:Below w.heap.size w w'):q1h p w (.returned (.tuple #[.agg #[.slice a0 l0 c0,.slice a1 l1 c1,.slice a2 l2 c2,.slice a3 l3 c3],.nilIface])) w':=
 ⟨a0,a1,a2,a3,l0,c0,l1,c1,l2,c2,l3,c3,by rw[h];rfl,fun _=>⟨w1,h1,hp⟩,hb⟩
theorem RecPost.below{w w' w'':World}{vN iN vU iU:Value}{D E:List TxnD}(h:RecPost w w' vN iN vU iU D E)(hb:Below w'.heap.size w' w''):RecPost w w'' vN iN vU iU D E:=by
 obtain⟨ds,us,rb,B0,R,r⟩:=h;exact⟨ds,us,rb,B0,R.below hb,r⟩
theorem z8g(p:RepQ)(w:World)(h:repK.rd w p)(nd:z30 p.vd)(nt:z30 p.vt)(hl:p.n≤1048576):
  Calls Tryz.prog 93 #[.agg #[p.vd,p.vb,p.vt,p.vu,p.vn]] w (q1h p w):=by
 obtain⟨au,pd,ar,pb,aw,pt,ax,pu,av,pn⟩:=p;obtain⟨p0,p5,rfl⟩:∃a c,au=.slice a pd.length c:=h.1.shape;obtain⟨p1,p6,rfl⟩:∃a c,ar=.slice a pb.length c:=h.2.1.shape;obtain⟨p2,p7,rfl⟩:∃a c,aw=.slice a pt.length c:=h.2.2.1.shape;obtain⟨p3,p8,rfl⟩:∃a c,ax=.slice a pu.length c:=h.2.2.2.1.shape;obtain⟨p4,p9,rfl⟩:∃a c,av=.slice a pn.length c:=h.2.2.2.2.shape;dsimp only[RepQ.n]at hl;have n0:=nd _ _ _ rfl;have n2:=nt _ _ _ rfl;have HW:=True.intro;have hr:=fun(w':World) hb=>repK.rd_below (w':=w') h hb
 have O:Hid (z30 (.slice p0 pd.length p5)∧z30 (.slice p2 pt.length p7)):=⟨nd,nt⟩
 clear n0 n2 nd nt h HW;have d:Below w.heap.size w ((w.alloc (.cells #[.slice p0 pd.length p5,.slice p1 pb.length p6,.slice p2 pt.length p7,.slice p3 pu.length p8,.slice p4 pn.length p9] 73)).alloc (.cells #[.slice none 0 0,.slice none 0 0,.slice none 0 0,.slice none 0 0] 160)):=by go_grown
 have B:=(Blk.new w 73 #[.slice p0 pd.length p5,.slice p1 pb.length p6,.slice p2 pt.length p7,.slice p3 pu.length p8,.slice p4 pn.length p9]).below (w':=((w.alloc (.cells #[.slice p0 pd.length p5,.slice p1 pb.length p6,.slice p2 pt.length p7,.slice p3 pu.length p8,.slice p4 pn.length p9] 73)).alloc (.cells #[.slice none 0 0,.slice none 0 0,.slice none 0 0,.slice none 0 0] 160))) (by go_grown);have Bv:=Blk.new (w.alloc (.cells #[.slice p0 pd.length p5,.slice p1 pb.length p6,.slice p2 pt.length p7,.slice p3 pu.length p8,.slice p4 pn.length p9] 73)) 160 #[.slice none 0 0,.slice none 0 0,.slice none 0 0,.slice none 0 0];rw[World.size_alloc]at Bv;have aq:w.heap.size+2≤((w.alloc (.cells #[.slice p0 pd.length p5,.slice p1 pb.length p6,.slice p2 pt.length p7,.slice p3 pu.length p8,.slice p4 pn.length p9] 73)).alloc (.cells #[.slice none 0 0,.slice none 0 0,.slice none 0 0,.slice none 0 0] 160)).heap.size:=by simp only[World.size_alloc];omega
 have aD:(pd.length:Int)≤1048576:=by omega
 have aE:(pt.length:Int)≤1048576:=by omega
 have q0:=B.cell 0 _ rfl;have q2:=B.cell 2 _ rfl;go_enter Tryz.func93,Tryz.ntmps93;by_cases hm:16<pd.length∨8<pt.length
 ·have HC:Hid (repF (RepQ.e (⟨.slice p0 pd.length p5,pd,.slice p1 pb.length p6,pb,.slice p2 pt.length p7,pt,.slice p3 pu.length p8,pu,.slice p4 pn.length p9,pn⟩:RepQ))=2):=show _=_ from z8F (by simpa[RepQ.e]using hm)
  clear hr O;by_cases aA:16<pd.length
  focus
   have an:(16:Int)<(pd.length:Int):=by omega
  rotate_left
  focus
   have an:¬(16:Int)<(pd.length:Int):=by omega
   have i8:(8:Int)<(pt.length:Int):=by omega
  rotate_left
  all_goals
   obtain⟨z0,z1,z2,z3⟩:=Bv.cel4;obtain⟨y0,y1,y2,y3⟩:=Bv.frz4;have HB:Hid (∀u0 u1 u2 u3:Value,Below w.heap.size w ((((((w.alloc (.cells #[.slice p0 pd.length p5,.slice p1 pb.length p6,.slice p2 pt.length p7,.slice p3 pu.length p8,.slice p4 pn.length p9] 73)).alloc (.cells #[.slice none 0 0,.slice none 0 0,.slice none 0 0,.slice none 0 0] 160)).setCell ⟨w.heap.size+1,0,none⟩ u0).setCell ⟨w.heap.size+1,1,none⟩ u1).setCell ⟨w.heap.size+1,2,none⟩ u2).setCell ⟨w.heap.size+1,3,none⟩ u3)):=fun u0 u1 u2 u3=>(((d.setCell (p:=⟨w.heap.size+1,0,none⟩) (by show w.heap.size≤w.heap.size+1;omega) u0).setCell (p:=⟨w.heap.size+1,1,none⟩) (by show w.heap.size≤w.heap.size+1;omega) u1).setCell (p:=⟨w.heap.size+1,2,none⟩) (by show w.heap.size≤w.heap.size+1;omega) u2).setCell (p:=⟨w.heap.size+1,3,none⟩) (by show w.heap.size≤w.heap.size+1;omega) u3
   go_wp2
   exact bodyPost_ret (v:=.tuple #[.agg #[.slice none 0 0,.slice none 0 0,.slice none 0 0,.slice none 0 0],.iface 196 (.agg #[.int .i64 2])]) (by simp[results,Tryz.results93,go_sem,z0,z1,z2,z3]) rfl (q1i HC.out (by first|decide|exact V) d)
 have an:¬(16:Int)<(pd.length:Int):=by omega
 have i8:¬(8:Int)<(pt.length:Int):=by omega
 have az:pd.length≤16:=by omega
 have aC:pt.length≤8:=by omega
 have C:¬(16<(pd.map TxnQ.e).length∨8<(pt.map TxnQ.e).length):=by simpa using hm
 have z:Below ((w.alloc (.cells #[.slice p0 pd.length p5,.slice p1 pb.length p6,.slice p2 pt.length p7,.slice p3 pu.length p8,.slice p4 pn.length p9] 73)).alloc (.cells #[.slice none 0 0,.slice none 0 0,.slice none 0 0,.slice none 0 0] 160)).heap.size ((w.alloc (.cells #[.slice p0 pd.length p5,.slice p1 pb.length p6,.slice p2 pt.length p7,.slice p3 pu.length p8,.slice p4 pn.length p9] 73)).alloc (.cells #[.slice none 0 0,.slice none 0 0,.slice none 0 0,.slice none 0 0] 160)) (((w.alloc (.cells #[.slice p0 pd.length p5,.slice p1 pb.length p6,.slice p2 pt.length p7,.slice p3 pu.length p8,.slice p4 pn.length p9] 73)).alloc (.cells #[.slice none 0 0,.slice none 0 0,.slice none 0 0,.slice none 0 0] 160)).alloc (.cells #[.slice p0 pd.length p5,.slice p2 pt.length p7] 40)):=by go_grown
 have BC:=Blk.new ((w.alloc (.cells #[.slice p0 pd.length p5,.slice p1 pb.length p6,.slice p2 pt.length p7,.slice p3 pu.length p8,.slice p4 pn.length p9] 73)).alloc (.cells #[.slice none 0 0,.slice none 0 0,.slice none 0 0,.slice none 0 0] 160)) 40 #[.slice p0 pd.length p5,.slice p2 pt.length p7];simp only[World.size_alloc]at BC;have ak:=z8d (w.heap.size+1+1) 2 (.slice p0 pd.length p5) (.slice p2 pt.length p7) pd pt (((w.alloc (.cells #[.slice p0 pd.length p5,.slice p1 pb.length p6,.slice p2 pt.length p7,.slice p3 pu.length p8,.slice p4 pn.length p9] 73)).alloc (.cells #[.slice none 0 0,.slice none 0 0,.slice none 0 0,.slice none 0 0] 160)).alloc (.cells #[.slice p0 pd.length p5,.slice p2 pt.length p7] 40)) BC.lt (BC.cell 0 _ rfl) (BC.cell 1 _ rfl) ((hr _ (d.trans (z.mono d.size))).1) ((hr _ (d.trans (z.mono d.size))).2.2.1) O.out.1 O.out.2 (by omega);have ag:=Wrp.mk ak;have HR:=Wrp.mk hr;have HM:=Wrp.mk C;clear ak hr hm C O
 go_wp2_with fail
 clear q0 q2;have hr:=HR.out;have C:=HM.out;clear HR HM;replace B:=B.below z;replace Bv:=Bv.below z;replace d:=d.trans (z.mono d.size);have aH:w.heap.size+2≤(((w.alloc (.cells #[.slice p0 pd.length p5,.slice p1 pb.length p6,.slice p2 pt.length p7,.slice p3 pu.length p8,.slice p4 pn.length p9] 73)).alloc (.cells #[.slice none 0 0,.slice none 0 0,.slice none 0 0,.slice none 0 0] 160)).alloc (.cells #[.slice p0 pd.length p5,.slice p2 pt.length p7] 40)).heap.size:=by have:=z.size;omega
 clear z BC aq;generalize ((w.alloc (.cells #[.slice p0 pd.length p5,.slice p1 pb.length p6,.slice p2 pt.length p7,.slice p3 pu.length p8,.slice p4 pn.length p9] 73)).alloc (.cells #[.slice none 0 0,.slice none 0 0,.slice none 0 0,.slice none 0 0] 160)).alloc (.cells #[.slice p0 pd.length p5,.slice p2 pt.length p7] 40)=X at*;generalize hH:w.heap.size=H at*;refine ag.out.mono ?_;rintro e w2 ⟨vc,rfl,oc,I⟩;clear ag;replace B:=B.below I;replace Bv:=Bv.below I;replace d:=d.trans (I.mono (by omega));have aI:=I.size;have ad:txnK.At w2 vc (pd ++ pt):=Kind.at_of_row oc (fun q hq=>by
  have h2:=hr w2 d;rcases List.mem_append.1 hq with hq|hq
  ·exact h2.1.rdm hq
  ·exact h2.2.2.1.rdm hq)
 have M:=z3p vc (pd ++ pt) w2 ad (by
  have e:nmL TxnQ.n (pd++pt)=nmL TxnQ.n pd+nmL TxnQ.n pt:=by simp[nmL]
  rw[List.length_append,e];omega)
 obtain⟨ca,ck,rfl⟩:=ad.shape;clear ad oc I;rw[List.map_append,List.length_append]at M;by_cases hL:lstF (pd.map TxnQ.e++pt.map TxnQ.e)=0
 case neg=>
  have V:=hL;have HC:Hid (repF (RepQ.e (⟨.slice p0 pd.length p5,pd,.slice p1 pb.length p6,pb,.slice p2 pt.length p7,pt,.slice p3 pu.length p8,pu,.slice p4 pn.length p9,pn⟩:RepQ))=lstF (pd.map TxnQ.e++pt.map TxnQ.e)):=show _=_ from z8G (r:=⟨pd.map TxnQ.e,pb,pt.map TxnQ.e,pu.map USQ.e,pn⟩) C hL
  clear hr C;generalize lstF (pd.map TxnQ.e++pt.map TxnQ.e)=c at*;have aB:(c !=0)=true:=by simpa using V
  go_wp2_with fail
  refine M.mono ?_;rintro e w3 ⟨rfl,x⟩;replace Bv:=Bv.below x;replace d:=d.trans (x.mono (by omega));obtain⟨z0,z1,z2,z3⟩:=Bv.cel4;obtain⟨y0,y1,y2,y3⟩:=Bv.frz4;have HB:Hid (∀u0 u1 u2 u3:Value,Below H w ((((w3.setCell ⟨H+1,0,none⟩ u0).setCell ⟨H+1,1,none⟩ u1).setCell ⟨H+1,2,none⟩ u2).setCell ⟨H+1,3,none⟩ u3)):=fun u0 u1 u2 u3=>(((d.setCell (p:=⟨H+1,0,none⟩) (by show H≤H+1;omega) u0).setCell (p:=⟨H+1,1,none⟩) (by show H≤H+1;omega) u1).setCell (p:=⟨H+1,2,none⟩) (by show H≤H+1;omega) u2).setCell (p:=⟨H+1,3,none⟩) (by show H≤H+1;omega) u3
  go_wp2
  exact bodyPost_ret (v:=.tuple #[.agg #[.slice none 0 0,.slice none 0 0,.slice none 0 0,.slice none 0 0],.iface 196 (.agg #[.int .i64 c])]) (by simp[results,Tryz.results93,go_sem,z0,z1,z2,z3]) rfl (q1i HC.out (by first|decide|exact V) (by rw[hH];exact HB.out _ _ _ _))
 have y:=q4p hL;have T:∀t∈pd.map TxnQ.e,t.F=0:=fun t ht=>y t (List.mem_append_left _ ht)
 have U:∀t∈pt.map TxnQ.e,t.F=0:=fun t ht=>y t (List.mem_append_right _ ht)
 have gD:=z1E (xs:=[]) (by simp) z4c T;have gE:=z1E gD.1 gD.2 U;have N:=z8H (r:=⟨pd.map TxnQ.e,pb,pt.map TxnQ.e,pu.map USQ.e,pn⟩) C hL;dsimp only at N;rw[hL]at M;clear hL y C
 go_wp2_with fail
 refine M.mono ?_;rintro e w3 ⟨rfl,x⟩;replace B:=B.below x;replace Bv:=Bv.below x;replace d:=d.trans (x.mono (by omega));have aJ:=x.size;have ai:=d;clear x M;have al:=hr w3 d;have ab:=z7p (.slice p0 pd.length p5) (.slice p2 pt.length p7) pd pt w3 al.1 al.2.2.1 (fun q hq=>T _ (List.mem_map_of_mem hq)) (fun q hq=>U _ (List.mem_map_of_mem hq)) (by omega) (by omega);have q0:=B.cell 0 _ rfl;have q2:=B.cell 2 _ rfl
 go_wp2_with fail
 clear q0 q2;refine ab.mono ?_;rintro e w4 ⟨vN,iN,vU,iU,rfl,hP,E⟩;clear ab;replace B:=B.below E;replace Bv:=Bv.below E;have W:=E;replace d:=d.trans (E.mono (by omega));have aK:=E.size;obtain⟨ds,us,rb,B0,R,eD,eE,Z,aa⟩:=hP;obtain⟨na,nc,rfl⟩:=z0g R.oN;obtain⟨ua,uc,rfl⟩:=z0g R.oU;obtain⟨ia,ic,rfl⟩:=R.jN.shape;obtain⟨ja,jc,rfl⟩:=R.jU.shape;generalize D:allI [] (pd.map TxnQ.e)=xs at*;generalize ae:allI xs (pt.map TxnQ.e)=ys at*;have A:Below w4.heap.size w4 (w4.alloc (.cells #[.slice na ds.length nc,.slice ia xs.length ic,.slice ua us.length uc,.slice ja ys.length jc] 160)):=by go_grown
 have BR:=Blk.new w4 160 #[.slice na ds.length nc,.slice ia xs.length ic,.slice ua us.length uc,.slice ja ys.length jc];replace R:=R.below A;replace B:=B.below A;replace Bv:=Bv.below A;replace d:=d.trans (A.mono (by omega));have J:=W.trans (A.mono (by omega));have aL:=A.size;have ay:=BR.lt
 go_wp2_with fail
 clear A E W;generalize hY:w4.alloc (.cells #[.slice na ds.length nc,.slice ia xs.length ic,.slice ua us.length uc,.slice ja ys.length jc] 160)=Y at*;clear hY;generalize aF:w4.heap.size=rg at*;have ah:RecPost w3 Y (.slice na ds.length nc) (.slice ia xs.length ic) (.slice ua us.length uc) (.slice ja ys.length jc) (pd.map TxnQ.e) (pt.map TxnQ.e):=⟨ds,us,rb,B0,by rw[D,ae];exact R,eD,by rw[D];exact eE,Z,aa⟩
 have am:=hr Y d;obtain⟨f0,f1,f2,f3⟩:=BR.lts4;obtain⟨k0,k1,k2,k3,k4⟩:=B.lts5;have hW:Below Y.heap.size Y Y.drew:=(Below.refl _ _).drew;have ap:Nonempty (Lat Y):=⟨⟨Y,Below.refl _ _⟩⟩
 refine z0b (S:=fun w'=>∃u:Lat Y,w'=u.val) (by kernel_rfl) ?_;refine sgr [(0,1),(2,1)] 3 (by kernel_rfl) ⟨⟨_,hW⟩,rfl⟩ ?_;simp only[pkE];repeat go_big_quiet_step (fail)
 refine wpQuiet_nil ?_;refine cla 1 (some 38) 123 #[.agg #[.slice na ds.length nc,.slice ia xs.length ic,.slice ua us.length uc,.slice ja ys.length jc]] 2 (by kernel_rfl) ?_;refine(z8f w3 _ _ _ _ (pd.map TxnQ.e) (pt.map TxnQ.e) _ (ah.below hW) (J.trans (hW.mono J.size)) T U (by rw[List.length_map];omega) (by rw[List.length_map];omega) (by rw[D];exact gD.1) (by rw[D,ae];exact gE.1) (by rw[D];exact gD.2)).mono ?_;rintro e w9 ⟨r,rfl,er,ao,_,_,L⟩;replace hW:=hW.trans (L.mono hW.size);clear L;have rr:=repK.own_rd ao;have aG:=z8I er T U (by rw[List.length_map];omega) (by rw[List.length_map];omega);clear ao;refine⟨_,rfl,⟨⟨_,hW⟩,rfl⟩,?_⟩;simp only[Act.put,pjE];refine cla 3 (some 40) 122 #[.agg #[r.vd,r.vb,r.vt,r.vu,r.vn],.agg #[.slice p0 pd.length p5,.slice p1 pb.length p6,.slice p2 pt.length p7,.slice p3 pu.length p8,.slice p4 pn.length p9]] 1 (by kernel_rfl) ?_;refine(z2r r (⟨.slice p0 pd.length p5,pd,.slice p1 pb.length p6,pb,.slice p2 pt.length p7,pt,.slice p3 pu.length p8,pu,.slice p4 pn.length p9,pn⟩:RepQ) _ rr (repK.rd_below am hW) (by omega) (by dsimp only[RepQ.n];omega)).mono ?_;rintro e af ⟨rfl,L⟩;replace hW:=hW.trans (L.mono hW.size);clear L rr;rw[er];dsimp only[RepQ.e];refine⟨_,rfl,⟨⟨_,hW⟩,rfl⟩,?_⟩;simp only[Act.put,pjE];refine sgr [(4,1)] 0 (by kernel_rfl) ⟨⟨_,hW⟩,rfl⟩ ?_;simp only[pkE];repeat go_big_quiet_step (fail)
 refine wpQuiet_nil ?_;refine z0f (by kernel_rfl) ?_;clear f0 f1 f2 f3 k0 k1 k2 k3 k4 ap am er;replace BR:=BR.below hW;replace Bv:=Bv.below hW;replace R:=R.below hW;replace d:=d.trans (hW.mono (by omega));have aM:=hW.size;clear ah J
 cases hS:sameRep (mkR (pd.map TxnQ.e) (pt.map TxnQ.e)) ⟨pd.map TxnQ.e,pb,pt.map TxnQ.e,pu.map USQ.e,pn⟩with
 |false=>
  rw[hS]at N;have HC:Hid (repF (RepQ.e (⟨.slice p0 pd.length p5,pd,.slice p1 pb.length p6,pb,.slice p2 pt.length p7,pt,.slice p3 pu.length p8,pu,.slice p4 pn.length p9,pn⟩:RepQ))=8):=N;clear hW;obtain⟨z0,z1,z2,z3⟩:=Bv.cel4;obtain⟨y0,y1,y2,y3⟩:=Bv.frz4;have HB:Hid (∀u0 u1 u2 u3:Value,Below H w ((((af.setCell ⟨H+1,0,none⟩ u0).setCell ⟨H+1,1,none⟩ u1).setCell ⟨H+1,2,none⟩ u2).setCell ⟨H+1,3,none⟩ u3)):=fun u0 u1 u2 u3=>(((d.setCell (p:=⟨H+1,0,none⟩) (by show H≤H+1;omega) u0).setCell (p:=⟨H+1,1,none⟩) (by show H≤H+1;omega) u1).setCell (p:=⟨H+1,2,none⟩) (by show H≤H+1;omega) u2).setCell (p:=⟨H+1,3,none⟩) (by show H≤H+1;omega) u3
  go_wp2
  exact bodyPost_ret (v:=.tuple #[.agg #[.slice none 0 0,.slice none 0 0,.slice none 0 0,.slice none 0 0],.iface 196 (.agg #[.int .i64 8])]) (by simp[results,Tryz.results93,go_sem,z0,z1,z2,z3]) rfl (q1i HC.out (by first|decide|exact V) (by rw[hH];exact HB.out _ _ _ _))
 |true=>
  rw[hS]at N;have HC:Hid (repF (RepQ.e (⟨.slice p0 pd.length p5,pd,.slice p1 pb.length p6,pb,.slice p2 pt.length p7,pt,.slice p3 pu.length p8,pu,.slice p4 pn.length p9,pn⟩:RepQ))=0):=N;clear hW;obtain⟨z0,z1,z2,z3⟩:=Bv.cel4;obtain⟨y0,y1,y2,y3⟩:=Bv.frz4;obtain⟨x0,x1,x2,x3⟩:=BR.cel4;have HB:Hid (∀ u0 u1 u2 u3:Value,Below H w ((((af.setCell ⟨H + 1,0,none⟩ u0).setCell ⟨H + 1,1,none⟩ u1).setCell ⟨H + 1,2,none⟩ u2).setCell ⟨H + 1,3,none⟩ u3)∧RecPost w3 ((((af.setCell ⟨H + 1,0,none⟩ u0).setCell ⟨H + 1,1,none⟩ u1).setCell ⟨H + 1,2,none⟩ u2).setCell ⟨H + 1,3,none⟩ u3) (.slice na ds.length nc) (.slice ia xs.length ic) (.slice ua us.length uc) (.slice ja ys.length jc) (pd.map TxnQ.e) (pt.map TxnQ.e)):=fun u0 u1 u2 u3=>⟨(((d.setCell (p:=⟨H + 1,0,none⟩) (by show H≤H + 1;omega) u0).setCell (p:=⟨H + 1,1,none⟩) (by show H≤H + 1;omega) u1).setCell (p:=⟨H + 1,2,none⟩) (by show H≤H + 1;omega) u2).setCell (p:=⟨H + 1,3,none⟩) (by show H≤H + 1;omega) u3,⟨ds,us,rb,B0,by
   rw[D,ae];exact (((R.other (by omega) (by omega) 0 u0).other (by omega) (by omega) 1 u1).other (by omega) (by omega) 2 u2).other (by omega) (by omega) 3 u3,eD,by rw [D];exact eE,Z,aa⟩⟩
  have aj:Below H w w3:=ai;clear R Bv BR d
  go_wp2
  exact bodyPost_ret (v:=.tuple #[.agg #[.slice na ds.length nc,.slice ia xs.length ic,.slice ua us.length uc,.slice ja ys.length jc],.nilIface]) (by simp[results,Tryz.results93,go_sem,z0,z1,z2,z3]) rfl (q4M HC.out (by rw[hH];exact aj) (HB.out _ _ _ _).2 (by rw[hH];exact(HB.out _ _ _ _).1))
theorem z2t(p:RepQ)(w:World)(hg:ErrT w)(h:repK.rd w p)(nd:z30 p.vd)(nt:z30 p.vt)(hl:p.n≤1048576):
  Calls Tryz.prog 65 #[.agg #[p.vd,p.vb,p.vt,p.vu,p.vn]] w fun e w'=>e=.returned (.int .i64 (repF p.e))∧Below w.heap.size w w':=by
 have z:=fun w h=>z8g p w h nd nt hl
 have hr:=fun(w':World) hb=>repK.rd_below (w':=w') h hb
 obtain⟨L,pd,J,pb,N,pt,O,pu,M,pn⟩:=p;obtain⟨p0,p5,rfl⟩:∃a c,L=.slice a pd.length c:=h.1.shape;obtain⟨p1,p6,rfl⟩:∃a c,J=.slice a pb.length c:=h.2.1.shape;obtain⟨p2,p7,rfl⟩:∃a c,N=.slice a pt.length c:=h.2.2.1.shape;obtain⟨p3,p8,rfl⟩:∃a c,O=.slice a pu.length c:=h.2.2.2.1.shape;obtain⟨p4,p9,rfl⟩:∃a c,M=.slice a pn.length c:=h.2.2.2.2.shape;dsimp only at z hr;have d:Below w.heap.size w (w.alloc (.cells #[.slice p0 pd.length p5,.slice p1 pb.length p6,.slice p2 pt.length p7,.slice p3 pu.length p8,.slice p4 pn.length p9] 73)):=by go_grown
 have B:=Blk.new w 73 #[.slice p0 pd.length p5,.slice p1 pb.length p6,.slice p2 pt.length p7,.slice p3 pu.length p8,.slice p4 pn.length p9];obtain⟨q0,q1,q2,q3,q4⟩:=B.cel5;go_enter Tryz.func65,Tryz.ntmps65
 go_wp2_with fail
 clear q0 q1 q2 q3 q4 B;have D:=hg.below d;have I:=hr _ d;generalize w.alloc (.cells #[.slice p0 pd.length p5,.slice p1 pb.length p6,.slice p2 pt.length p7,.slice p3 pu.length p8,.slice p4 pn.length p9] 73)=W at*;refine(z W I).mono ?_;rintro e w2 ⟨a0,a1,a2,a3,l0,c0,l1,c1,l2,c2,l3,c3,rfl,_,x⟩;replace d:=d.trans (x.mono d.size);have E:=D.below x;have y:Below w2.heap.size w2 (w2.alloc (.cells #[.slice a0 l0 c0,.slice a1 l1 c1,.slice a2 l2 c2,.slice a3 l3 c3] 160)):=by go_grown
 have A:=z9G (repF (RepQ.e (⟨.slice p0 pd.length p5,pd,.slice p1 pb.length p6,pb,.slice p2 pt.length p7,pt,.slice p3 pu.length p8,pu,.slice p4 pn.length p9,pn⟩:RepQ))) _ (E.below y);replace d:=d.trans (y.mono d.size);dsimp only[RepQ.e]at A⊢;generalize repF _=c at*;generalize misC c=m at*
 go_wp2_with fail
 refine A.mono ?_;rintro e w4 ⟨rfl,C⟩;replace d:=d.trans (C.mono d.size)
 go_wp2
 go_ret;exact⟨rfl,d⟩
theorem q1j(ds:List TxnD)(xs:List ItemD)(t:TxnD):z6r xs (ds++[t])=z6r xs ds++[z0G (allI xs ds) t.acts]:=by
 unfold z6r;rw[z2p,List.map_append];rfl
theorem z9H(ia:Option Addr)(ic:Nat)(xs:List ItemD)(v:Value)(ts:List TxnQ)(w:World)(h:itemK.At w (.slice ia xs.length ic) xs)(hN:z7l ia xs.length ic)(ht:txnK.At w v ts)(hF:∀p∈ts,(TxnQ.e p).F=0)(hl:ts.length≤40)(h8:xs.length≤8)(g:Good xs):
  Calls Tryz.prog 109 #[.slice ia xs.length ic,v] w fun e w'=>∃ (ua:Option Addr) (uc:Nat) (na:Option Addr) (nc:Nat) (us:List USQ) (ys:List ItemD),e=.returned (.tuple #[.slice ua us.length uc,.slice na ys.length nc])∧us.map USQ.e=z6r xs (ts.map TxnQ.e)∧ys=allI xs (ts.map TxnQ.e)∧ussK.Own w' (.slice ua us.length uc) us∧itemK.Own w' (.slice na ys.length nc) ys∧(ussK.fp (.slice ua us.length uc) us).Nodup∧(∀k∈ussK.fp (.slice ua us.length uc) us,w.heap.size≤k∧k∉blk (.slice na ys.length nc))∧(∀k∈blk (.slice na ys.length nc),w.heap.size≤k)∧Below w.heap.size w w':=by
 obtain⟨a,cap,rfl⟩:=ht.shape;obtain⟨i0,hi,bb,bc,bd⟩:=info_parts z1H;obtain⟨j0,hj,a7,a8,ba⟩:=info_parts z3h;have ay:Below w.heap.size w ((w.alloc (.cells #[] 190)).alloc (.cells #[] 187)):=by go_grown
 have oU:=World.ownsRow_lit (e:=190) (size:=1) w #[] 0 (Nat.le_refl _) (by decide) rfl;have aL:Below (w.alloc (.cells #[] 190)).heap.size (w.alloc (.cells #[] 190)) ((w.alloc (.cells #[] 190)).alloc (.cells #[] 187)):=by go_grown
 have aS:=z0d oU aL;have oI:=World.ownsRow_lit (e:=187) (size:=2) (w.alloc (.cells #[] 190)) #[] 0 (Nat.le_refl _) (by decide) rfl;simp only[World.size_alloc]at oI;obtain⟨_,_,e1,l1,_⟩:=h.below ay;simp only[Value.slice.injEq,true_and]at e1;obtain⟨rfl,rfl⟩:=e1;have x1:([]:List ItemD).length+xs.length≤maxLen:=by unfold maxLen;rw[List.length_nil];omega
 have x2:(([]:List ItemD).length+xs.length)*16≤140737488355328:=by rw[List.length_nil];omega
 have aR:w.heap.size+1≤((w.alloc (.cells #[] 190)).alloc (.cells #[] 187)).heap.size:=by simp only[World.size_alloc];omega
 have bh:(ts.length:Int)≤40:=by omega
 have bf:(xs.length:Int)≤8:=by omega
 go_enter Tryz.func109,Tryz.ntmps109
 go_wp2_with (at_builtin;refine z03 (K:=itemK) _ rfl _ _ 70 rfl i0 (.agg #[.int .i64 0,.int .i64 0]) 16 Tryz.underlying70 hi bb bc bd rfl (by decide) (w.heap.size+1) _ [] rfl oI _ xs _ rfl l1 (z1R xs) hN x1 x2 aR ?_)
 intro v' w2 A d;try simp only[List.nil_append]at A
 have aK:Below w.heap.size w w2:=ay.grown d (by omega) (fun k hk=>by have:=(oI.lt k hk).1;omega);have aT:=aS.kept d (Or.inr (by simp[Value.ownBlock]));obtain⟨a2,c2,rfl⟩:=z0g A;obtain⟨o2,k2⟩:=z0y A;obtain⟨u2,m2⟩:=z0y aT;clear d oI l1 A oU aS aT ay aL x1 x2 aR;have aJ:ussK.Own w2 (.slice (some ⟨w.heap.size,0,none⟩) 0 0) ([]:List USQ):=⟨u2,fun p hp=>by simp at hp⟩
 have aI:itemK.Own w2 (.slice a2 xs.length c2) xs:=⟨o2,fun _ _=>trivial⟩
 have aH:ussK.fp (.slice (some ⟨w.heap.size,0,none⟩) 0 0) ([]:List USQ)=[w.heap.size]:=by simp[Kind.fp,blk,Value.ownBlock]
 have aE:Hid ((ussK.fp (.slice (some ⟨w.heap.size,0,none⟩) 0 0) ([]:List USQ)).Nodup∧(∀k∈ussK.fp (.slice (some ⟨w.heap.size,0,none⟩) 0 0) ([]:List USQ),w.heap.size≤k∧k∉blk (.slice a2 xs.length c2))∧∀k∈blk (.slice a2 xs.length c2),w.heap.size≤k):=by
  rw[aH];refine⟨by simp,fun k hk=>?_,fun k hk=>by have:=k2 k hk;omega⟩;simp only[List.mem_singleton]at hk;subst hk;exact⟨Nat.le_refl _,fun e=>by have:=k2 _ e;omega⟩
 have aD:Hid (([]:List USQ).map USQ.e=z6r xs ((ts.map TxnQ.e).take 0)∧xs=allI xs ((ts.map TxnQ.e).take 0)∧xs.length≤8∧Good xs):=⟨rfl,rfl,h8,g⟩
 clear o2 k2 u2 m2 aH h8 g
 go_wp2
 go_loopw[6,7,8] (fun vu vn j wr=>∃ (k:Nat) (us:List USQ) (ys:List ItemD),k≤ts.length∧j=.int .i64 k∧ussK.Own wr vu us∧itemK.Own wr vn ys∧Hid (us.map USQ.e=z6r xs ((ts.map TxnQ.e).take k)∧ys=allI xs ((ts.map TxnQ.e).take k)∧ys.length≤8∧Good ys)∧Hid ((ussK.fp vu us).Nodup∧(∀x∈ussK.fp vu us,w.heap.size≤x∧x∉blk vn)∧∀x∈blk vn,w.heap.size≤x)∧Below w.heap.size w wr) (fun _ _ j _=>ts.length-(intOf j).toNat)
 case atStart=>exact⟨0,[],xs,Nat.zero_le _,rfl,aJ,aI,aD,aE,aK⟩
 case round=>
  clear aJ aI aD aE aK;obtain⟨k,us,ys,hk,rfl,hO,hI,HD,HN,hb⟩:=hrel;obtain⟨sa,sc,rfl⟩:=hO.shape;obtain⟨ya,yc,rfl⟩:=hI.shape;have aF:Hid (us.length≤40):=by
   have:=congrArg List.length HD.out.1;rw[List.length_map,z6r,List.length_map,z7q,List.length_take]at this;show us.length≤40;omega
  by_cases az:k<ts.length
  ·obtain⟨b,aA,rfl,bg,aM,ab⟩:=(ht.below hb).cell (by decide) k az;have Y:∀j x,(txnK.cells ts[k])[j]?=some x→wr.cell? ⟨b,aA+k*4+j,none⟩=some x:=aM;have c0:=Y 0 (.int .i64 ts[k].i) rfl;have c1:=Y 1 (.int .i64 ts[k].s) rfl;have aq:=Y 2 (.int .i64 ts[k].q) rfl;have c3:=Y 3 (ts[k].va) rfl;rw[Nat.add_zero]at c0;have ar:=hF ts[k] (List.getElem_mem az);have ao:=q1d ts k az;have aP:(k:Int)<(ts.length:Int):=by omega
   clear aM Y;generalize ts[k]=p at*;obtain⟨i,s,q,va,c⟩:=p;replace ab:actK.At wr va c:=ab;obtain⟨ta,tc,rfl⟩:=ab.shape;dsimp only[TxnQ.e]at c0 c1 aq c3 ar ao;have aG:Box4 wr b (aA+k*4) (.int .i64 i) (.int .i64 s) (.int .i64 q) (.slice ta c.length tc):=⟨c0,c1,aq,c3⟩
   have aN:=q19 ya yc ys b (aA+k*4) i s q ta tc c wr (z0T hI.at).2 (hI.niceV _ _ _ rfl) aG (z0O ab).2 HD.out.2.2.1 HD.out.2.2.2 ar;have an:Hid (∀p':USQ,p'.us=z0G ys c→(us++[p']).map USQ.e=z6r xs ((ts.map TxnQ.e).take (k+1))∧nextI ys ⟨i,s,q,c⟩=allI xs ((ts.map TxnQ.e).take (k+1))∧(nextI ys ⟨i,s,q,c⟩).length≤8∧Good (nextI ys ⟨i,s,q,c⟩)):=fun p' aZ=>by
    obtain⟨d1,d2,d3,d4⟩:=HD.out;have g:=z1b d3 d4 ar;rw[ao,q1j,z3c,←d2,List.map_append,d1];exact⟨by rw[←aZ];rfl,rfl,g.1,g.2⟩
   have J:=q3x (xs:=ys) (t:=⟨i,s,q,c⟩);dsimp only at J;clear c0 c1 aq c3 aG ab ao
   go_wp2_with fail
   refine aN.mono ?_;rintro e w5 ⟨ub,uc,jb,jc,rfl,hU,T⟩;clear aN;obtain⟨ou,lu⟩:=z2g hU.o1;obtain⟨oi,li⟩:=z2g hU.o2;have ax:=hU.ap;have aW:∀x∈blk (.slice jb (runR ys c).length jc),x<w5.heap.size:=z0J oi;clear hU;have N:=hO.lt;have al:∀x∈blk (.slice ya ys.length yc),x<wr.heap.size:=z0J hI.1;have bk:=hb.size;replace hO:=hO.below T;replace hI:=hI.below T;replace hb:=hb.trans (T.mono hb.size);have bi:=T.size;have D:Below w5.heap.size w5 (w5.alloc (.cells #[.int .i64 (z0t ys c).1,.int .i64 (runV ys c),.slice ub (z0G ys c).length uc,.slice jb (runR ys c).length jc] 218)):=by go_grown
   have BR:=Blk.new w5 218 #[.int .i64 (z0t ys c).1,.int .i64 (runV ys c),.slice ub (z0G ys c).length uc,.slice jb (runR ys c).length jc];have r2:=BR.cell 2 _ rfl;have I:Below (w5.alloc (.cells #[.int .i64 (z0t ys c).1,.int .i64 (runV ys c),.slice ub (z0G ys c).length uc,.slice jb (runR ys c).length jc] 218)).heap.size (w5.alloc (.cells #[.int .i64 (z0t ys c).1,.int .i64 (runV ys c),.slice ub (z0G ys c).length uc,.slice jb (runR ys c).length jc] 218)) ((w5.alloc (.cells #[.int .i64 (z0t ys c).1,.int .i64 (runV ys c),.slice ub (z0G ys c).length uc,.slice jb (runR ys c).length jc] 218)).alloc (.cells #[.slice ub (z0G ys c).length uc] 190)):=by go_grown
   have aj:=BR.below I;have be:=BR.lt;have ag:=(hO.below D).below I;have av:=(hI.below D).below I;have aV:undoK.Own w5 (.slice ub (z0G ys c).length uc) (z0G ys c):=⟨ou,fun _ _=>trivial⟩
   have aU:itemK.Own w5 (.slice jb (runR ys c).length jc) (runR ys c):=⟨oi,fun _ _=>trivial⟩
   have aw:ussK.own _ (⟨.slice ub (z0G ys c).length uc,z0G ys c⟩:USQ):=(Kind.Own.below (Kind.Own.below aV D) I)
   have aB:=Kind.Own.below (Kind.Own.below aU D) I;clear aV aU;have X:=(hb.trans (D.mono (by omega))).trans (I.mono (by have:=D.size;omega));have bj:w5.heap.size+2≤((w5.alloc (.cells #[.int .i64 (z0t ys c).1,.int .i64 (runV ys c),.slice ub (z0G ys c).length uc,.slice jb (runR ys c).length jc] 218)).alloc (.cells #[.slice ub (z0G ys c).length uc] 190)).heap.size:=by simp only[World.size_alloc];omega
   have ad:=ag.1;clear hO hI ou oi I hb
   go_wp2_with (at_builtin;refine wpList_append_own_at _ rfl _ _ 71 rfl 0 190 j0 (.slice none 0 0) 1 24 Tryz.underlying71 hj a7 a8 ba rfl (by decide) _ us.length (ussK.row us) rfl ad ⟨w5.heap.size+1,0,none⟩ 1 1 [.slice ub (z0G ys c).length uc] rfl rfl ?c1 ?c2 ?c3 ?c4 ?c5 ?_)
   all_goals try(case c1=>intro j u hj;match j,hj with|0,hj=>simp at hj;subst hj;simp[Addr.add])
   all_goals try(case c2=>intro u hu;simp at hu;subst hu;rfl)
   all_goals try(case c3=>have:=aF.out;unfold maxLen;omega)
   all_goals try(case c4=>have:=aF.out;omega)
   all_goals try(case c5=>first|omega|simp)
   intro v' w6 A d aQ W;clear aQ ad r2;rw[show w5.heap.size+1+1=((w5.alloc (.cells #[.int .i64 (z0t ys c).1,.int .i64 (runV ys c),.slice ub (z0G ys c).length uc,.slice jb (runR ys c).length jc] 218)).alloc (.cells #[.slice ub (z0G ys c).length uc] 190)).heap.size from by simp only[World.size_alloc]]at W;generalize a1:(w5.alloc (.cells #[.int .i64 (z0t ys c).1,.int .i64 (runV ys c),.slice ub (z0G ys c).length uc,.slice jb (runR ys c).length jc] 218)).alloc (.cells #[.slice ub (z0G ys c).length uc] 190)=WA at*;clear a1;have C:∀x∈ussK.foot (⟨.slice ub (z0G ys c).length uc,z0G ys c⟩:USQ),wr.heap.size≤x:=fun x hx=>by
    have V:x∈undoK.fp (.slice ub (z0G ys c).length uc) (z0G ys c):=hx;rw[z0U]at V;exact lu x V
   obtain⟨O,Z,E,U⟩:=ag.snoc HN.out.1 (fun x hx=>(HN.out.2.1 x hx).1) aw (by show(undoK.fp _ _).Nodup;rw[z0U];exact z0w _) (fun x hx V=>by have:=N x V;have:=C x hx;omega) (fun x hx=>by have:=C x hx;omega) X.size A d W;have ah:Below w.heap.size w w6:=Out.keep X U X.size (fun x hx=>(HN.out.2.1 x (by simp only[Kind.fp,List.mem_append];exact Or.inl hx)).1);obtain⟨a6,c6,rfl⟩:=O.shape;have L:∀x∈ussK.fp (.slice a6 (us++[(⟨.slice ub (z0G ys c).length uc,z0G ys c⟩:USQ)]).length c6) (us++[(⟨.slice ub (z0G ys c).length uc,z0G ys c⟩:USQ)]),x∈ussK.fp (.slice sa us.length sc) us∨x∈blk (.slice ub (z0G ys c).length uc)∨w5.heap.size+1<x:=fun x hx=>by
    simp only[Kind.fp,List.mem_append,List.flatMap_append,List.flatMap_cons,List.flatMap_nil,List.append_nil]at hx;rcases hx with hx|hx|hx
    ·rcases z2J (B0:=0) (H:=WA.heap.size) (v:=.slice sa us.length sc) (by rcases W with h|h;exact Or.inl h;exact Or.inr ⟨_,h,Nat.le_refl _⟩) hx with e|e
     ·exact Or.inl (by simp only[Kind.fp,List.mem_append];exact Or.inl e)
     ·exact Or.inr (Or.inr (by omega))
    ·exact Or.inl (by simp only[Kind.fp,List.mem_append];exact Or.inr hx)
    ·refine Or.inr (Or.inl ?_);have V:x∈undoK.fp (.slice ub (z0G ys c).length uc) (z0G ys c):=hx
     rwa [z0U]at V
   have aa:=aB.out U (fun x hx e=>by
    rw[z0s]at hx;have:=li x hx;have:=N x (by simp only[Kind.fp,List.mem_append];exact Or.inl e);omega)
   have au:=av.out U (fun x hx e=>by
    rw[z0s]at hx;exact (HN.out.2.1 x (by simp only [Kind.fp,List.mem_append];exact Or.inl e)).2 hx)
   have ae:=aj.outs8 U (fun e=>by have:=N _ (show w5.heap.size∈ussK.fp (.slice sa us.length sc) us by simp only[Kind.fp,List.mem_append];exact Or.inl e);omega);have n0:=ae.cell 0 _ rfl;have n3:=ae.cell 3 _ rfl;have af:=an.out ⟨.slice ub (z0G ys c).length uc,z0G ys c⟩ rfl;have aC:∀x∈blk (.slice jb (runR ys c).length jc),x<w5.heap.size:=fun x hx=>aW x hx
   have ai:∀x∈blk (.slice jb (runR ys c).length jc),x∉ussK.fp (.slice a6 (us++[(⟨.slice ub (z0G ys c).length uc,z0G ys c⟩:USQ)]).length c6) (us++[(⟨.slice ub (z0G ys c).length uc,z0G ys c⟩:USQ)]):=fun x hx hm=>by
    rcases L x hm with e|e|e
    ·have:=N x e;have:=li x hx;omega
    ·rcases ax with h0|h0
     ·unfold blk at e;rw[h0]at e;simp at e
     ·unfold blk at e hx;apply h0
      cases hu:(Value.slice ub (z0G ys c).length uc).ownBlock with
      |none=>rw[hu]at e;simp at e
      |some y=>
       cases hv:(Value.slice jb (runR ys c).length jc).ownBlock with
       |none=>rw[hv]at hx;simp at hx
       |some z=>
        rw[hu]at e;rw[hv]at hx;simp only[Option.toList,List.mem_singleton]at e hx;rw[←e,←hx]
    ·have:=aC x hx;omega
   have M:∀x∈blk (.slice ya ys.length yc),x∉ussK.fp (.slice a6 (us++[(⟨.slice ub (z0G ys c).length uc,z0G ys c⟩:USQ)]).length c6) (us++[(⟨.slice ub (z0G ys c).length uc,z0G ys c⟩:USQ)]):=fun x hx hm=>by
    have bl:=al x hx;rcases L x hm with e|e|e
    ·exact(HN.out.2.1 x e).2 hx
    ·have:=lu x e;omega
    ·omega
   have aO:(us++[(⟨.slice ub (z0G ys c).length uc,z0G ys c⟩:USQ)]).length=us.length+1:=by simp
   rw[aO]at O Z E ai M⊢;by_cases hc:(z0t ys c).1=0
   ·rw[if_pos hc]at J;have ak:Hid ((us++[(⟨.slice ub (z0G ys c).length uc,z0G ys c⟩:USQ)]).map USQ.e=z6r xs ((ts.map TxnQ.e).take (k+1))∧runR ys c=allI xs ((ts.map TxnQ.e).take (k+1))∧(runR ys c).length≤8∧Good (runR ys c)):=by rw[←J];exact af
    have am:Hid ((ussK.fp (.slice a6 (us.length+1) c6) (us++[(⟨.slice ub (z0G ys c).length uc,z0G ys c⟩:USQ)])).Nodup∧(∀x∈ussK.fp (.slice a6 (us.length+1) c6) (us++[(⟨.slice ub (z0G ys c).length uc,z0G ys c⟩:USQ)]),w.heap.size≤x∧x∉blk (.slice jb (runR ys c).length jc))∧∀x∈blk (.slice jb (runR ys c).length jc),w.heap.size≤x):=⟨Z,fun x hx=>⟨E x hx,fun e=>ai x e hx⟩,fun x hx=>by have:=li x hx;omega⟩
    have HR:Hid (_∧_∧_):=⟨O,aa,ah⟩
    have aX:((z0t ys c).1==0)=true:=by simpa using hc
    clear O aa ah au av aB aw ag A d W U HN HD an af ai M L C BR aj ae X T N al li lu Z E aC ax J D
    go_wp2
    go_roundw
    case rel=>exact⟨k+1,_,_,by omega,by go_num,HR.out.1,HR.out.2.1,ak,am,HR.out.2.2⟩
    case measure=>simp[intOf];omega
   ·rw[if_neg hc]at J;have ak:Hid ((us++[(⟨.slice ub (z0G ys c).length uc,z0G ys c⟩:USQ)]).map USQ.e=z6r xs ((ts.map TxnQ.e).take (k+1))∧ys=allI xs ((ts.map TxnQ.e).take (k+1))∧ys.length≤8∧Good ys):=by
     have:=af;rw[J]at this;exact this
    have am:Hid ((ussK.fp (.slice a6 (us.length+1) c6) (us++[(⟨.slice ub (z0G ys c).length uc,z0G ys c⟩:USQ)])).Nodup∧(∀x∈ussK.fp (.slice a6 (us.length+1) c6) (us++[(⟨.slice ub (z0G ys c).length uc,z0G ys c⟩:USQ)]),w.heap.size≤x∧x∉blk (.slice ya ys.length yc))∧∀x∈blk (.slice ya ys.length yc),w.heap.size≤x):=⟨Z,fun x hx=>⟨E x hx,fun e=>M x e hx⟩,HN.out.2.2⟩
    have HR:Hid (_∧_∧_):=⟨O,au,ah⟩
    have aX:((z0t ys c).1==0)=false:=by simpa using hc
    clear O aa ah au av aB aw ag A d W U HN HD an af ai M L C BR aj ae X T N al li lu Z E aC ax J D
    go_wp2
    go_roundw
    case rel=>exact⟨k+1,_,_,by omega,by go_num,HR.out.1,HR.out.2.1,ak,am,HR.out.2.2⟩
    case measure=>simp[intOf];omega
  ·have aY:k=ts.length:=by omega
   subst aY;have aP:¬((ts.length:Int)<(ts.length:Int)):=by omega
   obtain⟨d1,d2,_,_⟩:=HD.out;rw[List.take_of_length_le (by simp)]at d1 d2;have HP:Hid (_∧_):=⟨d1,d2⟩
   clear HD d1 d2
   go_wp2
   exact bodyPost_ret (v:=.tuple #[.slice sa us.length sc,.slice ya ys.length yc]) (by simp[results,Tryz.results109,go_sem]) rfl ⟨sa,sc,ya,yc,us,ys,rfl,HP.out.1,HP.out.2,hO,hI,HN.out.1,HN.out.2.1,HN.out.2.2,hb⟩
section
open Go.Maps
theorem z8J{s t:Value}(h:∀g,s.ownBlock=some g→t.ownBlock=some g→False):s.ownBlock=none∨s.ownBlock≠t.ownBlock:=by
 cases e:s.ownBlock with
 |none=>exact Or.inl rfl
 |some g=>right;intro k;exact h g e k.symm
theorem Blk.otherG{w:World}{b g j:Nat}{t:TypeId}{cs:Array Value}{u:Value}(h:Blk w b t cs)(hne:b≠g):Blk (w.setCell ⟨g,j,none⟩ u) b t cs:=by
 unfold Blk at h⊢;rw[Below.heap_setCell _ _ _ _ (by dsimp only;omega)];exact h
theorem q1k(a:Option Addr)(cap:Nat)(xs:List ItemD)(v:Value)(ds:List TxnD)(w:World)(h:ItemRow w a xs)(hN:z7l a xs.length cap)(ht:TxnsAt w v ds)(h0:itemsF xs=0)(h2:z7x ds=0):
  Calls Tryz.prog 108 #[.slice a xs.length cap,v] w fun e w'=>∃a1 c1 a2 c2 a3 c3,e=.returned (.agg #[.int .i64 (eaC xs ds),.slice a1 (q3v xs ds).length c1,.slice a2 (q3w xs ds).length c2,.slice a3 (eaI xs ds).length c3])∧
   OwnA w.heap.size w'.heap.size w' (.slice a1 (q3v xs ds).length c1) (.slice a2 (q3w xs ds).length c2) (.slice a3 (eaI xs ds).length c3) (q3v xs ds) (q3w xs ds) (eaI xs ds)∧Below w.heap.size w w':=by
 obtain⟨h8,g⟩:=z29 h0;obtain⟨bj,hz⟩:=q2a h2;have HZ:Hid (∀t∈ds,t.F=0):=hz;have aZ:Hid (eaC xs ds=0∧q3v xs ds=z4X xs ds∧q3w xs ds=z4Y xs ds∧eaI xs ds=allI xs ds):=q4o h0 h2;clear h0 h2 hz;obtain⟨i0,hi,aW,aX,aY⟩:=info_parts z5G;have aH:Below w.heap.size w ((w.alloc (.cells #[.int .i64 0,.slice none 0 0,.slice none 0 0,.slice none 0 0] 181)).alloc (.cells #[] 187)):=by go_grown
 have B0:=(Blk.new w 181 #[.int .i64 0,.slice none 0 0,.slice none 0 0,.slice none 0 0]).below (w':=(w.alloc (.cells #[.int .i64 0,.slice none 0 0,.slice none 0 0,.slice none 0 0] 181)).alloc (.cells #[] 187)) (by go_grown);have aK:=World.ownsRow_lit (size:=2) (e:=187) (w.alloc (.cells #[.int .i64 0,.slice none 0 0,.slice none 0 0,.slice none 0 0] 181)) #[] 0 (Nat.le_refl _) (by decide) rfl;rw[World.size_alloc]at aK;have aP:∀ (ops:Array Oper) (rest:List Oper) (o:Oper) (al:Act) (Q:Exit→Act→World→Prop) (aQ:o.guard=none) (sx x:Operand) (ho:o.op=.call {callee:=.builtin .append,args:=#[sx,x],argTypes:=#[70,70]}) (hs:al.eval sx=.slice (some ⟨w.heap.size+1,0,none⟩) 0 0) (hx:al.eval x=.slice a xs.length cap)
   (hh:∀a' c' w',w'.ownsRow (w.heap.size+1) 187 2 (.slice a' xs.length c') xs.length (z0h xs)→Below (w.heap.size+1) ((w.alloc (.cells #[.int .i64 0,.slice none 0 0,.slice none 0 0,.slice none 0 0] 181)).alloc (.cells #[] 187)) w'→wpList Tryz.prog ops Q rest (al.put o.dst (.slice a' xs.length c')) w'),wpList Tryz.prog ops Q (o::rest) al ((w.alloc (.cells #[.int .i64 0,.slice none 0 0,.slice none 0 0,.slice none 0 0] 181)).alloc (.cells #[] 187)):=
  fun ops rest o al Q aQ sx x ho hs hx hh=>z0A _ aQ sx x ho (w.heap.size+1) (w.heap.size+1) hs aK a xs cap hx (h.below aH) hN (by omega) (by simp) hh
 go_enter Tryz.func108,Tryz.ntmps108
 go_wp2_with (at_builtin;refine aP _ _ _ _ _ rfl _ _ rfl rfl rfl ?_)
 intro ah ai W3 ag aI;have aO:Below w.heap.size w W3:=aH.trans (aI.mono (by omega));replace B0:Blk W3 _ _ _:=(aI.block _ (by omega)).trans B0;have be:w.heap.size<W3.heap.size:=B0.lt;have aV:=ht.below aO;clear aP aK aH aI h hN ht;have ay:Below W3.heap.size W3 (W3.alloc (.cells #[.int .i64 0,.slice none 0 0,.slice none 0 0,.slice ah xs.length ai] 181)):=by go_grown
 have aj:=Blk.new W3 181 #[.int .i64 0,.slice none 0 0,.slice none 0 0,.slice ah xs.length ai];have aC:∀k,(Value.slice ah xs.length ai).ownBlock=some k→k≠W3.heap.size:=fun k hk=>by have:=(ag.lt k hk).2;omega
 replace ag:=z0d ag ay;have af:W3.heap.size+1≤(W3.alloc (.cells #[.int .i64 0,.slice none 0 0,.slice none 0 0,.slice ah xs.length ai] 181)).heap.size:=by simp
 have bf:=aV.shape;obtain⟨bt,bg,rfl⟩:=bf
 go_wp2
 generalize W3.alloc (.cells #[.int .i64 0,.slice none 0 0,.slice none 0 0,.slice ah xs.length ai] 181)=W4 at ay aj ag af;have aB:Below W3.heap.size W3 W4:=ay;obtain⟨T,ba⟩:∃T,T=w.heap.size+1:=⟨_,rfl⟩
 rw[←ba]at ag;generalize aA:W3.heap.size=ab at*;go_loopw[6] (fun j wr=>∃ (k:Nat) (c:List ItemD) (C V:List Int) (ca:Option Addr) (cc:Nat) (va:Option Addr) (vc:Nat) (ia:Option Addr) (ic:Nat),k≤ds.length∧j=.int .i64 k∧Blk wr ab 181 #[.int .i64 0,.slice ca C.length cc,.slice va V.length vc,.slice ia c.length ic]∧wr.ownsRow (ab+1) 2 1 (.slice ca C.length cc) C.length (C.map (Value.int .i64))∧wr.ownsRow (ab+1) 2 1 (.slice va V.length vc) V.length (V.map (Value.int .i64))∧wr.ownsRow T 187 2 (.slice ia c.length ic) c.length (z0h c)∧Apart3 (.slice ca C.length cc) (.slice va V.length vc) (.slice ia c.length ic)∧(∀k,(Value.slice ia c.length ic).ownBlock=some k→k≠ab)∧Below ab W3 wr∧ab+1≤wr.heap.size∧Hid (c.length≤8∧Good c∧allI c (ds.drop k)=allI xs ds∧C++z4X c (ds.drop k)=z4X xs ds∧V++z4Y c (ds.drop k)=z4Y xs ds∧C.length=k∧V.length=k)) (fun j _=>ds.length-(intOf j).toNat)
 case atStart=>exact⟨0,xs,[],[],none,0,none,0,ah,ai,Nat.zero_le _,rfl,aj,World.ownsRow_nil _ _ _ _,World.ownsRow_nil _ _ _ _,ag,⟨Or.inl rfl,Or.inl rfl,Or.inl rfl⟩,aC,aB,af,⟨h8,g,by simp,by simp,by simp,rfl,rfl⟩⟩
 case round=>
  clear aj ag aB af aC ay;obtain⟨k,c,C,V,ca,cc,va,vc,ia,ic,hk,rfl,I,o1,o2,o3,ap,ao,hb,bs,HG⟩:=hrel;have aF:∀g,(Value.slice ca C.length cc).ownBlock=some g→g<wr.heap.size:=fun g hg=>(o1.lt g hg).2
  have aG:∀g,(Value.slice va V.length vc).ownBlock=some g→g<wr.heap.size:=fun g hg=>(o2.lt g hg).2
  have bk:C.length≤60:=by have:=HG.out.2.2.2.2.2.1;omega
  have bl:V.length≤60:=by have:=HG.out.2.2.2.2.2.2;omega
  have bm:=HG.out.1;by_cases aJ:k<ds.length
  ·obtain⟨b,M,aa,tc,rfl,an,t0,t1,t2,t3,hA⟩:=aV.at k aJ;rw[aA]at an;have aE:=HZ.out (ds.getD k z0l) (by simp[List.getD,aJ]);replace t0:wr.cell? ⟨b,M+k*4,none⟩=_:=(hb.cell (p:=⟨b,M+k*4,none⟩) an).trans t0;replace t1:wr.cell? ⟨b,M+k*4+1,none⟩=_:=(hb.cell (p:=⟨b,M+k*4+1,none⟩) an).trans t1;replace t2:wr.cell? ⟨b,M+k*4+2,none⟩=_:=(hb.cell (p:=⟨b,M+k*4+2,none⟩) an).trans t2;replace t3:wr.cell? ⟨b,M+k*4+3,none⟩=_:=(hb.cell (p:=⟨b,M+k*4+3,none⟩) an).trans t3;have aM:ActRow wr aa (ds.getD k z0l).acts:=hA.below (by rw[aA];exact hb);have aN:Box4 wr b (M+k*4) _ _ _ _:=⟨t0,t1,t2,t3⟩
   have aR:ItemRow wr ia c:=Lies.own o3;have O:=fun u (hu:Below wr.heap.size wr u)=>z9F ia ic c b (M+k*4) (ds.getD k z0l).id (ds.getD k z0l).session (ds.getD k z0l).seq aa tc (ds.getD k z0l).acts u (aR.below hu) (z2o o3) (aN.below hu) (aM.below hu) HG.out.1 HG.out.2.1 aE
   have ak:Hid ((nextI c (ds.getD k z0l)).length≤8∧Good (nextI c (ds.getD k z0l))∧allI (nextI c (ds.getD k z0l)) (ds.drop (k+1))=allI xs ds∧(C++[(z0t c (ds.getD k z0l).acts).1])++z4X (nextI c (ds.getD k z0l)) (ds.drop (k+1))=z4X xs ds∧(V++[runV c (ds.getD k z0l).acts])++z4Y (nextI c (ds.getD k z0l)) (ds.drop (k+1))=z4Y xs ds∧(C++[(z0t c (ds.getD k z0l).acts).1]).length=k+1∧(V++[runV c (ds.getD k z0l).acts]).length=k+1):=by
    obtain⟨g1,g2,g3,g4,g5,g6,g7⟩:=HG.out;rw[q2b aJ]at g3 g4 g5;obtain⟨n1,n2⟩:=z1b g1 g2 aE;exact⟨n1,n2,g3,by simpa[z4X]using g4,by simpa[z4Y]using g5,by simp[g6],by simp[g7]⟩
   have ar:Hid ((z0t c (ds.getD k z0l).acts).1=0→runR c (ds.getD k z0l).acts=nextI c (ds.getD k z0l)):=fun h=>by unfold runR nextI;rw[if_pos h,if_pos h]
   have aD:Hid ((z0t c (ds.getD k z0l).acts).1≠0→nextI c (ds.getD k z0l)=c):=fun h=>if_neg h
   generalize (z0t c (ds.getD k z0l).acts).1=D at O ak ar aD;generalize runR c (ds.getD k z0l).acts=RL at O ar;generalize runV c (ds.getD k z0l).acts=J at O ak;generalize nextI c (ds.getD k z0l)=nx at ak ar aD;clear aE hA HG t0 t1 t2 t3;have k3:=I.lat 3 _ rfl
   go_wp2_with fail
   refine z1o [some 18,some 19,some 20,some 21,some 22,some 23,some 7] (fun vs w'=>∃ (ra:Option Addr) (rc db:Nat),vs=[.pointer (some ⟨ab,3,none⟩),.slice ia c.length ic,.slice (some ⟨b,M,none⟩) ds.length bg,.int .i64 k,.pointer (some ⟨b,M+k*4,none⟩),.agg #[.int .i64 D,.int .i64 J,.slice ra RL.length rc],.pointer (some ⟨db,0,none⟩)]∧wr.heap.size≤db∧Blk w' db 215 #[.int .i64 D,.int .i64 J,.slice ra RL.length rc]∧w'.ownsRow wr.heap.size 187 2 (.slice ra RL.length rc) RL.length (z0h RL)∧Below wr.heap.size wr w') ?_ ?_
   ·have hW:Below wr.heap.size wr wr.drew:=(Below.refl _ _).drew;have bq:Nonempty (Lat wr):=⟨⟨wr,Below.refl _ _⟩⟩
    refine z0b (S:=fun w'=>∃u:Lat wr,w'=u.val) (by kernel_rfl) ?_;refine sgr [(0,5)] 3 (by kernel_rfl) ⟨⟨_,hW⟩,rfl⟩ ?_;simp only[pkE];repeat go_big_quiet_step (fail)
    refine wpQuiet_nil ?_;clear k3;generalize wr.drew=yd at hW⊢;refine twa 5 6 2 (by kernel_rfl) ?_ ?_
    ·refine opc 5 (some 23) 134 #[.slice ia c.length ic,.pointer (some ⟨b,M+k*4,none⟩)] (by kernel_rfl) ?_;refine(O _ hW).mono ?_;rintro e w4 ⟨ra,rc,rfl,oR,ax⟩;have aT:=hW.size;replace oR:=z0p oR aT;replace hW:=hW.trans (ax.mono aT);refine⟨_,rfl,⟨⟨_,hW⟩,rfl⟩,?_⟩;simp only[Act.put,pgE,pjE];refine ona 6 1 rfl (by kernel_rfl) ?_;have X:Below w4.heap.size w4 (w4.alloc (.cells #[.int .i64 0,.int .i64 0,.slice none 0 0] 215)):=by go_grown
     have Bz:=Blk.new w4 215 #[.int .i64 0,.int .i64 0,.slice none 0 0];have ae:∀k,(Value.slice ra RL.length rc).ownBlock=some k→k≠w4.heap.size:=fun k hk=>by have:=oR.lt k hk;omega
     have L:wr.heap.size≤w4.heap.size:=hW.size;replace oR:=z0d oR X;replace hW:=hW.trans (X.mono L)
     go_wp2
     refine ThenGo.to ⟨⟨⟨_,hW⟩,rfl⟩,?_⟩;generalize w4.alloc (.cells #[.int .i64 0,.int .i64 0,.slice none 0 0] 215)=Z at X Bz oR hW⊢;clear X;refine ona 7 0 rfl (by kernel_rfl) ?_;have p0:=Bz.cell 0 _ rfl;have f0:=Bz.frozen 0;have p1:=Bz.cell 1 _ rfl;have f1:=Bz.frozen 1;have p2:=Bz.cell 2 _ rfl;have f2:=Bz.frozen 2
     go_wp2
     refine ThenGo.to ⟨⟨⟨_,(((hW.setCell (p:=⟨w4.heap.size,0,none⟩) L (.int .i64 D)).setCell (p:=⟨w4.heap.size,1,none⟩) L (.int .i64 J)).setCell (p:=⟨w4.heap.size,2,none⟩) L (.slice ra RL.length rc))⟩,rfl⟩,?_⟩;refine z0f (by kernel_rfl) ?_;exact⟨rfl,_,⟨ra,rc,w4.heap.size,rfl,L,(((Bz.set 0 (.int .i64 D)).set 1 (.int .i64 J)).set 2 (.slice ra RL.length rc)),(z0i (j:=2) (u:=.slice ra RL.length rc) (z0i (j:=1) (u:=.int .i64 J) (z0i (j:=0) (u:=.int .i64 D) oR ae) ae) ae),(((hW.setCell (p:=⟨w4.heap.size,0,none⟩) L (.int .i64 D)).setCell (p:=⟨w4.heap.size,1,none⟩) L (.int .i64 J)).setCell (p:=⟨w4.heap.size,2,none⟩) L (.slice ra RL.length rc))⟩,by kernel_rfl⟩
    ·refine z2u 6 _ rfl ?_;have X:Below yd.heap.size yd (yd.alloc (.cells #[.int .i64 0,.int .i64 0,.slice none 0 0] 215)):=by go_grown
     have Bz:=Blk.new yd 215 #[.int .i64 0,.int .i64 0,.slice none 0 0];have L:wr.heap.size≤yd.heap.size:=hW.size;replace hW:=hW.trans (X.mono L)
     go_wp2
     refine ThenGo.to ⟨⟨⟨_,hW⟩,rfl⟩,?_⟩;generalize yd.alloc (.cells #[.int .i64 0,.int .i64 0,.slice none 0 0] 215)=Y at X Bz hW⊢;clear X;refine cla 5 (some 23) 134 #[.slice ia c.length ic,.pointer (some ⟨b,M+k*4,none⟩)] 1 (by kernel_rfl) ?_;refine(O _ hW).mono ?_;rintro e Z ⟨ra,rc,rfl,oR,ax⟩;have ae:∀k,(Value.slice ra RL.length rc).ownBlock=some k→k≠yd.heap.size:=fun k hk=>by have:=(oR.lt k hk).1;have:=Bz.lt;omega
     replace oR:=z0p oR hW.size;replace Bz:=Bz.below ax;replace hW:=hW.trans (ax.mono hW.size);refine⟨_,rfl,⟨⟨_,hW⟩,rfl⟩,?_⟩;simp only[Act.put,pgE,pjE];refine ona 7 0 rfl (by kernel_rfl) ?_;have p0:=Bz.cell 0 _ rfl;have f0:=Bz.frozen 0;have p1:=Bz.cell 1 _ rfl;have f1:=Bz.frozen 1;have p2:=Bz.cell 2 _ rfl;have f2:=Bz.frozen 2
     go_wp2
     refine ThenGo.to ⟨⟨⟨_,(((hW.setCell (p:=⟨yd.heap.size,0,none⟩) L (.int .i64 D)).setCell (p:=⟨yd.heap.size,1,none⟩) L (.int .i64 J)).setCell (p:=⟨yd.heap.size,2,none⟩) L (.slice ra RL.length rc))⟩,rfl⟩,?_⟩;refine z0f (by kernel_rfl) ?_;exact⟨rfl,_,⟨ra,rc,yd.heap.size,rfl,L,(((Bz.set 0 (.int .i64 D)).set 1 (.int .i64 J)).set 2 (.slice ra RL.length rc)),(z0i (j:=2) (u:=.slice ra RL.length rc) (z0i (j:=1) (u:=.int .i64 J) (z0i (j:=0) (u:=.int .i64 D) oR ae) ae) ae),(((hW.setCell (p:=⟨yd.heap.size,0,none⟩) L (.int .i64 D)).setCell (p:=⟨yd.heap.size,1,none⟩) L (.int .i64 J)).setCell (p:=⟨yd.heap.size,2,none⟩) L (.slice ra RL.length rc))⟩,by kernel_rfl⟩
   rintro vs w5 ⟨ra,rc,db,rfl,bo,Bd,oR,ad⟩;simp only[z1V,Act.put,pjE];have am:∀g,(Value.slice ra RL.length rc).ownBlock=some g→wr.heap.size≤g∧g<w5.heap.size:=fun g hg=>oR.lt g hg
   replace o1:=z0d o1 ad;replace o2:=z0d o2 ad;replace o3:=z0d o3 ad;replace I:=I.below ad;replace hb:=hb.trans (ad.mono (by omega));have br:=ad.size;clear O aM aR aN ad k3;generalize wr.heap.size=mb at*;have bi:w5.heap.size=w5.heap.size:=by first|rfl|simp
   have a1:=I.cell 1 _ rfl;have b0:=Bd.cell 0 _ rfl;have N:Below w5.heap.size w5 (w5.alloc (.cells #[.int .i64 D] 2)):=by go_grown
   have q1:=z0d o1 N;have l2:=fun g hg=>(o2.lt g hg).2
   have l3:=fun g hg=>(o3.lt g hg).2
   go_wp2_with (at_builtin;refine wpList_append_own_at _ rfl _ _ 42 rfl (ab+1) 2 i0 (.int .i64 0) 1 8 Tryz.underlying42 hi aW aX aY rfl (by decide) _ C.length (C.map (Value.int .i64)) rfl q1 ⟨w5.heap.size,0,none⟩ 1 1 [.int .i64 D] rfl rfl ?c1 ?c2 ?c3 ?c4 ?c5 ?_)
   all_goals try(case c1=>intro j u hj;match j,hj with|0,hj=>simp at hj;subst hj;simp[Addr.add])
   all_goals try(case c2=>first|rfl|(intro u hu;simp at hu;subst hu;rfl))
   all_goals try(case c3=>unfold maxLen;omega)
   all_goals try(case c4=>omega)
   all_goals try(case c5=>first|omega|(simp;omega))
   intro v' w1 W E _ U;obtain⟨z,A,rfl⟩:=z0g W;clear a1 b0;have av:Below (ab+1) w5 w1:=((Below.refl _ _).alloc (by omega) _).grown E (by simp;omega) (fun k hk=>(o1.lt k hk).1);have az:w5.heap.size≤w1.heap.size:=av.size;have a7:∀g,(Value.slice z (C.length+1) A).ownBlock=some g→g<mb∨w5.heap.size≤g:=fun g hg=>by
    rcases U with e|e
    ·exact Or.inl (aF g (by rw[←e];exact hg))
    ·rw[hg]at e;simp at e;right;omega
   have au:Apart3 (.slice z (C.length+1) A) (.slice va V.length vc) (.slice ia c.length ic):=ap.grow1 (w:=w5.alloc (.cells #[.int .i64 D] 2)) (by simpa using U) (fun g hg=>by have:=l2 g hg;simp;omega) (fun g hg=>by have:=l3 g hg;simp;omega);replace o2:=(z0d o2 N).kept E (z55 ap.a12);replace o3:=(z0d o3 N).kept E (z55 ap.a13);replace oR:=(z0d oR N).kept E (z8J (fun g h1 h2=>by have:=am g h1;have:=aF g h2;omega));replace Bd:=(Bd.below N).grown E (by intro e;have:=aF db e.symm;omega);replace I:Blk w1 ab 181 #[.int .i64 0,.slice ca C.length cc,.slice va V.length vc,.slice ia c.length ic]:=(av.block _ (by omega)).trans I;replace o1:w1.ownsRow (ab+1) 2 1 (.slice z (C.length+1) A) (C.length+1) ((C++[D]).map (Value.int .i64)):=by simpa using W
   replace hb:=hb.trans (av.mono (by omega));clear W E U q1 l2 l3 N av ap;have d1:=I.cell 1 _ rfl;have d2:=I.frozen 1;replace o1:=ownsRow_setCell_below (a:=⟨ab,1,none⟩) o1 (by dsimp only;omega) (.slice z (C.length+1) A);replace o2:=ownsRow_setCell_below (a:=⟨ab,1,none⟩) o2 (by dsimp only;omega) (.slice z (C.length+1) A);replace o3:=z0i (j:=1) (u:=.slice z (C.length+1) A) o3 ao;replace oR:=ownsRow_setCell_below (a:=⟨ab,1,none⟩) oR (by dsimp only;omega) (.slice z (C.length+1) A);replace I:Blk (w1.setCell ⟨ab,1,none⟩ (.slice z (C.length+1) A)) ab 181 #[.int .i64 0,.slice z (C.length+1) A,.slice va V.length vc,.slice ia c.length ic]:=by simpa using I.set 1 (.slice z (C.length+1) A)
   replace Bd:Blk (w1.setCell ⟨ab,1,none⟩ (.slice z (C.length+1) A)) (db) 215 #[.int .i64 D,.int .i64 J,.slice ra RL.length rc]:=Bd.otherG (by omega);replace hb:=hb.setCell (p:=⟨ab,1,none⟩) (Nat.le_refl _) (.slice z (C.length+1) A);replace az:w5.heap.size≤(w1.setCell ⟨ab,1,none⟩ (.slice z (C.length+1) A)).heap.size:=by simpa[World.setCell]using az
   have a2:=I.cell 2 _ rfl;have b1:=Bd.cell 1 _ rfl;have N:Below (w1.setCell ⟨ab,1,none⟩ (.slice z (C.length+1) A)).heap.size (w1.setCell ⟨ab,1,none⟩ (.slice z (C.length+1) A)) ((w1.setCell ⟨ab,1,none⟩ (.slice z (C.length+1) A)).alloc (.cells #[.int .i64 J] 2)):=by go_grown
   have q2:=z0d o2 N;have l1:=fun g hg=>(o1.lt g hg).2
   have l3:=fun g hg=>(o3.lt g hg).2
   have aU:(w1.setCell ⟨ab,1,none⟩ (.slice z (C.length+1) A)).heap.size=w1.heap.size:=by simp[World.setCell]
   have aq:∀j u,[Value.int .i64 J][j]?=some u→((w1.setCell ⟨ab,1,none⟩ (.slice z (C.length+1) A)).alloc (.cells #[.int .i64 J] 2)).cell? ((⟨w1.heap.size,0,none⟩:Addr).add j)=some u:=by
    intro j u hj
    match j,hj with
    |0,hj=>
     simp at hj;subst hj;rw[←aU,Addr.add_lit];exact(Blk.new (w1.setCell ⟨ab,1,none⟩ (.slice z (C.length+1) A)) 2 #[.int .i64 J]).cell 0 _ rfl
   go_wp2_with (at_builtin;refine wpList_append_own_at _ rfl _ _ 42 rfl (ab+1) 2 i0 (.int .i64 0) 1 8 Tryz.underlying42 hi aW aX aY rfl (by decide) _ V.length (V.map (Value.int .i64)) rfl q2 ⟨w1.heap.size,0,none⟩ 1 1 [.int .i64 J] rfl rfl aq ?c2 ?c3 ?c4 ?c5 ?_)
   all_goals try(case c1=>intro j u hj;match j,hj with|0,hj=>simp at hj;subst hj;simp[Addr.add])
   all_goals try(case c2=>first|rfl|(intro u hu;simp at hu;subst hu;rfl))
   all_goals try(case c3=>unfold maxLen;omega)
   all_goals try(case c4=>omega)
   all_goals try(case c5=>first|omega|(simp;omega))
   intro v' w2 W E _ U;obtain⟨d,y,rfl⟩:=z0g W;clear a2 b1 d1 d2;have aw:Below (ab+1) (w1.setCell ⟨ab,1,none⟩ (.slice z (C.length+1) A)) w2:=((Below.refl _ _).alloc (by omega) _).grown E (by simp;omega) (fun k hk=>(o2.lt k hk).1);have aS:w5.heap.size≤w2.heap.size:=Nat.le_trans az aw.size;have a8:∀g,(Value.slice d (V.length+1) y).ownBlock=some g→g<mb∨w5.heap.size≤g:=fun g hg=>by
    rcases U with e|e
    ·exact Or.inl (aG g (by rw[←e];exact hg))
    ·rw[hg]at e;simp at e;right;omega
   have aL:Apart3 (.slice z (C.length+1) A) (.slice d (V.length+1) y) (.slice ia c.length ic):=au.grow2 (w:=(w1.setCell ⟨ab,1,none⟩ (.slice z (C.length+1) A)).alloc (.cells #[.int .i64 J] 2)) (by simpa using U) (fun g hg=>by have:=l1 g hg;simp;omega) (fun g hg=>by have:=l3 g hg;simp;omega);replace o1:=(z0d o1 N).kept E au.a12;replace o3:=(z0d o3 N).kept E (z55 au.a23);replace oR:=(z0d oR N).kept E (z8J (fun g h1 h2=>by have:=am g h1;have:=aG g h2;omega));replace Bd:=(Bd.below N).grown E (by intro e;have:=aG db e.symm;omega);replace I:Blk w2 ab 181 #[.int .i64 0,.slice z (C.length+1) A,.slice va V.length vc,.slice ia c.length ic]:=(aw.block _ (by omega)).trans I;replace o2:w2.ownsRow (ab+1) 2 1 (.slice d (V.length+1) y) (V.length+1) ((V++[J]).map (Value.int .i64)):=by simpa using W
   replace hb:=hb.trans (aw.mono (by omega));clear W E U q2 l1 l3 N aw au aU az aq;have d1:=I.cell 2 _ rfl;have d2:=I.frozen 2;replace o1:=ownsRow_setCell_below (a:=⟨ab,2,none⟩) o1 (by dsimp only;omega) (.slice d (V.length+1) y);replace o2:=ownsRow_setCell_below (a:=⟨ab,2,none⟩) o2 (by dsimp only;omega) (.slice d (V.length+1) y);replace o3:=z0i (j:=2) (u:=.slice d (V.length+1) y) o3 ao;replace oR:=ownsRow_setCell_below (a:=⟨ab,2,none⟩) oR (by dsimp only;omega) (.slice d (V.length+1) y);replace I:Blk (w2.setCell ⟨ab,2,none⟩ (.slice d (V.length+1) y)) ab 181 #[.int .i64 0,.slice z (C.length+1) A,.slice d (V.length+1) y,.slice ia c.length ic]:=by simpa using I.set 2 (.slice d (V.length+1) y)
   replace Bd:Blk (w2.setCell ⟨ab,2,none⟩ (.slice d (V.length+1) y)) (db) 215 #[.int .i64 D,.int .i64 J,.slice ra RL.length rc]:=Bd.otherG (by omega);replace hb:=hb.setCell (p:=⟨ab,2,none⟩) (Nat.le_refl _) (.slice d (V.length+1) y);replace aS:w5.heap.size≤(w2.setCell ⟨ab,2,none⟩ (.slice d (V.length+1) y)).heap.size:=by simpa[World.setCell]using aS
   have b0:=Bd.cell 0 _ rfl;have b2:=Bd.cell 2 _ rfl;have a3:=I.cell 3 _ rfl;have a4:=I.frozen 3;by_cases hc:D=0
   ·obtain rfl:RL=nx:=ar.out hc;have a6:Apart3 (.slice z (C.length+1) A) (.slice d (V.length+1) y) (.slice ra RL.length rc):=⟨aL.a12,z8J (fun g h1 h2=>by have:=am g h2;have:=a7 g h1;omega),z8J (fun g h1 h2=>by have:=am g h2;have:=a8 g h1;omega)⟩
    have bh:((w2.setCell ⟨ab,2,none⟩ (.slice d (V.length+1) y)).setCell ⟨ab,3,none⟩ (.slice ra RL.length rc)).heap.size=(w2.setCell ⟨ab,2,none⟩ (.slice d (V.length+1) y)).heap.size:=by simp[World.setCell]
    have R:Hid (Blk ((w2.setCell ⟨ab,2,none⟩ (.slice d (V.length+1) y)).setCell ⟨ab,3,none⟩ (.slice ra RL.length rc)) ab 181 #[.int .i64 0,.slice z (C.length+1) A,.slice d (V.length+1) y,.slice ra RL.length rc]∧((w2.setCell ⟨ab,2,none⟩ (.slice d (V.length+1) y)).setCell ⟨ab,3,none⟩ (.slice ra RL.length rc)).ownsRow (ab+1) 2 1 (.slice z (C.length+1) A) (C.length+1) ((C++[D]).map (Value.int .i64))∧((w2.setCell ⟨ab,2,none⟩ (.slice d (V.length+1) y)).setCell ⟨ab,3,none⟩ (.slice ra RL.length rc)).ownsRow (ab+1) 2 1 (.slice d (V.length+1) y) (V.length+1) ((V++[J]).map (Value.int .i64))∧((w2.setCell ⟨ab,2,none⟩ (.slice d (V.length+1) y)).setCell ⟨ab,3,none⟩ (.slice ra RL.length rc)).ownsRow mb 187 2 (.slice ra RL.length rc) RL.length (z0h RL)∧Below ab W3 ((w2.setCell ⟨ab,2,none⟩ (.slice d (V.length+1) y)).setCell ⟨ab,3,none⟩ (.slice ra RL.length rc))∧ab+1≤((w2.setCell ⟨ab,2,none⟩ (.slice d (V.length+1) y)).setCell ⟨ab,3,none⟩ (.slice ra RL.length rc)).heap.size):=
     ⟨by simpa using I.set 3 (.slice ra RL.length rc),ownsRow_setCell_below o1 (by dsimp only;omega) _,ownsRow_setCell_below o2 (by dsimp only;omega) _,ownsRow_setCell_below oR (by dsimp only;omega) _,hb.setCell (p:=⟨ab,3,none⟩) (Nat.le_refl _) _,by omega⟩
    clear o1 o2 o3 oR I Bd hb;subst hc
    go_wp2
    go_roundw
    case rel=>
     refine⟨k+1,RL,C++[0],V++[J],z,A,d,y,ra,rc,by omega,by go_num,?_,?_,?_,?_,?_,?_,R.out.2.2.2.2.1,R.out.2.2.2.2.2,ak⟩
     ·simpa using R.out.1
     ·simpa using R.out.2.1
     ·simpa using R.out.2.2.1
     ·exact z0p R.out.2.2.2.1 (by omega)
     ·simpa using a6
     ·intro k hk;have:=am k hk;omega
    case measure=>simp[intOf];omega
   ·have bn:(D==0)=false:=by simp[hc]
    have bd:nx=c:=aD.out hc;have R:Hid (Blk (w2.setCell ⟨ab,2,none⟩ (.slice d (V.length+1) y)) ab 181 #[.int .i64 0,.slice z (C.length+1) A,.slice d (V.length+1) y,.slice ia c.length ic]∧(w2.setCell ⟨ab,2,none⟩ (.slice d (V.length+1) y)).ownsRow (ab+1) 2 1 (.slice z (C.length+1) A) (C.length+1) ((C++[D]).map (Value.int .i64))∧(w2.setCell ⟨ab,2,none⟩ (.slice d (V.length+1) y)).ownsRow (ab+1) 2 1 (.slice d (V.length+1) y) (V.length+1) ((V++[J]).map (Value.int .i64))∧(w2.setCell ⟨ab,2,none⟩ (.slice d (V.length+1) y)).ownsRow T 187 2 (.slice ia c.length ic) c.length (z0h c)∧Apart3 (.slice z (C.length+1) A) (.slice d (V.length+1) y) (.slice ia c.length ic)∧Below ab W3 (w2.setCell ⟨ab,2,none⟩ (.slice d (V.length+1) y))∧ab+1≤(w2.setCell ⟨ab,2,none⟩ (.slice d (V.length+1) y)).heap.size):=⟨I,o1,o2,o3,aL,hb,by omega⟩
    clear o1 o2 o3 oR I Bd hb;subst bd
    go_wp2
    go_roundw
    case rel=>
     refine⟨k+1,nx,C++[D],V++[J],z,A,d,y,ia,ic,by omega,by go_num,?_,?_,?_,R.out.2.2.2.1,?_,ao,R.out.2.2.2.2.2.1,R.out.2.2.2.2.2.2,ak⟩
     ·simpa using R.out.1
     ·simpa using R.out.2.1
     ·simpa using R.out.2.2.1
     ·simpa using R.out.2.2.2.2.1
    case measure=>simp[intOf];omega
  ·have bc:k=ds.length:=by omega
   subst bc;have HE:Hid (eaC xs ds=0∧q3v xs ds=C∧q3w xs ds=V∧eaI xs ds=c):=by
    obtain⟨_,_,g3,g4,g5,_,_⟩:=HG.out;rw[List.drop_length]at g3 g4 g5;obtain⟨e1,e2,e3,e4⟩:=aZ.out;exact⟨e1,by rw[e2,←g4];simp[z4X],by rw[e3,←g5];simp[z4Y],by rw[e4,←g3];rfl⟩
   replace B0:Blk wr _ _ _:=(hb.block _ be).trans B0;obtain⟨p0,p1,p2,p3⟩:=B0.cel4;obtain⟨f0,f1,f2,f3⟩:=B0.frz4;obtain⟨q0,q1,q2,q3⟩:=I.cel4;have bp:=B0.lt;have bb:Below w.heap.size w wr:=aO.trans (hb.mono (by omega));clear B0 I HG
   go_wp2
   refine bodyPost_ret (v:=.agg #[.int .i64 0,.slice ca C.length cc,.slice va V.length vc,.slice ia c.length ic]) (by simp[results,Tryz.results108,go_sem,p0,p1,p2,p3]) rfl ?_;rw[HE.out.1,HE.out.2.1,HE.out.2.2.1,HE.out.2.2.2];refine⟨_,_,_,_,_,_,rfl,⟨OwnS.of ?_,OwnS.of ?_,OwnS.of ?_,ap⟩,?_⟩
   ·refine z0p (base:=ab+1) ?_ (by omega);repeat' (refine ownsRow_setCell_below ?_ (by dsimp only;omega) _)
    exact o1
   ·refine z0p (base:=ab+1) ?_ (by omega);repeat' (refine ownsRow_setCell_below ?_ (by dsimp only;omega) _)
    exact o2
   ·refine z0p (base:=T) ?_ (by omega);repeat' (refine ownsRow_setCell_below ?_ (by dsimp only;omega) _)
    exact o3
   ·repeat' (refine Below.setCell ?_ (by dsimp only;omega) _)
    exact bb
end
theorem q1l:∀ {ds:List TxnD},(∀t∈ds,t.F=0)→allF ds=0
 |[],_=>rfl
 |d::r,h=>by
  rw[allF,if_pos (h d (by simp))];exact q1l (fun t ht=>h t (List.mem_cons_of_mem _ ht))
theorem q4q{ds:List TxnD}(h:∀t∈ds,t.F=0)(hl:ds.length≤60):z7x ds=0:=by
 unfold z7x;rw[if_neg (by omega)];exact q1l h
theorem q3A(c:Int)(a1 a2 a3:Option Addr)(n1 k1 n2 k2 n3 k3:Nat)(w:World):(Instr.field 181 (.agg #[.int .i64 c,.slice a1 n1 k1,.slice a2 n2 k2,.slice a3 n3 k3]) 3).run Tryz.prog w=.ok (.slice a3 n3 k3) w:=by kernel_rfl
theorem z9I(v1 v2:Value)(ps qs:List TxnQ)(w:World)(h1:txnK.At w v1 ps)(h2:txnK.At w v2 qs)(M:∀p∈ps,(TxnQ.e p).F=0)(C:∀p∈qs,(TxnQ.e p).F=0)(ag:ps.length≤40)(ad:qs.length≤40):
  Calls Tryz.prog 85 #[v1,v2] w fun e w'=>∃p:RepQ,e=.returned (.agg #[p.vd,p.vb,p.vt,p.vu,p.vn])∧p.e=mkR (ps.map TxnQ.e) (qs.map TxnQ.e)∧repK.own w' p∧(repK.foot p).Nodup∧(∀k∈repK.foot p,w.heap.size≤k)∧Below w.heap.size w w':=by
 have D:∀t∈ps.map TxnQ.e,t.F=0:=fun t ht=>by obtain⟨p,hp,rfl⟩:=List.mem_map.1 ht;exact M p hp
 have O:∀t∈qs.map TxnQ.e,t.F=0:=fun t ht=>by obtain⟨p,hp,rfl⟩:=List.mem_map.1 ht;exact C p hp
 have N:∀ (l:List TxnQ),(∀p∈l,(TxnQ.e p).F=0)→∀p∈l,0<p.acts.length:=fun l hl p hp=>by
  have:=(z0S (show txnF p.i p.s p.q p.acts=0 from hl p hp)).1;omega
 have m1:=q1g D;have m2:=q1g O;have gD:=z1E (xs:=[]) (by simp) z4c D;have A:=q4q D (by rw[List.length_map];omega);obtain⟨z1,z2,z3,z4⟩:=q4o (xs:=[]) z4Z A;obtain⟨a,cap,rfl⟩:=h1.shape;obtain⟨a',J,rfl⟩:=h2.shape;have c:Below w.heap.size w (w.alloc (.cells #[.slice none 0 0,.slice none 0 0,.slice none 0 0,.slice none 0 0,.slice none 0 0] 73)):=by go_grown
 have Bv:=Blk.new w 73 #[.slice none 0 0,.slice none 0 0,.slice none 0 0,.slice none 0 0,.slice none 0 0];have ah:w.heap.size+1≤(w.alloc (.cells #[.slice none 0 0,.slice none 0 0,.slice none 0 0,.slice none 0 0,.slice none 0 0] 73)).heap.size:=by simp only[World.size_alloc];omega
 have T:=fun w h=>z2Z (.slice a ps.length cap) ps w h (N ps M) (by omega)
 have U:=fun w h=>z2Z (.slice a' qs.length J) qs w h (N qs C) (by omega)
 have I:=fun w h=>q1k none 0 [] (.slice a ps.length cap) (ps.map TxnQ.e) w (Or.inl rfl) (Or.inr ⟨rfl,rfl,rfl⟩) (z0k h) z4Z A
 rw[z1,z2,z3,z4]at I;have hR:=fun(w':World) (hb:Below w.heap.size w w')=>And.intro (h1.below hb) (h2.below hb)
 clear z1 z2 z3 z4 A m1 m2 N h1 h2 O;simp only[List.length_nil]at I;go_enter Tryz.func85,Tryz.ntmps85
 go_wp2_with fail
 have V:=hR _ c;generalize w.alloc (.cells #[.slice none 0 0,.slice none 0 0,.slice none 0 0,.slice none 0 0,.slice none 0 0] 73)=W0 at*;generalize hH:w.heap.size=H at*;refine(T W0 V.1).mono ?_;rintro e w1 ⟨v',q1,rfl,e1,o1,n1,g1,hb⟩;obtain⟨a1,k1,rfl⟩:=o1.shape;have i1:=o1.lt;have s1:=hb.size;replace Bv:=Bv.below hb;replace c:=c.trans (hb.mono (by omega));have W:=hR _ c;clear hb T
 go_wp2_with fail
 refine(U w1 W.2).mono ?_;rintro e w2 ⟨v',q3,rfl,e3,o3,n3,g3,hb⟩;obtain⟨a2,k2,rfl⟩:=o3.shape;have i3:=o3.lt;have s2:=hb.size;replace Bv:=Bv.below hb;replace o1:=o1.below hb;replace c:=c.trans (hb.mono (by omega));have X:=hR _ c;clear hb U
 go_wp2_with fail
 refine(I w2 X.1).mono ?_;rintro e w3 ⟨b1,c1,b2,c2,b3,c3,rfl,hA,hb⟩;obtain⟨oB,gB⟩:=z2g hA.o3;have iB:=z0J oB;have s3:=hb.size;replace Bv:=Bv.below hb;replace o1:=o1.below hb;replace o3:=o3.below hb;replace c:=c.trans (hb.mono (by omega));have ae:=hR _ c;clear hb I hA;have ab:=q3A 0 b1 b2 b3 (z4X [] (ps.map TxnQ.e)).length c1 (z4Y [] (ps.map TxnQ.e)).length c2 (allI [] (ps.map TxnQ.e)).length c3 w3;have d:itemK.Own w3 (.slice b3 (allI [] (ps.map TxnQ.e)).length c3) (allI [] (ps.map TxnQ.e)):=⟨oB,fun _ _=>trivial⟩
 have z:Below w3.heap.size w3 (w3.alloc (.cells #[.slice a1 q1.length k1,.slice b3 (allI [] (ps.map TxnQ.e)).length c3,.slice a2 q3.length k2,.slice none 0 0,.slice none 0 0] 73)):=by go_grown
 have Bg:=Blk.new w3 73 #[.slice a1 q1.length k1,.slice b3 (allI [] (ps.map TxnQ.e)).length c3,.slice a2 q3.length k2,.slice none 0 0,.slice none 0 0];replace Bv:=Bv.below z;replace o1:=o1.below z;replace o3:=o3.below z;replace d:=d.below z;replace c:=c.trans (z.mono (by omega));have Y:=hR _ c;have s4:=z.size;have af:=Bg.lt;have Z:=z9H b3 c3 (allI [] (ps.map TxnQ.e)) (.slice a' qs.length J) qs _ d.at (d.niceV _ _ _ rfl) Y.2 C ad gD.1 gD.2;have x1:=Bg.cell 1 _ rfl
 go_wp2_with fail
 clear ab x1 z oB;generalize aa:w3.alloc (.cells #[.slice a1 q1.length k1,.slice b3 (allI [] (ps.map TxnQ.e)).length c3,.slice a2 q3.length k2,.slice none 0 0,.slice none 0 0] 73)=w4 at*;clear aa;generalize hg:w3.heap.size=g at*;refine Z.mono ?_;rintro e w5 ⟨ua,uc,na,nc,us,ys,rfl,eU,eY,oU,oY,nU,gU,gY,hb⟩;clear Z;have s5:=hb.size;have iU:=oU.lt;have iY:=z0J oY.1;replace Bv:=Bv.below hb;replace Bg:=Bg.below hb;replace o1:=o1.below hb;replace o3:=o3.below hb;replace d:=d.below hb;replace c:=c.trans (hb.mono (by omega));clear hb V W X ae Y hR;have y3:=Bg.cell 3 _ rfl;have y4:=Bg.cell 4 _ rfl;have f3:=Bg.frozen 3;have f4:=Bg.frozen 4;have B2:Blk ((w5.setCell ⟨g,3,none⟩ (.slice ua us.length uc)).setCell ⟨g,4,none⟩ (.slice na ys.length nc)) g 73 #[.slice a1 q1.length k1,.slice b3 (allI [] (ps.map TxnQ.e)).length c3,.slice a2 q3.length k2,.slice ua us.length uc,.slice na ys.length nc]:=by
  have:=(Bg.set 3 (.slice ua us.length uc)).set 4 (.slice na ys.length nc);simpa using this
 have L:=(Bv.other (b':=g) (by omega) 3 (.slice ua us.length uc)).other (b':=g) (by omega) 4 (.slice na ys.length nc);have E:Out [g] w5 ((w5.setCell ⟨g,3,none⟩ (.slice ua us.length uc)).setCell ⟨g,4,none⟩ (.slice na ys.length nc)):=(Out.setCell w5 g 3 _).trans (Out.setCell _ g 4 _);have RF:Hid (∀u0 u1 u2 u3 u4:Value,repK.own (((((((w5.setCell ⟨g,3,none⟩ (.slice ua us.length uc)).setCell ⟨g,4,none⟩ (.slice na ys.length nc)).setCell ⟨H,0,none⟩ u0).setCell ⟨H,1,none⟩ u1).setCell ⟨H,2,none⟩ u2).setCell ⟨H,3,none⟩ u3).setCell ⟨H,4,none⟩ u4) (⟨.slice a1 q1.length k1,q1,.slice b3 (allI [] (ps.map TxnQ.e)).length c3,allI [] (ps.map TxnQ.e),.slice a2 q3.length k2,q3,.slice ua us.length uc,us,.slice na ys.length nc,ys⟩:RepQ)∧Below H w (((((((w5.setCell ⟨g,3,none⟩ (.slice ua us.length uc)).setCell ⟨g,4,none⟩ (.slice na ys.length nc)).setCell ⟨H,0,none⟩ u0).setCell ⟨H,1,none⟩ u1).setCell ⟨H,2,none⟩ u2).setCell ⟨H,3,none⟩ u3).setCell ⟨H,4,none⟩ u4)):=fun u0 u1 u2 u3 u4=>by
  have hS:Out [H] ((w5.setCell ⟨g,3,none⟩ (.slice ua us.length uc)).setCell ⟨g,4,none⟩ (.slice na ys.length nc)) (((((((w5.setCell ⟨g,3,none⟩ (.slice ua us.length uc)).setCell ⟨g,4,none⟩ (.slice na ys.length nc)).setCell ⟨H,0,none⟩ u0).setCell ⟨H,1,none⟩ u1).setCell ⟨H,2,none⟩ u2).setCell ⟨H,3,none⟩ u3).setCell ⟨H,4,none⟩ u4):=((((Out.setCell _ H 0 u0).trans (Out.setCell _ H 1 u1)).trans (Out.setCell _ H 2 u2)).trans (Out.setCell _ H 3 u3)).trans (Out.setCell _ H 4 u4);have hA:Out [g,H] w5 (((((((w5.setCell ⟨g,3,none⟩ (.slice ua us.length uc)).setCell ⟨g,4,none⟩ (.slice na ys.length nc)).setCell ⟨H,0,none⟩ u0).setCell ⟨H,1,none⟩ u1).setCell ⟨H,2,none⟩ u2).setCell ⟨H,3,none⟩ u3).setCell ⟨H,4,none⟩ u4):=(E.mono (fun x hx=>by simp only[List.mem_singleton]at hx;simp[hx])).trans (hS.mono (fun x hx=>by simp only[List.mem_singleton]at hx;simp[hx]));have nn:∀x,x≠g→x≠H→x∉[g,H]:=fun x h1 h2 hm=>by
   simp only[List.mem_cons,List.not_mem_nil,or_false]at hm;omega
  refine⟨⟨o1.out hA (fun x hx=>nn x (by have:=i1 x hx;omega) (by have:=g1 x hx;omega)),d.out hA (fun x hx=>by rw[z0s]at hx;exact nn x (by have:=iB x hx;omega) (by have:=gB x hx;omega)),o3.out hA (fun x hx=>nn x (by have:=i3 x hx;omega) (by have:=g3 x hx;omega)),oU.out hA (fun x hx=>nn x (by have:=(gU x hx).1;omega) (by have:=(gU x hx).1;omega)),oY.out hA (fun x hx=>by rw[z0s]at hx;exact nn x (by have:=gY x hx;omega) (by have:=gY x hx;omega))⟩,?_⟩;refine Out.keep (Out.keep c E (by omega) (fun x hx=>by simp only[List.mem_singleton]at hx;omega)) hS (by have:=E.size;omega) (fun x hx=>by simp only[List.mem_singleton]at hx;omega)
 have R1:Hid ((repK.foot (⟨.slice a1 q1.length k1,q1,.slice b3 (allI [] (ps.map TxnQ.e)).length c3,allI [] (ps.map TxnQ.e),.slice a2 q3.length k2,q3,.slice ua us.length uc,us,.slice na ys.length nc,ys⟩:RepQ)).Nodup∧∀x∈repK.foot (⟨.slice a1 q1.length k1,q1,.slice b3 (allI [] (ps.map TxnQ.e)).length c3,allI [] (ps.map TxnQ.e),.slice a2 q3.length k2,q3,.slice ua us.length uc,us,.slice na ys.length nc,ys⟩:RepQ),H≤x):=by
  have E1:itemK.fp (.slice b3 (allI [] (ps.map TxnQ.e)).length c3) (allI [] (ps.map TxnQ.e))=blk (.slice b3 (allI [] (ps.map TxnQ.e)).length c3):=z0s _ _;have E2:itemK.fp (.slice na ys.length nc) ys=blk (.slice na ys.length nc):=z0s _ _;show List.Nodup (txnK.fp (.slice a1 q1.length k1) q1++(itemK.fp (.slice b3 (allI [] (ps.map TxnQ.e)).length c3) (allI [] (ps.map TxnQ.e))++(txnK.fp (.slice a2 q3.length k2) q3++(ussK.fp (.slice ua us.length uc) us++itemK.fp (.slice na ys.length nc) ys))))∧∀x∈txnK.fp (.slice a1 q1.length k1) q1++(itemK.fp (.slice b3 (allI [] (ps.map TxnQ.e)).length c3) (allI [] (ps.map TxnQ.e))++(txnK.fp (.slice a2 q3.length k2) q3++(ussK.fp (.slice ua us.length uc) us++itemK.fp (.slice na ys.length nc) ys))),H≤x;rw[E1,E2];have bA:∀x∈txnK.fp (.slice a1 q1.length k1) q1,W0.heap.size≤x∧x<w1.heap.size:=fun x hx=>⟨g1 x hx,i1 x hx⟩
  have bC:∀x∈txnK.fp (.slice a2 q3.length k2) q3,w1.heap.size≤x∧x<w2.heap.size:=fun x hx=>⟨g3 x hx,i3 x hx⟩
  have bB:∀x∈blk (.slice b3 (allI [] (ps.map TxnQ.e)).length c3),w2.heap.size≤x∧x<g:=fun x hx=>⟨gB x hx,by have:=iB x hx;omega⟩
  have bU:∀x∈ussK.fp (.slice ua us.length uc) us,w4.heap.size≤x:=fun x hx=>(gU x hx).1
  refine⟨List.nodup_append.2 ⟨n1,List.nodup_append.2 ⟨z0w _,List.nodup_append.2 ⟨n3,List.nodup_append.2 ⟨nU,z0w _,fun x hx y hy e=>(gU x hx).2 (e▸hy)⟩,?_⟩,?_⟩,?_⟩,?_⟩
  ·intro x hx y hy e;have:=bC x hx;rcases List.mem_append.1 hy with hy|hy
   ·have:=bU y hy;omega
   ·have:=gY y hy;omega
  ·intro x hx y hy e;have:=bB x hx;rcases List.mem_append.1 hy with hy|hy
   ·have:=bC y hy;omega
   rcases List.mem_append.1 hy with hy|hy
   ·have:=bU y hy;omega
   ·have:=gY y hy;omega
  ·intro x hx y hy e;have:=bA x hx;rcases List.mem_append.1 hy with hy|hy
   ·have:=bB y hy;omega
   rcases List.mem_append.1 hy with hy|hy
   ·have:=bC y hy;omega
   rcases List.mem_append.1 hy with hy|hy
   ·have:=bU y hy;omega
   ·have:=gY y hy;omega
  ·intro x hx;rcases List.mem_append.1 hx with hx|hx
   ·have:=bA x hx;omega
   rcases List.mem_append.1 hx with hx|hx
   ·have:=bB x hx;omega
   rcases List.mem_append.1 hx with hx|hx
   ·have:=bC x hx;omega
   rcases List.mem_append.1 hx with hx|hx
   ·have:=bU x hx;omega
   ·have:=gY x hx;omega
 have R2:Hid (RepQ.e (⟨.slice a1 q1.length k1,q1,.slice b3 (allI [] (ps.map TxnQ.e)).length c3,allI [] (ps.map TxnQ.e),.slice a2 q3.length k2,q3,.slice ua us.length uc,us,.slice na ys.length nc,ys⟩:RepQ)=mkR (ps.map TxnQ.e) (qs.map TxnQ.e)):=show _=_ by
  simp only[RepQ.e,mkR,e1,e3,eU,eY]
 clear e1 e3 eU eY oU oY nU gU gY iU iY o1 o3 d n1 n3 g1 g3 i1 i3 gB iB E gD D M C;obtain⟨r0,r1,r2,r3,r4⟩:=B2.cel5;obtain⟨z0,z1,z2,z3,z4⟩:=L.cel5;obtain⟨t0,t1,t2,t3,t4⟩:=L.frz5;clear Bg Bv B2 L c
 go_wp2
 exact bodyPost_ret (v:=.agg #[.slice a1 q1.length k1,.slice b3 (allI [] (ps.map TxnQ.e)).length c3,.slice a2 q3.length k2,.slice ua us.length uc,.slice na ys.length nc]) (by simp[results,Tryz.results85,go_sem,z0,z1,z2,z3,z4]) rfl ⟨(⟨.slice a1 q1.length k1,q1,.slice b3 (allI [] (ps.map TxnQ.e)).length c3,allI [] (ps.map TxnQ.e),.slice a2 q3.length k2,q3,.slice ua us.length uc,us,.slice na ys.length nc,ys⟩:RepQ),rfl,R2.out,(RF.out _ _ _ _ _).1,R1.out.1,(by rw[hH];exact R1.out.2),(by rw[hH];exact(RF.out _ _ _ _ _).2)⟩
theorem z7r(i s q:Int)(b d cap:Nat)(zs:List ActD)(w:World)(h:ActRow w (some ⟨b,d,none⟩) zs)(hl:zs.length≤1048576):
  Calls Tryz.prog 32 #[.agg #[.int .i64 i,.int .i64 s,.int .i64 q,.slice (some ⟨b,d,none⟩) zs.length cap]] w fun e w'=>∃a c,e=.returned (.agg #[.int .i64 i,.int .i64 s,.int .i64 q,.slice a zs.length c])∧
   w'.ownsRow w.heap.size 118 3 (.slice a zs.length c) zs.length (z0q zs)∧Below w.heap.size w w':=by
 obtain⟨i0,hi,D,E,I⟩:=info_parts z4g;have hs:=z2R (Lies.below h (w':=((w.alloc (.cells #[.int .i64 i,.int .i64 s,.int .i64 q,.slice (some ⟨b,d,none⟩) zs.length cap] 82)).alloc (.cells #[.int .i64 0,.int .i64 0,.int .i64 0,.slice none 0 0] 82)).alloc (.cells #[] 118)) (by go_grown));have C:=z0r zs;have ho:=World.ownsRow_lit (e:=118) (size:=3) ((w.alloc (.cells #[.int .i64 i,.int .i64 s,.int .i64 q,.slice (some ⟨b,d,none⟩) zs.length cap] 82)).alloc (.cells #[.int .i64 0,.int .i64 0,.int .i64 0,.slice none 0 0] 82)) #[] 0 (Nat.le_refl _) (by decide) rfl;have z:Below w.heap.size w (((w.alloc (.cells #[.int .i64 i,.int .i64 s,.int .i64 q,.slice (some ⟨b,d,none⟩) zs.length cap] 82)).alloc (.cells #[.int .i64 0,.int .i64 0,.int .i64 0,.slice none 0 0] 82)).alloc (.cells #[] 118)):=by go_grown
 have B1:=(Blk.new w 82 #[.int .i64 i,.int .i64 s,.int .i64 q,.slice (some ⟨b,d,none⟩) zs.length cap]).below (w':=((w.alloc (.cells #[.int .i64 i,.int .i64 s,.int .i64 q,.slice (some ⟨b,d,none⟩) zs.length cap] 82)).alloc (.cells #[.int .i64 0,.int .i64 0,.int .i64 0,.slice none 0 0] 82)).alloc (.cells #[] 118)) (by go_grown);have B2:=(Blk.new (w.alloc (.cells #[.int .i64 i,.int .i64 s,.int .i64 q,.slice (some ⟨b,d,none⟩) zs.length cap] 82)) 82 #[.int .i64 0,.int .i64 0,.int .i64 0,.slice none 0 0]).below (w':=((w.alloc (.cells #[.int .i64 i,.int .i64 s,.int .i64 q,.slice (some ⟨b,d,none⟩) zs.length cap] 82)).alloc (.cells #[.int .i64 0,.int .i64 0,.int .i64 0,.slice none 0 0] 82)).alloc (.cells #[] 118)) (by go_grown);have HS:Hid (∀j u,(z0q zs)[j]?=some u→_):=hs;clear hs;simp only[World.size_alloc]at B2 ho;go_enter Tryz.func32,Tryz.ntmps32
 go_wp2_with (at_builtin;refine wpList_append_own _ rfl _ _ 80 rfl (w.heap.size+1+1) 118 i0 (.agg #[.int .i64 0,.int .i64 0,.int .i64 0]) 3 24 Tryz.underlying80 hi D E I rfl (by decide) _ 0 [] rfl ho ⟨b,d,none⟩ zs.length cap (z0q zs) rfl C HS.out ?c2 ?c3 ?c4 ?c5 ?_)
 all_goals try(case c2=>exact z14 zs)
 all_goals try(case c3=>unfold maxLen;omega)
 all_goals try(case c4=>omega)
 all_goals try(case c5=>simp)
 intro v' w2 y x _;obtain⟨a2,c2,rfl⟩:=z0g y;replace B1:=B1.grown x (by simp[Value.ownBlock]<;>omega);replace B2:=B2.grown x (by simp[Value.ownBlock]<;>omega);have A:Below w.heap.size w w2:=z.grown x (by simp;omega) (fun k hk=>by simp[Value.ownBlock]at hk;omega);have J:=B2.lt;obtain⟨p0,p1,p2,p3⟩:=B1.cel4;have pf:=B1.frozen 3;obtain⟨q0,q1,q2,q3⟩:=B2.cel4;obtain⟨f0,f1,f2,f3⟩:=B2.frz4;try simp only[Nat.zero_add]at y
 clear B1 B2 x HS ho z
 go_wp2
 refine bodyPost_ret (v:=.agg #[.int .i64 i,.int .i64 s,.int .i64 q,.slice a2 zs.length c2]) (by simp[results,Tryz.results32,go_sem,q0,q1,q2,q3]) rfl ⟨_,_,rfl,?_,?_⟩
 ·refine z0p (base:=w.heap.size+1+1) ?_ (by omega);repeat' (refine ownsRow_setCell_below ?_ (by dsimp only;omega) _)
  simpa using y
 ·repeat' (refine Below.setCell ?_ (by dsimp only;omega) _)
  exact A
theorem z7s(i s q:Int)(w:World):
  Calls Tryz.prog 32 #[.agg #[.int .i64 i,.int .i64 s,.int .i64 q,.slice none 0 0]] w fun e w'=>∃a c,e=.returned (.agg #[.int .i64 i,.int .i64 s,.int .i64 q,.slice a 0 c])∧
   w'.ownsRow w.heap.size 118 3 (.slice a 0 c) 0 (z0q [])∧Below w.heap.size w w':=by
 obtain⟨i0,hi,hz0,hz1,hz2⟩:=info_parts z4g;have ho:=World.ownsRow_lit (e:=118) (size:=3) ((w.alloc (.cells #[.int .i64 i,.int .i64 s,.int .i64 q,.slice none 0 0] 82)).alloc (.cells #[.int .i64 0,.int .i64 0,.int .i64 0,.slice none 0 0] 82)) #[] 0 (Nat.le_refl _) (by decide) rfl;have hb1:Below w.heap.size w (((w.alloc (.cells #[.int .i64 i,.int .i64 s,.int .i64 q,.slice none 0 0] 82)).alloc (.cells #[.int .i64 0,.int .i64 0,.int .i64 0,.slice none 0 0] 82)).alloc (.cells #[] 118)):=by go_grown
 have B1:=(Blk.new w 82 #[.int .i64 i,.int .i64 s,.int .i64 q,.slice none 0 0]).below (w':=((w.alloc (.cells #[.int .i64 i,.int .i64 s,.int .i64 q,.slice none 0 0] 82)).alloc (.cells #[.int .i64 0,.int .i64 0,.int .i64 0,.slice none 0 0] 82)).alloc (.cells #[] 118)) (by go_grown);have B2:=(Blk.new (w.alloc (.cells #[.int .i64 i,.int .i64 s,.int .i64 q,.slice none 0 0] 82)) 82 #[.int .i64 0,.int .i64 0,.int .i64 0,.slice none 0 0]).below (w':=((w.alloc (.cells #[.int .i64 i,.int .i64 s,.int .i64 q,.slice none 0 0] 82)).alloc (.cells #[.int .i64 0,.int .i64 0,.int .i64 0,.slice none 0 0] 82)).alloc (.cells #[] 118)) (by go_grown);simp only[World.size_alloc]at B2 ho;go_enter Tryz.func32,Tryz.ntmps32
 go_wp2_with (at_builtin;refine wpList_append_own_none rfl _ _ 80 rfl (w.heap.size+1+1) 118 i0 3 Tryz.underlying80 hi _ 0 [] rfl ho rfl ?_)
 have hlt2:=B2.lt;obtain⟨p0,p1,p2,p3⟩:=B1.cel4;have pf:=B1.frozen 3;obtain⟨q0,q1,q2,q3⟩:=B2.cel4;obtain⟨f0,f1,f2,f3⟩:=B2.frz4;clear B1 B2
 go_wp2
 refine bodyPost_ret (v:=.agg #[.int .i64 i,.int .i64 s,.int .i64 q,.slice (some ⟨w.heap.size+1+1,0,none⟩) 0 0]) (by simp[results,Tryz.results32,go_sem]) rfl ⟨_,_,rfl,?_,?_⟩
 ·have h9:=World.ownsRow_lit (e:=118) (size:=3) ((w.alloc (.cells #[.int .i64 i,.int .i64 s,.int .i64 q,.slice (some ⟨w.heap.size+1+1,0,none⟩) 0 0] 82)).alloc (.cells #[.int .i64 i,.int .i64 s,.int .i64 q,.slice (some ⟨w.heap.size+1+1,0,none⟩) 0 0] 82)) #[] 0 (Nat.le_refl _) (by decide) rfl;simp only[World.size_alloc]at h9;exact z0p h9 (by omega)
 ·go_grown
def z7t(p:TxnQ):Prop:=(p.va=.slice none 0 0∧p.acts=[])∨∃b off c,p.va=.slice (some ⟨b,off,none⟩) p.acts.length c
theorem z7u(p:TxnQ)(w:World)(h:txnK.rd w p)(hN:z7t p)(hl:p.acts.length≤1048576):
  Calls Tryz.prog 32 #[.agg #[.int .i64 p.i,.int .i64 p.s,.int .i64 p.q,p.va]] w fun e w'=>∃a c,e=.returned (.agg #[.int .i64 p.i,.int .i64 p.s,.int .i64 p.q,.slice a p.acts.length c])∧
   w'.ownsRow w.heap.size 118 3 (.slice a p.acts.length c) p.acts.length (z0q p.acts)∧Below w.heap.size w w':=by
 obtain⟨i,s,q,va,acts⟩:=p;dsimp only;rcases hN with⟨e1,e2⟩|⟨b,off,c,e1⟩
 ·dsimp only at e1 e2;subst e1 e2;exact z7s i s q w
 ·dsimp only at e1;subst e1;have hT:actK.At w (.slice (some ⟨b,off,none⟩) acts.length c) acts:=h;exact z7r i s q b off c acts w (z0O hT).2 hl
theorem z2z(v:Value)(ps:List TxnQ)(w:World)(h:txnK.At w v ps)(aq:∀p∈ps,z7t p)(hl:ps.length+nmL TxnQ.n ps≤1048576):
  Calls Tryz.prog 84 #[v] w fun e w'=>∃v' qs,e=.returned v'∧qs.map TxnQ.e=ps.map TxnQ.e∧txnK.Own w' v' qs∧(txnK.fp v' qs).Nodup∧(∀k∈txnK.fp v' qs,w.heap.size≤k)∧Below w.heap.size w w':=by
 obtain⟨a,cap,rfl⟩:=h.shape;obtain⟨i0,hi,aw,ax,ay⟩:=info_parts z09;have ho:=World.ownsRow_lit (e:=82) (size:=4) w #[] 0 (Nat.le_refl _) (by decide) rfl;have af:txnK.Own (w.alloc (.cells #[] 82)) (.slice (some ⟨w.heap.size,0,none⟩) 0 0) ([]:List TxnQ):=⟨(z0y ho).1,fun p hp=>by simp at hp⟩
 have ah:Below w.heap.size w (w.alloc (.cells #[] 82)):=by go_grown
 have X:Hid ((txnK.fp (.slice (some ⟨w.heap.size,0,none⟩) 0 0) ([]:List TxnQ)).Nodup∧∀k∈txnK.fp (.slice (some ⟨w.heap.size,0,none⟩) 0 0) ([]:List TxnQ),w.heap.size≤k):=by
  refine⟨?_,?_⟩
  ·simp[Kind.fp,blk,Value.ownBlock]
  ·simp[Kind.fp,blk,Value.ownBlock]
 clear ho;go_enter Tryz.func84,Tryz.ntmps84
 go_wp2
 go_loopw[3,4] (fun v j wr=>∃ (k:Nat) (qs:List TxnQ),k≤ps.length∧j=.int .i64 k∧Hid (qs.map TxnQ.e=(ps.take k).map TxnQ.e)∧txnK.Own wr v qs∧Hid ((txnK.fp v qs).Nodup∧∀k∈txnK.fp v qs,w.heap.size≤k)∧Below w.heap.size w wr) (fun _ j _=>ps.length-(intOf j).toNat)
 case atStart=>exact⟨0,[],Nat.zero_le _,rfl,(rfl:_=_),af,X,ah⟩
 case round=>
  clear X af ah;obtain⟨k,qs,hk,rfl,HE,hO,HN,hb⟩:=hrel;obtain⟨sa,sc,rfl⟩:=hO.shape;have Z:Hid (qs.length=k):=by
   have:=congrArg List.length HE.out;rw[List.length_map,List.length_map,List.length_take]at this;show qs.length=k;omega
  by_cases J:k<ps.length
  ·obtain⟨b,az,rfl,aB,hc,C⟩:=(h.below hb).cell (by decide) k J;have z:∀j x,(txnK.cells ps[k])[j]?=some x→wr.cell? ⟨b,az+k*4+j,none⟩=some x:=hc;have c0:=z 0 (.int .i64 ps[k].i) rfl;have c1:=z 1 (.int .i64 ps[k].s) rfl;have c2:=z 2 (.int .i64 ps[k].q) rfl;have c3:=z 3 (ps[k].va) rfl;have V:=z0W TxnQ.n ps k J;have N:=aq _ (List.getElem_mem J);have Y:Hid (∀p':TxnQ,p'.e=TxnQ.e ps[k]→(qs++[p']).map TxnQ.e=(ps.take (k+1)).map TxnQ.e):=fun p' ar=>by
    rw[List.take_succ_eq_append_getElem J,List.map_append,List.map_append,HE.out,List.map_singleton,List.map_singleton,ar]
   clear hc z;generalize ps[k]=p at*;obtain⟨i,s,q,va,c⟩:=p;replace C:actK.At wr va c:=C;replace V:c.length≤nmL TxnQ.n ps:=V;obtain⟨aa,ac,rfl⟩:=C.shape;dsimp only at c0 c1 c2 c3;have U:=z7u (⟨i,s,q,.slice aa c.length ac,c⟩:TxnQ) wr C N (by dsimp only;omega);dsimp only at U;rw[Nat.add_zero]at c0;clear HE
   go_wp2_with fail
   clear c0 c1 c2 c3;have aA:w.heap.size≤wr.heap.size:=hb.size;refine U.mono ?_;rintro e w2 ⟨a2,c2,rfl,aj,E⟩;have W:=hO.lt;replace hO:=hO.below E;replace hb:=hb.trans (E.mono hb.size);obtain⟨o2,ae⟩:=z0y aj;have hP:txnK.own w2 ⟨i,s,q,.slice a2 c.length c2,c⟩:=⟨o2,fun _ _=>trivial⟩
   have d:∀x∈txnK.foot ⟨i,s,q,.slice a2 c.length c2,c⟩,wr.heap.size≤x:=fun x hx=>ae x (by rw[←z05 (.slice a2 c.length c2) c];exact hx)
   have ad:(txnK.foot ⟨i,s,q,.slice a2 c.length c2,c⟩).Nodup:=by
    show(actK.fp _ _).Nodup;rw[z05];exact z0w _
   have y:Below w2.heap.size w2 (w2.alloc (.cells #[.int .i64 i,.int .i64 s,.int .i64 q,.slice a2 c.length c2] 82)):=by go_grown
   have O:=hO.below y;have ab:=txnK.own_out (F:=[]) hP (Out.of_below y) (fun _ _=>by simp);have I:=hb.trans (y.mono hb.size);clear U aj hO hP ae;have D:=O.1
   go_wp2_with (at_builtin;refine wpList_append_own_at _ rfl _ _ 40 rfl 0 82 i0 (.agg #[.int .i64 0,.int .i64 0,.int .i64 0,.slice none 0 0]) 4 48 Tryz.underlying40 hi aw ax ay rfl (by decide) _ qs.length (txnK.row qs) rfl D ⟨w2.heap.size,0,none⟩ 1 1 [.int .i64 i,.int .i64 s,.int .i64 q,.slice a2 c.length c2] rfl rfl ?c1 ?c2 ?c3 ?c4 ?c5 ?_)
   all_goals try(case c1=>intro j u hj;match j,hj with|0,hj=>simp at hj;subst hj;simp[Addr.add]|1,hj=>simp at hj;subst hj;simp[Addr.add]|2,hj=>simp at hj;subst hj;simp[Addr.add]|3,hj=>simp at hj;subst hj;simp[Addr.add])
   all_goals try(case c2=>intro u hu;simp at hu;rcases hu with rfl|rfl|rfl|rfl<;>rfl)
   all_goals try(case c3=>have:=Z.out;unfold maxLen;omega)
   all_goals try(case c4=>have:=Z.out;omega)
   all_goals try(case c5=>first|omega|simp)
   intro v' w5 M A ai T;clear ai D;rw[show w2.heap.size+1=(w2.alloc (.cells #[.int .i64 i,.int .i64 s,.int .i64 q,.slice a2 c.length c2] 82)).heap.size from(World.size_alloc _ _).symm]at T;generalize au:w2.alloc (.cells #[.int .i64 i,.int .i64 s,.int .i64 q,.slice a2 c.length c2] 82)=WA at*;clear au;have aC:wr.heap.size≤WA.heap.size:=by have:=E.size;have:=y.size;omega
   obtain⟨an,ag,L,ak⟩:=O.snoc HN.out.1 HN.out.2 ab ad (fun x hx av=>by have:=W x av;have:=d x hx;omega) (fun x hx=>by have:=d x hx;omega) I.size M A T;have ao:Below w.heap.size w w5:=Out.keep I ak I.size (fun x hx=>HN.out.2 x (by simp only[Kind.fp,List.mem_append];exact Or.inl hx));have al:Hid ((qs++[(⟨i,s,q,.slice a2 c.length c2,c⟩:TxnQ)]).map TxnQ.e=(ps.take (k+1)).map TxnQ.e):=Y.out _ rfl;have am:Hid ((txnK.fp v' (qs++[(⟨i,s,q,.slice a2 c.length c2,c⟩:TxnQ)])).Nodup∧∀k∈txnK.fp v' (qs++[(⟨i,s,q,.slice a2 c.length c2,c⟩:TxnQ)]),w.heap.size≤k):=⟨ag,L⟩
   clear Y HN W d ad ab O I M A T ak ag L C hb y E V N
   go_wp2
   go_roundw
   case rel=>exact⟨k+1,_,by omega,by go_num,al,an,am,ao⟩
   case measure=>simp[intOf];omega
  ·have ap:k=ps.length:=by omega
   subst ap;have hE:=HE.out;rw[List.take_length]at hE;clear HE
   go_wp2
   go_ret;exact⟨_,qs,rfl,hE,hO,HN.out.1,HN.out.2,hb⟩
theorem z8K{w:World}{p:TxnQ}(h:txnK.own w p):z7t p:=by
 have h:actK.Own w p.va p.acts:=h;rcases h.1.2 with⟨h1,h0⟩|⟨g,cap,cur,h1,_⟩
 ·exact Or.inl ⟨h1,List.eq_nil_of_length_eq_zero h0⟩
 ·exact Or.inr ⟨g,0,cap,h1⟩
theorem q2e{w:World}{base e size n:Nat}{v:Value}{xs:List Value}(h:w.ownsRow base e size v n xs):z51 v:=by
 rcases h.2 with⟨rfl,_⟩|⟨g,cap,cur,rfl,_,_,h1,h2,_⟩
 ·exact⟨Nat.zero_le _,Nat.zero_le _⟩
 ·exact⟨h1,h2⟩
theorem q2A{ps qs:List TxnQ}(h:ps.map TxnQ.e=qs.map TxnQ.e):ps.length+nmL TxnQ.n ps=qs.length+nmL TxnQ.n qs:=by
 have e:∀l:List TxnQ,nmL TxnQ.n l=nmL TxnD.n (l.map TxnQ.e):=fun l=>by simp only[nmL,List.map_map];rfl
 have hl:ps.length=qs.length:=by simpa using congrArg List.length h
 rw[e,e,h,hl]
theorem RecPost.row{w w':World}{vN iN vU iU:Value}{D E:List TxnD}(h:RecPost w w' vN iN vU iU D E){g:Nat}(hg:g<w.heap.size)(cs:Array Value):RecPost w (w'.setRow g cs) vN iN vU iU D E:=by
 obtain⟨ds,us,rb,B0,R,e1,e2,h1,h2⟩:=h;have hO:=z2F w' g cs;have nF:∀ {k},B0≤k→k∉[g]:=fun hk hm=>by simp only[List.mem_singleton]at hm;omega
 have hrb:rb∉[g]:=fun hm=>by simp only[List.mem_singleton]at hm;omega
 exact⟨ds,us,rb,B0,⟨(hO.block rb R.B.lt hrb).trans R.B,z0L R.oN hO (fun k hk=>nF (R.lN k hk)),R.aN,z0L R.oU hO (fun k hk=>nF (R.lU k hk)),fun p hp=>⟨(R.aU p hp).1,(R.aU p hp).2.out hO (fun k hk=>by rw[z0U]at hk;exact nF (R.d3 p hp k hk).1)⟩,R.jN.out hO (fun k hk=>by rw[z0s]at hk;exact nF (R.d1 k hk).1),R.jU.out hO (fun k hk=>by rw[z0s]at hk;exact nF (R.d2 k hk).1),R.nu,R.lN,R.lU,R.d1,R.d2,R.d3⟩,e1,e2,h1,h2⟩
def nodF(ds:List InstE)(kn sf:Int)(r:RepE):Int:=
 if ordF ds=0 then(if(0≤kn∧kn≤(decN ds:Int))∧0≤sf∧sf≤kn then(if repF r=0 then(if sameTs r.done (defL ds kn.toNat)=true then 0 else 8)else repF r)else 3)else ordF ds
theorem z8L(ds:List InstE)(kn sf:Int)(r:RepE):(ordF ds≠0∧nodF ds kn sf r=ordF ds)∨(ordF ds=0∧¬(0≤kn∧kn≤(decN ds:Int))∧nodF ds kn sf r=3)∨
  (ordF ds=0∧(0≤kn∧kn≤(decN ds:Int))∧¬(0≤sf∧sf≤kn)∧nodF ds kn sf r=3)∨(ordF ds=0∧(0≤kn∧kn≤(decN ds:Int))∧(0≤sf∧sf≤kn)∧repF r≠0∧nodF ds kn sf r=repF r)∨
  (ordF ds=0∧(0≤kn∧kn≤(decN ds:Int))∧(0≤sf∧sf≤kn)∧repF r=0∧sameTs r.done (defL ds kn.toNat)=false∧nodF ds kn sf r=8)∨
  (ordF ds=0∧(0≤kn∧kn≤(decN ds:Int))∧(0≤sf∧sf≤kn)∧repF r=0∧sameTs r.done (defL ds kn.toNat)=true∧nodF ds kn sf r=0):=by
 unfold nodF;by_cases h0:ordF ds=0
 ·by_cases h1:0≤kn∧kn≤(decN ds:Int)
  ·by_cases h2:0≤sf∧sf≤kn
   ·by_cases h3:repF r=0
    ·cases h4:sameTs r.done (defL ds kn.toNat)<;>simp[h0,h1,h2,h3]
    ·simp[h0,h1,h2,h3]
   ·have h12:¬((0≤kn∧kn≤(decN ds:Int))∧0≤sf∧sf≤kn):=fun h=>h2 h.2
    right;right;left;exact⟨h0,h1,h2,by rw[if_pos h0,if_neg h12]⟩
  ·have h12:¬((0≤kn∧kn≤(decN ds:Int))∧0≤sf∧sf≤kn):=fun h=>h1 h.1
   right;left;exact⟨h0,h1,by rw[if_pos h0,if_neg h12]⟩
 ·left;exact⟨h0,by rw[if_neg h0]⟩
theorem q3B{ds:List InstE}(h:ordF ds=0)(m:Nat):(defL ds m).length≤16:=by
 have h1:=z56 (z3m (ds.take m)) [];have h2:=q0S (ds:=ds.take m) (fun x hx=>z2G h x (List.mem_of_mem_take hx));have h3:=((z2b ds).1 h).1.2;have h4:(ds.take m).length≤ds.length:=by rw[List.length_take];omega
 simp only[List.length_nil,Nat.zero_add]at h1;unfold defL;omega
def z1S(ds:List InstE):List NodeE→Int
 |[]=>0
 |n::r=>if nodF ds n.kn n.sf n.rep=0 then z1S ds r else nodF ds n.kn n.sf n.rep
def z1W(c:CluE):Int:=if ordF c.ord=0 then(if c.mem.length=3 then z1S c.ord c.mem else 2)else ordF c.ord
theorem z8M(ds:List InstE)(ns:List NodeE)(k:Nat)(h:k<ns.length)(hb:nodF ds ns[k].kn ns[k].sf ns[k].rep≠0):z1S ds (ns.drop k)=nodF ds ns[k].kn ns[k].sf ns[k].rep:=by
 rw[List.drop_eq_getElem_cons h,z1S,if_neg hb]
theorem z7v(ds:List InstE)(ns:List NodeE)(k:Nat)(h:k<ns.length)(hb:nodF ds ns[k].kn ns[k].sf ns[k].rep=0):z1S ds (ns.drop k)=z1S ds (ns.drop (k+1)):=by
 rw[List.drop_eq_getElem_cons h,z1S,if_pos hb]
theorem z8N(ds:List InstE)(ns:List NodeE)(k:Nat)(h:ns.length≤k):z1S ds (ns.drop k)=0:=by
 rw[List.drop_eq_nil_of_le h,z1S]
theorem q3C{p q:RepQ}(h:p.e=q.e):p.n=q.n:=by
 have e1:∀l:List USQ,nmL USQ.n l=nmL List.length (l.map USQ.e):=fun l=>by simp only[nmL,List.map_map];rfl
 have e2:∀l:List TxnQ,nmL TxnQ.n l=nmL TxnD.n (l.map TxnQ.e):=fun l=>by simp only[nmL,List.map_map];rfl
 simp only[RepQ.e,RepE.mk.injEq]at h;obtain⟨h0,h1,h2,h3,h4⟩:=h;have l0:=congrArg List.length h0;have l2:=congrArg List.length h2;have l3:=congrArg List.length h3;simp only[List.length_map]at l0 l2 l3;simp only[RepQ.n,e1,e2,h0,h1,h2,h3,h4,l0,l2,l3]
theorem q2f{p q:NodeQ}(h:p.e=q.e):p.n=q.n:=q3C (congrArg NodeE.rep h)
theorem z8O{α β:Type}(e:α→β)(n:α→Nat)(hn:∀a b,e a=e b→n a=n b)(ps qs:List α)(h:ps.map e=qs.map e):ps.length+nmL n ps=qs.length+nmL n qs:=by
 induction ps generalizing qs with
 |nil=>
  cases qs with
  |nil=>rfl
  |cons p r=>simp at h
 |cons q s ih=>
  cases qs with
  |nil=>simp at h
  |cons p r=>
   simp only[List.map_cons,List.cons.injEq]at h;have h1:=ih r h.2;have h2:=hn q p h.1;simp only[nmL,List.map_cons,List.sum_cons,List.length_cons]at h1⊢;omega
theorem q4r{p q:CluQ}(h:p.e=q.e):p.n=q.n:=by
 simp only[CluQ.e,CluE.mk.injEq]at h;have a:=z8O InstQ.e InstQ.n (fun _ _=>q35) _ _ h.1;have b:=z8O NodeQ.e NodeQ.n (fun _ _=>q2f) _ _ h.2;simp only[CluQ.n];omega
end Go.Proofs.YtljbililjlafcaaGreatDoor
