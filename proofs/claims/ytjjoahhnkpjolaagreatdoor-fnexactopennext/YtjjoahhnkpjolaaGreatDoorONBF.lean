import Derived.Test.YtjjoahhnkpjolaaGreatDoorONBE
set_option linter.unusedVariables false
set_option linter.unusedSimpArgs false
set_option maxRecDepth 100000
set_option maxHeartbeats 16000000
namespace Go.Proofs.YtjjoahhnkpjolaaGreatDoor
open Go.RowKit Go.BigFrame
open TxnQ renaming e->o
open List renaming length_map->f
open IntKind renaming i64->Q
open Value renaming int->l,slice->G
open Go.Proofs.Tryz
structure Wrp (P:Prop):Prop where
 out:P
def misC(c:Int):Value:=if c=0 then .nilIface else .iface 202 (.agg #[l Q c])
theorem q1C(c:Int)(w:World)(hg:ErrT w):Calls Tryz.prog 83 #[misC c] w fun e w'=>e=.returned (l Q c)∧Below w.heap.size w w':=by
 unfold misC;by_cases h:c=0
 ·rw[if_pos h,h];exact q1m w
 ·rw[if_neg h];exact q1n c w hg
def q3l(p:RepQ)(w:World)(e:Ending)(w':World):Prop:=∃ (a0 a1 a2 a3:Option Addr) (l0 c0 l1 c1 l2 c2 l3 c3:Nat),e=.returned (.tuple #[.agg #[G a0 l0 c0,G a1 l1 c1,G a2 l2 c2,G a3 l3 c3],misC (repF p.e)])∧(repF p.e=0→∃w1,Below w.heap.size w w1∧RecPost w1 w' (G a0 l0 c0) (G a1 l1 c1) (G a2 l2 c2) (G a3 l3 c3) (p.done.map o) (p.tent.map o))∧Below w.heap.size w w'
theorem q3m{p:RepQ}{w w':World}{c:Int}{a0 a1 a2 a3:Option Addr}{l0 c0 l1 c1 l2 c2 l3 c3:Nat}(h:repF p.e=c)(hne:c≠0)(hb:Below w.heap.size w w'):q3l p w (.returned (.tuple #[.agg #[G a0 l0 c0,G a1 l1 c1,G a2 l2 c2,G a3 l3 c3],.iface 202 (.agg #[l Q c])])) w':=
 ⟨a0,a1,a2,a3,l0,c0,l1,c1,l2,c2,l3,c3,by rw[h,show misC c=.iface 202 (.agg #[l Q c])from if_neg hne],fun h0=>absurd (h.symm.trans h0) hne,hb⟩
theorem q6Q{p:RepQ}{w w1 w':World}{a0 a1 a2 a3:Option Addr}{l0 c0 l1 c1 l2 c2 l3 c3:Nat}(h:repF p.e=0)(h1:Below w.heap.size w w1)(hp:RecPost w1 w' (G a0 l0 c0) (G a1 l1 c1) (G a2 l2 c2) (G a3 l3 c3) (p.done.map o) (p.tent.map o))(hb:Below w.heap.size w w'):q3l p w (.returned (.tuple #[.agg #[G a0 l0 c0,G a1 l1 c1,G a2 l2 c2,G a3 l3 c3],.nilIface])) w':=
 ⟨a0,a1,a2,a3,l0,c0,l1,c1,l2,c2,l3,c3,by rw[h];rfl,fun _=>⟨w1,h1,hp⟩,hb⟩
theorem RecPost.below{w w' w'':World}{vN iN vU iU:Value}{D E:List TxnD}(h:RecPost w w' vN iN vU iU D E)(hb:Below w'.heap.size w' w''):RecPost w w'' vN iN vU iU D E:=by
 obtain⟨ds,us,rb,B0,R,r⟩:=h;exact⟨ds,us,rb,B0,R.below hb,r⟩
theorem z9Y(p:RepQ)(w:World)(h:repK.rd w p)(nd:z4D p.vd)(nt:z4D p.vt)(hl:p.n≤1048576):
  Calls Tryz.prog 82 #[.agg #[p.vd,p.vb,p.vt,p.vu,p.vn]] w (q3l p w):=by
 obtain⟨au,pd,ar,pb,aw,pt,ax,pu,av,pn⟩:=p;obtain⟨p0,p5,rfl⟩:∃a c,au=G a pd.length c:=h.1.shape;obtain⟨p1,p6,rfl⟩:∃a c,ar=G a pb.length c:=h.2.1.shape;obtain⟨p2,p7,rfl⟩:∃a c,aw=G a pt.length c:=h.2.2.1.shape;obtain⟨p3,p8,rfl⟩:∃a c,ax=G a pu.length c:=h.2.2.2.1.shape;obtain⟨p4,p9,rfl⟩:∃a c,av=G a pn.length c:=h.2.2.2.2.shape;dsimp only[RepQ.n]at hl;have n0:=nd _ _ _ rfl;have n2:=nt _ _ _ rfl;have HW:=True.intro;have hr:=fun(w':World) hb=>repK.rd_below (w':=w') h hb
 have O:Hid (z4D (G p0 pd.length p5)∧z4D (G p2 pt.length p7)):=⟨nd,nt⟩
 clear n0 n2 nd nt h HW;have d:Below w.heap.size w ((w.alloc (.cells #[G p0 pd.length p5,G p1 pb.length p6,G p2 pt.length p7,G p3 pu.length p8,G p4 pn.length p9] 56)).alloc (.cells #[G none 0 0,G none 0 0,G none 0 0,G none 0 0] 149)):=by go_grown
 have B:=(Blk.new w 56 #[G p0 pd.length p5,G p1 pb.length p6,G p2 pt.length p7,G p3 pu.length p8,G p4 pn.length p9]).below (w':=((w.alloc (.cells #[G p0 pd.length p5,G p1 pb.length p6,G p2 pt.length p7,G p3 pu.length p8,G p4 pn.length p9] 56)).alloc (.cells #[G none 0 0,G none 0 0,G none 0 0,G none 0 0] 149))) (by go_grown);have Bv:=Blk.new (w.alloc (.cells #[G p0 pd.length p5,G p1 pb.length p6,G p2 pt.length p7,G p3 pu.length p8,G p4 pn.length p9] 56)) 149 #[G none 0 0,G none 0 0,G none 0 0,G none 0 0];rw[World.size_alloc]at Bv;have aq:w.heap.size+2≤((w.alloc (.cells #[G p0 pd.length p5,G p1 pb.length p6,G p2 pt.length p7,G p3 pu.length p8,G p4 pn.length p9] 56)).alloc (.cells #[G none 0 0,G none 0 0,G none 0 0,G none 0 0] 149)).heap.size:=by simp only[World.size_alloc];omega
 have aD:(pd.length:Int)≤1048576:=by omega
 have aE:(pt.length:Int)≤1048576:=by omega
 have q0:=B.cell 0 _ rfl;have q2:=B.cell 2 _ rfl;go_enter func82,ntmps82;by_cases hm:16<pd.length∨8<pt.length
 ·have HC:Hid (repF (RepQ.e (⟨G p0 pd.length p5,pd,G p1 pb.length p6,pb,G p2 pt.length p7,pt,G p3 pu.length p8,pu,G p4 pn.length p9,pn⟩:RepQ))=2):=show _=_ from z7O (by simpa[RepQ.e]using hm)
  clear hr O;by_cases aA:16<pd.length
  focus
   have an:(16:Int)<(pd.length:Int):=by omega
  rotate_left
  focus
   have an:¬(16:Int)<(pd.length:Int):=by omega
   have i8:(8:Int)<(pt.length:Int):=by omega
  rotate_left
  all_goals
   obtain⟨z0,z1,z2,z3⟩:=Bv.cel4;obtain⟨y0,y1,y2,y3⟩:=Bv.frz4;have HB:Hid (∀u0 u1 u2 u3:Value,Below w.heap.size w ((((((w.alloc (.cells #[G p0 pd.length p5,G p1 pb.length p6,G p2 pt.length p7,G p3 pu.length p8,G p4 pn.length p9] 56)).alloc (.cells #[G none 0 0,G none 0 0,G none 0 0,G none 0 0] 149)).setCell ⟨w.heap.size+1,0,none⟩ u0).setCell ⟨w.heap.size+1,1,none⟩ u1).setCell ⟨w.heap.size+1,2,none⟩ u2).setCell ⟨w.heap.size+1,3,none⟩ u3)):=fun u0 u1 u2 u3=>(((d.setCell (p:=⟨w.heap.size+1,0,none⟩) (by show w.heap.size≤w.heap.size+1;omega) u0).setCell (p:=⟨w.heap.size+1,1,none⟩) (by show w.heap.size≤w.heap.size+1;omega) u1).setCell (p:=⟨w.heap.size+1,2,none⟩) (by show w.heap.size≤w.heap.size+1;omega) u2).setCell (p:=⟨w.heap.size+1,3,none⟩) (by show w.heap.size≤w.heap.size+1;omega) u3
   go_wp2
   exact bodyPost_ret (v:=.tuple #[.agg #[G none 0 0,G none 0 0,G none 0 0,G none 0 0],.iface 202 (.agg #[l Q 2])]) (by simp[results,results82,go_sem,z0,z1,z2,z3]) rfl (q3m HC.out (by first|decide|exact V) d)
 have an:¬(16:Int)<(pd.length:Int):=by omega
 have i8:¬(8:Int)<(pt.length:Int):=by omega
 have az:pd.length≤16:=by omega
 have aC:pt.length≤8:=by omega
 have C:¬(16<(pd.map o).length∨8<(pt.map o).length):=by simpa using hm
 have z:Below ((w.alloc (.cells #[G p0 pd.length p5,G p1 pb.length p6,G p2 pt.length p7,G p3 pu.length p8,G p4 pn.length p9] 56)).alloc (.cells #[G none 0 0,G none 0 0,G none 0 0,G none 0 0] 149)).heap.size ((w.alloc (.cells #[G p0 pd.length p5,G p1 pb.length p6,G p2 pt.length p7,G p3 pu.length p8,G p4 pn.length p9] 56)).alloc (.cells #[G none 0 0,G none 0 0,G none 0 0,G none 0 0] 149)) (((w.alloc (.cells #[G p0 pd.length p5,G p1 pb.length p6,G p2 pt.length p7,G p3 pu.length p8,G p4 pn.length p9] 56)).alloc (.cells #[G none 0 0,G none 0 0,G none 0 0,G none 0 0] 149)).alloc (.cells #[G p0 pd.length p5,G p2 pt.length p7] 52)):=by go_grown
 have BC:=Blk.new ((w.alloc (.cells #[G p0 pd.length p5,G p1 pb.length p6,G p2 pt.length p7,G p3 pu.length p8,G p4 pn.length p9] 56)).alloc (.cells #[G none 0 0,G none 0 0,G none 0 0,G none 0 0] 149)) 52 #[G p0 pd.length p5,G p2 pt.length p7];simp only[World.size_alloc]at BC;have ak:=z9V (w.heap.size+1+1) 2 (G p0 pd.length p5) (G p2 pt.length p7) pd pt (((w.alloc (.cells #[G p0 pd.length p5,G p1 pb.length p6,G p2 pt.length p7,G p3 pu.length p8,G p4 pn.length p9] 56)).alloc (.cells #[G none 0 0,G none 0 0,G none 0 0,G none 0 0] 149)).alloc (.cells #[G p0 pd.length p5,G p2 pt.length p7] 52)) BC.lt (BC.cell 0 _ rfl) (BC.cell 1 _ rfl) ((hr _ (d.trans (z.mono d.size))).1) ((hr _ (d.trans (z.mono d.size))).2.2.1) O.out.1 O.out.2 (by omega);have ag:=Wrp.mk ak;have HR:=Wrp.mk hr;have HM:=Wrp.mk C;clear ak hr hm C O
 go_wp2_with fail
 clear q0 q2;have hr:=HR.out;have C:=HM.out;clear HR HM;replace B:=B.below z;replace Bv:=Bv.below z;replace d:=d.trans (z.mono d.size);have aH:w.heap.size+2≤(((w.alloc (.cells #[G p0 pd.length p5,G p1 pb.length p6,G p2 pt.length p7,G p3 pu.length p8,G p4 pn.length p9] 56)).alloc (.cells #[G none 0 0,G none 0 0,G none 0 0,G none 0 0] 149)).alloc (.cells #[G p0 pd.length p5,G p2 pt.length p7] 52)).heap.size:=by have:=z.size;omega
 clear z BC aq;generalize ((w.alloc (.cells #[G p0 pd.length p5,G p1 pb.length p6,G p2 pt.length p7,G p3 pu.length p8,G p4 pn.length p9] 56)).alloc (.cells #[G none 0 0,G none 0 0,G none 0 0,G none 0 0] 149)).alloc (.cells #[G p0 pd.length p5,G p2 pt.length p7] 52)=X at*;generalize hH:w.heap.size=H at*;refine ag.out.mono ?_;rintro e w2 ⟨vc,rfl,oc,I⟩;clear ag;replace B:=B.below I;replace Bv:=Bv.below I;replace d:=d.trans (I.mono (by omega));have aI:=I.size;have ad:txnK.At w2 vc (pd ++ pt):=Kind.at_of_row oc (fun q hq=>by
  have h2:=hr w2 d;rcases List.mem_append.1 hq with hq|hq
  ·exact h2.1.rdm hq
  ·exact h2.2.2.1.rdm hq)
 have M:=z4v vc (pd ++ pt) w2 ad (by
  have e:nmL TxnQ.n (pd++pt)=nmL TxnQ.n pd+nmL TxnQ.n pt:=by simp[nmL]
  rw[List.length_append,e];omega)
 obtain⟨ca,ck,rfl⟩:=ad.shape;clear ad oc I;rw[List.map_append,List.length_append]at M;by_cases hL:lstF (pd.map o++pt.map o)=0
 case neg=>
  have V:=hL;have HC:Hid (repF (RepQ.e (⟨G p0 pd.length p5,pd,G p1 pb.length p6,pb,G p2 pt.length p7,pt,G p3 pu.length p8,pu,G p4 pn.length p9,pn⟩:RepQ))=lstF (pd.map o++pt.map o)):=show _=_ from z7P (r:=⟨pd.map o,pb,pt.map o,pu.map USQ.e,pn⟩) C hL
  clear hr C;generalize lstF (pd.map o++pt.map o)=c at*;have aB:(c !=0)=true:=by simpa using V
  go_wp2_with fail
  refine M.mono ?_;rintro e w3 ⟨rfl,x⟩;replace Bv:=Bv.below x;replace d:=d.trans (x.mono (by omega));obtain⟨z0,z1,z2,z3⟩:=Bv.cel4;obtain⟨y0,y1,y2,y3⟩:=Bv.frz4;have HB:Hid (∀u0 u1 u2 u3:Value,Below H w ((((w3.setCell ⟨H+1,0,none⟩ u0).setCell ⟨H+1,1,none⟩ u1).setCell ⟨H+1,2,none⟩ u2).setCell ⟨H+1,3,none⟩ u3)):=fun u0 u1 u2 u3=>(((d.setCell (p:=⟨H+1,0,none⟩) (by show H≤H+1;omega) u0).setCell (p:=⟨H+1,1,none⟩) (by show H≤H+1;omega) u1).setCell (p:=⟨H+1,2,none⟩) (by show H≤H+1;omega) u2).setCell (p:=⟨H+1,3,none⟩) (by show H≤H+1;omega) u3
  go_wp2
  exact bodyPost_ret (v:=.tuple #[.agg #[G none 0 0,G none 0 0,G none 0 0,G none 0 0],.iface 202 (.agg #[l Q c])]) (by simp[results,results82,go_sem,z0,z1,z2,z3]) rfl (q3m HC.out (by first|decide|exact V) (by rw[hH];exact HB.out _ _ _ _))
 have y:=q5G hL;have T:∀t∈pd.map o,t.F=0:=fun t ht=>y t (List.mem_append_left _ ht)
 have U:∀t∈pt.map o,t.F=0:=fun t ht=>y t (List.mem_append_right _ ht)
 have gD:=z1J (xs:=[]) (by simp) z4b T;have gE:=z1J gD.1 gD.2 U;have N:=z7Q (r:=⟨pd.map o,pb,pt.map o,pu.map USQ.e,pn⟩) C hL;dsimp only at N;rw[hL]at M;clear hL y C
 go_wp2_with fail
 refine M.mono ?_;rintro e w3 ⟨rfl,x⟩;replace B:=B.below x;replace Bv:=Bv.below x;replace d:=d.trans (x.mono (by omega));have aJ:=x.size;have ai:=d;clear x M;have al:=hr w3 d;have ab:=z8W (G p0 pd.length p5) (G p2 pt.length p7) pd pt w3 al.1 al.2.2.1 (fun q hq=>T _ (List.mem_map_of_mem hq)) (fun q hq=>U _ (List.mem_map_of_mem hq)) (by omega) (by omega);have q0:=B.cell 0 _ rfl;have q2:=B.cell 2 _ rfl
 go_wp2_with fail
 clear q0 q2;refine ab.mono ?_;rintro e w4 ⟨vN,iN,vU,iU,rfl,hP,E⟩;clear ab;replace B:=B.below E;replace Bv:=Bv.below E;have W:=E;replace d:=d.trans (E.mono (by omega));have aK:=E.size;obtain⟨ds,us,rb,B0,R,eD,eE,Z,aa⟩:=hP;obtain⟨na,nc,rfl⟩:=z0f R.oN;obtain⟨ua,uc,rfl⟩:=z0f R.oU;obtain⟨ia,ic,rfl⟩:=R.jN.shape;obtain⟨ja,jc,rfl⟩:=R.jU.shape;generalize D:allI [] (pd.map o)=xs at*;generalize ae:allI xs (pt.map o)=ys at*;have A:Below w4.heap.size w4 (w4.alloc (.cells #[G na ds.length nc,G ia xs.length ic,G ua us.length uc,G ja ys.length jc] 149)):=by go_grown
 have BR:=Blk.new w4 149 #[G na ds.length nc,G ia xs.length ic,G ua us.length uc,G ja ys.length jc];replace R:=R.below A;replace B:=B.below A;replace Bv:=Bv.below A;replace d:=d.trans (A.mono (by omega));have J:=W.trans (A.mono (by omega));have aL:=A.size;have ay:=BR.lt
 go_wp2_with fail
 clear A E W;generalize hY:w4.alloc (.cells #[G na ds.length nc,G ia xs.length ic,G ua us.length uc,G ja ys.length jc] 149)=Y at*;clear hY;generalize aF:w4.heap.size=rg at*;have ah:RecPost w3 Y (G na ds.length nc) (G ia xs.length ic) (G ua us.length uc) (G ja ys.length jc) (pd.map o) (pt.map o):=⟨ds,us,rb,B0,by rw[D,ae];exact R,eD,by rw[D];exact eE,Z,aa⟩
 have am:=hr Y d;obtain⟨f0,f1,f2,f3⟩:=BR.lts4;obtain⟨k0,k1,k2,k3,k4⟩:=B.lts5;have hW:Below Y.heap.size Y Y.drew:=(Below.refl _ _).drew;have ap:Nonempty (Lat Y):=⟨⟨Y,Below.refl _ _⟩⟩
 refine z0d (S:=fun w'=>∃u:Lat Y,w'=u.val) (by kernel_rfl) ?_;refine sgr [(0,1),(2,1)] 3 (by kernel_rfl) ⟨⟨_,hW⟩,rfl⟩ ?_;simp only[pkE];repeat go_big_quiet_step (fail)
 refine wpQuiet_nil ?_;refine cla 1 (some 38) 134 #[.agg #[G na ds.length nc,G ia xs.length ic,G ua us.length uc,G ja ys.length jc]] 2 (by kernel_rfl) ?_;refine(z9X w3 _ _ _ _ (pd.map o) (pt.map o) _ (ah.below hW) (J.trans (hW.mono J.size)) T U (by rw[f];omega) (by rw[f];omega) (by rw[D];exact gD.1) (by rw[D,ae];exact gE.1) (by rw[D];exact gD.2)).mono ?_;rintro e w9 ⟨r,rfl,er,ao,_,_,L⟩;replace hW:=hW.trans (L.mono hW.size);clear L;have rr:=repK.own_rd ao;have aG:=z7S er T U (by rw[f];omega) (by rw[f];omega);clear ao;refine⟨_,rfl,⟨⟨_,hW⟩,rfl⟩,?_⟩;simp only[Act.put,pjE];refine cla 3 (some 40) 133 #[.agg #[r.vd,r.vb,r.vt,r.vu,r.vn],.agg #[G p0 pd.length p5,G p1 pb.length p6,G p2 pt.length p7,G p3 pu.length p8,G p4 pn.length p9]] 1 (by kernel_rfl) ?_;refine(z3g r (⟨G p0 pd.length p5,pd,G p1 pb.length p6,pb,G p2 pt.length p7,pt,G p3 pu.length p8,pu,G p4 pn.length p9,pn⟩:RepQ) _ rr (repK.rd_below am hW) (by omega) (by dsimp only[RepQ.n];omega)).mono ?_;rintro e af ⟨rfl,L⟩;replace hW:=hW.trans (L.mono hW.size);clear L rr;rw[er];dsimp only[RepQ.e];refine⟨_,rfl,⟨⟨_,hW⟩,rfl⟩,?_⟩;simp only[Act.put,pjE];refine sgr [(4,1)] 0 (by kernel_rfl) ⟨⟨_,hW⟩,rfl⟩ ?_;simp only[pkE];repeat go_big_quiet_step (fail)
 refine wpQuiet_nil ?_;refine z0h (by kernel_rfl) ?_;clear f0 f1 f2 f3 k0 k1 k2 k3 k4 ap am er;replace BR:=BR.below hW;replace Bv:=Bv.below hW;replace R:=R.below hW;replace d:=d.trans (hW.mono (by omega));have aM:=hW.size;clear ah J
 cases hS:sameRep (mkR (pd.map o) (pt.map o)) ⟨pd.map o,pb,pt.map o,pu.map USQ.e,pn⟩with
 |false=>
  rw[hS]at N;have HC:Hid (repF (RepQ.e (⟨G p0 pd.length p5,pd,G p1 pb.length p6,pb,G p2 pt.length p7,pt,G p3 pu.length p8,pu,G p4 pn.length p9,pn⟩:RepQ))=8):=N;clear hW;obtain⟨z0,z1,z2,z3⟩:=Bv.cel4;obtain⟨y0,y1,y2,y3⟩:=Bv.frz4;have HB:Hid (∀u0 u1 u2 u3:Value,Below H w ((((af.setCell ⟨H+1,0,none⟩ u0).setCell ⟨H+1,1,none⟩ u1).setCell ⟨H+1,2,none⟩ u2).setCell ⟨H+1,3,none⟩ u3)):=fun u0 u1 u2 u3=>(((d.setCell (p:=⟨H+1,0,none⟩) (by show H≤H+1;omega) u0).setCell (p:=⟨H+1,1,none⟩) (by show H≤H+1;omega) u1).setCell (p:=⟨H+1,2,none⟩) (by show H≤H+1;omega) u2).setCell (p:=⟨H+1,3,none⟩) (by show H≤H+1;omega) u3
  go_wp2
  exact bodyPost_ret (v:=.tuple #[.agg #[G none 0 0,G none 0 0,G none 0 0,G none 0 0],.iface 202 (.agg #[l Q 8])]) (by simp[results,results82,go_sem,z0,z1,z2,z3]) rfl (q3m HC.out (by first|decide|exact V) (by rw[hH];exact HB.out _ _ _ _))
 |true=>
  rw[hS]at N;have HC:Hid (repF (RepQ.e (⟨G p0 pd.length p5,pd,G p1 pb.length p6,pb,G p2 pt.length p7,pt,G p3 pu.length p8,pu,G p4 pn.length p9,pn⟩:RepQ))=0):=N;clear hW;obtain⟨z0,z1,z2,z3⟩:=Bv.cel4;obtain⟨y0,y1,y2,y3⟩:=Bv.frz4;obtain⟨x0,x1,x2,x3⟩:=BR.cel4;have HB:Hid (∀ u0 u1 u2 u3:Value,Below H w ((((af.setCell ⟨H + 1,0,none⟩ u0).setCell ⟨H + 1,1,none⟩ u1).setCell ⟨H + 1,2,none⟩ u2).setCell ⟨H + 1,3,none⟩ u3)∧RecPost w3 ((((af.setCell ⟨H + 1,0,none⟩ u0).setCell ⟨H + 1,1,none⟩ u1).setCell ⟨H + 1,2,none⟩ u2).setCell ⟨H + 1,3,none⟩ u3) (G na ds.length nc) (G ia xs.length ic) (G ua us.length uc) (G ja ys.length jc) (pd.map o) (pt.map o)):=fun u0 u1 u2 u3=>⟨(((d.setCell (p:=⟨H + 1,0,none⟩) (by show H≤H + 1;omega) u0).setCell (p:=⟨H + 1,1,none⟩) (by show H≤H + 1;omega) u1).setCell (p:=⟨H + 1,2,none⟩) (by show H≤H + 1;omega) u2).setCell (p:=⟨H + 1,3,none⟩) (by show H≤H + 1;omega) u3,⟨ds,us,rb,B0,by
   rw[D,ae];exact (((R.other (by omega) (by omega) 0 u0).other (by omega) (by omega) 1 u1).other (by omega) (by omega) 2 u2).other (by omega) (by omega) 3 u3,eD,by rw [D];exact eE,Z,aa⟩⟩
  have aj:Below H w w3:=ai;clear R Bv BR d
  go_wp2
  exact bodyPost_ret (v:=.tuple #[.agg #[G na ds.length nc,G ia xs.length ic,G ua us.length uc,G ja ys.length jc],.nilIface]) (by simp[results,results82,go_sem,z0,z1,z2,z3]) rfl (q6Q HC.out (by rw[hH];exact aj) (HB.out _ _ _ _).2 (by rw[hH];exact(HB.out _ _ _ _).1))
theorem z3j(p:RepQ)(w:World)(hg:ErrT w)(h:repK.rd w p)(nd:z4D p.vd)(nt:z4D p.vt)(hl:p.n≤1048576):
  Calls Tryz.prog 48 #[.agg #[p.vd,p.vb,p.vt,p.vu,p.vn]] w fun e w'=>e=.returned (l Q (repF p.e))∧Below w.heap.size w w':=by
 have z:=fun w h=>z9Y p w h nd nt hl
 have hr:=fun(w':World) hb=>repK.rd_below (w':=w') h hb
 obtain⟨L,pd,J,pb,N,pt,O,pu,M,pn⟩:=p;obtain⟨p0,p5,rfl⟩:∃a c,L=G a pd.length c:=h.1.shape;obtain⟨p1,p6,rfl⟩:∃a c,J=G a pb.length c:=h.2.1.shape;obtain⟨p2,p7,rfl⟩:∃a c,N=G a pt.length c:=h.2.2.1.shape;obtain⟨p3,p8,rfl⟩:∃a c,O=G a pu.length c:=h.2.2.2.1.shape;obtain⟨p4,p9,rfl⟩:∃a c,M=G a pn.length c:=h.2.2.2.2.shape;dsimp only at z hr;have d:Below w.heap.size w (w.alloc (.cells #[G p0 pd.length p5,G p1 pb.length p6,G p2 pt.length p7,G p3 pu.length p8,G p4 pn.length p9] 56)):=by go_grown
 have B:=Blk.new w 56 #[G p0 pd.length p5,G p1 pb.length p6,G p2 pt.length p7,G p3 pu.length p8,G p4 pn.length p9];obtain⟨q0,q1,q2,q3,q4⟩:=B.cel5;go_enter func48,ntmps48
 go_wp2_with fail
 clear q0 q1 q2 q3 q4 B;have D:=hg.below d;have I:=hr _ d;generalize w.alloc (.cells #[G p0 pd.length p5,G p1 pb.length p6,G p2 pt.length p7,G p3 pu.length p8,G p4 pn.length p9] 56)=W at*;refine(z W I).mono ?_;rintro e w2 ⟨a0,a1,a2,a3,l0,c0,l1,c1,l2,c2,l3,c3,rfl,_,x⟩;replace d:=d.trans (x.mono d.size);have E:=D.below x;have y:Below w2.heap.size w2 (w2.alloc (.cells #[G a0 l0 c0,G a1 l1 c1,G a2 l2 c2,G a3 l3 c3] 149)):=by go_grown
 have A:=q1C (repF (RepQ.e (⟨G p0 pd.length p5,pd,G p1 pb.length p6,pb,G p2 pt.length p7,pt,G p3 pu.length p8,pu,G p4 pn.length p9,pn⟩:RepQ))) _ (E.below y);replace d:=d.trans (y.mono d.size);dsimp only[RepQ.e]at A⊢;generalize repF _=c at*;generalize misC c=m at*
 go_wp2_with fail
 refine A.mono ?_;rintro e w4 ⟨rfl,C⟩;replace d:=d.trans (C.mono d.size)
 go_wp2
 go_ret;exact⟨rfl,d⟩
theorem q3n(ds:List TxnD)(xs:List ItemD)(t:TxnD):z6y xs (ds++[t])=z6y xs ds++[z0Q (allI xs ds) t.acts]:=by
 unfold z6y;rw[z3d,List.map_append];rfl
theorem q1D(ia:Option Addr)(ic:Nat)(xs:List ItemD)(v:Value)(ts:List TxnQ)(w:World)(h:itemK.At w (G ia xs.length ic) xs)(hN:z8S ia xs.length ic)(ht:txnK.At w v ts)(hF:∀p∈ts,(o p).F=0)(hl:ts.length≤40)(h8:xs.length≤8)(g:Good xs):
  Calls Tryz.prog 161 #[G ia xs.length ic,v] w fun e w'=>∃ (ua:Option Addr) (uc:Nat) (na:Option Addr) (nc:Nat) (us:List USQ) (ys:List ItemD),e=.returned (.tuple #[G ua us.length uc,G na ys.length nc])∧us.map USQ.e=z6y xs (ts.map o)∧ys=allI xs (ts.map o)∧ussK.Own w' (G ua us.length uc) us∧itemK.Own w' (G na ys.length nc) ys∧(ussK.fp (G ua us.length uc) us).Nodup∧(∀k∈ussK.fp (G ua us.length uc) us,w.heap.size≤k∧k∉blk (G na ys.length nc))∧(∀k∈blk (G na ys.length nc),w.heap.size≤k)∧Below w.heap.size w w':=by
 obtain⟨a,cap,rfl⟩:=ht.shape;obtain⟨i0,hi,bb,bc,bd⟩:=info_parts z2j;obtain⟨j0,hj,a7,a8,ba⟩:=info_parts z2T;have ay:Below w.heap.size w ((w.alloc (.cells #[] 175)).alloc (.cells #[] 173)):=by go_grown
 have oU:=World.ownsRow_lit (e:=175) (size:=1) w #[] 0 (Nat.le_refl _) (by decide) rfl;have aL:Below (w.alloc (.cells #[] 175)).heap.size (w.alloc (.cells #[] 175)) ((w.alloc (.cells #[] 175)).alloc (.cells #[] 173)):=by go_grown
 have aS:=z0c oU aL;have oI:=World.ownsRow_lit (e:=173) (size:=2) (w.alloc (.cells #[] 175)) #[] 0 (Nat.le_refl _) (by decide) rfl;simp only[World.size_alloc]at oI;obtain⟨_,_,e1,l1,_⟩:=h.below ay;simp only[Value.slice.injEq,true_and]at e1;obtain⟨rfl,rfl⟩:=e1;have x1:([]:List ItemD).length+xs.length≤maxLen:=by unfold maxLen;rw[List.length_nil];omega
 have x2:(([]:List ItemD).length+xs.length)*16≤140737488355328:=by rw[List.length_nil];omega
 have aR:w.heap.size+1≤((w.alloc (.cells #[] 175)).alloc (.cells #[] 173)).heap.size:=by simp only[World.size_alloc];omega
 have bh:(ts.length:Int)≤40:=by omega
 have bf:(xs.length:Int)≤8:=by omega
 go_enter func161,ntmps161
 go_wp2_with (at_builtin;refine z1m (K:=itemK) _ rfl _ _ 53 rfl i0 (.agg #[l Q 0,l Q 0]) 16 Tryz.underlying53 hi bb bc bd rfl (by decide) (w.heap.size+1) _ [] rfl oI _ xs _ rfl l1 (z2t xs) hN x1 x2 aR ?_)
 intro v' w2 A d;try simp only[List.nil_append]at A
 have aK:Below w.heap.size w w2:=ay.grown d (by omega) (fun k hk=>by have:=(oI.lt k hk).1;omega);have aT:=aS.kept d (Or.inr (by simp[Value.ownBlock]));obtain⟨a2,c2,rfl⟩:=z0f A;obtain⟨o2,k2⟩:=z0y A;obtain⟨u2,m2⟩:=z0y aT;clear d oI l1 A oU aS aT ay aL x1 x2 aR;have aJ:ussK.Own w2 (G (some ⟨w.heap.size,0,none⟩) 0 0) ([]:List USQ):=⟨u2,fun p hp=>by simp at hp⟩
 have aI:itemK.Own w2 (G a2 xs.length c2) xs:=⟨o2,fun _ _=>trivial⟩
 have aH:ussK.fp (G (some ⟨w.heap.size,0,none⟩) 0 0) ([]:List USQ)=[w.heap.size]:=by simp[Kind.fp,blk,Value.ownBlock]
 have aE:Hid ((ussK.fp (G (some ⟨w.heap.size,0,none⟩) 0 0) ([]:List USQ)).Nodup∧(∀k∈ussK.fp (G (some ⟨w.heap.size,0,none⟩) 0 0) ([]:List USQ),w.heap.size≤k∧k∉blk (G a2 xs.length c2))∧∀k∈blk (G a2 xs.length c2),w.heap.size≤k):=by
  rw[aH];refine⟨by simp,fun k hk=>?_,fun k hk=>by have:=k2 k hk;omega⟩;simp only[List.mem_singleton]at hk;subst hk;exact⟨Nat.le_refl _,fun e=>by have:=k2 _ e;omega⟩
 have aD:Hid (([]:List USQ).map USQ.e=z6y xs ((ts.map o).take 0)∧xs=allI xs ((ts.map o).take 0)∧xs.length≤8∧Good xs):=⟨rfl,rfl,h8,g⟩
 clear o2 k2 u2 m2 aH h8 g
 go_wp2
 go_loopw[6,7,8] (fun vu vn j wr=>∃ (k:Nat) (us:List USQ) (ys:List ItemD),k≤ts.length∧j=l Q k∧ussK.Own wr vu us∧itemK.Own wr vn ys∧Hid (us.map USQ.e=z6y xs ((ts.map o).take k)∧ys=allI xs ((ts.map o).take k)∧ys.length≤8∧Good ys)∧Hid ((ussK.fp vu us).Nodup∧(∀x∈ussK.fp vu us,w.heap.size≤x∧x∉blk vn)∧∀x∈blk vn,w.heap.size≤x)∧Below w.heap.size w wr) (fun _ _ j _=>ts.length-(intOf j).toNat)
 case atStart=>exact⟨0,[],xs,Nat.zero_le _,rfl,aJ,aI,aD,aE,aK⟩
 case round=>
  clear aJ aI aD aE aK;obtain⟨k,us,ys,hk,rfl,hO,hI,HD,HN,hb⟩:=hrel;obtain⟨sa,sc,rfl⟩:=hO.shape;obtain⟨ya,yc,rfl⟩:=hI.shape;have aF:Hid (us.length≤40):=by
   have:=congrArg List.length HD.out.1;rw[f,z6y,f,z8X,List.length_take]at this;show us.length≤40;omega
  by_cases az:k<ts.length
  ·obtain⟨b,aA,rfl,bg,aM,ab⟩:=(ht.below hb).cell (by decide) k az;have Y:∀j x,(txnK.cells ts[k])[j]?=some x→wr.cell? ⟨b,aA+k*4+j,none⟩=some x:=aM;have c0:=Y 0 (l Q ts[k].i) rfl;have c1:=Y 1 (l Q ts[k].s) rfl;have aq:=Y 2 (l Q ts[k].q) rfl;have c3:=Y 3 (ts[k].va) rfl;rw[Nat.add_zero]at c0;have ar:=hF ts[k] (List.getElem_mem az);have ao:=q3g ts k az;have aP:(k:Int)<(ts.length:Int):=by omega
   clear aM Y;generalize ts[k]=p at*;obtain⟨i,s,q,va,c⟩:=p;replace ab:actK.At wr va c:=ab;obtain⟨ta,tc,rfl⟩:=ab.shape;dsimp only[o]at c0 c1 aq c3 ar ao;have aG:Box4 wr b (aA+k*4) (l Q i) (l Q s) (l Q q) (G ta c.length tc):=⟨c0,c1,aq,c3⟩
   have aN:=q4g ya yc ys b (aA+k*4) i s q ta tc c wr (z05 hI.at).2 (hI.niceV _ _ _ rfl) aG (z0Z ab).2 HD.out.2.2.1 HD.out.2.2.2 ar;have an:Hid (∀p':USQ,p'.us=z0Q ys c→(us++[p']).map USQ.e=z6y xs ((ts.map o).take (k+1))∧nextI ys ⟨i,s,q,c⟩=allI xs ((ts.map o).take (k+1))∧(nextI ys ⟨i,s,q,c⟩).length≤8∧Good (nextI ys ⟨i,s,q,c⟩)):=fun p' aZ=>by
    obtain⟨d1,d2,d3,d4⟩:=HD.out;have g:=z1B d3 d4 ar;rw[ao,q3n,z4a,←d2,List.map_append,d1];exact⟨by rw[←aZ];rfl,rfl,g.1,g.2⟩
   have J:=q5D (xs:=ys) (t:=⟨i,s,q,c⟩);dsimp only at J;clear c0 c1 aq c3 aG ab ao
   go_wp2_with fail
   refine aN.mono ?_;rintro e w5 ⟨ub,uc,jb,jc,rfl,hU,T⟩;clear aN;obtain⟨ou,lu⟩:=z2R hU.o1;obtain⟨oi,li⟩:=z2R hU.o2;have ax:=hU.ap;have aW:∀x∈blk (.slice jb (runR ys c).length jc),x<w5.heap.size:=z0D oi;clear hU;have N:=hO.lt;have al:∀x∈blk (G ya ys.length yc),x<wr.heap.size:=z0D hI.1;have bk:=hb.size;replace hO:=hO.below T;replace hI:=hI.below T;replace hb:=hb.trans (T.mono hb.size);have bi:=T.size;have D:Below w5.heap.size w5 (w5.alloc (.cells #[l Q (z0z ys c).1,l Q (runV ys c),.slice ub (z0Q ys c).length uc,.slice jb (runR ys c).length jc] 251)):=by go_grown
   have BR:=Blk.new w5 251 #[l Q (z0z ys c).1,l Q (runV ys c),.slice ub (z0Q ys c).length uc,.slice jb (runR ys c).length jc];have r2:=BR.cell 2 _ rfl;have I:Below (w5.alloc (.cells #[l Q (z0z ys c).1,l Q (runV ys c),.slice ub (z0Q ys c).length uc,.slice jb (runR ys c).length jc] 251)).heap.size (w5.alloc (.cells #[l Q (z0z ys c).1,l Q (runV ys c),.slice ub (z0Q ys c).length uc,.slice jb (runR ys c).length jc] 251)) ((w5.alloc (.cells #[l Q (z0z ys c).1,l Q (runV ys c),.slice ub (z0Q ys c).length uc,.slice jb (runR ys c).length jc] 251)).alloc (.cells #[.slice ub (z0Q ys c).length uc] 175)):=by go_grown
   have aj:=BR.below I;have be:=BR.lt;have ag:=(hO.below D).below I;have av:=(hI.below D).below I;have aV:undoK.Own w5 (.slice ub (z0Q ys c).length uc) (z0Q ys c):=⟨ou,fun _ _=>trivial⟩
   have aU:itemK.Own w5 (.slice jb (runR ys c).length jc) (runR ys c):=⟨oi,fun _ _=>trivial⟩
   have aw:ussK.own _ (⟨.slice ub (z0Q ys c).length uc,z0Q ys c⟩:USQ):=(Kind.Own.below (Kind.Own.below aV D) I)
   have aB:=Kind.Own.below (Kind.Own.below aU D) I;clear aV aU;have X:=(hb.trans (D.mono (by omega))).trans (I.mono (by have:=D.size;omega));have bj:w5.heap.size+2≤((w5.alloc (.cells #[l Q (z0z ys c).1,l Q (runV ys c),.slice ub (z0Q ys c).length uc,.slice jb (runR ys c).length jc] 251)).alloc (.cells #[.slice ub (z0Q ys c).length uc] 175)).heap.size:=by simp only[World.size_alloc];omega
   have ad:=ag.1;clear hO hI ou oi I hb
   go_wp2_with (at_builtin;refine wpList_append_own_at _ rfl _ _ 54 rfl 0 175 j0 (G none 0 0) 1 24 Tryz.underlying54 hj a7 a8 ba rfl (by decide) _ us.length (ussK.row us) rfl ad ⟨w5.heap.size+1,0,none⟩ 1 1 [.slice ub (z0Q ys c).length uc] rfl rfl ?c1 ?c2 ?c3 ?c4 ?c5 ?_)
   all_goals try(case c1=>intro j u hj;match j,hj with|0,hj=>simp at hj;subst hj;simp[Addr.add])
   all_goals try(case c2=>intro u hu;simp at hu;subst hu;rfl)
   all_goals try(case c3=>have:=aF.out;unfold maxLen;omega)
   all_goals try(case c4=>have:=aF.out;omega)
   all_goals try(case c5=>first|omega|simp)
   intro v' w6 A d aQ W;clear aQ ad r2;rw[show w5.heap.size+1+1=((w5.alloc (.cells #[l Q (z0z ys c).1,l Q (runV ys c),.slice ub (z0Q ys c).length uc,.slice jb (runR ys c).length jc] 251)).alloc (.cells #[.slice ub (z0Q ys c).length uc] 175)).heap.size from by simp only[World.size_alloc]]at W;generalize a1:(w5.alloc (.cells #[l Q (z0z ys c).1,l Q (runV ys c),.slice ub (z0Q ys c).length uc,.slice jb (runR ys c).length jc] 251)).alloc (.cells #[.slice ub (z0Q ys c).length uc] 175)=WA at*;clear a1;have C:∀x∈ussK.foot (⟨.slice ub (z0Q ys c).length uc,z0Q ys c⟩:USQ),wr.heap.size≤x:=fun x hx=>by
    have V:x∈undoK.fp (.slice ub (z0Q ys c).length uc) (z0Q ys c):=hx;rw[z0K]at V;exact lu x V
   obtain⟨O,Z,E,U⟩:=ag.snoc HN.out.1 (fun x hx=>(HN.out.2.1 x hx).1) aw (by show(undoK.fp _ _).Nodup;rw[z0K];exact z0t _) (fun x hx V=>by have:=N x V;have:=C x hx;omega) (fun x hx=>by have:=C x hx;omega) X.size A d W;have ah:Below w.heap.size w w6:=Out.keep X U X.size (fun x hx=>(HN.out.2.1 x (by simp only[Kind.fp,List.mem_append];exact Or.inl hx)).1);obtain⟨a6,c6,rfl⟩:=O.shape;have L:∀x∈ussK.fp (.slice a6 (us++[(⟨.slice ub (z0Q ys c).length uc,z0Q ys c⟩:USQ)]).length c6) (us++[(⟨.slice ub (z0Q ys c).length uc,z0Q ys c⟩:USQ)]),x∈ussK.fp (G sa us.length sc) us∨x∈blk (.slice ub (z0Q ys c).length uc)∨w5.heap.size+1<x:=fun x hx=>by
    simp only[Kind.fp,List.mem_append,List.flatMap_append,List.flatMap_cons,List.flatMap_nil,List.append_nil]at hx;rcases hx with hx|hx|hx
    ·rcases z3G (B0:=0) (H:=WA.heap.size) (v:=G sa us.length sc) (by rcases W with h|h;exact Or.inl h;exact Or.inr ⟨_,h,Nat.le_refl _⟩) hx with e|e
     ·exact Or.inl (by simp only[Kind.fp,List.mem_append];exact Or.inl e)
     ·exact Or.inr (Or.inr (by omega))
    ·exact Or.inl (by simp only[Kind.fp,List.mem_append];exact Or.inr hx)
    ·refine Or.inr (Or.inl ?_);have V:x∈undoK.fp (.slice ub (z0Q ys c).length uc) (z0Q ys c):=hx
     rwa [z0K]at V
   have aa:=aB.out U (fun x hx e=>by
    rw[z0q]at hx;have:=li x hx;have:=N x (by simp only[Kind.fp,List.mem_append];exact Or.inl e);omega)
   have au:=av.out U (fun x hx e=>by
    rw[z0q]at hx;exact (HN.out.2.1 x (by simp only [Kind.fp,List.mem_append];exact Or.inl e)).2 hx)
   have ae:=aj.outs8 U (fun e=>by have:=N _ (show w5.heap.size∈ussK.fp (G sa us.length sc) us by simp only[Kind.fp,List.mem_append];exact Or.inl e);omega);have n0:=ae.cell 0 _ rfl;have n3:=ae.cell 3 _ rfl;have af:=an.out ⟨.slice ub (z0Q ys c).length uc,z0Q ys c⟩ rfl;have aC:∀x∈blk (.slice jb (runR ys c).length jc),x<w5.heap.size:=fun x hx=>aW x hx
   have ai:∀x∈blk (.slice jb (runR ys c).length jc),x∉ussK.fp (.slice a6 (us++[(⟨.slice ub (z0Q ys c).length uc,z0Q ys c⟩:USQ)]).length c6) (us++[(⟨.slice ub (z0Q ys c).length uc,z0Q ys c⟩:USQ)]):=fun x hx hm=>by
    rcases L x hm with e|e|e
    ·have:=N x e;have:=li x hx;omega
    ·rcases ax with h0|h0
     ·unfold blk at e;rw[h0]at e;simp at e
     ·unfold blk at e hx;apply h0
      cases hu:(Value.slice ub (z0Q ys c).length uc).ownBlock with
      |none=>rw[hu]at e;simp at e
      |some y=>
       cases hv:(Value.slice jb (runR ys c).length jc).ownBlock with
       |none=>rw[hv]at hx;simp at hx
       |some z=>
        rw[hu]at e;rw[hv]at hx;simp only[Option.toList,List.mem_singleton]at e hx;rw[←e,←hx]
    ·have:=aC x hx;omega
   have M:∀x∈blk (G ya ys.length yc),x∉ussK.fp (.slice a6 (us++[(⟨.slice ub (z0Q ys c).length uc,z0Q ys c⟩:USQ)]).length c6) (us++[(⟨.slice ub (z0Q ys c).length uc,z0Q ys c⟩:USQ)]):=fun x hx hm=>by
    have bl:=al x hx;rcases L x hm with e|e|e
    ·exact(HN.out.2.1 x e).2 hx
    ·have:=lu x e;omega
    ·omega
   have aO:(us++[(⟨.slice ub (z0Q ys c).length uc,z0Q ys c⟩:USQ)]).length=us.length+1:=by simp
   rw[aO]at O Z E ai M⊢;by_cases hc:(z0z ys c).1=0
   ·rw[if_pos hc]at J;have ak:Hid ((us++[(⟨.slice ub (z0Q ys c).length uc,z0Q ys c⟩:USQ)]).map USQ.e=z6y xs ((ts.map o).take (k+1))∧runR ys c=allI xs ((ts.map o).take (k+1))∧(runR ys c).length≤8∧Good (runR ys c)):=by rw[←J];exact af
    have am:Hid ((ussK.fp (G a6 (us.length+1) c6) (us++[(⟨.slice ub (z0Q ys c).length uc,z0Q ys c⟩:USQ)])).Nodup∧(∀x∈ussK.fp (G a6 (us.length+1) c6) (us++[(⟨.slice ub (z0Q ys c).length uc,z0Q ys c⟩:USQ)]),w.heap.size≤x∧x∉blk (.slice jb (runR ys c).length jc))∧∀x∈blk (.slice jb (runR ys c).length jc),w.heap.size≤x):=⟨Z,fun x hx=>⟨E x hx,fun e=>ai x e hx⟩,fun x hx=>by have:=li x hx;omega⟩
    have HR:Hid (_∧_∧_):=⟨O,aa,ah⟩
    have aX:((z0z ys c).1==0)=true:=by simpa using hc
    clear O aa ah au av aB aw ag A d W U HN HD an af ai M L C BR aj ae X T N al li lu Z E aC ax J D
    go_wp2
    go_roundw
    case rel=>exact⟨k+1,_,_,by omega,by go_num,HR.out.1,HR.out.2.1,ak,am,HR.out.2.2⟩
    case measure=>simp[intOf];omega
   ·rw[if_neg hc]at J;have ak:Hid ((us++[(⟨.slice ub (z0Q ys c).length uc,z0Q ys c⟩:USQ)]).map USQ.e=z6y xs ((ts.map o).take (k+1))∧ys=allI xs ((ts.map o).take (k+1))∧ys.length≤8∧Good ys):=by
     have:=af;rw[J]at this;exact this
    have am:Hid ((ussK.fp (G a6 (us.length+1) c6) (us++[(⟨.slice ub (z0Q ys c).length uc,z0Q ys c⟩:USQ)])).Nodup∧(∀x∈ussK.fp (G a6 (us.length+1) c6) (us++[(⟨.slice ub (z0Q ys c).length uc,z0Q ys c⟩:USQ)]),w.heap.size≤x∧x∉blk (G ya ys.length yc))∧∀x∈blk (G ya ys.length yc),w.heap.size≤x):=⟨Z,fun x hx=>⟨E x hx,fun e=>M x e hx⟩,HN.out.2.2⟩
    have HR:Hid (_∧_∧_):=⟨O,au,ah⟩
    have aX:((z0z ys c).1==0)=false:=by simpa using hc
    clear O aa ah au av aB aw ag A d W U HN HD an af ai M L C BR aj ae X T N al li lu Z E aC ax J D
    go_wp2
    go_roundw
    case rel=>exact⟨k+1,_,_,by omega,by go_num,HR.out.1,HR.out.2.1,ak,am,HR.out.2.2⟩
    case measure=>simp[intOf];omega
  ·have aY:k=ts.length:=by omega
   subst aY;have aP:¬((ts.length:Int)<(ts.length:Int)):=by omega
   obtain⟨d1,d2,_,_⟩:=HD.out;rw[List.take_of_length_le (by simp)]at d1 d2;have HP:Hid (_∧_):=⟨d1,d2⟩
   clear HD d1 d2
   go_wp2
   exact bodyPost_ret (v:=.tuple #[G sa us.length sc,G ya ys.length yc]) (by simp[results,results161,go_sem]) rfl ⟨sa,sc,ya,yc,us,ys,rfl,HP.out.1,HP.out.2,hO,hI,HN.out.1,HN.out.2.1,HN.out.2.2,hb⟩
section
open Go.Maps
theorem q0A{s t:Value}(h:∀g,s.ownBlock=some g→t.ownBlock=some g→False):s.ownBlock=none∨s.ownBlock≠t.ownBlock:=by
 cases e:s.ownBlock with
 |none=>exact Or.inl rfl
 |some g=>right;intro k;exact h g e k.symm
theorem Blk.otherG{w:World}{b g j:Nat}{t:TypeId}{cs:Array Value}{u:Value}(h:Blk w b t cs)(hne:b≠g):Blk (w.setCell ⟨g,j,none⟩ u) b t cs:=by
 unfold Blk at h⊢;rw[Below.heap_setCell _ _ _ _ (by dsimp only;omega)];exact h
end
end Go.Proofs.YtjjoahhnkpjolaaGreatDoor
