/- Texts joined,with what the laws reach alone. -/
import Derived.Test.YtlkpdgjnhkjpjaaGreatDoorSCBB
set_option linter.unusedVariables false
set_option linter.unusedSimpArgs false
set_option maxRecDepth 100000
set_option maxHeartbeats 16000000
namespace Go.Proofs.YtlkpdgjnhkjpjaaGreatDoor
open Go.RowKit Go.BigFrame
structure Wrp (P:Prop):Prop where
 out:P
def misC(c:Int):Value:=if c=0 then .nilIface else .iface 219 (.agg #[.int .i64 c])
theorem q0U(c:Int)(w:World)(hg:ErrT w):Calls Tryz.prog 102 #[misC c] w fun e w'=>e=.returned (.int .i64 c)∧Below w.heap.size w w':=by
 unfold misC;by_cases h:c=0
 ·rw[if_pos h,h];exact q0H w
 ·rw[if_neg h];exact q0I c w hg
def q2x(p:RepQ)(w:World)(e:Ending)(w':World):Prop:=∃ (a0 a1 a2 a3:Option Addr) (l0 c0 l1 c1 l2 c2 l3 c3:Nat),e=.returned (.tuple #[.agg #[.slice a0 l0 c0,.slice a1 l1 c1,.slice a2 l2 c2,.slice a3 l3 c3],misC (repF p.e)])∧(repF p.e=0→∃w1,Below w.heap.size w w1∧RecPost w1 w' (.slice a0 l0 c0) (.slice a1 l1 c1) (.slice a2 l2 c2) (.slice a3 l3 c3) (p.done.map TxnQ.e) (p.tent.map TxnQ.e))∧Below w.heap.size w w'
theorem q2y{p:RepQ}{w w':World}{c:Int}{a0 a1 a2 a3:Option Addr}{l0 c0 l1 c1 l2 c2 l3 c3:Nat}(h:repF p.e=c)(hne:c≠0)(hb:Below w.heap.size w w'):q2x p w (.returned (.tuple #[.agg #[.slice a0 l0 c0,.slice a1 l1 c1,.slice a2 l2 c2,.slice a3 l3 c3],.iface 219 (.agg #[.int .i64 c])])) w':=
 ⟨a0,a1,a2,a3,l0,c0,l1,c1,l2,c2,l3,c3,by rw[h,show misC c=.iface 219 (.agg #[.int .i64 c])from if_neg hne],fun h0=>absurd (h.symm.trans h0) hne,hb⟩
theorem q57{p:RepQ}{w w1 w':World}{a0 a1 a2 a3:Option Addr}{l0 c0 l1 c1 l2 c2 l3 c3:Nat}(h:repF p.e=0)(h1:Below w.heap.size w w1)(hp:RecPost w1 w' (.slice a0 l0 c0) (.slice a1 l1 c1) (.slice a2 l2 c2) (.slice a3 l3 c3) (p.done.map TxnQ.e) (p.tent.map TxnQ.e))(hb:Below w.heap.size w w'):q2x p w (.returned (.tuple #[.agg #[.slice a0 l0 c0,.slice a1 l1 c1,.slice a2 l2 c2,.slice a3 l3 c3],.nilIface])) w':=
 ⟨a0,a1,a2,a3,l0,c0,l1,c1,l2,c2,l3,c3,by rw[h];rfl,fun _=>⟨w1,h1,hp⟩,hb⟩
theorem RecPost.below{w w' w'':World}{vN iN vU iU:Value}{D E:List TxnD}(h:RecPost w w' vN iN vU iU D E)(hb:Below w'.heap.size w' w''):RecPost w w'' vN iN vU iU D E:=by
 obtain⟨ds,us,rb,B0,R,r⟩:=h;exact⟨ds,us,rb,B0,R.below hb,r⟩
theorem z9u(p:RepQ)(w:World)(h:repK.rd w p)(nd:z4c p.vd)(nt:z4c p.vt)(hl:p.n≤1048576):
  Calls Tryz.prog 113 #[.agg #[p.vd,p.vb,p.vt,p.vu,p.vn]] w (q2x p w):=by
 obtain⟨aw,pd,av,pb,ay,pt,az,pu,ax,pn⟩:=p;obtain⟨p0,p5,rfl⟩:∃a c,aw=.slice a pd.length c:=h.1.shape;obtain⟨p1,p6,rfl⟩:∃a c,av=.slice a pb.length c:=h.2.1.shape;obtain⟨p2,p7,rfl⟩:∃a c,ay=.slice a pt.length c:=h.2.2.1.shape;obtain⟨p3,p8,rfl⟩:∃a c,az=.slice a pu.length c:=h.2.2.2.1.shape;obtain⟨p4,p9,rfl⟩:∃a c,ax=.slice a pn.length c:=h.2.2.2.2.shape;dsimp only[RepQ.n]at hl;have n0:=nd _ _ _ rfl;have n2:=nt _ _ _ rfl;have HW:=True.intro;have hr:=fun(w':World) hb=>repK.rd_below (w':=w') h hb
 have U:Hid (z4c (.slice p0 pd.length p5)∧z4c (.slice p2 pt.length p7)):=⟨nd,nt⟩
 clear n0 n2 nd nt h HW;have d:Below w.heap.size w ((w.alloc (.cells #[.slice p0 pd.length p5,.slice p1 pb.length p6,.slice p2 pt.length p7,.slice p3 pu.length p8,.slice p4 pn.length p9] 29)).alloc (.cells #[.slice none 0 0,.slice none 0 0,.slice none 0 0,.slice none 0 0] 157)):=by go_grown
 have B:=(Blk.new w 29 #[.slice p0 pd.length p5,.slice p1 pb.length p6,.slice p2 pt.length p7,.slice p3 pu.length p8,.slice p4 pn.length p9]).below (w':=((w.alloc (.cells #[.slice p0 pd.length p5,.slice p1 pb.length p6,.slice p2 pt.length p7,.slice p3 pu.length p8,.slice p4 pn.length p9] 29)).alloc (.cells #[.slice none 0 0,.slice none 0 0,.slice none 0 0,.slice none 0 0] 157))) (by go_grown);have Bv:=Blk.new (w.alloc (.cells #[.slice p0 pd.length p5,.slice p1 pb.length p6,.slice p2 pt.length p7,.slice p3 pu.length p8,.slice p4 pn.length p9] 29)) 157 #[.slice none 0 0,.slice none 0 0,.slice none 0 0,.slice none 0 0];rw[World.size_alloc]at Bv;have au:w.heap.size+2≤((w.alloc (.cells #[.slice p0 pd.length p5,.slice p1 pb.length p6,.slice p2 pt.length p7,.slice p3 pu.length p8,.slice p4 pn.length p9] 29)).alloc (.cells #[.slice none 0 0,.slice none 0 0,.slice none 0 0,.slice none 0 0] 157)).heap.size:=by simp only[World.size_alloc];omega
 have aF:(pd.length:Int)≤1048576:=by omega
 have aG:(pt.length:Int)≤1048576:=by omega
 have q0:=B.cell 0 _ rfl;have q2:=B.cell 2 _ rfl;go_enter Tryz.func113,Tryz.ntmps113;by_cases hm:16<pd.length∨8<pt.length
 ·have HC:Hid (repF (RepQ.e (⟨.slice p0 pd.length p5,pd,.slice p1 pb.length p6,pb,.slice p2 pt.length p7,pt,.slice p3 pu.length p8,pu,.slice p4 pn.length p9,pn⟩:RepQ))=2):=show _=_ from z7t (by simpa[RepQ.e]using hm)
  clear hr U;by_cases aC:16<pd.length
  focus
   have ap:(16:Int)<(pd.length:Int):=by omega
  rotate_left
  focus
   have ap:¬(16:Int)<(pd.length:Int):=by omega
   have i8:(8:Int)<(pt.length:Int):=by omega
  rotate_left
  all_goals
   obtain⟨z0,z1,z2,z3⟩:=Bv.cel4;obtain⟨y0,y1,y2,y3⟩:=Bv.frz4;have HB:Hid (∀u0 u1 u2 u3:Value,Below w.heap.size w ((((((w.alloc (.cells #[.slice p0 pd.length p5,.slice p1 pb.length p6,.slice p2 pt.length p7,.slice p3 pu.length p8,.slice p4 pn.length p9] 29)).alloc (.cells #[.slice none 0 0,.slice none 0 0,.slice none 0 0,.slice none 0 0] 157)).setCell ⟨w.heap.size+1,0,none⟩ u0).setCell ⟨w.heap.size+1,1,none⟩ u1).setCell ⟨w.heap.size+1,2,none⟩ u2).setCell ⟨w.heap.size+1,3,none⟩ u3)):=fun u0 u1 u2 u3=>(((d.setCell (p:=⟨w.heap.size+1,0,none⟩) (by show w.heap.size≤w.heap.size+1;omega) u0).setCell (p:=⟨w.heap.size+1,1,none⟩) (by show w.heap.size≤w.heap.size+1;omega) u1).setCell (p:=⟨w.heap.size+1,2,none⟩) (by show w.heap.size≤w.heap.size+1;omega) u2).setCell (p:=⟨w.heap.size+1,3,none⟩) (by show w.heap.size≤w.heap.size+1;omega) u3
   go_wp2
   exact bodyPost_ret (v:=.tuple #[.agg #[.slice none 0 0,.slice none 0 0,.slice none 0 0,.slice none 0 0],.iface 219 (.agg #[.int .i64 2])]) (by simp[results,Tryz.results113,go_sem,z0,z1,z2,z3]) rfl (q2y HC.out (by first|decide|exact Z) d)
 have ap:¬(16:Int)<(pd.length:Int):=by omega
 have i8:¬(8:Int)<(pt.length:Int):=by omega
 have aB:pd.length≤16:=by omega
 have aE:pt.length≤8:=by omega
 have C:¬(16<(pd.map TxnQ.e).length∨8<(pt.map TxnQ.e).length):=by simpa using hm
 have z:Below ((w.alloc (.cells #[.slice p0 pd.length p5,.slice p1 pb.length p6,.slice p2 pt.length p7,.slice p3 pu.length p8,.slice p4 pn.length p9] 29)).alloc (.cells #[.slice none 0 0,.slice none 0 0,.slice none 0 0,.slice none 0 0] 157)).heap.size ((w.alloc (.cells #[.slice p0 pd.length p5,.slice p1 pb.length p6,.slice p2 pt.length p7,.slice p3 pu.length p8,.slice p4 pn.length p9] 29)).alloc (.cells #[.slice none 0 0,.slice none 0 0,.slice none 0 0,.slice none 0 0] 157)) (((w.alloc (.cells #[.slice p0 pd.length p5,.slice p1 pb.length p6,.slice p2 pt.length p7,.slice p3 pu.length p8,.slice p4 pn.length p9] 29)).alloc (.cells #[.slice none 0 0,.slice none 0 0,.slice none 0 0,.slice none 0 0] 157)).alloc (.cells #[.slice p0 pd.length p5,.slice p2 pt.length p7] 25)):=by go_grown
 have BC:=Blk.new ((w.alloc (.cells #[.slice p0 pd.length p5,.slice p1 pb.length p6,.slice p2 pt.length p7,.slice p3 pu.length p8,.slice p4 pn.length p9] 29)).alloc (.cells #[.slice none 0 0,.slice none 0 0,.slice none 0 0,.slice none 0 0] 157)) 25 #[.slice p0 pd.length p5,.slice p2 pt.length p7];simp only[World.size_alloc]at BC;have am:=z9r (w.heap.size+1+1) 2 (.slice p0 pd.length p5) (.slice p2 pt.length p7) pd pt (((w.alloc (.cells #[.slice p0 pd.length p5,.slice p1 pb.length p6,.slice p2 pt.length p7,.slice p3 pu.length p8,.slice p4 pn.length p9] 29)).alloc (.cells #[.slice none 0 0,.slice none 0 0,.slice none 0 0,.slice none 0 0] 157)).alloc (.cells #[.slice p0 pd.length p5,.slice p2 pt.length p7] 25)) BC.lt (BC.cell 0 _ rfl) (BC.cell 1 _ rfl) ((hr _ (d.trans (z.mono d.size))).1) ((hr _ (d.trans (z.mono d.size))).2.2.1) U.out.1 U.out.2 (by omega);have ai:=Wrp.mk am;have HR:=Wrp.mk hr;have HM:=Wrp.mk C;clear am hr hm C U
 go_wp2_with fail
 clear q0 q2;have hr:=HR.out;have C:=HM.out;clear HR HM;replace B:=B.below z;replace Bv:=Bv.below z;replace d:=d.trans (z.mono d.size);have aJ:w.heap.size+2≤(((w.alloc (.cells #[.slice p0 pd.length p5,.slice p1 pb.length p6,.slice p2 pt.length p7,.slice p3 pu.length p8,.slice p4 pn.length p9] 29)).alloc (.cells #[.slice none 0 0,.slice none 0 0,.slice none 0 0,.slice none 0 0] 157)).alloc (.cells #[.slice p0 pd.length p5,.slice p2 pt.length p7] 25)).heap.size:=by have:=z.size;omega
 clear z BC au;generalize ((w.alloc (.cells #[.slice p0 pd.length p5,.slice p1 pb.length p6,.slice p2 pt.length p7,.slice p3 pu.length p8,.slice p4 pn.length p9] 29)).alloc (.cells #[.slice none 0 0,.slice none 0 0,.slice none 0 0,.slice none 0 0] 157)).alloc (.cells #[.slice p0 pd.length p5,.slice p2 pt.length p7] 25)=X at*;generalize hH:w.heap.size=H at*;refine ai.out.mono ?_;rintro e w2 ⟨vc,rfl,oc,L⟩;clear ai;replace B:=B.below L;replace Bv:=Bv.below L;replace d:=d.trans (L.mono (by omega));have aK:=L.size;have af:txnK.At w2 vc (pd ++ pt):=Kind.at_of_row oc (fun q hq=>by
  have h2:=hr w2 d;rcases List.mem_append.1 hq with hq|hq
  ·exact h2.1.rdm hq
  ·exact h2.2.2.1.rdm hq)
 have O:=z34 vc (pd ++ pt) w2 af (by
  have e:nmL TxnQ.n (pd++pt)=nmL TxnQ.n pd+nmL TxnQ.n pt:=by simp[nmL]
  rw[List.length_append,e];omega)
 obtain⟨ca,ck,rfl⟩:=af.shape;clear af oc L;rw[List.map_append,List.length_append]at O;by_cases hL:lstF (pd.map TxnQ.e++pt.map TxnQ.e)=0
 case neg=>
  have Z:=hL;have HC:Hid (repF (RepQ.e (⟨.slice p0 pd.length p5,pd,.slice p1 pb.length p6,pb,.slice p2 pt.length p7,pt,.slice p3 pu.length p8,pu,.slice p4 pn.length p9,pn⟩:RepQ))=lstF (pd.map TxnQ.e++pt.map TxnQ.e)):=show _=_ from z7u (r:=⟨pd.map TxnQ.e,pb,pt.map TxnQ.e,pu.map USQ.e,pn⟩) C hL
  clear hr C;generalize lstF (pd.map TxnQ.e++pt.map TxnQ.e)=c at*;have aD:(c !=0)=true:=by simpa using Z
  go_wp2_with fail
  refine O.mono ?_;rintro e w3 ⟨rfl,x⟩;replace Bv:=Bv.below x;replace d:=d.trans (x.mono (by omega));obtain⟨z0,z1,z2,z3⟩:=Bv.cel4;obtain⟨y0,y1,y2,y3⟩:=Bv.frz4;have HB:Hid (∀u0 u1 u2 u3:Value,Below H w ((((w3.setCell ⟨H+1,0,none⟩ u0).setCell ⟨H+1,1,none⟩ u1).setCell ⟨H+1,2,none⟩ u2).setCell ⟨H+1,3,none⟩ u3)):=fun u0 u1 u2 u3=>(((d.setCell (p:=⟨H+1,0,none⟩) (by show H≤H+1;omega) u0).setCell (p:=⟨H+1,1,none⟩) (by show H≤H+1;omega) u1).setCell (p:=⟨H+1,2,none⟩) (by show H≤H+1;omega) u2).setCell (p:=⟨H+1,3,none⟩) (by show H≤H+1;omega) u3
  go_wp2
  exact bodyPost_ret (v:=.tuple #[.agg #[.slice none 0 0,.slice none 0 0,.slice none 0 0,.slice none 0 0],.iface 219 (.agg #[.int .i64 c])]) (by simp[results,Tryz.results113,go_sem,z0,z1,z2,z3]) rfl (q2y HC.out (by first|decide|exact Z) (by rw[hH];exact HB.out _ _ _ _))
 have y:=q4V hL;have V:∀t∈pd.map TxnQ.e,t.F=0:=fun t ht=>y t (List.mem_append_left _ ht)
 have W:∀t∈pt.map TxnQ.e,t.F=0:=fun t ht=>y t (List.mem_append_right _ ht)
 have gD:=z1l (xs:=[]) (by simp) z3O V;have gE:=z1l gD.1 gD.2 W;have T:=z7v (r:=⟨pd.map TxnQ.e,pb,pt.map TxnQ.e,pu.map USQ.e,pn⟩) C hL;dsimp only at T;rw[hL]at O;clear hL y C
 go_wp2_with fail
 refine O.mono ?_;rintro e w3 ⟨rfl,x⟩;replace B:=B.below x;replace Bv:=Bv.below x;replace d:=d.trans (x.mono (by omega));have aL:=x.size;have ak:=d;clear x O;have an:=hr w3 d;have ae:=z8z (.slice p0 pd.length p5) (.slice p2 pt.length p7) pd pt w3 an.1 an.2.2.1 (fun q hq=>V _ (List.mem_map_of_mem hq)) (fun q hq=>W _ (List.mem_map_of_mem hq)) (by omega) (by omega);have q0:=B.cell 0 _ rfl;have q2:=B.cell 2 _ rfl
 go_wp2_with fail
 clear q0 q2;refine ae.mono ?_;rintro e w4 ⟨vN,iN,vU,iU,rfl,hP,J⟩;clear ae;replace B:=B.below J;replace Bv:=Bv.below J;have aa:=J;replace d:=d.trans (J.mono (by omega));have aM:=J.size;obtain⟨ds,us,rb,B0,R,eD,eE,ab,ad⟩:=hP;obtain⟨na,nc,rfl⟩:=z0g R.oN;obtain⟨ua,uc,rfl⟩:=z0g R.oU;obtain⟨ia,ic,rfl⟩:=R.jN.shape;obtain⟨ja,jc,rfl⟩:=R.jU.shape;generalize I:allI [] (pd.map TxnQ.e)=xs at*;generalize ag:allI xs (pt.map TxnQ.e)=ys at*;have A:Below w4.heap.size w4 (w4.alloc (.cells #[.slice na ds.length nc,.slice ia xs.length ic,.slice ua us.length uc,.slice ja ys.length jc] 157)):=by go_grown
 have BR:=Blk.new w4 157 #[.slice na ds.length nc,.slice ia xs.length ic,.slice ua us.length uc,.slice ja ys.length jc];replace R:=R.below A;replace B:=B.below A;replace Bv:=Bv.below A;replace d:=d.trans (A.mono (by omega));have M:=aa.trans (A.mono (by omega));have aN:=A.size;have aA:=BR.lt
 go_wp2_with fail
 clear A J aa;generalize hY:w4.alloc (.cells #[.slice na ds.length nc,.slice ia xs.length ic,.slice ua us.length uc,.slice ja ys.length jc] 157)=Y at*;clear hY;generalize aH:w4.heap.size=rg at*;have aj:RecPost w3 Y (.slice na ds.length nc) (.slice ia xs.length ic) (.slice ua us.length uc) (.slice ja ys.length jc) (pd.map TxnQ.e) (pt.map TxnQ.e):=⟨ds,us,rb,B0,by rw[I,ag];exact R,eD,by rw[I];exact eE,ab,ad⟩
 have ao:=hr Y d;obtain⟨f0,f1,f2,f3⟩:=BR.lts4;obtain⟨k0,k1,k2,k3,k4⟩:=B.lts5;have hW:Below Y.heap.size Y Y.drew:=(Below.refl _ _).drew;have ar:Nonempty (Lat Y):=⟨⟨Y,Below.refl _ _⟩⟩
 refine z0e (S:=fun w'=>∃u:Lat Y,w'=u.val) (by kernel_rfl) ?_;refine sgr [(0,1),(2,1)] 3 (by kernel_rfl) ⟨⟨_,hW⟩,rfl⟩ ?_;simp only[pkE];repeat go_big_quiet_step (fail)
 refine wpQuiet_nil ?_;refine cla 1 (some 38) 106 #[.agg #[.slice na ds.length nc,.slice ia xs.length ic,.slice ua us.length uc,.slice ja ys.length jc]] 2 (by kernel_rfl) ?_;refine(z9t w3 _ _ _ _ (pd.map TxnQ.e) (pt.map TxnQ.e) _ (aj.below hW) (M.trans (hW.mono M.size)) V W (by rw[List.length_map];omega) (by rw[List.length_map];omega) (by rw[I];exact gD.1) (by rw[I,ag];exact gE.1) (by rw[I];exact gD.2)).mono ?_;rintro e w9 ⟨r,rfl,er,aq,_,_,N⟩;replace hW:=hW.trans (N.mono hW.size);clear N;have rr:=repK.own_rd aq;have aI:=z7w er V W (by rw[List.length_map];omega) (by rw[List.length_map];omega);clear aq;refine⟨_,rfl,⟨⟨_,hW⟩,rfl⟩,?_⟩;simp only[Act.put,pjE];refine cla 3 (some 40) 67 #[.agg #[r.vd,r.vb,r.vt,r.vu,r.vn],.agg #[.slice p0 pd.length p5,.slice p1 pb.length p6,.slice p2 pt.length p7,.slice p3 pu.length p8,.slice p4 pn.length p9]] 1 (by kernel_rfl) ?_;refine(z2W r (⟨.slice p0 pd.length p5,pd,.slice p1 pb.length p6,pb,.slice p2 pt.length p7,pt,.slice p3 pu.length p8,pu,.slice p4 pn.length p9,pn⟩:RepQ) _ rr (repK.rd_below ao hW) (by omega) (by dsimp only[RepQ.n];omega)).mono ?_;rintro e ah ⟨rfl,N⟩;replace hW:=hW.trans (N.mono hW.size);clear N rr;rw[er];dsimp only[RepQ.e];refine⟨_,rfl,⟨⟨_,hW⟩,rfl⟩,?_⟩;simp only[Act.put,pjE];refine sgr [(4,1)] 0 (by kernel_rfl) ⟨⟨_,hW⟩,rfl⟩ ?_;simp only[pkE];repeat go_big_quiet_step (fail)
 refine wpQuiet_nil ?_;refine z0i (by kernel_rfl) ?_;clear f0 f1 f2 f3 k0 k1 k2 k3 k4 ar ao er;replace BR:=BR.below hW;replace Bv:=Bv.below hW;replace R:=R.below hW;replace d:=d.trans (hW.mono (by omega));have aO:=hW.size;clear aj M
 cases hS:sameRep (mkR (pd.map TxnQ.e) (pt.map TxnQ.e)) ⟨pd.map TxnQ.e,pb,pt.map TxnQ.e,pu.map USQ.e,pn⟩with
 |false=>
  rw[hS]at T;have HC:Hid (repF (RepQ.e (⟨.slice p0 pd.length p5,pd,.slice p1 pb.length p6,pb,.slice p2 pt.length p7,pt,.slice p3 pu.length p8,pu,.slice p4 pn.length p9,pn⟩:RepQ))=8):=T;clear hW;obtain⟨z0,z1,z2,z3⟩:=Bv.cel4;obtain⟨y0,y1,y2,y3⟩:=Bv.frz4;have HB:Hid (∀u0 u1 u2 u3:Value,Below H w ((((ah.setCell ⟨H+1,0,none⟩ u0).setCell ⟨H+1,1,none⟩ u1).setCell ⟨H+1,2,none⟩ u2).setCell ⟨H+1,3,none⟩ u3)):=fun u0 u1 u2 u3=>(((d.setCell (p:=⟨H+1,0,none⟩) (by show H≤H+1;omega) u0).setCell (p:=⟨H+1,1,none⟩) (by show H≤H+1;omega) u1).setCell (p:=⟨H+1,2,none⟩) (by show H≤H+1;omega) u2).setCell (p:=⟨H+1,3,none⟩) (by show H≤H+1;omega) u3
  go_wp2
  exact bodyPost_ret (v:=.tuple #[.agg #[.slice none 0 0,.slice none 0 0,.slice none 0 0,.slice none 0 0],.iface 219 (.agg #[.int .i64 8])]) (by simp[results,Tryz.results113,go_sem,z0,z1,z2,z3]) rfl (q2y HC.out (by first|decide|exact Z) (by rw[hH];exact HB.out _ _ _ _))
 |true=>
  rw[hS]at T;have HC:Hid (repF (RepQ.e (⟨.slice p0 pd.length p5,pd,.slice p1 pb.length p6,pb,.slice p2 pt.length p7,pt,.slice p3 pu.length p8,pu,.slice p4 pn.length p9,pn⟩:RepQ))=0):=T;clear hW;obtain⟨z0,z1,z2,z3⟩:=Bv.cel4;obtain⟨y0,y1,y2,y3⟩:=Bv.frz4;obtain⟨x0,x1,x2,x3⟩:=BR.cel4;have HB:Hid (∀ u0 u1 u2 u3:Value,Below H w ((((ah.setCell ⟨H + 1,0,none⟩ u0).setCell ⟨H + 1,1,none⟩ u1).setCell ⟨H + 1,2,none⟩ u2).setCell ⟨H + 1,3,none⟩ u3)∧RecPost w3 ((((ah.setCell ⟨H + 1,0,none⟩ u0).setCell ⟨H + 1,1,none⟩ u1).setCell ⟨H + 1,2,none⟩ u2).setCell ⟨H + 1,3,none⟩ u3) (.slice na ds.length nc) (.slice ia xs.length ic) (.slice ua us.length uc) (.slice ja ys.length jc) (pd.map TxnQ.e) (pt.map TxnQ.e)):=fun u0 u1 u2 u3=>⟨(((d.setCell (p:=⟨H + 1,0,none⟩) (by show H≤H + 1;omega) u0).setCell (p:=⟨H + 1,1,none⟩) (by show H≤H + 1;omega) u1).setCell (p:=⟨H + 1,2,none⟩) (by show H≤H + 1;omega) u2).setCell (p:=⟨H + 1,3,none⟩) (by show H≤H + 1;omega) u3,⟨ds,us,rb,B0,by
   rw[I,ag];exact (((R.other (by omega) (by omega) 0 u0).other (by omega) (by omega) 1 u1).other (by omega) (by omega) 2 u2).other (by omega) (by omega) 3 u3,eD,by rw [I];exact eE,ab,ad⟩⟩
  have al:Below H w w3:=ak;clear R Bv BR d
  go_wp2
  exact bodyPost_ret (v:=.tuple #[.agg #[.slice na ds.length nc,.slice ia xs.length ic,.slice ua us.length uc,.slice ja ys.length jc],.nilIface]) (by simp[results,Tryz.results113,go_sem,z0,z1,z2,z3]) rfl (q57 HC.out (by rw[hH];exact al) (HB.out _ _ _ _).2 (by rw[hH];exact(HB.out _ _ _ _).1))
theorem z2Y(p:RepQ)(w:World)(hg:ErrT w)(h:repK.rd w p)(nd:z4c p.vd)(nt:z4c p.vt)(hl:p.n≤1048576):
  Calls Tryz.prog 63 #[.agg #[p.vd,p.vb,p.vt,p.vu,p.vn]] w fun e w'=>e=.returned (.int .i64 (repF p.e))∧Below w.heap.size w w':=by
 have z:=fun w h=>z9u p w h nd nt hl
 have hr:=fun(w':World) hb=>repK.rd_below (w':=w') h hb
 obtain⟨N,pd,M,pb,T,pt,U,pu,O,pn⟩:=p;obtain⟨p0,p5,rfl⟩:∃a c,N=.slice a pd.length c:=h.1.shape;obtain⟨p1,p6,rfl⟩:∃a c,M=.slice a pb.length c:=h.2.1.shape;obtain⟨p2,p7,rfl⟩:∃a c,T=.slice a pt.length c:=h.2.2.1.shape;obtain⟨p3,p8,rfl⟩:∃a c,U=.slice a pu.length c:=h.2.2.2.1.shape;obtain⟨p4,p9,rfl⟩:∃a c,O=.slice a pn.length c:=h.2.2.2.2.shape;dsimp only at z hr;have d:Below w.heap.size w (w.alloc (.cells #[.slice p0 pd.length p5,.slice p1 pb.length p6,.slice p2 pt.length p7,.slice p3 pu.length p8,.slice p4 pn.length p9] 29)):=by go_grown
 have B:=Blk.new w 29 #[.slice p0 pd.length p5,.slice p1 pb.length p6,.slice p2 pt.length p7,.slice p3 pu.length p8,.slice p4 pn.length p9];obtain⟨q0,q1,q2,q3,q4⟩:=B.cel5;go_enter Tryz.func63,Tryz.ntmps63
 go_wp2_with fail
 clear q0 q1 q2 q3 q4 B;have I:=hg.below d;have L:=hr _ d;generalize w.alloc (.cells #[.slice p0 pd.length p5,.slice p1 pb.length p6,.slice p2 pt.length p7,.slice p3 pu.length p8,.slice p4 pn.length p9] 29)=W at*;refine(z W L).mono ?_;rintro e w2 ⟨a0,a1,a2,a3,l0,c0,l1,c1,l2,c2,l3,c3,rfl,_,x⟩;replace d:=d.trans (x.mono d.size);have J:=I.below x;have y:Below w2.heap.size w2 (w2.alloc (.cells #[.slice a0 l0 c0,.slice a1 l1 c1,.slice a2 l2 c2,.slice a3 l3 c3] 157)):=by go_grown
 have A:=q0U (repF (RepQ.e (⟨.slice p0 pd.length p5,pd,.slice p1 pb.length p6,pb,.slice p2 pt.length p7,pt,.slice p3 pu.length p8,pu,.slice p4 pn.length p9,pn⟩:RepQ))) _ (J.below y);replace d:=d.trans (y.mono d.size);dsimp only[RepQ.e]at A⊢;generalize repF _=c at*;generalize misC c=m at*
 go_wp2_with fail
 refine A.mono ?_;rintro e w4 ⟨rfl,C⟩;replace d:=d.trans (C.mono d.size)
 go_wp2
 go_ret;exact⟨rfl,d⟩
theorem q2z(ds:List TxnD)(xs:List ItemD)(t:TxnD):z6d xs (ds++[t])=z6d xs ds++[z0L (allI xs ds) t.acts]:=by
 unfold z6d;rw[z2T,List.map_append];rfl
theorem q0V(ia:Option Addr)(ic:Nat)(xs:List ItemD)(v:Value)(ts:List TxnQ)(w:World)(h:itemK.At w (.slice ia xs.length ic) xs)(hN:z6a ia xs.length ic)(ht:txnK.At w v ts)(hF:∀p∈ts,(TxnQ.e p).F=0)(hl:ts.length≤40)(h8:xs.length≤8)(g:Good xs):
  Calls Tryz.prog 185 #[.slice ia xs.length ic,v] w fun e w'=>∃ (ua:Option Addr) (uc:Nat) (na:Option Addr) (nc:Nat) (us:List USQ) (ys:List ItemD),e=.returned (.tuple #[.slice ua us.length uc,.slice na ys.length nc])∧us.map USQ.e=z6d xs (ts.map TxnQ.e)∧ys=allI xs (ts.map TxnQ.e)∧ussK.Own w' (.slice ua us.length uc) us∧itemK.Own w' (.slice na ys.length nc) ys∧(ussK.fp (.slice ua us.length uc) us).Nodup∧(∀k∈ussK.fp (.slice ua us.length uc) us,w.heap.size≤k∧k∉blk (.slice na ys.length nc))∧(∀k∈blk (.slice na ys.length nc),w.heap.size≤k)∧Below w.heap.size w w':=by
 obtain⟨a,cap,rfl⟩:=ht.shape;obtain⟨i0,hi,bd,be,bf⟩:=info_parts z1h;obtain⟨j0,hj,ba,bb,bc⟩:=info_parts z2H;have aA:Below w.heap.size w ((w.alloc (.cells #[] 160)).alloc (.cells #[] 119)):=by go_grown
 have oU:=World.ownsRow_lit (e:=160) (size:=1) w #[] 0 (Nat.le_refl _) (by decide) rfl;have aN:Below (w.alloc (.cells #[] 160)).heap.size (w.alloc (.cells #[] 160)) ((w.alloc (.cells #[] 160)).alloc (.cells #[] 119)):=by go_grown
 have aU:=z0a oU aN;have oI:=World.ownsRow_lit (e:=119) (size:=2) (w.alloc (.cells #[] 160)) #[] 0 (Nat.le_refl _) (by decide) rfl;simp only[World.size_alloc]at oI;obtain⟨_,_,e1,l1,_⟩:=h.below aA;simp only[Value.slice.injEq,true_and]at e1;obtain⟨rfl,rfl⟩:=e1;have x1:([]:List ItemD).length+xs.length≤maxLen:=by unfold maxLen;rw[List.length_nil];omega
 have x2:(([]:List ItemD).length+xs.length)*16≤140737488355328:=by rw[List.length_nil];omega
 have aT:w.heap.size+1≤((w.alloc (.cells #[] 160)).alloc (.cells #[] 119)).heap.size:=by simp only[World.size_alloc];omega
 have bj:(ts.length:Int)≤40:=by omega
 have bh:(xs.length:Int)≤8:=by omega
 go_enter Tryz.func185,Tryz.ntmps185
 go_wp2_with (at_builtin;refine z1d (K:=itemK) _ rfl _ _ 26 rfl i0 (.agg #[.int .i64 0,.int .i64 0]) 16 Tryz.underlying26 hi bd be bf rfl (by decide) (w.heap.size+1) _ [] rfl oI _ xs _ rfl l1 (z1k xs) hN x1 x2 aT ?_)
 intro v' w2 A d;try simp only[List.nil_append]at A
 have aM:Below w.heap.size w w2:=aA.grown d (by omega) (fun k hk=>by have:=(oI.lt k hk).1;omega);have aV:=aU.kept d (Or.inr (by simp[Value.ownBlock]));obtain⟨a2,c2,rfl⟩:=z0g A;obtain⟨o2,k2⟩:=z0u A;obtain⟨u2,m2⟩:=z0u aV;clear d oI l1 A oU aU aV aA aN x1 x2 aT;have aL:ussK.Own w2 (.slice (some ⟨w.heap.size,0,none⟩) 0 0) ([]:List USQ):=⟨u2,fun p hp=>by simp at hp⟩
 have aK:itemK.Own w2 (.slice a2 xs.length c2) xs:=⟨o2,fun _ _=>trivial⟩
 have aJ:ussK.fp (.slice (some ⟨w.heap.size,0,none⟩) 0 0) ([]:List USQ)=[w.heap.size]:=by simp[Kind.fp,blk,Value.ownBlock]
 have aG:Hid ((ussK.fp (.slice (some ⟨w.heap.size,0,none⟩) 0 0) ([]:List USQ)).Nodup∧(∀k∈ussK.fp (.slice (some ⟨w.heap.size,0,none⟩) 0 0) ([]:List USQ),w.heap.size≤k∧k∉blk (.slice a2 xs.length c2))∧∀k∈blk (.slice a2 xs.length c2),w.heap.size≤k):=by
  rw[aJ];refine⟨by simp,fun k hk=>?_,fun k hk=>by have:=k2 k hk;omega⟩;simp only[List.mem_singleton]at hk;subst hk;exact⟨Nat.le_refl _,fun e=>by have:=k2 _ e;omega⟩
 have aF:Hid (([]:List USQ).map USQ.e=z6d xs ((ts.map TxnQ.e).take 0)∧xs=allI xs ((ts.map TxnQ.e).take 0)∧xs.length≤8∧Good xs):=⟨rfl,rfl,h8,g⟩
 clear o2 k2 u2 m2 aJ h8 g
 go_wp2
 go_loopw[6,7,8] (fun vu vn j wr=>∃ (k:Nat) (us:List USQ) (ys:List ItemD),k≤ts.length∧j=.int .i64 k∧ussK.Own wr vu us∧itemK.Own wr vn ys∧Hid (us.map USQ.e=z6d xs ((ts.map TxnQ.e).take k)∧ys=allI xs ((ts.map TxnQ.e).take k)∧ys.length≤8∧Good ys)∧Hid ((ussK.fp vu us).Nodup∧(∀x∈ussK.fp vu us,w.heap.size≤x∧x∉blk vn)∧∀x∈blk vn,w.heap.size≤x)∧Below w.heap.size w wr) (fun _ _ j _=>ts.length-(intOf j).toNat)
 case atStart=>exact⟨0,[],xs,Nat.zero_le _,rfl,aL,aK,aF,aG,aM⟩
 case round=>
  clear aL aK aF aG aM;obtain⟨k,us,ys,hk,rfl,hO,hI,HD,HN,hb⟩:=hrel;obtain⟨sa,sc,rfl⟩:=hO.shape;obtain⟨ya,yc,rfl⟩:=hI.shape;have aH:Hid (us.length≤40):=by
   have:=congrArg List.length HD.out.1;rw[List.length_map,z6d,List.length_map,z8A,List.length_take]at this;show us.length≤40;omega
  by_cases aB:k<ts.length
  ·obtain⟨b,aC,rfl,bi,aO,ae⟩:=(ht.below hb).cell (by decide) k aB;have aa:∀j x,(txnK.cells ts[k])[j]?=some x→wr.cell? ⟨b,aC+k*4+j,none⟩=some x:=aO;have c0:=aa 0 (.int .i64 ts[k].i) rfl;have c1:=aa 1 (.int .i64 ts[k].s) rfl;have au:=aa 2 (.int .i64 ts[k].q) rfl;have c3:=aa 3 (ts[k].va) rfl;rw[Nat.add_zero]at c0;have av:=hF ts[k] (List.getElem_mem aB);have ar:=q2s ts k aB;have aR:(k:Int)<(ts.length:Int):=by omega
   clear aO aa;generalize ts[k]=p at*;obtain⟨i,s,q,va,c⟩:=p;replace ae:actK.At wr va c:=ae;obtain⟨ta,tc,rfl⟩:=ae.shape;dsimp only[TxnQ.e]at c0 c1 au c3 av ar;have aI:Box4 wr b (aC+k*4) (.int .i64 i) (.int .i64 s) (.int .i64 q) (.slice ta c.length tc):=⟨c0,c1,au,c3⟩
   have aP:=q3r ya yc ys b (aC+k*4) i s q ta tc c wr (z0Z hI.at).2 (hI.niceV _ _ _ rfl) aI (z0T ae).2 HD.out.2.2.1 HD.out.2.2.2 av;have aq:Hid (∀p':USQ,p'.us=z0L ys c→(us++[p']).map USQ.e=z6d xs ((ts.map TxnQ.e).take (k+1))∧nextI ys ⟨i,s,q,c⟩=allI xs ((ts.map TxnQ.e).take (k+1))∧(nextI ys ⟨i,s,q,c⟩).length≤8∧Good (nextI ys ⟨i,s,q,c⟩)):=fun p' a7=>by
    obtain⟨d1,d2,d3,d4⟩:=HD.out;have g:=z1e d3 d4 av;rw[ar,q2z,z3N,←d2,List.map_append,d1];exact⟨by rw[←a7];rfl,rfl,g.1,g.2⟩
   have M:=q4S (xs:=ys) (t:=⟨i,s,q,c⟩);dsimp only at M;clear c0 c1 au c3 aI ae ar
   go_wp2_with fail
   refine aP.mono ?_;rintro e w5 ⟨ub,uc,jb,jc,rfl,hU,V⟩;clear aP;obtain⟨ou,lu⟩:=z2F hU.o1;obtain⟨oi,li⟩:=z2F hU.o2;have az:=hU.ap;have aY:∀x∈blk (.slice jb (runR ys c).length jc),x<w5.heap.size:=z0z oi;clear hU;have T:=hO.lt;have an:∀x∈blk (.slice ya ys.length yc),x<wr.heap.size:=z0z hI.1;have bm:=hb.size;replace hO:=hO.below V;replace hI:=hI.below V;replace hb:=hb.trans (V.mono hb.size);have bk:=V.size;have I:Below w5.heap.size w5 (w5.alloc (.cells #[.int .i64 (z0t ys c).1,.int .i64 (runV ys c),.slice ub (z0L ys c).length uc,.slice jb (runR ys c).length jc] 228)):=by go_grown
   have BR:=Blk.new w5 228 #[.int .i64 (z0t ys c).1,.int .i64 (runV ys c),.slice ub (z0L ys c).length uc,.slice jb (runR ys c).length jc];have r2:=BR.cell 2 _ rfl;have L:Below (w5.alloc (.cells #[.int .i64 (z0t ys c).1,.int .i64 (runV ys c),.slice ub (z0L ys c).length uc,.slice jb (runR ys c).length jc] 228)).heap.size (w5.alloc (.cells #[.int .i64 (z0t ys c).1,.int .i64 (runV ys c),.slice ub (z0L ys c).length uc,.slice jb (runR ys c).length jc] 228)) ((w5.alloc (.cells #[.int .i64 (z0t ys c).1,.int .i64 (runV ys c),.slice ub (z0L ys c).length uc,.slice jb (runR ys c).length jc] 228)).alloc (.cells #[.slice ub (z0L ys c).length uc] 160)):=by go_grown
   have al:=BR.below L;have bg:=BR.lt;have ai:=(hO.below I).below L;have ax:=(hI.below I).below L;have aX:undoK.Own w5 (.slice ub (z0L ys c).length uc) (z0L ys c):=⟨ou,fun _ _=>trivial⟩
   have aW:itemK.Own w5 (.slice jb (runR ys c).length jc) (runR ys c):=⟨oi,fun _ _=>trivial⟩
   have ay:ussK.own _ (⟨.slice ub (z0L ys c).length uc,z0L ys c⟩:USQ):=(Kind.Own.below (Kind.Own.below aX I) L)
   have aD:=Kind.Own.below (Kind.Own.below aW I) L;clear aX aW;have Z:=(hb.trans (I.mono (by omega))).trans (L.mono (by have:=I.size;omega));have bl:w5.heap.size+2≤((w5.alloc (.cells #[.int .i64 (z0t ys c).1,.int .i64 (runV ys c),.slice ub (z0L ys c).length uc,.slice jb (runR ys c).length jc] 228)).alloc (.cells #[.slice ub (z0L ys c).length uc] 160)).heap.size:=by simp only[World.size_alloc];omega
   have af:=ai.1;clear hO hI ou oi L hb
   go_wp2_with (at_builtin;refine wpList_append_own_at _ rfl _ _ 27 rfl 0 160 j0 (.slice none 0 0) 1 24 Tryz.underlying27 hj ba bb bc rfl (by decide) _ us.length (ussK.row us) rfl af ⟨w5.heap.size+1,0,none⟩ 1 1 [.slice ub (z0L ys c).length uc] rfl rfl ?c1 ?c2 ?c3 ?c4 ?c5 ?_)
   all_goals try(case c1=>intro j u hj;match j,hj with|0,hj=>simp at hj;subst hj;simp[Addr.add])
   all_goals try(case c2=>intro u hu;simp at hu;subst hu;rfl)
   all_goals try(case c3=>have:=aH.out;unfold maxLen;omega)
   all_goals try(case c4=>have:=aH.out;omega)
   all_goals try(case c5=>first|omega|simp)
   intro v' w6 A d aS Y;clear aS af r2;rw[show w5.heap.size+1+1=((w5.alloc (.cells #[.int .i64 (z0t ys c).1,.int .i64 (runV ys c),.slice ub (z0L ys c).length uc,.slice jb (runR ys c).length jc] 228)).alloc (.cells #[.slice ub (z0L ys c).length uc] 160)).heap.size from by simp only[World.size_alloc]]at Y;generalize a8:(w5.alloc (.cells #[.int .i64 (z0t ys c).1,.int .i64 (runV ys c),.slice ub (z0L ys c).length uc,.slice jb (runR ys c).length jc] 228)).alloc (.cells #[.slice ub (z0L ys c).length uc] 160)=WA at*;clear a8;have C:∀x∈ussK.foot (⟨.slice ub (z0L ys c).length uc,z0L ys c⟩:USQ),wr.heap.size≤x:=fun x hx=>by
    have X:x∈undoK.fp (.slice ub (z0L ys c).length uc) (z0L ys c):=hx;rw[z0E]at X;exact lu x X
   obtain⟨U,ab,J,W⟩:=ai.snoc HN.out.1 (fun x hx=>(HN.out.2.1 x hx).1) ay (by show(undoK.fp _ _).Nodup;rw[z0E];exact z0r _) (fun x hx X=>by have:=T x X;have:=C x hx;omega) (fun x hx=>by have:=C x hx;omega) Z.size A d Y;have aj:Below w.heap.size w w6:=Out.keep Z W Z.size (fun x hx=>(HN.out.2.1 x (by simp only[Kind.fp,List.mem_append];exact Or.inl hx)).1);obtain⟨a6,c6,rfl⟩:=U.shape;have N:∀x∈ussK.fp (.slice a6 (us++[(⟨.slice ub (z0L ys c).length uc,z0L ys c⟩:USQ)]).length c6) (us++[(⟨.slice ub (z0L ys c).length uc,z0L ys c⟩:USQ)]),x∈ussK.fp (.slice sa us.length sc) us∨x∈blk (.slice ub (z0L ys c).length uc)∨w5.heap.size+1<x:=fun x hx=>by
    simp only[Kind.fp,List.mem_append,List.flatMap_append,List.flatMap_cons,List.flatMap_nil,List.append_nil]at hx;rcases hx with hx|hx|hx
    ·rcases z3n (B0:=0) (H:=WA.heap.size) (v:=.slice sa us.length sc) (by rcases Y with h|h;exact Or.inl h;exact Or.inr ⟨_,h,Nat.le_refl _⟩) hx with e|e
     ·exact Or.inl (by simp only[Kind.fp,List.mem_append];exact Or.inl e)
     ·exact Or.inr (Or.inr (by omega))
    ·exact Or.inl (by simp only[Kind.fp,List.mem_append];exact Or.inr hx)
    ·refine Or.inr (Or.inl ?_);have X:x∈undoK.fp (.slice ub (z0L ys c).length uc) (z0L ys c):=hx
     rwa [z0E]at X
   have ad:=aD.out W (fun x hx e=>by
    rw[z0l]at hx;have:=li x hx;have:=T x (by simp only[Kind.fp,List.mem_append];exact Or.inl e);omega)
   have aw:=ax.out W (fun x hx e=>by
    rw[z0l]at hx;exact (HN.out.2.1 x (by simp only [Kind.fp,List.mem_append];exact Or.inl e)).2 hx)
   have ag:=al.outs8 W (fun e=>by have:=T _ (show w5.heap.size∈ussK.fp (.slice sa us.length sc) us by simp only[Kind.fp,List.mem_append];exact Or.inl e);omega);have n0:=ag.cell 0 _ rfl;have n3:=ag.cell 3 _ rfl;have ah:=aq.out ⟨.slice ub (z0L ys c).length uc,z0L ys c⟩ rfl;have aE:∀x∈blk (.slice jb (runR ys c).length jc),x<w5.heap.size:=fun x hx=>aY x hx
   have ak:∀x∈blk (.slice jb (runR ys c).length jc),x∉ussK.fp (.slice a6 (us++[(⟨.slice ub (z0L ys c).length uc,z0L ys c⟩:USQ)]).length c6) (us++[(⟨.slice ub (z0L ys c).length uc,z0L ys c⟩:USQ)]):=fun x hx hm=>by
    rcases N x hm with e|e|e
    ·have:=T x e;have:=li x hx;omega
    ·rcases az with h0|h0
     ·unfold blk at e;rw[h0]at e;simp at e
     ·unfold blk at e hx;apply h0
      cases hu:(Value.slice ub (z0L ys c).length uc).ownBlock with
      |none=>rw[hu]at e;simp at e
      |some y=>
       cases hv:(Value.slice jb (runR ys c).length jc).ownBlock with
       |none=>rw[hv]at hx;simp at hx
       |some z=>
        rw[hu]at e;rw[hv]at hx;simp only[Option.toList,List.mem_singleton]at e hx;rw[←e,←hx]
    ·have:=aE x hx;omega
   have O:∀x∈blk (.slice ya ys.length yc),x∉ussK.fp (.slice a6 (us++[(⟨.slice ub (z0L ys c).length uc,z0L ys c⟩:USQ)]).length c6) (us++[(⟨.slice ub (z0L ys c).length uc,z0L ys c⟩:USQ)]):=fun x hx hm=>by
    have bn:=an x hx;rcases N x hm with e|e|e
    ·exact(HN.out.2.1 x e).2 hx
    ·have:=lu x e;omega
    ·omega
   have aQ:(us++[(⟨.slice ub (z0L ys c).length uc,z0L ys c⟩:USQ)]).length=us.length+1:=by simp
   rw[aQ]at U ab J ak O⊢;by_cases hc:(z0t ys c).1=0
   ·rw[if_pos hc]at M;have am:Hid ((us++[(⟨.slice ub (z0L ys c).length uc,z0L ys c⟩:USQ)]).map USQ.e=z6d xs ((ts.map TxnQ.e).take (k+1))∧runR ys c=allI xs ((ts.map TxnQ.e).take (k+1))∧(runR ys c).length≤8∧Good (runR ys c)):=by rw[←M];exact ah
    have ao:Hid ((ussK.fp (.slice a6 (us.length+1) c6) (us++[(⟨.slice ub (z0L ys c).length uc,z0L ys c⟩:USQ)])).Nodup∧(∀x∈ussK.fp (.slice a6 (us.length+1) c6) (us++[(⟨.slice ub (z0L ys c).length uc,z0L ys c⟩:USQ)]),w.heap.size≤x∧x∉blk (.slice jb (runR ys c).length jc))∧∀x∈blk (.slice jb (runR ys c).length jc),w.heap.size≤x):=⟨ab,fun x hx=>⟨J x hx,fun e=>ak x e hx⟩,fun x hx=>by have:=li x hx;omega⟩
    have HR:Hid (_∧_∧_):=⟨U,ad,aj⟩
    have aZ:((z0t ys c).1==0)=true:=by simpa using hc
    clear U ad aj aw ax aD ay ai A d Y W HN HD aq ah ak O N C BR al ag Z V T an li lu ab J aE az M I
    go_wp2
    go_roundw
    case rel=>exact⟨k+1,_,_,by omega,by go_num,HR.out.1,HR.out.2.1,am,ao,HR.out.2.2⟩
    case measure=>simp[intOf];omega
   ·rw[if_neg hc]at M;have am:Hid ((us++[(⟨.slice ub (z0L ys c).length uc,z0L ys c⟩:USQ)]).map USQ.e=z6d xs ((ts.map TxnQ.e).take (k+1))∧ys=allI xs ((ts.map TxnQ.e).take (k+1))∧ys.length≤8∧Good ys):=by
     have:=ah;rw[M]at this;exact this
    have ao:Hid ((ussK.fp (.slice a6 (us.length+1) c6) (us++[(⟨.slice ub (z0L ys c).length uc,z0L ys c⟩:USQ)])).Nodup∧(∀x∈ussK.fp (.slice a6 (us.length+1) c6) (us++[(⟨.slice ub (z0L ys c).length uc,z0L ys c⟩:USQ)]),w.heap.size≤x∧x∉blk (.slice ya ys.length yc))∧∀x∈blk (.slice ya ys.length yc),w.heap.size≤x):=⟨ab,fun x hx=>⟨J x hx,fun e=>O x e hx⟩,HN.out.2.2⟩
    have HR:Hid (_∧_∧_):=⟨U,aw,aj⟩
    have aZ:((z0t ys c).1==0)=false:=by simpa using hc
    clear U ad aj aw ax aD ay ai A d Y W HN HD aq ah ak O N C BR al ag Z V T an li lu ab J aE az M I
    go_wp2
    go_roundw
    case rel=>exact⟨k+1,_,_,by omega,by go_num,HR.out.1,HR.out.2.1,am,ao,HR.out.2.2⟩
    case measure=>simp[intOf];omega
  ·have a1:k=ts.length:=by omega
   subst a1;have aR:¬((ts.length:Int)<(ts.length:Int)):=by omega
   obtain⟨d1,d2,_,_⟩:=HD.out;rw[List.take_of_length_le (by simp)]at d1 d2;have HP:Hid (_∧_):=⟨d1,d2⟩
   clear HD d1 d2
   go_wp2
   exact bodyPost_ret (v:=.tuple #[.slice sa us.length sc,.slice ya ys.length yc]) (by simp[results,Tryz.results185,go_sem]) rfl ⟨sa,sc,ya,yc,us,ys,rfl,HP.out.1,HP.out.2,hO,hI,HN.out.1,HN.out.2.1,HN.out.2.2,hb⟩
end Go.Proofs.YtlkpdgjnhkjpjaaGreatDoor
