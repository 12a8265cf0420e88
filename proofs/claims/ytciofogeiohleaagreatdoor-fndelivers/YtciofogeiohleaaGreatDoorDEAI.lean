/- Texts joined,with what the laws reach alone. -/
import Derived.Test.YtciofogeiohleaaGreatDoorDEAH
import Derived.Test.YtciofogeiohleaaGreatDoorDEAD
set_option linter.unusedVariables false
set_option linter.unusedSimpArgs false
set_option maxRecDepth 100000
set_option maxHeartbeats 16000000
namespace Go.Proofs.YtciofogeiohleaaGreatDoor
open Go.RowKit Go.BigFrame
theorem z7X{acc:List TxnD}{t:TxnD}(h:stpF acc t=0):t.F=0∧knw acc t=false:=by
 unfold stpF at h;by_cases h0:t.F=0
 ·rw[if_pos h0]at h;refine⟨h0,?_⟩
  cases hk:knw acc t with
  |false=>rfl
  |true=>rw[hk]at h;exact absurd h (by decide)
 ·rw[if_neg h0]at h;exact absurd h h0
theorem knw_false{acc:List TxnD}{t:TxnD}:knw acc t=false↔∀a∈acc,stF a t=false:=by
 unfold knw;rw[List.any_eq_false];simp
theorem z3T:∀ (r acc:List TxnD),z1v acc r=0↔(∀t∈r,t.F=0)∧r.Pairwise (fun a b=>stF a b=false)∧∀a∈acc,∀t∈r,stF a t=false
 |[],acc=>by simp[z1v]
 |x::r,acc=>by
  rw[z1v];constructor
  ·intro h;by_cases h0:stpF acc x=0
   ·rw[if_pos h0]at h;obtain⟨h1,h2⟩:=z7X h0;obtain⟨i1,i2,i3⟩:=(z3T r (acc++[x])).1 h;refine⟨fun t ht=>?_,List.pairwise_cons.2 ⟨fun t ht=>i3 x (by simp) t ht,i2⟩,fun a ha t ht=>?_⟩
    ·rcases List.mem_cons.1 ht with rfl|ht
     ·exact h1
     ·exact i1 t ht
    ·rcases List.mem_cons.1 ht with rfl|ht
     ·exact knw_false.1 h2 a ha
     ·exact i3 a (by simp[ha]) t ht
   ·rw[if_neg h0]at h;exact absurd h h0
  ·rintro⟨h1,h2,h3⟩;have hx:stpF acc x=0:=by
    unfold stpF;rw[if_pos (h1 x (by simp)),knw_false.2 (fun a ha=>h3 a ha x (by simp))];rfl
   rw[if_pos hx];obtain⟨p1,p2⟩:=List.pairwise_cons.1 h2;refine(z3T r (acc++[x])).2 ⟨fun t ht=>h1 t (List.mem_cons_of_mem _ ht),p2,fun a ha t ht=>?_⟩;rcases List.mem_append.1 ha with ha|ha
   ·exact h3 a ha t (List.mem_cons_of_mem _ ht)
   ·rw[List.mem_singleton.1 ha];exact p1 t ht
theorem z04(ds:List TxnD):lstF ds=0↔ds.length≤40∧(∀t∈ds,t.F=0)∧ds.Pairwise (fun a b=>stF a b=false):=by
 unfold lstF;by_cases h:40<ds.length
 ·rw[if_pos h];constructor
  ·intro h;exact absurd h (by decide)
  ·intro h1;omega
 ·rw[if_neg h,z3T];constructor
  ·rintro⟨h1,h2,_⟩;exact⟨by omega,h1,h2⟩
  ·rintro⟨_,h1,h2⟩;exact⟨h1,h2,fun a ha=>by simp at ha⟩
theorem z7Y{qs:List TxnQ}(h:∀t∈qs.map TxnQ.e,t.F=0):nmL TxnQ.n qs≤4*qs.length:=by
 induction qs with
 |nil=>simp[nmL]
 |cons q r ih=>
  have h1:(TxnQ.e q).F=0:=h _ (by simp);have h2:=(z6S h1).2.2.2.1.2;have h3:q.acts.length≤4:=h2;have:=ih (fun t ht=>h t (by simp only[List.map_cons,List.mem_cons];exact Or.inr ht));simp only[nmL,List.map_cons,List.sum_cons,List.length_cons,TxnQ.n]at this⊢;omega
def repF(r:RepE):Int:=if 16<r.done.length∨8<r.tent.length then 2 else if lstF (r.done++r.tent)=0 then(if sameRep (mkR r.done r.tent) r=true then 0 else 8)else lstF (r.done++r.tent)
theorem z4V{r:RepE}(h:16<r.done.length∨8<r.tent.length):repF r=2:=by unfold repF;rw[if_pos h]
theorem z4W{r:RepE}(h:¬(16<r.done.length∨8<r.tent.length))(h2:lstF (r.done++r.tent)≠0):repF r=lstF (r.done++r.tent):=by unfold repF;rw[if_neg h,if_neg h2]
theorem z3r{r:RepE}(h:¬(16<r.done.length∨8<r.tent.length))(h2:lstF (r.done++r.tent)=0):repF r=if sameRep (mkR r.done r.tent) r=true then 0 else 8:=by unfold repF;rw[if_neg h,if_pos h2]
theorem z2C{r:RepE}(h:repF r=0):(r.done.length≤16∧r.tent.length≤8)∧lstF (r.done++r.tent)=0∧sameRep (mkR r.done r.tent) r=true:=by
 by_cases h1:16<r.done.length∨8<r.tent.length
 ·rw[z4V h1]at h;exact absurd h (by decide)
 ·by_cases h2:lstF (r.done++r.tent)=0
  ·rw[z3r h1 h2]at h;refine⟨by omega,h2,?_⟩;split at h
   ·assumption
   ·exact absurd h (by decide)
  ·rw[z4W h1 h2]at h;exact absurd h h2
theorem z8D{ds:List TxnD}(h:lstF ds=0):∀t∈ds,t.F=0:=((z04 ds).1 h).2.1
theorem z7Z{xs:List ItemD}{E:List TxnD}(hl:xs.length≤8)(g:Good xs)(hF:∀t∈E,t.F=0):∀u∈z4f xs E,u.length≤4:=by
 induction E generalizing xs with
 |nil=>intro u hu;simp[z4f,z0E]at hu
 |cons t r ih=>
  intro u hu;have ht:=hF t (by simp);simp only[z4f,z0E,List.map_cons,List.mem_cons]at hu;rcases hu with rfl|hu
  ·have hz:=z0P (show txnF t.id t.session t.seq t.acts=0 from ht);unfold z0G;split
   ·have:=(z3O hl g hz.2 (by assumption)).1;omega
   ·simp
  ·have g2:=z01 hl g ht;exact ih g2.1 g2.2 (fun t' h'=>hF t' (List.mem_cons_of_mem _ h')) u hu
theorem z3s{p:RepQ}{D E:List TxnD}(h:p.e=mkR D E)(hD:∀t∈D,t.F=0)(hE:∀t∈E,t.F=0)(lD:D.length≤40)(lE:E.length≤40):p.n≤1000:=by
 simp only[RepQ.e,mkR,RepE.mk.injEq]at h;obtain⟨h0,h1,h2,h3,h4⟩:=h;have g0:=z0R (xs:=[]) (by simp) z17 hD;have g1:=z0R g0.1 g0.2 hE;have n0:=z7Y (qs:=p.done) (by rw[h0];exact hD);have n2:=z7Y (qs:=p.tent) (by rw[h2];exact hE);have l0:p.done.length=D.length:=by simpa using congrArg List.length h0
 have l2:p.tent.length=E.length:=by simpa using congrArg List.length h2
 have l3:p.undos.length=E.length:=by
  have:=congrArg List.length h3;simpa[z4f,z5z]using this
 have n3:nmL USQ.n p.undos≤4*p.undos.length:=by
  have hu:∀u∈p.undos,u.us.length≤4:=fun u hu=>by
   have:u.us∈z4f (allI [] D) E:=by rw[←h3];exact List.mem_map.2 ⟨u,hu,rfl⟩
   exact z7Z g0.1 g0.2 hE _ this
  clear h3 l3;revert hu;generalize p.undos=U;intro hu;induction U with
  |nil=>simp[nmL]
  |cons u r ih=>
   have:=ih (fun v hv=>hu v (List.mem_cons_of_mem _ hv));have h4:=hu u (by simp);simp only[nmL,List.map_cons,List.sum_cons,List.length_cons,USQ.n]at this⊢;omega
 unfold RepQ.n;rw[h1,h4,l0,l2,l3];rw[l0]at n0;rw[l2]at n2;rw[l3]at n3;have:=g0.1;have:=g1.1;omega
structure Wrp (P:Prop):Prop where
 out:P
def misC(c:Int):Value:=if c=0 then .nilIface else .iface 188 (.agg #[.int .i64 c])
theorem z4x(c:Int)(w:World)(hg:ErrT w):Calls Tryz.prog 73 #[misC c] w fun e w'=>e=.returned (.int .i64 c)∧Below w.heap.size w w':=by
 unfold misC;by_cases h:c=0
 ·rw[if_pos h,h];exact z6t w
 ·rw[if_neg h];exact z6u c w hg
def z7t(p:RepQ)(w:World)(e:Ending)(w':World):Prop:=∃ (a0 a1 a2 a3:Option Addr) (l0 c0 l1 c1 l2 c2 l3 c3:Nat),e=.returned (.tuple #[.agg #[.slice a0 l0 c0,.slice a1 l1 c1,.slice a2 l2 c2,.slice a3 l3 c3],misC (repF p.e)])∧(repF p.e=0→∃w1,Below w.heap.size w w1∧RecPost w1 w' (.slice a0 l0 c0) (.slice a1 l1 c1) (.slice a2 l2 c2) (.slice a3 l3 c3) (p.done.map TxnQ.e) (p.tent.map TxnQ.e))∧Below w.heap.size w w'
theorem z7u{p:RepQ}{w w':World}{c:Int}{a0 a1 a2 a3:Option Addr}{l0 c0 l1 c1 l2 c2 l3 c3:Nat}(h:repF p.e=c)(hne:c≠0)(hb:Below w.heap.size w w'):z7t p w (.returned (.tuple #[.agg #[.slice a0 l0 c0,.slice a1 l1 c1,.slice a2 l2 c2,.slice a3 l3 c3],.iface 188 (.agg #[.int .i64 c])])) w':=
 ⟨a0,a1,a2,a3,l0,c0,l1,c1,l2,c2,l3,c3,by rw[h,show misC c=.iface 188 (.agg #[.int .i64 c])from if_neg hne],fun h0=>absurd (h.symm.trans h0) hne,hb⟩
theorem z9l{p:RepQ}{w w1 w':World}{a0 a1 a2 a3:Option Addr}{l0 c0 l1 c1 l2 c2 l3 c3:Nat}(h:repF p.e=0)(h1:Below w.heap.size w w1)(hp:RecPost w1 w' (.slice a0 l0 c0) (.slice a1 l1 c1) (.slice a2 l2 c2) (.slice a3 l3 c3) (p.done.map TxnQ.e) (p.tent.map TxnQ.e))(hb:Below w.heap.size w w'):z7t p w (.returned (.tuple #[.agg #[.slice a0 l0 c0,.slice a1 l1 c1,.slice a2 l2 c2,.slice a3 l3 c3],.nilIface])) w':=
 ⟨a0,a1,a2,a3,l0,c0,l1,c1,l2,c2,l3,c3,by rw[h];rfl,fun _=>⟨w1,h1,hp⟩,hb⟩
theorem RecPost.below{w w' w'':World}{vN iN vU iU:Value}{D E:List TxnD}(h:RecPost w w' vN iN vU iU D E)(hb:Below w'.heap.size w' w''):RecPost w w'' vN iN vU iU D E:=by
 obtain⟨ds,us,rb,B0,R,r⟩:=h;exact⟨ds,us,rb,B0,R.below hb,r⟩
theorem z3U(p:RepQ)(w:World)(h:repK.rd w p)(nd:z2o p.vd)(nt:z2o p.vt)(hl:p.n≤1048576):
  Calls Tryz.prog 87 #[.agg #[p.vd,p.vb,p.vt,p.vu,p.vn]] w (z7t p w):=by
 obtain⟨au,pd,ar,pb,aw,pt,ax,pu,av,pn⟩:=p;obtain⟨p0,p5,rfl⟩:∃a c,au=.slice a pd.length c:=h.1.shape;obtain⟨p1,p6,rfl⟩:∃a c,ar=.slice a pb.length c:=h.2.1.shape;obtain⟨p2,p7,rfl⟩:∃a c,aw=.slice a pt.length c:=h.2.2.1.shape;obtain⟨p3,p8,rfl⟩:∃a c,ax=.slice a pu.length c:=h.2.2.2.1.shape;obtain⟨p4,p9,rfl⟩:∃a c,av=.slice a pn.length c:=h.2.2.2.2.shape;dsimp only[RepQ.n]at hl;have n0:=nd _ _ _ rfl;have n2:=nt _ _ _ rfl;have HW:=True.intro;have hr:=fun(w':World) hb=>repK.rd_below (w':=w') h hb
 have O:Hid (z2o (.slice p0 pd.length p5)∧z2o (.slice p2 pt.length p7)):=⟨nd,nt⟩
 clear n0 n2 nd nt h HW;have d:Below w.heap.size w ((w.alloc (.cells #[.slice p0 pd.length p5,.slice p1 pb.length p6,.slice p2 pt.length p7,.slice p3 pu.length p8,.slice p4 pn.length p9] 57)).alloc (.cells #[.slice none 0 0,.slice none 0 0,.slice none 0 0,.slice none 0 0] 116)):=by go_grown
 have B:=(Blk.new w 57 #[.slice p0 pd.length p5,.slice p1 pb.length p6,.slice p2 pt.length p7,.slice p3 pu.length p8,.slice p4 pn.length p9]).below (w':=((w.alloc (.cells #[.slice p0 pd.length p5,.slice p1 pb.length p6,.slice p2 pt.length p7,.slice p3 pu.length p8,.slice p4 pn.length p9] 57)).alloc (.cells #[.slice none 0 0,.slice none 0 0,.slice none 0 0,.slice none 0 0] 116))) (by go_grown);have Bv:=Blk.new (w.alloc (.cells #[.slice p0 pd.length p5,.slice p1 pb.length p6,.slice p2 pt.length p7,.slice p3 pu.length p8,.slice p4 pn.length p9] 57)) 116 #[.slice none 0 0,.slice none 0 0,.slice none 0 0,.slice none 0 0];rw[World.size_alloc]at Bv;have aq:w.heap.size+2≤((w.alloc (.cells #[.slice p0 pd.length p5,.slice p1 pb.length p6,.slice p2 pt.length p7,.slice p3 pu.length p8,.slice p4 pn.length p9] 57)).alloc (.cells #[.slice none 0 0,.slice none 0 0,.slice none 0 0,.slice none 0 0] 116)).heap.size:=by simp only[World.size_alloc];omega
 have aD:(pd.length:Int)≤1048576:=by omega
 have aE:(pt.length:Int)≤1048576:=by omega
 have q0:=B.cell 0 _ rfl;have q2:=B.cell 2 _ rfl;go_enter Tryz.func87,Tryz.ntmps87;by_cases hm:16<pd.length∨8<pt.length
 ·have HC:Hid (repF (RepQ.e (⟨.slice p0 pd.length p5,pd,.slice p1 pb.length p6,pb,.slice p2 pt.length p7,pt,.slice p3 pu.length p8,pu,.slice p4 pn.length p9,pn⟩:RepQ))=2):=show _=_ from z4V (by simpa[RepQ.e]using hm)
  clear hr O;by_cases aA:16<pd.length
  focus
   have an:(16:Int)<(pd.length:Int):=by omega
  rotate_left
  focus
   have an:¬(16:Int)<(pd.length:Int):=by omega
   have i8:(8:Int)<(pt.length:Int):=by omega
  rotate_left
  all_goals
   obtain⟨z0,z1,z2,z3⟩:=Bv.cel4;obtain⟨y0,y1,y2,y3⟩:=Bv.frz4;have HB:Hid (∀u0 u1 u2 u3:Value,Below w.heap.size w ((((((w.alloc (.cells #[.slice p0 pd.length p5,.slice p1 pb.length p6,.slice p2 pt.length p7,.slice p3 pu.length p8,.slice p4 pn.length p9] 57)).alloc (.cells #[.slice none 0 0,.slice none 0 0,.slice none 0 0,.slice none 0 0] 116)).setCell ⟨w.heap.size+1,0,none⟩ u0).setCell ⟨w.heap.size+1,1,none⟩ u1).setCell ⟨w.heap.size+1,2,none⟩ u2).setCell ⟨w.heap.size+1,3,none⟩ u3)):=fun u0 u1 u2 u3=>(((d.setCell (p:=⟨w.heap.size+1,0,none⟩) (by show w.heap.size≤w.heap.size+1;omega) u0).setCell (p:=⟨w.heap.size+1,1,none⟩) (by show w.heap.size≤w.heap.size+1;omega) u1).setCell (p:=⟨w.heap.size+1,2,none⟩) (by show w.heap.size≤w.heap.size+1;omega) u2).setCell (p:=⟨w.heap.size+1,3,none⟩) (by show w.heap.size≤w.heap.size+1;omega) u3
   go_wp2
   exact bodyPost_ret (v:=.tuple #[.agg #[.slice none 0 0,.slice none 0 0,.slice none 0 0,.slice none 0 0],.iface 188 (.agg #[.int .i64 2])]) (by simp[results,Tryz.results87,go_sem,z0,z1,z2,z3]) rfl (z7u HC.out (by first|decide|exact V) d)
 have an:¬(16:Int)<(pd.length:Int):=by omega
 have i8:¬(8:Int)<(pt.length:Int):=by omega
 have az:pd.length≤16:=by omega
 have aC:pt.length≤8:=by omega
 have C:¬(16<(pd.map TxnQ.e).length∨8<(pt.map TxnQ.e).length):=by simpa using hm
 have z:Below ((w.alloc (.cells #[.slice p0 pd.length p5,.slice p1 pb.length p6,.slice p2 pt.length p7,.slice p3 pu.length p8,.slice p4 pn.length p9] 57)).alloc (.cells #[.slice none 0 0,.slice none 0 0,.slice none 0 0,.slice none 0 0] 116)).heap.size ((w.alloc (.cells #[.slice p0 pd.length p5,.slice p1 pb.length p6,.slice p2 pt.length p7,.slice p3 pu.length p8,.slice p4 pn.length p9] 57)).alloc (.cells #[.slice none 0 0,.slice none 0 0,.slice none 0 0,.slice none 0 0] 116)) (((w.alloc (.cells #[.slice p0 pd.length p5,.slice p1 pb.length p6,.slice p2 pt.length p7,.slice p3 pu.length p8,.slice p4 pn.length p9] 57)).alloc (.cells #[.slice none 0 0,.slice none 0 0,.slice none 0 0,.slice none 0 0] 116)).alloc (.cells #[.slice p0 pd.length p5,.slice p2 pt.length p7] 27)):=by go_grown
 have BC:=Blk.new ((w.alloc (.cells #[.slice p0 pd.length p5,.slice p1 pb.length p6,.slice p2 pt.length p7,.slice p3 pu.length p8,.slice p4 pn.length p9] 57)).alloc (.cells #[.slice none 0 0,.slice none 0 0,.slice none 0 0,.slice none 0 0] 116)) 27 #[.slice p0 pd.length p5,.slice p2 pt.length p7];simp only[World.size_alloc]at BC;have ak:=z1J (w.heap.size+1+1) 2 (.slice p0 pd.length p5) (.slice p2 pt.length p7) pd pt (((w.alloc (.cells #[.slice p0 pd.length p5,.slice p1 pb.length p6,.slice p2 pt.length p7,.slice p3 pu.length p8,.slice p4 pn.length p9] 57)).alloc (.cells #[.slice none 0 0,.slice none 0 0,.slice none 0 0,.slice none 0 0] 116)).alloc (.cells #[.slice p0 pd.length p5,.slice p2 pt.length p7] 27)) BC.lt (BC.cell 0 _ rfl) (BC.cell 1 _ rfl) ((hr _ (d.trans (z.mono d.size))).1) ((hr _ (d.trans (z.mono d.size))).2.2.1) O.out.1 O.out.2 (by omega);have ag:=Wrp.mk ak;have HR:=Wrp.mk hr;have HM:=Wrp.mk C;clear ak hr hm C O
 go_wp2_with fail
 clear q0 q2;have hr:=HR.out;have C:=HM.out;clear HR HM;replace B:=B.below z;replace Bv:=Bv.below z;replace d:=d.trans (z.mono d.size);have aH:w.heap.size+2≤(((w.alloc (.cells #[.slice p0 pd.length p5,.slice p1 pb.length p6,.slice p2 pt.length p7,.slice p3 pu.length p8,.slice p4 pn.length p9] 57)).alloc (.cells #[.slice none 0 0,.slice none 0 0,.slice none 0 0,.slice none 0 0] 116)).alloc (.cells #[.slice p0 pd.length p5,.slice p2 pt.length p7] 27)).heap.size:=by have:=z.size;omega
 clear z BC aq;generalize ((w.alloc (.cells #[.slice p0 pd.length p5,.slice p1 pb.length p6,.slice p2 pt.length p7,.slice p3 pu.length p8,.slice p4 pn.length p9] 57)).alloc (.cells #[.slice none 0 0,.slice none 0 0,.slice none 0 0,.slice none 0 0] 116)).alloc (.cells #[.slice p0 pd.length p5,.slice p2 pt.length p7] 27)=X at*;generalize hH:w.heap.size=H at*;refine ag.out.mono ?_;rintro e w2 ⟨vc,rfl,oc,I⟩;clear ag;replace B:=B.below I;replace Bv:=Bv.below I;replace d:=d.trans (I.mono (by omega));have aI:=I.size;have ad:txnK.At w2 vc (pd ++ pt):=Kind.at_of_row oc (fun q hq=>by
  have h2:=hr w2 d;rcases List.mem_append.1 hq with hq|hq
  ·exact h2.1.rdm hq
  ·exact h2.2.2.1.rdm hq)
 have M:=z1w vc (pd ++ pt) w2 ad (by
  have e:nmL TxnQ.n (pd++pt)=nmL TxnQ.n pd+nmL TxnQ.n pt:=by simp[nmL]
  rw[List.length_append,e];omega)
 obtain⟨ca,ck,rfl⟩:=ad.shape;clear ad oc I;rw[List.map_append,List.length_append]at M;by_cases hL:lstF (pd.map TxnQ.e++pt.map TxnQ.e)=0
 case neg=>
  have V:=hL;have HC:Hid (repF (RepQ.e (⟨.slice p0 pd.length p5,pd,.slice p1 pb.length p6,pb,.slice p2 pt.length p7,pt,.slice p3 pu.length p8,pu,.slice p4 pn.length p9,pn⟩:RepQ))=lstF (pd.map TxnQ.e++pt.map TxnQ.e)):=show _=_ from z4W (r:=⟨pd.map TxnQ.e,pb,pt.map TxnQ.e,pu.map USQ.e,pn⟩) C hL
  clear hr C;generalize lstF (pd.map TxnQ.e++pt.map TxnQ.e)=c at*;have aB:(c !=0)=true:=by simpa using V
  go_wp2_with fail
  refine M.mono ?_;rintro e w3 ⟨rfl,x⟩;replace Bv:=Bv.below x;replace d:=d.trans (x.mono (by omega));obtain⟨z0,z1,z2,z3⟩:=Bv.cel4;obtain⟨y0,y1,y2,y3⟩:=Bv.frz4;have HB:Hid (∀u0 u1 u2 u3:Value,Below H w ((((w3.setCell ⟨H+1,0,none⟩ u0).setCell ⟨H+1,1,none⟩ u1).setCell ⟨H+1,2,none⟩ u2).setCell ⟨H+1,3,none⟩ u3)):=fun u0 u1 u2 u3=>(((d.setCell (p:=⟨H+1,0,none⟩) (by show H≤H+1;omega) u0).setCell (p:=⟨H+1,1,none⟩) (by show H≤H+1;omega) u1).setCell (p:=⟨H+1,2,none⟩) (by show H≤H+1;omega) u2).setCell (p:=⟨H+1,3,none⟩) (by show H≤H+1;omega) u3
  go_wp2
  exact bodyPost_ret (v:=.tuple #[.agg #[.slice none 0 0,.slice none 0 0,.slice none 0 0,.slice none 0 0],.iface 188 (.agg #[.int .i64 c])]) (by simp[results,Tryz.results87,go_sem,z0,z1,z2,z3]) rfl (z7u HC.out (by first|decide|exact V) (by rw[hH];exact HB.out _ _ _ _))
 have y:=z8D hL;have T:∀t∈pd.map TxnQ.e,t.F=0:=fun t ht=>y t (List.mem_append_left _ ht)
 have U:∀t∈pt.map TxnQ.e,t.F=0:=fun t ht=>y t (List.mem_append_right _ ht)
 have gD:=z0R (xs:=[]) (by simp) z17 T;have gE:=z0R gD.1 gD.2 U;have N:=z3r (r:=⟨pd.map TxnQ.e,pb,pt.map TxnQ.e,pu.map USQ.e,pn⟩) C hL;dsimp only at N;rw[hL]at M;clear hL y C
 go_wp2_with fail
 refine M.mono ?_;rintro e w3 ⟨rfl,x⟩;replace B:=B.below x;replace Bv:=Bv.below x;replace d:=d.trans (x.mono (by omega));have aJ:=x.size;have ai:=d;clear x M;have al:=hr w3 d;have ab:=z09 (.slice p0 pd.length p5) (.slice p2 pt.length p7) pd pt w3 al.1 al.2.2.1 (fun q hq=>T _ (List.mem_map_of_mem hq)) (fun q hq=>U _ (List.mem_map_of_mem hq)) (by omega) (by omega);have q0:=B.cell 0 _ rfl;have q2:=B.cell 2 _ rfl
 go_wp2_with fail
 clear q0 q2;refine ab.mono ?_;rintro e w4 ⟨vN,iN,vU,iU,rfl,hP,E⟩;clear ab;replace B:=B.below E;replace Bv:=Bv.below E;have W:=E;replace d:=d.trans (E.mono (by omega));have aK:=E.size;obtain⟨ds,us,rb,B0,R,eD,eE,Z,aa⟩:=hP;obtain⟨na,nc,rfl⟩:=z0b R.oN;obtain⟨ua,uc,rfl⟩:=z0b R.oU;obtain⟨ia,ic,rfl⟩:=R.jN.shape;obtain⟨ja,jc,rfl⟩:=R.jU.shape;generalize D:allI [] (pd.map TxnQ.e)=xs at*;generalize ae:allI xs (pt.map TxnQ.e)=ys at*;have A:Below w4.heap.size w4 (w4.alloc (.cells #[.slice na ds.length nc,.slice ia xs.length ic,.slice ua us.length uc,.slice ja ys.length jc] 116)):=by go_grown
 have BR:=Blk.new w4 116 #[.slice na ds.length nc,.slice ia xs.length ic,.slice ua us.length uc,.slice ja ys.length jc];replace R:=R.below A;replace B:=B.below A;replace Bv:=Bv.below A;replace d:=d.trans (A.mono (by omega));have J:=W.trans (A.mono (by omega));have aL:=A.size;have ay:=BR.lt
 go_wp2_with fail
 clear A E W;generalize hY:w4.alloc (.cells #[.slice na ds.length nc,.slice ia xs.length ic,.slice ua us.length uc,.slice ja ys.length jc] 116)=Y at*;clear hY;generalize aF:w4.heap.size=rg at*;have ah:RecPost w3 Y (.slice na ds.length nc) (.slice ia xs.length ic) (.slice ua us.length uc) (.slice ja ys.length jc) (pd.map TxnQ.e) (pt.map TxnQ.e):=⟨ds,us,rb,B0,by rw[D,ae];exact R,eD,by rw[D];exact eE,Z,aa⟩
 have am:=hr Y d;obtain⟨f0,f1,f2,f3⟩:=BR.lts4;obtain⟨k0,k1,k2,k3,k4⟩:=B.lts5;have hW:Below Y.heap.size Y Y.drew:=(Below.refl _ _).drew;have ap:Nonempty (Lat Y):=⟨⟨Y,Below.refl _ _⟩⟩
 refine z0h (S:=fun w'=>∃u:Lat Y,w'=u.val) (by kernel_rfl) ?_;refine sgr [(0,1),(2,1)] 3 (by kernel_rfl) ⟨⟨_,hW⟩,rfl⟩ ?_;simp only[pkE];repeat go_big_quiet_step (fail)
 refine wpQuiet_nil ?_;refine cla 1 (some 38) 77 #[.agg #[.slice na ds.length nc,.slice ia xs.length ic,.slice ua us.length uc,.slice ja ys.length jc]] 2 (by kernel_rfl) ?_;refine(z3S w3 _ _ _ _ (pd.map TxnQ.e) (pt.map TxnQ.e) _ (ah.below hW) (J.trans (hW.mono J.size)) T U (by rw[List.length_map];omega) (by rw[List.length_map];omega) (by rw[D];exact gD.1) (by rw[D,ae];exact gE.1) (by rw[D];exact gD.2)).mono ?_;rintro e w9 ⟨r,rfl,er,ao,_,_,L⟩;replace hW:=hW.trans (L.mono hW.size);clear L;have rr:=repK.own_rd ao;have aG:=z3s er T U (by rw[List.length_map];omega) (by rw[List.length_map];omega);clear ao;refine⟨_,rfl,⟨⟨_,hW⟩,rfl⟩,?_⟩;simp only[Act.put,pjE];refine cla 3 (some 40) 34 #[.agg #[r.vd,r.vb,r.vt,r.vu,r.vn],.agg #[.slice p0 pd.length p5,.slice p1 pb.length p6,.slice p2 pt.length p7,.slice p3 pu.length p8,.slice p4 pn.length p9]] 1 (by kernel_rfl) ?_;refine(z1d r (⟨.slice p0 pd.length p5,pd,.slice p1 pb.length p6,pb,.slice p2 pt.length p7,pt,.slice p3 pu.length p8,pu,.slice p4 pn.length p9,pn⟩:RepQ) _ rr (repK.rd_below am hW) (by omega) (by dsimp only[RepQ.n];omega)).mono ?_;rintro e af ⟨rfl,L⟩;replace hW:=hW.trans (L.mono hW.size);clear L rr;rw[er];dsimp only[RepQ.e];refine⟨_,rfl,⟨⟨_,hW⟩,rfl⟩,?_⟩;simp only[Act.put,pjE];refine sgr [(4,1)] 0 (by kernel_rfl) ⟨⟨_,hW⟩,rfl⟩ ?_;simp only[pkE];repeat go_big_quiet_step (fail)
 refine wpQuiet_nil ?_;refine z0k (by kernel_rfl) ?_;clear f0 f1 f2 f3 k0 k1 k2 k3 k4 ap am er;replace BR:=BR.below hW;replace Bv:=Bv.below hW;replace R:=R.below hW;replace d:=d.trans (hW.mono (by omega));have aM:=hW.size;clear ah J
 cases hS:sameRep (mkR (pd.map TxnQ.e) (pt.map TxnQ.e)) ⟨pd.map TxnQ.e,pb,pt.map TxnQ.e,pu.map USQ.e,pn⟩with
 |false=>
  rw[hS]at N;have HC:Hid (repF (RepQ.e (⟨.slice p0 pd.length p5,pd,.slice p1 pb.length p6,pb,.slice p2 pt.length p7,pt,.slice p3 pu.length p8,pu,.slice p4 pn.length p9,pn⟩:RepQ))=8):=N;clear hW;obtain⟨z0,z1,z2,z3⟩:=Bv.cel4;obtain⟨y0,y1,y2,y3⟩:=Bv.frz4;have HB:Hid (∀u0 u1 u2 u3:Value,Below H w ((((af.setCell ⟨H+1,0,none⟩ u0).setCell ⟨H+1,1,none⟩ u1).setCell ⟨H+1,2,none⟩ u2).setCell ⟨H+1,3,none⟩ u3)):=fun u0 u1 u2 u3=>(((d.setCell (p:=⟨H+1,0,none⟩) (by show H≤H+1;omega) u0).setCell (p:=⟨H+1,1,none⟩) (by show H≤H+1;omega) u1).setCell (p:=⟨H+1,2,none⟩) (by show H≤H+1;omega) u2).setCell (p:=⟨H+1,3,none⟩) (by show H≤H+1;omega) u3
  go_wp2
  exact bodyPost_ret (v:=.tuple #[.agg #[.slice none 0 0,.slice none 0 0,.slice none 0 0,.slice none 0 0],.iface 188 (.agg #[.int .i64 8])]) (by simp[results,Tryz.results87,go_sem,z0,z1,z2,z3]) rfl (z7u HC.out (by first|decide|exact V) (by rw[hH];exact HB.out _ _ _ _))
 |true=>
  rw[hS]at N;have HC:Hid (repF (RepQ.e (⟨.slice p0 pd.length p5,pd,.slice p1 pb.length p6,pb,.slice p2 pt.length p7,pt,.slice p3 pu.length p8,pu,.slice p4 pn.length p9,pn⟩:RepQ))=0):=N;clear hW;obtain⟨z0,z1,z2,z3⟩:=Bv.cel4;obtain⟨y0,y1,y2,y3⟩:=Bv.frz4;obtain⟨x0,x1,x2,x3⟩:=BR.cel4;have HB:Hid (∀ u0 u1 u2 u3:Value,Below H w ((((af.setCell ⟨H + 1,0,none⟩ u0).setCell ⟨H + 1,1,none⟩ u1).setCell ⟨H + 1,2,none⟩ u2).setCell ⟨H + 1,3,none⟩ u3)∧RecPost w3 ((((af.setCell ⟨H + 1,0,none⟩ u0).setCell ⟨H + 1,1,none⟩ u1).setCell ⟨H + 1,2,none⟩ u2).setCell ⟨H + 1,3,none⟩ u3) (.slice na ds.length nc) (.slice ia xs.length ic) (.slice ua us.length uc) (.slice ja ys.length jc) (pd.map TxnQ.e) (pt.map TxnQ.e)):=fun u0 u1 u2 u3=>⟨(((d.setCell (p:=⟨H + 1,0,none⟩) (by show H≤H + 1;omega) u0).setCell (p:=⟨H + 1,1,none⟩) (by show H≤H + 1;omega) u1).setCell (p:=⟨H + 1,2,none⟩) (by show H≤H + 1;omega) u2).setCell (p:=⟨H + 1,3,none⟩) (by show H≤H + 1;omega) u3,⟨ds,us,rb,B0,by
   rw[D,ae];exact (((R.other (by omega) (by omega) 0 u0).other (by omega) (by omega) 1 u1).other (by omega) (by omega) 2 u2).other (by omega) (by omega) 3 u3,eD,by rw [D];exact eE,Z,aa⟩⟩
  have aj:Below H w w3:=ai;clear R Bv BR d
  go_wp2
  exact bodyPost_ret (v:=.tuple #[.agg #[.slice na ds.length nc,.slice ia xs.length ic,.slice ua us.length uc,.slice ja ys.length jc],.nilIface]) (by simp[results,Tryz.results87,go_sem,z0,z1,z2,z3]) rfl (z9l HC.out (by rw[hH];exact aj) (HB.out _ _ _ _).2 (by rw[hH];exact(HB.out _ _ _ _).1))
theorem z2a(p:RepQ)(w:World)(hg:ErrT w)(h:repK.rd w p)(nd:z2o p.vd)(nt:z2o p.vt)(hl:p.n≤1048576):
  Calls Tryz.prog 32 #[.agg #[p.vd,p.vb,p.vt,p.vu,p.vn]] w fun e w'=>e=.returned (.int .i64 (repF p.e))∧Below w.heap.size w w':=by
 have z:=fun w h=>z3U p w h nd nt hl
 have hr:=fun(w':World) hb=>repK.rd_below (w':=w') h hb
 obtain⟨L,pd,J,pb,N,pt,O,pu,M,pn⟩:=p;obtain⟨p0,p5,rfl⟩:∃a c,L=.slice a pd.length c:=h.1.shape;obtain⟨p1,p6,rfl⟩:∃a c,J=.slice a pb.length c:=h.2.1.shape;obtain⟨p2,p7,rfl⟩:∃a c,N=.slice a pt.length c:=h.2.2.1.shape;obtain⟨p3,p8,rfl⟩:∃a c,O=.slice a pu.length c:=h.2.2.2.1.shape;obtain⟨p4,p9,rfl⟩:∃a c,M=.slice a pn.length c:=h.2.2.2.2.shape;dsimp only at z hr;have d:Below w.heap.size w (w.alloc (.cells #[.slice p0 pd.length p5,.slice p1 pb.length p6,.slice p2 pt.length p7,.slice p3 pu.length p8,.slice p4 pn.length p9] 57)):=by go_grown
 have B:=Blk.new w 57 #[.slice p0 pd.length p5,.slice p1 pb.length p6,.slice p2 pt.length p7,.slice p3 pu.length p8,.slice p4 pn.length p9];obtain⟨q0,q1,q2,q3,q4⟩:=B.cel5;go_enter Tryz.func32,Tryz.ntmps32
 go_wp2_with fail
 clear q0 q1 q2 q3 q4 B;have D:=hg.below d;have I:=hr _ d;generalize w.alloc (.cells #[.slice p0 pd.length p5,.slice p1 pb.length p6,.slice p2 pt.length p7,.slice p3 pu.length p8,.slice p4 pn.length p9] 57)=W at*;refine(z W I).mono ?_;rintro e w2 ⟨a0,a1,a2,a3,l0,c0,l1,c1,l2,c2,l3,c3,rfl,_,x⟩;replace d:=d.trans (x.mono d.size);have E:=D.below x;have y:Below w2.heap.size w2 (w2.alloc (.cells #[.slice a0 l0 c0,.slice a1 l1 c1,.slice a2 l2 c2,.slice a3 l3 c3] 116)):=by go_grown
 have A:=z4x (repF (RepQ.e (⟨.slice p0 pd.length p5,pd,.slice p1 pb.length p6,pb,.slice p2 pt.length p7,pt,.slice p3 pu.length p8,pu,.slice p4 pn.length p9,pn⟩:RepQ))) _ (E.below y);replace d:=d.trans (y.mono d.size);dsimp only[RepQ.e]at A⊢;generalize repF _=c at*;generalize misC c=m at*
 go_wp2_with fail
 refine A.mono ?_;rintro e w4 ⟨rfl,C⟩;replace d:=d.trans (C.mono d.size)
 go_wp2
 go_ret;exact⟨rfl,d⟩
theorem z7v(ds:List TxnD)(xs:List ItemD)(t:TxnD):z4f xs (ds++[t])=z4f xs ds++[z0G (allI xs ds) t.acts]:=by
 unfold z4f;rw[z16,List.map_append];rfl
theorem z6D(ia:Option Addr)(ic:Nat)(xs:List ItemD)(v:Value)(ts:List TxnQ)(w:World)(h:itemK.At w (.slice ia xs.length ic) xs)(hN:z4Q ia xs.length ic)(ht:txnK.At w v ts)(hF:∀p∈ts,(TxnQ.e p).F=0)(hl:ts.length≤40)(h8:xs.length≤8)(g:Good xs):
  Calls Tryz.prog 186 #[.slice ia xs.length ic,v] w fun e w'=>∃ (ua:Option Addr) (uc:Nat) (na:Option Addr) (nc:Nat) (us:List USQ) (ys:List ItemD),e=.returned (.tuple #[.slice ua us.length uc,.slice na ys.length nc])∧us.map USQ.e=z4f xs (ts.map TxnQ.e)∧ys=allI xs (ts.map TxnQ.e)∧ussK.Own w' (.slice ua us.length uc) us∧itemK.Own w' (.slice na ys.length nc) ys∧(ussK.fp (.slice ua us.length uc) us).Nodup∧(∀k∈ussK.fp (.slice ua us.length uc) us,w.heap.size≤k∧k∉blk (.slice na ys.length nc))∧(∀k∈blk (.slice na ys.length nc),w.heap.size≤k)∧Below w.heap.size w w':=by
 obtain⟨a,cap,rfl⟩:=ht.shape;obtain⟨i0,hi,bb,bc,bd⟩:=info_parts z1n;obtain⟨j0,hj,a7,a8,ba⟩:=info_parts z4k;have ay:Below w.heap.size w ((w.alloc (.cells #[] 137)).alloc (.cells #[] 135)):=by go_grown
 have oU:=World.ownsRow_lit (e:=137) (size:=1) w #[] 0 (Nat.le_refl _) (by decide) rfl;have aL:Below (w.alloc (.cells #[] 137)).heap.size (w.alloc (.cells #[] 137)) ((w.alloc (.cells #[] 137)).alloc (.cells #[] 135)):=by go_grown
 have aS:=z0a oU aL;have oI:=World.ownsRow_lit (e:=135) (size:=2) (w.alloc (.cells #[] 137)) #[] 0 (Nat.le_refl _) (by decide) rfl;simp only[World.size_alloc]at oI;obtain⟨_,_,e1,l1,_⟩:=h.below ay;simp only[Value.slice.injEq,true_and]at e1;obtain⟨rfl,rfl⟩:=e1;have x1:([]:List ItemD).length+xs.length≤maxLen:=by unfold maxLen;rw[List.length_nil];omega
 have x2:(([]:List ItemD).length+xs.length)*16≤140737488355328:=by rw[List.length_nil];omega
 have aR:w.heap.size+1≤((w.alloc (.cells #[] 137)).alloc (.cells #[] 135)).heap.size:=by simp only[World.size_alloc];omega
 have bh:(ts.length:Int)≤40:=by omega
 have bf:(xs.length:Int)≤8:=by omega
 go_enter Tryz.func186,Tryz.ntmps186
 go_wp2_with (at_builtin;refine z0Q (K:=itemK) _ rfl _ _ 54 rfl i0 (.agg #[.int .i64 0,.int .i64 0]) 16 Tryz.underlying54 hi bb bc bd rfl (by decide) (w.heap.size+1) _ [] rfl oI _ xs _ rfl l1 (z1g xs) hN x1 x2 aR ?_)
 intro v' w2 A d;try simp only[List.nil_append]at A
 have aK:Below w.heap.size w w2:=ay.grown d (by omega) (fun k hk=>by have:=(oI.lt k hk).1;omega);have aT:=aS.kept d (Or.inr (by simp[Value.ownBlock]));obtain⟨a2,c2,rfl⟩:=z0b A;obtain⟨o2,k2⟩:=z0y A;obtain⟨u2,m2⟩:=z0y aT;clear d oI l1 A oU aS aT ay aL x1 x2 aR;have aJ:ussK.Own w2 (.slice (some ⟨w.heap.size,0,none⟩) 0 0) ([]:List USQ):=⟨u2,fun p hp=>by simp at hp⟩
 have aI:itemK.Own w2 (.slice a2 xs.length c2) xs:=⟨o2,fun _ _=>trivial⟩
 have aH:ussK.fp (.slice (some ⟨w.heap.size,0,none⟩) 0 0) ([]:List USQ)=[w.heap.size]:=by simp[Kind.fp,blk,Value.ownBlock]
 have aE:Hid ((ussK.fp (.slice (some ⟨w.heap.size,0,none⟩) 0 0) ([]:List USQ)).Nodup∧(∀k∈ussK.fp (.slice (some ⟨w.heap.size,0,none⟩) 0 0) ([]:List USQ),w.heap.size≤k∧k∉blk (.slice a2 xs.length c2))∧∀k∈blk (.slice a2 xs.length c2),w.heap.size≤k):=by
  rw[aH];refine⟨by simp,fun k hk=>?_,fun k hk=>by have:=k2 k hk;omega⟩;simp only[List.mem_singleton]at hk;subst hk;exact⟨Nat.le_refl _,fun e=>by have:=k2 _ e;omega⟩
 have aD:Hid (([]:List USQ).map USQ.e=z4f xs ((ts.map TxnQ.e).take 0)∧xs=allI xs ((ts.map TxnQ.e).take 0)∧xs.length≤8∧Good xs):=⟨rfl,rfl,h8,g⟩
 clear o2 k2 u2 m2 aH h8 g
 go_wp2
 go_loopw[6,7,8] (fun vu vn j wr=>∃ (k:Nat) (us:List USQ) (ys:List ItemD),k≤ts.length∧j=.int .i64 k∧ussK.Own wr vu us∧itemK.Own wr vn ys∧Hid (us.map USQ.e=z4f xs ((ts.map TxnQ.e).take k)∧ys=allI xs ((ts.map TxnQ.e).take k)∧ys.length≤8∧Good ys)∧Hid ((ussK.fp vu us).Nodup∧(∀x∈ussK.fp vu us,w.heap.size≤x∧x∉blk vn)∧∀x∈blk vn,w.heap.size≤x)∧Below w.heap.size w wr) (fun _ _ j _=>ts.length-(intOf j).toNat)
 case atStart=>exact⟨0,[],xs,Nat.zero_le _,rfl,aJ,aI,aD,aE,aK⟩
 case round=>
  clear aJ aI aD aE aK;obtain⟨k,us,ys,hk,rfl,hO,hI,HD,HN,hb⟩:=hrel;obtain⟨sa,sc,rfl⟩:=hO.shape;obtain⟨ya,yc,rfl⟩:=hI.shape;have aF:Hid (us.length≤40):=by
   have:=congrArg List.length HD.out.1;rw[List.length_map,z4f,List.length_map,z5z,List.length_take]at this;show us.length≤40;omega
  by_cases az:k<ts.length
  ·obtain⟨b,aA,rfl,bg,aM,ab⟩:=(ht.below hb).cell (by decide) k az;have Y:∀j x,(txnK.cells ts[k])[j]?=some x→wr.cell? ⟨b,aA+k*4+j,none⟩=some x:=aM;have c0:=Y 0 (.int .i64 ts[k].i) rfl;have c1:=Y 1 (.int .i64 ts[k].s) rfl;have aq:=Y 2 (.int .i64 ts[k].q) rfl;have c3:=Y 3 (ts[k].va) rfl;rw[Nat.add_zero]at c0;have ar:=hF ts[k] (List.getElem_mem az);have ao:=z7q ts k az;have aP:(k:Int)<(ts.length:Int):=by omega
   clear aM Y;generalize ts[k]=p at*;obtain⟨i,s,q,va,c⟩:=p;replace ab:actK.At wr va c:=ab;obtain⟨ta,tc,rfl⟩:=ab.shape;dsimp only[TxnQ.e]at c0 c1 aq c3 ar ao;have aG:Box4 wr b (aA+k*4) (.int .i64 i) (.int .i64 s) (.int .i64 q) (.slice ta c.length tc):=⟨c0,c1,aq,c3⟩
   have aN:=z7W ya yc ys b (aA+k*4) i s q ta tc c wr (z07 hI.at).2 (hI.niceV _ _ _ rfl) aG (z0K ab).2 HD.out.2.2.1 HD.out.2.2.2 ar;have an:Hid (∀p':USQ,p'.us=z0G ys c→(us++[p']).map USQ.e=z4f xs ((ts.map TxnQ.e).take (k+1))∧nextI ys ⟨i,s,q,c⟩=allI xs ((ts.map TxnQ.e).take (k+1))∧(nextI ys ⟨i,s,q,c⟩).length≤8∧Good (nextI ys ⟨i,s,q,c⟩)):=fun p' aZ=>by
    obtain⟨d1,d2,d3,d4⟩:=HD.out;have g:=z01 d3 d4 ar;rw[ao,z7v,z2B,←d2,List.map_append,d1];exact⟨by rw[←aZ];rfl,rfl,g.1,g.2⟩
   have J:=z8B (xs:=ys) (t:=⟨i,s,q,c⟩);dsimp only at J;clear c0 c1 aq c3 aG ab ao
   go_wp2_with fail
   refine aN.mono ?_;rintro e w5 ⟨ub,uc,jb,jc,rfl,hU,T⟩;clear aN;obtain⟨ou,lu⟩:=z1X hU.o1;obtain⟨oi,li⟩:=z1X hU.o2;have ax:=hU.ap;have aW:∀x∈blk (.slice jb (runR ys c).length jc),x<w5.heap.size:=z0H oi;clear hU;have N:=hO.lt;have al:∀x∈blk (.slice ya ys.length yc),x<wr.heap.size:=z0H hI.1;have bk:=hb.size;replace hO:=hO.below T;replace hI:=hI.below T;replace hb:=hb.trans (T.mono hb.size);have bi:=T.size;have D:Below w5.heap.size w5 (w5.alloc (.cells #[.int .i64 (z0x ys c).1,.int .i64 (runV ys c),.slice ub (z0G ys c).length uc,.slice jb (runR ys c).length jc] 198)):=by go_grown
   have BR:=Blk.new w5 198 #[.int .i64 (z0x ys c).1,.int .i64 (runV ys c),.slice ub (z0G ys c).length uc,.slice jb (runR ys c).length jc];have r2:=BR.cell 2 _ rfl;have I:Below (w5.alloc (.cells #[.int .i64 (z0x ys c).1,.int .i64 (runV ys c),.slice ub (z0G ys c).length uc,.slice jb (runR ys c).length jc] 198)).heap.size (w5.alloc (.cells #[.int .i64 (z0x ys c).1,.int .i64 (runV ys c),.slice ub (z0G ys c).length uc,.slice jb (runR ys c).length jc] 198)) ((w5.alloc (.cells #[.int .i64 (z0x ys c).1,.int .i64 (runV ys c),.slice ub (z0G ys c).length uc,.slice jb (runR ys c).length jc] 198)).alloc (.cells #[.slice ub (z0G ys c).length uc] 137)):=by go_grown
   have aj:=BR.below I;have be:=BR.lt;have ag:=(hO.below D).below I;have av:=(hI.below D).below I;have aV:undoK.Own w5 (.slice ub (z0G ys c).length uc) (z0G ys c):=⟨ou,fun _ _=>trivial⟩
   have aU:itemK.Own w5 (.slice jb (runR ys c).length jc) (runR ys c):=⟨oi,fun _ _=>trivial⟩
   have aw:ussK.own _ (⟨.slice ub (z0G ys c).length uc,z0G ys c⟩:USQ):=(Kind.Own.below (Kind.Own.below aV D) I)
   have aB:=Kind.Own.below (Kind.Own.below aU D) I;clear aV aU;have X:=(hb.trans (D.mono (by omega))).trans (I.mono (by have:=D.size;omega));have bj:w5.heap.size+2≤((w5.alloc (.cells #[.int .i64 (z0x ys c).1,.int .i64 (runV ys c),.slice ub (z0G ys c).length uc,.slice jb (runR ys c).length jc] 198)).alloc (.cells #[.slice ub (z0G ys c).length uc] 137)).heap.size:=by simp only[World.size_alloc];omega
   have ad:=ag.1;clear hO hI ou oi I hb
   go_wp2_with (at_builtin;refine wpList_append_own_at _ rfl _ _ 55 rfl 0 137 j0 (.slice none 0 0) 1 24 Tryz.underlying55 hj a7 a8 ba rfl (by decide) _ us.length (ussK.row us) rfl ad ⟨w5.heap.size+1,0,none⟩ 1 1 [.slice ub (z0G ys c).length uc] rfl rfl ?c1 ?c2 ?c3 ?c4 ?c5 ?_)
   all_goals try(case c1=>intro j u hj;match j,hj with|0,hj=>simp at hj;subst hj;simp[Addr.add])
   all_goals try(case c2=>intro u hu;simp at hu;subst hu;rfl)
   all_goals try(case c3=>have:=aF.out;unfold maxLen;omega)
   all_goals try(case c4=>have:=aF.out;omega)
   all_goals try(case c5=>first|omega|simp)
   intro v' w6 A d aQ W;clear aQ ad r2;rw[show w5.heap.size+1+1=((w5.alloc (.cells #[.int .i64 (z0x ys c).1,.int .i64 (runV ys c),.slice ub (z0G ys c).length uc,.slice jb (runR ys c).length jc] 198)).alloc (.cells #[.slice ub (z0G ys c).length uc] 137)).heap.size from by simp only[World.size_alloc]]at W;generalize a1:(w5.alloc (.cells #[.int .i64 (z0x ys c).1,.int .i64 (runV ys c),.slice ub (z0G ys c).length uc,.slice jb (runR ys c).length jc] 198)).alloc (.cells #[.slice ub (z0G ys c).length uc] 137)=WA at*;clear a1;have C:∀x∈ussK.foot (⟨.slice ub (z0G ys c).length uc,z0G ys c⟩:USQ),wr.heap.size≤x:=fun x hx=>by
    have V:x∈undoK.fp (.slice ub (z0G ys c).length uc) (z0G ys c):=hx;rw[z0S]at V;exact lu x V
   obtain⟨O,Z,E,U⟩:=ag.snoc HN.out.1 (fun x hx=>(HN.out.2.1 x hx).1) aw (by show(undoK.fp _ _).Nodup;rw[z0S];exact z0D _) (fun x hx V=>by have:=N x V;have:=C x hx;omega) (fun x hx=>by have:=C x hx;omega) X.size A d W;have ah:Below w.heap.size w w6:=Out.keep X U X.size (fun x hx=>(HN.out.2.1 x (by simp only[Kind.fp,List.mem_append];exact Or.inl hx)).1);obtain⟨a6,c6,rfl⟩:=O.shape;have L:∀x∈ussK.fp (.slice a6 (us++[(⟨.slice ub (z0G ys c).length uc,z0G ys c⟩:USQ)]).length c6) (us++[(⟨.slice ub (z0G ys c).length uc,z0G ys c⟩:USQ)]),x∈ussK.fp (.slice sa us.length sc) us∨x∈blk (.slice ub (z0G ys c).length uc)∨w5.heap.size+1<x:=fun x hx=>by
    simp only[Kind.fp,List.mem_append,List.flatMap_append,List.flatMap_cons,List.flatMap_nil,List.append_nil]at hx;rcases hx with hx|hx|hx
    ·rcases z2p (B0:=0) (H:=WA.heap.size) (v:=.slice sa us.length sc) (by rcases W with h|h;exact Or.inl h;exact Or.inr ⟨_,h,Nat.le_refl _⟩) hx with e|e
     ·exact Or.inl (by simp only[Kind.fp,List.mem_append];exact Or.inl e)
     ·exact Or.inr (Or.inr (by omega))
    ·exact Or.inl (by simp only[Kind.fp,List.mem_append];exact Or.inr hx)
    ·refine Or.inr (Or.inl ?_);have V:x∈undoK.fp (.slice ub (z0G ys c).length uc) (z0G ys c):=hx
     rwa [z0S]at V
   have aa:=aB.out U (fun x hx e=>by
    rw[z0s]at hx;have:=li x hx;have:=N x (by simp only[Kind.fp,List.mem_append];exact Or.inl e);omega)
   have au:=av.out U (fun x hx e=>by
    rw[z0s]at hx;exact (HN.out.2.1 x (by simp only [Kind.fp,List.mem_append];exact Or.inl e)).2 hx)
   have ae:=aj.outs8 U (fun e=>by have:=N _ (show w5.heap.size∈ussK.fp (.slice sa us.length sc) us by simp only[Kind.fp,List.mem_append];exact Or.inl e);omega);have n0:=ae.cell 0 _ rfl;have n3:=ae.cell 3 _ rfl;have af:=an.out ⟨.slice ub (z0G ys c).length uc,z0G ys c⟩ rfl;have aC:∀x∈blk (.slice jb (runR ys c).length jc),x<w5.heap.size:=fun x hx=>aW x hx
   have ai:∀x∈blk (.slice jb (runR ys c).length jc),x∉ussK.fp (.slice a6 (us++[(⟨.slice ub (z0G ys c).length uc,z0G ys c⟩:USQ)]).length c6) (us++[(⟨.slice ub (z0G ys c).length uc,z0G ys c⟩:USQ)]):=fun x hx hm=>by
    rcases L x hm with e|e|e
    ·have:=N x e;have:=li x hx;omega
    ·rcases ax with h0|h0
     ·unfold blk at e;rw[h0]at e;simp at e
     ·unfold blk at e hx;apply h0
      cases hu:(Value.slice ub (z0G ys c).length uc).ownBlock with
      |none=>rw[hu]at e;simp at e
      |some y=>
       cases hv:(Value.slice jb (runR ys c).length jc).ownBlock with
       |none=>rw[hv]at hx;simp at hx
       |some z=>
        rw[hu]at e;rw[hv]at hx;simp only[Option.toList,List.mem_singleton]at e hx;rw[←e,←hx]
    ·have:=aC x hx;omega
   have M:∀x∈blk (.slice ya ys.length yc),x∉ussK.fp (.slice a6 (us++[(⟨.slice ub (z0G ys c).length uc,z0G ys c⟩:USQ)]).length c6) (us++[(⟨.slice ub (z0G ys c).length uc,z0G ys c⟩:USQ)]):=fun x hx hm=>by
    have bl:=al x hx;rcases L x hm with e|e|e
    ·exact(HN.out.2.1 x e).2 hx
    ·have:=lu x e;omega
    ·omega
   have aO:(us++[(⟨.slice ub (z0G ys c).length uc,z0G ys c⟩:USQ)]).length=us.length+1:=by simp
   rw[aO]at O Z E ai M⊢;by_cases hc:(z0x ys c).1=0
   ·rw[if_pos hc]at J;have ak:Hid ((us++[(⟨.slice ub (z0G ys c).length uc,z0G ys c⟩:USQ)]).map USQ.e=z4f xs ((ts.map TxnQ.e).take (k+1))∧runR ys c=allI xs ((ts.map TxnQ.e).take (k+1))∧(runR ys c).length≤8∧Good (runR ys c)):=by rw[←J];exact af
    have am:Hid ((ussK.fp (.slice a6 (us.length+1) c6) (us++[(⟨.slice ub (z0G ys c).length uc,z0G ys c⟩:USQ)])).Nodup∧(∀x∈ussK.fp (.slice a6 (us.length+1) c6) (us++[(⟨.slice ub (z0G ys c).length uc,z0G ys c⟩:USQ)]),w.heap.size≤x∧x∉blk (.slice jb (runR ys c).length jc))∧∀x∈blk (.slice jb (runR ys c).length jc),w.heap.size≤x):=⟨Z,fun x hx=>⟨E x hx,fun e=>ai x e hx⟩,fun x hx=>by have:=li x hx;omega⟩
    have HR:Hid (_∧_∧_):=⟨O,aa,ah⟩
    have aX:((z0x ys c).1==0)=true:=by simpa using hc
    clear O aa ah au av aB aw ag A d W U HN HD an af ai M L C BR aj ae X T N al li lu Z E aC ax J D
    go_wp2
    go_roundw
    case rel=>exact⟨k+1,_,_,by omega,by go_num,HR.out.1,HR.out.2.1,ak,am,HR.out.2.2⟩
    case measure=>simp[intOf];omega
   ·rw[if_neg hc]at J;have ak:Hid ((us++[(⟨.slice ub (z0G ys c).length uc,z0G ys c⟩:USQ)]).map USQ.e=z4f xs ((ts.map TxnQ.e).take (k+1))∧ys=allI xs ((ts.map TxnQ.e).take (k+1))∧ys.length≤8∧Good ys):=by
     have:=af;rw[J]at this;exact this
    have am:Hid ((ussK.fp (.slice a6 (us.length+1) c6) (us++[(⟨.slice ub (z0G ys c).length uc,z0G ys c⟩:USQ)])).Nodup∧(∀x∈ussK.fp (.slice a6 (us.length+1) c6) (us++[(⟨.slice ub (z0G ys c).length uc,z0G ys c⟩:USQ)]),w.heap.size≤x∧x∉blk (.slice ya ys.length yc))∧∀x∈blk (.slice ya ys.length yc),w.heap.size≤x):=⟨Z,fun x hx=>⟨E x hx,fun e=>M x e hx⟩,HN.out.2.2⟩
    have HR:Hid (_∧_∧_):=⟨O,au,ah⟩
    have aX:((z0x ys c).1==0)=false:=by simpa using hc
    clear O aa ah au av aB aw ag A d W U HN HD an af ai M L C BR aj ae X T N al li lu Z E aC ax J D
    go_wp2
    go_roundw
    case rel=>exact⟨k+1,_,_,by omega,by go_num,HR.out.1,HR.out.2.1,ak,am,HR.out.2.2⟩
    case measure=>simp[intOf];omega
  ·have aY:k=ts.length:=by omega
   subst aY;have aP:¬((ts.length:Int)<(ts.length:Int)):=by omega
   obtain⟨d1,d2,_,_⟩:=HD.out;rw[List.take_of_length_le (by simp)]at d1 d2;have HP:Hid (_∧_):=⟨d1,d2⟩
   clear HD d1 d2
   go_wp2
   exact bodyPost_ret (v:=.tuple #[.slice sa us.length sc,.slice ya ys.length yc]) (by simp[results,Tryz.results186,go_sem]) rfl ⟨sa,sc,ya,yc,us,ys,rfl,HP.out.1,HP.out.2,hO,hI,HN.out.1,HN.out.2.1,HN.out.2.2,hb⟩
section
open Go.Maps
theorem z3f{s t:Value}(h:∀g,s.ownBlock=some g→t.ownBlock=some g→False):s.ownBlock=none∨s.ownBlock≠t.ownBlock:=by
 cases e:s.ownBlock with
 |none=>exact Or.inl rfl
 |some g=>right;intro k;exact h g e k.symm
theorem Blk.otherG{w:World}{b g j:Nat}{t:TypeId}{cs:Array Value}{u:Value}(h:Blk w b t cs)(hne:b≠g):Blk (w.setCell ⟨g,j,none⟩ u) b t cs:=by
 unfold Blk at h⊢;rw[Below.heap_setCell _ _ _ _ (by dsimp only;omega)];exact h
section
variable {ops:Array Oper} {rest:List Oper} {o:Oper} {a:Act} {Q:Exit→Act→World→Prop}
theorem z3V(w:World)(z:o.guard=none)(s x:Operand)(ho:o.op=.call {callee:=.builtin .append,args:=#[s,x],argTypes:=#[54,54]})
  (hs:a.eval s=.slice none 0 0) (sa:Option Addr) (zs:List ItemD) (sc:Nat) (hx:a.eval x=.slice sa zs.length sc) (hr:ItemRow w sa zs) (hN:z4Q sa zs.length sc) (hl:zs.length≤1048576)
  (h:∀a' c' w',w'.ownsRow w.heap.size 135 2 (.slice a' zs.length c') zs.length (z0d zs)→Below w.heap.size w w'→wpList Tryz.prog ops Q rest (a.put o.dst (.slice a' zs.length c')) w'):wpList Tryz.prog ops Q (o::rest) a w:=by
 obtain⟨i0,hi,A,C,D⟩:=info_parts z1n;have d:=World.ownsRow_nil w w.heap.size 135 2;rcases hN with⟨ad,rfl⟩|⟨rfl,hn,rfl⟩
 ·refine wpList_append_own w z s x 54 ho w.heap.size 135 i0 (.agg #[.int .i64 0,.int .i64 0]) 2 16 Tryz.underlying54 hi A C D rfl (by decide) _ 0 [] hs d ad zs.length sc (z0d zs) hx (z1a zs) (z3M hr) (z1g zs) (by unfold maxLen;omega) (by omega) (Nat.le_refl _) ?_;intro v' w' c y _;simp only[Nat.zero_add,List.nil_append]at c;obtain⟨a',c',rfl⟩:=z0b c;exact h a' c' w' c ((Below.refl _ _).grown y (Nat.le_refl _) (fun k hk=>(d.lt k hk).1))
 ·have hz:zs=[]:=List.eq_nil_of_length_eq_zero hn;subst hz;refine wpList_append_own_none z s x 54 ho w.heap.size 135 i0 2 Tryz.underlying54 hi _ 0 [] hs d hx ?_;exact h _ _ w d (Below.refl _ _)
end
theorem z3W(a:Option Addr)(cap:Nat)(xs:List ItemD)(v:Value)(ds:List TxnD)(w:World)(h:ItemRow w a xs)(hN:z4Q a xs.length cap)(ht:TxnsAt w v ds)(hl:xs.length≤1048576)(bc:ds.length+z49 ds≤1048576):
  Calls Tryz.prog 30 #[.slice a xs.length cap,v] w fun e w'=>∃a1 c1 a2 c2 a3 c3,e=.returned (.agg #[.int .i64 (eaC xs ds),.slice a1 (eaCd xs ds).length c1,.slice a2 (eaVl xs ds).length c2,.slice a3 (eaI xs ds).length c3])∧
   OwnA w.heap.size w'.heap.size w' (.slice a1 (eaCd xs ds).length c1) (.slice a2 (eaVl xs ds).length c2) (.slice a3 (eaI xs ds).length c3) (eaCd xs ds) (eaVl xs ds) (eaI xs ds)∧Below w.heap.size w w':=by
 have hF:=fun w h=>z1p a cap xs w h hl
 have hI:=fun w h=>z4E v ds w h bc
 have bp:∀ (r:Int) (lb:Option Addr) (n lc:Nat) (w:World),Sem.run Tryz.prog (Instr.field 126 (.agg #[.int .i64 r,.slice lb n lc]) 0) w=.ok (.int .i64 r) w:=fun _ _ _ _ _=>by kernel_rfl
 have I:Below w.heap.size w (w.alloc (.cells #[.int .i64 0,.slice none 0 0,.slice none 0 0,.slice none 0 0] 64)):=by go_grown
 have B0:=Blk.new w 64 #[.int .i64 0,.slice none 0 0,.slice none 0 0,.slice none 0 0];by_cases h0:itemsF xs=0
 case neg=>
  obtain⟨e1,e2,e3,e4⟩:=z8g (ds:=ds) h0;rw[e1,e2,e3,e4];have aK:(itemsF xs !=0)=true:=by simpa using h0
  clear h0 e1 e2 e3 e4;generalize itemsF xs=r at hF aK;go_enter Tryz.func30,Tryz.ntmps30
  go_wp2_with fail
  generalize w.alloc (.cells #[.int .i64 0,.slice none 0 0,.slice none 0 0,.slice none 0 0] 64)=W0 at I B0;refine(hF _ (h.below I)).mono ?_;rintro e w1 ⟨rfl,hb⟩;replace B0:=B0.below hb;replace I:=I.trans (hb.mono I.size);clear hb;obtain⟨p0,p1,p2,p3⟩:=B0.cel4;obtain⟨f0,f1,f2,f3⟩:=B0.frz4;have ae:=B0.lt;clear B0
  go_wp2
  refine bodyPost_ret (v:=.agg #[.int .i64 r,.slice none 0 0,.slice none 0 0,.slice none 0 0]) (by simp[results,Tryz.results30,go_sem,p0,p1,p2,p3]) rfl ?_;refine⟨none,0,none,0,none,0,rfl,⟨OwnS.of (World.ownsRow_nil _ _ _ _),OwnS.of (World.ownsRow_nil _ _ _ _),OwnS.of (World.ownsRow_nil _ _ _ _),Apart3.nil⟩,?_⟩;repeat' (refine Below.setCell ?_ (by dsimp only;omega) _)
  exact I
 by_cases h2:idsC ds=0
 case neg=>
  obtain⟨e1,e2,e3,e4⟩:=z7n (ds:=ds) h0 h2;rw[e1,e2,e3,e4];have aK:(idsC ds !=0)=true:=by simpa using h2
  rw[h0]at hF;clear h0 h2 e1 e2 e3 e4;generalize idsC ds=r at hI aK;generalize idsR ds=L at hI;go_enter Tryz.func30,Tryz.ntmps30
  go_wp2_with fail
  generalize w.alloc (.cells #[.int .i64 0,.slice none 0 0,.slice none 0 0,.slice none 0 0] 64)=W0 at I B0;refine(hF _ (h.below I)).mono ?_;rintro e w1 ⟨rfl,hb⟩;replace B0:=B0.below hb;replace I:=I.trans (hb.mono I.size);clear hb
  go_wp2_with fail
  refine(hI _ (ht.below I)).mono ?_;rintro e w2 ⟨lb,lc,rfl,_,hb⟩;replace B0:=B0.below hb;replace I:=I.trans (hb.mono I.size);clear hb;obtain⟨p0,p1,p2,p3⟩:=B0.cel4;obtain⟨f0,f1,f2,f3⟩:=B0.frz4;have ae:=B0.lt;clear B0
  go_wp2
  refine bodyPost_ret (v:=.agg #[.int .i64 r,.slice none 0 0,.slice none 0 0,.slice none 0 0]) (by simp[results,Tryz.results30,go_sem,p0,p1,p2,p3]) rfl ?_;refine⟨none,0,none,0,none,0,rfl,⟨OwnS.of (World.ownsRow_nil _ _ _ _),OwnS.of (World.ownsRow_nil _ _ _ _),OwnS.of (World.ownsRow_nil _ _ _ _),Apart3.nil⟩,?_⟩;repeat' (refine Below.setCell ?_ (by dsimp only;omega) _)
  exact I
 obtain⟨h8,g⟩:=z1y h0;obtain⟨bj,hz⟩:=z4T h2;have HZ:Hid (∀t∈ds,t.F=0):=hz;have aY:Hid (eaC xs ds=0∧eaCd xs ds=z1B xs ds∧eaVl xs ds=z1C xs ds∧eaI xs ds=allI xs ds):=z7o h0 h2;rw[h0]at hF;rw[h2]at hI;clear h0 h2 hz;generalize idsR ds=L at hI;obtain⟨i0,hi,aU,aV,aW⟩:=info_parts z5I;go_enter Tryz.func30,Tryz.ntmps30
 go_wp2_with fail
 generalize w.alloc (.cells #[.int .i64 0,.slice none 0 0,.slice none 0 0,.slice none 0 0] 64)=W0 at I B0;refine(hF _ (h.below I)).mono ?_;rintro e w1 ⟨rfl,hb⟩;replace B0:=B0.below hb;replace I:=I.trans (hb.mono I.size);clear hb
 go_wp2_with fail
 refine(hI _ (ht.below I)).mono ?_;rintro e w2 ⟨lb,lc,rfl,_,hb⟩;replace B0:=B0.below hb;replace I:=I.trans (hb.mono I.size);clear hb;have aO:=h.below I;have aM:∀ (ops:Array Oper) (rest:List Oper) (o:Oper) (ak:Act) (Q:Exit→Act→World→Prop) (aN:o.guard=none) (sx x:Operand) (ho:o.op=.call {callee:=.builtin .append,args:=#[sx,x],argTypes:=#[54,54]}) (hs:ak.eval sx=.slice none 0 0) (hx:ak.eval x=.slice a xs.length cap)
   (hh:∀a' c' w',w'.ownsRow w2.heap.size 135 2 (.slice a' xs.length c') xs.length (z0d xs)→Below w2.heap.size w2 w'→wpList Tryz.prog ops Q rest (ak.put o.dst (.slice a' xs.length c')) w'),wpList Tryz.prog ops Q (o::rest) ak w2:=
  fun ops rest o ak Q aN sx x ho hs hx hh=>z3V w2 aN sx x ho hs a xs cap hx aO hN (by omega) hh
 go_wp2_with (at_builtin;refine aM _ _ _ _ _ rfl _ _ rfl rfl rfl ?_)
 intro af ag W3 ah hb;have aQ:=B0.lt;replace B0:=B0.below hb;have bh:=I.size;replace I:=I.trans (hb.mono I.size);have bf:=hb.size;have aT:=ht.below I;clear hb aM hF hI aO h hN ht;have aA:Below W3.heap.size W3 (W3.alloc (.cells #[.int .i64 0,.slice none 0 0,.slice none 0 0,.slice af xs.length ag] 64)):=by go_grown
 have ai:=Blk.new W3 64 #[.int .i64 0,.slice none 0 0,.slice none 0 0,.slice af xs.length ag];have aE:∀k,(Value.slice af xs.length ag).ownBlock=some k→k≠W3.heap.size:=fun k hk=>by have:=(ah.lt k hk).2;omega
 replace ah:=z0a ah aA;have ad:W3.heap.size+1≤(W3.alloc (.cells #[.int .i64 0,.slice none 0 0,.slice none 0 0,.slice af xs.length ag] 64)).heap.size:=by simp
 have aQ:w.heap.size<W3.heap.size:=by omega
 have be:=aT.shape;obtain⟨bv,bw,rfl⟩:=be
 go_wp2
 generalize W3.alloc (.cells #[.int .i64 0,.slice none 0 0,.slice none 0 0,.slice af xs.length ag] 64)=W4 at aA ai ah ad;have aD:Below W3.heap.size W3 W4:=aA;generalize bm:w2.heap.size=Z at*;have bu:∀k,k<ds.length→True:=fun _ _=>trivial
 generalize aC:W3.heap.size=ab at*;go_loopw[29] (fun j wr=>∃ (k:Nat) (c:List ItemD) (C V:List Int) (ca:Option Addr) (cc:Nat) (va:Option Addr) (vc:Nat) (ia:Option Addr) (ic:Nat),k≤ds.length∧j=.int .i64 k∧Blk wr ab 64 #[.int .i64 0,.slice ca C.length cc,.slice va V.length vc,.slice ia c.length ic]∧wr.ownsRow (ab+1) 2 1 (.slice ca C.length cc) C.length (C.map (Value.int .i64))∧wr.ownsRow (ab+1) 2 1 (.slice va V.length vc) V.length (V.map (Value.int .i64))∧wr.ownsRow Z 135 2 (.slice ia c.length ic) c.length (z0d c)∧Apart3 (.slice ca C.length cc) (.slice va V.length vc) (.slice ia c.length ic)∧(∀k,(Value.slice ia c.length ic).ownBlock=some k→k≠ab)∧Below ab W3 wr∧ab+1≤wr.heap.size∧Hid (c.length≤8∧Good c∧allI c (ds.drop k)=allI xs ds∧C++z1B c (ds.drop k)=z1B xs ds∧V++z1C c (ds.drop k)=z1C xs ds∧C.length=k∧V.length=k)) (fun j _=>ds.length-(intOf j).toNat)
 case atStart=>exact⟨0,xs,[],[],none,0,none,0,af,ag,Nat.zero_le _,rfl,ai,World.ownsRow_nil _ _ _ _,World.ownsRow_nil _ _ _ _,ah,⟨Or.inl rfl,Or.inl rfl,Or.inl rfl⟩,aE,aD,ad,⟨h8,g,by simp,by simp,by simp,rfl,rfl⟩⟩
 case round=>
  clear ai ah aD ad aE aA;obtain⟨k,c,C,V,ca,cc,va,vc,ia,ic,hk,rfl,N,o1,o2,o3,ap,ar,hb,bt,HG⟩:=hrel;have al:∀g,(Value.slice ca C.length cc).ownBlock=some g→g<wr.heap.size:=fun g hg=>(o1.lt g hg).2
  have am:∀g,(Value.slice va V.length vc).ownBlock=some g→g<wr.heap.size:=fun g hg=>(o2.lt g hg).2
  have bk:C.length≤60:=by have:=HG.out.2.2.2.2.2.1;omega
  have bl:V.length≤60:=by have:=HG.out.2.2.2.2.2.2;omega
  have bn:=HG.out.1;by_cases ae:k<ds.length
  ·obtain⟨b,Y,aa,tc,rfl,aq,t0,t1,t2,t3,hA⟩:=aT.at k ae;rw[aC]at aq;have aG:=HZ.out (ds.getD k z0n) (by simp[List.getD,ae]);have aX:(ds.getD k z0n).acts.length≤z49 ds:=z05 (by simp[List.getD,ae]);replace t0:wr.cell? ⟨b,Y+k*4,none⟩=_:=(hb.cell (p:=⟨b,Y+k*4,none⟩) aq).trans t0;replace t1:wr.cell? ⟨b,Y+k*4+1,none⟩=_:=(hb.cell (p:=⟨b,Y+k*4+1,none⟩) aq).trans t1;replace t2:wr.cell? ⟨b,Y+k*4+2,none⟩=_:=(hb.cell (p:=⟨b,Y+k*4+2,none⟩) aq).trans t2;replace t3:wr.cell? ⟨b,Y+k*4+3,none⟩=_:=(hb.cell (p:=⟨b,Y+k*4+3,none⟩) aq).trans t3;have ax:ActRow wr aa (ds.getD k z0n).acts:=hA.below (by rw[aC];exact hb);obtain⟨x1,x2,x3⟩:=z84 (z3F HG.out.1 HG.out.2.1) aG;have T:=fun w h hA=>z1W ia ic c (ds.getD k z0n).id (ds.getD k z0n).session (ds.getD k z0n).seq aa tc (ds.getD k z0n).acts w h hA (by omega) (by omega)
   rw[x1,x2,x3]at T;have aj:Hid ((nextI c (ds.getD k z0n)).length≤8∧Good (nextI c (ds.getD k z0n))∧allI (nextI c (ds.getD k z0n)) (ds.drop (k+1))=allI xs ds∧(C++[(z0x c (ds.getD k z0n).acts).1])++z1B (nextI c (ds.getD k z0n)) (ds.drop (k+1))=z1B xs ds∧(V++[runV c (ds.getD k z0n).acts])++z1C (nextI c (ds.getD k z0n)) (ds.drop (k+1))=z1C xs ds∧(C++[(z0x c (ds.getD k z0n).acts).1]).length=k+1∧(V++[runV c (ds.getD k z0n).acts]).length=k+1):=by
    obtain⟨g1,g2,g3,g4,g5,g6,g7⟩:=HG.out;rw[z6b ae]at g3 g4 g5;obtain⟨n1,n2⟩:=z01 g1 g2 aG;exact⟨n1,n2,g3,by simpa[z1B]using g4,by simpa[z1C]using g5,by simp[g6],by simp[g7]⟩
   have av:Hid ((z0x c (ds.getD k z0n).acts).1=0→runR c (ds.getD k z0n).acts=nextI c (ds.getD k z0n)):=fun h=>by unfold runR nextI;rw[if_pos h,if_pos h]
   have aF:Hid ((z0x c (ds.getD k z0n).acts).1≠0→nextI c (ds.getD k z0n)=c):=fun h=>if_neg h
   generalize (z0x c (ds.getD k z0n).acts).1=d at T aj av aF;generalize runR c (ds.getD k z0n).acts=RL at T av;generalize runV c (ds.getD k z0n).acts=J at T aj;generalize nextI c (ds.getD k z0n)=nx at aj av aF;clear x1 x2 x3 aG hA HG;generalize ds.getD k z0n=z at t0 t1 t2 t3 ax T aX;obtain⟨z0,z1,z2,zs⟩:=z;dsimp only at t0 t1 t2 t3 ax T aX;have O:Below wr.heap.size wr (wr.alloc (.cells #[.int .i64 z0,.int .i64 z1,.int .i64 z2,.slice aa zs.length tc] 44)):=by go_grown
   have a3:=(N.below O).cell 3 _ rfl;have aJ:wr.heap.size≤(wr.alloc (.cells #[.int .i64 z0,.int .i64 z1,.int .i64 z2,.slice aa zs.length tc] 44)).heap.size:=O.size;have aP:ItemRow wr ia c:=Lies.own o3
   go_wp2_with fail
   clear a3 t0 t1 t2 t3;generalize wr.alloc (.cells #[.int .i64 z0,.int .i64 z1,.int .i64 z2,.slice aa zs.length tc] 44)=wT at O aJ;refine(T _ (aP.below O) (ax.below O)).mono ?_;rintro e w4 ⟨ra,rc,rfl,oR,aH⟩;replace O:=O.trans (aH.mono O.size);have ao:=oR.lt;have br:=aH.size;clear T ax aP aH;have aI:Below w4.heap.size w4 (w4.alloc (.cells #[.int .i64 d,.int .i64 J,.slice ra RL.length rc] 129)):=by go_grown
   have Bd:=Blk.new w4 129 #[.int .i64 d,.int .i64 J,.slice ra RL.length rc];replace oR:=z0a oR aI;have bs:w4.heap.size+1≤(w4.alloc (.cells #[.int .i64 d,.int .i64 J,.slice ra RL.length rc] 129)).heap.size:=by simp
   replace O:=O.trans (aI.mono O.size);replace o1:=z0a o1 O;replace o2:=z0a o2 O;replace o3:=z0a o3 O;replace N:=N.below O;replace hb:=hb.trans (O.mono (by omega));replace al:∀g,(Value.slice ca C.length cc).ownBlock=some g→g<wT.heap.size:=fun g hg=>Nat.lt_of_lt_of_le (al g hg) aJ
   replace am:∀g,(Value.slice va V.length vc).ownBlock=some g→g<wT.heap.size:=fun g hg=>Nat.lt_of_lt_of_le (am g hg) aJ
   have an:∀g,(Value.slice ra RL.length rc).ownBlock=some g→wT.heap.size≤g∧g<(w4.alloc (.cells #[.int .i64 d,.int .i64 J,.slice ra RL.length rc] 129)).heap.size:=fun g hg=>⟨(ao g hg).1,by have:=(ao g hg).2;omega⟩
   have a8:ab+1≤wT.heap.size:=by omega
   generalize wT.heap.size=mb at*;clear aI O ao;have bi:(w4.alloc (.cells #[.int .i64 d,.int .i64 J,.slice ra RL.length rc] 129)).heap.size=w4.heap.size+1:=by first|rfl|simp
   have a1:=N.cell 1 _ rfl;have b0:=Bd.cell 0 _ rfl;have U:Below (w4.alloc (.cells #[.int .i64 d,.int .i64 J,.slice ra RL.length rc] 129)).heap.size (w4.alloc (.cells #[.int .i64 d,.int .i64 J,.slice ra RL.length rc] 129)) ((w4.alloc (.cells #[.int .i64 d,.int .i64 J,.slice ra RL.length rc] 129)).alloc (.cells #[.int .i64 d] 2)):=by go_grown
   have q1:=z0a o1 U;have l2:=fun g hg=>(o2.lt g hg).2
   have l3:=fun g hg=>(o3.lt g hg).2
   go_wp2_with (at_builtin;refine wpList_append_own_at _ rfl _ _ 47 rfl (ab+1) 2 i0 (.int .i64 0) 1 8 Tryz.underlying47 hi aU aV aW rfl (by decide) _ C.length (C.map (Value.int .i64)) rfl q1 ⟨w4.heap.size+1,0,none⟩ 1 1 [.int .i64 d] rfl rfl ?c1 ?c2 ?c3 ?c4 ?c5 ?_)
   all_goals try(case c1=>intro j u hj;match j,hj with|0,hj=>simp at hj;subst hj;simp[Addr.add])
   all_goals try(case c2=>first|rfl|(intro u hu;simp at hu;subst hu;rfl))
   all_goals try(case c3=>unfold maxLen;omega)
   all_goals try(case c4=>omega)
   all_goals try(case c5=>first|omega|(simp;omega))
   intro v' w1 X M _ W;obtain⟨D,E,rfl⟩:=z0b X;clear a1 b0;have ay:Below (ab+1) (w4.alloc (.cells #[.int .i64 d,.int .i64 J,.slice ra RL.length rc] 129)) w1:=((Below.refl _ _).alloc (by omega) _).grown M (by simp;omega) (fun k hk=>(o1.lt k hk).1);have aB:(w4.alloc (.cells #[.int .i64 d,.int .i64 J,.slice ra RL.length rc] 129)).heap.size≤w1.heap.size:=ay.size;have a6:∀g,(Value.slice D (C.length+1) E).ownBlock=some g→g<mb∨(w4.alloc (.cells #[.int .i64 d,.int .i64 J,.slice ra RL.length rc] 129)).heap.size≤g:=fun g hg=>by
    rcases W with e|e
    ·exact Or.inl (al g (by rw[←e];exact hg))
    ·rw[hg]at e;simp at e;right;omega
   have aw:Apart3 (.slice D (C.length+1) E) (.slice va V.length vc) (.slice ia c.length ic):=ap.grow1 (w:=(w4.alloc (.cells #[.int .i64 d,.int .i64 J,.slice ra RL.length rc] 129)).alloc (.cells #[.int .i64 d] 2)) (by simpa using W) (fun g hg=>by have:=l2 g hg;simp;omega) (fun g hg=>by have:=l3 g hg;simp;omega);replace o2:=(z0a o2 U).kept M (z2l ap.a12);replace o3:=(z0a o3 U).kept M (z2l ap.a13);replace oR:=(z0a oR U).kept M (z3f (fun g h1 h2=>by have:=an g h1;have:=al g h2;omega));replace Bd:=(Bd.below U).grown M (by intro e;have:=al w4.heap.size e.symm;omega);replace N:Blk w1 ab 64 #[.int .i64 0,.slice ca C.length cc,.slice va V.length vc,.slice ia c.length ic]:=(ay.block _ (by omega)).trans N;replace o1:w1.ownsRow (ab+1) 2 1 (.slice D (C.length+1) E) (C.length+1) ((C++[d]).map (Value.int .i64)):=by simpa using X
   replace hb:=hb.trans (ay.mono (by omega));clear X M W q1 l2 l3 U ay ap;have d1:=N.cell 1 _ rfl;have d2:=N.frozen 1;replace o1:=ownsRow_setCell_below (a:=⟨ab,1,none⟩) o1 (by dsimp only;omega) (.slice D (C.length+1) E);replace o2:=ownsRow_setCell_below (a:=⟨ab,1,none⟩) o2 (by dsimp only;omega) (.slice D (C.length+1) E);replace o3:=z0g (j:=1) (u:=.slice D (C.length+1) E) o3 ar;replace oR:=ownsRow_setCell_below (a:=⟨ab,1,none⟩) oR (by dsimp only;omega) (.slice D (C.length+1) E);replace N:Blk (w1.setCell ⟨ab,1,none⟩ (.slice D (C.length+1) E)) ab 64 #[.int .i64 0,.slice D (C.length+1) E,.slice va V.length vc,.slice ia c.length ic]:=by simpa using N.set 1 (.slice D (C.length+1) E)
   replace Bd:Blk (w1.setCell ⟨ab,1,none⟩ (.slice D (C.length+1) E)) (w4.heap.size) 129 #[.int .i64 d,.int .i64 J,.slice ra RL.length rc]:=Bd.otherG (by omega);replace hb:=hb.setCell (p:=⟨ab,1,none⟩) (Nat.le_refl _) (.slice D (C.length+1) E);replace aB:(w4.alloc (.cells #[.int .i64 d,.int .i64 J,.slice ra RL.length rc] 129)).heap.size≤(w1.setCell ⟨ab,1,none⟩ (.slice D (C.length+1) E)).heap.size:=by simpa[World.setCell]using aB
   have a2:=N.cell 2 _ rfl;have b1:=Bd.cell 1 _ rfl;have U:Below (w1.setCell ⟨ab,1,none⟩ (.slice D (C.length+1) E)).heap.size (w1.setCell ⟨ab,1,none⟩ (.slice D (C.length+1) E)) ((w1.setCell ⟨ab,1,none⟩ (.slice D (C.length+1) E)).alloc (.cells #[.int .i64 J] 2)):=by go_grown
   have q2:=z0a o2 U;have l1:=fun g hg=>(o1.lt g hg).2
   have l3:=fun g hg=>(o3.lt g hg).2
   have aS:(w1.setCell ⟨ab,1,none⟩ (.slice D (C.length+1) E)).heap.size=w1.heap.size:=by simp[World.setCell]
   have au:∀j u,[Value.int .i64 J][j]?=some u→((w1.setCell ⟨ab,1,none⟩ (.slice D (C.length+1) E)).alloc (.cells #[.int .i64 J] 2)).cell? ((⟨w1.heap.size,0,none⟩:Addr).add j)=some u:=by
    intro j u hj
    match j,hj with
    |0,hj=>
     simp at hj;subst hj;rw[←aS,Addr.add_lit];exact(Blk.new (w1.setCell ⟨ab,1,none⟩ (.slice D (C.length+1) E)) 2 #[.int .i64 J]).cell 0 _ rfl
   go_wp2_with (at_builtin;refine wpList_append_own_at _ rfl _ _ 47 rfl (ab+1) 2 i0 (.int .i64 0) 1 8 Tryz.underlying47 hi aU aV aW rfl (by decide) _ V.length (V.map (Value.int .i64)) rfl q2 ⟨w1.heap.size,0,none⟩ 1 1 [.int .i64 J] rfl rfl au ?c2 ?c3 ?c4 ?c5 ?_)
   all_goals try(case c1=>intro j u hj;match j,hj with|0,hj=>simp at hj;subst hj;simp[Addr.add])
   all_goals try(case c2=>first|rfl|(intro u hu;simp at hu;subst hu;rfl))
   all_goals try(case c3=>unfold maxLen;omega)
   all_goals try(case c4=>omega)
   all_goals try(case c5=>first|omega|(simp;omega))
   intro v' w2 X M _ W;obtain⟨y,A,rfl⟩:=z0b X;clear a2 b1 d1 d2;have az:Below (ab+1) (w1.setCell ⟨ab,1,none⟩ (.slice D (C.length+1) E)) w2:=((Below.refl _ _).alloc (by omega) _).grown M (by simp;omega) (fun k hk=>(o2.lt k hk).1);have aR:(w4.alloc (.cells #[.int .i64 d,.int .i64 J,.slice ra RL.length rc] 129)).heap.size≤w2.heap.size:=Nat.le_trans aB az.size;have a7:∀g,(Value.slice y (V.length+1) A).ownBlock=some g→g<mb∨(w4.alloc (.cells #[.int .i64 d,.int .i64 J,.slice ra RL.length rc] 129)).heap.size≤g:=fun g hg=>by
    rcases W with e|e
    ·exact Or.inl (am g (by rw[←e];exact hg))
    ·rw[hg]at e;simp at e;right;omega
   have aL:Apart3 (.slice D (C.length+1) E) (.slice y (V.length+1) A) (.slice ia c.length ic):=aw.grow2 (w:=(w1.setCell ⟨ab,1,none⟩ (.slice D (C.length+1) E)).alloc (.cells #[.int .i64 J] 2)) (by simpa using W) (fun g hg=>by have:=l1 g hg;simp;omega) (fun g hg=>by have:=l3 g hg;simp;omega);replace o1:=(z0a o1 U).kept M aw.a12;replace o3:=(z0a o3 U).kept M (z2l aw.a23);replace oR:=(z0a oR U).kept M (z3f (fun g h1 h2=>by have:=an g h1;have:=am g h2;omega));replace Bd:=(Bd.below U).grown M (by intro e;have:=am w4.heap.size e.symm;omega);replace N:Blk w2 ab 64 #[.int .i64 0,.slice D (C.length+1) E,.slice va V.length vc,.slice ia c.length ic]:=(az.block _ (by omega)).trans N;replace o2:w2.ownsRow (ab+1) 2 1 (.slice y (V.length+1) A) (V.length+1) ((V++[J]).map (Value.int .i64)):=by simpa using X
   replace hb:=hb.trans (az.mono (by omega));clear X M W q2 l1 l3 U az aw aS aB au;have d1:=N.cell 2 _ rfl;have d2:=N.frozen 2;replace o1:=ownsRow_setCell_below (a:=⟨ab,2,none⟩) o1 (by dsimp only;omega) (.slice y (V.length+1) A);replace o2:=ownsRow_setCell_below (a:=⟨ab,2,none⟩) o2 (by dsimp only;omega) (.slice y (V.length+1) A);replace o3:=z0g (j:=2) (u:=.slice y (V.length+1) A) o3 ar;replace oR:=ownsRow_setCell_below (a:=⟨ab,2,none⟩) oR (by dsimp only;omega) (.slice y (V.length+1) A);replace N:Blk (w2.setCell ⟨ab,2,none⟩ (.slice y (V.length+1) A)) ab 64 #[.int .i64 0,.slice D (C.length+1) E,.slice y (V.length+1) A,.slice ia c.length ic]:=by simpa using N.set 2 (.slice y (V.length+1) A)
   replace Bd:Blk (w2.setCell ⟨ab,2,none⟩ (.slice y (V.length+1) A)) (w4.heap.size) 129 #[.int .i64 d,.int .i64 J,.slice ra RL.length rc]:=Bd.otherG (by omega);replace hb:=hb.setCell (p:=⟨ab,2,none⟩) (Nat.le_refl _) (.slice y (V.length+1) A);replace aR:(w4.alloc (.cells #[.int .i64 d,.int .i64 J,.slice ra RL.length rc] 129)).heap.size≤(w2.setCell ⟨ab,2,none⟩ (.slice y (V.length+1) A)).heap.size:=by simpa[World.setCell]using aR
   have b0:=Bd.cell 0 _ rfl;have b2:=Bd.cell 2 _ rfl;have a3:=N.cell 3 _ rfl;have a4:=N.frozen 3;by_cases hc:d=0
   ·obtain rfl:RL=nx:=av.out hc;have aZ:Apart3 (.slice D (C.length+1) E) (.slice y (V.length+1) A) (.slice ra RL.length rc):=⟨aL.a12,z3f (fun g h1 h2=>by have:=an g h2;have:=a6 g h1;omega),z3f (fun g h1 h2=>by have:=an g h2;have:=a7 g h1;omega)⟩
    have bg:((w2.setCell ⟨ab,2,none⟩ (.slice y (V.length+1) A)).setCell ⟨ab,3,none⟩ (.slice ra RL.length rc)).heap.size=(w2.setCell ⟨ab,2,none⟩ (.slice y (V.length+1) A)).heap.size:=by simp[World.setCell]
    have R:Hid (Blk ((w2.setCell ⟨ab,2,none⟩ (.slice y (V.length+1) A)).setCell ⟨ab,3,none⟩ (.slice ra RL.length rc)) ab 64 #[.int .i64 0,.slice D (C.length+1) E,.slice y (V.length+1) A,.slice ra RL.length rc]∧((w2.setCell ⟨ab,2,none⟩ (.slice y (V.length+1) A)).setCell ⟨ab,3,none⟩ (.slice ra RL.length rc)).ownsRow (ab+1) 2 1 (.slice D (C.length+1) E) (C.length+1) ((C++[d]).map (Value.int .i64))∧((w2.setCell ⟨ab,2,none⟩ (.slice y (V.length+1) A)).setCell ⟨ab,3,none⟩ (.slice ra RL.length rc)).ownsRow (ab+1) 2 1 (.slice y (V.length+1) A) (V.length+1) ((V++[J]).map (Value.int .i64))∧((w2.setCell ⟨ab,2,none⟩ (.slice y (V.length+1) A)).setCell ⟨ab,3,none⟩ (.slice ra RL.length rc)).ownsRow mb 135 2 (.slice ra RL.length rc) RL.length (z0d RL)∧Below ab W3 ((w2.setCell ⟨ab,2,none⟩ (.slice y (V.length+1) A)).setCell ⟨ab,3,none⟩ (.slice ra RL.length rc))∧ab+1≤((w2.setCell ⟨ab,2,none⟩ (.slice y (V.length+1) A)).setCell ⟨ab,3,none⟩ (.slice ra RL.length rc)).heap.size):=
     ⟨by simpa using N.set 3 (.slice ra RL.length rc),ownsRow_setCell_below o1 (by dsimp only;omega) _,ownsRow_setCell_below o2 (by dsimp only;omega) _,ownsRow_setCell_below oR (by dsimp only;omega) _,hb.setCell (p:=⟨ab,3,none⟩) (Nat.le_refl _) _,by omega⟩
    clear o1 o2 o3 oR N Bd hb;subst hc
    go_wp2
    go_roundw
    case rel=>
     refine⟨k+1,RL,C++[0],V++[J],D,E,y,A,ra,rc,by omega,by go_num,?_,?_,?_,?_,?_,?_,R.out.2.2.2.2.1,R.out.2.2.2.2.2,aj⟩
     ·simpa using R.out.1
     ·simpa using R.out.2.1
     ·simpa using R.out.2.2.1
     ·exact z0m R.out.2.2.2.1 (by omega)
     ·simpa using aZ
     ·intro k hk;have:=an k hk;omega
    case measure=>simp[intOf];omega
   ·have bo:(d==0)=false:=by simp[hc]
    have bd:nx=c:=aF.out hc;have R:Hid (Blk (w2.setCell ⟨ab,2,none⟩ (.slice y (V.length+1) A)) ab 64 #[.int .i64 0,.slice D (C.length+1) E,.slice y (V.length+1) A,.slice ia c.length ic]∧(w2.setCell ⟨ab,2,none⟩ (.slice y (V.length+1) A)).ownsRow (ab+1) 2 1 (.slice D (C.length+1) E) (C.length+1) ((C++[d]).map (Value.int .i64))∧(w2.setCell ⟨ab,2,none⟩ (.slice y (V.length+1) A)).ownsRow (ab+1) 2 1 (.slice y (V.length+1) A) (V.length+1) ((V++[J]).map (Value.int .i64))∧(w2.setCell ⟨ab,2,none⟩ (.slice y (V.length+1) A)).ownsRow Z 135 2 (.slice ia c.length ic) c.length (z0d c)∧Apart3 (.slice D (C.length+1) E) (.slice y (V.length+1) A) (.slice ia c.length ic)∧Below ab W3 (w2.setCell ⟨ab,2,none⟩ (.slice y (V.length+1) A))∧ab+1≤(w2.setCell ⟨ab,2,none⟩ (.slice y (V.length+1) A)).heap.size):=⟨N,o1,o2,o3,aL,hb,by omega⟩
    clear o1 o2 o3 oR N Bd hb;subst bd
    go_wp2
    go_roundw
    case rel=>
     refine⟨k+1,nx,C++[d],V++[J],D,E,y,A,ia,ic,by omega,by go_num,?_,?_,?_,R.out.2.2.2.1,?_,ar,R.out.2.2.2.2.2.1,R.out.2.2.2.2.2.2,aj⟩
     ·simpa using R.out.1
     ·simpa using R.out.2.1
     ·simpa using R.out.2.2.1
     ·simpa using R.out.2.2.2.2.1
    case measure=>simp[intOf];omega
  ·have bb:k=ds.length:=by omega
   subst bb;have HE:Hid (eaC xs ds=0∧eaCd xs ds=C∧eaVl xs ds=V∧eaI xs ds=c):=by
    obtain⟨_,_,g3,g4,g5,_,_⟩:=HG.out;rw[List.drop_length]at g3 g4 g5;obtain⟨e1,e2,e3,e4⟩:=aY.out;exact⟨e1,by rw[e2,←g4];simp[z1B],by rw[e3,←g5];simp[z1C],by rw[e4,←g3];rfl⟩
   replace B0:Blk wr _ _ _:=(hb.block _ aQ).trans B0;obtain⟨p0,p1,p2,p3⟩:=B0.cel4;obtain⟨f0,f1,f2,f3⟩:=B0.frz4;obtain⟨q0,q1,q2,q3⟩:=N.cel4;have bq:=B0.lt;have ba:Below w.heap.size w wr:=I.trans (hb.mono (by omega));clear B0 N HG
   go_wp2
   refine bodyPost_ret (v:=.agg #[.int .i64 0,.slice ca C.length cc,.slice va V.length vc,.slice ia c.length ic]) (by simp[results,Tryz.results30,go_sem,p0,p1,p2,p3]) rfl ?_;rw[HE.out.1,HE.out.2.1,HE.out.2.2.1,HE.out.2.2.2];refine⟨_,_,_,_,_,_,rfl,⟨OwnS.of ?_,OwnS.of ?_,OwnS.of ?_,ap⟩,?_⟩
   ·refine z0m (base:=ab+1) ?_ (by omega);repeat' (refine ownsRow_setCell_below ?_ (by dsimp only;omega) _)
    exact o1
   ·refine z0m (base:=ab+1) ?_ (by omega);repeat' (refine ownsRow_setCell_below ?_ (by dsimp only;omega) _)
    exact o2
   ·refine z0m (base:=Z) ?_ (by omega);repeat' (refine ownsRow_setCell_below ?_ (by dsimp only;omega) _)
    exact o3
   ·repeat' (refine Below.setCell ?_ (by dsimp only;omega) _)
    exact ba
end
end Go.Proofs.YtciofogeiohleaaGreatDoor
