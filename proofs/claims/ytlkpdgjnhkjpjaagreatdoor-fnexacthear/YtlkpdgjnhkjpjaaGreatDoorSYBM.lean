/- Texts joined,with what the laws reach alone. -/
import Derived.Test.YtlkpdgjnhkjpjaaGreatDoorSYBL
set_option linter.unusedVariables false
set_option linter.unusedSimpArgs false
set_option maxRecDepth 100000
set_option maxHeartbeats 16000000
namespace Go.Proofs.YtlkpdgjnhkjpjaaGreatDoor
open Go.RowKit Go.BigFrame
theorem q62(aJ aK:Int)(b1 b2:Nat)(p:RepQ)(t:TxnQ)(w:World)(hB:Blk w b1 31 #[.int .i64 aJ,.int .i64 aK,p.vd,p.vb,p.vt,p.vu,p.vn])(ad:Blk w b2 39 #[.int .i64 t.i,.int .i64 t.s,.int .i64 t.q,t.va])(h:repK.own w p)(hT:txnK.own w t)(hl:p.n≤1048576)(aP:TxnQ.n t≤1048576)(h0:repF p.e=0):
  Calls Tryz.prog 112 #[.pointer (some ⟨b1,2,none⟩),.pointer (some ⟨b2,0,none⟩)] w fun e w'=>∃q:RepQ,e=.returned (.agg #[.int .i64 (opC p.e t.e),.int .i64 (opA p.e t.e),.int .i64 (opV p.e t.e),q.vd,q.vb,q.vt,q.vu,q.vn])∧q.e=opE p.e t.e∧repK.own w' q∧(repK.foot q).Nodup∧(∀k∈repK.foot q,w.heap.size≤k)∧Below w.heap.size w w':=by
 have L:=z7P p.e t.e;have z:∀c,opC p.e t.e=c→c≠0→opC p.e t.e=c∧opA p.e t.e=0∧opV p.e t.e=0∧opE p.e t.e=⟨[],[],[],[],[]⟩:=fun c e h=>⟨e,by rw[opA,if_neg (by rw[e];exact h)],by rw[opV,if_neg (by rw[e];exact h)],by rw[opE,if_neg (by rw[e];exact h)]⟩
 have hz:=z1D h0;have ha:=((z09 _).1 hz.2.1).2.1;have HE:Hid (opC p.e t.e=0→opA p.e t.e=(z0w p.now t.acts).1∧opV p.e t.e=runV p.now t.acts∧opE p.e t.e=mkR (p.done.map TxnQ.e) ((p.tent++[t]).map TxnQ.e)):=fun e=>⟨by rw[opA,if_pos e];rfl,by rw[opV,if_pos e];rfl,by rw[opE,if_pos e,List.map_append];rfl⟩
 have X:Hid (∀q∈p.done,(TxnQ.e q).F=0):=fun q hq=>ha _ (List.mem_append_left _ (List.mem_map.2 ⟨q,hq,rfl⟩))
 have Z:Hid (∀q∈p.tent,(TxnQ.e q).F=0):=fun q hq=>ha _ (List.mem_append_right _ (List.mem_map.2 ⟨q,hq,rfl⟩))
 have aA:p.done.length≤16:=by have:=hz.1.1;simpa[RepQ.e]using this
 have aQ:p.tent.length≤8:=by have:=hz.1.2;simpa[RepQ.e]using this
 have HG:Hid (p.now.length≤8∧Good p.now):=by
  have e:p.now=allI (allI [] (p.done.map TxnQ.e)) (p.tent.map TxnQ.e):=congrArg RepE.now (z9S h0);have ga:=z0Q (xs:=[]) (by simp) z15 (ds:=p.done.map TxnQ.e) (fun t ht=>by obtain⟨q,hq,rfl⟩:=List.mem_map.1 ht;exact X.out q hq);have gb:=z0Q ga.1 ga.2 (ds:=p.tent.map TxnQ.e) (fun t ht=>by obtain⟨q,hq,rfl⟩:=List.mem_map.1 ht;exact Z.out q hq);rw[←e]at gb;exact gb
 have aw:TxnD.F t.e=txnF t.i t.s t.q t.acts:=rfl;have ah:∀w' va,txnK.At w' p.vd p.done→∀b,Box4 w' b 0 (.int .i64 t.i) (.int .i64 t.s) (.int .i64 t.q) va→Calls Tryz.prog 174 #[p.vd,.pointer (some ⟨b,0,none⟩)] w' fun e al=>e=.returned (.bool (knw p.e.done t.e))∧Below w'.heap.size w' al:=fun w' va hA b hB=>z1A p.vd p.done b 0 t.e va w' hA hB (by omega)
 have ai:∀w' va,txnK.At w' p.vt p.tent→∀b,Box4 w' b 0 (.int .i64 t.i) (.int .i64 t.s) (.int .i64 t.q) va→Calls Tryz.prog 174 #[p.vt,.pointer (some ⟨b,0,none⟩)] w' fun e al=>e=.returned (.bool (knw p.e.tent t.e))∧Below w'.heap.size w' al:=fun w' va hA b hB=>z1A p.vt p.tent b 0 t.e va w' hA hB (by omega)
 have aI:p.e.tent.length=p.tent.length:=by simp[RepQ.e]
 rw[aI]at L;have aM:Hid ((t.e).F=0→txnF t.i t.s t.q t.acts=0):=fun e=>e
 have hr:=fun(w':World) (hb:Below w.heap.size w w')=>repK.own_out (F:=[]) (w':=w') h (Out.of_below hb) (fun _ _=>by simp)
 have ak:=fun(w':World) (hb:Below w.heap.size w w')=>txnK.own_out (F:=[]) (w':=w') hT (Out.of_below hb) (fun _ _=>by simp)
 have aa:Hid (z4f t∧∀q∈p.tent,z4f q):=⟨z3i hT,fun q hq=>z3i (h.2.2.1.2 q hq)⟩
 have ao:Hid (z1Q p.vn):=h.2.2.2.2.niceV;have aC:p.tent.length+nmL TxnQ.n p.tent≤1048576:=by dsimp only[RepQ.n]at hl;omega
 generalize opA p.e t.e=AA at*;generalize opV p.e t.e=VV at*;generalize opE p.e t.e=RE at*;generalize opC p.e t.e=C at*;generalize knw p.e.done t.e=KD at*;generalize knw p.e.tent t.e=KT at*;clear hz ha aI;rw[h0]at L;obtain⟨aZ,pd,aY,pb,a7,pt,a8,pu,a6,pn⟩:=p;obtain⟨p0,p5,rfl⟩:∃a c,aZ=.slice a pd.length c:=h.1.shape;obtain⟨p1,p6,rfl⟩:∃a c,aY=.slice a pb.length c:=h.2.1.shape;obtain⟨p2,p7,rfl⟩:∃a c,a7=.slice a pt.length c:=h.2.2.1.shape;obtain⟨p3,p8,rfl⟩:∃a c,a8=.slice a pu.length c:=h.2.2.2.1.shape;obtain⟨p4,p9,rfl⟩:∃a c,a6=.slice a pn.length c:=h.2.2.2.2.shape;obtain⟨ti,ts,tq,va,d⟩:=t;obtain⟨xa,xk,rfl⟩:∃a c,va=.slice a d.length c:=(show actK.Own w va d from hT).shape;dsimp only at L HE X Z aA aQ HG aw ah ai aM hr ak aa ao aC;have aB:d.length≤1048576:=by simpa[TxnQ.n]using aP
 have aH:∀w':World,Below w.heap.size w w'→ActRow w' xa d:=fun w' hb=>(z0y (show actK.At w' (.slice xa d.length xk) d from txnK.own_rd (ak w' hb))).2
 have b0:Below w.heap.size w (w.alloc (.cells #[.int .i64 0,.int .i64 0,.int .i64 0,.slice none 0 0,.slice none 0 0,.slice none 0 0,.slice none 0 0,.slice none 0 0] 95)):=by go_grown
 have RB:=Blk.new w 95 #[.int .i64 0,.int .i64 0,.int .i64 0,.slice none 0 0,.slice none 0 0,.slice none 0 0,.slice none 0 0,.slice none 0 0];have bf:=hB.lt;have bg:=ad.lt;have BA:=hB.below b0;have BT:=ad.below b0;have hf:=fun b o w hB h=>z3A b o ti ts tq xa xk d w hB h aB
 rw[aw]at L;generalize U:txnF ti ts tq d=TF at*;clear hB ad;go_enter Tryz.func112,Tryz.ntmps112
 go_wp2_with fail
 generalize w.alloc (.cells #[.int .i64 0,.int .i64 0,.int .i64 0,.slice none 0 0,.slice none 0 0,.slice none 0 0,.slice none 0 0,.slice none 0 0] 95)=W at*;have B4:∀w',Blk w' b2 39 #[.int .i64 ti,.int .i64 ts,.int .i64 tq,.slice xa d.length xk]→Box4 w' b2 0 (.int .i64 ti) (.int .i64 ts) (.int .i64 tq) (.slice xa d.length xk):=fun w' hb=>⟨hb.cell 0 _ rfl,by simpa using hb.cell 1 _ rfl,by simpa using hb.cell 2 _ rfl,by simpa using hb.cell 3 _ rfl⟩
 refine(hf b2 0 W (B4 W BT) (aH W b0)).mono ?_;rintro e w1 ⟨rfl,hw⟩;replace hw:=hw.symm;subst hw;clear hf;rcases L with⟨z0,_⟩|⟨_,h1,hC⟩|⟨_,h1,h2,hC⟩|⟨_,h1,h2,h3,hC⟩|⟨_,h1,h2,h3,h4,hC⟩|⟨_,h1,h2,h3,h4,hC⟩
 ·exact absurd rfl z0
 ·have HZ:Hid _:=z _ hC h1;have bj:(TF !=0)=true:=by simpa using h1
  clear hC z HE;have y:=fun w=>z2j TF w
  go_wp2_with fail
  refine(y _).mono ?_;rintro e wb ⟨rfl,hb⟩;replace b0:=z0i b0 hb;replace RB:=RB.below hb;clear hb y;have Rr:=RB.row #[.int .i64 TF,.int .i64 0,.int .i64 0,.slice none 0 0,.slice none 0 0,.slice none 0 0,.slice none 0 0,.slice none 0 0];have I:=z0j (g:=w.heap.size) b0 (Nat.le_refl _) #[.int .i64 TF,.int .i64 0,.int .i64 0,.slice none 0 0,.slice none 0 0,.slice none 0 0,.slice none 0 0,.slice none 0 0]
  go_wp2_with (first|(refine z0r (by kernel_rfl) 95 _ _ rfl _ #[.int .i64 TF,.int .i64 0,.int .i64 0,.slice none 0 0,.slice none 0 0,.slice none 0 0,.slice none 0 0,.slice none 0 0] rfl rfl 95 _ RB z4C rfl (by simp[Value.oneCell']) ?_))
  obtain⟨z0,z1,z2,z3,z4,z5,z6,z7⟩:=Rr.cel8;first|done|skip
  exact bodyPost_ret (v:=.agg #[.int .i64 TF,.int .i64 0,.int .i64 0,.slice none 0 0,.slice none 0 0,.slice none 0 0,.slice none 0 0,.slice none 0 0]) (by simp[results,Tryz.results112,go_sem,z0,z1,z2,z3,z4,z5,z6,z7]) rfl ⟨q0t,by rw[HZ.out.1,HZ.out.2.1,HZ.out.2.2.1];rfl,HZ.out.2.2.2.symm,(z0u _).1,by rw[(z0u w).2];simp,by rw[(z0u w).2];simp,I⟩
 all_goals
  subst h1;have d0:=BA.cell 2 _ rfl;have HC:Hid (C=_):=hC;clear hC
  go_wp2_with fail
  clear d0;refine(ah W _ (hr W b0).1.at b2 (B4 W BT)).mono ?_;rintro e w3 ⟨rfl,hb⟩;replace BA:=BA.below hb;replace BT:=BT.below hb;replace RB:=RB.below hb;replace b0:=z0i b0 hb;clear hb ah
 ·have HZ:Hid _:=z _ HC.out (by decide);clear z HE;have y:=fun w=>z2j 6 w
  go_wp2_with fail
  refine(y _).mono ?_;rintro e wb ⟨rfl,hb⟩;replace b0:=z0i b0 hb;replace RB:=RB.below hb;clear hb y;have Rr:=RB.row #[.int .i64 6,.int .i64 0,.int .i64 0,.slice none 0 0,.slice none 0 0,.slice none 0 0,.slice none 0 0,.slice none 0 0];have I:=z0j (g:=w.heap.size) b0 (Nat.le_refl _) #[.int .i64 6,.int .i64 0,.int .i64 0,.slice none 0 0,.slice none 0 0,.slice none 0 0,.slice none 0 0,.slice none 0 0]
  go_wp2_with (first|(refine z0r (by kernel_rfl) 95 _ _ rfl _ #[.int .i64 6,.int .i64 0,.int .i64 0,.slice none 0 0,.slice none 0 0,.slice none 0 0,.slice none 0 0,.slice none 0 0] rfl rfl 95 _ RB z4C rfl (by simp[Value.oneCell']) ?_))
  obtain⟨z0,z1,z2,z3,z4,z5,z6,z7⟩:=Rr.cel8;first|done|skip
  exact bodyPost_ret (v:=.agg #[.int .i64 6,.int .i64 0,.int .i64 0,.slice none 0 0,.slice none 0 0,.slice none 0 0,.slice none 0 0,.slice none 0 0]) (by simp[results,Tryz.results112,go_sem,z0,z1,z2,z3,z4,z5,z6,z7]) rfl ⟨q0t,by rw[HZ.out.1,HZ.out.2.1,HZ.out.2.2.1];rfl,HZ.out.2.2.2.symm,(z0u _).1,by rw[(z0u w).2];simp,by rw[(z0u w).2];simp,I⟩
 all_goals
  have d2:=BA.cell 4 _ rfl
  go_wp2_with fail
  clear d2;refine(ai w3 _ (hr w3 b0).2.2.1.at b2 (B4 w3 BT)).mono ?_;rintro e w4 ⟨rfl,hb⟩;replace BA:=BA.below hb;replace BT:=BT.below hb;replace RB:=RB.below hb;replace b0:=z0i b0 hb;clear hb ai
 ·have HZ:Hid _:=z _ HC.out (by decide);clear z HE;have y:=fun w=>z2j 6 w
  go_wp2_with fail
  refine(y _).mono ?_;rintro e wb ⟨rfl,hb⟩;replace b0:=z0i b0 hb;replace RB:=RB.below hb;clear hb y;have Rr:=RB.row #[.int .i64 6,.int .i64 0,.int .i64 0,.slice none 0 0,.slice none 0 0,.slice none 0 0,.slice none 0 0,.slice none 0 0];have I:=z0j (g:=w.heap.size) b0 (Nat.le_refl _) #[.int .i64 6,.int .i64 0,.int .i64 0,.slice none 0 0,.slice none 0 0,.slice none 0 0,.slice none 0 0,.slice none 0 0]
  go_wp2_with (first|(refine z0r (by kernel_rfl) 95 _ _ rfl _ #[.int .i64 6,.int .i64 0,.int .i64 0,.slice none 0 0,.slice none 0 0,.slice none 0 0,.slice none 0 0,.slice none 0 0] rfl rfl 95 _ RB z4C rfl (by simp[Value.oneCell']) ?_))
  obtain⟨z0,z1,z2,z3,z4,z5,z6,z7⟩:=Rr.cel8;first|done|skip
  exact bodyPost_ret (v:=.agg #[.int .i64 6,.int .i64 0,.int .i64 0,.slice none 0 0,.slice none 0 0,.slice none 0 0,.slice none 0 0,.slice none 0 0]) (by simp[results,Tryz.results112,go_sem,z0,z1,z2,z3,z4,z5,z6,z7]) rfl ⟨q0t,by rw[HZ.out.1,HZ.out.2.1,HZ.out.2.2.1];rfl,HZ.out.2.2.2.symm,(z0u _).1,by rw[(z0u w).2];simp,by rw[(z0u w).2];simp,I⟩
 ·have HZ:Hid _:=z _ HC.out (by decide);have e8:decide ((8:Int)≤(pt.length:Int))=true:=decide_eq_true (by omega);have ap:decide ((pt.length:Int)≥8)=true:=decide_eq_true (by omega);have d2:=BA.cell 4 _ rfl;clear z HE;have y:=fun w=>z2j 7 w
  go_wp2_with fail
  refine(y _).mono ?_;rintro e wb ⟨rfl,hb⟩;replace b0:=z0i b0 hb;replace RB:=RB.below hb;clear hb y;have Rr:=RB.row #[.int .i64 7,.int .i64 0,.int .i64 0,.slice none 0 0,.slice none 0 0,.slice none 0 0,.slice none 0 0,.slice none 0 0];have I:=z0j (g:=w.heap.size) b0 (Nat.le_refl _) #[.int .i64 7,.int .i64 0,.int .i64 0,.slice none 0 0,.slice none 0 0,.slice none 0 0,.slice none 0 0,.slice none 0 0]
  go_wp2_with (first|(refine z0r (by kernel_rfl) 95 _ _ rfl _ #[.int .i64 7,.int .i64 0,.int .i64 0,.slice none 0 0,.slice none 0 0,.slice none 0 0,.slice none 0 0,.slice none 0 0] rfl rfl 95 _ RB z4C rfl (by simp[Value.oneCell']) ?_))
  obtain⟨z0,z1,z2,z3,z4,z5,z6,z7⟩:=Rr.cel8;first|done|skip
  exact bodyPost_ret (v:=.agg #[.int .i64 7,.int .i64 0,.int .i64 0,.slice none 0 0,.slice none 0 0,.slice none 0 0,.slice none 0 0,.slice none 0 0]) (by simp[results,Tryz.results112,go_sem,z0,z1,z2,z3,z4,z5,z6,z7]) rfl ⟨q0t,by rw[HZ.out.1,HZ.out.2.1,HZ.out.2.2.1];rfl,HZ.out.2.2.2.symm,(z0u _).1,by rw[(z0u w).2];simp,by rw[(z0u w).2];simp,I⟩
 ·obtain⟨eA,eV,eE⟩:=HE.out HC.out;have T:Hid (C=0∧AA=_∧VV=_∧RE=_):=⟨HC.out,eA,eV,eE⟩
  have e8:decide ((8:Int)≤(pt.length:Int))=false:=decide_eq_false (by omega);have ap:decide ((pt.length:Int)≥8)=false:=decide_eq_false (by omega);have d2:=BA.cell 4 _ rfl;have d4:=BA.cell 6 _ rfl;clear z HE eA eV eE HC
  go_wp2_with fail
  clear d2 d4 e8 ap;have ay:=q3f (hr w4 b0).2.2.2.2.at;refine(z6X p4 p9 pn b2 0 ti ts tq xa xk d w4 ay (ao.out _ _ _ rfl) (B4 w4 BT) (aH w4 b0) HG.out.1 HG.out.2 U).mono ?_;rintro e w5 ⟨ib,ic,rfl,_,hb⟩;replace BA:=BA.below hb;replace BT:=BT.below hb;replace RB:=RB.below hb;replace b0:=z0i b0 hb;clear hb ay;generalize (z0w pn d).1=CA at*;generalize runV pn d=CV at*;generalize (runR pn d).length=il at*;have M:Below w5.heap.size w5 (w5.alloc (.cells #[.int .i64 CA,.int .i64 CV,.slice ib il ic] 243)):=by go_grown
  have BI:=Blk.new w5 243 #[.int .i64 CA,.int .i64 CV,.slice ib il ic];have bk:=RB.lt;replace BA:=BA.below M;replace BT:=BT.below M;replace RB:=RB.below M;replace b0:=z0i b0 M;clear M
  go_wp2_with fail
  generalize aO:w5.alloc (.cells #[.int .i64 CA,.int .i64 CV,.slice ib il ic] 243)=Y at*;clear aO;generalize w5.heap.size=gi at*;have hW:Below Y.heap.size Y Y.drew:=(Below.refl _ _).drew;have c0:=z0s (F:=[w.heap.size]) (BI.cell 0 _ rfl) (by simp;omega);have c1:=z0s (F:=[w.heap.size]) (BI.cell 1 _ rfl) (by simp;omega);have e0:=z0s (F:=[w.heap.size]) (BA.cell 2 _ rfl) (by simp;omega);have e2:=z0s (F:=[w.heap.size]) (BA.cell 4 _ rfl) (by simp;omega);have f0:=z0s (F:=[w.heap.size]) (BT.cell 0 _ rfl) (by simp;omega);have f1:=z0s (F:=[w.heap.size]) (BT.cell 1 _ rfl) (by simp;omega);have f2:=z0s (F:=[w.heap.size]) (BT.cell 2 _ rfl) (by simp;omega);have f3:=z0s (F:=[w.heap.size]) (BT.cell 3 _ rfl) (by simp;omega);have bn:Nonempty (KeepP (Out [w.heap.size] Y)):=⟨⟨Y,Out.refl _ _⟩⟩
  have hO:Out [w.heap.size] Y Y.drew:=Out.of_below hW;obtain⟨i0,hi,aV,aW,aX⟩:=info_parts z1e;refine z0b (S:=fun w'=>∃u:KeepP (Out [w.heap.size] Y),w'=u.val) (by kernel_rfl) ?_;refine sgr [(0,12),(13,3)] 7 (by kernel_rfl) ⟨⟨_,hO⟩,rfl⟩ ?_;simp only[pkE];repeat go_big_quiet_step (fail)
  refine wpQuiet_nil ?_;clear c0 c1 e0 e2 f0 f1 f2 f3;have A:=b0.trans (hW.mono b0.size);refine cla 12 (some 53) 170 #[.slice p2 pt.length p7] 6 (by kernel_rfl) ?_;refine(z1m (.slice p2 pt.length p7) pt _ (hr _ A).2.2.1.at aa.out.2 aC).mono ?_;rintro e x1 ⟨v1,q1,rfl,e1,o1,n1,g1,hb⟩;replace hW:=hW.trans (hb.mono hW.size);have bm:Y.heap.size≤x1.heap.size:=hW.size;have aq:∀k∈txnK.fp v1 q1,Y.heap.size≤k:=fun k hk=>by have:=g1 k hk;have h2:Y.heap.size≤Y.drew.heap.size:=(show Below Y.heap.size Y Y.drew from(Below.refl _ _).drew).size;omega
  clear hb g1 A;replace hO:Out [w.heap.size] Y x1:=Out.of_below hW;obtain⟨a1,k1,rfl⟩:=o1.shape;refine⟨_,rfl,⟨⟨_,hO⟩,rfl⟩,?_⟩;simp only[Act.put,pgE,pjE];have A:=b0.trans (hW.mono b0.size);refine cla 16 (some 57) 173 #[.agg #[.int .i64 ti,.int .i64 ts,.int .i64 tq,.slice xa d.length xk]] 5 (by kernel_rfl) ?_;refine(z4Y (⟨ti,ts,tq,.slice xa d.length xk,d⟩:TxnQ) x1 (txnK.own_rd (ak _ A)) aa.out.1 aB).mono ?_;rintro e x2 ⟨a2,c2,rfl,aF,hb⟩;have am:=o1.lt;replace o1:=o1.below hb;replace hW:=hW.trans (hb.mono hW.size);obtain⟨o2,az⟩:=z0x aF;have hP:txnK.own x2 ⟨ti,ts,tq,.slice a2 d.length c2,d⟩:=⟨o2,fun _ _=>trivial⟩
  have J:∀x∈txnK.foot ⟨ti,ts,tq,.slice a2 d.length c2,d⟩,x1.heap.size≤x:=fun x hx=>az x (by rw[←z0S (.slice a2 d.length c2) d];exact hx)
  have av:(txnK.foot ⟨ti,ts,tq,.slice a2 d.length c2,d⟩).Nodup:=by
   show(actK.fp _ _).Nodup;rw[z0S];exact z0v _
  have bh:=hb.size;clear hb A aF o2 az;replace hO:Out [w.heap.size] Y x2:=Out.of_below hW;refine⟨_,rfl,⟨⟨_,hO⟩,rfl⟩,?_⟩;simp only[Act.put,pgE,pjE];refine ona 17 4 rfl (by kernel_rfl) ?_;have ag:Below x2.heap.size x2 (x2.alloc (.cells #[.int .i64 ti,.int .i64 ts,.int .i64 tq,.slice a2 d.length c2] 39)):=by go_grown
  have af:=o1.below ag;have au:=txnK.own_out (F:=[]) hP (Out.of_below ag) (fun _ _=>by simp);replace hW:=hW.trans (ag.mono hW.size);replace hO:Out [w.heap.size] Y _:=Out.of_below hW
  go_wp2
  refine ThenGo.to ⟨⟨⟨_,hO⟩,rfl⟩,?_⟩;have O:=af.1;refine ona 18 3 rfl (by kernel_rfl) ?_;have ab:Hid (q1.length≤8):=by
   have:=congrArg List.length e1;rw[List.length_map,List.length_map]at this;show _≤_;omega
  refine wpList_append_own_at _ rfl _ _ 25 rfl 0 39 i0 (.agg #[.int .i64 0,.int .i64 0,.int .i64 0,.slice none 0 0]) 4 48 Tryz.underlying25 hi aV aW aX rfl (by decide) _ q1.length (txnK.row q1) rfl O ⟨x2.heap.size,0,none⟩ 1 1 [.int .i64 ti,.int .i64 ts,.int .i64 tq,.slice a2 d.length c2] rfl rfl ?c1 ?c2 ?c3 ?c4 ?c5 ?_
  case c1=>intro j u hj;match j,hj with|0,hj=>simp at hj;subst hj;simp[Addr.add]|1,hj=>simp at hj;subst hj;simp[Addr.add]|2,hj=>simp at hj;subst hj;simp[Addr.add]|3,hj=>simp at hj;subst hj;simp[Addr.add]
  case c2=>intro u hu;simp at hu;rcases hu with rfl|rfl|rfl|rfl<;>rfl
  case c3=>have:=ab.out;unfold maxLen;omega
  case c4=>have:=ab.out;omega
  case c5=>first|omega|simp
  intro v' x5 V N aE ax;clear aE O;generalize aT:x2.alloc (.cells #[.int .i64 ti,.int .i64 ts,.int .i64 tq,.slice a2 d.length c2] 39)=WA at*;clear aT;obtain⟨ae,aR,aD,aG⟩:=af.snoc n1 aq au av (fun x hx aU=>by have:=am x aU;have:=J x hx;omega) (fun x hx=>by have:=J x hx;omega) hW.size V N ax;replace hW:Below Y.heap.size Y x5:=Out.keep hW aG hW.size (fun x hx=>aq x (by simp only[Kind.fp,List.mem_append];exact Or.inl hx));clear N ax aG V af au hP J av am;obtain⟨a5,k5,rfl⟩:=ae.shape;replace hO:Out [w.heap.size] Y x5:=Out.of_below hW
  go_wp2
  refine ThenGo.to ⟨⟨⟨_,hO⟩,rfl⟩,?_⟩;simp only[Act.put,pgE,pjE];have A:=b0.trans (hW.mono b0.size);have ar:∀q∈q1++[(⟨ti,ts,tq,.slice a2 d.length c2,d⟩:TxnQ)],(TxnQ.e q).F=0:=fun q hq=>by
   rcases List.mem_append.1 hq with hq|hq
   ·have:TxnQ.e q∈pt.map TxnQ.e:=by rw[←e1];exact List.mem_map.2 ⟨q,hq,rfl⟩
    obtain⟨q',aS,e'⟩:=List.mem_map.1 this;rw[←e'];exact Z.out q' aS
   ·simp only[List.mem_singleton]at hq;subst hq;exact U
  have an:Hid ((q1++[(⟨ti,ts,tq,.slice a2 d.length c2,d⟩:TxnQ)]).map TxnQ.e=(pt++[(⟨ti,ts,tq,.slice xa d.length xk,d⟩:TxnQ)]).map TxnQ.e):=show _=_ by rw[List.map_append,List.map_append,e1];rfl
  have aj:=z3h (.slice p0 pd.length p5) (.slice a5 (q1++[(⟨ti,ts,tq,.slice a2 d.length c2,d⟩:TxnQ)]).length k5) pd (q1++[(⟨ti,ts,tq,.slice a2 d.length c2,d⟩:TxnQ)]) x5 (hr _ A).1.at ae.at X.out ar (by omega) (by have:=ab.out;simp;omega);rw[an.out]at aj;refine cla 19 (some 60) 122 #[.slice p0 pd.length p5,.slice a5 (q1++[(⟨ti,ts,tq,.slice a2 d.length c2,d⟩:TxnQ)]).length k5] 2 (by kernel_rfl) ?_;refine aj.mono ?_;rintro e w7 ⟨q,rfl,eq,oq,nq,gq,hb⟩;have bl:=hW.size;replace hW:=hW.trans (hb.mono hW.size);have bi:=RB.lt;replace RB:=RB.below hW;have bo:=b0.size;replace hO:Out [w.heap.size] Y w7:=Out.of_below hW;replace b0:=b0.trans (hW.mono b0.size);have aN:∀k∈repK.foot q,k≠w.heap.size:=fun k hk=>by have:=gq k hk;omega
  have gw:∀k∈repK.foot q,w.heap.size≤k:=fun k hk=>by have:=gq k hk;omega
  clear hb gq aj ae aR aD ar A;refine⟨_,rfl,⟨⟨_,hO⟩,rfl⟩,?_⟩;simp only[Act.put,pgE,pjE];obtain⟨bb,qd,ba,qb,bd,qt,be,qu,bc,qn⟩:=q;obtain⟨s0,t0,rfl⟩:∃a c,bb=.slice a qd.length c:=oq.1.shape;obtain⟨s1,t1,rfl⟩:∃a c,ba=.slice a qb.length c:=oq.2.1.shape;obtain⟨s2,t2,rfl⟩:∃a c,bd=.slice a qt.length c:=oq.2.2.1.shape;obtain⟨s3,t3,rfl⟩:∃a c,be=.slice a qu.length c:=oq.2.2.2.1.shape;obtain⟨s4,t4,rfl⟩:∃a c,bc=.slice a qn.length c:=oq.2.2.2.2.shape;have aL:Hid _:=eq;clear eq;refine sgr [(20,1)] 1 (by kernel_rfl) ⟨⟨_,hO⟩,rfl⟩ ?_;simp only[pkE];repeat go_big_quiet_step (fail)
  refine wpQuiet_nil ?_;refine ona 21 0 rfl (by kernel_rfl) ?_;have Rz:=RB.row #[.int .i64 0,.int .i64 CA,.int .i64 CV,.slice s0 qd.length t0,.slice s1 qb.length t1,.slice s2 qt.length t2,.slice s3 qu.length t3,.slice s4 qn.length t4];have oz:=repK.own_out oq (z0A _ (w.heap.size) #[.int .i64 0,.int .i64 CA,.int .i64 CV,.slice s0 qd.length t0,.slice s1 qb.length t1,.slice s2 qt.length t2,.slice s3 qu.length t3,.slice s4 qn.length t4]) (fun k hk=>by simp only[List.mem_singleton];exact aN k hk);replace hO:Out [w.heap.size] Y _:=hO.trans (z0A w7 (w.heap.size) #[.int .i64 0,.int .i64 CA,.int .i64 CV,.slice s0 qd.length t0,.slice s1 qb.length t1,.slice s2 qt.length t2,.slice s3 qu.length t3,.slice s4 qn.length t4]);replace b0:=z0j (g:=w.heap.size) b0 (by omega) #[.int .i64 0,.int .i64 CA,.int .i64 CV,.slice s0 qd.length t0,.slice s1 qb.length t1,.slice s2 qt.length t2,.slice s3 qu.length t3,.slice s4 qn.length t4];refine z0r (by kernel_rfl) 95 _ _ rfl _ #[.int .i64 0,.int .i64 CA,.int .i64 CV,.slice s0 qd.length t0,.slice s1 qb.length t1,.slice s2 qt.length t2,.slice s3 qu.length t3,.slice s4 qn.length t4] rfl rfl 95 _ RB z4C rfl (by simp[Value.oneCell']) ?_;refine ThenGo.to ⟨⟨⟨_,hO⟩,rfl⟩,?_⟩;refine z0e (by kernel_rfl) ?_;obtain⟨z0,z1,z2,z3,z4,z5,z6,z7⟩:=Rz.cel8
  go_wp2
  exact bodyPost_ret (v:=.agg #[.int .i64 0,.int .i64 CA,.int .i64 CV,.slice s0 qd.length t0,.slice s1 qb.length t1,.slice s2 qt.length t2,.slice s3 qu.length t3,.slice s4 qn.length t4]) (by simp[results,Tryz.results112,go_sem,z0,z1,z2,z3,z4,z5,z6,z7]) rfl ⟨(⟨.slice s0 qd.length t0,qd,.slice s1 qb.length t1,qb,.slice s2 qt.length t2,qt,.slice s3 qu.length t3,qu,.slice s4 qn.length t4,qn⟩:RepQ),by rw[T.out.1,T.out.2.1,T.out.2.2.1],aL.out.trans T.out.2.2.2.symm,oz,nq,gw,b0⟩
end Go.Proofs.YtlkpdgjnhkjpjaaGreatDoor
