/- Texts joined, with what the laws reach alone. -/
import Derived.Test.YtfdkcbafpiojkaaGreatDoorSGBL
set_option linter.unusedVariables false
set_option linter.unusedSimpArgs false
namespace Go.Proofs.YtfdkcbafpiojkaaGreatDoor
open Go.RowKit
open Go.BigFrame
set_option maxRecDepth 100000
set_option maxRecDepth 100000 in
set_option maxHeartbeats 16000000 in
theorem l9Opt_any (b1 b2:Nat) (p:RepQ) (t:TxnQ) (w:World) (hB:Blk w b1 32 #[p.vd,p.vb,p.vt,p.vu,p.vn]) (hB2:Blk w b2 49 #[.int .i64 t.i,.int .i64 t.s,.int .i64 t.q,t.va]) (h:repK.own w p) (hT:txnK.own w t) (hl:p.n≤1048576) (hl' : TxnQ.n t≤1048576) (h0:repF p.e=0) :
  Calls Tryz.prog 65 #[.pointer (some ⟨b1,0,none⟩),.pointer (some ⟨b2,0,none⟩)] w fun e w' => ∃ q:RepQ,e=.returned (.agg #[.int .i64 (opC p.e t.e),.int .i64 (opA p.e t.e),.int .i64 (opV p.e t.e),q.vd,q.vb,q.vt,q.vu,q.vn])∧q.e=opE p.e t.e∧repK.own w' q∧(repK.foot q).Nodup∧(∀ k∈repK.foot q,w.heap.size≤k)∧Below w.heap.size w w' := by
 have hW0:=opC_ways p.e t.e
 have hZ0:∀ c,opC p.e t.e=c→c≠0→opC p.e t.e=c∧opA p.e t.e=0∧opV p.e t.e=0∧opE p.e t.e=⟨[],[],[],[],[]⟩:=fun c e h=>⟨e,by rw [opA,if_neg (by rw [e];exact h)],by rw [opV,if_neg (by rw [e];exact h)],by rw [opE,if_neg (by rw [e];exact h)]⟩
 have hz:=rep_zero h0
 have ha:=((lst_iff _).1 hz.2.1).2.1
 have HE:Hid (opC p.e t.e=0→opA p.e t.e=(runA p.now t.acts).1∧opV p.e t.e=runV p.now t.acts∧opE p.e t.e=mkR (p.done.map TxnQ.e) ((p.tent ++ [t]).map TxnQ.e)):=fun e=>⟨by rw [opA,if_pos e];rfl,by rw [opV,if_pos e];rfl,by rw [opE,if_pos e,List.map_append];rfl⟩
 have HFD:Hid (∀ q∈p.done,(TxnQ.e q).F=0):=fun q hq=>ha _ (List.mem_append_left _ (List.mem_map.2 ⟨q,hq,rfl⟩))
 have HFE:Hid (∀ q∈p.tent,(TxnQ.e q).F=0):=fun q hq=>ha _ (List.mem_append_right _ (List.mem_map.2 ⟨q,hq,rfl⟩))
 have hl16:p.done.length≤16:=by have:=hz.1.1;simpa [RepQ.e] using this
 have hl8:p.tent.length≤8:=by have:=hz.1.2;simpa [RepQ.e] using this
 have HG:Hid (p.now.length≤8∧Good p.now):=by
  have e:p.now=allI (allI [] (p.done.map TxnQ.e)) (p.tent.map TxnQ.e):=congrArg RepE.now (mkR_now h0)
  have ga:=allI_good (xs:=[]) (by simp) nil_good (ds:=p.done.map TxnQ.e) (fun t ht=>by obtain ⟨q,hq,rfl⟩:=List.mem_map.1 ht;exact HFD.out q hq)
  have gb:=allI_good ga.1 ga.2 (ds:=p.tent.map TxnQ.e) (fun t ht=>by obtain ⟨q,hq,rfl⟩:=List.mem_map.1 ht;exact HFE.out q hq)
  rw [← e] at gb
  exact gb
 have hTF:TxnD.F t.e=txnF t.i t.s t.q t.acts:=rfl
 have hkd:∀ w' va,txnK.At w' p.vd p.done→∀ b,Box4 w' b 0 (.int .i64 t.i) (.int .i64 t.s) (.int .i64 t.q) va→Calls Tryz.prog 129 #[p.vd,.pointer (some ⟨b,0,none⟩)] w' fun e w'' => e=.returned (.bool (knw p.e.done t.e))∧Below w'.heap.size w' w'' := fun w' va hA b hB=>l7Known_any p.vd p.done b 0 t.e va w' hA hB (by omega)
 have hkt:∀ w' va,txnK.At w' p.vt p.tent→∀ b,Box4 w' b 0 (.int .i64 t.i) (.int .i64 t.s) (.int .i64 t.q) va→Calls Tryz.prog 129 #[p.vt,.pointer (some ⟨b,0,none⟩)] w' fun e w'' => e=.returned (.bool (knw p.e.tent t.e))∧Below w'.heap.size w' w'' := fun w' va hA b hB=>l7Known_any p.vt p.tent b 0 t.e va w' hA hB (by omega)
 have htl:p.e.tent.length=p.tent.length:=by simp [RepQ.e]
 rw [htl] at hW0
 have HT0:Hid ((t.e).F=0→txnF t.i t.s t.q t.acts=0):=fun e=>e
 have hr:=fun (w' : World) (hb:Below w.heap.size w w')=>repK.own_out (F:=[]) (w' := w') h (Out.of_below hb) (fun _ _=>by simp)
 have hrT:=fun (w' : World) (hb:Below w.heap.size w w')=>txnK.own_out (F:=[]) (w' := w') hT (Out.of_below hb) (fun _ _=>by simp)
 have HNQ:Hid (NiceQ9 t∧∀ q∈p.tent,NiceQ9 q):=⟨niceQ_of hT,fun q hq=>niceQ_of (h.2.2.1.2 q hq)⟩
 have HNN:Hid (NiceV p.vn):=h.2.2.2.2.niceV
 have hln:p.tent.length + nmL TxnQ.n p.tent≤1048576:=by dsimp only [RepQ.n] at hl;omega
 generalize opA p.e t.e=AA at *
 generalize opV p.e t.e=VV at *
 generalize opE p.e t.e=RE at *
 generalize opC p.e t.e=C at *
 generalize knw p.e.done t.e=KD at *
 generalize knw p.e.tent t.e=KT at *
 clear hz ha htl
 rw [h0] at hW0
 obtain ⟨pvd,pd,pvb,pb,pvt,pt,pvu,pu,pvn,pn⟩:=p
 obtain ⟨p0,p5,rfl⟩:∃ a c,pvd=.slice a pd.length c:=h.1.shape
 obtain ⟨p1,p6,rfl⟩:∃ a c,pvb=.slice a pb.length c:=h.2.1.shape
 obtain ⟨p2,p7,rfl⟩:∃ a c,pvt=.slice a pt.length c:=h.2.2.1.shape
 obtain ⟨p3,p8,rfl⟩:∃ a c,pvu=.slice a pu.length c:=h.2.2.2.1.shape
 obtain ⟨p4,p9,rfl⟩:∃ a c,pvn=.slice a pn.length c:=h.2.2.2.2.shape
 obtain ⟨ti,ts,tq,va,acts⟩:=t
 obtain ⟨xa,xk,rfl⟩:∃ a c,va=.slice a acts.length c:=(show actK.Own w va acts from hT).shape
 dsimp only at hW0 HE HFD HFE hl16 hl8 HG hTF hkd hkt HT0 hr hrT HNQ HNN hln
 have hl3:acts.length≤1048576:=by simpa [TxnQ.n] using hl'
 have hrA:∀ w' : World,Below w.heap.size w w' → ActRow w' xa acts:=fun w' hb=>(actK_at (show actK.At w' (.slice xa acts.length xk) acts from txnK.own_rd (hrT w' hb))).2
 have b0:Below w.heap.size w (w.alloc (.cells #[.int .i64 0,.int .i64 0,.int .i64 0,.slice none 0 0,.slice none 0 0,.slice none 0 0,.slice none 0 0,.slice none 0 0] 34)):=by go_grown
 have RB:=Blk.new w 34 #[.int .i64 0,.int .i64 0,.int .i64 0,.slice none 0 0,.slice none 0 0,.slice none 0 0,.slice none 0 0,.slice none 0 0]
 have hB1l:=hB.lt
 have hB2l:=hB2.lt
 have BA:=hB.below b0
 have BT:=hB2.below b0
 have hf:=fun b o w hB h=>l2Fault_any b o ti ts tq xa xk acts w hB h hl3
 rw [hTF] at hW0
 generalize hTFg:txnF ti ts tq acts=TF at *
 clear hB hB2
 go_enter Tryz.func65,Tryz.ntmps65
 go_wp2_with fail
 generalize w.alloc (.cells #[.int .i64 0,.int .i64 0,.int .i64 0,.slice none 0 0,.slice none 0 0,.slice none 0 0,.slice none 0 0,.slice none 0 0] 34)=W at *
 have B4:∀ w',Blk w' b2 49 #[.int .i64 ti,.int .i64 ts,.int .i64 tq,.slice xa acts.length xk]→Box4 w' b2 0 (.int .i64 ti) (.int .i64 ts) (.int .i64 tq) (.slice xa acts.length xk):=fun w' hb=>⟨hb.cell 0 _ rfl,by simpa using hb.cell 1 _ rfl,by simpa using hb.cell 2 _ rfl,by simpa using hb.cell 3 _ rfl⟩
 refine (hf b2 0 W (B4 W BT) (hrA W b0)).mono ?_
 rintro e w1 ⟨rfl,hw⟩
 replace hw:=hw.symm
 subst hw
 clear hf
 rcases hW0 with ⟨z0,_⟩ | ⟨_,h1,hC⟩ | ⟨_,h1,h2,hC⟩ | ⟨_,h1,h2,h3,hC⟩ | ⟨_,h1,h2,h3,h4,hC⟩ | ⟨_,h1,h2,h3,h4,hC⟩
 ·exact absurd rfl z0
 ·have HZ:Hid _:=hZ0 _ hC h1
  have h1' : (TF != 0)=true:=by simpa using h1
  clear hC hZ0 HE
  have hlb:=fun w=>l9Bad_any TF w
  go_wp2_with fail
  refine (hlb _).mono ?_
  rintro e wb ⟨rfl,hb⟩
  replace b0:=below_from b0 hb
  replace RB:=RB.below hb
  clear hb hlb
  have Rr:=RB.row #[.int .i64 TF,.int .i64 0,.int .i64 0,.slice none 0 0,.slice none 0 0,.slice none 0 0,.slice none 0 0,.slice none 0 0]
  have hBr:=below_row (g:=w.heap.size) b0 (Nat.le_refl _) #[.int .i64 TF,.int .i64 0,.int .i64 0,.slice none 0 0,.slice none 0 0,.slice none 0 0,.slice none 0 0,.slice none 0 0]
  go_wp2_with (first | (refine st_row (by kernel_rfl) 34 _ _ rfl _ #[.int .i64 TF,.int .i64 0,.int .i64 0,.slice none 0 0,.slice none 0 0,.slice none 0 0,.slice none 0 0,.slice none 0 0] rfl rfl 34 _ RB sz_rr rfl (by simp [Value.oneCell']) ?_))
  have z0:=Rr.cell 0 _ rfl
  have z1:=Rr.cell 1 _ rfl
  have z2:=Rr.cell 2 _ rfl
  have z3:=Rr.cell 3 _ rfl
  have z4:=Rr.cell 4 _ rfl
  have z5:=Rr.cell 5 _ rfl
  have z6:=Rr.cell 6 _ rfl
  have z7:=Rr.cell 7 _ rfl
  first | done | skip
  exact bodyPost_ret (v:=.agg #[.int .i64 TF,.int .i64 0,.int .i64 0,.slice none 0 0,.slice none 0 0,.slice none 0 0,.slice none 0 0,.slice none 0 0]) (by simp [results,Tryz.results65,go_sem,z0,z1,z2,z3,z4,z5,z6,z7]) rfl ⟨rep0,by rw [HZ.out.1,HZ.out.2.1,HZ.out.2.2.1];rfl,HZ.out.2.2.2.symm,(rep0_own _).1,by rw [(rep0_own w).2];simp,by rw [(rep0_own w).2];simp,hBr⟩
 all_goals
  subst h1
  have d0:=BA.cell 0 _ rfl
  have HC:Hid (C=_):=hC
  clear hC
  go_wp2_with fail
  clear d0
  refine (hkd W _ (hr W b0).1.at b2 (B4 W BT)).mono ?_
  rintro e w3 ⟨rfl,hb⟩
  replace BA:=BA.below hb
  replace BT:=BT.below hb
  replace RB:=RB.below hb
  replace b0:=below_from b0 hb
  clear hb hkd
 ·have HZ:Hid _:=hZ0 _ HC.out (by decide)
  clear hZ0 HE
  have hlb:=fun w=>l9Bad_any 6 w
  go_wp2_with fail
  refine (hlb _).mono ?_
  rintro e wb ⟨rfl,hb⟩
  replace b0:=below_from b0 hb
  replace RB:=RB.below hb
  clear hb hlb
  have Rr:=RB.row #[.int .i64 6,.int .i64 0,.int .i64 0,.slice none 0 0,.slice none 0 0,.slice none 0 0,.slice none 0 0,.slice none 0 0]
  have hBr:=below_row (g:=w.heap.size) b0 (Nat.le_refl _) #[.int .i64 6,.int .i64 0,.int .i64 0,.slice none 0 0,.slice none 0 0,.slice none 0 0,.slice none 0 0,.slice none 0 0]
  go_wp2_with (first | (refine st_row (by kernel_rfl) 34 _ _ rfl _ #[.int .i64 6,.int .i64 0,.int .i64 0,.slice none 0 0,.slice none 0 0,.slice none 0 0,.slice none 0 0,.slice none 0 0] rfl rfl 34 _ RB sz_rr rfl (by simp [Value.oneCell']) ?_))
  have z0:=Rr.cell 0 _ rfl
  have z1:=Rr.cell 1 _ rfl
  have z2:=Rr.cell 2 _ rfl
  have z3:=Rr.cell 3 _ rfl
  have z4:=Rr.cell 4 _ rfl
  have z5:=Rr.cell 5 _ rfl
  have z6:=Rr.cell 6 _ rfl
  have z7:=Rr.cell 7 _ rfl
  first | done | skip
  exact bodyPost_ret (v:=.agg #[.int .i64 6,.int .i64 0,.int .i64 0,.slice none 0 0,.slice none 0 0,.slice none 0 0,.slice none 0 0,.slice none 0 0]) (by simp [results,Tryz.results65,go_sem,z0,z1,z2,z3,z4,z5,z6,z7]) rfl ⟨rep0,by rw [HZ.out.1,HZ.out.2.1,HZ.out.2.2.1];rfl,HZ.out.2.2.2.symm,(rep0_own _).1,by rw [(rep0_own w).2];simp,by rw [(rep0_own w).2];simp,hBr⟩
 all_goals
  have d2:=BA.cell 2 _ rfl
  go_wp2_with fail
  clear d2
  refine (hkt w3 _ (hr w3 b0).2.2.1.at b2 (B4 w3 BT)).mono ?_
  rintro e w4 ⟨rfl,hb⟩
  replace BA:=BA.below hb
  replace BT:=BT.below hb
  replace RB:=RB.below hb
  replace b0:=below_from b0 hb
  clear hb hkt
 ·have HZ:Hid _:=hZ0 _ HC.out (by decide)
  clear hZ0 HE
  have hlb:=fun w=>l9Bad_any 6 w
  go_wp2_with fail
  refine (hlb _).mono ?_
  rintro e wb ⟨rfl,hb⟩
  replace b0:=below_from b0 hb
  replace RB:=RB.below hb
  clear hb hlb
  have Rr:=RB.row #[.int .i64 6,.int .i64 0,.int .i64 0,.slice none 0 0,.slice none 0 0,.slice none 0 0,.slice none 0 0,.slice none 0 0]
  have hBr:=below_row (g:=w.heap.size) b0 (Nat.le_refl _) #[.int .i64 6,.int .i64 0,.int .i64 0,.slice none 0 0,.slice none 0 0,.slice none 0 0,.slice none 0 0,.slice none 0 0]
  go_wp2_with (first | (refine st_row (by kernel_rfl) 34 _ _ rfl _ #[.int .i64 6,.int .i64 0,.int .i64 0,.slice none 0 0,.slice none 0 0,.slice none 0 0,.slice none 0 0,.slice none 0 0] rfl rfl 34 _ RB sz_rr rfl (by simp [Value.oneCell']) ?_))
  have z0:=Rr.cell 0 _ rfl
  have z1:=Rr.cell 1 _ rfl
  have z2:=Rr.cell 2 _ rfl
  have z3:=Rr.cell 3 _ rfl
  have z4:=Rr.cell 4 _ rfl
  have z5:=Rr.cell 5 _ rfl
  have z6:=Rr.cell 6 _ rfl
  have z7:=Rr.cell 7 _ rfl
  first | done | skip
  exact bodyPost_ret (v:=.agg #[.int .i64 6,.int .i64 0,.int .i64 0,.slice none 0 0,.slice none 0 0,.slice none 0 0,.slice none 0 0,.slice none 0 0]) (by simp [results,Tryz.results65,go_sem,z0,z1,z2,z3,z4,z5,z6,z7]) rfl ⟨rep0,by rw [HZ.out.1,HZ.out.2.1,HZ.out.2.2.1];rfl,HZ.out.2.2.2.symm,(rep0_own _).1,by rw [(rep0_own w).2];simp,by rw [(rep0_own w).2];simp,hBr⟩
 ·have HZ:Hid _:=hZ0 _ HC.out (by decide)
  have e8:decide ((8:Int)≤(pt.length:Int))=true:=decide_eq_true (by omega)
  have e8' : decide ((pt.length:Int) ≥ 8)=true:=decide_eq_true (by omega)
  have d2:=BA.cell 2 _ rfl
  clear hZ0 HE
  have hlb:=fun w=>l9Bad_any 7 w
  go_wp2_with fail
  refine (hlb _).mono ?_
  rintro e wb ⟨rfl,hb⟩
  replace b0:=below_from b0 hb
  replace RB:=RB.below hb
  clear hb hlb
  have Rr:=RB.row #[.int .i64 7,.int .i64 0,.int .i64 0,.slice none 0 0,.slice none 0 0,.slice none 0 0,.slice none 0 0,.slice none 0 0]
  have hBr:=below_row (g:=w.heap.size) b0 (Nat.le_refl _) #[.int .i64 7,.int .i64 0,.int .i64 0,.slice none 0 0,.slice none 0 0,.slice none 0 0,.slice none 0 0,.slice none 0 0]
  go_wp2_with (first | (refine st_row (by kernel_rfl) 34 _ _ rfl _ #[.int .i64 7,.int .i64 0,.int .i64 0,.slice none 0 0,.slice none 0 0,.slice none 0 0,.slice none 0 0,.slice none 0 0] rfl rfl 34 _ RB sz_rr rfl (by simp [Value.oneCell']) ?_))
  have z0:=Rr.cell 0 _ rfl
  have z1:=Rr.cell 1 _ rfl
  have z2:=Rr.cell 2 _ rfl
  have z3:=Rr.cell 3 _ rfl
  have z4:=Rr.cell 4 _ rfl
  have z5:=Rr.cell 5 _ rfl
  have z6:=Rr.cell 6 _ rfl
  have z7:=Rr.cell 7 _ rfl
  first | done | skip
  exact bodyPost_ret (v:=.agg #[.int .i64 7,.int .i64 0,.int .i64 0,.slice none 0 0,.slice none 0 0,.slice none 0 0,.slice none 0 0,.slice none 0 0]) (by simp [results,Tryz.results65,go_sem,z0,z1,z2,z3,z4,z5,z6,z7]) rfl ⟨rep0,by rw [HZ.out.1,HZ.out.2.1,HZ.out.2.2.1];rfl,HZ.out.2.2.2.symm,(rep0_own _).1,by rw [(rep0_own w).2];simp,by rw [(rep0_own w).2];simp,hBr⟩
 ·obtain ⟨eA,eV,eE⟩:=HE.out HC.out
  have HAV:Hid (C=0∧AA=_∧VV=_∧RE=_):=⟨HC.out,eA,eV,eE⟩
  have e8:decide ((8:Int)≤(pt.length:Int))=false:=decide_eq_false (by omega)
  have e8' : decide ((pt.length:Int) ≥ 8)=false:=decide_eq_false (by omega)
  have d2:=BA.cell 2 _ rfl
  have d4:=BA.cell 4 _ rfl
  clear hZ0 HE eA eV eE HC
  go_wp2_with fail
  clear d2 d4 e8 e8'
  have hit:=itemK_at9 (hr w4 b0).2.2.2.2.at
  refine (l3Exec_any p4 p9 pn b2 0 ti ts tq xa xk acts w4 hit (HNN.out _ _ _ rfl) (B4 w4 BT) (hrA w4 b0) HG.out.1 HG.out.2 hTFg).mono ?_
  rintro e w5 ⟨ib,ic,rfl,_,hb⟩
  replace BA:=BA.below hb
  replace BT:=BT.below hb
  replace RB:=RB.below hb
  replace b0:=below_from b0 hb
  clear hb hit
  generalize (runA pn acts).1=CA at *
  generalize runV pn acts=CV at *
  generalize (runR pn acts).length=il at *
  have hbx:Below w5.heap.size w5 (w5.alloc (.cells #[.int .i64 CA,.int .i64 CV,.slice ib il ic] 68)):=by go_grown
  have BI:=Blk.new w5 68 #[.int .i64 CA,.int .i64 CV,.slice ib il ic]
  have hRl:=RB.lt
  replace BA:=BA.below hbx
  replace BT:=BT.below hbx
  replace RB:=RB.below hbx
  replace b0:=below_from b0 hbx
  clear hbx
  go_wp2_with fail
  generalize hYe:w5.alloc (.cells #[.int .i64 CA,.int .i64 CV,.slice ib il ic] 68)=Y at *
  clear hYe
  generalize w5.heap.size=gi at *
  have hW:Below Y.heap.size Y Y.drew:=(Below.refl _ _).drew
  have c0:=keep_cell (F:=[w.heap.size]) (BI.cell 0 _ rfl) (by simp;omega)
  have c1:=keep_cell (F:=[w.heap.size]) (BI.cell 1 _ rfl) (by simp;omega)
  have e0:=keep_cell (F:=[w.heap.size]) (BA.cell 0 _ rfl) (by simp;omega)
  have e2:=keep_cell (F:=[w.heap.size]) (BA.cell 2 _ rfl) (by simp;omega)
  have f0:=keep_cell (F:=[w.heap.size]) (BT.cell 0 _ rfl) (by simp;omega)
  have f1:=keep_cell (F:=[w.heap.size]) (BT.cell 1 _ rfl) (by simp;omega)
  have f2:=keep_cell (F:=[w.heap.size]) (BT.cell 2 _ rfl) (by simp;omega)
  have f3:=keep_cell (F:=[w.heap.size]) (BT.cell 3 _ rfl) (by simp;omega)
  have hne:Nonempty (KeepP (Out [w.heap.size] Y)):=⟨⟨Y,Out.refl _ _⟩⟩
  have hO:Out [w.heap.size] Y Y.drew:=Out.of_below hW
  obtain ⟨i0,hi,hz0,hz1,hz2⟩:=info_parts infoTxn
  refine text_begin (S:=fun w' => ∃ u:KeepP (Out [w.heap.size] Y),w' = u.val) (by kernel_rfl) ?_
  refine seg_range [(0,12),(13,3)] 7 (by kernel_rfl) (by kernel_rfl) (by kernel_rfl) (by kernel_rfl) (by kernel_rfl) ⟨⟨_,hO⟩,rfl⟩ ?_
  simp only [pickR,List.toList_toArray,List.flatMap_cons,List.flatMap_nil,List.drop_succ_cons,List.drop_zero,List.take_succ_cons,List.take_zero,List.cons_append,List.nil_append,List.append_nil]
  repeat go_big_quiet_step (fail)
  refine wpQuiet_nil ?_
  clear c0 c1 e0 e2 f0 f1 f2 f3
  have hwb:=b0.trans (hW.mono b0.size)
  refine call_at 12 (some 53) 92 #[.slice p2 pt.length p7] 6 (by kernel_rfl) (by kernel_rfl) (by kernel_rfl) (by kernel_rfl) (by kernel_rfl) ?_
  refine (l2CopyAll9_any (.slice p2 pt.length p7) pt _ (hr _ hwb).2.2.1.at HNQ.out.2 hln).mono ?_
  rintro e x1 ⟨v1,q1,rfl,e1,o1,n1,g1,hb⟩
  replace hW:=hW.trans (hb.mono hW.size)
  have hYx:Y.heap.size≤x1.heap.size:=hW.size
  have g1' : ∀ k∈txnK.fp v1 q1,Y.heap.size≤k:=fun k hk=>by have:=g1 k hk;have h2:Y.heap.size≤Y.drew.heap.size:=(show Below Y.heap.size Y Y.drew from (Below.refl _ _).drew).size;omega
  clear hb g1 hwb
  replace hO:Out [w.heap.size] Y x1:=Out.of_below hW
  obtain ⟨a1,k1,rfl⟩:=o1.shape
  refine ⟨_,rfl,⟨⟨_,hO⟩,rfl⟩,?_⟩
  simp only [Act.put,List.getElem_toArray,List.getElem_cons_succ,List.getElem_cons_zero,List.setIfInBounds_toArray,List.set_cons_zero,List.set_cons_succ]
  have hwb:=b0.trans (hW.mono b0.size)
  refine call_at 16 (some 57) 131 #[.agg #[.int .i64 ti,.int .i64 ts,.int .i64 tq,.slice xa acts.length xk]] 5 (by kernel_rfl) (by kernel_rfl) (by kernel_rfl) (by kernel_rfl) (by kernel_rfl) ?_
  refine (l2CopyG9_any (⟨ti,ts,tq,.slice xa acts.length xk,acts⟩:TxnQ) x1 (txnK.own_rd (hrT _ hwb)) HNQ.out.1 hl3).mono ?_
  rintro e x2 ⟨a2,c2,rfl,ho2,hb⟩
  have HLT:=o1.lt
  replace o1:=o1.below hb
  replace hW:=hW.trans (hb.mono hW.size)
  obtain ⟨o2,hk2⟩:=own_zero ho2
  have hP:txnK.own x2 ⟨ti,ts,tq,.slice a2 acts.length c2,acts⟩:=⟨o2,fun _ _=>trivial⟩
  have hPlo:∀ x∈txnK.foot ⟨ti,ts,tq,.slice a2 acts.length c2,acts⟩,x1.heap.size≤x:=fun x hx=>hk2 x (by rw [← actK_fp (.slice a2 acts.length c2) acts];exact hx)
  have hPn:(txnK.foot ⟨ti,ts,tq,.slice a2 acts.length c2,acts⟩).Nodup:=by
   show (actK.fp _ _).Nodup
   rw [actK_fp];exact blk_nodup _
  have hx12:=hb.size
  clear hb hwb ho2 o2 hk2
  replace hO:Out [w.heap.size] Y x2:=Out.of_below hW
  refine ⟨_,rfl,⟨⟨_,hO⟩,rfl⟩,?_⟩
  simp only [Act.put,List.getElem_toArray,List.getElem_cons_succ,List.getElem_cons_zero,List.setIfInBounds_toArray,List.set_cons_zero,List.set_cons_succ]
  refine one_at 17 _ 4 (by kernel_rfl) rfl (by kernel_rfl) ?_
  have hbA:Below x2.heap.size x2 (x2.alloc (.cells #[.int .i64 ti,.int .i64 ts,.int .i64 tq,.slice a2 acts.length c2] 49)):=by go_grown
  have hOA:=o1.below hbA
  have hPA:=txnK.own_out (F:=[]) hP (Out.of_below hbA) (fun _ _=>by simp)
  replace hW:=hW.trans (hbA.mono hW.size)
  replace hO:Out [w.heap.size] Y _:=Out.of_below hW
  go_wp2
  refine ThenGo.to ⟨⟨⟨_,hO⟩,rfl⟩,?_⟩
  have hrow0:=hOA.1
  refine one_at 18 _ 3 (by kernel_rfl) rfl (by kernel_rfl) ?_
  have HQL:Hid (q1.length≤8):=by
   have:=congrArg List.length e1
   rw [List.length_map,List.length_map] at this
   show _≤_
   omega
  refine wpList_append_own_at _ rfl _ _ 28 rfl 0 49 i0 (.agg #[.int .i64 0,.int .i64 0,.int .i64 0,.slice none 0 0]) 4 48 Tryz.underlying28 hi hz0 hz1 hz2 rfl (by decide) _ q1.length (txnK.row q1) rfl hrow0 ⟨x2.heap.size,0,none⟩ 1 1 [.int .i64 ti,.int .i64 ts,.int .i64 tq,.slice a2 acts.length c2] rfl rfl ?c1 ?c2 ?c3 ?c4 ?c5 ?_
  case c1=>intro j u hj;match j,hj with | 0,hj=>simp at hj;subst hj;simp [Addr.add] | 1,hj=>simp at hj;subst hj;simp [Addr.add] | 2,hj=>simp at hj;subst hj;simp [Addr.add] | 3,hj=>simp at hj;subst hj;simp [Addr.add]
  case c2=>intro u hu;simp at hu;rcases hu with rfl | rfl | rfl | rfl <;> rfl
  case c3=>have:=HQL.out;unfold maxLen;omega
  case c4=>have:=HQL.out;omega
  case c5=>first | omega | simp
  intro v' x5 hown hgrow hnil hat
  clear hnil hrow0
  generalize hwA:x2.alloc (.cells #[.int .i64 ti,.int .i64 ts,.int .i64 tq,.slice a2 acts.length c2] 49)=WA at *
  clear hwA
  obtain ⟨hO5,hn5,hlo5,hou⟩:=hOA.snoc n1 g1' hPA hPn (fun x hx hx' => by have:=HLT x hx';have:=hPlo x hx;omega) (fun x hx=>by have:=hPlo x hx;omega) hW.size hown hgrow hat
  replace hW:Below Y.heap.size Y x5:=Out.keep hW hou hW.size (fun x hx=>g1' x (by simp only [Kind.fp,List.mem_append];exact Or.inl hx))
  clear hgrow hat hou hown hOA hPA hP hPlo hPn HLT
  obtain ⟨a5,k5,rfl⟩:=hO5.shape
  replace hO:Out [w.heap.size] Y x5:=Out.of_below hW
  go_wp2
  refine ThenGo.to ⟨⟨⟨_,hO⟩,rfl⟩,?_⟩
  simp only [Act.put,List.getElem_toArray,List.getElem_cons_succ,List.getElem_cons_zero,List.setIfInBounds_toArray,List.set_cons_zero,List.set_cons_succ]
  have hwb:=b0.trans (hW.mono b0.size)
  have hFq:∀ q∈q1 ++ [(⟨ti,ts,tq,.slice a2 acts.length c2,acts⟩:TxnQ)],(TxnQ.e q).F=0:=fun q hq=>by
   rcases List.mem_append.1 hq with hq | hq
   ·have:TxnQ.e q∈pt.map TxnQ.e:=by rw [← e1];exact List.mem_map.2 ⟨q,hq,rfl⟩
    obtain ⟨q',hq',e'⟩:=List.mem_map.1 this
    rw [← e'];exact HFE.out q' hq'
   ·simp only [List.mem_singleton] at hq;subst hq;exact hTFg
  have HMAP:Hid ((q1 ++ [(⟨ti,ts,tq,.slice a2 acts.length c2,acts⟩:TxnQ)]).map TxnQ.e=(pt ++ [(⟨ti,ts,tq,.slice xa acts.length xk,acts⟩:TxnQ)]).map TxnQ.e):=show _=_ by rw [List.map_append,List.map_append,e1];rfl
  have hmk:=l9Make_any (.slice p0 pd.length p5) (.slice a5 (q1 ++ [(⟨ti,ts,tq,.slice a2 acts.length c2,acts⟩:TxnQ)]).length k5) pd (q1 ++ [(⟨ti,ts,tq,.slice a2 acts.length c2,acts⟩:TxnQ)]) x5 (hr _ hwb).1.at hO5.at HFD.out hFq (by omega) (by have:=HQL.out;simp;omega)
  rw [HMAP.out] at hmk
  refine call_at 19 (some 60) 54 #[.slice p0 pd.length p5,.slice a5 (q1 ++ [(⟨ti,ts,tq,.slice a2 acts.length c2,acts⟩:TxnQ)]).length k5] 2 (by kernel_rfl) (by kernel_rfl) (by kernel_rfl) (by kernel_rfl) (by kernel_rfl) ?_
  refine hmk.mono ?_
  rintro e w7 ⟨q,rfl,eq,oq,nq,gq,hb⟩
  have hY5:=hW.size
  replace hW:=hW.trans (hb.mono hW.size)
  have RB0:=RB.lt
  replace RB:=RB.below hW
  have hsz:=b0.size
  replace hO:Out [w.heap.size] Y w7:=Out.of_below hW
  replace b0:=b0.trans (hW.mono b0.size)
  have gne:∀ k∈repK.foot q,k≠w.heap.size:=fun k hk=>by have:=gq k hk;omega
  have gw:∀ k∈repK.foot q,w.heap.size≤k:=fun k hk=>by have:=gq k hk;omega
  clear hb gq hmk hO5 hn5 hlo5 hFq hwb
  refine ⟨_,rfl,⟨⟨_,hO⟩,rfl⟩,?_⟩
  simp only [Act.put,List.getElem_toArray,List.getElem_cons_succ,List.getElem_cons_zero,List.setIfInBounds_toArray,List.set_cons_zero,List.set_cons_succ]
  obtain ⟨qvd,qd,qvb,qb,qvt,qt,qvu,qu,qvn,qn⟩:=q
  obtain ⟨s0,t0,rfl⟩:∃ a c,qvd=.slice a qd.length c:=oq.1.shape
  obtain ⟨s1,t1,rfl⟩:∃ a c,qvb=.slice a qb.length c:=oq.2.1.shape
  obtain ⟨s2,t2,rfl⟩:∃ a c,qvt=.slice a qt.length c:=oq.2.2.1.shape
  obtain ⟨s3,t3,rfl⟩:∃ a c,qvu=.slice a qu.length c:=oq.2.2.2.1.shape
  obtain ⟨s4,t4,rfl⟩:∃ a c,qvn=.slice a qn.length c:=oq.2.2.2.2.shape
  have HEQ:Hid _:=eq
  clear eq
  refine seg_range [(20,1)] 1 (by kernel_rfl) (by kernel_rfl) (by kernel_rfl) (by kernel_rfl) (by kernel_rfl) ⟨⟨_,hO⟩,rfl⟩ ?_
  simp only [pickR,List.toList_toArray,List.flatMap_cons,List.flatMap_nil,List.drop_succ_cons,List.drop_zero,List.take_succ_cons,List.take_zero,List.cons_append,List.nil_append,List.append_nil]
  repeat go_big_quiet_step (fail)
  refine wpQuiet_nil ?_
  refine one_at 21 _ 0 (by kernel_rfl) rfl (by kernel_rfl) ?_
  have Rz:=RB.row #[.int .i64 0,.int .i64 CA,.int .i64 CV,.slice s0 qd.length t0,.slice s1 qb.length t1,.slice s2 qt.length t2,.slice s3 qu.length t3,.slice s4 qn.length t4]
  have oz:=repK.own_out oq (out_row _ (w.heap.size) #[.int .i64 0,.int .i64 CA,.int .i64 CV,.slice s0 qd.length t0,.slice s1 qb.length t1,.slice s2 qt.length t2,.slice s3 qu.length t3,.slice s4 qn.length t4]) (fun k hk=>by simp only [List.mem_singleton];exact gne k hk)
  replace hO:Out [w.heap.size] Y _:=hO.trans (out_row w7 (w.heap.size) #[.int .i64 0,.int .i64 CA,.int .i64 CV,.slice s0 qd.length t0,.slice s1 qb.length t1,.slice s2 qt.length t2,.slice s3 qu.length t3,.slice s4 qn.length t4])
  replace b0:=below_row (g:=w.heap.size) b0 (by omega) #[.int .i64 0,.int .i64 CA,.int .i64 CV,.slice s0 qd.length t0,.slice s1 qb.length t1,.slice s2 qt.length t2,.slice s3 qu.length t3,.slice s4 qn.length t4]
  refine st_row (by kernel_rfl) 34 _ _ rfl _ #[.int .i64 0,.int .i64 CA,.int .i64 CV,.slice s0 qd.length t0,.slice s1 qb.length t1,.slice s2 qt.length t2,.slice s3 qu.length t3,.slice s4 qn.length t4] rfl rfl 34 _ RB sz_rr rfl (by simp [Value.oneCell']) ?_
  refine ThenGo.to ⟨⟨⟨_,hO⟩,rfl⟩,?_⟩
  refine text_end (by kernel_rfl) ?_
  have z0:=Rz.cell 0 _ rfl
  have z1:=Rz.cell 1 _ rfl
  have z2:=Rz.cell 2 _ rfl
  have z3:=Rz.cell 3 _ rfl
  have z4:=Rz.cell 4 _ rfl
  have z5:=Rz.cell 5 _ rfl
  have z6:=Rz.cell 6 _ rfl
  have z7:=Rz.cell 7 _ rfl
  go_wp2
  exact bodyPost_ret (v:=.agg #[.int .i64 0,.int .i64 CA,.int .i64 CV,.slice s0 qd.length t0,.slice s1 qb.length t1,.slice s2 qt.length t2,.slice s3 qu.length t3,.slice s4 qn.length t4]) (by simp [results,Tryz.results65,go_sem,z0,z1,z2,z3,z4,z5,z6,z7]) rfl ⟨(⟨.slice s0 qd.length t0,qd,.slice s1 qb.length t1,qb,.slice s2 qt.length t2,qt,.slice s3 qu.length t3,qu,.slice s4 qn.length t4,qn⟩:RepQ),by rw [HAV.out.1,HAV.out.2.1,HAV.out.2.2.1],HEQ.out.trans HAV.out.2.2.2.symm,oz,nq,gw,b0⟩

set_option maxRecDepth 100000 in
set_option maxHeartbeats 16000000 in
theorem specOptDeliver_any (p:RepQ) (t:TxnQ) (w:World) (h:repK.own w p) (hT:txnK.own w t) (hl:p.n≤1048576) (hl' : TxnQ.n t≤1048576) :
  Calls Tryz.prog 19 #[.agg #[p.vd,p.vb,p.vt,p.vu,p.vn],.agg #[.int .i64 t.i,.int .i64 t.s,.int .i64 t.q,t.va]] w fun e w' => ∃ q:RepQ,e=.returned (.agg #[.int .i64 (opC p.e t.e),.int .i64 (opA p.e t.e),.int .i64 (opV p.e t.e),q.vd,q.vb,q.vt,q.vu,q.vn])∧q.e=opE p.e t.e∧repK.own w' q∧(repK.foot q).Nodup∧(∀ k∈repK.foot q,w.heap.size≤k)∧Below w.heap.size w w' := by
 have hf:=fun b w hB h=>l9Fault_any b p w hB h hl
 have ho:=fun b1 b2 w hB hB2 h hT h0=>l9Opt_any b1 b2 p t w hB hB2 h hT hl hl' h0
 have hr:=fun (w' : World) (hb:Below w.heap.size w w')=>repK.own_out (F:=[]) (w' := w') h (Out.of_below hb) (fun _ _=>by simp)
 have hrT:=fun (w' : World) (hb:Below w.heap.size w w')=>txnK.own_out (F:=[]) (w' := w') hT (Out.of_below hb) (fun _ _=>by simp)
 have hZ0:repF p.e≠0→opC p.e t.e=repF p.e∧opA p.e t.e=0∧opV p.e t.e=0∧opE p.e t.e=⟨[],[],[],[],[]⟩:=fun h1=>by
  have e:opC p.e t.e=repF p.e:=if_neg h1
  exact ⟨e,by rw [opA,if_neg (by rw [e];exact h1)],by rw [opV,if_neg (by rw [e];exact h1)],by rw [opE,if_neg (by rw [e];exact h1)]⟩
 have HZ0:Hid _:=hZ0
 clear hZ0
 generalize opA p.e t.e=AA at *
 generalize opV p.e t.e=VV at *
 generalize opE p.e t.e=RE at *
 generalize opC p.e t.e=C at *
 generalize hRF:repF p.e=RF at *
 obtain ⟨pvd,pd,pvb,pb,pvt,pt,pvu,pu,pvn,pn⟩:=p
 obtain ⟨p0,p5,rfl⟩:∃ a c,pvd=.slice a pd.length c:=h.1.shape
 obtain ⟨p1,p6,rfl⟩:∃ a c,pvb=.slice a pb.length c:=h.2.1.shape
 obtain ⟨p2,p7,rfl⟩:∃ a c,pvt=.slice a pt.length c:=h.2.2.1.shape
 obtain ⟨p3,p8,rfl⟩:∃ a c,pvu=.slice a pu.length c:=h.2.2.2.1.shape
 obtain ⟨p4,p9,rfl⟩:∃ a c,pvn=.slice a pn.length c:=h.2.2.2.2.shape
 obtain ⟨ti,ts,tq,va,acts⟩:=t
 obtain ⟨xa,xk,rfl⟩:∃ a c,va=.slice a acts.length c:=(show actK.Own w va acts from hT).shape
 dsimp only at hf ho hr hrT
 have b0:Below w.heap.size w (((w.alloc (.cells #[.slice p0 pd.length p5,.slice p1 pb.length p6,.slice p2 pt.length p7,.slice p3 pu.length p8,.slice p4 pn.length p9] 32)).alloc (.cells #[.int .i64 ti,.int .i64 ts,.int .i64 tq,.slice xa acts.length xk] 49)).alloc (.cells #[.int .i64 0,.int .i64 0,.int .i64 0,.slice none 0 0,.slice none 0 0,.slice none 0 0,.slice none 0 0,.slice none 0 0] 34)):=by go_grown
 have BA:=(Blk.new w 32 #[.slice p0 pd.length p5,.slice p1 pb.length p6,.slice p2 pt.length p7,.slice p3 pu.length p8,.slice p4 pn.length p9]).below (w' := (((w.alloc (.cells #[.slice p0 pd.length p5,.slice p1 pb.length p6,.slice p2 pt.length p7,.slice p3 pu.length p8,.slice p4 pn.length p9] 32)).alloc (.cells #[.int .i64 ti,.int .i64 ts,.int .i64 tq,.slice xa acts.length xk] 49)).alloc (.cells #[.int .i64 0,.int .i64 0,.int .i64 0,.slice none 0 0,.slice none 0 0,.slice none 0 0,.slice none 0 0,.slice none 0 0] 34))) (by go_grown)
 have BT:=(Blk.new (w.alloc (.cells #[.slice p0 pd.length p5,.slice p1 pb.length p6,.slice p2 pt.length p7,.slice p3 pu.length p8,.slice p4 pn.length p9] 32)) 49 #[.int .i64 ti,.int .i64 ts,.int .i64 tq,.slice xa acts.length xk]).below (w' := (((w.alloc (.cells #[.slice p0 pd.length p5,.slice p1 pb.length p6,.slice p2 pt.length p7,.slice p3 pu.length p8,.slice p4 pn.length p9] 32)).alloc (.cells #[.int .i64 ti,.int .i64 ts,.int .i64 tq,.slice xa acts.length xk] 49)).alloc (.cells #[.int .i64 0,.int .i64 0,.int .i64 0,.slice none 0 0,.slice none 0 0,.slice none 0 0,.slice none 0 0,.slice none 0 0] 34))) (by go_grown)
 have RB:=Blk.new ((w.alloc (.cells #[.slice p0 pd.length p5,.slice p1 pb.length p6,.slice p2 pt.length p7,.slice p3 pu.length p8,.slice p4 pn.length p9] 32)).alloc (.cells #[.int .i64 ti,.int .i64 ts,.int .i64 tq,.slice xa acts.length xk] 49)) 34 #[.int .i64 0,.int .i64 0,.int .i64 0,.slice none 0 0,.slice none 0 0,.slice none 0 0,.slice none 0 0,.slice none 0 0]
 simp only [World.size_alloc] at BT RB
 go_enter Tryz.func19,Tryz.ntmps19
 go_wp2_with fail
 generalize (((w.alloc (.cells #[.slice p0 pd.length p5,.slice p1 pb.length p6,.slice p2 pt.length p7,.slice p3 pu.length p8,.slice p4 pn.length p9] 32)).alloc (.cells #[.int .i64 ti,.int .i64 ts,.int .i64 tq,.slice xa acts.length xk] 49)).alloc (.cells #[.int .i64 0,.int .i64 0,.int .i64 0,.slice none 0 0,.slice none 0 0,.slice none 0 0,.slice none 0 0,.slice none 0 0] 34))=W at *
 refine (hf _ W BA (hr W b0)).mono ?_
 rintro e w1 ⟨rfl,hb⟩
 replace BA:=BA.below hb
 replace BT:=BT.below hb
 replace RB:=RB.below hb
 replace b0:=below_from b0 hb
 clear hb hf
 by_cases h1:RF=0
 ·subst h1
  go_wp2_with fail
  refine (ho _ _ w1 BA BT (hr w1 b0) (hrT w1 b0) (by first | exact trivial | rfl)).mono ?_
  rintro e w7 ⟨q,rfl,eq,oq,nq,gq,hb⟩
  have RB0:=RB.lt
  replace RB:=RB.below hb
  have hsz:=b0.size
  replace b0:=below_from b0 hb
  have gne:∀ k∈repK.foot q,k≠w.heap.size + 1 + 1:=fun k hk=>by have:=gq k hk;omega
  have gw:∀ k∈repK.foot q,w.heap.size≤k:=fun k hk=>by have:=gq k hk;omega
  clear hb gq ho
  obtain ⟨qvd,qd,qvb,qb,qvt,qt,qvu,qu,qvn,qn⟩:=q
  obtain ⟨s0,t0,rfl⟩:∃ a c,qvd=.slice a qd.length c:=oq.1.shape
  obtain ⟨s1,t1,rfl⟩:∃ a c,qvb=.slice a qb.length c:=oq.2.1.shape
  obtain ⟨s2,t2,rfl⟩:∃ a c,qvt=.slice a qt.length c:=oq.2.2.1.shape
  obtain ⟨s3,t3,rfl⟩:∃ a c,qvu=.slice a qu.length c:=oq.2.2.2.1.shape
  obtain ⟨s4,t4,rfl⟩:∃ a c,qvn=.slice a qn.length c:=oq.2.2.2.2.shape
  have HEQ:Hid _:=eq
  clear eq
  have Rz:=RB.row #[.int .i64 C,.int .i64 AA,.int .i64 VV,.slice s0 qd.length t0,.slice s1 qb.length t1,.slice s2 qt.length t2,.slice s3 qu.length t3,.slice s4 qn.length t4]
  have oz:=repK.own_out oq (out_row _ (w.heap.size + 1 + 1) #[.int .i64 C,.int .i64 AA,.int .i64 VV,.slice s0 qd.length t0,.slice s1 qb.length t1,.slice s2 qt.length t2,.slice s3 qu.length t3,.slice s4 qn.length t4]) (fun k hk=>by simp only [List.mem_singleton];exact gne k hk)
  have hBr:=below_row (g:=w.heap.size + 1 + 1) b0 (by omega) #[.int .i64 C,.int .i64 AA,.int .i64 VV,.slice s0 qd.length t0,.slice s1 qb.length t1,.slice s2 qt.length t2,.slice s3 qu.length t3,.slice s4 qn.length t4]
  go_wp2_with (first | (refine st_row (by kernel_rfl) 34 _ _ rfl _ #[.int .i64 C,.int .i64 AA,.int .i64 VV,.slice s0 qd.length t0,.slice s1 qb.length t1,.slice s2 qt.length t2,.slice s3 qu.length t3,.slice s4 qn.length t4] rfl rfl 34 _ RB sz_rr rfl (by simp [Value.oneCell']) ?_))
  have z0:=Rz.cell 0 _ rfl
  have z1:=Rz.cell 1 _ rfl
  have z2:=Rz.cell 2 _ rfl
  have z3:=Rz.cell 3 _ rfl
  have z4:=Rz.cell 4 _ rfl
  have z5:=Rz.cell 5 _ rfl
  have z6:=Rz.cell 6 _ rfl
  have z7:=Rz.cell 7 _ rfl
  first | done | skip
  exact bodyPost_ret (v:=.agg #[.int .i64 C,.int .i64 AA,.int .i64 VV,.slice s0 qd.length t0,.slice s1 qb.length t1,.slice s2 qt.length t2,.slice s3 qu.length t3,.slice s4 qn.length t4]) (by simp [results,Tryz.results19,go_sem,z0,z1,z2,z3,z4,z5,z6,z7]) rfl ⟨(⟨.slice s0 qd.length t0,qd,.slice s1 qb.length t1,qb,.slice s2 qt.length t2,qt,.slice s3 qu.length t3,qu,.slice s4 qn.length t4,qn⟩:RepQ),rfl,HEQ.out,oz,nq,gw,hBr⟩
 ·have HZ:Hid _:=HZ0.out h1
  have h1' : (RF != 0)=true:=by simpa using h1
  clear HZ0 ho
  have hlb:=fun w=>l9Bad_any RF w
  go_wp2_with fail
  refine (hlb _).mono ?_
  rintro e wb ⟨rfl,hb⟩
  replace b0:=below_from b0 hb
  replace RB:=RB.below hb
  clear hb hlb
  have Rr:=RB.row #[.int .i64 RF,.int .i64 0,.int .i64 0,.slice none 0 0,.slice none 0 0,.slice none 0 0,.slice none 0 0,.slice none 0 0]
  have hBr:=below_row (g:=w.heap.size + 1 + 1) b0 (by omega) #[.int .i64 RF,.int .i64 0,.int .i64 0,.slice none 0 0,.slice none 0 0,.slice none 0 0,.slice none 0 0,.slice none 0 0]
  go_wp2_with (first | (refine st_row (by kernel_rfl) 34 _ _ rfl _ #[.int .i64 RF,.int .i64 0,.int .i64 0,.slice none 0 0,.slice none 0 0,.slice none 0 0,.slice none 0 0,.slice none 0 0] rfl rfl 34 _ RB sz_rr rfl (by simp [Value.oneCell']) ?_))
  have z0:=Rr.cell 0 _ rfl
  have z1:=Rr.cell 1 _ rfl
  have z2:=Rr.cell 2 _ rfl
  have z3:=Rr.cell 3 _ rfl
  have z4:=Rr.cell 4 _ rfl
  have z5:=Rr.cell 5 _ rfl
  have z6:=Rr.cell 6 _ rfl
  have z7:=Rr.cell 7 _ rfl
  first | done | skip
  exact bodyPost_ret (v:=.agg #[.int .i64 RF,.int .i64 0,.int .i64 0,.slice none 0 0,.slice none 0 0,.slice none 0 0,.slice none 0 0,.slice none 0 0]) (by simp [results,Tryz.results19,go_sem,z0,z1,z2,z3,z4,z5,z6,z7]) rfl ⟨rep0,by rw [HZ.out.1,HZ.out.2.1,HZ.out.2.2.1];rfl,HZ.out.2.2.2.symm,(rep0_own _).1,by rw [(rep0_own w).2];simp,by rw [(rep0_own w).2];simp,hBr⟩

end Go.Proofs.YtfdkcbafpiojkaaGreatDoor
namespace Go.Proofs.YtfdkcbafpiojkaaGreatDoor
open Go.RowKit
set_option maxRecDepth 100000
theorem stF_refl8 (t:TxnD):stF t t=true:=by simp [stF]

theorem knw_mem {acc:List TxnD} {t:TxnD} (h:t∈acc):knw acc t=true:=by
 unfold knw
 rw [List.any_eq_true]
 exact ⟨t,h,stF_refl8 t⟩

end Go.Proofs.YtfdkcbafpiojkaaGreatDoor
namespace Go.Proofs.YtfdkcbafpiojkaaGreatDoor
set_option maxRecDepth 100000
theorem rep_none:repF (⟨[],[],[],[],[]⟩:RepE)=0:=mk_right (D:=[]) (E:=[]) (by simp) (by simp) rfl

theorem drop_right {r:RepE} (h:repF r=0):repF (mkR r.done [])=0∧(mkR r.done []).now=r.base:=by
 obtain ⟨⟨l1,l2⟩,l3,_⟩:=rep_zero h
 refine ⟨mk_right l1 (by simp) (by rw [List.append_nil];exact lst_sub l3 (List.sublist_append_left _ _)),?_⟩
 rw [(rep_parts h).1]
 rfl

/-- Taken back without a trace. -/
theorem back_one {xs:List ItemD} {t:TxnD} (hl:xs.length≤8) (g:Good xs) (ht:t.F=0):tbC (nextI xs t) (runU xs t.acts)=0∧bkA (nextI xs t) (runU xs t.acts)=xs:=by
 have ha:=(acts_of_F ht).2
 have h4:=(acts_of_F ht).1.2
 by_cases h0:(runA xs t.acts).1=0
 ·have e1:nextI xs t=(runA xs t.acts).2:=if_pos h0
  have e2:runU xs t.acts=unR xs t.acts:=if_pos h0
  have gg:=run_good hl g ha h0
  have up:=unR_parts hl g ha h0
  have bk:=bkA_unR hl g ha h0
  rw [e1,e2]
  refine ⟨?_,bk⟩
  have f1:itemsF (runA xs t.acts).2=0:=F_of_good gg.1 gg.2
  have f2:undoF (unR xs t.acts)=0:=undoF_of (by omega) up.2
  unfold tbC
  rw [f1,f2,bk]
  simp
  omega
 ·have e1:nextI xs t=xs:=if_neg h0
  have e2:runU xs t.acts=[]:=if_neg h0
  rw [e1,e2]
  have f1:itemsF xs=0:=F_of_good hl g
  refine ⟨?_,rfl⟩
  unfold tbC
  rw [f1,undoF_of (us:=[]) (by simp) (by simp)]
  show (if (0:Int)≠0 then _ else if (0:Int)≠0 then _ else if 8 < xs.length then (7:Int) else 0)=0
  simp
  omega

theorem back_all:∀ (E:List TxnD) (xs:List ItemD),xs.length≤8→Good xs→(∀ t∈E,t.F=0)→taR (allI xs E) (undL xs E)=(0,xs)
 | [],xs,_,_,_=>rfl
 | t :: r,xs,hl,g,hF=>by
  have ht:=hF t (by simp)
  have gn:=nextI_good hl g ht
  have ih:=back_all r (nextI xs t) gn.1 gn.2 (fun x hx=>hF x (List.mem_cons_of_mem _ hx))
  have e1:allI xs (t :: r)=allI (nextI xs t) r:=rfl
  have e2:undL xs (t :: r)=runU xs t.acts :: undL (nextI xs t) r:=rfl
  have bo:=back_one hl g ht
  rw [e1,e2]
  unfold taR
  rw [ih]
  simp only [if_true,tbI,bo.1,bo.2]

theorem undL_len (xs:List ItemD) (E:List TxnD):(undL xs E).length=E.length:=by
 unfold undL
 rw [List.length_map,deeds_len]

theorem opt_back {D E:List TxnD} (h:repF (mkR D E)=0):taC (mkR D E).now (mkR D E).undos=0∧taI (mkR D E).now (mkR D E).undos=allI [] D:=by
 obtain ⟨e1,e2,e3,hD,hE,b8,bg,n8,ng,_,t8⟩:=rep_parts h
 have ba:=back_all E (allI [] D) b8 bg hE
 have c0:taC (mkR D E).now (mkR D E).undos=0:=by
  unfold taC
  have l:(mkR D E).undos.length≤8:=by show (undL _ E).length≤8;rw [undL_len];exact t8
  rw [if_neg (by omega),F_of_good n8 ng]
  show (if (0:Int)≠0 then _ else (taR (allI (allI [] D) E) (undL (allI [] D) E)).1)=0
  rw [ba]
  simp
 refine ⟨c0,?_⟩
 unfold taI
 rw [if_pos c0]
 show (taR (allI (allI [] D) E) (undL (allI [] D) E)).2=_
 rw [ba]

theorem pw_snoc {l:List TxnD} {t:TxnD} (h:l.Pairwise (fun a b=>stF a b=false)) (hk:knw l t=false):(l ++ [t]).Pairwise (fun a b=>stF a b=false):=by
 rw [List.pairwise_append]
 refine ⟨h,by simp,fun a ha b hb=>?_⟩
 simp only [List.mem_singleton] at hb
 subst hb
 exact knw_false.1 hk a ha

theorem knw_app (a b:List TxnD) (t:TxnD):knw (a ++ b) t=(knw a t || knw b t):=by simp [knw,List.any_append]

theorem opt_right {r:RepE} {t:TxnD} (h:opC r t=0):repF (mkR r.done (r.tent ++ [t]))=0:=by
 obtain ⟨h0,hF,k1,k2,h8⟩:=opC_zero h
 obtain ⟨⟨l1,l2⟩,l3,_⟩:=rep_zero h0
 obtain ⟨_,hA,hP⟩:=(lst_iff _).1 l3
 refine mk_right l1 (by simp;omega) ?_
 rw [← List.append_assoc]
 refine (lst_iff _).2 ⟨by simp;omega,fun x hx=>?_,pw_snoc hP (by rw [knw_app,k1,k2];rfl)⟩
 rcases List.mem_append.1 hx with hx | hx
 ·exact hA x hx
 ·simp only [List.mem_singleton] at hx
  subst hx
  exact hF

theorem opt_twice {r:RepE} {t:TxnD} (h:opC r t=0):opC (mkR r.done (r.tent ++ [t])) t=6:=by
 have h1:=opt_right h
 obtain ⟨h0,hF,k1,k2,h8⟩:=opC_zero h
 unfold opC
 rw [if_pos h1,if_pos hF,if_pos]
 right
 show knw (r.tent ++ [t]) t=true
 exact knw_mem (by simp)

theorem opt_exec {r:RepE} {t:TxnD} (h:opC r t=0):exC r.now t.id t.session t.seq t.acts=opA r t∧exV r.now t.id t.session t.seq t.acts=opV r t:=by
 obtain ⟨h0,hF,k1,k2,h8⟩:=opC_zero h
 obtain ⟨e1,e2,e3,hD,hE,b8,bg,n8,ng,_,t8⟩:=rep_parts h0
 have f1:itemsF r.now=0:=F_of_good n8 ng
 have f2:txnF t.id t.session t.seq t.acts=0:=hF
 have c:exC r.now t.id t.session t.seq t.acts=(runA r.now t.acts).1:=by
  unfold exC
  rw [f1,f2]
  simp
 refine ⟨by rw [c,opA,if_pos h],?_⟩
 rw [opV,if_pos h]
 unfold exV runV
 rw [c]

end Go.Proofs.YtfdkcbafpiojkaaGreatDoor
namespace Go.Proofs.YtfdkcbafpiojkaaGreatDoor
open Go.RowKit
open Go.BigFrame
set_option maxRecDepth 100000
theorem txnB {w w' : World} {p:TxnQ} (h:txnK.own w p) (hb:Below w.heap.size w w'):txnK.own w' p:=txnK.own_out (F:=[]) h (Out.of_below hb) (fun _ _=>by simp)

theorem iDT (p:RepQ) (w:World) (hg:ErrT w) (h:repK.own w p) (hl:p.n≤1048576):Calls Tryz.prog 12 #[.agg #[p.vd,p.vb,p.vt,p.vu,p.vn]] w fun e w' => ∃ q:RepQ,e=.returned (.agg #[.int .i64 (repF p.e),.int .i64 (drA p.e),.int .i64 0,q.vd,q.vb,q.vt,q.vu,q.vn])∧q.e=drE p.e∧repK.own w' q∧(repK.foot q).Nodup∧(∀ k∈repK.foot q,w.heap.size≤k)∧Below w.heap.size w w' :=
 implDropTent_any p w hg (repK.own_rd h) h.1.niceV h.2.2.1.niceV hl

theorem iOP (p:RepQ) (t:TxnQ) (w:World) (hg:ErrT w) (h:repK.own w p) (hT:txnK.own w t) (hl:p.n≤1048576) (hl' : TxnQ.n t≤1048576):Calls Tryz.prog 21 #[.agg #[p.vd,p.vb,p.vt,p.vu,p.vn],.agg #[.int .i64 t.i,.int .i64 t.s,.int .i64 t.q,t.va]] w fun e w' => ∃ q:RepQ,e=.returned (.agg #[.int .i64 (opC p.e (TxnQ.e t)),.int .i64 (opA p.e (TxnQ.e t)),.int .i64 (opV p.e (TxnQ.e t)),q.vd,q.vb,q.vt,q.vu,q.vn])∧q.e=opE p.e (TxnQ.e t)∧repK.own w' q∧(repK.foot q).Nodup∧(∀ k∈repK.foot q,w.heap.size≤k)∧Below w.heap.size w w' :=
 implOptDeliver_any p t w hg (repK.own_rd h) h.1.niceV h.2.2.1.niceV (txnK.own_rd hT) hl hl'

theorem none_small {p:RepQ} (h:p.e=⟨[],[],[],[],[]⟩):p.n≤1000:=rep_small (by rw [h];exact rep_none)

end Go.Proofs.YtfdkcbafpiojkaaGreatDoor
