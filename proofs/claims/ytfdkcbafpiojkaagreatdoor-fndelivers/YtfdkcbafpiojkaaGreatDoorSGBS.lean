/- Texts joined, with what the laws reach alone. -/
import Derived.Test.YtfdkcbafpiojkaaGreatDoorSGBR
import Derived.Test.YtfdkcbafpiojkaaGreatDoorSGBH
set_option linter.unusedVariables false
set_option linter.unusedSimpArgs false
namespace Go.Proofs.YtfdkcbafpiojkaaGreatDoor
open Go.RowKit
open Go.BigFrame
set_option maxRecDepth 100000
set_option maxRecDepth 100000 in
set_option maxHeartbeats 16000000 in
theorem l9Deliver_any (b1:Nat) (p:RepQ) (vf:Value) (fs:List TxnQ) (w:World) (hB:Blk w b1 32 #[p.vd,p.vb,p.vt,p.vu,p.vn]) (h:repK.own w p) (hT:txnK.Own w vf fs) (hl:p.n≤1048576) (hl' : fs.length + nmL TxnQ.n fs≤1048576) (h0:repF p.e=0) (h1:lstF (fs.map TxnQ.e)=0) :
  Calls Tryz.prog 73 #[.pointer (some ⟨b1,0,none⟩),vf] w fun e w' => ∃ q:RepQ,e=.returned (.agg #[.int .i64 (dlC p.e (fs.map TxnQ.e)),.int .i64 (dlA p.e (fs.map TxnQ.e)),.int .i64 0,q.vd,q.vb,q.vt,q.vu,q.vn])∧q.e=dlE p.e (fs.map TxnQ.e)∧repK.own w' q∧(repK.foot q).Nodup∧(∀ k∈repK.foot q,w.heap.size≤k)∧Below w.heap.size w w' := by
 have hW0:=dlC_ways p.e (fs.map TxnQ.e)
 rw [h0,h1] at hW0
 have hZ0:∀ c,dlC p.e (fs.map TxnQ.e)=c→c≠0→dlC p.e (fs.map TxnQ.e)=c∧dlA p.e (fs.map TxnQ.e)=0∧dlE p.e (fs.map TxnQ.e)=⟨[],[],[],[],[]⟩:=fun c e h=>⟨e,by rw [dlA,if_neg (by rw [e];exact h)],by rw [dlE,if_neg (by rw [e];exact h)]⟩
 have HZ0:Hid _:=hZ0
 clear hZ0
 have HE:Hid (dlC p.e (fs.map TxnQ.e)=0→dlA p.e (fs.map TxnQ.e)=plB (p.tent.map TxnQ.e) (fs.map TxnQ.e)∧dlE p.e (fs.map TxnQ.e)=mkR ((p.done ++ fs).map TxnQ.e) (plK (p.tent.map TxnQ.e) (fs.map TxnQ.e))∧bthF (p.tent.map TxnQ.e) (fs.map TxnQ.e)=0∧(∀ t∈plK (p.tent.map TxnQ.e) (fs.map TxnQ.e),t.F=0)∧(plK (p.tent.map TxnQ.e) (fs.map TxnQ.e)).length≤8):=fun e=>by
  obtain ⟨z0,z1,z2,z3,z4,z5,z6,z7⟩:=dlC_zero e
  exact ⟨if_pos e,by rw [dlE,if_pos e,List.map_append];rfl,z4,z6,z7⟩
 have hz:=rep_zero h0
 have ha:=((lst_iff _).1 hz.2.1).2.1
 have hb' := ((lst_iff _).1 h1)
 have HFD:Hid (∀ q∈p.done,(TxnQ.e q).F=0):=fun q hq=>ha _ (List.mem_append_left _ (List.mem_map.2 ⟨q,hq,rfl⟩))
 have HFF:Hid (∀ q∈fs,(TxnQ.e q).F=0):=fun q hq=>hb'.2.1 _ (List.mem_map.2 ⟨q,hq,rfl⟩)
 have hl16:p.done.length≤16:=by have:=hz.1.1;simpa [RepQ.e] using this
 have hl40:fs.length≤40:=by have:=hb'.1;simpa using this
 have hkd:∀ w' va,txnK.At w' p.vd p.done→∀ b o (x:TxnD),Box4 w' b o (.int .i64 x.id) (.int .i64 x.session) (.int .i64 x.seq) va→Calls Tryz.prog 129 #[p.vd,.pointer (some ⟨b,o,none⟩)] w' fun e w'' => e=.returned (.bool (knw (p.done.map TxnQ.e) x))∧Below w'.heap.size w' w'' := fun w' va hA b o x hB=>l7Known_any p.vd p.done b o x va w' hA hB (by omega)
 have hfd:frK p.e.done (fs.map TxnQ.e)=frK (p.done.map TxnQ.e) (fs.map TxnQ.e):=rfl
 have hdl:p.e.done.length=p.done.length:=by simp [RepQ.e]
 rw [hfd,hdl,List.length_map] at hW0
 have hr:=fun (w' : World) (hb:Below w.heap.size w w')=>repK.own_out (F:=[]) (w' := w') h (Out.of_below hb) (fun _ _=>by simp)
 have hrF:=fun (w' : World) (hb:Below w.heap.size w w')=>hT.below hb
 have HNQ:Hid ((∀ q∈fs,NiceQ9 q)∧∀ q∈p.done,NiceQ9 q):=⟨fun q hq=>niceQ_of (hT.2 q hq),fun q hq=>niceQ_of (h.1.2 q hq)⟩
 have HCP:Hid (CapOk p.vt∧CapOk vf):=⟨h.2.2.1.capOk,hT.capOk⟩
 have hlt:p.tent.length + nmL TxnQ.n p.tent≤1048576:=by dsimp only [RepQ.n] at hl;omega
 have hld:p.done.length + nmL TxnQ.n p.done≤1048576:=by dsimp only [RepQ.n] at hl;omega
 have hpl:=fun w' hA hB hC=>l8Plan_any p.vt vf p.tent fs w' hA hB HCP.out.1 HCP.out.2 hlt hl' hC
 have HFK:Hid ((∀ j,j < fs.length→knw (p.done.map TxnQ.e) ((fs.map TxnQ.e).getD j txnNo')=false)→frK (p.done.map TxnQ.e) (fs.map TxnQ.e)=false):=fun hh=>frK_no (fun j hj=>hh j (by simpa using hj))
 have HFY:Hid (∀ k (hk:k < fs.length),knw (p.done.map TxnQ.e) (TxnQ.e fs[k])=true→frK (p.done.map TxnQ.e) (fs.map TxnQ.e)=true):=fun k hk hx=>frK_yes (t:=TxnQ.e fs[k]) (List.mem_map.2 ⟨fs[k],List.getElem_mem hk,rfl⟩) hx
 obtain ⟨fa,fk,rfl⟩:=hT.shape
 generalize dlA p.e (fs.map TxnQ.e)=AA at *
 generalize dlE p.e (fs.map TxnQ.e)=RE at *
 generalize dlC p.e (fs.map TxnQ.e)=C at *
 generalize frK (p.done.map TxnQ.e) (fs.map TxnQ.e)=FK at *
 clear hz ha hb' hfd hdl HCP
 obtain ⟨pvd,pd,pvb,pb,pvt,pt,pvu,pu,pvn,pn⟩:=p
 obtain ⟨p0,p5,rfl⟩:∃ a c,pvd=.slice a pd.length c:=h.1.shape
 obtain ⟨p1,p6,rfl⟩:∃ a c,pvb=.slice a pb.length c:=h.2.1.shape
 obtain ⟨p2,p7,rfl⟩:∃ a c,pvt=.slice a pt.length c:=h.2.2.1.shape
 obtain ⟨p3,p8,rfl⟩:∃ a c,pvu=.slice a pu.length c:=h.2.2.2.1.shape
 obtain ⟨p4,p9,rfl⟩:∃ a c,pvn=.slice a pn.length c:=h.2.2.2.2.shape
 dsimp only at hW0 HE HFD hl16 hkd hr HNQ hlt hld hpl HFK HFY
 have b0:Below w.heap.size w (w.alloc (.cells #[.int .i64 0,.int .i64 0,.int .i64 0,.slice none 0 0,.slice none 0 0,.slice none 0 0,.slice none 0 0,.slice none 0 0] 34)):=by go_grown
 have RB:=Blk.new w 34 #[.int .i64 0,.int .i64 0,.int .i64 0,.slice none 0 0,.slice none 0 0,.slice none 0 0,.slice none 0 0,.slice none 0 0]
 have hB1l:=hB.lt
 go_enter Tryz.func73,Tryz.ntmps73
 go_wp2_with fail
 generalize w.alloc (.cells #[.int .i64 0,.int .i64 0,.int .i64 0,.slice none 0 0,.slice none 0 0,.slice none 0 0,.slice none 0 0,.slice none 0 0] 34)=W at *
 go_loopw [5] (fun j wr=>∃ k:Nat,k≤fs.length∧j=.int .i64 k∧Below w.heap.size w wr∧Blk wr w.heap.size 34 #[.int .i64 0,.int .i64 0,.int .i64 0,.slice none 0 0,.slice none 0 0,.slice none 0 0,.slice none 0 0,.slice none 0 0]∧Hid (∀ j,j < k→knw (pd.map TxnQ.e) ((fs.map TxnQ.e).getD j txnNo')=false)) (fun j _=>fs.length - (intOf j).toNat)
 case atStart=>exact ⟨0,Nat.zero_le _,rfl,b0,RB,fun j hj=>absurd hj (Nat.not_lt_zero _)⟩
 case round=>
  clear b0 RB
  obtain ⟨k,hk,rfl,b0,RB,HA⟩:=hrel
  have BA:=hB.below b0
  by_cases hlt' : k < fs.length
  ·obtain ⟨b',off,hab,hbs,hc,hrd⟩:=(hrF wr b0).at.cell (by decide) k hlt'
   subst hab
   have hc' : ∀ j x,(txnK.cells fs[k])[j]? = some x→wr.cell? ⟨b',off + k * 4 + j,none⟩=some x:=hc
   have hB4:Box4 wr b' (off + k * 4) (.int .i64 fs[k].i) (.int .i64 fs[k].s) (.int .i64 fs[k].q) fs[k].va:=⟨by simpa using hc' 0 _ rfl,hc' 1 _ rfl,hc' 2 _ rfl,hc' 3 _ rfl⟩
   have HY:Hid (knw (pd.map TxnQ.e) (TxnQ.e fs[k])=true→FK=true):=fun hx=>HFY.out k hlt' hx
   have HN:Hid (knw (pd.map TxnQ.e) (TxnQ.e fs[k])=false→∀ j,j < k + 1→knw (pd.map TxnQ.e) ((fs.map TxnQ.e).getD j txnNo')=false):=fun hx j hj=>by
    by_cases hjm:j=k
    ·subst hjm
     rw [txn_get fs j hlt']
     exact hx
    ·exact HA.out j (by omega)
   clear HA hc hc' HFY
   generalize fs[k]=p at *
   have hW:Below wr.heap.size wr wr.drew:=(Below.refl _ _).drew
   have hnn:Nonempty (Lat wr):=⟨⟨wr,Below.refl _ _⟩⟩
   have f0:=BA.lat 0 _ rfl
   have hlti:(k:Int) < (fs.length:Int):=by omega
   have hq:=hkd wr.drew p.va ((hr wr b0).1.at.below hW) b' (off + k * 4) (TxnQ.e p) (hB4.below hW)
   generalize knw (pd.map TxnQ.e) (TxnQ.e p)=S at *
   go_wp2_with fail
   refine text_begin (S:=fun w' => ∃ u:Lat wr,w' = u.val) (by kernel_rfl) ?_
   refine seg_range [(0,7)] 1 (by kernel_rfl) (by kernel_rfl) (by kernel_rfl) (by kernel_rfl) (by kernel_rfl) ⟨⟨_,hW⟩,rfl⟩ ?_
   simp only [pickR,List.toList_toArray,List.flatMap_cons,List.flatMap_nil,List.drop_succ_cons,List.drop_zero,List.take_succ_cons,List.take_zero,List.cons_append,List.nil_append,List.append_nil]
   repeat go_big_quiet_step (fail)
   refine wpQuiet_nil ?_
   clear f0
   refine call_at 7 (some 20) 129 #[.slice p0 pd.length p5,.pointer (some ⟨b',off + k * 4,none⟩)] 0 (by kernel_rfl) (by kernel_rfl) (by kernel_rfl) (by kernel_rfl) (by kernel_rfl) ?_
   refine hq.mono ?_
   rintro e w2 ⟨rfl,hb⟩
   replace hW:=hW.trans (hb.mono hW.size)
   clear hb hq
   refine ⟨_,rfl,⟨⟨_,hW⟩,rfl⟩,?_⟩
   simp only [Act.put,List.getElem_toArray,List.getElem_cons_succ,List.getElem_cons_zero,List.setIfInBounds_toArray,List.set_cons_zero,List.set_cons_succ]
   refine text_end (by kernel_rfl) ?_
   replace RB:=RB.below hW
   replace b0:=below_from b0 hW
   clear hW hnn hB4 BA hrd
   cases S with
   | true=>
    have hFK:FK=true:=HY.out rfl
    subst hFK
    have HZ:Hid (C=6∧AA=0∧RE=⟨[],[],[],[],[]⟩):=by
     rcases hW0 with ⟨a,_⟩ | ⟨_,a,_⟩ | ⟨_,_,_,b⟩ | ⟨_,_,a,_⟩ | ⟨_,_,a,_⟩
     ·exact absurd rfl a
     ·exact absurd rfl a
     ·exact HZ0.out 6 b (by decide)
     ·cases a
     ·cases a
    clear HY HN hW0 HE HZ0
    have hlb:=fun w=>l9Bad_any 6 w
    go_wp2_with fail
    refine (hlb _).mono ?_
    rintro e wb ⟨rfl,hb⟩
    replace b0:=below_from b0 hb
    replace RB:=RB.below hb
    clear hb hlb
    have Rr:=RB.row #[.int .i64 6,.int .i64 0,.int .i64 0,.slice none 0 0,.slice none 0 0,.slice none 0 0,.slice none 0 0,.slice none 0 0]
    have hBr:=below_row (g:=w.heap.size) b0 (by omega) #[.int .i64 6,.int .i64 0,.int .i64 0,.slice none 0 0,.slice none 0 0,.slice none 0 0,.slice none 0 0,.slice none 0 0]
    go_wp2_with (first | (refine st_row (by kernel_rfl) 34 _ _ rfl _ #[.int .i64 6,.int .i64 0,.int .i64 0,.slice none 0 0,.slice none 0 0,.slice none 0 0,.slice none 0 0,.slice none 0 0] rfl rfl 34 _ RB sz_rr rfl (by simp [Value.oneCell']) ?_))
    have z0:=Rr.cell 0 _ rfl
    have z1:=Rr.cell 1 _ rfl
    have z2:=Rr.cell 2 _ rfl
    have z3:=Rr.cell 3 _ rfl
    have z4:=Rr.cell 4 _ rfl
    have z5:=Rr.cell 5 _ rfl
    have z6:=Rr.cell 6 _ rfl
    have z7:=Rr.cell 7 _ rfl
    first | done | skip
    exact bodyPost_ret (v:=.agg #[.int .i64 6,.int .i64 0,.int .i64 0,.slice none 0 0,.slice none 0 0,.slice none 0 0,.slice none 0 0,.slice none 0 0]) (by simp [results,Tryz.results73,go_sem,z0,z1,z2,z3,z4,z5,z6,z7]) rfl ⟨rep0,by rw [HZ.out.1,HZ.out.2.1];rfl,HZ.out.2.2.symm,(rep0_own _).1,by rw [(rep0_own w).2];simp,by rw [(rep0_own w).2];simp,hBr⟩
   | false=>
    have HR' : Hid _:=HN.out rfl
    clear HY HN
    go_wp2
    go_roundw
    case rel=>exact ⟨k + 1,by omega,by go_num,b0,RB,HR'⟩
    case measure=>simp [intOf];omega
  ·have hkl:k=fs.length:=by omega
   subst hkl
   have hFK:FK=false:=HFK.out HA.out
   subst hFK
   have hlti:¬ ((fs.length:Int) < (fs.length:Int)):=by omega
   clear HA HFK HFY
   have d0:=BA.cell 0 _ rfl
   by_cases h16:16 < pd.length + fs.length
   ·have HZ:Hid (C=7∧AA=0∧RE=⟨[],[],[],[],[]⟩):=by
     rcases hW0 with ⟨a,_⟩ | ⟨_,a,_⟩ | ⟨_,_,a,_⟩ | ⟨_,_,_,_,b⟩ | ⟨_,_,_,a,_⟩
     ·exact absurd rfl a
     ·exact absurd rfl a
     ·cases a
     ·exact HZ0.out 7 b (by decide)
     ·exact absurd h16 a
    have e16:(16:Int) < (pd.length:Int) + (fs.length:Int):=by omega
    clear hW0 HE HZ0
    have hlb:=fun w=>l9Bad_any 7 w
    go_wp2_with fail
    refine (hlb _).mono ?_
    rintro e wb ⟨rfl,hb⟩
    replace b0:=below_from b0 hb
    replace RB:=RB.below hb
    clear hb hlb
    have Rr:=RB.row #[.int .i64 7,.int .i64 0,.int .i64 0,.slice none 0 0,.slice none 0 0,.slice none 0 0,.slice none 0 0,.slice none 0 0]
    have hBr:=below_row (g:=w.heap.size) b0 (by omega) #[.int .i64 7,.int .i64 0,.int .i64 0,.slice none 0 0,.slice none 0 0,.slice none 0 0,.slice none 0 0,.slice none 0 0]
    go_wp2_with (first | (refine st_row (by kernel_rfl) 34 _ _ rfl _ #[.int .i64 7,.int .i64 0,.int .i64 0,.slice none 0 0,.slice none 0 0,.slice none 0 0,.slice none 0 0,.slice none 0 0] rfl rfl 34 _ RB sz_rr rfl (by simp [Value.oneCell']) ?_))
    have z0:=Rr.cell 0 _ rfl
    have z1:=Rr.cell 1 _ rfl
    have z2:=Rr.cell 2 _ rfl
    have z3:=Rr.cell 3 _ rfl
    have z4:=Rr.cell 4 _ rfl
    have z5:=Rr.cell 5 _ rfl
    have z6:=Rr.cell 6 _ rfl
    have z7:=Rr.cell 7 _ rfl
    first | done | skip
    exact bodyPost_ret (v:=.agg #[.int .i64 7,.int .i64 0,.int .i64 0,.slice none 0 0,.slice none 0 0,.slice none 0 0,.slice none 0 0,.slice none 0 0]) (by simp [results,Tryz.results73,go_sem,z0,z1,z2,z3,z4,z5,z6,z7]) rfl ⟨rep0,by rw [HZ.out.1,HZ.out.2.1];rfl,HZ.out.2.2.symm,(rep0_own _).1,by rw [(rep0_own w).2];simp,by rw [(rep0_own w).2];simp,hBr⟩
   ·have HC0:C=0:=by
     rcases hW0 with ⟨a,_⟩ | ⟨_,a,_⟩ | ⟨_,_,a,_⟩ | ⟨_,_,_,a,_⟩ | ⟨_,_,_,_,b⟩
     ·exact absurd rfl a
     ·exact absurd rfl a
     ·cases a
     ·exact absurd a h16
     ·exact b
    have e16:¬ (16:Int) < (pd.length:Int) + (fs.length:Int):=by omega
    obtain ⟨eA,eE,hBT,hFK,hK8⟩:=HE.out HC0
    clear hW0 HE HZ0
    have d2:=BA.cell 2 _ rfl
    go_wp2_with fail
    clear d0 d2 e16 hlti
    refine (hpl wr (hr wr b0).2.2.1.at (hrF wr b0).at hBT).mono ?_
    rintro e w4 ⟨v1,v2,q1,kq,rfl,e1,e2,o1,OK0,n12,g12,hb⟩
    obtain ⟨g1a,g1c,hg1⟩:=o1.shape
    generalize hg1n:q1.length=g1n at hg1
    subst hg1
    obtain ⟨ka,kc,rfl⟩:=OK0.shape
    replace BA:=BA.below hb
    replace RB:=RB.below hb
    replace b0:=below_from b0 hb
    clear hb hpl n12 g12 o1 e1 hg1n
    have HFE:Hid (∀ q∈kq,(TxnQ.e q).F=0):=fun q hq=>hFK _ (by rw [← e2];exact List.mem_map.2 ⟨q,hq,rfl⟩)
    have hk8:kq.length≤8:=by rw [← e2,List.length_map] at hK8;exact hK8
    have HRES:Hid (C=0∧AA=_∧RE=mkR ((pd ++ fs).map TxnQ.e) (kq.map TxnQ.e)):=⟨HC0,eA,by rw [e2];exact eE⟩
    clear hFK hK8 eA eE e2 hBT HC0
    generalize plN (pt.map TxnQ.e) (fs.map TxnQ.e)=PN at *
    generalize plB (pt.map TxnQ.e) (fs.map TxnQ.e)=PB at *
    have hbx:Below w4.heap.size w4 (w4.alloc (.cells #[.int .i64 0,.int .i64 PN,.int .i64 PB,.slice g1a g1n g1c,.slice ka kq.length kc] 78)):=by go_grown
    have BP:=Blk.new w4 78 #[.int .i64 0,.int .i64 PN,.int .i64 PB,.slice g1a g1n g1c,.slice ka kq.length kc]
    have hw4g:w4.heap.size≠w.heap.size:=by have:=RB.lt;omega
    replace BA:=BA.below hbx
    replace RB:=RB.below hbx
    replace b0:=below_from b0 hbx
    replace OK0:=OK0.below hbx
    clear hbx
    go_wp2_with fail
    generalize w4.alloc (.cells #[.int .i64 0,.int .i64 PN,.int .i64 PB,.slice g1a g1n g1c,.slice ka kq.length kc] 78)=Y at *
    generalize w4.heap.size=gp at *
    have hW:Below Y.heap.size Y Y.drew:=(Below.refl _ _).drew
    have c2:=keep_cell (F:=[w.heap.size]) (BP.cell 2 _ rfl) (by simp;omega)
    have c4:=keep_cell (F:=[w.heap.size]) (BP.cell 4 _ rfl) (by simp;omega)
    have e0:=keep_cell (F:=[w.heap.size]) (BA.cell 0 _ rfl) (by simp;omega)
    have hne:Nonempty (KeepP (Out [w.heap.size] Y)):=⟨⟨Y,Out.refl _ _⟩⟩
    have hO:Out [w.heap.size] Y Y.drew:=Out.of_below hW
    obtain ⟨i0,hi,hz0,hz1,hz2⟩:=info_parts infoTxn
    refine text_begin (S:=fun w' => ∃ u:KeepP (Out [w.heap.size] Y),w' = u.val) (by kernel_rfl) ?_
    refine seg_range [(0,6),(7,1),(10,2)] 6 (by kernel_rfl) (by kernel_rfl) (by kernel_rfl) (by kernel_rfl) (by kernel_rfl) ⟨⟨_,hO⟩,rfl⟩ ?_
    simp only [pickR,List.toList_toArray,List.flatMap_cons,List.flatMap_nil,List.drop_succ_cons,List.drop_zero,List.take_succ_cons,List.take_zero,List.cons_append,List.nil_append,List.append_nil]
    repeat go_big_quiet_step (fail)
    refine wpQuiet_nil ?_
    clear c2 c4 e0
    have hwb:=b0.trans (hW.mono b0.size)
    refine call_at 6 (some 44) 92 #[.slice p0 pd.length p5] 5 (by kernel_rfl) (by kernel_rfl) (by kernel_rfl) (by kernel_rfl) (by kernel_rfl) ?_
    refine (l2CopyAll9_any (.slice p0 pd.length p5) pd _ (hr _ hwb).1.at HNQ.out.2 hld).mono ?_
    rintro e x1 ⟨v1,q1,rfl,e1,o1,n1,g1,hb⟩
    have ND:Hid (∀ k,∀ q∈q1,k∈txnK.foot q→k ∉ blk v1):=fun k q hq hk hb=>(List.nodup_append.1 n1).2.2 k hb k (List.mem_flatMap.2 ⟨q,hq,hk⟩) rfl
    have hYd:Y.heap.size≤Y.drew.heap.size:=hW.size
    replace hW:=hW.trans (hb.mono hW.size)
    clear hb n1 hwb
    replace hO:Out [w.heap.size] Y x1:=Out.of_below hW
    obtain ⟨a1,k1,rfl⟩:=o1.shape
    refine ⟨_,rfl,⟨⟨_,hO⟩,rfl⟩,?_⟩
    simp only [Act.put,List.getElem_toArray,List.getElem_cons_succ,List.getElem_cons_zero,List.setIfInBounds_toArray,List.set_cons_zero,List.set_cons_succ]
    have hwb:=b0.trans (hW.mono b0.size)
    have i1:=o1.lt
    refine call_at 8 (some 46) 92 #[.slice fa fs.length fk] 4 (by kernel_rfl) (by kernel_rfl) (by kernel_rfl) (by kernel_rfl) (by kernel_rfl) ?_
    refine (l2CopyAll9_any (.slice fa fs.length fk) fs _ (hrF _ hwb).at HNQ.out.1 hl').mono ?_
    rintro e x2 ⟨v2,q2,rfl,e2,o2,_,g2,hb⟩
    obtain ⟨a2,k2,rfl⟩:=o2.shape
    replace o1:=o1.below hb
    have hx12:=hb.size
    have hx1Y:=hW.size
    replace hW:=hW.trans (hb.mono hW.size)
    clear hb hwb
    replace hO:Out [w.heap.size] Y x2:=Out.of_below hW
    refine ⟨_,rfl,⟨⟨_,hO⟩,rfl⟩,?_⟩
    simp only [Act.put,List.getElem_toArray,List.getElem_cons_succ,List.getElem_cons_zero,List.setIfInBounds_toArray,List.set_cons_zero,List.set_cons_succ]
    have l1:q1.length=pd.length:=by simpa using congrArg List.length e1
    have l2:q2.length=fs.length:=by simpa using congrArg List.length e2
    obtain ⟨_,_,ee,lies2,rd2⟩:=o2.at
    simp only [Value.slice.injEq,true_and] at ee
    obtain ⟨rfl,rfl⟩:=ee
    have w1:q1.length + q2.length≤maxLen:=by unfold maxLen;omega
    have w2:(q1.length + q2.length) * 48≤140737488355328:=by omega
    have HL40:Hid ((q1 ++ q2).length≤40):=show _≤_ by rw [List.length_append];omega
    clear l1 l2
    refine one_at 9 _ 3 (by kernel_rfl) rfl (by kernel_rfl) ?_
    refine wpList_app_k (K:=txnK) _ rfl _ _ 28 rfl i0 (.agg #[.int .i64 0,.int .i64 0,.int .i64 0,.slice none 0 0]) 48 Tryz.underlying28 hi hz0 hz1 hz2 rfl (by decide) 0 _ q1 rfl o1.1 _ q2 _ rfl lies2 (txns_one rd2) (o2.niceV _ _ _ rfl) w1 w2 (by omega) ?_
    intro v3 x3 ho3 hg3
    have hU3:Out (blk (.slice a1 q1.length k1)) x2 x3:=Out.of_grown hg3
    have bl1:∀ x∈blk (.slice a1 q1.length k1),Y.heap.size≤x∧x < x1.heap.size:=fun x hx=>⟨by have:=g1 x (by simp only [Kind.fp,List.mem_append];exact Or.inl hx);omega,i1 x (by simp only [Kind.fp,List.mem_append];exact Or.inl hx)⟩
    have hA3:txnK.At x3 v3 (q1 ++ q2):=Kind.at_of_row ho3 (fun q hq=>by
     rcases List.mem_append.1 hq with hq | hq
     ·exact txnK.own_rd (txnK.own_out (o1.2 q hq) hU3 (fun k hk e=>ND.out k q hq hk e))
     ·exact txnK.own_rd (txnK.own_out (o2.2 q hq) hU3 (fun k hk e=>by
       have:=g2 k (by simp only [Kind.fp,List.mem_append,List.mem_flatMap];exact Or.inr ⟨q,hq,hk⟩)
       have:=(bl1 k e).2
       omega)))
    replace hW:Below Y.heap.size Y x3:=Out.keep hW hU3 hW.size (fun x hx=>(bl1 x hx).1)
    replace hO:Out [w.heap.size] Y x3:=Out.of_below hW
    obtain ⟨a3,k3,rfl⟩:=hA3.shape
    go_wp2
    refine ThenGo.to ⟨⟨⟨_,hO⟩,rfl⟩,?_⟩
    simp only [Act.put,List.getElem_toArray,List.getElem_cons_succ,List.getElem_cons_zero,List.setIfInBounds_toArray,List.set_cons_zero,List.set_cons_succ]
    have hFq:∀ q∈q1 ++ q2,(TxnQ.e q).F=0:=fun q hq=>by
     rcases List.mem_append.1 hq with hq | hq
     ·have:TxnQ.e q∈pd.map TxnQ.e:=by rw [← e1];exact List.mem_map.2 ⟨q,hq,rfl⟩
      obtain ⟨q',hq',e'⟩:=List.mem_map.1 this
      rw [← e'];exact HFD.out q' hq'
     ·have:TxnQ.e q∈fs.map TxnQ.e:=by rw [← e2];exact List.mem_map.2 ⟨q,hq,rfl⟩
      obtain ⟨q',hq',e'⟩:=List.mem_map.1 this
      rw [← e'];exact HFF.out q' hq'
    have HMAP:Hid ((q1 ++ q2).map TxnQ.e=(pd ++ fs).map TxnQ.e):=show _=_ by rw [List.map_append,List.map_append,e1,e2]
    have hmk:=l9Make_any (.slice a3 (q1 ++ q2).length k3) (.slice ka kq.length kc) (q1 ++ q2) kq x3 hA3 (OK0.at.below hW) hFq HFE.out HL40.out (by omega)
    rw [HMAP.out] at hmk
    clear hg3 hU3 bl1 ho3 lies2 rd2 o1 o2 g1 g2 i1 ND hA3
    refine call_at 12 (some 50) 54 #[.slice a3 (q1 ++ q2).length k3,.slice ka kq.length kc] 2 (by kernel_rfl) (by kernel_rfl) (by kernel_rfl) (by kernel_rfl) (by kernel_rfl) ?_
    refine hmk.mono ?_
    rintro e w7 ⟨q,rfl,eq,oq,nq,gq,hb⟩
    have hY5:=hW.size
    replace hW:=hW.trans (hb.mono hW.size)
    have RB0:=RB.lt
    replace RB:=RB.below hW
    have hsz:=b0.size
    replace hO:Out [w.heap.size] Y w7:=Out.of_below hW
    replace b0:=b0.trans (hW.mono b0.size)
    have gne:∀ k∈repK.foot q,k≠w.heap.size:=fun k hk=>by have:=gq k hk;omega
    have gw:∀ k∈repK.foot q,w.heap.size≤k:=fun k hk=>by have:=gq k hk;omega
    clear hb gq hmk hFq
    refine ⟨_,rfl,⟨⟨_,hO⟩,rfl⟩,?_⟩
    simp only [Act.put,List.getElem_toArray,List.getElem_cons_succ,List.getElem_cons_zero,List.setIfInBounds_toArray,List.set_cons_zero,List.set_cons_succ]
    obtain ⟨qvd,qd,qvb,qb,qvt,qt,qvu,qu,qvn,qn⟩:=q
    obtain ⟨s0,t0,rfl⟩:∃ a c,qvd=.slice a qd.length c:=oq.1.shape
    obtain ⟨s1,t1,rfl⟩:∃ a c,qvb=.slice a qb.length c:=oq.2.1.shape
    obtain ⟨s2,t2,rfl⟩:∃ a c,qvt=.slice a qt.length c:=oq.2.2.1.shape
    obtain ⟨s3,t3,rfl⟩:∃ a c,qvu=.slice a qu.length c:=oq.2.2.2.1.shape
    obtain ⟨s4,t4,rfl⟩:∃ a c,qvn=.slice a qn.length c:=oq.2.2.2.2.shape
    have HEQ:Hid _:=eq
    clear eq
    refine seg_range [(13,1)] 1 (by kernel_rfl) (by kernel_rfl) (by kernel_rfl) (by kernel_rfl) (by kernel_rfl) ⟨⟨_,hO⟩,rfl⟩ ?_
    simp only [pickR,List.toList_toArray,List.flatMap_cons,List.flatMap_nil,List.drop_succ_cons,List.drop_zero,List.take_succ_cons,List.take_zero,List.cons_append,List.nil_append,List.append_nil]
    repeat go_big_quiet_step (fail)
    refine wpQuiet_nil ?_
    refine one_at 14 _ 0 (by kernel_rfl) rfl (by kernel_rfl) ?_
    have Rz:=RB.row #[.int .i64 0,.int .i64 PB,.int .i64 0,.slice s0 qd.length t0,.slice s1 qb.length t1,.slice s2 qt.length t2,.slice s3 qu.length t3,.slice s4 qn.length t4]
    have oz:=repK.own_out oq (out_row _ (w.heap.size) #[.int .i64 0,.int .i64 PB,.int .i64 0,.slice s0 qd.length t0,.slice s1 qb.length t1,.slice s2 qt.length t2,.slice s3 qu.length t3,.slice s4 qn.length t4]) (fun k hk=>by simp only [List.mem_singleton];exact gne k hk)
    replace hO:Out [w.heap.size] Y _:=hO.trans (out_row w7 (w.heap.size) #[.int .i64 0,.int .i64 PB,.int .i64 0,.slice s0 qd.length t0,.slice s1 qb.length t1,.slice s2 qt.length t2,.slice s3 qu.length t3,.slice s4 qn.length t4])
    replace b0:=below_row (g:=w.heap.size) b0 (by omega) #[.int .i64 0,.int .i64 PB,.int .i64 0,.slice s0 qd.length t0,.slice s1 qb.length t1,.slice s2 qt.length t2,.slice s3 qu.length t3,.slice s4 qn.length t4]
    refine st_row (by kernel_rfl) 34 _ _ rfl _ #[.int .i64 0,.int .i64 PB,.int .i64 0,.slice s0 qd.length t0,.slice s1 qb.length t1,.slice s2 qt.length t2,.slice s3 qu.length t3,.slice s4 qn.length t4] rfl rfl 34 _ RB sz_rr rfl (by simp [Value.oneCell']) ?_
    refine ThenGo.to ⟨⟨⟨_,hO⟩,rfl⟩,?_⟩
    refine text_end (by kernel_rfl) ?_
    have z0:=Rz.cell 0 _ rfl
    have z1:=Rz.cell 1 _ rfl
    have z2:=Rz.cell 2 _ rfl
    have z3:=Rz.cell 3 _ rfl
    have z4:=Rz.cell 4 _ rfl
    have z5:=Rz.cell 5 _ rfl
    have z6:=Rz.cell 6 _ rfl
    have z7:=Rz.cell 7 _ rfl
    go_wp2
    exact bodyPost_ret (v:=.agg #[.int .i64 0,.int .i64 PB,.int .i64 0,.slice s0 qd.length t0,.slice s1 qb.length t1,.slice s2 qt.length t2,.slice s3 qu.length t3,.slice s4 qn.length t4]) (by simp [results,Tryz.results73,go_sem,z0,z1,z2,z3,z4,z5,z6,z7]) rfl ⟨(⟨.slice s0 qd.length t0,qd,.slice s1 qb.length t1,qb,.slice s2 qt.length t2,qt,.slice s3 qu.length t3,qu,.slice s4 qn.length t4,qn⟩:RepQ),by rw [HRES.out.1,HRES.out.2.1],HEQ.out.trans HRES.out.2.2.symm,oz,nq,gw,b0⟩

set_option maxRecDepth 100000 in
set_option maxHeartbeats 16000000 in
theorem specDeliver_any (p:RepQ) (vf:Value) (fs:List TxnQ) (w:World) (h:repK.own w p) (hT:txnK.Own w vf fs) (hl:p.n≤1048576) (hl' : fs.length + nmL TxnQ.n fs≤1048576) :
  Calls Tryz.prog 25 #[.agg #[p.vd,p.vb,p.vt,p.vu,p.vn],vf] w fun e w' => ∃ q:RepQ,e=.returned (.agg #[.int .i64 (dlC p.e (fs.map TxnQ.e)),.int .i64 (dlA p.e (fs.map TxnQ.e)),.int .i64 0,q.vd,q.vb,q.vt,q.vu,q.vn])∧q.e=dlE p.e (fs.map TxnQ.e)∧repK.own w' q∧(repK.foot q).Nodup∧(∀ k∈repK.foot q,w.heap.size≤k)∧Below w.heap.size w w' := by
 have hf:=fun b w hB h=>l9Fault_any b p w hB h hl
 have hlf:=fun w h=>l8Fault_any vf fs w h hT.capOk hl'
 have ho:=fun b1 w hB h hT h0 h1=>l9Deliver_any b1 p vf fs w hB h hT hl hl' h0 h1
 have hr:=fun (w' : World) (hb:Below w.heap.size w w')=>repK.own_out (F:=[]) (w' := w') h (Out.of_below hb) (fun _ _=>by simp)
 have hrF:=fun (w' : World) (hb:Below w.heap.size w w')=>hT.below hb
 have hZ0:∀ c,dlC p.e (fs.map TxnQ.e)=c→c≠0→dlC p.e (fs.map TxnQ.e)=c∧dlA p.e (fs.map TxnQ.e)=0∧dlE p.e (fs.map TxnQ.e)=⟨[],[],[],[],[]⟩:=fun c e h=>⟨e,by rw [dlA,if_neg (by rw [e];exact h)],by rw [dlE,if_neg (by rw [e];exact h)]⟩
 have HZ0:Hid _:=hZ0
 have HW1:Hid (repF p.e≠0→dlC p.e (fs.map TxnQ.e)=repF p.e):=fun h1=>if_neg h1
 have HW2:Hid (repF p.e=0→lstF (fs.map TxnQ.e)≠0→dlC p.e (fs.map TxnQ.e)=lstF (fs.map TxnQ.e)):=fun h1 h2=>by rw [dlC,if_pos h1,if_neg h2]
 clear hZ0
 obtain ⟨fa,fk,rfl⟩:=hT.shape
 generalize dlA p.e (fs.map TxnQ.e)=AA at *
 generalize dlE p.e (fs.map TxnQ.e)=RE at *
 generalize dlC p.e (fs.map TxnQ.e)=C at *
 generalize repF p.e=RF at *
 generalize lstF (fs.map TxnQ.e)=LF at *
 obtain ⟨pvd,pd,pvb,pb,pvt,pt,pvu,pu,pvn,pn⟩:=p
 obtain ⟨p0,p5,rfl⟩:∃ a c,pvd=.slice a pd.length c:=h.1.shape
 obtain ⟨p1,p6,rfl⟩:∃ a c,pvb=.slice a pb.length c:=h.2.1.shape
 obtain ⟨p2,p7,rfl⟩:∃ a c,pvt=.slice a pt.length c:=h.2.2.1.shape
 obtain ⟨p3,p8,rfl⟩:∃ a c,pvu=.slice a pu.length c:=h.2.2.2.1.shape
 obtain ⟨p4,p9,rfl⟩:∃ a c,pvn=.slice a pn.length c:=h.2.2.2.2.shape
 dsimp only at hf ho hr
 have b0:Below w.heap.size w ((w.alloc (.cells #[.slice p0 pd.length p5,.slice p1 pb.length p6,.slice p2 pt.length p7,.slice p3 pu.length p8,.slice p4 pn.length p9] 32)).alloc (.cells #[.int .i64 0,.int .i64 0,.int .i64 0,.slice none 0 0,.slice none 0 0,.slice none 0 0,.slice none 0 0,.slice none 0 0] 34)):=by go_grown
 have BA:=(Blk.new w 32 #[.slice p0 pd.length p5,.slice p1 pb.length p6,.slice p2 pt.length p7,.slice p3 pu.length p8,.slice p4 pn.length p9]).below (w' := ((w.alloc (.cells #[.slice p0 pd.length p5,.slice p1 pb.length p6,.slice p2 pt.length p7,.slice p3 pu.length p8,.slice p4 pn.length p9] 32)).alloc (.cells #[.int .i64 0,.int .i64 0,.int .i64 0,.slice none 0 0,.slice none 0 0,.slice none 0 0,.slice none 0 0,.slice none 0 0] 34))) (by go_grown)
 have RB:=Blk.new (w.alloc (.cells #[.slice p0 pd.length p5,.slice p1 pb.length p6,.slice p2 pt.length p7,.slice p3 pu.length p8,.slice p4 pn.length p9] 32)) 34 #[.int .i64 0,.int .i64 0,.int .i64 0,.slice none 0 0,.slice none 0 0,.slice none 0 0,.slice none 0 0,.slice none 0 0]
 simp only [World.size_alloc] at RB
 go_enter Tryz.func25,Tryz.ntmps25
 go_wp2_with fail
 generalize ((w.alloc (.cells #[.slice p0 pd.length p5,.slice p1 pb.length p6,.slice p2 pt.length p7,.slice p3 pu.length p8,.slice p4 pn.length p9] 32)).alloc (.cells #[.int .i64 0,.int .i64 0,.int .i64 0,.slice none 0 0,.slice none 0 0,.slice none 0 0,.slice none 0 0,.slice none 0 0] 34))=W at *
 refine (hf _ W BA (hr W b0)).mono ?_
 rintro e w1 ⟨rfl,hb⟩
 replace BA:=BA.below hb
 replace RB:=RB.below hb
 replace b0:=below_from b0 hb
 clear hb hf
 by_cases h1:RF=0
 ·have HW2' : Hid (LF≠0→C=LF):=HW2.out h1
  subst h1
  clear HW1 HW2
  go_wp2_with fail
  refine (hlf w1 (hrF w1 b0).at).mono ?_
  rintro e w2 ⟨rfl,hb⟩
  replace BA:=BA.below hb
  replace RB:=RB.below hb
  replace b0:=below_from b0 hb
  clear hb hlf
  by_cases h2:LF=0
  ·subst h2
   clear HW2'
   go_wp2_with fail
   refine (ho _ w2 BA (hr w2 b0) (hrF w2 b0) (by first | exact trivial | rfl) (by first | exact trivial | rfl)).mono ?_
   rintro e w7 ⟨q,rfl,eq,oq,nq,gq,hb⟩
   have RB0:=RB.lt
   replace RB:=RB.below hb
   have hsz:=b0.size
   replace b0:=below_from b0 hb
   have gne:∀ k∈repK.foot q,k≠w.heap.size + 1:=fun k hk=>by have:=gq k hk;omega
   have gw:∀ k∈repK.foot q,w.heap.size≤k:=fun k hk=>by have:=gq k hk;omega
   clear hb gq ho
   obtain ⟨qvd,qd,qvb,qb,qvt,qt,qvu,qu,qvn,qn⟩:=q
   obtain ⟨s0,t0,rfl⟩:∃ a c,qvd=.slice a qd.length c:=oq.1.shape
   obtain ⟨s1,t1,rfl⟩:∃ a c,qvb=.slice a qb.length c:=oq.2.1.shape
   obtain ⟨s2,t2,rfl⟩:∃ a c,qvt=.slice a qt.length c:=oq.2.2.1.shape
   obtain ⟨s3,t3,rfl⟩:∃ a c,qvu=.slice a qu.length c:=oq.2.2.2.1.shape
   obtain ⟨s4,t4,rfl⟩:∃ a c,qvn=.slice a qn.length c:=oq.2.2.2.2.shape
   have HEQ:Hid _:=eq
   clear eq
   have Rz:=RB.row #[.int .i64 C,.int .i64 AA,.int .i64 0,.slice s0 qd.length t0,.slice s1 qb.length t1,.slice s2 qt.length t2,.slice s3 qu.length t3,.slice s4 qn.length t4]
   have oz:=repK.own_out oq (out_row _ (w.heap.size + 1) #[.int .i64 C,.int .i64 AA,.int .i64 0,.slice s0 qd.length t0,.slice s1 qb.length t1,.slice s2 qt.length t2,.slice s3 qu.length t3,.slice s4 qn.length t4]) (fun k hk=>by simp only [List.mem_singleton];exact gne k hk)
   have hBr:=below_row (g:=w.heap.size + 1) b0 (by omega) #[.int .i64 C,.int .i64 AA,.int .i64 0,.slice s0 qd.length t0,.slice s1 qb.length t1,.slice s2 qt.length t2,.slice s3 qu.length t3,.slice s4 qn.length t4]
   go_wp2_with (first | (refine st_row (by kernel_rfl) 34 _ _ rfl _ #[.int .i64 C,.int .i64 AA,.int .i64 0,.slice s0 qd.length t0,.slice s1 qb.length t1,.slice s2 qt.length t2,.slice s3 qu.length t3,.slice s4 qn.length t4] rfl rfl 34 _ RB sz_rr rfl (by simp [Value.oneCell']) ?_))
   have z0:=Rz.cell 0 _ rfl
   have z1:=Rz.cell 1 _ rfl
   have z2:=Rz.cell 2 _ rfl
   have z3:=Rz.cell 3 _ rfl
   have z4:=Rz.cell 4 _ rfl
   have z5:=Rz.cell 5 _ rfl
   have z6:=Rz.cell 6 _ rfl
   have z7:=Rz.cell 7 _ rfl
   first | done | skip
   exact bodyPost_ret (v:=.agg #[.int .i64 C,.int .i64 AA,.int .i64 0,.slice s0 qd.length t0,.slice s1 qb.length t1,.slice s2 qt.length t2,.slice s3 qu.length t3,.slice s4 qn.length t4]) (by simp [results,Tryz.results25,go_sem,z0,z1,z2,z3,z4,z5,z6,z7]) rfl ⟨(⟨.slice s0 qd.length t0,qd,.slice s1 qb.length t1,qb,.slice s2 qt.length t2,qt,.slice s3 qu.length t3,qu,.slice s4 qn.length t4,qn⟩:RepQ),rfl,HEQ.out,oz,nq,gw,hBr⟩
  ·have HZ:Hid (C=LF∧AA=0∧RE=⟨[],[],[],[],[]⟩):=HZ0.out LF (HW2'.out h2) h2
   have h2' : (LF != 0)=true:=by simpa using h2
   clear HZ0 ho HW2'
   have hlb:=fun w=>l9Bad_any LF w
   go_wp2_with fail
   refine (hlb _).mono ?_
   rintro e wb ⟨rfl,hb⟩
   replace b0:=below_from b0 hb
   replace RB:=RB.below hb
   clear hb hlb
   have Rr:=RB.row #[.int .i64 LF,.int .i64 0,.int .i64 0,.slice none 0 0,.slice none 0 0,.slice none 0 0,.slice none 0 0,.slice none 0 0]
   have hBr:=below_row (g:=w.heap.size + 1) b0 (by omega) #[.int .i64 LF,.int .i64 0,.int .i64 0,.slice none 0 0,.slice none 0 0,.slice none 0 0,.slice none 0 0,.slice none 0 0]
   go_wp2_with (first | (refine st_row (by kernel_rfl) 34 _ _ rfl _ #[.int .i64 LF,.int .i64 0,.int .i64 0,.slice none 0 0,.slice none 0 0,.slice none 0 0,.slice none 0 0,.slice none 0 0] rfl rfl 34 _ RB sz_rr rfl (by simp [Value.oneCell']) ?_))
   have z0:=Rr.cell 0 _ rfl
   have z1:=Rr.cell 1 _ rfl
   have z2:=Rr.cell 2 _ rfl
   have z3:=Rr.cell 3 _ rfl
   have z4:=Rr.cell 4 _ rfl
   have z5:=Rr.cell 5 _ rfl
   have z6:=Rr.cell 6 _ rfl
   have z7:=Rr.cell 7 _ rfl
   first | done | skip
   exact bodyPost_ret (v:=.agg #[.int .i64 LF,.int .i64 0,.int .i64 0,.slice none 0 0,.slice none 0 0,.slice none 0 0,.slice none 0 0,.slice none 0 0]) (by simp [results,Tryz.results25,go_sem,z0,z1,z2,z3,z4,z5,z6,z7]) rfl ⟨rep0,by rw [HZ.out.1,HZ.out.2.1];rfl,HZ.out.2.2.symm,(rep0_own _).1,by rw [(rep0_own w).2];simp,by rw [(rep0_own w).2];simp,hBr⟩
 ·have HZ:Hid (C=RF∧AA=0∧RE=⟨[],[],[],[],[]⟩):=HZ0.out RF (HW1.out h1) h1
  have h1' : (RF != 0)=true:=by simpa using h1
  clear HZ0 ho HW1 HW2
  have hlb:=fun w=>l9Bad_any RF w
  go_wp2_with fail
  refine (hlb _).mono ?_
  rintro e wb ⟨rfl,hb⟩
  replace b0:=below_from b0 hb
  replace RB:=RB.below hb
  clear hb hlb
  have Rr:=RB.row #[.int .i64 RF,.int .i64 0,.int .i64 0,.slice none 0 0,.slice none 0 0,.slice none 0 0,.slice none 0 0,.slice none 0 0]
  have hBr:=below_row (g:=w.heap.size + 1) b0 (by omega) #[.int .i64 RF,.int .i64 0,.int .i64 0,.slice none 0 0,.slice none 0 0,.slice none 0 0,.slice none 0 0,.slice none 0 0]
  go_wp2_with (first | (refine st_row (by kernel_rfl) 34 _ _ rfl _ #[.int .i64 RF,.int .i64 0,.int .i64 0,.slice none 0 0,.slice none 0 0,.slice none 0 0,.slice none 0 0,.slice none 0 0] rfl rfl 34 _ RB sz_rr rfl (by simp [Value.oneCell']) ?_))
  have z0:=Rr.cell 0 _ rfl
  have z1:=Rr.cell 1 _ rfl
  have z2:=Rr.cell 2 _ rfl
  have z3:=Rr.cell 3 _ rfl
  have z4:=Rr.cell 4 _ rfl
  have z5:=Rr.cell 5 _ rfl
  have z6:=Rr.cell 6 _ rfl
  have z7:=Rr.cell 7 _ rfl
  first | done | skip
  exact bodyPost_ret (v:=.agg #[.int .i64 RF,.int .i64 0,.int .i64 0,.slice none 0 0,.slice none 0 0,.slice none 0 0,.slice none 0 0,.slice none 0 0]) (by simp [results,Tryz.results25,go_sem,z0,z1,z2,z3,z4,z5,z6,z7]) rfl ⟨rep0,by rw [HZ.out.1,HZ.out.2.1];rfl,HZ.out.2.2.symm,(rep0_own _).1,by rw [(rep0_own w).2];simp,by rw [(rep0_own w).2];simp,hBr⟩

end Go.Proofs.YtfdkcbafpiojkaaGreatDoor
