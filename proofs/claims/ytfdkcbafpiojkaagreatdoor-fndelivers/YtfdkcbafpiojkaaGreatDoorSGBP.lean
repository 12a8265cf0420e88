/- Texts joined, with what the laws reach alone. -/
import Derived.Test.YtfdkcbafpiojkaaGreatDoorSGBE
set_option linter.unusedVariables false
set_option linter.unusedSimpArgs false
namespace Go.Proofs.YtfdkcbafpiojkaaGreatDoor
open Go.RowKit
open Go.BigFrame
set_option maxRecDepth 100000
def idsR (ds:List TxnD):List Int:=if idsC ds=0 then ds.map TxnD.id else []

theorem allF_first (ds:List TxnD):∀ k,(∀ j,j < k→(ds.getD j txnNo).F=0)→k < ds.length→(ds.getD k txnNo).F≠0→allF ds=(ds.getD k txnNo).F:=by
 induction ds with
 | nil=>intro k _ h;simp at h
 | cons x r ih=>
  intro k h0 hk hne
  cases k with
  | zero=>simp [List.getD] at hne ⊢;simp [allF,hne]
  | succ k=>
   have hx:x.F=0:=by simpa [List.getD] using h0 0 (by omega)
   have:=ih k (fun j hj=>by simpa [List.getD] using h0 (j + 1) (by omega)) (by simpa using hk) (by simpa [List.getD] using hne)
   simp only [allF,hx,if_true]
   rw [this]
   simp [List.getD]

theorem allF_none (ds:List TxnD) (h:∀ j,j < ds.length→(ds.getD j txnNo).F=0):allF ds=0:=by
 induction ds with
 | nil=>rfl
 | cons x r ih=>
  have hx:x.F=0:=by simpa [List.getD] using h 0 (by simp)
  simp only [allF,hx,if_true]
  exact ih (fun j hj=>by simpa [List.getD] using h (j + 1) (by simpa using hj))

end Go.Proofs.YtfdkcbafpiojkaaGreatDoor
namespace Go.Proofs.YtfdkcbafpiojkaaGreatDoor
open Go.RowKit
open Go.BigFrame
set_option maxRecDepth 100000
set_option maxRecDepth 100000 in
set_option maxHeartbeats 2000000 in
theorem implIdsOf_any (v:Value) (ds:List TxnD) (w:World) (h:TxnsAt w v ds) (hl:ds.length + sumA ds≤1048576) :
  Calls Tryz.prog 97 #[v] w fun e w' => ∃ b c,e=.returned (.agg #[.int .i64 (idsC ds),.slice b (idsR ds).length c]) ∧
   w'.ownsRow w.heap.size 2 1 (.slice b (idsR ds).length c) (idsR ds).length ((idsR ds).map (Value.int .i64))∧Below w.heap.size w w' := by
 obtain ⟨a,cap,rfl⟩:=h.shape
 by_cases h60:60 < ds.length
 ·have e1:idsC ds=2:=if_pos h60
  have e2:idsR ds=[]:=if_neg (by rw [e1];decide)
  rw [e1,e2]
  clear e1 e2
  go_enter Tryz.func97,Tryz.ntmps97
  go_wp2
  exact bodyPost_ret (v:=.agg #[.int .i64 2,.slice none 0 0]) (by simp [results,Tryz.results97,go_sem]) rfl ⟨_,_,rfl,World.ownsRow_nil _ _ _ _,by go_grown⟩
 ·have e1:idsC ds=allF ds:=if_neg h60
  have hR0:Box2 (w.alloc (.cells #[.int .i64 0,.slice none 0 0] 157)) w.heap.size (.int .i64 0) (.slice none 0 0):=⟨by simp,by simp,by simp,by simp,by simp⟩
  have hb0:Below w.heap.size w (w.alloc (.cells #[.int .i64 0,.slice none 0 0] 157)):=by go_grown
  obtain ⟨i0,hi,hz0,hz1,hz2⟩:=info_parts infoI64
  go_enter Tryz.func97,Tryz.ntmps97
  go_wp2
  generalize w.alloc (.cells #[.int .i64 0,.slice none 0 0] 157)=W at hR0 hb0
  have hsW:=hR0.lt
  go_loopw [3,13] (fun v j wr=>∃ k:Nat,k≤ds.length∧j=.int .i64 k∧wr.ownsRow W.heap.size 2 1 v (idsL ds k).length ((idsL ds k).map (Value.int .i64))∧Below W.heap.size W wr∧Hid (∀ j,j < k→(ds.getD j txnNo).F=0)) (fun _ j _=>ds.length - (intOf j).toNat)
  case atStart=>exact ⟨0,Nat.zero_le _,rfl,World.ownsRow_nil _ _ _ _,Below.refl _ _,fun j hj=>absurd hj (Nat.not_lt_zero _)⟩
  case round=>
   obtain ⟨k,hk,rfl,ho,hb,HA⟩:=hrel
   have hsz:=hb.size
   have hkl:(idsL ds k).length≤60:=by rw [idsL_length ds k hk];omega
   obtain ⟨a1,c1,rfl⟩:=own_shape ho
   by_cases hlt:k < ds.length
   ·obtain ⟨b,off,aa,cc,rfl,hbs,hc0,hc1,hc2,hc3,hA⟩:=(h.below (below_from hb0 hb)).at k hlt
    have hzl:(ds.getD k txnNo).acts.length≤sumA ds:=mem_le_sumA (by simp [List.getD,hlt])
    have hcall:=fun w h=>txnFault_any (ds.getD k txnNo).id (ds.getD k txnNo).session (ds.getD k txnNo).seq aa cc (ds.getD k txnNo).acts w h (by omega)
    change ∀ w h,Calls _ _ _ _ fun e w' => e=.returned (.int .i64 ((ds.getD k txnNo).F))∧_ at hcall
    by_cases hF:(ds.getD k txnNo).F=0
    ·have HB:Hid (∀ j,j < k + 1→(ds.getD j txnNo).F=0):=by
      intro j hj
      by_cases hjk:j=k
      ·subst hjk;exact hF
      ·exact HA.out j (by omega)
     have hsu:Hid (idsL ds (k + 1)=idsL ds k ++ [(ds.getD k txnNo).id]):=idsL_succ ds k hlt
     rw [hF] at hcall
     clear HA hF
     generalize ds.getD k txnNo=z at hc0 hc1 hc2 hc3 hA hcall hsu hzl
     obtain ⟨z0,z1,z2,zs⟩:=z
     dsimp only at hc0 hc1 hc2 hc3 hA hcall hzl
     have hW1:Below wr.heap.size wr (wr.alloc (.cells #[.int .i64 z0,.int .i64 z1,.int .i64 z2,.slice aa zs.length cc] 49)):=by go_grown
     have hBt:=Blk.new wr 49 #[.int .i64 z0,.int .i64 z1,.int .i64 z2,.slice aa zs.length cc]
     go_wp2_with fail
     generalize wr.alloc (.cells #[.int .i64 z0,.int .i64 z1,.int .i64 z2,.slice aa zs.length cc] 49)=w1 at hW1 hBt
     refine (hcall _ (hA.below hW1)).mono ?_
     rintro e w2 ⟨rfl,hb2⟩
     replace hW1:=hW1.trans (hb2.mono hW1.size)
     have p0:=(hBt.below hb2).cell 0 _ rfl
     have ho1:=own_below ho hW1
     have hs2:=hW1.size
     clear hb2 hBt hcall hA hc0 hc1 hc2 hc3
     have hW2:Below W.heap.size w2 (w2.alloc (.cells #[.int .i64 z0] 2)):=(Below.refl _ _).alloc (by omega) _
     have ho2:=ho1.alloc (.cells #[.int .i64 z0] 2)
     go_wp2_with (at_builtin;refine wpList_append_own _ rfl _ _ 73 rfl W.heap.size 2 i0 (.int .i64 0) 1 8 Tryz.underlying73 hi hz0 hz1 hz2 rfl (by decide) _ (idsL ds k).length ((idsL ds k).map (Value.int .i64)) rfl ho2 ⟨w2.heap.size,0,none⟩ 1 1 [.int .i64 z0] rfl rfl ?c1 ?c2 ?c3 ?c4 ?c5 ?_)
     all_goals try
      (case c1=>intro j u hj;match j,hj with | 0,hj=>simp at hj;subst hj;simp [Addr.add])
     all_goals try (case c2=>first | rfl | (intro u hu;simp at hu;subst hu;rfl))
     all_goals try (case c3=>unfold maxLen;omega)
     all_goals try (case c4=>omega)
     all_goals try (case c5=>first | omega | (simp;omega))
     intro v' w3 hown hgrow _
     obtain ⟨a2,c2,rfl⟩:=own_shape hown
     have hW3:Below W.heap.size w2 w3:=hW2.grown hgrow (by simp;omega) (fun j hj=>(ho1.lt j hj).1)
     have R:Hid (w3.ownsRow W.heap.size 2 1 (.slice a2 ((idsL ds k).length + 1) c2) ((idsL ds k).length + 1) ((idsL ds k ++ [z0]).map (Value.int .i64))∧Below W.heap.size W w3):=⟨by simpa using hown,(hb.trans (hW1.mono hsz)).trans hW3⟩
     clear hW2 hgrow ho2 ho hown hW3 ho1 hW1 p0
     go_wp2
     go_roundw
     case rel=>
      refine ⟨k + 1,by omega,by go_num,?_,R.out.2,HB⟩
      rw [hsu.out]
      simpa using R.out.1
     case measure=>simp [intOf];omega
    ·have E:Hid (allF ds=(ds.getD k txnNo).F):=allF_first ds k HA.out hlt hF
     have hne:((ds.getD k txnNo).F != 0)=true:=by simpa using hF
     have E2:Hid (idsR ds=[]):=if_neg (by rw [e1,E.out];exact hF)
     clear HA hF
     generalize (ds.getD k txnNo).F=r at hcall E hne
     generalize ds.getD k txnNo=z at hc0 hc1 hc2 hc3 hA hcall hzl
     obtain ⟨z0,z1,z2,zs⟩:=z
     dsimp only at hc0 hc1 hc2 hc3 hA hcall hzl
     have hW1:Below wr.heap.size wr (wr.alloc (.cells #[.int .i64 z0,.int .i64 z1,.int .i64 z2,.slice aa zs.length cc] 49)):=by go_grown
     have E1:Hid (idsC ds=allF ds):=e1
     clear e1
     go_wp2_with fail
     generalize wr.alloc (.cells #[.int .i64 z0,.int .i64 z1,.int .i64 z2,.slice aa zs.length cc] 49)=w1 at hW1
     refine (hcall _ (hA.below hW1)).mono ?_
     rintro e w2 ⟨rfl,hb2⟩
     obtain ⟨hlt0,q0,q1,g0,g1⟩:=((hR0.below hb).below hW1).below hb2
     clear hcall hA hc0 hc1 hc2 hc3 ho
     go_wp2
     refine bodyPost_ret (v:=.agg #[.int .i64 r,.slice none 0 0]) (by simp [results,Tryz.results97,go_sem,q0,q1]) rfl ?_
     rw [E1.out,E.out,E2.out]
     refine ⟨_,_,rfl,World.ownsRow_nil _ _ _ _,?_⟩
     repeat' (refine Below.setCell ?_ (by dsimp only;omega) _)
     exact below_from (below_from (below_from hb0 hb) hW1) hb2
   ·have hkk:k=ds.length:=by omega
    subst hkk
    have E:Hid (idsC ds=0):=e1.trans (allF_none ds HA.out)
    have E2:Hid (idsR ds=idsL ds ds.length):=by
     show _=_
     rw [show idsR ds=ds.map TxnD.id from if_pos E.out]
     simp [idsL]
    clear HA e1
    obtain ⟨hlt0,q0,q1,g0,g1⟩:=hR0.below hb
    generalize idsL ds ds.length=L at ho E2 hkl
    go_wp2
    refine bodyPost_ret (v:=.agg #[.int .i64 0,.slice a1 L.length c1]) (by simp [results,Tryz.results97,go_sem,q0,q1]) rfl ?_
    rw [E.out,E2.out]
    refine ⟨_,_,rfl,?_,?_⟩
    ·refine own_base (base:=W.heap.size) ?_ hb0.size
     repeat' (refine ownsRow_setCell_below ?_ (by dsimp only;omega) _)
     exact ho
    ·repeat' (refine Below.setCell ?_ (by dsimp only;omega) _)
     exact below_from hb0 hb

end Go.Proofs.YtfdkcbafpiojkaaGreatDoor
namespace Go.Proofs.YtfdkcbafpiojkaaGreatDoor
open Go.RowKit
open Go.BigFrame
set_option maxRecDepth 100000
theorem witL_succ (ds:List TxnD) (gone:List TxnD) (k:Nat) (hk:k < ds.length):witL (ds.take (k + 1)) gone=if knw gone ds[k] then witL (ds.take k) gone else witL (ds.take k) gone ++ [ds[k]]:=by
 unfold witL
 rw [List.take_succ_eq_append_getElem hk,List.filter_append]
 cases h:knw gone ds[k] <;> simp [List.filter_cons,h]

theorem witL_len (ds:List TxnD) (gone:List TxnD) (k:Nat):(witL (ds.take k) gone).length≤k:=by
 have h1:(witL (ds.take k) gone).length≤(ds.take k).length:=List.length_filter_le ..
 rw [List.length_take] at h1
 omega

set_option maxRecDepth 100000 in
set_option maxHeartbeats 4000000 in
theorem l8Without_any (v v' : Value) (ps gs:List TxnQ) (w:World) (h:txnK.At w v ps) (h' : txnK.At w v' gs) (hne:∀ p∈ps,0 < p.acts.length) (h40:ps.length≤40) (hl:ps.length + nmL TxnQ.n ps≤1048576) (hl' : gs.length≤1048576) :
  Calls Tryz.prog 94 #[v,v'] w fun e w' => ∃ v2 qs,e=.returned v2∧qs.map TxnQ.e=witL (ps.map TxnQ.e) (gs.map TxnQ.e)∧txnK.Own w' v2 qs∧(txnK.fp v2 qs).Nodup∧(∀ k∈txnK.fp v2 qs,w.heap.size≤k)∧Below w.heap.size w w' := by
 obtain ⟨a,cap,rfl⟩:=h.shape
 obtain ⟨a',cap',rfl⟩:=h'.shape
 obtain ⟨i0,hi,hz0,hz1,hz2⟩:=info_parts infoTxn
 have hkn:=fun b o x va w h hB=>l7Known_any (.slice a' gs.length cap') gs b o x va w h hB hl'
 generalize gs.map TxnQ.e=gd at *
 have ho:=World.ownsRow_lit (e:=49) (size:=4) w #[] 0 (Nat.le_refl _) (by decide) rfl
 have hn1:txnK.Own (w.alloc (.cells #[] 49)) (.slice (some ⟨w.heap.size,0,none⟩) 0 0) ([]:List TxnQ):=⟨(own_zero ho).1,fun p hp=>by simp at hp⟩
 have hnb:Below w.heap.size w (w.alloc (.cells #[] 49)):=by go_grown
 have HN0:Hid ((txnK.fp (.slice (some ⟨w.heap.size,0,none⟩) 0 0) ([]:List TxnQ)).Nodup∧∀ k∈txnK.fp (.slice (some ⟨w.heap.size,0,none⟩) 0 0) ([]:List TxnQ),w.heap.size≤k):=by
  refine ⟨?_,?_⟩
  ·simp [Kind.fp,blk,Value.ownBlock]
  ·simp [Kind.fp,blk,Value.ownBlock]
 clear ho
 go_enter Tryz.func94,Tryz.ntmps94
 go_wp2
 go_loopw [5,6] (fun v j wr=>∃ (k:Nat) (qs:List TxnQ),k≤ps.length∧j=.int .i64 k∧Hid (qs.map TxnQ.e=witL ((ps.map TxnQ.e).take k) gd)∧txnK.Own wr v qs∧Hid ((txnK.fp v qs).Nodup∧∀ k∈txnK.fp v qs,w.heap.size≤k)∧Below w.heap.size w wr) (fun _ j _=>ps.length - (intOf j).toNat)
 case atStart=>exact ⟨0,[],Nat.zero_le _,rfl,(rfl:_=_),hn1,HN0,hnb⟩
 case round=>
  clear HN0 hn1 hnb
  obtain ⟨k,qs,hk,rfl,HE,hO,HN,hb⟩:=hrel
  obtain ⟨sa,sc,rfl⟩:=hO.shape
  have HQL:Hid (qs.length≤k):=show _≤_ by
   have h1:=congrArg List.length HE.out
   have h2:=witL_len (ps.map TxnQ.e) gd k
   rw [List.length_map] at h1
   omega
  by_cases hlt:k < ps.length
  ·obtain ⟨b,off,rfl,hbs,hc,hrd⟩:=(h.below hb).cell (by decide) k hlt
   have hc' : ∀ j x,(txnK.cells ps[k])[j]? = some x→wr.cell? ⟨b,off + k * 4 + j,none⟩=some x:=hc
   have c0:=hc' 0 (.int .i64 ps[k].i) rfl
   have c1:=hc' 1 (.int .i64 ps[k].s) rfl
   have c2:=hc' 2 (.int .i64 ps[k].q) rfl
   have c3:=hc' 3 (ps[k].va) rfl
   rw [Nat.add_zero] at c0
   have hzl:=nm_le TxnQ.n ps k hlt
   have hpos:=hne _ (List.getElem_mem hlt)
   have HW:Hid (witL ((ps.map TxnQ.e).take (k + 1)) gd=if knw gd (TxnQ.e ps[k]) then qs.map TxnQ.e else qs.map TxnQ.e ++ [TxnQ.e ps[k]]):=show _=_ by
    have:=witL_succ (ps.map TxnQ.e) gd k (by simpa using hlt)
    rw [this,HE.out]
    simp
   clear hc hc' HE
   generalize hK:knw gd (TxnQ.e ps[k])=K at *
   have HK:Hid (knw gd (TxnQ.e ps[k])=K):=hK
   clear hK
   generalize ps[k]=p at *
   obtain ⟨i,s,q,va,acts⟩:=p
   replace hrd:actK.At wr va acts:=hrd
   replace hzl:acts.length≤nmL TxnQ.n ps:=hzl
   obtain ⟨aa,ac,rfl⟩:=hrd.shape
   dsimp only at c0 c1 c2 c3 hpos
   obtain ⟨ab,ao,haa⟩:∃ ab ao,aa=some ⟨ab,ao,none⟩:=by
    rcases (actK_at hrd).2 with h0 | ⟨ab,ao,e,_⟩
    ·have:=actCells_length acts
     rw [h0] at this
     simp at this
     omega
    ·exact ⟨ab,ao,e⟩
   subst haa
   have hB4:Box4 wr b (off + k * 4) (.int .i64 i) (.int .i64 s) (.int .i64 q) (.slice (some ⟨ab,ao,none⟩) acts.length ac):=⟨c0,c1,c2,c3⟩
   have hq:=hkn b (off + k * 4) (TxnQ.e ⟨i,s,q,.slice (some ⟨ab,ao,none⟩) acts.length ac,acts⟩) _ wr (h'.below hb) hB4
   rw [HK.out] at hq
   clear HK c0 c1 c2 c3 hkn
   have hlti:(k:Int) < (ps.length:Int):=by omega
   go_wp2_with fail
   refine hq.mono ?_
   rintro e w1 ⟨rfl,hb1⟩
   have HLT:=hO.lt
   replace hO:=hO.below hb1
   replace hb:=hb.trans (hb1.mono hb.size)
   replace hB4:=hB4.below hb1
   have hs1:=hb1.size
   cases K with
   | true=>
    have HE2:Hid (qs.map TxnQ.e=witL ((ps.map TxnQ.e).take (k + 1)) gd):=show _=_ by rw [HW.out];rfl
    clear HW hB4 hb1
    go_wp2
    go_roundw
    case rel=>exact ⟨k + 1,qs,by omega,by go_num,HE2,hO,HN,hb⟩
    case measure=>simp [intOf];omega
   | false=>
    have HPE:Hid (∀ p' : TxnQ,p'.e=(⟨i,s,q,acts⟩:TxnD)→(qs ++ [p']).map TxnQ.e=witL ((ps.map TxnQ.e).take (k + 1)) gd):=fun p' hp' => by
     rw [HW.out,List.map_append,List.map_singleton,hp']
     rfl
    clear HW
    have hcl:=l2Copy_any i s q ab ao ac acts w1 ((actK_at hrd).2.below hb1) hpos (by omega)
    obtain ⟨c0,c1,c2,c3⟩:=hB4
    clear hrd hb1
    go_wp2_with fail
    clear c0 c1 c2 c3
    have hYs:w.heap.size≤w1.heap.size:=hb.size
    refine hcl.mono ?_
    rintro e w2 ⟨a2,c2,rfl,ho2,hb2⟩
    replace hO:=hO.below hb2
    replace hb:=hb.trans (hb2.mono hb.size)
    obtain ⟨o2,hk2⟩:=own_zero ho2
    have hP:txnK.own w2 ⟨i,s,q,.slice a2 acts.length c2,acts⟩:=⟨o2,fun _ _=>trivial⟩
    have hPlo:∀ x∈txnK.foot ⟨i,s,q,.slice a2 acts.length c2,acts⟩,w1.heap.size≤x:=fun x hx=>hk2 x (by rw [← actK_fp (.slice a2 acts.length c2) acts];exact hx)
    have hPn:(txnK.foot ⟨i,s,q,.slice a2 acts.length c2,acts⟩).Nodup:=by
     show (actK.fp _ _).Nodup
     rw [actK_fp];exact blk_nodup _
    have hbA:Below w2.heap.size w2 (w2.alloc (.cells #[.int .i64 i,.int .i64 s,.int .i64 q,.slice a2 acts.length c2] 49)):=by go_grown
    have hOA:=hO.below hbA
    have hPA:=txnK.own_out (F:=[]) hP (Out.of_below hbA) (fun _ _=>by simp)
    have hbB:=hb.trans (hbA.mono hb.size)
    clear hcl ho2 hO hP hk2
    have hrow0:=hOA.1
    go_wp2_with (at_builtin;refine wpList_append_own_at _ rfl _ _ 28 rfl 0 49 i0 (.agg #[.int .i64 0,.int .i64 0,.int .i64 0,.slice none 0 0]) 4 48 Tryz.underlying28 hi hz0 hz1 hz2 rfl (by decide) _ qs.length (txnK.row qs) rfl hrow0 ⟨w2.heap.size,0,none⟩ 1 1 [.int .i64 i,.int .i64 s,.int .i64 q,.slice a2 acts.length c2] rfl rfl ?c1 ?c2 ?c3 ?c4 ?c5 ?_)
    all_goals try (case c1=>intro j u hj;match j,hj with | 0,hj=>simp at hj;subst hj;simp [Addr.add] | 1,hj=>simp at hj;subst hj;simp [Addr.add] | 2,hj=>simp at hj;subst hj;simp [Addr.add] | 3,hj=>simp at hj;subst hj;simp [Addr.add])
    all_goals try (case c2=>intro u hu;simp at hu;rcases hu with rfl | rfl | rfl | rfl <;> rfl)
    all_goals try (case c3=>have:=HQL.out;unfold maxLen;omega)
    all_goals try (case c4=>have:=HQL.out;omega)
    all_goals try (case c5=>first | omega | simp)
    intro v' w5 hown hgrow hnil hat
    clear hnil hrow0
    rw [show w2.heap.size + 1=(w2.alloc (.cells #[.int .i64 i,.int .i64 s,.int .i64 q,.slice a2 acts.length c2] 49)).heap.size from (World.size_alloc _ _).symm] at hat
    generalize hwA:w2.alloc (.cells #[.int .i64 i,.int .i64 s,.int .i64 q,.slice a2 acts.length c2] 49)=WA at *
    clear hwA
    obtain ⟨hO5,hn5,hlo5,hou⟩:=hOA.snoc HN.out.1 HN.out.2 hPA hPn (fun x hx hx' => by have:=HLT x hx';have:=hPlo x hx;omega) (fun x hx=>by have:=hPlo x hx;omega) hbB.size hown hgrow hat
    have hb5:Below w.heap.size w w5:=Out.keep hbB hou hbB.size (fun x hx=>HN.out.2 x (by simp only [Kind.fp,List.mem_append];exact Or.inl hx))
    have HE5:Hid ((qs ++ [(⟨i,s,q,.slice a2 acts.length c2,acts⟩:TxnQ)]).map TxnQ.e=witL ((ps.map TxnQ.e).take (k + 1)) gd):=HPE.out _ rfl
    have HN5:Hid ((txnK.fp v' (qs ++ [(⟨i,s,q,.slice a2 acts.length c2,acts⟩:TxnQ)])).Nodup∧∀ k∈txnK.fp v' (qs ++ [(⟨i,s,q,.slice a2 acts.length c2,acts⟩:TxnQ)]),w.heap.size≤k):=⟨hn5,hlo5⟩
    clear HPE HN HLT hPlo hPn hPA hOA hbB hown hgrow hat hou hn5 hlo5 hb hbA hb2 hzl hpos
    go_wp2
    go_roundw
    case rel=>exact ⟨k + 1,_,by omega,by go_num,HE5,hO5,HN5,hb5⟩
    case measure=>simp [intOf];omega
  ·have hkl:k=ps.length:=by omega
   subst hkl
   have hE:=HE.out
   rw [List.take_of_length_le (by simp)] at hE
   have hlti:¬ ((ps.length:Nat):Int) < (ps.length:Int):=by omega
   clear HE
   go_wp2
   go_ret
   first | exact ⟨_,qs,rfl,hE,hO,HN.out.1,HN.out.2,hb⟩ | exact ⟨_,rfl,qs,hE,hO,HN.out.1,HN.out.2,hb⟩

end Go.Proofs.YtfdkcbafpiojkaaGreatDoor
namespace Go.Proofs.YtfdkcbafpiojkaaGreatDoor
open Go.RowKit
open Go.BigFrame
set_option maxRecDepth 100000
set_option maxRecDepth 100000 in
set_option maxHeartbeats 8000000 in
theorem l8Common_any (v v' : Value) (ps ps' : List TxnQ) (w:World) (h:txnK.At w v ps) (h' : txnK.At w v' ps') (hl:ps.length + nmL TxnQ.n ps≤1048576) (hl' : ps'.length + nmL TxnQ.n ps' ≤ 1048576) :
  Calls Tryz.prog 178 #[v,v'] w fun e w' => e=.returned (.int .i64 (comN (ps.map TxnQ.e) (ps'.map TxnQ.e)))∧Below w.heap.size w w' := by
 obtain ⟨a,cap,rfl⟩:=h.shape
 obtain ⟨a',cap',rfl⟩:=h'.shape
 obtain ⟨V,hV⟩:∃ V:Int,V=(comN (ps.map TxnQ.e) (ps'.map TxnQ.e):Int):=⟨_,rfl⟩
 have HV0:Hid (V=(comN (ps.map TxnQ.e) (ps'.map TxnQ.e):Int)):=hV
 rw [← hV]
 clear hV
 go_enter Tryz.func178,Tryz.ntmps178
 go_wp2
 go_loopw [5] (fun j wr=>∃ k:Nat,k≤ps.length∧k≤ps'.length∧j=.int .i64 k∧Below w.heap.size w wr∧Hid (∀ j,j < k→sameT ((ps.map TxnQ.e).getD j txnNo') ((ps'.map TxnQ.e).getD j txnNo')=true)) (fun j _=>ps.length - (intOf j).toNat)
 case atStart=>exact ⟨0,Nat.zero_le _,Nat.zero_le _,rfl,Below.refl _ _,fun j hj=>absurd hj (Nat.not_lt_zero _)⟩
 case round=>
   obtain ⟨k,hk,hk',rfl,hb,HA⟩:=hrel
   have hW:Below wr.heap.size wr wr.drew:=(Below.refl _ _).drew
   have hnn:Nonempty (Lat wr):=⟨⟨wr,Below.refl _ _⟩⟩
   by_cases hkm:k < ps.length∧k < ps'.length
   ·obtain ⟨hlt,hlt'⟩:=hkm
    obtain ⟨b,off,rfl,hbs,hcm,hrd⟩:=(h.below hb).cell (by decide) k hlt
    obtain ⟨b',off',rfl,hbs',hcm',hrd'⟩:=(h'.below hb).cell (by decide) k hlt'
    have hc' : ∀ j x,(txnK.cells ps[k])[j]? = some x→wr.cell? ⟨b,off + k * 4 + j,none⟩=some x:=hcm
    have hd' : ∀ j x,(txnK.cells ps'[k])[j]? = some x→wr.cell? ⟨b',off' + k * 4 + j,none⟩=some x:=hcm'
    have c0:=hc' 0 (.int .i64 ps[k].i) rfl
    have c1:=hc' 1 (.int .i64 ps[k].s) rfl
    have c2:=hc' 2 (.int .i64 ps[k].q) rfl
    have c3:=hc' 3 (ps[k].va) rfl
    have d0:=hd' 0 (.int .i64 ps'[k].i) rfl
    have d1:=hd' 1 (.int .i64 ps'[k].s) rfl
    have d2:=hd' 2 (.int .i64 ps'[k].q) rfl
    have d3:=hd' 3 (ps'[k].va) rfl
    rw [Nat.add_zero] at c0 d0
    have n1:=nm_le TxnQ.n ps k hlt
    have n2:=nm_le TxnQ.n ps' k hlt'
    have HY:Hid (sameT (TxnQ.e ps[k]) (TxnQ.e ps'[k])=false→comN (ps.map TxnQ.e) (ps'.map TxnQ.e)=k):=fun hx=>com_at _ _ k HA.out (by simpa using hk) (by simpa using hk') (Or.inr (Or.inr (by rw [txn_get ps k hlt,txn_get ps' k hlt'];exact hx)))
    have HN:Hid (sameT (TxnQ.e ps[k]) (TxnQ.e ps'[k])=true→∀ j,j < k + 1→sameT ((ps.map TxnQ.e).getD j txnNo') ((ps'.map TxnQ.e).getD j txnNo')=true):=fun hx j hj=>by
     by_cases hjk:j=k
     ·subst hjk
      rw [txn_get ps j hlt,txn_get ps' j hlt']
      exact hx
     ·exact HA.out j (by omega)
    clear HA hcm hcm' hc' hd'
    generalize hS:sameT (TxnQ.e ps[k]) (TxnQ.e ps'[k])=S at *
    have HS:Hid (sameT (TxnQ.e ps[k]) (TxnQ.e ps'[k])=S):=hS
    clear hS
    generalize ps[k]=p at *
    generalize ps'[k]=p' at *
    obtain ⟨i,s,q,va,acts⟩:=p
    obtain ⟨i',s',q',va',acts'⟩:=p'
    replace hrd:actK.At wr va acts:=hrd
    replace hrd' : actK.At wr va' acts' := hrd'
    replace n1:acts.length≤nmL TxnQ.n ps:=n1
    replace n2:acts'.length≤nmL TxnQ.n ps' := n2
    obtain ⟨aa,ac,rfl⟩:=hrd.shape
    obtain ⟨aa',ac',rfl⟩:=hrd'.shape
    have hR:=(actK_at hrd).2
    have hR' := (actK_at hrd').2
    dsimp only [TxnQ.e] at c0 c1 c2 c3 d0 d1 d2 d3 HS
    have hB4:Box4 wr b (off + k * 4) (.int .i64 i) (.int .i64 s) (.int .i64 q) (.slice aa acts.length ac):=⟨c0,c1,c2,c3⟩
    have hB4' : Box4 wr b' (off' + k * 4) (.int .i64 i') (.int .i64 s') (.int .i64 q') (.slice aa' acts'.length ac'):=⟨d0,d1,d2,d3⟩
    have hq:=fun w h1 h2 h3 h4=>l2Same_any ⟨i,s,q,acts⟩ ⟨i',s',q',acts'⟩ b (off + k * 4) b' (off' + k * 4) aa aa' ac ac' w h1 h2 h3 h4 (by dsimp only;omega) (by dsimp only;omega)
    rw [HS.out] at hq
    dsimp only at hq
    have hki:(k:Int) < (ps.length:Int):=by omega
    have hki' : (k:Int) < (ps'.length:Int):=by omega
    clear HS hrd hrd' c0 c1 c2 c3 d0 d1 d2 d3
    go_wp2_with fail
    refine text_begin (S:=fun w' => ∃ u:Lat wr,w' = u.val) (by kernel_rfl) ?_
    refine seg_range [(0,2)] 17 (by kernel_rfl) (by kernel_rfl) (by kernel_rfl) (by kernel_rfl) (by kernel_rfl) ⟨⟨_,hW⟩,rfl⟩ ?_
    simp only [pickR,List.toList_toArray,List.flatMap_cons,List.flatMap_nil,List.drop_succ_cons,List.drop_zero,List.take_succ_cons,List.take_zero,List.cons_append,List.nil_append,List.append_nil]
    repeat go_big_quiet_step (fail)
    refine wpQuiet_nil ?_
    refine quiet_at 2 (some 8) (.int .i64 ps.length) 16 (by kernel_rfl) (by kernel_rfl) (by kernel_rfl) (by kernel_rfl) (by kernel_rfl) (fun u _=>by kernel_rfl) ⟨⟨_,hW⟩,rfl⟩ ?_
    simp only [Act.put,List.setIfInBounds_toArray,List.set_cons_zero,List.set_cons_succ]
    refine seg_range [(3,4)] 12 (by kernel_rfl) (by kernel_rfl) (by kernel_rfl) (by kernel_rfl) (by kernel_rfl) ⟨⟨_,hW⟩,rfl⟩ ?_
    simp only [pickR,List.toList_toArray,List.flatMap_cons,List.flatMap_nil,List.drop_succ_cons,List.drop_zero,List.take_succ_cons,List.take_zero,List.cons_append,List.nil_append,List.append_nil]
    repeat go_big_quiet_step (fail)
    refine wpQuiet_nil ?_
    refine quiet_at 7 (some 13) (.int .i64 ps'.length) 11 (by kernel_rfl) (by kernel_rfl) (by kernel_rfl) (by kernel_rfl) (by kernel_rfl) (fun u _=>by kernel_rfl) ⟨⟨_,hW⟩,rfl⟩ ?_
    simp only [Act.put,List.setIfInBounds_toArray,List.set_cons_zero,List.set_cons_succ]
    refine seg_range [(8,9)] 2 (by kernel_rfl) (by kernel_rfl) (by kernel_rfl) (by kernel_rfl) (by kernel_rfl) ⟨⟨_,hW⟩,rfl⟩ ?_
    simp only [pickR,List.toList_toArray,List.flatMap_cons,List.flatMap_nil,List.drop_succ_cons,List.drop_zero,List.take_succ_cons,List.take_zero,List.cons_append,List.nil_append,List.append_nil]
    repeat go_big_quiet_step (fail)
    refine wpQuiet_nil ?_
    refine call_at 17 (some 23) 188 #[.pointer (some ⟨b,off + k * 4,none⟩),.pointer (some ⟨b',off' + k * 4,none⟩)] 1 (by kernel_rfl) (by kernel_rfl) (by kernel_rfl) (by kernel_rfl) (by kernel_rfl) ?_
    refine (hq _ (hB4.below hW) (hB4'.below hW) (hR.below hW) (hR'.below hW)).mono ?_
    rintro e w9 ⟨rfl,hb9⟩
    replace hW:=hW.trans (hb9.mono hW.size)
    clear hb9
    refine ⟨_,rfl,⟨⟨_,hW⟩,rfl⟩,?_⟩
    simp only [Act.put,List.setIfInBounds_toArray,List.set_cons_zero,List.set_cons_succ]
    refine seg_range [(18,1)] 0 (by kernel_rfl) (by kernel_rfl) (by kernel_rfl) (by kernel_rfl) (by kernel_rfl) ⟨⟨_,hW⟩,rfl⟩ ?_
    simp only [pickR,List.toList_toArray,List.flatMap_cons,List.flatMap_nil,List.drop_succ_cons,List.drop_zero,List.take_succ_cons,List.take_zero,List.cons_append,List.nil_append,List.append_nil]
    repeat go_big_quiet_step (fail)
    refine wpQuiet_nil ?_
    refine text_end (by kernel_rfl) ?_
    replace hb:=hb.trans (hW.mono hb.size)
    clear hW hnn hq hB4 hB4' hR hR'
    cases S with
    | true=>
     have HR:Hid _:=HN.out rfl
     clear HY HN
     go_wp2
     go_roundw
     case rel=>exact ⟨k + 1,by omega,by omega,by go_num,hb,HR.out⟩
     case measure=>simp [intOf];omega
    | false=>
     have HR:Hid (V=(k:Int)):=show _=_ by rw [HV0.out,HY.out rfl]
     clear HY HN HV0
     go_wp2
     go_ret
     exact ⟨by rw [HR.out];rfl,hb⟩
   ·have HR:Hid (V=(k:Int)):=show _=_ by
     rw [HV0.out,com_at _ _ k HA.out (by simpa using hk) (by simpa using hk') (by rw [List.length_map,List.length_map];omega)]
    clear HA HV0
    by_cases hlt:k < ps.length
    ·have hki:(k:Int) < (ps.length:Int):=by omega
     have hlt' : ¬ k < ps'.length:=by omega
     have hki' : ¬ (k:Int) < (ps'.length:Int):=by omega
     go_wp2_with fail
     refine text_begin (S:=fun w' => ∃ u:Lat wr,w' = u.val) (by kernel_rfl) ?_
     refine seg_range [(0,2)] 17 (by kernel_rfl) (by kernel_rfl) (by kernel_rfl) (by kernel_rfl) (by kernel_rfl) ⟨⟨_,hW⟩,rfl⟩ ?_
     simp only [pickR,List.toList_toArray,List.flatMap_cons,List.flatMap_nil,List.drop_succ_cons,List.drop_zero,List.take_succ_cons,List.take_zero,List.cons_append,List.nil_append,List.append_nil]
     repeat go_big_quiet_step (fail)
     refine wpQuiet_nil ?_
     refine quiet_at 2 (some 8) (.int .i64 ps.length) 16 (by kernel_rfl) (by kernel_rfl) (by kernel_rfl) (by kernel_rfl) (by kernel_rfl) (fun u _=>by kernel_rfl) ⟨⟨_,hW⟩,rfl⟩ ?_
     simp only [Act.put,List.setIfInBounds_toArray,List.set_cons_zero,List.set_cons_succ]
     refine seg_range [(3,4)] 12 (by kernel_rfl) (by kernel_rfl) (by kernel_rfl) (by kernel_rfl) (by kernel_rfl) ⟨⟨_,hW⟩,rfl⟩ ?_
     simp only [pickR,List.toList_toArray,List.flatMap_cons,List.flatMap_nil,List.drop_succ_cons,List.drop_zero,List.take_succ_cons,List.take_zero,List.cons_append,List.nil_append,List.append_nil]
     repeat go_big_quiet_step (fail)
     refine wpQuiet_nil ?_
     refine quiet_at 7 (some 13) (.int .i64 ps'.length) 11 (by kernel_rfl) (by kernel_rfl) (by kernel_rfl) (by kernel_rfl) (by kernel_rfl) (fun u _=>by kernel_rfl) ⟨⟨_,hW⟩,rfl⟩ ?_
     simp only [Act.put,List.setIfInBounds_toArray,List.set_cons_zero,List.set_cons_succ]
     refine seg_range [(8,9)] 2 (by kernel_rfl) (by kernel_rfl) (by kernel_rfl) (by kernel_rfl) (by kernel_rfl) ⟨⟨_,hW⟩,rfl⟩ ?_
     simp only [pickR,List.toList_toArray,List.flatMap_cons,List.flatMap_nil,List.drop_succ_cons,List.drop_zero,List.take_succ_cons,List.take_zero,List.cons_append,List.nil_append,List.append_nil]
     repeat go_big_quiet_step (fail)
     refine wpQuiet_nil ?_
     refine skip_at 17 (some 23) 1 (by kernel_rfl) (by kernel_rfl) (by kernel_rfl) (by kernel_rfl) (by kernel_rfl) ⟨⟨_,hW⟩,rfl⟩ ?_
     simp only [Act.put,List.setIfInBounds_toArray,List.set_cons_zero,List.set_cons_succ]
     refine seg_range [(18,1)] 0 (by kernel_rfl) (by kernel_rfl) (by kernel_rfl) (by kernel_rfl) (by kernel_rfl) ⟨⟨_,hW⟩,rfl⟩ ?_
     simp only [pickR,List.toList_toArray,List.flatMap_cons,List.flatMap_nil,List.drop_succ_cons,List.drop_zero,List.take_succ_cons,List.take_zero,List.cons_append,List.nil_append,List.append_nil]
     repeat go_big_quiet_step (fail)
     refine wpQuiet_nil ?_
     refine text_end (by kernel_rfl) ?_
     replace hb:=hb.trans (hW.mono hb.size)
     clear hW hnn
     go_wp2
     go_ret
     exact ⟨by rw [HR.out];rfl,hb⟩
    ·have hki:¬ (k:Int) < (ps.length:Int):=by omega
     go_wp2_with fail
     refine text_begin (S:=fun w' => ∃ u:Lat wr,w' = u.val) (by kernel_rfl) ?_
     refine seg_range [(0,2)] 17 (by kernel_rfl) (by kernel_rfl) (by kernel_rfl) (by kernel_rfl) (by kernel_rfl) ⟨⟨_,hW⟩,rfl⟩ ?_
     simp only [pickR,List.toList_toArray,List.flatMap_cons,List.flatMap_nil,List.drop_succ_cons,List.drop_zero,List.take_succ_cons,List.take_zero,List.cons_append,List.nil_append,List.append_nil]
     repeat go_big_quiet_step (fail)
     refine wpQuiet_nil ?_
     refine quiet_at 2 (some 8) (.int .i64 ps.length) 16 (by kernel_rfl) (by kernel_rfl) (by kernel_rfl) (by kernel_rfl) (by kernel_rfl) (fun u _=>by kernel_rfl) ⟨⟨_,hW⟩,rfl⟩ ?_
     simp only [Act.put,List.setIfInBounds_toArray,List.set_cons_zero,List.set_cons_succ]
     refine seg_range [(3,4)] 12 (by kernel_rfl) (by kernel_rfl) (by kernel_rfl) (by kernel_rfl) (by kernel_rfl) ⟨⟨_,hW⟩,rfl⟩ ?_
     simp only [pickR,List.toList_toArray,List.flatMap_cons,List.flatMap_nil,List.drop_succ_cons,List.drop_zero,List.take_succ_cons,List.take_zero,List.cons_append,List.nil_append,List.append_nil]
     repeat go_big_quiet_step (fail)
     refine wpQuiet_nil ?_
     refine skip_at 7 (some 13) 11 (by kernel_rfl) (by kernel_rfl) (by kernel_rfl) (by kernel_rfl) (by kernel_rfl) ⟨⟨_,hW⟩,rfl⟩ ?_
     simp only [Act.put,List.setIfInBounds_toArray,List.set_cons_zero,List.set_cons_succ]
     refine seg_range [(8,9)] 2 (by kernel_rfl) (by kernel_rfl) (by kernel_rfl) (by kernel_rfl) (by kernel_rfl) ⟨⟨_,hW⟩,rfl⟩ ?_
     simp only [pickR,List.toList_toArray,List.flatMap_cons,List.flatMap_nil,List.drop_succ_cons,List.drop_zero,List.take_succ_cons,List.take_zero,List.cons_append,List.nil_append,List.append_nil]
     repeat go_big_quiet_step (fail)
     refine wpQuiet_nil ?_
     refine skip_at 17 (some 23) 1 (by kernel_rfl) (by kernel_rfl) (by kernel_rfl) (by kernel_rfl) (by kernel_rfl) ⟨⟨_,hW⟩,rfl⟩ ?_
     simp only [Act.put,List.setIfInBounds_toArray,List.set_cons_zero,List.set_cons_succ]
     refine seg_range [(18,1)] 0 (by kernel_rfl) (by kernel_rfl) (by kernel_rfl) (by kernel_rfl) (by kernel_rfl) ⟨⟨_,hW⟩,rfl⟩ ?_
     simp only [pickR,List.toList_toArray,List.flatMap_cons,List.flatMap_nil,List.drop_succ_cons,List.drop_zero,List.take_succ_cons,List.take_zero,List.cons_append,List.nil_append,List.append_nil]
     repeat go_big_quiet_step (fail)
     refine wpQuiet_nil ?_
     refine text_end (by kernel_rfl) ?_
     replace hb:=hb.trans (hW.mono hb.size)
     clear hW hnn
     go_wp2
     go_ret
     exact ⟨by rw [HR.out];rfl,hb⟩

end Go.Proofs.YtfdkcbafpiojkaaGreatDoor
