/- Texts joined, with what the law reaches alone. -/
import Derived.Test.YtfdkcbafpiojkaaGreatDoorSXAN
import Derived.Test.YtfdkcbafpiojkaaGreatDoorSXAD
set_option linter.unusedVariables false
set_option linter.unusedSimpArgs false
namespace Go.Proofs.YtfdkcbafpiojkaaGreatDoor
open Go.RowKit
open Go.BigFrame
set_option maxRecDepth 100000
theorem undos_oneCell (zs:List UndoD):∀ u∈undoCells zs,u.oneCell' = true:=by
 intro u hu
 obtain ⟨z,_,hz⟩:=List.mem_flatMap.1 hu
 simp only [UndoD.cells,List.mem_cons,List.not_mem_nil,or_false] at hz
 rcases hz with rfl | rfl | rfl <;> rfl

set_option maxRecDepth 100000 in
set_option maxHeartbeats 1000000 in
theorem clone9Item_any (sa:Option Addr) (sc:Nat) (xs:List ItemD) (w:World) (h:itemK.At w (.slice sa xs.length sc) xs) (hN:Nice sa xs.length sc) (hl:xs.length≤1048576) :
  Calls Tryz.prog 119 #[.slice sa xs.length sc] w fun e w' => ∃ a c,e=.returned (.slice a xs.length c)∧itemK.Own w' (.slice a xs.length c) xs∧(∀ k∈blk (.slice a xs.length c),w.heap.size≤k)∧Below w.heap.size w w' := by
 rcases hN with ⟨ad,rfl⟩ | ⟨rfl,hn,rfl⟩
 ·obtain ⟨i0,hi,hz0,hz1,hz2⟩:=info_parts infoItem
  have hbA:Below w.heap.size w (w.alloc (.cells #[] 134)):=by go_grown
  have hr:=(h.below hbA)
  obtain ⟨_,_,e1,l1,_⟩:=hr
  simp only [Value.slice.injEq] at e1
  obtain ⟨rfl,_,rfl⟩:=e1
  have ho:=World.ownsRow_lit (e:=134) (size:=2) w #[] 0 (Nat.le_refl _) (by decide) rfl
  have hnil:∀ w,(binOp .eql 29 (.slice (some ad) xs.length sc) (.slice none 0 0)).run Tryz.prog w=.ok (.bool false) w:=fun w=>by first | rfl | kernel_rfl | (simp only [binOp];simp [Op.equal,Op.maxDepth,Op.equalIn,run_underlying Tryz.underlying29])
  have x1:([]:List ItemD).length + xs.length≤maxLen:=by unfold maxLen;rw [List.length_nil];omega
  have x2:(([]:List ItemD).length + xs.length) * 16≤140737488355328:=by rw [List.length_nil];omega
  have hsz:=hbA.size
  go_enter Tryz.func119,Tryz.ntmps119
  go_wp2_with (at_builtin;refine wpList_app_k (K:=itemK) _ rfl _ _ 29 rfl i0 (.agg #[.int .i64 0,.int .i64 0]) 16 Tryz.underlying29 hi hz0 hz1 hz2 rfl (by decide) w.heap.size _ [] rfl ho _ xs _ rfl l1 (items_oneCell xs) (Or.inl ⟨_,rfl⟩) x1 x2 hsz ?_)
  intro v' w2 hown hgrow
  have hb2:Below w.heap.size w w2:=hbA.grown hgrow hsz (fun k hk=>(ho.lt k hk).1)
  try simp only [List.nil_append] at hown
  obtain ⟨a2,c2,rfl⟩:=own_shape hown
  obtain ⟨o2,l2⟩:=own_zero hown
  clear hgrow ho l1 hown
  go_wp2
  go_ret
  exact ⟨a2,c2,rfl,⟨o2,fun _ _=>trivial⟩,l2,hb2⟩
 ·have hz:xs=[]:=List.eq_nil_of_length_eq_zero hn
  subst hz
  have hnil:∀ w,(binOp .eql 29 (.slice none 0 0) (.slice none 0 0)).run Tryz.prog w=.ok (.bool true) w:=fun w=>by first | rfl | kernel_rfl | (simp only [binOp];simp [Op.equal,Op.maxDepth,Op.equalIn,run_underlying Tryz.underlying29])
  rw [List.length_nil]
  go_enter Tryz.func119,Tryz.ntmps119
  go_wp2
  go_ret
  exact ⟨none,0,rfl,(Kind.own_nil _).1,fun k hk=>by simp [blk,Value.ownBlock] at hk,Below.refl _ _⟩

set_option maxRecDepth 100000 in
set_option maxHeartbeats 1000000 in
theorem clone9Undo_any (sa:Option Addr) (sc:Nat) (xs:List UndoD) (w:World) (h:undoK.At w (.slice sa xs.length sc) xs) (hN:Nice sa xs.length sc) (hl:xs.length≤1048576) :
  Calls Tryz.prog 121 #[.slice sa xs.length sc] w fun e w' => ∃ a c,e=.returned (.slice a xs.length c)∧undoK.Own w' (.slice a xs.length c) xs∧(∀ k∈blk (.slice a xs.length c),w.heap.size≤k)∧Below w.heap.size w w' := by
 rcases hN with ⟨ad,rfl⟩ | ⟨rfl,hn,rfl⟩
 ·obtain ⟨i0,hi,hz0,hz1,hz2⟩:=info_parts infoUndo
  have hbA:Below w.heap.size w (w.alloc (.cells #[] 185)):=by go_grown
  have hr:=(h.below hbA)
  obtain ⟨_,_,e1,l1,_⟩:=hr
  simp only [Value.slice.injEq] at e1
  obtain ⟨rfl,_,rfl⟩:=e1
  have ho:=World.ownsRow_lit (e:=185) (size:=3) w #[] 0 (Nat.le_refl _) (by decide) rfl
  have hnil:∀ w,(binOp .eql 118 (.slice (some ad) xs.length sc) (.slice none 0 0)).run Tryz.prog w=.ok (.bool false) w:=fun w=>by first | rfl | kernel_rfl | (simp only [binOp];simp [Op.equal,Op.maxDepth,Op.equalIn,run_underlying Tryz.underlying118])
  have x1:([]:List UndoD).length + xs.length≤maxLen:=by unfold maxLen;rw [List.length_nil];omega
  have x2:(([]:List UndoD).length + xs.length) * 24≤140737488355328:=by rw [List.length_nil];omega
  have hsz:=hbA.size
  go_enter Tryz.func121,Tryz.ntmps121
  go_wp2_with (at_builtin;refine wpList_app_k (K:=undoK) _ rfl _ _ 118 rfl i0 (.agg #[.int .i64 0,.bool false,.int .i64 0]) 24 Tryz.underlying118 hi hz0 hz1 hz2 rfl (by decide) w.heap.size _ [] rfl ho _ xs _ rfl l1 (undos_oneCell xs) (Or.inl ⟨_,rfl⟩) x1 x2 hsz ?_)
  intro v' w2 hown hgrow
  have hb2:Below w.heap.size w w2:=hbA.grown hgrow hsz (fun k hk=>(ho.lt k hk).1)
  try simp only [List.nil_append] at hown
  obtain ⟨a2,c2,rfl⟩:=own_shape hown
  obtain ⟨o2,l2⟩:=own_zero hown
  clear hgrow ho l1 hown
  go_wp2
  go_ret
  exact ⟨a2,c2,rfl,⟨o2,fun _ _=>trivial⟩,l2,hb2⟩
 ·have hz:xs=[]:=List.eq_nil_of_length_eq_zero hn
  subst hz
  have hnil:∀ w,(binOp .eql 118 (.slice none 0 0) (.slice none 0 0)).run Tryz.prog w=.ok (.bool true) w:=fun w=>by first | rfl | kernel_rfl | (simp only [binOp];simp [Op.equal,Op.maxDepth,Op.equalIn,run_underlying Tryz.underlying118])
  rw [List.length_nil]
  go_enter Tryz.func121,Tryz.ntmps121
  go_wp2
  go_ret
  exact ⟨none,0,rfl,(Kind.own_nil _).1,fun k hk=>by simp [blk,Value.ownBlock] at hk,Below.refl _ _⟩

set_option maxRecDepth 100000 in
set_option maxHeartbeats 4000000 in
theorem txnsN_any (w0:World) (v iv:Value) (ds:List DeedQ) (w:World) (h:(deedNK w0).At w v ds) (h00:Below w0.heap.size w0 w) (hne:∀ p∈ds,p.t.F=0) (hl:ds.length≤100) :
  Calls Tryz.prog 118 #[.agg #[v,iv]] w fun e w' => ∃ v' qs,e=.returned v' ∧ qs.map TxnQ.e=ds.map DeedQ.t∧txnK.Own w' v' qs∧(txnK.fp v' qs).Nodup∧(∀ k∈txnK.fp v' qs,w.heap.size≤k)∧Below w.heap.size w w' := by
 obtain ⟨a,cap,rfl⟩:=h.shape
 obtain ⟨i0,hi,hz0,hz1,hz2⟩:=info_parts infoTxn
 have hbX:Below w.heap.size w (w.alloc (.cells #[.slice a ds.length cap,iv] 98)):=by go_grown
 have BX:=Blk.new w 98 #[.slice a ds.length cap,iv]
 obtain ⟨hn1,hn2⟩:=Kind.own_nil (K:=txnK) (w.alloc (.cells #[.slice a ds.length cap,iv] 98))
 have HN0:Hid ((txnK.fp (.slice none 0 0) ([]:List TxnQ)).Nodup∧∀ k∈txnK.fp (.slice none 0 0) ([]:List TxnQ),w.heap.size≤k):=by
  rw [hn2]
  exact ⟨by simp,by simp⟩
 clear hn2
 have x0:=BX.cell 0 _ rfl
 have hli:(ds.length:Int)≤100:=by omega
 go_enter Tryz.func118,Tryz.ntmps118
 go_wp2
 clear x0 BX
 generalize w.alloc (.cells #[.slice a ds.length cap,iv] 98)=WX at *
 go_loopw [3,9] (fun v j wr=>∃ (k:Nat) (qs:List TxnQ),k≤ds.length∧j=.int .i64 k∧Hid (qs.map TxnQ.e=(ds.take k).map DeedQ.t)∧txnK.Own wr v qs∧Hid ((txnK.fp v qs).Nodup∧∀ k∈txnK.fp v qs,w.heap.size≤k)∧Below w.heap.size w wr) (fun _ j _=>ds.length - (intOf j).toNat)
 case atStart=>exact ⟨0,[],Nat.zero_le _,rfl,(rfl:_=_),hn1,HN0,hbX⟩
 case round=>
  clear HN0 hn1 hbX
  obtain ⟨k,qs,hk,rfl,HE,hO,HN,hb⟩:=hrel
  obtain ⟨sa,sc,rfl⟩:=hO.shape
  have HQL:Hid (qs.length=k):=by
   have:=congrArg List.length HE.out
   rw [List.length_map,List.length_map,List.length_take] at this
   show qs.length=k
   omega
  by_cases hlt:k < ds.length
  ·obtain ⟨b,off,rfl,hbs,hc,hrd⟩:=(h.below hb).cell (by show 0 < 6;decide) k hlt
   have hc' : ∀ j x,((deedNK w0).cells ds[k])[j]? = some x→wr.cell? ⟨b,off + k * 6 + j,none⟩=some x:=hc
   have c0:=hc' 0 (.int .i64 ds[k].i) rfl
   have c1:=hc' 1 (.int .i64 ds[k].s) rfl
   have c2:=hc' 2 (.int .i64 ds[k].q) rfl
   have c3:=hc' 3 (ds[k].va) rfl
   have c4:=hc' 4 (.int .i64 ds[k].code) rfl
   have c5:=hc' 5 (.int .i64 ds[k].val) rfl
   skip
   have hF0:=hne _ (List.getElem_mem hlt)
   have HPE:Hid (∀ p' : TxnQ,p'.e=DeedQ.t ds[k]→(qs ++ [p']).map TxnQ.e=(ds.take (k + 1)).map DeedQ.t):=fun p' hp' => by
    rw [List.take_succ_eq_append_getElem hlt,List.map_append,List.map_append,HE.out,List.map_singleton,List.map_singleton,hp']
   clear hc hc'
   generalize ds[k]=p at *
   obtain ⟨i,s,q,va,acts,code,val,lv,us⟩:=p
   replace hrd:actK.At w0 va acts:=hrd
   skip
   have hz:=(acts_of_F (show txnF i s q acts=0 from hF0)).1
   have hpos:0 < acts.length:=by omega
   replace hrd:=hrd.below (h00.trans (hb.mono h00.size))
   obtain ⟨aa,ac,rfl⟩:=hrd.shape
   dsimp only [DeedQ.t] at c0 c1 c2 c3 c4 c5 HPE
   obtain ⟨ab,ao,haa⟩:∃ ab ao,aa=some ⟨ab,ao,none⟩:=by
    rcases (actK_at hrd).2 with h0 | ⟨ab,ao,e,_⟩
    ·have:=actCells_length acts
     rw [h0] at this
     simp at this
     omega
    ·exact ⟨ab,ao,e⟩
   subst haa
   have hbY:Below wr.heap.size wr (wr.alloc (.cells #[.int .i64 i,.int .i64 s,.int .i64 q,.slice (some ⟨ab,ao,none⟩) acts.length ac,.int .i64 code,.int .i64 val] 222)):=by go_grown
   have BY:=Blk.new wr 222 #[.int .i64 i,.int .i64 s,.int .i64 q,.slice (some ⟨ab,ao,none⟩) acts.length ac,.int .i64 code,.int .i64 val]
   have hcl:=cloneTxn_any i s q ab ao ac acts _ ((actK_at hrd).2.below hbY) hpos (by omega)
   rw [Nat.add_zero] at c0
   replace hO:=hO.below hbY
   replace hb:=hb.trans (hbY.mono hb.size)
   have y0:=BY.cell 0 _ rfl
   have y1:=BY.cell 1 _ rfl
   have y2:=BY.cell 2 _ rfl
   have y3:=BY.cell 3 _ rfl
   clear HE hbY
   go_wp2_with fail
   clear c0 c1 c2 c3 c4 c5 y0 y1 y2 y3 BY
   generalize wr.alloc (.cells #[.int .i64 i,.int .i64 s,.int .i64 q,.slice (some ⟨ab,ao,none⟩) acts.length ac,.int .i64 code,.int .i64 val] 222)=Y at *
   have hYs:w.heap.size≤Y.heap.size:=hb.size
   refine hcl.mono ?_
   rintro e w2 ⟨a2,c2,rfl,ho2,hb2⟩
   have HLT:=hO.lt
   replace hO:=hO.below hb2
   replace hb:=hb.trans (hb2.mono hb.size)
   obtain ⟨o2,hk2⟩:=own_zero ho2
   have hP:txnK.own w2 ⟨i,s,q,.slice a2 acts.length c2,acts⟩:=⟨o2,fun _ _=>trivial⟩
   have hPlo:∀ x∈txnK.foot ⟨i,s,q,.slice a2 acts.length c2,acts⟩,Y.heap.size≤x:=fun x hx=>hk2 x (by rw [← actK_fp (.slice a2 acts.length c2) acts];exact hx)
   have hPn:(txnK.foot ⟨i,s,q,.slice a2 acts.length c2,acts⟩).Nodup:=by
    show (actK.fp _ _).Nodup
    rw [actK_fp];exact blk_nodup _
   have hbA:Below w2.heap.size w2 (w2.alloc (.cells #[.int .i64 i,.int .i64 s,.int .i64 q,.slice a2 acts.length c2] 49)):=by go_grown
   have hOA:=hO.below hbA
   have hPA:=txnK.own_out (F:=[]) hP (Out.of_below hbA) (fun _ _=>by simp)
   have hbB:=hb.trans (hbA.mono hb.size)
   clear hcl ho2 hO hP hk2
   have hrow0:=hOA.1
   go_wp2_with (at_builtin;refine wpList_append_own_at _ rfl _ _ 28 rfl 0 49 i0 (.agg #[.int .i64 0,.int .i64 0,.int .i64 0,.slice none 0 0]) 4 48 Tryz.underlying28 hi hz0 hz1 hz2 rfl (by decide) _ qs.length (txnK.row qs) rfl hrow0 ⟨w2.heap.size,0,none⟩ 1 1 [.int .i64 i,.int .i64 s,.int .i64 q,.slice a2 acts.length c2] rfl rfl ?c1 ?c2 ?c3 ?c4 ?c5 ?_)
   all_goals try (case c1=>intro j u hj;match j,hj with | 0,hj=>simp at hj;subst hj;simp [Addr.add] | 1,hj=>simp at hj;subst hj;simp [Addr.add] | 2,hj=>simp at hj;subst hj;simp [Addr.add] | 3,hj=>simp at hj;subst hj;simp [Addr.add])
   all_goals try (case c2=>intro u hu;simp at hu;rcases hu with rfl | rfl | rfl | rfl <;> rfl)
   all_goals try (case c3=>have:=HQL.out;unfold maxLen;omega)
   all_goals try (case c4=>have:=HQL.out;omega)
   all_goals try (case c5=>first | omega | simp)
   intro v' w5 hown hgrow hnil hat
   clear hnil hrow0
   rw [show w2.heap.size + 1=(w2.alloc (.cells #[.int .i64 i,.int .i64 s,.int .i64 q,.slice a2 acts.length c2] 49)).heap.size from (World.size_alloc _ _).symm] at hat
   generalize hwA:w2.alloc (.cells #[.int .i64 i,.int .i64 s,.int .i64 q,.slice a2 acts.length c2] 49)=WA at *
   clear hwA
   have hsz:Y.heap.size≤WA.heap.size:=by have:=hb2.size;have:=hbA.size;omega
   obtain ⟨hO5,hn5,hlo5,hou⟩:=hOA.snoc HN.out.1 HN.out.2 hPA hPn (fun x hx hx' => by have:=HLT x hx';have:=hPlo x hx;omega) (fun x hx=>by have:=hPlo x hx;omega) hbB.size hown hgrow hat
   have hb5:Below w.heap.size w w5:=Out.keep hbB hou hbB.size (fun x hx=>HN.out.2 x (by simp only [Kind.fp,List.mem_append];exact Or.inl hx))
   have HE5:Hid ((qs ++ [(⟨i,s,q,.slice a2 acts.length c2,acts⟩:TxnQ)]).map TxnQ.e=(ds.take (k + 1)).map DeedQ.t):=HPE.out _ rfl
   have HN5:Hid ((txnK.fp v' (qs ++ [(⟨i,s,q,.slice a2 acts.length c2,acts⟩:TxnQ)])).Nodup∧∀ k∈txnK.fp v' (qs ++ [(⟨i,s,q,.slice a2 acts.length c2,acts⟩:TxnQ)]),w.heap.size≤k):=⟨hn5,hlo5⟩
   clear HPE HN HLT hPlo hPn hPA hOA hbB hown hgrow hat hou hn5 hlo5 hrd hb hbA hb2 hpos
   go_wp2
   go_roundw
   case rel=>exact ⟨k + 1,_,by omega,by go_num,HE5,hO5,HN5,hb5⟩
   case measure=>simp [intOf];omega
  ·have hkl:k=ds.length:=by omega
   subst hkl
   have hE:=HE.out
   rw [List.take_length] at hE
   clear HE
   go_wp2
   go_ret
   exact ⟨_,qs,rfl,hE,hO,HN.out.1,HN.out.2,hb⟩

set_option maxRecDepth 100000 in
set_option maxHeartbeats 4000000 in
theorem txnsU_any (w0:World) (v iv:Value) (ds:List DeedQ) (w:World) (h:(deedUK w0).At w v ds) (h00:Below w0.heap.size w0 w) (hne:∀ p∈ds,p.t.F=0) (hl:ds.length≤100) :
  Calls Tryz.prog 120 #[.agg #[v,iv]] w fun e w' => ∃ v' qs,e=.returned v' ∧ qs.map TxnQ.e=ds.map DeedQ.t∧txnK.Own w' v' qs∧(txnK.fp v' qs).Nodup∧(∀ k∈txnK.fp v' qs,w.heap.size≤k)∧Below w.heap.size w w' := by
 obtain ⟨a,cap,rfl⟩:=h.shape
 obtain ⟨i0,hi,hz0,hz1,hz2⟩:=info_parts infoTxn
 have hbX:Below w.heap.size w (w.alloc (.cells #[.slice a ds.length cap,iv] 101)):=by go_grown
 have BX:=Blk.new w 101 #[.slice a ds.length cap,iv]
 obtain ⟨hn1,hn2⟩:=Kind.own_nil (K:=txnK) (w.alloc (.cells #[.slice a ds.length cap,iv] 101))
 have HN0:Hid ((txnK.fp (.slice none 0 0) ([]:List TxnQ)).Nodup∧∀ k∈txnK.fp (.slice none 0 0) ([]:List TxnQ),w.heap.size≤k):=by
  rw [hn2]
  exact ⟨by simp,by simp⟩
 clear hn2
 have x0:=BX.cell 0 _ rfl
 have hli:(ds.length:Int)≤100:=by omega
 go_enter Tryz.func120,Tryz.ntmps120
 go_wp2
 clear x0 BX
 generalize w.alloc (.cells #[.slice a ds.length cap,iv] 101)=WX at *
 go_loopw [3,9] (fun v j wr=>∃ (k:Nat) (qs:List TxnQ),k≤ds.length∧j=.int .i64 k∧Hid (qs.map TxnQ.e=(ds.take k).map DeedQ.t)∧txnK.Own wr v qs∧Hid ((txnK.fp v qs).Nodup∧∀ k∈txnK.fp v qs,w.heap.size≤k)∧Below w.heap.size w wr) (fun _ j _=>ds.length - (intOf j).toNat)
 case atStart=>exact ⟨0,[],Nat.zero_le _,rfl,(rfl:_=_),hn1,HN0,hbX⟩
 case round=>
  clear HN0 hn1 hbX
  obtain ⟨k,qs,hk,rfl,HE,hO,HN,hb⟩:=hrel
  obtain ⟨sa,sc,rfl⟩:=hO.shape
  have HQL:Hid (qs.length=k):=by
   have:=congrArg List.length HE.out
   rw [List.length_map,List.length_map,List.length_take] at this
   show qs.length=k
   omega
  by_cases hlt:k < ds.length
  ·obtain ⟨b,off,rfl,hbs,hc,hrd⟩:=(h.below hb).cell (by show 0 < 7;decide) k hlt
   have hc' : ∀ j x,((deedUK w0).cells ds[k])[j]? = some x→wr.cell? ⟨b,off + k * 7 + j,none⟩=some x:=hc
   have c0:=hc' 0 (.int .i64 ds[k].i) rfl
   have c1:=hc' 1 (.int .i64 ds[k].s) rfl
   have c2:=hc' 2 (.int .i64 ds[k].q) rfl
   have c3:=hc' 3 (ds[k].va) rfl
   have c4:=hc' 4 (.int .i64 ds[k].code) rfl
   have c5:=hc' 5 (.int .i64 ds[k].val) rfl
   have c6:=hc' 6 (ds[k].lv) rfl
   have hF0:=hne _ (List.getElem_mem hlt)
   have HPE:Hid (∀ p' : TxnQ,p'.e=DeedQ.t ds[k]→(qs ++ [p']).map TxnQ.e=(ds.take (k + 1)).map DeedQ.t):=fun p' hp' => by
    rw [List.take_succ_eq_append_getElem hlt,List.map_append,List.map_append,HE.out,List.map_singleton,List.map_singleton,hp']
   clear hc hc'
   generalize ds[k]=p at *
   obtain ⟨i,s,q,va,acts,code,val,lv,us⟩:=p
   obtain ⟨hrd,hrl⟩:actK.At w0 va acts∧undoK.At wr lv us:=hrd
   obtain ⟨la,lc,rfl⟩:=hrl.shape
   have hz:=(acts_of_F (show txnF i s q acts=0 from hF0)).1
   have hpos:0 < acts.length:=by omega
   replace hrd:=hrd.below (h00.trans (hb.mono h00.size))
   obtain ⟨aa,ac,rfl⟩:=hrd.shape
   dsimp only [DeedQ.t] at c0 c1 c2 c3 c4 c5 HPE
   obtain ⟨ab,ao,haa⟩:∃ ab ao,aa=some ⟨ab,ao,none⟩:=by
    rcases (actK_at hrd).2 with h0 | ⟨ab,ao,e,_⟩
    ·have:=actCells_length acts
     rw [h0] at this
     simp at this
     omega
    ·exact ⟨ab,ao,e⟩
   subst haa
   have hbY:Below wr.heap.size wr (wr.alloc (.cells #[.int .i64 i,.int .i64 s,.int .i64 q,.slice (some ⟨ab,ao,none⟩) acts.length ac,.int .i64 code,.int .i64 val,.slice la us.length lc] 120)):=by go_grown
   have BY:=Blk.new wr 120 #[.int .i64 i,.int .i64 s,.int .i64 q,.slice (some ⟨ab,ao,none⟩) acts.length ac,.int .i64 code,.int .i64 val,.slice la us.length lc]
   have hcl:=cloneTxn_any i s q ab ao ac acts _ ((actK_at hrd).2.below hbY) hpos (by omega)
   rw [Nat.add_zero] at c0
   replace hO:=hO.below hbY
   replace hb:=hb.trans (hbY.mono hb.size)
   have y0:=BY.cell 0 _ rfl
   have y1:=BY.cell 1 _ rfl
   have y2:=BY.cell 2 _ rfl
   have y3:=BY.cell 3 _ rfl
   clear HE hbY
   go_wp2_with fail
   clear c0 c1 c2 c3 c4 c5 c6 y0 y1 y2 y3 BY
   generalize wr.alloc (.cells #[.int .i64 i,.int .i64 s,.int .i64 q,.slice (some ⟨ab,ao,none⟩) acts.length ac,.int .i64 code,.int .i64 val,.slice la us.length lc] 120)=Y at *
   have hYs:w.heap.size≤Y.heap.size:=hb.size
   refine hcl.mono ?_
   rintro e w2 ⟨a2,c2,rfl,ho2,hb2⟩
   have HLT:=hO.lt
   replace hO:=hO.below hb2
   replace hb:=hb.trans (hb2.mono hb.size)
   obtain ⟨o2,hk2⟩:=own_zero ho2
   have hP:txnK.own w2 ⟨i,s,q,.slice a2 acts.length c2,acts⟩:=⟨o2,fun _ _=>trivial⟩
   have hPlo:∀ x∈txnK.foot ⟨i,s,q,.slice a2 acts.length c2,acts⟩,Y.heap.size≤x:=fun x hx=>hk2 x (by rw [← actK_fp (.slice a2 acts.length c2) acts];exact hx)
   have hPn:(txnK.foot ⟨i,s,q,.slice a2 acts.length c2,acts⟩).Nodup:=by
    show (actK.fp _ _).Nodup
    rw [actK_fp];exact blk_nodup _
   have hbA:Below w2.heap.size w2 (w2.alloc (.cells #[.int .i64 i,.int .i64 s,.int .i64 q,.slice a2 acts.length c2] 49)):=by go_grown
   have hOA:=hO.below hbA
   have hPA:=txnK.own_out (F:=[]) hP (Out.of_below hbA) (fun _ _=>by simp)
   have hbB:=hb.trans (hbA.mono hb.size)
   clear hcl ho2 hO hP hk2
   have hrow0:=hOA.1
   go_wp2_with (at_builtin;refine wpList_append_own_at _ rfl _ _ 28 rfl 0 49 i0 (.agg #[.int .i64 0,.int .i64 0,.int .i64 0,.slice none 0 0]) 4 48 Tryz.underlying28 hi hz0 hz1 hz2 rfl (by decide) _ qs.length (txnK.row qs) rfl hrow0 ⟨w2.heap.size,0,none⟩ 1 1 [.int .i64 i,.int .i64 s,.int .i64 q,.slice a2 acts.length c2] rfl rfl ?c1 ?c2 ?c3 ?c4 ?c5 ?_)
   all_goals try (case c1=>intro j u hj;match j,hj with | 0,hj=>simp at hj;subst hj;simp [Addr.add] | 1,hj=>simp at hj;subst hj;simp [Addr.add] | 2,hj=>simp at hj;subst hj;simp [Addr.add] | 3,hj=>simp at hj;subst hj;simp [Addr.add])
   all_goals try (case c2=>intro u hu;simp at hu;rcases hu with rfl | rfl | rfl | rfl <;> rfl)
   all_goals try (case c3=>have:=HQL.out;unfold maxLen;omega)
   all_goals try (case c4=>have:=HQL.out;omega)
   all_goals try (case c5=>first | omega | simp)
   intro v' w5 hown hgrow hnil hat
   clear hnil hrow0
   rw [show w2.heap.size + 1=(w2.alloc (.cells #[.int .i64 i,.int .i64 s,.int .i64 q,.slice a2 acts.length c2] 49)).heap.size from (World.size_alloc _ _).symm] at hat
   generalize hwA:w2.alloc (.cells #[.int .i64 i,.int .i64 s,.int .i64 q,.slice a2 acts.length c2] 49)=WA at *
   clear hwA
   have hsz:Y.heap.size≤WA.heap.size:=by have:=hb2.size;have:=hbA.size;omega
   obtain ⟨hO5,hn5,hlo5,hou⟩:=hOA.snoc HN.out.1 HN.out.2 hPA hPn (fun x hx hx' => by have:=HLT x hx';have:=hPlo x hx;omega) (fun x hx=>by have:=hPlo x hx;omega) hbB.size hown hgrow hat
   have hb5:Below w.heap.size w w5:=Out.keep hbB hou hbB.size (fun x hx=>HN.out.2 x (by simp only [Kind.fp,List.mem_append];exact Or.inl hx))
   have HE5:Hid ((qs ++ [(⟨i,s,q,.slice a2 acts.length c2,acts⟩:TxnQ)]).map TxnQ.e=(ds.take (k + 1)).map DeedQ.t):=HPE.out _ rfl
   have HN5:Hid ((txnK.fp v' (qs ++ [(⟨i,s,q,.slice a2 acts.length c2,acts⟩:TxnQ)])).Nodup∧∀ k∈txnK.fp v' (qs ++ [(⟨i,s,q,.slice a2 acts.length c2,acts⟩:TxnQ)]),w.heap.size≤k):=⟨hn5,hlo5⟩
   clear HPE HN HLT hPlo hPn hPA hOA hbB hown hgrow hat hou hn5 hlo5 hrd hb hbA hb2 hpos
   go_wp2
   go_roundw
   case rel=>exact ⟨k + 1,_,by omega,by go_num,HE5,hO5,HN5,hb5⟩
   case measure=>simp [intOf];omega
  ·have hkl:k=ds.length:=by omega
   subst hkl
   have hE:=HE.out
   rw [List.take_length] at hE
   clear HE
   go_wp2
   go_ret
   exact ⟨_,qs,rfl,hE,hO,HN.out.1,HN.out.2,hb⟩

end Go.Proofs.YtfdkcbafpiojkaaGreatDoor
namespace Go.Proofs.YtfdkcbafpiojkaaGreatDoor
open Go.RowKit
open Go.BigFrame
set_option maxRecDepth 100000
theorem szUs_k (p:USQ) (c:Int) (w:World) (h:ussK.rd w p) (hn:USQ.wf p) (h0:0≤c) (h1:c≤1048576) :
  Calls Tryz.prog 110 #[p.va,.int .i64 c] w fun e w' => ∃ r:Int,e=.returned (.int .i64 r)∧(¬ r < 0→(USQ.n p:Int) + r=c)∧Below w.heap.size w w' := szUndos_k p.va p.us c w h hn h0 h1

theorem eqUs_k (p p' : USQ) (w:World) (h:ussK.rd w p) (h' : ussK.rd w p') (he:p.e=p'.e) (hl:USQ.n p≤1048576) :
  Calls Tryz.prog 123 #[p.va,p'.va] w fun e w' => e=.returned (.bool true)∧Below w.heap.size w w' := by
 obtain ⟨va,us⟩:=p
 obtain ⟨va',us'⟩:=p'
 have he:us=us' := he
 subst he
 exact eqUndos_k va va' us w h h' hl

theorem toUs_k (p:USQ) (w:World) (h:ussK.rd w p) (hl:USQ.n p≤1048576) :
  Calls Tryz.prog 114 #[p.va] w fun e w' => ∃ p' : USQ,e=.returned p'.va∧p'.e=p.e∧ussK.own w' p' ∧ (ussK.foot p').Nodup∧(∀ k∈ussK.foot p',w.heap.size≤k)∧Below w.heap.size w w' := by
 refine (toUndos_k p.va p.us w h hl).mono ?_
 rintro e w' ⟨v',rfl,ho,hn,hg,hb⟩
 exact ⟨⟨v',p.us⟩,rfl,rfl,ho,hn,hg,hb⟩

set_option maxHeartbeats 1000000 in
theorem szUss_k (v:Value) (ps:List USQ) (c:Int) (w:World) (h:ussK.At w v ps) (hn:ps.length≤9223372036854775807) (hn1:∀ p∈ps,USQ.wf p) (h0:0≤c) (h1:c≤1048576) :
  Calls Tryz.prog 51 #[v,.int .i64 c] w fun e w' => ∃ r:Int,e=.returned (.int .i64 r)∧(¬ r < 0→((ps.length + nmL USQ.n ps:Nat):Int) + r=c)∧Below w.heap.size w w' := by
 obtain ⟨a,cap,rfl⟩:=h.shape
 by_cases hbig:c - ps.length < 0
 ·go_enter Tryz.func51,Tryz.ntmps51
  go_wp2
  go_ret
  exact ⟨_,rfl,fun h=>by omega,Below.refl _ _⟩
 ·go_enter Tryz.func51,Tryz.ntmps51
  go_wp2
  go_loopw [1,5] (fun l i wr=>∃ (k:Nat) (x:Int),k≤ps.length∧i=.int .i64 k∧l=.int .i64 x∧0≤x∧x≤1048576∧Hid (ps.length + nmL USQ.n (ps.take k) + x=c)∧Below w.heap.size w wr) (fun _ i _=>ps.length - (intOf i).toNat)
  case atStart=>exact ⟨0,c - ps.length,Nat.zero_le _,rfl,by go_num,by omega,by omega,show _=_ by simp [nmL];omega,Below.refl _ _⟩
  case round=>
   obtain ⟨k,x,hk,rfl,rfl,hx0,hx1,HS,hb⟩:=hrel
   by_cases hlt:k < ps.length
   ·obtain ⟨b,off,rfl,hbs,hc,hrd⟩:=(h.below hb).cell (by decide) k hlt
    have hc' : ∀ j x,(ussK.cells ps[k])[j]? = some x→wr.cell? ⟨b,off + k + j,none⟩=some x:=fun j x hx=>by have:=hc j x hx;rwa [show k * ussK.size=k from Nat.mul_one k] at this
    have c0:=hc' 0 (ps[k].va) rfl
    have hs:=nmL_succ USQ.n ps k hlt
    have HN:=hn1 _ (List.getElem_mem hlt)
    have HS' : Hid (∀ y:Int,(USQ.n ps[k]:Int) + y=x→ps.length + nmL USQ.n (ps.take (k + 1)) + y=c):=by
     intro y hy
     have:=HS.out
     omega
    clear HS hs hc hc'
    generalize ps[k]=p at *
    have hsz:=szUs_k p x wr hrd HN hx0 hx1
    generalize USQ.n p=m at *
    rw [Nat.add_zero] at c0
    go_wp2_with fail
    refine hsz.mono ?_
    rintro e w2 ⟨r,rfl,hr,hb2⟩
    replace hb:=hb.trans (hb2.mono hb.size)
    clear hb2 hsz c0
    by_cases hneg:r < 0
    ·go_wp2
     go_ret
     exact ⟨_,rfl,fun h=>by omega,hb⟩
    ·have hrx:=hr (by omega)
     have HR:Hid (ps.length + nmL USQ.n (ps.take (k + 1)) + r=c):=HS'.out r hrx
     have hr1:r≤1048576:=by omega
     clear HS' hr hrx
     go_wp2
     go_roundw
     case rel=>exact ⟨k + 1,r,by omega,by go_num,rfl,by omega,hr1,HR.out,hb⟩
     case measure=>simp [intOf];omega
   ·have hkl:k=ps.length:=by omega
    subst hkl
    rw [List.take_length] at HS
    go_wp2
    go_ret
    exact ⟨_,rfl,fun _=>by have:=HS.out;omega,hb⟩

set_option maxHeartbeats 2000000 in
theorem eqUss_k (v v' : Value) (ps qs:List USQ) (w:World) (h:ussK.At w v ps) (h' : ussK.At w v' qs) (he:ps.map USQ.e=qs.map USQ.e) (hl:(ps.length + nmL USQ.n ps)≤1048576) :
  Calls Tryz.prog 60 #[v,v'] w fun e w' => e=.returned (.bool true)∧Below w.heap.size w w' := by
 obtain ⟨a,cap,rfl⟩:=h.shape
 obtain ⟨a',cap',rfl⟩:=h'.shape
 have hlen:qs.length=ps.length:=by
  have:=congrArg List.length he
  simpa using this.symm
 rw [hlen] at h' ⊢
 have HL:Hid (qs.length=ps.length):=hlen
 clear hlen
 go_enter Tryz.func60,Tryz.ntmps60
 go_wp2
 go_loopw [5] (fun i wr=>∃ k:Nat,k≤ps.length∧i=.int .i64 k∧Below w.heap.size w wr) (fun i _=>ps.length - (intOf i).toNat)
 case atStart=>exact ⟨0,Nat.zero_le _,rfl,Below.refl _ _⟩
 case round=>
  obtain ⟨k,hk,rfl,hb⟩:=hrel
  by_cases hlt:k < ps.length
  ·have hlt' : k < qs.length:=by have:=HL.out;omega
   obtain ⟨b,off,rfl,hbs,hc,hrd⟩:=(h.below hb).cell (by decide) k hlt
   obtain ⟨b',off',rfl,hbs',hd,hrd'⟩:=(h'.below hb).cell (by decide) k hlt'
   have hc' : ∀ j x,(ussK.cells ps[k])[j]? = some x→wr.cell? ⟨b,off + k + j,none⟩=some x:=fun j x hx=>by have:=hc j x hx;rwa [show k * ussK.size=k from Nat.mul_one k] at this
   have hd' : ∀ j x,(ussK.cells qs[k])[j]? = some x→wr.cell? ⟨b',off' + k + j,none⟩=some x:=fun j x hx=>by have:=hd j x hx;rwa [show k * ussK.size=k from Nat.mul_one k] at this
   have c0:=hc' 0 (ps[k].va) rfl
   have d0:=hd' 0 (qs[k].va) rfl
   have hee:USQ.e ps[k]=USQ.e qs[k]:=by
    have:=congrArg (·[k]?) he
    simpa [hlt,hlt'] using this
   have hzl:=nm_le USQ.n ps k hlt
   clear hc hc' hd hd'
   generalize ps[k]=p at *
   generalize qs[k]=p' at *
   have hEQ:=fun w h1 h2=>eqUs_k p p' w h1 h2 hee (show USQ.n p≤1048576 by omega)
   clear hee hzl
   rw [Nat.add_zero] at c0 d0
   have k0:=lat_cell c0
   have l0:=lat_cell d0
   clear c0 d0
   have hW:Below wr.heap.size wr wr.drew:=(Below.refl _ _).drew
   have hne:Nonempty (Lat wr):=⟨⟨wr,Below.refl _ _⟩⟩
   go_wp2_with fail
   refine text_begin (S:=fun w' => ∃ u:Lat wr,w' = u.val) (by kernel_rfl) ?_
   refine seg_range [(0,8)] 2 (by kernel_rfl) (by kernel_rfl) (by kernel_rfl) (by kernel_rfl) (by kernel_rfl) ⟨⟨_,hW⟩,rfl⟩ ?_
   simp only [pickR,List.toList_toArray,List.flatMap_cons,List.flatMap_nil,List.drop_succ_cons,List.drop_zero,List.take_succ_cons,List.take_zero,List.cons_append,List.nil_append,List.append_nil]
   repeat go_big_quiet_step (fail)
   refine wpQuiet_nil ?_
   refine call_at 8 (some 25) 123 #[p.va,p'.va] 1 (by kernel_rfl) (by kernel_rfl) (by kernel_rfl) (by kernel_rfl) (by kernel_rfl) ?_
   refine (hEQ _ (ussK.rd_below hrd hW) (ussK.rd_below hrd' hW)).mono ?_
   rintro e w2 ⟨rfl,hb2⟩
   replace hW:=hW.trans (hb2.mono hW.size)
   clear hb2
   refine ⟨_,rfl,⟨⟨_,hW⟩,rfl⟩,?_⟩
   simp only [Act.put,List.setIfInBounds_toArray,List.set_cons_zero,List.set_cons_succ]
   refine seg_range [(9,1)] 0 (by kernel_rfl) (by kernel_rfl) (by kernel_rfl) (by kernel_rfl) (by kernel_rfl) ⟨⟨_,hW⟩,rfl⟩ ?_
   simp only [pickR,List.toList_toArray,List.flatMap_cons,List.flatMap_nil,List.drop_succ_cons,List.drop_zero,List.take_succ_cons,List.take_zero,List.cons_append,List.nil_append,List.append_nil]
   repeat go_big_quiet_step (fail)
   refine wpQuiet_nil ?_
   refine text_end (by kernel_rfl) ?_
   replace hb:=hb.trans (hW.mono hb.size)
   clear k0 l0 hW hne hrd hrd' hEQ
   go_wp2
   go_roundw
   case rel=>exact ⟨k + 1,by omega,by go_num,hb⟩
   case measure=>simp [intOf];omega
  ·go_wp2
   go_ret
   exact ⟨rfl,hb⟩

set_option maxHeartbeats 2000000 in
theorem toUss_k (v:Value) (ps:List USQ) (w:World) (h:ussK.At w v ps) (hl:(ps.length + nmL USQ.n ps)≤1048576) :
  Calls Tryz.prog 56 #[v] w fun e w' => ∃ v' qs,e=.returned v' ∧ qs.map USQ.e=ps.map USQ.e∧ussK.Own w' v' qs∧(ussK.fp v' qs).Nodup∧(∀ k∈ussK.fp v' qs,w.heap.size≤k)∧Below w.heap.size w w' := by
 obtain ⟨a,cap,rfl⟩:=h.shape
 obtain ⟨i0,hi,hz0,hz1,hz2⟩:=info_parts infoUndos9
 have hbytes:i0.bytes * ps.length≤281474976710656:=by rw [hz2];omega
 have hmax:ps.length≤maxLen:=by unfold maxLen;omega
 go_enter Tryz.func56,Tryz.ntmps56
 go_wp2_with (at_make;refine wpList_make_full _ rfl _ _ 30 rfl w.heap.size 118 i0 (.slice none 0 0) 1 Tryz.underlying30 hi hz0 hz1 _ _ _ _ ps.length rfl rfl rfl rfl hbytes hmax (Nat.le_refl _) ?_)
 intro w1 hown hgrow
 have hb1:Below w.heap.size w w1:=(Below.refl _ _).grown hgrow (Nat.le_refl _) (by simp)
 have hO:ussK.Own w1 (.slice (some ⟨w.heap.size,0,none⟩) ps.length ps.length) (List.replicate ps.length (⟨.slice none 0 0,[]⟩:USQ)):=by
  refine ⟨?_,fun p hp=>?_⟩
  ·rw [List.length_replicate,← made_row (⟨.slice none 0 0,[]⟩:USQ) _ (by decide)]
   rw [show ps.length * ussK.size=ps.length from Nat.mul_one _]
   exact own_base hown (Nat.zero_le _)
  ·rw [(List.mem_replicate.1 hp).2]
   exact ⟨World.ownsRow_nil _ _ _ _,fun p hp=>by simp at hp⟩
 have hF:ussK.fp (.slice (some ⟨w.heap.size,0,none⟩) ps.length ps.length) (List.replicate ps.length (⟨.slice none 0 0,[]⟩:USQ))=[w.heap.size]:=fp_new rfl
 have HN:Hid ((ussK.fp (.slice (some ⟨w.heap.size,0,none⟩) ps.length ps.length) (List.replicate ps.length (⟨.slice none 0 0,[]⟩:USQ))).Nodup):=by rw [hF];show List.Nodup _;simp
 have HG:Hid (∀ x∈ussK.fp (.slice (some ⟨w.heap.size,0,none⟩) ps.length ps.length) (List.replicate ps.length (⟨.slice none 0 0,[]⟩:USQ)),w.heap.size≤x):=by rw [hF];intro x hx;simp at hx;omega
 have HZ:Hid (∀ j (hj:j < (List.replicate ps.length (⟨.slice none 0 0,[]⟩:USQ)).length),0≤j→(List.replicate ps.length (⟨.slice none 0 0,[]⟩:USQ))[j]=(⟨.slice none 0 0,[]⟩:USQ)):=fun j hj _=>by simp
 have hql:(List.replicate ps.length (⟨.slice none 0 0,[]⟩:USQ)).length=ps.length:=by simp
 clear hown hgrow hF
 generalize List.replicate ps.length (⟨.slice none 0 0,[]⟩:USQ)=qs0 at *
 have HE:Hid ((qs0.take 0).map USQ.e=(ps.take 0).map USQ.e):=show _=_ by simp
 go_wp2
 go_loopw [4] (fun i wr=>∃ (k:Nat) (qs:List USQ),k≤ps.length∧i=.int .i64 k∧Hid (qs.length=ps.length)∧Hid ((qs.take k).map USQ.e=(ps.take k).map USQ.e)∧Hid (∀ j (hj:j < qs.length),k≤j→qs[j]=(⟨.slice none 0 0,[]⟩:USQ))∧ussK.Own wr (.slice (some ⟨w.heap.size,0,none⟩) ps.length ps.length) qs ∧
  Hid ((ussK.fp (.slice (some ⟨w.heap.size,0,none⟩) ps.length ps.length) qs).Nodup)∧Hid (∀ x∈ussK.fp (.slice (some ⟨w.heap.size,0,none⟩) ps.length ps.length) qs,w.heap.size≤x)∧Below w.heap.size w wr) (fun i _=>ps.length - (intOf i).toNat)
 case atStart=>exact ⟨0,qs0,Nat.zero_le _,rfl,hql,HE,HZ,hO,HN,HG,hb1⟩
 case round=>
  clear HE HZ hO HN HG hb1 hql
  obtain ⟨k,qs,hk,rfl,HQ,HE,HZ,hO,HN,HG,hb⟩:=hrel
  by_cases hlt:k < ps.length
  ·have hltq:k < qs.length:=by have:=HQ.out;omega
   have hzk:=HZ.out k hltq (Nat.le_refl _)
   obtain ⟨b,off,rfl,hbs,hc,hrd⟩:=(h.below hb).cell (by decide) k hlt
   have hc' : ∀ j x,(ussK.cells ps[k])[j]? = some x→wr.cell? ⟨b,off + k + j,none⟩=some x:=fun j x hx=>by have:=hc j x hx;rwa [show k * ussK.size=k from Nat.mul_one k] at this
   have c0:=hc' 0 (ps[k].va) rfl
   have hzl:=nm_le USQ.n ps k hlt
   have HPE:Hid (∀ p' : USQ,p'.e=USQ.e ps[k]→((qs.set k p').take (k + 1)).map USQ.e=(ps.take (k + 1)).map USQ.e):=by
    intro p' hp'
    have h1:=HE.out
    rw [List.take_succ_eq_append_getElem hlt,List.take_succ_eq_append_getElem (show k < (qs.set k p').length by simpa using hltq)]
    simp only [List.map_append,List.map_cons,List.map_nil,List.getElem_set_self,hp',List.take_set_of_le (Nat.le_refl k),h1]
   clear hc hc'
   generalize ps[k]=p at *
   have hto:=toUs_k p wr hrd (by omega)
   rw [Nat.add_zero] at c0
   go_wp2_with fail
   refine hto.mono ?_
   rintro e w2 ⟨p',rfl,hpe,hown',hnd',hlo',hb2⟩
   obtain ⟨x0,y0⟩:=p'
   have o0:undoK.Own w2 x0 y0:=hown'
   obtain ⟨a0,b0,rfl⟩:=o0.shape
   clear o0
   dsimp only
   generalize hP:(⟨.slice a0 y0.length b0,y0⟩:USQ)=p' at hpe hown' hnd' hlo'
   have hcp:ussK.cells p' = [.slice a0 y0.length b0]:=by rw [← hP];rfl
   have hO2:=hO.below hb2
   obtain ⟨e0,f0⟩:=hO2.cell k hltq 0 _ (by rw [hzk];rfl)
   have hkk:∀ j,k * ussK.size + j=k + j:=fun j=>by rw [show k * ussK.size=k from Nat.mul_one k]
   rw [hkk] at e0 f0
   rw [Nat.add_zero] at e0 f0
   have hrow0:=hO2.1
   have hQ:=HQ.out
   rw [hQ] at hrow0
   have hrow:=own_setFrom hrow0 (k) [.slice a0 y0.length b0]
   rw [← hcp] at hrow
   have hfp:∀ x∈ussK.fp (.slice (some ⟨w.heap.size,0,none⟩) ps.length ps.length) qs,x < wr.heap.size:=hO.lt
   have hg0:w.heap.size∈ussK.fp (.slice (some ⟨w.heap.size,0,none⟩) ps.length ps.length) qs:=by simp [Kind.fp,blk,Value.ownBlock]
   have hgl:w.heap.size < wr.heap.size:=hfp _ hg0
   have hNq:=HN.out
   have hdis:∀ x∈ussK.foot p',x ∉ ussK.fp (.slice (some ⟨w.heap.size,0,none⟩) ps.length ps.length) qs:=fun x hx hxx=>by have:=hlo' x hx;have:=hfp x hxx;omega
   have hput:ussK.Own (w2.setCell ⟨w.heap.size,k,none⟩ (.slice a0 y0.length b0)) (.slice (some ⟨w.heap.size,0,none⟩) ps.length ps.length) (qs.set k p'):=by
    refine Kind.Own.put hO2 k hltq p' ?_ (Out.setCell _ _ _ _) ?_ hown' ?_
    ·rw [hQ]
     rw [show k * ussK.size=k from Nat.mul_one k]
     rw [hcp] at hrow ⊢
     exact hrow
    ·intro q hq x hx hxe
     simp only [Kind.fp,blk,Value.ownBlock,Option.toList,List.cons_append,List.nil_append,List.nodup_cons] at hNq
     exact hNq.1 (List.mem_flatMap.2 ⟨q,hq,hxe ▸ hx⟩)
    ·intro x hx hxe
     have:=hlo' x hx
     omega
   have R:Hid (ussK.Own (w2.setCell ⟨w.heap.size,k,none⟩ (.slice a0 y0.length b0)) (.slice (some ⟨w.heap.size,0,none⟩) ps.length ps.length) (qs.set k p')∧Below w.heap.size w (w2.setCell ⟨w.heap.size,k,none⟩ (.slice a0 y0.length b0))):=by
    refine ⟨hput,?_⟩
    have hbb:=hb.trans (hb2.mono hb.size)
    exact (hbb.setCell (p:=⟨w.heap.size,k,none⟩) (Nat.le_refl _) _)
   have R1:Hid ((ussK.fp (.slice (some ⟨w.heap.size,0,none⟩) ps.length ps.length) (qs.set k p')).Nodup):=nodup_put hNq k hltq p' (by rw [hzk];rfl) hnd' hdis
   have R2:Hid (∀ x∈ussK.fp (.slice (some ⟨w.heap.size,0,none⟩) ps.length ps.length) (qs.set k p'),w.heap.size≤x):=by
    intro x hx
    simp only [Kind.fp,List.mem_append] at hx
    rcases hx with hx | hx
    ·exact HG.out x (by simp only [Kind.fp,List.mem_append];exact Or.inl hx)
    ·rcases mem_foot_set hltq hx with hx | hx
     ·exact HG.out x (by simp only [Kind.fp,List.mem_append];exact Or.inr hx)
     ·have:=hlo' x hx
      omega
   have R3:Hid (∀ j (hj:j < (qs.set k p').length),k + 1≤j→(qs.set k p')[j]=(⟨.slice none 0 0,[]⟩:USQ)):=fun j hj hkj=>by
    rw [List.getElem_set_ne (by omega)]
    exact HZ.out j (by simpa using hj) (by omega)
   have R4:Hid ((qs.set k p').length=ps.length):=by rw [List.length_set];exact HQ.out
   have R5:Hid (((qs.set k p').take (k + 1)).map USQ.e=(ps.take (k + 1)).map USQ.e):=HPE.out p' hpe
   clear hput hrow hrow0 hQ hO2 hO HN HG HZ HE HQ HPE hNq hdis hown' hnd' hlo' hfp hg0 hb hzk hrd hto hpe hkk hcp hP
   go_wp2
   go_roundw
   case rel=>exact ⟨k + 1,qs.set k p',by omega,by go_num,R4.out,R5.out,R3.out,R.out.1,R1.out,R2.out,R.out.2⟩
   case measure=>simp [intOf];omega
  ·have hkl:k=ps.length:=by omega
   subst hkl
   have hQ:=HQ.out
   have hE:=HE.out
   rw [List.take_length,List.take_of_length_le (by omega)] at hE
   clear HE HZ
   go_wp2
   go_ret
   exact ⟨_,qs,rfl,hE,hO,HN.out,HG.out,hb⟩

end Go.Proofs.YtfdkcbafpiojkaaGreatDoor
