/- Texts joined, with what the laws reach alone. -/
import Derived.Test.YtpmkhnakgeillaaGreatDoorSNAZ
set_option linter.unusedVariables false
set_option linter.unusedSimpArgs false
namespace Go.Proofs.YtpmkhnakgeillaaGreatDoor
open Go.RowKit
open Go.BigFrame
set_option maxRecDepth 100000
theorem undos_oneCell (zs:List UndoD):∀ u∈undoCells zs,u.oneCell' = true:=by
 intro u hu
 obtain ⟨z,_,hz⟩:=List.mem_flatMap.1 hu
 simp only [UndoD.cells,List.mem_cons,List.not_mem_nil,or_false] at hz
 rcases hz with rfl | rfl | rfl <;> rfl

set_option maxRecDepth 100000 in
set_option maxHeartbeats 1000000 in
theorem clone9Item_any (sa:Option Addr) (sc:Nat) (xs:List ItemD) (w:World) (h:itemK.At w (.slice sa xs.length sc) xs) (hN:Nice sa xs.length sc) (hl:xs.length≤1048576) :
  Calls Tryz.prog 155 #[.slice sa xs.length sc] w fun e w' => ∃ a c,e=.returned (.slice a xs.length c)∧itemK.Own w' (.slice a xs.length c) xs∧(∀ k∈blk (.slice a xs.length c),w.heap.size≤k)∧Below w.heap.size w w' := by
 rcases hN with ⟨ad,rfl⟩ | ⟨rfl,hn,rfl⟩
 ·obtain ⟨i0,hi,hz0,hz1,hz2⟩:=info_parts infoItem
  have hbA:Below w.heap.size w (w.alloc (.cells #[] 119)):=by go_grown
  have hr:=(h.below hbA)
  obtain ⟨_,_,e1,l1,_⟩:=hr
  simp only [Value.slice.injEq] at e1
  obtain ⟨rfl,_,rfl⟩:=e1
  have ho:=World.ownsRow_lit (e:=119) (size:=2) w #[] 0 (Nat.le_refl _) (by decide) rfl
  have hnil:∀ w,(binOp .eql 26 (.slice (some ad) xs.length sc) (.slice none 0 0)).run Tryz.prog w=.ok (.bool false) w:=fun w=>by first | rfl | kernel_rfl | (simp only [binOp];simp [Op.equal,Op.maxDepth,Op.equalIn,run_underlying Tryz.underlying26])
  have x1:([]:List ItemD).length + xs.length≤maxLen:=by unfold maxLen;rw [List.length_nil];omega
  have x2:(([]:List ItemD).length + xs.length) * 16≤140737488355328:=by rw [List.length_nil];omega
  have hsz:=hbA.size
  go_enter Tryz.func155,Tryz.ntmps155
  go_wp2_with (at_builtin;refine wpList_app_k (K:=itemK) _ rfl _ _ 26 rfl i0 (.agg #[.int .i64 0,.int .i64 0]) 16 Tryz.underlying26 hi hz0 hz1 hz2 rfl (by decide) w.heap.size _ [] rfl ho _ xs _ rfl l1 (items_oneCell xs) (Or.inl ⟨_,rfl⟩) x1 x2 hsz ?_)
  intro v' w2 hown hgrow
  have hb2:Below w.heap.size w w2:=hbA.grown hgrow hsz (fun k hk=>(ho.lt k hk).1)
  try simp only [List.nil_append] at hown
  obtain ⟨a2,c2,rfl⟩:=own_shape hown
  obtain ⟨o2,l2⟩:=own_zero hown
  clear hgrow ho l1 hown
  go_wp2
  go_ret
  exact ⟨a2,c2,rfl,⟨o2,fun _ _=>trivial⟩,l2,hb2⟩
 ·have hz:xs=[]:=List.eq_nil_of_length_eq_zero hn
  subst hz
  have hnil:∀ w,(binOp .eql 26 (.slice none 0 0) (.slice none 0 0)).run Tryz.prog w=.ok (.bool true) w:=fun w=>by first | rfl | kernel_rfl | (simp only [binOp];simp [Op.equal,Op.maxDepth,Op.equalIn,run_underlying Tryz.underlying26])
  rw [List.length_nil]
  go_enter Tryz.func155,Tryz.ntmps155
  go_wp2
  go_ret
  exact ⟨none,0,rfl,(Kind.own_nil _).1,fun k hk=>by simp [blk,Value.ownBlock] at hk,Below.refl _ _⟩

set_option maxRecDepth 100000 in
set_option maxHeartbeats 1000000 in
theorem clone9Undo_any (sa:Option Addr) (sc:Nat) (xs:List UndoD) (w:World) (h:undoK.At w (.slice sa xs.length sc) xs) (hN:Nice sa xs.length sc) (hl:xs.length≤1048576) :
  Calls Tryz.prog 156 #[.slice sa xs.length sc] w fun e w' => ∃ a c,e=.returned (.slice a xs.length c)∧undoK.Own w' (.slice a xs.length c) xs∧(∀ k∈blk (.slice a xs.length c),w.heap.size≤k)∧Below w.heap.size w w' := by
 rcases hN with ⟨ad,rfl⟩ | ⟨rfl,hn,rfl⟩
 ·obtain ⟨i0,hi,hz0,hz1,hz2⟩:=info_parts infoUndo
  have hbA:Below w.heap.size w (w.alloc (.cells #[] 216)):=by go_grown
  have hr:=(h.below hbA)
  obtain ⟨_,_,e1,l1,_⟩:=hr
  simp only [Value.slice.injEq] at e1
  obtain ⟨rfl,_,rfl⟩:=e1
  have ho:=World.ownsRow_lit (e:=216) (size:=3) w #[] 0 (Nat.le_refl _) (by decide) rfl
  have hnil:∀ w,(binOp .eql 161 (.slice (some ad) xs.length sc) (.slice none 0 0)).run Tryz.prog w=.ok (.bool false) w:=fun w=>by first | rfl | kernel_rfl | (simp only [binOp];simp [Op.equal,Op.maxDepth,Op.equalIn,run_underlying Tryz.underlying161])
  have x1:([]:List UndoD).length + xs.length≤maxLen:=by unfold maxLen;rw [List.length_nil];omega
  have x2:(([]:List UndoD).length + xs.length) * 24≤140737488355328:=by rw [List.length_nil];omega
  have hsz:=hbA.size
  go_enter Tryz.func156,Tryz.ntmps156
  go_wp2_with (at_builtin;refine wpList_app_k (K:=undoK) _ rfl _ _ 161 rfl i0 (.agg #[.int .i64 0,.bool false,.int .i64 0]) 24 Tryz.underlying161 hi hz0 hz1 hz2 rfl (by decide) w.heap.size _ [] rfl ho _ xs _ rfl l1 (undos_oneCell xs) (Or.inl ⟨_,rfl⟩) x1 x2 hsz ?_)
  intro v' w2 hown hgrow
  have hb2:Below w.heap.size w w2:=hbA.grown hgrow hsz (fun k hk=>(ho.lt k hk).1)
  try simp only [List.nil_append] at hown
  obtain ⟨a2,c2,rfl⟩:=own_shape hown
  obtain ⟨o2,l2⟩:=own_zero hown
  clear hgrow ho l1 hown
  go_wp2
  go_ret
  exact ⟨a2,c2,rfl,⟨o2,fun _ _=>trivial⟩,l2,hb2⟩
 ·have hz:xs=[]:=List.eq_nil_of_length_eq_zero hn
  subst hz
  have hnil:∀ w,(binOp .eql 161 (.slice none 0 0) (.slice none 0 0)).run Tryz.prog w=.ok (.bool true) w:=fun w=>by first | rfl | kernel_rfl | (simp only [binOp];simp [Op.equal,Op.maxDepth,Op.equalIn,run_underlying Tryz.underlying161])
  rw [List.length_nil]
  go_enter Tryz.func156,Tryz.ntmps156
  go_wp2
  go_ret
  exact ⟨none,0,rfl,(Kind.own_nil _).1,fun k hk=>by simp [blk,Value.ownBlock] at hk,Below.refl _ _⟩

set_option maxRecDepth 100000 in
set_option maxHeartbeats 4000000 in
theorem txnsN_any (w0:World) (v iv:Value) (ds:List DeedQ) (w:World) (h:(deedNK w0).At w v ds) (h00:Below w0.heap.size w0 w) (hne:∀ p∈ds,p.t.F=0) (hl:ds.length≤100) :
  Calls Tryz.prog 166 #[.agg #[v,iv]] w fun e w' => ∃ v' qs,e=.returned v' ∧ qs.map TxnQ.e=ds.map DeedQ.t∧txnK.Own w' v' qs∧(txnK.fp v' qs).Nodup∧(∀ k∈txnK.fp v' qs,w.heap.size≤k)∧Below w.heap.size w w' := by
 obtain ⟨a,cap,rfl⟩:=h.shape
 obtain ⟨i0,hi,hz0,hz1,hz2⟩:=info_parts infoTxn
 have hbX:Below w.heap.size w (w.alloc (.cells #[.slice a ds.length cap,iv] 153)):=by go_grown
 have BX:=Blk.new w 153 #[.slice a ds.length cap,iv]
 obtain ⟨hn1,hn2⟩:=Kind.own_nil (K:=txnK) (w.alloc (.cells #[.slice a ds.length cap,iv] 153))
 have HN0:Hid ((txnK.fp (.slice none 0 0) ([]:List TxnQ)).Nodup∧∀ k∈txnK.fp (.slice none 0 0) ([]:List TxnQ),w.heap.size≤k):=by
  rw [hn2]
  exact ⟨by simp,by simp⟩
 clear hn2
 have x0:=BX.cell 0 _ rfl
 have hli:(ds.length:Int)≤100:=by omega
 go_enter Tryz.func166,Tryz.ntmps166
 go_wp2
 clear x0 BX
 generalize w.alloc (.cells #[.slice a ds.length cap,iv] 153)=WX at *
 go_loopw [3,9] (fun v j wr=>∃ (k:Nat) (qs:List TxnQ),k≤ds.length∧j=.int .i64 k∧Hid (qs.map TxnQ.e=(ds.take k).map DeedQ.t)∧txnK.Own wr v qs∧Hid ((txnK.fp v qs).Nodup∧∀ k∈txnK.fp v qs,w.heap.size≤k)∧Below w.heap.size w wr) (fun _ j _=>ds.length - (intOf j).toNat)
 case atStart=>exact ⟨0,[],Nat.zero_le _,rfl,(rfl:_=_),hn1,HN0,hbX⟩
 case round=>
  clear HN0 hn1 hbX
  obtain ⟨k,qs,hk,rfl,HE,hO,HN,hb⟩:=hrel
  obtain ⟨sa,sc,rfl⟩:=hO.shape
  have HQL:Hid (qs.length=k):=by
   have:=congrArg List.length HE.out
   rw [List.length_map,List.length_map,List.length_take] at this
   show qs.length=k
   omega
  by_cases hlt:k < ds.length
  ·obtain ⟨b,off,rfl,hbs,hc,hrd⟩:=(h.below hb).cell (by show 0 < 6;decide) k hlt
   have hc' : ∀ j x,((deedNK w0).cells ds[k])[j]? = some x→wr.cell? ⟨b,off + k * 6 + j,none⟩=some x:=hc
   have c0:=hc' 0 (.int .i64 ds[k].i) rfl
   have c1:=hc' 1 (.int .i64 ds[k].s) rfl
   have c2:=hc' 2 (.int .i64 ds[k].q) rfl
   have c3:=hc' 3 (ds[k].va) rfl
   have c4:=hc' 4 (.int .i64 ds[k].code) rfl
   have c5:=hc' 5 (.int .i64 ds[k].val) rfl
   skip
   have hF0:=hne _ (List.getElem_mem hlt)
   have HPE:Hid (∀ p' : TxnQ,p'.e=DeedQ.t ds[k]→(qs ++ [p']).map TxnQ.e=(ds.take (k + 1)).map DeedQ.t):=fun p' hp' => by
    rw [List.take_succ_eq_append_getElem hlt,List.map_append,List.map_append,HE.out,List.map_singleton,List.map_singleton,hp']
   clear hc hc'
   generalize ds[k]=p at *
   obtain ⟨i,s,q,va,acts,code,val,lv,us⟩:=p
   replace hrd:actK.At w0 va acts:=hrd
   skip
   have hz:=(acts_of_F (show txnF i s q acts=0 from hF0)).1
   have hpos:0 < acts.length:=by omega
   replace hrd:=hrd.below (h00.trans (hb.mono h00.size))
   obtain ⟨aa,ac,rfl⟩:=hrd.shape
   dsimp only [DeedQ.t] at c0 c1 c2 c3 c4 c5 HPE
   obtain ⟨ab,ao,haa⟩:∃ ab ao,aa=some ⟨ab,ao,none⟩:=by
    rcases (actK_at hrd).2 with h0 | ⟨ab,ao,e,_⟩
    ·have:=actCells_length acts
     rw [h0] at this
     simp at this
     omega
    ·exact ⟨ab,ao,e⟩
   subst haa
   have hbY:Below wr.heap.size wr (wr.alloc (.cells #[.int .i64 i,.int .i64 s,.int .i64 q,.slice (some ⟨ab,ao,none⟩) acts.length ac,.int .i64 code,.int .i64 val] 307)):=by go_grown
   have BY:=Blk.new wr 307 #[.int .i64 i,.int .i64 s,.int .i64 q,.slice (some ⟨ab,ao,none⟩) acts.length ac,.int .i64 code,.int .i64 val]
   have hcl:=cloneTxn_any i s q ab ao ac acts _ ((actK_at hrd).2.below hbY) hpos (by omega)
   rw [Nat.add_zero] at c0
   replace hO:=hO.below hbY
   replace hb:=hb.trans (hbY.mono hb.size)
   have y0:=BY.cell 0 _ rfl
   have y1:=BY.cell 1 _ rfl
   have y2:=BY.cell 2 _ rfl
   have y3:=BY.cell 3 _ rfl
   clear HE hbY
   go_wp2_with fail
   clear c0 c1 c2 c3 c4 c5 y0 y1 y2 y3 BY
   generalize wr.alloc (.cells #[.int .i64 i,.int .i64 s,.int .i64 q,.slice (some ⟨ab,ao,none⟩) acts.length ac,.int .i64 code,.int .i64 val] 307)=Y at *
   have hYs:w.heap.size≤Y.heap.size:=hb.size
   refine hcl.mono ?_
   rintro e w2 ⟨a2,c2,rfl,ho2,hb2⟩
   have HLT:=hO.lt
   replace hO:=hO.below hb2
   replace hb:=hb.trans (hb2.mono hb.size)
   obtain ⟨o2,hk2⟩:=own_zero ho2
   have hP:txnK.own w2 ⟨i,s,q,.slice a2 acts.length c2,acts⟩:=⟨o2,fun _ _=>trivial⟩
   have hPlo:∀ x∈txnK.foot ⟨i,s,q,.slice a2 acts.length c2,acts⟩,Y.heap.size≤x:=fun x hx=>hk2 x (by rw [← actK_fp (.slice a2 acts.length c2) acts];exact hx)
   have hPn:(txnK.foot ⟨i,s,q,.slice a2 acts.length c2,acts⟩).Nodup:=by
    show (actK.fp _ _).Nodup
    rw [actK_fp];exact blk_nodup _
   have hbA:Below w2.heap.size w2 (w2.alloc (.cells #[.int .i64 i,.int .i64 s,.int .i64 q,.slice a2 acts.length c2] 39)):=by go_grown
   have hOA:=hO.below hbA
   have hPA:=txnK.own_out (F:=[]) hP (Out.of_below hbA) (fun _ _=>by simp)
   have hbB:=hb.trans (hbA.mono hb.size)
   clear hcl ho2 hO hP hk2
   have hrow0:=hOA.1
   go_wp2_with (at_builtin;refine wpList_append_own_at _ rfl _ _ 25 rfl 0 39 i0 (.agg #[.int .i64 0,.int .i64 0,.int .i64 0,.slice none 0 0]) 4 48 Tryz.underlying25 hi hz0 hz1 hz2 rfl (by decide) _ qs.length (txnK.row qs) rfl hrow0 ⟨w2.heap.size,0,none⟩ 1 1 [.int .i64 i,.int .i64 s,.int .i64 q,.slice a2 acts.length c2] rfl rfl ?c1 ?c2 ?c3 ?c4 ?c5 ?_)
   all_goals try (case c1=>intro j u hj;match j,hj with | 0,hj=>simp at hj;subst hj;simp [Addr.add] | 1,hj=>simp at hj;subst hj;simp [Addr.add] | 2,hj=>simp at hj;subst hj;simp [Addr.add] | 3,hj=>simp at hj;subst hj;simp [Addr.add])
   all_goals try (case c2=>intro u hu;simp at hu;rcases hu with rfl | rfl | rfl | rfl <;> rfl)
   all_goals try (case c3=>have:=HQL.out;unfold maxLen;omega)
   all_goals try (case c4=>have:=HQL.out;omega)
   all_goals try (case c5=>first | omega | simp)
   intro v' w5 hown hgrow hnil hat
   clear hnil hrow0
   rw [show w2.heap.size + 1=(w2.alloc (.cells #[.int .i64 i,.int .i64 s,.int .i64 q,.slice a2 acts.length c2] 39)).heap.size from (World.size_alloc _ _).symm] at hat
   generalize hwA:w2.alloc (.cells #[.int .i64 i,.int .i64 s,.int .i64 q,.slice a2 acts.length c2] 39)=WA at *
   clear hwA
   have hsz:Y.heap.size≤WA.heap.size:=by have:=hb2.size;have:=hbA.size;omega
   obtain ⟨hO5,hn5,hlo5,hou⟩:=hOA.snoc HN.out.1 HN.out.2 hPA hPn (fun x hx hx' => by have:=HLT x hx';have:=hPlo x hx;omega) (fun x hx=>by have:=hPlo x hx;omega) hbB.size hown hgrow hat
   have hb5:Below w.heap.size w w5:=Out.keep hbB hou hbB.size (fun x hx=>HN.out.2 x (by simp only [Kind.fp,List.mem_append];exact Or.inl hx))
   have HE5:Hid ((qs ++ [(⟨i,s,q,.slice a2 acts.length c2,acts⟩:TxnQ)]).map TxnQ.e=(ds.take (k + 1)).map DeedQ.t):=HPE.out _ rfl
   have HN5:Hid ((txnK.fp v' (qs ++ [(⟨i,s,q,.slice a2 acts.length c2,acts⟩:TxnQ)])).Nodup∧∀ k∈txnK.fp v' (qs ++ [(⟨i,s,q,.slice a2 acts.length c2,acts⟩:TxnQ)]),w.heap.size≤k):=⟨hn5,hlo5⟩
   clear HPE HN HLT hPlo hPn hPA hOA hbB hown hgrow hat hou hn5 hlo5 hrd hb hbA hb2 hpos
   go_wp2
   go_roundw
   case rel=>exact ⟨k + 1,_,by omega,by go_num,HE5,hO5,HN5,hb5⟩
   case measure=>simp [intOf];omega
  ·have hkl:k=ds.length:=by omega
   subst hkl
   have hE:=HE.out
   rw [List.take_length] at hE
   clear HE
   go_wp2
   go_ret
   exact ⟨_,qs,rfl,hE,hO,HN.out.1,HN.out.2,hb⟩

set_option maxRecDepth 100000 in
set_option maxHeartbeats 4000000 in
theorem txnsU_any (w0:World) (v iv:Value) (ds:List DeedQ) (w:World) (h:(deedUK w0).At w v ds) (h00:Below w0.heap.size w0 w) (hne:∀ p∈ds,p.t.F=0) (hl:ds.length≤100) :
  Calls Tryz.prog 167 #[.agg #[v,iv]] w fun e w' => ∃ v' qs,e=.returned v' ∧ qs.map TxnQ.e=ds.map DeedQ.t∧txnK.Own w' v' qs∧(txnK.fp v' qs).Nodup∧(∀ k∈txnK.fp v' qs,w.heap.size≤k)∧Below w.heap.size w w' := by
 obtain ⟨a,cap,rfl⟩:=h.shape
 obtain ⟨i0,hi,hz0,hz1,hz2⟩:=info_parts infoTxn
 have hbX:Below w.heap.size w (w.alloc (.cells #[.slice a ds.length cap,iv] 156)):=by go_grown
 have BX:=Blk.new w 156 #[.slice a ds.length cap,iv]
 obtain ⟨hn1,hn2⟩:=Kind.own_nil (K:=txnK) (w.alloc (.cells #[.slice a ds.length cap,iv] 156))
 have HN0:Hid ((txnK.fp (.slice none 0 0) ([]:List TxnQ)).Nodup∧∀ k∈txnK.fp (.slice none 0 0) ([]:List TxnQ),w.heap.size≤k):=by
  rw [hn2]
  exact ⟨by simp,by simp⟩
 clear hn2
 have x0:=BX.cell 0 _ rfl
 have hli:(ds.length:Int)≤100:=by omega
 go_enter Tryz.func167,Tryz.ntmps167
 go_wp2
 clear x0 BX
 generalize w.alloc (.cells #[.slice a ds.length cap,iv] 156)=WX at *
 go_loopw [3,9] (fun v j wr=>∃ (k:Nat) (qs:List TxnQ),k≤ds.length∧j=.int .i64 k∧Hid (qs.map TxnQ.e=(ds.take k).map DeedQ.t)∧txnK.Own wr v qs∧Hid ((txnK.fp v qs).Nodup∧∀ k∈txnK.fp v qs,w.heap.size≤k)∧Below w.heap.size w wr) (fun _ j _=>ds.length - (intOf j).toNat)
 case atStart=>exact ⟨0,[],Nat.zero_le _,rfl,(rfl:_=_),hn1,HN0,hbX⟩
 case round=>
  clear HN0 hn1 hbX
  obtain ⟨k,qs,hk,rfl,HE,hO,HN,hb⟩:=hrel
  obtain ⟨sa,sc,rfl⟩:=hO.shape
  have HQL:Hid (qs.length=k):=by
   have:=congrArg List.length HE.out
   rw [List.length_map,List.length_map,List.length_take] at this
   show qs.length=k
   omega
  by_cases hlt:k < ds.length
  ·obtain ⟨b,off,rfl,hbs,hc,hrd⟩:=(h.below hb).cell (by show 0 < 7;decide) k hlt
   have hc' : ∀ j x,((deedUK w0).cells ds[k])[j]? = some x→wr.cell? ⟨b,off + k * 7 + j,none⟩=some x:=hc
   have c0:=hc' 0 (.int .i64 ds[k].i) rfl
   have c1:=hc' 1 (.int .i64 ds[k].s) rfl
   have c2:=hc' 2 (.int .i64 ds[k].q) rfl
   have c3:=hc' 3 (ds[k].va) rfl
   have c4:=hc' 4 (.int .i64 ds[k].code) rfl
   have c5:=hc' 5 (.int .i64 ds[k].val) rfl
   have c6:=hc' 6 (ds[k].lv) rfl
   have hF0:=hne _ (List.getElem_mem hlt)
   have HPE:Hid (∀ p' : TxnQ,p'.e=DeedQ.t ds[k]→(qs ++ [p']).map TxnQ.e=(ds.take (k + 1)).map DeedQ.t):=fun p' hp' => by
    rw [List.take_succ_eq_append_getElem hlt,List.map_append,List.map_append,HE.out,List.map_singleton,List.map_singleton,hp']
   clear hc hc'
   generalize ds[k]=p at *
   obtain ⟨i,s,q,va,acts,code,val,lv,us⟩:=p
   obtain ⟨hrd,hrl⟩:actK.At w0 va acts∧undoK.At wr lv us:=hrd
   obtain ⟨la,lc,rfl⟩:=hrl.shape
   have hz:=(acts_of_F (show txnF i s q acts=0 from hF0)).1
   have hpos:0 < acts.length:=by omega
   replace hrd:=hrd.below (h00.trans (hb.mono h00.size))
   obtain ⟨aa,ac,rfl⟩:=hrd.shape
   dsimp only [DeedQ.t] at c0 c1 c2 c3 c4 c5 HPE
   obtain ⟨ab,ao,haa⟩:∃ ab ao,aa=some ⟨ab,ao,none⟩:=by
    rcases (actK_at hrd).2 with h0 | ⟨ab,ao,e,_⟩
    ·have:=actCells_length acts
     rw [h0] at this
     simp at this
     omega
    ·exact ⟨ab,ao,e⟩
   subst haa
   have hbY:Below wr.heap.size wr (wr.alloc (.cells #[.int .i64 i,.int .i64 s,.int .i64 q,.slice (some ⟨ab,ao,none⟩) acts.length ac,.int .i64 code,.int .i64 val,.slice la us.length lc] 163)):=by go_grown
   have BY:=Blk.new wr 163 #[.int .i64 i,.int .i64 s,.int .i64 q,.slice (some ⟨ab,ao,none⟩) acts.length ac,.int .i64 code,.int .i64 val,.slice la us.length lc]
   have hcl:=cloneTxn_any i s q ab ao ac acts _ ((actK_at hrd).2.below hbY) hpos (by omega)
   rw [Nat.add_zero] at c0
   replace hO:=hO.below hbY
   replace hb:=hb.trans (hbY.mono hb.size)
   have y0:=BY.cell 0 _ rfl
   have y1:=BY.cell 1 _ rfl
   have y2:=BY.cell 2 _ rfl
   have y3:=BY.cell 3 _ rfl
   clear HE hbY
   go_wp2_with fail
   clear c0 c1 c2 c3 c4 c5 c6 y0 y1 y2 y3 BY
   generalize wr.alloc (.cells #[.int .i64 i,.int .i64 s,.int .i64 q,.slice (some ⟨ab,ao,none⟩) acts.length ac,.int .i64 code,.int .i64 val,.slice la us.length lc] 163)=Y at *
   have hYs:w.heap.size≤Y.heap.size:=hb.size
   refine hcl.mono ?_
   rintro e w2 ⟨a2,c2,rfl,ho2,hb2⟩
   have HLT:=hO.lt
   replace hO:=hO.below hb2
   replace hb:=hb.trans (hb2.mono hb.size)
   obtain ⟨o2,hk2⟩:=own_zero ho2
   have hP:txnK.own w2 ⟨i,s,q,.slice a2 acts.length c2,acts⟩:=⟨o2,fun _ _=>trivial⟩
   have hPlo:∀ x∈txnK.foot ⟨i,s,q,.slice a2 acts.length c2,acts⟩,Y.heap.size≤x:=fun x hx=>hk2 x (by rw [← actK_fp (.slice a2 acts.length c2) acts];exact hx)
   have hPn:(txnK.foot ⟨i,s,q,.slice a2 acts.length c2,acts⟩).Nodup:=by
    show (actK.fp _ _).Nodup
    rw [actK_fp];exact blk_nodup _
   have hbA:Below w2.heap.size w2 (w2.alloc (.cells #[.int .i64 i,.int .i64 s,.int .i64 q,.slice a2 acts.length c2] 39)):=by go_grown
   have hOA:=hO.below hbA
   have hPA:=txnK.own_out (F:=[]) hP (Out.of_below hbA) (fun _ _=>by simp)
   have hbB:=hb.trans (hbA.mono hb.size)
   clear hcl ho2 hO hP hk2
   have hrow0:=hOA.1
   go_wp2_with (at_builtin;refine wpList_append_own_at _ rfl _ _ 25 rfl 0 39 i0 (.agg #[.int .i64 0,.int .i64 0,.int .i64 0,.slice none 0 0]) 4 48 Tryz.underlying25 hi hz0 hz1 hz2 rfl (by decide) _ qs.length (txnK.row qs) rfl hrow0 ⟨w2.heap.size,0,none⟩ 1 1 [.int .i64 i,.int .i64 s,.int .i64 q,.slice a2 acts.length c2] rfl rfl ?c1 ?c2 ?c3 ?c4 ?c5 ?_)
   all_goals try (case c1=>intro j u hj;match j,hj with | 0,hj=>simp at hj;subst hj;simp [Addr.add] | 1,hj=>simp at hj;subst hj;simp [Addr.add] | 2,hj=>simp at hj;subst hj;simp [Addr.add] | 3,hj=>simp at hj;subst hj;simp [Addr.add])
   all_goals try (case c2=>intro u hu;simp at hu;rcases hu with rfl | rfl | rfl | rfl <;> rfl)
   all_goals try (case c3=>have:=HQL.out;unfold maxLen;omega)
   all_goals try (case c4=>have:=HQL.out;omega)
   all_goals try (case c5=>first | omega | simp)
   intro v' w5 hown hgrow hnil hat
   clear hnil hrow0
   rw [show w2.heap.size + 1=(w2.alloc (.cells #[.int .i64 i,.int .i64 s,.int .i64 q,.slice a2 acts.length c2] 39)).heap.size from (World.size_alloc _ _).symm] at hat
   generalize hwA:w2.alloc (.cells #[.int .i64 i,.int .i64 s,.int .i64 q,.slice a2 acts.length c2] 39)=WA at *
   clear hwA
   have hsz:Y.heap.size≤WA.heap.size:=by have:=hb2.size;have:=hbA.size;omega
   obtain ⟨hO5,hn5,hlo5,hou⟩:=hOA.snoc HN.out.1 HN.out.2 hPA hPn (fun x hx hx' => by have:=HLT x hx';have:=hPlo x hx;omega) (fun x hx=>by have:=hPlo x hx;omega) hbB.size hown hgrow hat
   have hb5:Below w.heap.size w w5:=Out.keep hbB hou hbB.size (fun x hx=>HN.out.2 x (by simp only [Kind.fp,List.mem_append];exact Or.inl hx))
   have HE5:Hid ((qs ++ [(⟨i,s,q,.slice a2 acts.length c2,acts⟩:TxnQ)]).map TxnQ.e=(ds.take (k + 1)).map DeedQ.t):=HPE.out _ rfl
   have HN5:Hid ((txnK.fp v' (qs ++ [(⟨i,s,q,.slice a2 acts.length c2,acts⟩:TxnQ)])).Nodup∧∀ k∈txnK.fp v' (qs ++ [(⟨i,s,q,.slice a2 acts.length c2,acts⟩:TxnQ)]),w.heap.size≤k):=⟨hn5,hlo5⟩
   clear HPE HN HLT hPlo hPn hPA hOA hbB hown hgrow hat hou hn5 hlo5 hrd hb hbA hb2 hpos
   go_wp2
   go_roundw
   case rel=>exact ⟨k + 1,_,by omega,by go_num,HE5,hO5,HN5,hb5⟩
   case measure=>simp [intOf];omega
  ·have hkl:k=ds.length:=by omega
   subst hkl
   have hE:=HE.out
   rw [List.take_length] at hE
   clear HE
   go_wp2
   go_ret
   exact ⟨_,qs,rfl,hE,hO,HN.out.1,HN.out.2,hb⟩

end Go.Proofs.YtpmkhnakgeillaaGreatDoor
