/- Texts joined, with what the laws reach alone. -/
import Derived.Test.YtpmkhnakgeillaaGreatDoorSNBD
import Derived.Test.YtpmkhnakgeillaaGreatDoorSNAS
set_option linter.unusedVariables false
set_option linter.unusedSimpArgs false
namespace Go.Proofs.YtpmkhnakgeillaaGreatDoor
open Go.RowKit
open Go.BigFrame
set_option maxRecDepth 100000
set_option maxRecDepth 100000 in
set_option maxHeartbeats 1000000 in
theorem l2CopyS9_any (i s q:Int) (b off cap:Nat) (zs:List ActD) (w:World) (h:ActRow w (some ⟨b,off,none⟩) zs) (hl:zs.length≤1048576) :
  Calls Tryz.prog 173 #[.agg #[.int .i64 i,.int .i64 s,.int .i64 q,.slice (some ⟨b,off,none⟩) zs.length cap]] w fun e w' => ∃ a c,e=.returned (.agg #[.int .i64 i,.int .i64 s,.int .i64 q,.slice a zs.length c]) ∧
   w'.ownsRow w.heap.size 145 3 (.slice a zs.length c) zs.length (actCells zs)∧Below w.heap.size w w' := by
 obtain ⟨i0,hi,hz0,hz1,hz2⟩:=info_parts infoAct
 have hs:=lies_src (Lies.below h (w' := ((w.alloc (.cells #[.int .i64 i,.int .i64 s,.int .i64 q,.slice (some ⟨b,off,none⟩) zs.length cap] 39)).alloc (.cells #[.int .i64 0,.int .i64 0,.int .i64 0,.slice none 0 0] 39)).alloc (.cells #[] 145)) (by go_grown))
 have hcl:=actCells_length zs
 have ho:=World.ownsRow_lit (e:=145) (size:=3) ((w.alloc (.cells #[.int .i64 i,.int .i64 s,.int .i64 q,.slice (some ⟨b,off,none⟩) zs.length cap] 39)).alloc (.cells #[.int .i64 0,.int .i64 0,.int .i64 0,.slice none 0 0] 39)) #[] 0 (Nat.le_refl _) (by decide) rfl
 have hb1:Below w.heap.size w (((w.alloc (.cells #[.int .i64 i,.int .i64 s,.int .i64 q,.slice (some ⟨b,off,none⟩) zs.length cap] 39)).alloc (.cells #[.int .i64 0,.int .i64 0,.int .i64 0,.slice none 0 0] 39)).alloc (.cells #[] 145)):=by go_grown
 have B1:=(Blk.new w 39 #[.int .i64 i,.int .i64 s,.int .i64 q,.slice (some ⟨b,off,none⟩) zs.length cap]).below (w' := ((w.alloc (.cells #[.int .i64 i,.int .i64 s,.int .i64 q,.slice (some ⟨b,off,none⟩) zs.length cap] 39)).alloc (.cells #[.int .i64 0,.int .i64 0,.int .i64 0,.slice none 0 0] 39)).alloc (.cells #[] 145)) (by go_grown)
 have B2:=(Blk.new (w.alloc (.cells #[.int .i64 i,.int .i64 s,.int .i64 q,.slice (some ⟨b,off,none⟩) zs.length cap] 39)) 39 #[.int .i64 0,.int .i64 0,.int .i64 0,.slice none 0 0]).below (w' := ((w.alloc (.cells #[.int .i64 i,.int .i64 s,.int .i64 q,.slice (some ⟨b,off,none⟩) zs.length cap] 39)).alloc (.cells #[.int .i64 0,.int .i64 0,.int .i64 0,.slice none 0 0] 39)).alloc (.cells #[] 145)) (by go_grown)
 have HS:Hid (∀ j u,(actCells zs)[j]? = some u→_):=hs
 clear hs
 simp only [World.size_alloc] at B2 ho
 go_enter Tryz.func173,Tryz.ntmps173
 go_wp2_with (at_builtin;refine wpList_append_own _ rfl _ _ 37 rfl (w.heap.size + 1 + 1) 145 i0 (.agg #[.int .i64 0,.int .i64 0,.int .i64 0]) 3 24 Tryz.underlying37 hi hz0 hz1 hz2 rfl (by decide) _ 0 [] rfl ho ⟨b,off,none⟩ zs.length cap (actCells zs) rfl hcl HS.out ?c2 ?c3 ?c4 ?c5 ?_)
 all_goals try (case c2=>exact acts_oneCell zs)
 all_goals try (case c3=>unfold maxLen;omega)
 all_goals try (case c4=>omega)
 all_goals try (case c5=>simp)
 intro v' w2 hown hgrow _
 obtain ⟨a2,c2,rfl⟩:=own_shape hown
 replace B1:=B1.grown hgrow (by simp [Value.ownBlock] <;> omega)
 replace B2:=B2.grown hgrow (by simp [Value.ownBlock] <;> omega)
 have hb2:Below w.heap.size w w2:=hb1.grown hgrow (by simp;omega) (fun k hk=>by simp [Value.ownBlock] at hk;omega)
 have hlt2:=B2.lt
 have p0:=B1.cell 0 _ rfl
 have p1:=B1.cell 1 _ rfl
 have p2:=B1.cell 2 _ rfl
 have p3:=B1.cell 3 _ rfl
 have pf:=B1.frozen 3
 have q0:=B2.cell 0 _ rfl
 have q1:=B2.cell 1 _ rfl
 have q2:=B2.cell 2 _ rfl
 have q3:=B2.cell 3 _ rfl
 have f0:=B2.frozen 0
 have f1:=B2.frozen 1
 have f2:=B2.frozen 2
 have f3:=B2.frozen 3
 try simp only [Nat.zero_add] at hown
 clear B1 B2 hgrow HS ho hb1
 go_wp2
 refine bodyPost_ret (v:=.agg #[.int .i64 i,.int .i64 s,.int .i64 q,.slice a2 zs.length c2]) (by simp [results,Tryz.results173,go_sem,q0,q1,q2,q3]) rfl ⟨_,_,rfl,?_,?_⟩
 ·refine own_base (base:=w.heap.size + 1 + 1) ?_ (by omega)
  repeat' (refine ownsRow_setCell_below ?_ (by dsimp only;omega) _)
  simpa using hown
 ·repeat' (refine Below.setCell ?_ (by dsimp only;omega) _)
  exact hb2

set_option maxRecDepth 100000 in
set_option maxHeartbeats 1000000 in
theorem l2CopyN9_any (i s q:Int) (w:World) :
  Calls Tryz.prog 173 #[.agg #[.int .i64 i,.int .i64 s,.int .i64 q,.slice none 0 0]] w fun e w' => ∃ a c,e=.returned (.agg #[.int .i64 i,.int .i64 s,.int .i64 q,.slice a 0 c]) ∧
   w'.ownsRow w.heap.size 145 3 (.slice a 0 c) 0 (actCells [])∧Below w.heap.size w w' := by
 obtain ⟨i0,hi,hz0,hz1,hz2⟩:=info_parts infoAct
 have ho:=World.ownsRow_lit (e:=145) (size:=3) ((w.alloc (.cells #[.int .i64 i,.int .i64 s,.int .i64 q,.slice none 0 0] 39)).alloc (.cells #[.int .i64 0,.int .i64 0,.int .i64 0,.slice none 0 0] 39)) #[] 0 (Nat.le_refl _) (by decide) rfl
 have hb1:Below w.heap.size w (((w.alloc (.cells #[.int .i64 i,.int .i64 s,.int .i64 q,.slice none 0 0] 39)).alloc (.cells #[.int .i64 0,.int .i64 0,.int .i64 0,.slice none 0 0] 39)).alloc (.cells #[] 145)):=by go_grown
 have B1:=(Blk.new w 39 #[.int .i64 i,.int .i64 s,.int .i64 q,.slice none 0 0]).below (w' := ((w.alloc (.cells #[.int .i64 i,.int .i64 s,.int .i64 q,.slice none 0 0] 39)).alloc (.cells #[.int .i64 0,.int .i64 0,.int .i64 0,.slice none 0 0] 39)).alloc (.cells #[] 145)) (by go_grown)
 have B2:=(Blk.new (w.alloc (.cells #[.int .i64 i,.int .i64 s,.int .i64 q,.slice none 0 0] 39)) 39 #[.int .i64 0,.int .i64 0,.int .i64 0,.slice none 0 0]).below (w' := ((w.alloc (.cells #[.int .i64 i,.int .i64 s,.int .i64 q,.slice none 0 0] 39)).alloc (.cells #[.int .i64 0,.int .i64 0,.int .i64 0,.slice none 0 0] 39)).alloc (.cells #[] 145)) (by go_grown)
 simp only [World.size_alloc] at B2 ho
 go_enter Tryz.func173,Tryz.ntmps173
 go_wp2_with (at_builtin;refine wpList_append_own_none rfl _ _ 37 rfl (w.heap.size + 1 + 1) 145 i0 3 Tryz.underlying37 hi _ 0 [] rfl ho rfl ?_)
 have hlt2:=B2.lt
 have p0:=B1.cell 0 _ rfl
 have p1:=B1.cell 1 _ rfl
 have p2:=B1.cell 2 _ rfl
 have p3:=B1.cell 3 _ rfl
 have pf:=B1.frozen 3
 have q0:=B2.cell 0 _ rfl
 have q1:=B2.cell 1 _ rfl
 have q2:=B2.cell 2 _ rfl
 have q3:=B2.cell 3 _ rfl
 have f0:=B2.frozen 0
 have f1:=B2.frozen 1
 have f2:=B2.frozen 2
 have f3:=B2.frozen 3
 clear B1 B2
 go_wp2
 refine bodyPost_ret (v:=.agg #[.int .i64 i,.int .i64 s,.int .i64 q,.slice (some ⟨w.heap.size + 1 + 1,0,none⟩) 0 0]) (by simp [results,Tryz.results173,go_sem]) rfl ⟨_,_,rfl,?_,?_⟩
 ·have h9:=World.ownsRow_lit (e:=145) (size:=3) ((w.alloc (.cells #[.int .i64 i,.int .i64 s,.int .i64 q,.slice (some ⟨w.heap.size + 1 + 1,0,none⟩) 0 0] 39)).alloc (.cells #[.int .i64 i,.int .i64 s,.int .i64 q,.slice (some ⟨w.heap.size + 1 + 1,0,none⟩) 0 0] 39)) #[] 0 (Nat.le_refl _) (by decide) rfl
  simp only [World.size_alloc] at h9
  exact own_base h9 (by omega)
 ·go_grown

/-- A list of transactions whose acts begin somewhere, or are none. -/
def NiceQ9 (p:TxnQ):Prop:=(p.va=.slice none 0 0∧p.acts=[])∨∃ b off c,p.va=.slice (some ⟨b,off,none⟩) p.acts.length c

set_option maxHeartbeats 2000000 in
theorem l2CopyG9_any (p:TxnQ) (w:World) (h:txnK.rd w p) (hN:NiceQ9 p) (hl:p.acts.length≤1048576) :
  Calls Tryz.prog 173 #[.agg #[.int .i64 p.i,.int .i64 p.s,.int .i64 p.q,p.va]] w fun e w' => ∃ a c,e=.returned (.agg #[.int .i64 p.i,.int .i64 p.s,.int .i64 p.q,.slice a p.acts.length c]) ∧
   w'.ownsRow w.heap.size 145 3 (.slice a p.acts.length c) p.acts.length (actCells p.acts)∧Below w.heap.size w w' := by
 obtain ⟨i,s,q,va,acts⟩:=p
 dsimp only
 rcases hN with ⟨e1,e2⟩ | ⟨b,off,c,e1⟩
 ·dsimp only at e1 e2
  subst e1 e2
  exact l2CopyN9_any i s q w
 ·dsimp only at e1
  subst e1
  have hT:actK.At w (.slice (some ⟨b,off,none⟩) acts.length c) acts:=h
  exact l2CopyS9_any i s q b off c acts w (actK_at hT).2 hl

set_option maxHeartbeats 2000000 in
theorem l2CopyAll9_any (v:Value) (ps:List TxnQ) (w:World) (h:txnK.At w v ps) (hne:∀ p∈ps,NiceQ9 p) (hl:ps.length + nmL TxnQ.n ps≤1048576) :
  Calls Tryz.prog 170 #[v] w fun e w' => ∃ v' qs,e=.returned v' ∧ qs.map TxnQ.e=ps.map TxnQ.e∧txnK.Own w' v' qs∧(txnK.fp v' qs).Nodup∧(∀ k∈txnK.fp v' qs,w.heap.size≤k)∧Below w.heap.size w w' := by
 obtain ⟨a,cap,rfl⟩:=h.shape
 obtain ⟨i0,hi,hz0,hz1,hz2⟩:=info_parts infoTxn
 have ho:=World.ownsRow_lit (e:=39) (size:=4) w #[] 0 (Nat.le_refl _) (by decide) rfl
 have hn1:txnK.Own (w.alloc (.cells #[] 39)) (.slice (some ⟨w.heap.size,0,none⟩) 0 0) ([]:List TxnQ):=⟨(own_zero ho).1,fun p hp=>by simp at hp⟩
 have hnb:Below w.heap.size w (w.alloc (.cells #[] 39)):=by go_grown
 have HN0:Hid ((txnK.fp (.slice (some ⟨w.heap.size,0,none⟩) 0 0) ([]:List TxnQ)).Nodup∧∀ k∈txnK.fp (.slice (some ⟨w.heap.size,0,none⟩) 0 0) ([]:List TxnQ),w.heap.size≤k):=by
  refine ⟨?_,?_⟩
  ·simp [Kind.fp,blk,Value.ownBlock]
  ·simp [Kind.fp,blk,Value.ownBlock]
 clear ho
 go_enter Tryz.func170,Tryz.ntmps170
 go_wp2
 go_loopw [3,4] (fun v j wr=>∃ (k:Nat) (qs:List TxnQ),k≤ps.length∧j=.int .i64 k∧Hid (qs.map TxnQ.e=(ps.take k).map TxnQ.e)∧txnK.Own wr v qs∧Hid ((txnK.fp v qs).Nodup∧∀ k∈txnK.fp v qs,w.heap.size≤k)∧Below w.heap.size w wr) (fun _ j _=>ps.length - (intOf j).toNat)
 case atStart=>exact ⟨0,[],Nat.zero_le _,rfl,(rfl:_=_),hn1,HN0,hnb⟩
 case round=>
  clear HN0 hn1 hnb
  obtain ⟨k,qs,hk,rfl,HE,hO,HN,hb⟩:=hrel
  obtain ⟨sa,sc,rfl⟩:=hO.shape
  have HQL:Hid (qs.length=k):=by
   have:=congrArg List.length HE.out
   rw [List.length_map,List.length_map,List.length_take] at this
   show qs.length=k
   omega
  by_cases hlt:k < ps.length
  ·obtain ⟨b,off,rfl,hbs,hc,hrd⟩:=(h.below hb).cell (by decide) k hlt
   have hc' : ∀ j x,(txnK.cells ps[k])[j]? = some x→wr.cell? ⟨b,off + k * 4 + j,none⟩=some x:=hc
   have c0:=hc' 0 (.int .i64 ps[k].i) rfl
   have c1:=hc' 1 (.int .i64 ps[k].s) rfl
   have c2:=hc' 2 (.int .i64 ps[k].q) rfl
   have c3:=hc' 3 (ps[k].va) rfl
   have hzl:=nm_le TxnQ.n ps k hlt
   have hpos:=hne _ (List.getElem_mem hlt)
   have HPE:Hid (∀ p' : TxnQ,p'.e=TxnQ.e ps[k]→(qs ++ [p']).map TxnQ.e=(ps.take (k + 1)).map TxnQ.e):=fun p' hp' => by
    rw [List.take_succ_eq_append_getElem hlt,List.map_append,List.map_append,HE.out,List.map_singleton,List.map_singleton,hp']
   clear hc hc'
   generalize ps[k]=p at *
   obtain ⟨i,s,q,va,acts⟩:=p
   replace hrd:actK.At wr va acts:=hrd
   replace hzl:acts.length≤nmL TxnQ.n ps:=hzl
   obtain ⟨aa,ac,rfl⟩:=hrd.shape
   dsimp only at c0 c1 c2 c3
   have hcl:=l2CopyG9_any (⟨i,s,q,.slice aa acts.length ac,acts⟩:TxnQ) wr hrd hpos (by dsimp only;omega)
   dsimp only at hcl
   rw [Nat.add_zero] at c0
   clear HE
   go_wp2_with fail
   clear c0 c1 c2 c3
   have hYs:w.heap.size≤wr.heap.size:=hb.size
   refine hcl.mono ?_
   rintro e w2 ⟨a2,c2,rfl,ho2,hb2⟩
   have HLT:=hO.lt
   replace hO:=hO.below hb2
   replace hb:=hb.trans (hb2.mono hb.size)
   obtain ⟨o2,hk2⟩:=own_zero ho2
   have hP:txnK.own w2 ⟨i,s,q,.slice a2 acts.length c2,acts⟩:=⟨o2,fun _ _=>trivial⟩
   have hPlo:∀ x∈txnK.foot ⟨i,s,q,.slice a2 acts.length c2,acts⟩,wr.heap.size≤x:=fun x hx=>hk2 x (by rw [← actK_fp (.slice a2 acts.length c2) acts];exact hx)
   have hPn:(txnK.foot ⟨i,s,q,.slice a2 acts.length c2,acts⟩).Nodup:=by
    show (actK.fp _ _).Nodup
    rw [actK_fp];exact blk_nodup _
   have hbA:Below w2.heap.size w2 (w2.alloc (.cells #[.int .i64 i,.int .i64 s,.int .i64 q,.slice a2 acts.length c2] 39)):=by go_grown
   have hOA:=hO.below hbA
   have hPA:=txnK.own_out (F:=[]) hP (Out.of_below hbA) (fun _ _=>by simp)
   have hbB:=hb.trans (hbA.mono hb.size)
   clear hcl ho2 hO hP hk2
   have hrow0:=hOA.1
   go_wp2_with (at_builtin;refine wpList_append_own_at _ rfl _ _ 25 rfl 0 39 i0 (.agg #[.int .i64 0,.int .i64 0,.int .i64 0,.slice none 0 0]) 4 48 Tryz.underlying25 hi hz0 hz1 hz2 rfl (by decide) _ qs.length (txnK.row qs) rfl hrow0 ⟨w2.heap.size,0,none⟩ 1 1 [.int .i64 i,.int .i64 s,.int .i64 q,.slice a2 acts.length c2] rfl rfl ?c1 ?c2 ?c3 ?c4 ?c5 ?_)
   all_goals try (case c1=>intro j u hj;match j,hj with | 0,hj=>simp at hj;subst hj;simp [Addr.add] | 1,hj=>simp at hj;subst hj;simp [Addr.add] | 2,hj=>simp at hj;subst hj;simp [Addr.add] | 3,hj=>simp at hj;subst hj;simp [Addr.add])
   all_goals try (case c2=>intro u hu;simp at hu;rcases hu with rfl | rfl | rfl | rfl <;> rfl)
   all_goals try (case c3=>have:=HQL.out;unfold maxLen;omega)
   all_goals try (case c4=>have:=HQL.out;omega)
   all_goals try (case c5=>first | omega | simp)
   intro v' w5 hown hgrow hnil hat
   clear hnil hrow0
   rw [show w2.heap.size + 1=(w2.alloc (.cells #[.int .i64 i,.int .i64 s,.int .i64 q,.slice a2 acts.length c2] 39)).heap.size from (World.size_alloc _ _).symm] at hat
   generalize hwA:w2.alloc (.cells #[.int .i64 i,.int .i64 s,.int .i64 q,.slice a2 acts.length c2] 39)=WA at *
   clear hwA
   have hsz:wr.heap.size≤WA.heap.size:=by have:=hb2.size;have:=hbA.size;omega
   obtain ⟨hO5,hn5,hlo5,hou⟩:=hOA.snoc HN.out.1 HN.out.2 hPA hPn (fun x hx hx' => by have:=HLT x hx';have:=hPlo x hx;omega) (fun x hx=>by have:=hPlo x hx;omega) hbB.size hown hgrow hat
   have hb5:Below w.heap.size w w5:=Out.keep hbB hou hbB.size (fun x hx=>HN.out.2 x (by simp only [Kind.fp,List.mem_append];exact Or.inl hx))
   have HE5:Hid ((qs ++ [(⟨i,s,q,.slice a2 acts.length c2,acts⟩:TxnQ)]).map TxnQ.e=(ps.take (k + 1)).map TxnQ.e):=HPE.out _ rfl
   have HN5:Hid ((txnK.fp v' (qs ++ [(⟨i,s,q,.slice a2 acts.length c2,acts⟩:TxnQ)])).Nodup∧∀ k∈txnK.fp v' (qs ++ [(⟨i,s,q,.slice a2 acts.length c2,acts⟩:TxnQ)]),w.heap.size≤k):=⟨hn5,hlo5⟩
   clear HPE HN HLT hPlo hPn hPA hOA hbB hown hgrow hat hou hn5 hlo5 hrd hb hbA hb2 hzl hpos
   go_wp2
   go_roundw
   case rel=>exact ⟨k + 1,_,by omega,by go_num,HE5,hO5,HN5,hb5⟩
   case measure=>simp [intOf];omega
  ·have hkl:k=ps.length:=by omega
   subst hkl
   have hE:=HE.out
   rw [List.take_length] at hE
   clear HE
   go_wp2
   go_ret
   exact ⟨_,qs,rfl,hE,hO,HN.out.1,HN.out.2,hb⟩

theorem niceQ_of {w:World} {p:TxnQ} (h:txnK.own w p):NiceQ9 p:=by
 have h:actK.Own w p.va p.acts:=h
 rcases h.1.2 with ⟨h1,h0⟩ | ⟨g,cap,cur,h1,_⟩
 ·exact Or.inl ⟨h1,List.eq_nil_of_length_eq_zero h0⟩
 ·exact Or.inr ⟨g,0,cap,h1⟩

end Go.Proofs.YtpmkhnakgeillaaGreatDoor
namespace Go.Proofs.YtpmkhnakgeillaaGreatDoor
open Go.RowKit
open Go.BigFrame
set_option maxRecDepth 100000
theorem row_capL {w:World} {base e size n:Nat} {v:Value} {xs:List Value} (h:w.ownsRow base e size v n xs):CapOk v:=by
 rcases h.2 with ⟨rfl,_⟩ | ⟨g,cap,cur,rfl,_,_,h1,h2,_⟩
 ·exact ⟨Nat.zero_le _,Nat.zero_le _⟩
 ·exact ⟨h1,h2⟩

theorem txq_n9 {ps qs:List TxnQ} (h:ps.map TxnQ.e=qs.map TxnQ.e):ps.length + nmL TxnQ.n ps=qs.length + nmL TxnQ.n qs:=by
 have e:∀ l:List TxnQ,nmL TxnQ.n l=nmL TxnD.n (l.map TxnQ.e):=fun l=>by simp only [nmL,List.map_map];rfl
 have hl:ps.length=qs.length:=by simpa using congrArg List.length h
 rw [e,e,h,hl]

end Go.Proofs.YtpmkhnakgeillaaGreatDoor
namespace Go.Proofs.YtpmkhnakgeillaaGreatDoor
open Go.RowKit
open Go.BigFrame
set_option maxRecDepth 100000
/-- A block that was there ahead of the record is written over. -/
theorem RecPost.row {w w' : World} {vN iN vU iU:Value} {D E:List TxnD} (h:RecPost w w' vN iN vU iU D E) {g:Nat} (hg:g < w.heap.size) (cs:Array Value):RecPost w (w'.setRow g cs) vN iN vU iU D E:=by
 obtain ⟨ds,us,rb,B0,R,e1,e2,h1,h2⟩:=h
 have hO:=out_row w' g cs
 have nF:∀ {k},B0≤k→k ∉ [g]:=fun hk hm=>by simp only [List.mem_singleton] at hm;omega
 have hrb:rb ∉ [g]:=fun hm=>by simp only [List.mem_singleton] at hm;omega
 exact ⟨ds,us,rb,B0,⟨(hO.block rb R.B.lt hrb).trans R.B,own_outs R.oN hO (fun k hk=>nF (R.lN k hk)),R.aN,own_outs R.oU hO (fun k hk=>nF (R.lU k hk)),fun p hp=>⟨(R.aU p hp).1,(R.aU p hp).2.out hO (fun k hk=>by rw [undoK_fp] at hk;exact nF (R.d3 p hp k hk).1)⟩,R.jN.out hO (fun k hk=>by rw [itemK_fp] at hk;exact nF (R.d1 k hk).1),R.jU.out hO (fun k hk=>by rw [itemK_fp] at hk;exact nF (R.d2 k hk).1),R.nu,R.lN,R.lU,R.d1,R.d2,R.d3⟩,e1,e2,h1,h2⟩

end Go.Proofs.YtpmkhnakgeillaaGreatDoor
namespace Go.Proofs.YtpmkhnakgeillaaGreatDoor
open Go.RowKit
set_option maxRecDepth 100000
/-- The fault of a node: what it knows, what is safe, and its replica. -/
def nodF (ds:List InstE) (kn sf:Int) (r:RepE):Int:=
 if ordF ds=0 then (if (0≤kn∧kn≤(decN ds:Int))∧0≤sf∧sf≤kn then (if repF r=0 then (if sameTs r.done (defL ds kn.toNat)=true then 0 else 8) else repF r) else 3) else ordF ds

theorem nod_ways (ds:List InstE) (kn sf:Int) (r:RepE):(ordF ds≠0∧nodF ds kn sf r=ordF ds)∨(ordF ds=0∧¬ (0≤kn∧kn≤(decN ds:Int))∧nodF ds kn sf r=3) ∨
  (ordF ds=0∧(0≤kn∧kn≤(decN ds:Int))∧¬ (0≤sf∧sf≤kn)∧nodF ds kn sf r=3)∨(ordF ds=0∧(0≤kn∧kn≤(decN ds:Int))∧(0≤sf∧sf≤kn)∧repF r≠0∧nodF ds kn sf r=repF r) ∨
  (ordF ds=0∧(0≤kn∧kn≤(decN ds:Int))∧(0≤sf∧sf≤kn)∧repF r=0∧sameTs r.done (defL ds kn.toNat)=false∧nodF ds kn sf r=8) ∨
  (ordF ds=0∧(0≤kn∧kn≤(decN ds:Int))∧(0≤sf∧sf≤kn)∧repF r=0∧sameTs r.done (defL ds kn.toNat)=true∧nodF ds kn sf r=0):=by
 unfold nodF
 by_cases h0:ordF ds=0
 ·by_cases h1:0≤kn∧kn≤(decN ds:Int)
  ·by_cases h2:0≤sf∧sf≤kn
   ·by_cases h3:repF r=0
    ·cases h4:sameTs r.done (defL ds kn.toNat) <;> simp [h0,h1,h2,h3]
    ·simp [h0,h1,h2,h3]
   ·have h12:¬ ((0≤kn∧kn≤(decN ds:Int))∧0≤sf∧sf≤kn):=fun h=>h2 h.2
    right;right;left
    exact ⟨h0,h1,h2,by rw [if_pos h0,if_neg h12]⟩
  ·have h12:¬ ((0≤kn∧kn≤(decN ds:Int))∧0≤sf∧sf≤kn):=fun h=>h1 h.1
   right;left
   exact ⟨h0,h1,by rw [if_pos h0,if_neg h12]⟩
 ·left
  exact ⟨h0,by rw [if_neg h0]⟩

theorem def_len {ds:List InstE} (h:ordF ds=0) (m:Nat):(defL ds m).length≤16:=by
 have h1:=onc_len (takF (ds.take m)) []
 have h2:=tak_len (ds:=ds.take m) (fun x hx=>ord_mem h x (List.mem_of_mem_take hx))
 have h3:=((ord_iff ds).1 h).1.2
 have h4:(ds.take m).length≤ds.length:=by rw [List.length_take];omega
 simp only [List.length_nil,Nat.zero_add] at h1
 unfold defL
 omega

end Go.Proofs.YtpmkhnakgeillaaGreatDoor
namespace Go.Proofs.YtpmkhnakgeillaaGreatDoor
open Go.RowKit
open Go.BigFrame
set_option maxRecDepth 100000
/-- Lists of transactions, held against each other by kinds. -/
theorem sameTx_k (v v' : Value) (xs ys:List TxnQ) (w:World) (h:txnK.At w v xs) (h' : txnK.At w v' ys) (hl:xs.length + nmL TxnQ.n xs≤1048576) (hl' : ys.length + nmL TxnQ.n ys≤1048576) :
  Calls Tryz.prog 19 #[v,v'] w fun e w' => e=.returned (.bool (sameTs (xs.map TxnQ.e) (ys.map TxnQ.e)))∧Below w.heap.size w w' :=
 implSameTxns_any v v' _ _ w (txnsAt_of' h) (txnsAt_of' h') (by rw [List.length_map,sumA_of'];omega) (by rw [List.length_map,sumA_of'];omega)

theorem sameTxS_k (v v' : Value) (xs ys:List TxnQ) (w:World) (h:txnK.At w v xs) (h' : txnK.At w v' ys) (hl:xs.length + nmL TxnQ.n xs≤1048576) (hl' : ys.length + nmL TxnQ.n ys≤1048576) :
  Calls Tryz.prog 111 #[v,v'] w fun e w' => e=.returned (.bool (sameTs (xs.map TxnQ.e) (ys.map TxnQ.e)))∧Below w.heap.size w w' :=
 specSameTxns_any v v' _ _ w (txnsAt_of' h) (txnsAt_of' h') (by rw [List.length_map,sumA_of'];omega) (by rw [List.length_map,sumA_of'];omega)

theorem l7Dec_k (v:Value) (ps:List InstQ) (w:World) (h:instK.At w v ps) (hl:(ps.length + nmL InstQ.n ps)≤1048576) (h0:ordF (ps.map InstQ.e)=0) :
  Calls Tryz.prog 73 #[v] w fun e w' => e=.returned (.int .i64 (decN (ps.map InstQ.e):Int))∧Below w.heap.size w w' := by
 have h1:=((ord_iff _).1 h0).1
 rw [List.length_map] at h1
 exact l7Decided_any v ps w h hl h1.1 h1.2

theorem l7Def_k (v:Value) (ps:List InstQ) (n:Int) (w:World) (h:instK.At w v ps) (hl:(ps.length + nmL InstQ.n ps)≤1048576) (h0:ordF (ps.map InstQ.e)=0) (hn:0≤n∧n≤(decN (ps.map InstQ.e):Int)) :
  Calls Tryz.prog 112 #[v,.int .i64 n] w fun e w' => ∃ v' qs,e=.returned v' ∧ qs.map TxnQ.e=defL (ps.map InstQ.e) n.toNat∧txnK.Own w' v' qs∧(txnK.fp v' qs).Nodup∧(∀ k∈txnK.fp v' qs,w.heap.size≤k)∧Below w.heap.size w w' := by
 have h1:=((ord_iff _).1 h0).1
 have hm:=ord_mem h0
 have hd:=decN_le (ps.map InstQ.e)
 rw [List.length_map] at h1 hd
 obtain ⟨m,rfl⟩:∃ m:Nat,n=(m:Int):=⟨n.toNat,by omega⟩
 rw [Int.toNat_natCast]
 exact l7Definite_any v ps m w h (fun q hq=>ins_low (hm _ (List.mem_map.2 ⟨q,hq,rfl⟩))) (fun q hq=>bat4 (hm _ (List.mem_map.2 ⟨q,hq,rfl⟩))) (by omega) h1.2 hl

end Go.Proofs.YtpmkhnakgeillaaGreatDoor
