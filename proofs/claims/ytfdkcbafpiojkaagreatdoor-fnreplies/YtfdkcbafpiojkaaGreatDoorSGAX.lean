/- Texts joined, with what the laws reach alone. -/
import Derived.Test.YtfdkcbafpiojkaaGreatDoorSGAW
set_option linter.unusedVariables false
set_option linter.unusedSimpArgs false
namespace Go.Proofs.YtfdkcbafpiojkaaGreatDoor
open Go.RowKit
open Go.BigFrame
set_option maxRecDepth 100000
set_option maxRecDepth 100000 in
set_option maxHeartbeats 1000000 in
theorem l2CopyS9_any (i s q:Int) (b off cap:Nat) (zs:List ActD) (w:World) (h:ActRow w (some ⟨b,off,none⟩) zs) (hl:zs.length≤1048576) :
  Calls Tryz.prog 131 #[.agg #[.int .i64 i,.int .i64 s,.int .i64 q,.slice (some ⟨b,off,none⟩) zs.length cap]] w fun e w' => ∃ a c,e=.returned (.agg #[.int .i64 i,.int .i64 s,.int .i64 q,.slice a zs.length c]) ∧
   w'.ownsRow w.heap.size 146 3 (.slice a zs.length c) zs.length (actCells zs)∧Below w.heap.size w w' := by
 obtain ⟨i0,hi,hz0,hz1,hz2⟩:=info_parts infoAct
 have hs:=lies_src (Lies.below h (w' := ((w.alloc (.cells #[.int .i64 i,.int .i64 s,.int .i64 q,.slice (some ⟨b,off,none⟩) zs.length cap] 49)).alloc (.cells #[.int .i64 0,.int .i64 0,.int .i64 0,.slice none 0 0] 49)).alloc (.cells #[] 146)) (by go_grown))
 have hcl:=actCells_length zs
 have ho:=World.ownsRow_lit (e:=146) (size:=3) ((w.alloc (.cells #[.int .i64 i,.int .i64 s,.int .i64 q,.slice (some ⟨b,off,none⟩) zs.length cap] 49)).alloc (.cells #[.int .i64 0,.int .i64 0,.int .i64 0,.slice none 0 0] 49)) #[] 0 (Nat.le_refl _) (by decide) rfl
 have hb1:Below w.heap.size w (((w.alloc (.cells #[.int .i64 i,.int .i64 s,.int .i64 q,.slice (some ⟨b,off,none⟩) zs.length cap] 49)).alloc (.cells #[.int .i64 0,.int .i64 0,.int .i64 0,.slice none 0 0] 49)).alloc (.cells #[] 146)):=by go_grown
 have B1:=(Blk.new w 49 #[.int .i64 i,.int .i64 s,.int .i64 q,.slice (some ⟨b,off,none⟩) zs.length cap]).below (w' := ((w.alloc (.cells #[.int .i64 i,.int .i64 s,.int .i64 q,.slice (some ⟨b,off,none⟩) zs.length cap] 49)).alloc (.cells #[.int .i64 0,.int .i64 0,.int .i64 0,.slice none 0 0] 49)).alloc (.cells #[] 146)) (by go_grown)
 have B2:=(Blk.new (w.alloc (.cells #[.int .i64 i,.int .i64 s,.int .i64 q,.slice (some ⟨b,off,none⟩) zs.length cap] 49)) 49 #[.int .i64 0,.int .i64 0,.int .i64 0,.slice none 0 0]).below (w' := ((w.alloc (.cells #[.int .i64 i,.int .i64 s,.int .i64 q,.slice (some ⟨b,off,none⟩) zs.length cap] 49)).alloc (.cells #[.int .i64 0,.int .i64 0,.int .i64 0,.slice none 0 0] 49)).alloc (.cells #[] 146)) (by go_grown)
 have HS:Hid (∀ j u,(actCells zs)[j]? = some u→_):=hs
 clear hs
 simp only [World.size_alloc] at B2 ho
 go_enter Tryz.func131,Tryz.ntmps131
 go_wp2_with (at_builtin;refine wpList_append_own _ rfl _ _ 47 rfl (w.heap.size + 1 + 1) 146 i0 (.agg #[.int .i64 0,.int .i64 0,.int .i64 0]) 3 24 Tryz.underlying47 hi hz0 hz1 hz2 rfl (by decide) _ 0 [] rfl ho ⟨b,off,none⟩ zs.length cap (actCells zs) rfl hcl HS.out ?c2 ?c3 ?c4 ?c5 ?_)
 all_goals try (case c2=>exact acts_oneCell zs)
 all_goals try (case c3=>unfold maxLen;omega)
 all_goals try (case c4=>omega)
 all_goals try (case c5=>simp)
 intro v' w2 hown hgrow _
 obtain ⟨a2,c2,rfl⟩:=own_shape hown
 replace B1:=B1.grown hgrow (by simp [Value.ownBlock] <;> omega)
 replace B2:=B2.grown hgrow (by simp [Value.ownBlock] <;> omega)
 have hb2:Below w.heap.size w w2:=hb1.grown hgrow (by simp;omega) (fun k hk=>by simp [Value.ownBlock] at hk;omega)
 have hlt2:=B2.lt
 have p0:=B1.cell 0 _ rfl
 have p1:=B1.cell 1 _ rfl
 have p2:=B1.cell 2 _ rfl
 have p3:=B1.cell 3 _ rfl
 have pf:=B1.frozen 3
 have q0:=B2.cell 0 _ rfl
 have q1:=B2.cell 1 _ rfl
 have q2:=B2.cell 2 _ rfl
 have q3:=B2.cell 3 _ rfl
 have f0:=B2.frozen 0
 have f1:=B2.frozen 1
 have f2:=B2.frozen 2
 have f3:=B2.frozen 3
 try simp only [Nat.zero_add] at hown
 clear B1 B2 hgrow HS ho hb1
 go_wp2
 refine bodyPost_ret (v:=.agg #[.int .i64 i,.int .i64 s,.int .i64 q,.slice a2 zs.length c2]) (by simp [results,Tryz.results131,go_sem,q0,q1,q2,q3]) rfl ⟨_,_,rfl,?_,?_⟩
 ·refine own_base (base:=w.heap.size + 1 + 1) ?_ (by omega)
  repeat' (refine ownsRow_setCell_below ?_ (by dsimp only;omega) _)
  simpa using hown
 ·repeat' (refine Below.setCell ?_ (by dsimp only;omega) _)
  exact hb2

set_option maxRecDepth 100000 in
set_option maxHeartbeats 1000000 in
theorem l2CopyN9_any (i s q:Int) (w:World) :
  Calls Tryz.prog 131 #[.agg #[.int .i64 i,.int .i64 s,.int .i64 q,.slice none 0 0]] w fun e w' => ∃ a c,e=.returned (.agg #[.int .i64 i,.int .i64 s,.int .i64 q,.slice a 0 c]) ∧
   w'.ownsRow w.heap.size 146 3 (.slice a 0 c) 0 (actCells [])∧Below w.heap.size w w' := by
 obtain ⟨i0,hi,hz0,hz1,hz2⟩:=info_parts infoAct
 have ho:=World.ownsRow_lit (e:=146) (size:=3) ((w.alloc (.cells #[.int .i64 i,.int .i64 s,.int .i64 q,.slice none 0 0] 49)).alloc (.cells #[.int .i64 0,.int .i64 0,.int .i64 0,.slice none 0 0] 49)) #[] 0 (Nat.le_refl _) (by decide) rfl
 have hb1:Below w.heap.size w (((w.alloc (.cells #[.int .i64 i,.int .i64 s,.int .i64 q,.slice none 0 0] 49)).alloc (.cells #[.int .i64 0,.int .i64 0,.int .i64 0,.slice none 0 0] 49)).alloc (.cells #[] 146)):=by go_grown
 have B1:=(Blk.new w 49 #[.int .i64 i,.int .i64 s,.int .i64 q,.slice none 0 0]).below (w' := ((w.alloc (.cells #[.int .i64 i,.int .i64 s,.int .i64 q,.slice none 0 0] 49)).alloc (.cells #[.int .i64 0,.int .i64 0,.int .i64 0,.slice none 0 0] 49)).alloc (.cells #[] 146)) (by go_grown)
 have B2:=(Blk.new (w.alloc (.cells #[.int .i64 i,.int .i64 s,.int .i64 q,.slice none 0 0] 49)) 49 #[.int .i64 0,.int .i64 0,.int .i64 0,.slice none 0 0]).below (w' := ((w.alloc (.cells #[.int .i64 i,.int .i64 s,.int .i64 q,.slice none 0 0] 49)).alloc (.cells #[.int .i64 0,.int .i64 0,.int .i64 0,.slice none 0 0] 49)).alloc (.cells #[] 146)) (by go_grown)
 simp only [World.size_alloc] at B2 ho
 go_enter Tryz.func131,Tryz.ntmps131
 go_wp2_with (at_builtin;refine wpList_append_own_none rfl _ _ 47 rfl (w.heap.size + 1 + 1) 146 i0 3 Tryz.underlying47 hi _ 0 [] rfl ho rfl ?_)
 have hlt2:=B2.lt
 have p0:=B1.cell 0 _ rfl
 have p1:=B1.cell 1 _ rfl
 have p2:=B1.cell 2 _ rfl
 have p3:=B1.cell 3 _ rfl
 have pf:=B1.frozen 3
 have q0:=B2.cell 0 _ rfl
 have q1:=B2.cell 1 _ rfl
 have q2:=B2.cell 2 _ rfl
 have q3:=B2.cell 3 _ rfl
 have f0:=B2.frozen 0
 have f1:=B2.frozen 1
 have f2:=B2.frozen 2
 have f3:=B2.frozen 3
 clear B1 B2
 go_wp2
 refine bodyPost_ret (v:=.agg #[.int .i64 i,.int .i64 s,.int .i64 q,.slice (some ⟨w.heap.size + 1 + 1,0,none⟩) 0 0]) (by simp [results,Tryz.results131,go_sem]) rfl ⟨_,_,rfl,?_,?_⟩
 ·have h9:=World.ownsRow_lit (e:=146) (size:=3) ((w.alloc (.cells #[.int .i64 i,.int .i64 s,.int .i64 q,.slice (some ⟨w.heap.size + 1 + 1,0,none⟩) 0 0] 49)).alloc (.cells #[.int .i64 i,.int .i64 s,.int .i64 q,.slice (some ⟨w.heap.size + 1 + 1,0,none⟩) 0 0] 49)) #[] 0 (Nat.le_refl _) (by decide) rfl
  simp only [World.size_alloc] at h9
  exact own_base h9 (by omega)
 ·go_grown

/-- A list of transactions whose acts begin somewhere, or are none. -/
def NiceQ9 (p:TxnQ):Prop:=(p.va=.slice none 0 0∧p.acts=[])∨∃ b off c,p.va=.slice (some ⟨b,off,none⟩) p.acts.length c

set_option maxHeartbeats 2000000 in
theorem l2CopyG9_any (p:TxnQ) (w:World) (h:txnK.rd w p) (hN:NiceQ9 p) (hl:p.acts.length≤1048576) :
  Calls Tryz.prog 131 #[.agg #[.int .i64 p.i,.int .i64 p.s,.int .i64 p.q,p.va]] w fun e w' => ∃ a c,e=.returned (.agg #[.int .i64 p.i,.int .i64 p.s,.int .i64 p.q,.slice a p.acts.length c]) ∧
   w'.ownsRow w.heap.size 146 3 (.slice a p.acts.length c) p.acts.length (actCells p.acts)∧Below w.heap.size w w' := by
 obtain ⟨i,s,q,va,acts⟩:=p
 dsimp only
 rcases hN with ⟨e1,e2⟩ | ⟨b,off,c,e1⟩
 ·dsimp only at e1 e2
  subst e1 e2
  exact l2CopyN9_any i s q w
 ·dsimp only at e1
  subst e1
  have hT:actK.At w (.slice (some ⟨b,off,none⟩) acts.length c) acts:=h
  exact l2CopyS9_any i s q b off c acts w (actK_at hT).2 hl

set_option maxHeartbeats 2000000 in
theorem l2CopyAll9_any (v:Value) (ps:List TxnQ) (w:World) (h:txnK.At w v ps) (hne:∀ p∈ps,NiceQ9 p) (hl:ps.length + nmL TxnQ.n ps≤1048576) :
  Calls Tryz.prog 92 #[v] w fun e w' => ∃ v' qs,e=.returned v' ∧ qs.map TxnQ.e=ps.map TxnQ.e∧txnK.Own w' v' qs∧(txnK.fp v' qs).Nodup∧(∀ k∈txnK.fp v' qs,w.heap.size≤k)∧Below w.heap.size w w' := by
 obtain ⟨a,cap,rfl⟩:=h.shape
 obtain ⟨i0,hi,hz0,hz1,hz2⟩:=info_parts infoTxn
 have ho:=World.ownsRow_lit (e:=49) (size:=4) w #[] 0 (Nat.le_refl _) (by decide) rfl
 have hn1:txnK.Own (w.alloc (.cells #[] 49)) (.slice (some ⟨w.heap.size,0,none⟩) 0 0) ([]:List TxnQ):=⟨(own_zero ho).1,fun p hp=>by simp at hp⟩
 have hnb:Below w.heap.size w (w.alloc (.cells #[] 49)):=by go_grown
 have HN0:Hid ((txnK.fp (.slice (some ⟨w.heap.size,0,none⟩) 0 0) ([]:List TxnQ)).Nodup∧∀ k∈txnK.fp (.slice (some ⟨w.heap.size,0,none⟩) 0 0) ([]:List TxnQ),w.heap.size≤k):=by
  refine ⟨?_,?_⟩
  ·simp [Kind.fp,blk,Value.ownBlock]
  ·simp [Kind.fp,blk,Value.ownBlock]
 clear ho
 go_enter Tryz.func92,Tryz.ntmps92
 go_wp2
 go_loopw [3,4] (fun v j wr=>∃ (k:Nat) (qs:List TxnQ),k≤ps.length∧j=.int .i64 k∧Hid (qs.map TxnQ.e=(ps.take k).map TxnQ.e)∧txnK.Own wr v qs∧Hid ((txnK.fp v qs).Nodup∧∀ k∈txnK.fp v qs,w.heap.size≤k)∧Below w.heap.size w wr) (fun _ j _=>ps.length - (intOf j).toNat)
 case atStart=>exact ⟨0,[],Nat.zero_le _,rfl,(rfl:_=_),hn1,HN0,hnb⟩
 case round=>
  clear HN0 hn1 hnb
  obtain ⟨k,qs,hk,rfl,HE,hO,HN,hb⟩:=hrel
  obtain ⟨sa,sc,rfl⟩:=hO.shape
  have HQL:Hid (qs.length=k):=by
   have:=congrArg List.length HE.out
   rw [List.length_map,List.length_map,List.length_take] at this
   show qs.length=k
   omega
  by_cases hlt:k < ps.length
  ·obtain ⟨b,off,rfl,hbs,hc,hrd⟩:=(h.below hb).cell (by decide) k hlt
   have hc' : ∀ j x,(txnK.cells ps[k])[j]? = some x→wr.cell? ⟨b,off + k * 4 + j,none⟩=some x:=hc
   have c0:=hc' 0 (.int .i64 ps[k].i) rfl
   have c1:=hc' 1 (.int .i64 ps[k].s) rfl
   have c2:=hc' 2 (.int .i64 ps[k].q) rfl
   have c3:=hc' 3 (ps[k].va) rfl
   have hzl:=nm_le TxnQ.n ps k hlt
   have hpos:=hne _ (List.getElem_mem hlt)
   have HPE:Hid (∀ p' : TxnQ,p'.e=TxnQ.e ps[k]→(qs ++ [p']).map TxnQ.e=(ps.take (k + 1)).map TxnQ.e):=fun p' hp' => by
    rw [List.take_succ_eq_append_getElem hlt,List.map_append,List.map_append,HE.out,List.map_singleton,List.map_singleton,hp']
   clear hc hc'
   generalize ps[k]=p at *
   obtain ⟨i,s,q,va,acts⟩:=p
   replace hrd:actK.At wr va acts:=hrd
   replace hzl:acts.length≤nmL TxnQ.n ps:=hzl
   obtain ⟨aa,ac,rfl⟩:=hrd.shape
   dsimp only at c0 c1 c2 c3
   have hcl:=l2CopyG9_any (⟨i,s,q,.slice aa acts.length ac,acts⟩:TxnQ) wr hrd hpos (by dsimp only;omega)
   dsimp only at hcl
   rw [Nat.add_zero] at c0
   clear HE
   go_wp2_with fail
   clear c0 c1 c2 c3
   have hYs:w.heap.size≤wr.heap.size:=hb.size
   refine hcl.mono ?_
   rintro e w2 ⟨a2,c2,rfl,ho2,hb2⟩
   have HLT:=hO.lt
   replace hO:=hO.below hb2
   replace hb:=hb.trans (hb2.mono hb.size)
   obtain ⟨o2,hk2⟩:=own_zero ho2
   have hP:txnK.own w2 ⟨i,s,q,.slice a2 acts.length c2,acts⟩:=⟨o2,fun _ _=>trivial⟩
   have hPlo:∀ x∈txnK.foot ⟨i,s,q,.slice a2 acts.length c2,acts⟩,wr.heap.size≤x:=fun x hx=>hk2 x (by rw [← actK_fp (.slice a2 acts.length c2) acts];exact hx)
   have hPn:(txnK.foot ⟨i,s,q,.slice a2 acts.length c2,acts⟩).Nodup:=by
    show (actK.fp _ _).Nodup
    rw [actK_fp];exact blk_nodup _
   have hbA:Below w2.heap.size w2 (w2.alloc (.cells #[.int .i64 i,.int .i64 s,.int .i64 q,.slice a2 acts.length c2] 49)):=by go_grown
   have hOA:=hO.below hbA
   have hPA:=txnK.own_out (F:=[]) hP (Out.of_below hbA) (fun _ _=>by simp)
   have hbB:=hb.trans (hbA.mono hb.size)
   clear hcl ho2 hO hP hk2
   have hrow0:=hOA.1
   go_wp2_with (at_builtin;refine wpList_append_own_at _ rfl _ _ 28 rfl 0 49 i0 (.agg #[.int .i64 0,.int .i64 0,.int .i64 0,.slice none 0 0]) 4 48 Tryz.underlying28 hi hz0 hz1 hz2 rfl (by decide) _ qs.length (txnK.row qs) rfl hrow0 ⟨w2.heap.size,0,none⟩ 1 1 [.int .i64 i,.int .i64 s,.int .i64 q,.slice a2 acts.length c2] rfl rfl ?c1 ?c2 ?c3 ?c4 ?c5 ?_)
   all_goals try (case c1=>intro j u hj;match j,hj with | 0,hj=>simp at hj;subst hj;simp [Addr.add] | 1,hj=>simp at hj;subst hj;simp [Addr.add] | 2,hj=>simp at hj;subst hj;simp [Addr.add] | 3,hj=>simp at hj;subst hj;simp [Addr.add])
   all_goals try (case c2=>intro u hu;simp at hu;rcases hu with rfl | rfl | rfl | rfl <;> rfl)
   all_goals try (case c3=>have:=HQL.out;unfold maxLen;omega)
   all_goals try (case c4=>have:=HQL.out;omega)
   all_goals try (case c5=>first | omega | simp)
   intro v' w5 hown hgrow hnil hat
   clear hnil hrow0
   rw [show w2.heap.size + 1=(w2.alloc (.cells #[.int .i64 i,.int .i64 s,.int .i64 q,.slice a2 acts.length c2] 49)).heap.size from (World.size_alloc _ _).symm] at hat
   generalize hwA:w2.alloc (.cells #[.int .i64 i,.int .i64 s,.int .i64 q,.slice a2 acts.length c2] 49)=WA at *
   clear hwA
   have hsz:wr.heap.size≤WA.heap.size:=by have:=hb2.size;have:=hbA.size;omega
   obtain ⟨hO5,hn5,hlo5,hou⟩:=hOA.snoc HN.out.1 HN.out.2 hPA hPn (fun x hx hx' => by have:=HLT x hx';have:=hPlo x hx;omega) (fun x hx=>by have:=hPlo x hx;omega) hbB.size hown hgrow hat
   have hb5:Below w.heap.size w w5:=Out.keep hbB hou hbB.size (fun x hx=>HN.out.2 x (by simp only [Kind.fp,List.mem_append];exact Or.inl hx))
   have HE5:Hid ((qs ++ [(⟨i,s,q,.slice a2 acts.length c2,acts⟩:TxnQ)]).map TxnQ.e=(ps.take (k + 1)).map TxnQ.e):=HPE.out _ rfl
   have HN5:Hid ((txnK.fp v' (qs ++ [(⟨i,s,q,.slice a2 acts.length c2,acts⟩:TxnQ)])).Nodup∧∀ k∈txnK.fp v' (qs ++ [(⟨i,s,q,.slice a2 acts.length c2,acts⟩:TxnQ)]),w.heap.size≤k):=⟨hn5,hlo5⟩
   clear HPE HN HLT hPlo hPn hPA hOA hbB hown hgrow hat hou hn5 hlo5 hrd hb hbA hb2 hzl hpos
   go_wp2
   go_roundw
   case rel=>exact ⟨k + 1,_,by omega,by go_num,HE5,hO5,HN5,hb5⟩
   case measure=>simp [intOf];omega
  ·have hkl:k=ps.length:=by omega
   subst hkl
   have hE:=HE.out
   rw [List.take_length] at hE
   clear HE
   go_wp2
   go_ret
   exact ⟨_,qs,rfl,hE,hO,HN.out.1,HN.out.2,hb⟩

theorem niceQ_of {w:World} {p:TxnQ} (h:txnK.own w p):NiceQ9 p:=by
 have h:actK.Own w p.va p.acts:=h
 rcases h.1.2 with ⟨h1,h0⟩ | ⟨g,cap,cur,h1,_⟩
 ·exact Or.inl ⟨h1,List.eq_nil_of_length_eq_zero h0⟩
 ·exact Or.inr ⟨g,0,cap,h1⟩

end Go.Proofs.YtfdkcbafpiojkaaGreatDoor
namespace Go.Proofs.YtfdkcbafpiojkaaGreatDoor
open Go.RowKit
open Go.BigFrame
set_option maxRecDepth 100000
theorem row_capL {w:World} {base e size n:Nat} {v:Value} {xs:List Value} (h:w.ownsRow base e size v n xs):CapOk v:=by
 rcases h.2 with ⟨rfl,_⟩ | ⟨g,cap,cur,rfl,_,_,h1,h2,_⟩
 ·exact ⟨Nat.zero_le _,Nat.zero_le _⟩
 ·exact ⟨h1,h2⟩

theorem txq_n9 {ps qs:List TxnQ} (h:ps.map TxnQ.e=qs.map TxnQ.e):ps.length + nmL TxnQ.n ps=qs.length + nmL TxnQ.n qs:=by
 have e:∀ l:List TxnQ,nmL TxnQ.n l=nmL TxnD.n (l.map TxnQ.e):=fun l=>by simp only [nmL,List.map_map];rfl
 have hl:ps.length=qs.length:=by simpa using congrArg List.length h
 rw [e,e,h,hl]

set_option maxRecDepth 100000 in
set_option maxHeartbeats 16000000 in
theorem l9Fault_any (b:Nat) (p:RepQ) (w:World) (hB:Blk w b 32 #[p.vd,p.vb,p.vt,p.vu,p.vn]) (h:repK.own w p) (hl:p.n≤1048576) :
  Calls Tryz.prog 52 #[.pointer (some ⟨b,0,none⟩)] w fun e w' => e=.returned (.int .i64 (repF p.e))∧Below w.heap.size w w' := by
 obtain ⟨pvd,pd,pvb,pb,pvt,pt,pvu,pu,pvn,pn⟩:=p
 obtain ⟨p0,p5,rfl⟩:∃ a c,pvd=.slice a pd.length c:=h.1.shape
 obtain ⟨p1,p6,rfl⟩:∃ a c,pvb=.slice a pb.length c:=h.2.1.shape
 obtain ⟨p2,p7,rfl⟩:∃ a c,pvt=.slice a pt.length c:=h.2.2.1.shape
 obtain ⟨p3,p8,rfl⟩:∃ a c,pvu=.slice a pu.length c:=h.2.2.2.1.shape
 obtain ⟨p4,p9,rfl⟩:∃ a c,pvn=.slice a pn.length c:=h.2.2.2.2.shape
 dsimp only [RepQ.n] at hl
 have h0:=repK.own_rd h
 have HN1:∀ q∈pd,NiceQ9 q:=fun q hq=>niceQ_of (h.1.2 q hq)
 have HN2:∀ q∈pt,NiceQ9 q:=fun q hq=>niceQ_of (h.2.2.1.2 q hq)
 have nd:=h.1.niceV
 have nt:=h.2.2.1.niceV
 have hr:=fun (w' : World) hb=>repK.rd_below (w' := w') h0 hb
 have hpd:(pd.length:Int)≤1048576:=by omega
 have hpt:(pt.length:Int)≤1048576:=by omega
 have q0:=hB.cell 0 _ rfl
 have q2:=hB.cell 2 _ rfl
 clear h h0
 by_cases hm:16 < pd.length∨8 < pt.length
 ·have HC:Hid (repF (RepQ.e (⟨.slice p0 pd.length p5,pd,.slice p1 pb.length p6,pb,.slice p2 pt.length p7,pt,.slice p3 pu.length p8,pu,.slice p4 pn.length p9,pn⟩:RepQ))=2):=show _=_ from rep_many (by simpa [RepQ.e] using hm)
  generalize repF (RepQ.e (⟨.slice p0 pd.length p5,pd,.slice p1 pb.length p6,pb,.slice p2 pt.length p7,pt,.slice p3 pu.length p8,pu,.slice p4 pn.length p9,pn⟩:RepQ))=c at *
  clear hr HN1 HN2 nd nt
  by_cases h16:16 < pd.length
  ·have i16:(16:Int) < (pd.length:Int):=by omega
   go_enter Tryz.func52,Tryz.ntmps52
   go_wp2
   go_ret
   exact ⟨by first | (rw [HC.out];done) | (rw [HC.out];rfl) | (simp [HC.out]),Below.refl _ _⟩
  ·have i16:¬ (16:Int) < (pd.length:Int):=by omega
   have i8:(8:Int) < (pt.length:Int):=by omega
   go_enter Tryz.func52,Tryz.ntmps52
   go_wp2
   go_ret
   exact ⟨by first | (rw [HC.out];done) | (rw [HC.out];rfl) | (simp [HC.out]),Below.refl _ _⟩
 have i16:¬ (16:Int) < (pd.length:Int):=by omega
 have i8:¬ (8:Int) < (pt.length:Int):=by omega
 have hl16:pd.length≤16:=by omega
 have hl8:pt.length≤8:=by omega
 have hm' : ¬ (16 < (pd.map TxnQ.e).length∨8 < (pt.map TxnQ.e).length):=by simpa using hm
 have HREP:=Wrp.mk (rep_list (r:=RepQ.e (⟨.slice p0 pd.length p5,pd,.slice p1 pb.length p6,pb,.slice p2 pt.length p7,pt,.slice p3 pu.length p8,pu,.slice p4 pn.length p9,pn⟩:RepQ)) hm')
 have HRES:=Wrp.mk (rep_same (r:=RepQ.e (⟨.slice p0 pd.length p5,pd,.slice p1 pb.length p6,pb,.slice p2 pt.length p7,pt,.slice p3 pu.length p8,pu,.slice p4 pn.length p9,pn⟩:RepQ)) hm')
 dsimp only [RepQ.e] at HREP HRES ⊢
 clear hm hm'
 generalize repF _=CC at *
 have hcd:=fun (w' : World) (hb:Below w.heap.size w w')=>l2CopyAll9_any (.slice p0 pd.length p5) pd w' (hr w' hb).1 HN1 (by omega)
 have hct:=fun (w' : World) (hb:Below w.heap.size w w')=>l2CopyAll9_any (.slice p2 pt.length p7) pt w' (hr w' hb).2.2.1 HN2 (by omega)
 go_enter Tryz.func52,Tryz.ntmps52
 go_wp2_with fail
 clear q0 q2
 have f0:=hB.lat 0 _ rfl
 have f2:=hB.lat 2 _ rfl
 have hW:Below w.heap.size w w.drew:=(Below.refl _ _).drew
 have hnn:Nonempty (Lat w):=⟨⟨w,Below.refl _ _⟩⟩
 refine text_begin (S:=fun w' => ∃ u:Lat w,w' = u.val) (by kernel_rfl) ?_
 refine seg_range [(0,4),(5,4)] 5 (by kernel_rfl) (by kernel_rfl) (by kernel_rfl) (by kernel_rfl) (by kernel_rfl) ⟨⟨_,hW⟩,rfl⟩ ?_
 simp only [pickR,List.toList_toArray,List.flatMap_cons,List.flatMap_nil,List.drop_succ_cons,List.drop_zero,List.take_succ_cons,List.take_zero,List.cons_append,List.nil_append,List.append_nil]
 repeat go_big_quiet_step (fail)
 refine wpQuiet_nil ?_
 refine call_at 4 (some 23) 92 #[.slice p0 pd.length p5] 4 (by kernel_rfl) (by kernel_rfl) (by kernel_rfl) (by kernel_rfl) (by kernel_rfl) ?_
 refine (hcd _ hW).mono ?_
 rintro e x1 ⟨v1,q1,rfl,e1,o1,n1,g1,hb9⟩
 have ND:Hid (∀ k,∀ q∈q1,k∈txnK.foot q→k ∉ blk v1):=fun k q hq hk hb=>(List.nodup_append.1 n1).2.2 k hb k (List.mem_flatMap.2 ⟨q,hq,hk⟩) rfl
 clear n1
 obtain ⟨a1,k1,rfl⟩:=o1.shape
 have hx0:=hW.size
 replace hW:=hW.trans (hb9.mono hW.size)
 clear hb9
 refine ⟨_,rfl,⟨⟨_,hW⟩,rfl⟩,?_⟩
 simp only [Act.put,List.setIfInBounds_toArray,List.set_cons_zero,List.set_cons_succ]
 refine call_at 9 (some 28) 92 #[.slice p2 pt.length p7] 3 (by kernel_rfl) (by kernel_rfl) (by kernel_rfl) (by kernel_rfl) (by kernel_rfl) ?_
 refine (hct _ hW).mono ?_
 rintro e x2 ⟨v2,q2,rfl,e2,o2,_,g2,hb9⟩
 obtain ⟨a2,k2,rfl⟩:=o2.shape
 have hx1:=hW.size
 have i1:=o1.lt
 replace o1:=o1.below hb9
 replace hW:=hW.trans (hb9.mono hW.size)
 clear hb9
 refine ⟨_,rfl,⟨⟨_,hW⟩,rfl⟩,?_⟩
 simp only [Act.put,List.setIfInBounds_toArray,List.set_cons_zero,List.set_cons_succ]
 have hx2:=hW.size
 obtain ⟨i0,hi,hz0,hz1,hz2⟩:=info_parts infoTxn
 have l1:q1.length=pd.length:=by simpa using congrArg List.length e1
 have l2:q2.length=pt.length:=by simpa using congrArg List.length e2
 obtain ⟨_,_,ee,lies2,rd2⟩:=o2.at
 simp only [Value.slice.injEq,true_and] at ee
 obtain ⟨rfl,rfl⟩:=ee
 have w1:q1.length + q2.length≤maxLen:=by unfold maxLen;omega
 have w2:(q1.length + q2.length) * 48≤140737488355328:=by omega
 clear l1 l2
 refine one_at 10 _ 2 (by kernel_rfl) rfl (by kernel_rfl) ?_
 refine wpList_app_k (K:=txnK) _ rfl _ _ 28 rfl i0 (.agg #[.int .i64 0,.int .i64 0,.int .i64 0,.slice none 0 0]) 48 Tryz.underlying28 hi hz0 hz1 hz2 rfl (by decide) 0 _ q1 rfl o1.1 _ q2 _ rfl lies2 (txns_one rd2) (o2.niceV _ _ _ rfl) w1 w2 (by omega) ?_
 intro v3 x3 ho3 hg3
 have hU3:Out (blk (.slice a1 q1.length k1)) x2 x3:=Out.of_grown hg3
 have bl1:∀ x∈blk (.slice a1 q1.length k1),w.heap.size≤x∧x < x1.heap.size:=fun x hx=>⟨by have:=g1 x (by simp only [Kind.fp,List.mem_append];exact Or.inl hx);omega,i1 x (by simp only [Kind.fp,List.mem_append];exact Or.inl hx)⟩
 have hA3:txnK.At x3 v3 (q1 ++ q2):=Kind.at_of_row ho3 (fun q hq=>by
  rcases List.mem_append.1 hq with hq | hq
  ·exact txnK.own_rd (txnK.own_out (o1.2 q hq) hU3 (fun k hk e=>ND.out k q hq hk e))
  ·exact txnK.own_rd (txnK.own_out (o2.2 q hq) hU3 (fun k hk e=>by
    have:=g2 k (by simp only [Kind.fp,List.mem_append,List.mem_flatMap];exact Or.inr ⟨q,hq,hk⟩)
    have:=(bl1 k e).2
    omega)))
 replace hW:=Out.keep hW hU3 (by omega) (fun x hx=>(bl1 x hx).1)
 have cp3:=row_capL ho3
 obtain ⟨a3,k3,rfl⟩:=hA3.shape
 go_wp2
 refine ThenGo.to ⟨⟨⟨_,hW⟩,rfl⟩,?_⟩
 have hn3:(q1 ++ q2).length + nmL TxnQ.n (q1 ++ q2)≤1048576:=by
  have e:nmL TxnQ.n (q1 ++ q2)=nmL TxnQ.n q1 + nmL TxnQ.n q2:=by simp [nmL]
  have s1:=txq_n9 e1
  have s2:=txq_n9 e2
  rw [List.length_append,e]
  omega
 have hlf:=fun w h=>l8Fault_any (.slice a3 (q1 ++ q2).length k3) (q1 ++ q2) w h cp3 hn3
 rw [List.map_append,e1,e2] at hlf
 simp only [Act.put,List.getElem_toArray,List.getElem_cons_succ,List.getElem_cons_zero,List.setIfInBounds_toArray,List.set_cons_zero,List.set_cons_succ]
 refine call_at 11 (some 30) 72 #[.slice a3 (q1 ++ q2).length k3] 1 (by kernel_rfl) (by kernel_rfl) (by kernel_rfl) (by kernel_rfl) (by kernel_rfl) ?_
 refine (hlf _ hA3).mono ?_
 rintro e x4 ⟨rfl,hb9⟩
 replace hW:=hW.trans (hb9.mono hW.size)
 clear hb9 hlf hA3 ho3 hg3 hU3 o1 o2 g1 g2 i1 bl1 lies2 rd2 ND
 refine ⟨_,rfl,⟨⟨_,hW⟩,rfl⟩,?_⟩
 simp only [Act.put,List.setIfInBounds_toArray,List.set_cons_zero,List.set_cons_succ]
 refine seg_range [(12,1)] 0 (by kernel_rfl) (by kernel_rfl) (by kernel_rfl) (by kernel_rfl) (by kernel_rfl) ⟨⟨_,hW⟩,rfl⟩ ?_
 simp only [pickR,List.toList_toArray,List.flatMap_cons,List.flatMap_nil,List.drop_succ_cons,List.drop_zero,List.take_succ_cons,List.take_zero,List.cons_append,List.nil_append,List.append_nil]
 repeat go_big_quiet_step (fail)
 refine wpQuiet_nil ?_
 refine text_end (by kernel_rfl) ?_
 clear f0 f2 hnn hcd hct HN1 HN2 nd nt e1 e2 w1 w2
 by_cases hL:lstF (pd.map TxnQ.e ++ pt.map TxnQ.e)=0
 case neg=>
  have HC:Hid (CC=lstF (pd.map TxnQ.e ++ pt.map TxnQ.e)):=HREP.out hL
  clear HREP HRES
  generalize lstF (pd.map TxnQ.e ++ pt.map TxnQ.e)=c at *
  have hcb:(c != 0)=true:=by simpa using hL
  go_wp2
  go_ret
  exact ⟨by first | (rw [HC.out];done) | (rw [HC.out];rfl) | (simp [HC.out]),hW⟩
 have hFall:=lst_F hL
 have hFD:∀ q∈pd,(TxnQ.e q).F=0:=fun q hq=>hFall _ (List.mem_append_left _ (List.mem_map_of_mem hq))
 have hFE:∀ q∈pt,(TxnQ.e q).F=0:=fun q hq=>hFall _ (List.mem_append_right _ (List.mem_map_of_mem hq))
 have HC:=Wrp.mk (HRES.out hL)
 rw [hL]
 clear HREP HRES hL
 have hB4:=hB.below hW
 have hr4:=hr _ hW
 have hmk:=fun (w' : World) (hb:Below x4.heap.size x4 w')=>l9Make_any (.slice p0 pd.length p5) (.slice p2 pt.length p7) pd pt w' (hr4.1.below hb) (hr4.2.2.1.below hb) hFD hFE (by omega) (by omega)
 have hbX:=hW
 clear hW
 go_wp2_with fail
 generalize hX:x4=X at *
 clear hX
 try clear hn3
 generalize (q1 ++ q2).length=QL
 have f0:=hB4.lat 0 _ rfl
 have f2:=hB4.lat 2 _ rfl
 refine region_vals [some 34,some 35,some 36,some 37,some 38,some 39,some 40,some 41,some 42,some 4] (fun vs w' => ∃ (m:RepQ) (g:Nat),vs=[.pointer (some ⟨b,0,none⟩),.pointer (some ⟨b,0,none⟩),.pointer (some ⟨b,0,none⟩),.slice p0 pd.length p5,.pointer (some ⟨b,0,none⟩),.pointer (some ⟨b,0,none⟩),.pointer (some ⟨b,2,none⟩),.slice p2 pt.length p7,.agg #[m.vd,m.vb,m.vt,m.vu,m.vn],.pointer (some ⟨g,0,none⟩)]∧X.heap.size≤g∧Blk w' g 32 #[m.vd,m.vb,m.vt,m.vu,m.vn]∧m.e=mkR (pd.map TxnQ.e) (pt.map TxnQ.e)∧repK.own w' m∧Below X.heap.size X w') ?_ ?_
 ·have hW:Below X.heap.size X X.drew:=(Below.refl _ _).drew
  have hnn:Nonempty (Lat X):=⟨⟨X,Below.refl _ _⟩⟩
  refine text_begin (S:=fun w' => ∃ u:Lat X,w' = u.val) (by kernel_rfl) ?_
  refine seg_range [(0,8)] 3 (by kernel_rfl) (by kernel_rfl) (by kernel_rfl) (by kernel_rfl) (by kernel_rfl) ⟨⟨_,hW⟩,rfl⟩ ?_
  simp only [pickR,List.toList_toArray,List.flatMap_cons,List.flatMap_nil,List.drop_succ_cons,List.drop_zero,List.take_succ_cons,List.take_zero,List.cons_append,List.nil_append,List.append_nil]
  repeat go_big_quiet_step (fail)
  refine wpQuiet_nil ?_
  clear f0 f2
  generalize X.drew=wd at hW ⊢
  refine two_at 8 9 2 (by kernel_rfl) (by kernel_rfl) ?_ ?_
  ·skip
   refine op_call 8 (some 42) 54 #[.slice p0 pd.length p5,.slice p2 pt.length p7] (by kernel_rfl) (by kernel_rfl) (by kernel_rfl) ?_
   refine (hmk _ hW).mono ?_
   rintro e x1 ⟨m,rfl,em,om,nm,gm,hb⟩
   clear nm
   replace hW:=hW.trans (hb.mono hW.size)
   clear hb gm
   refine ⟨_,rfl,⟨⟨_,hW⟩,rfl⟩,?_⟩
   simp only [Act.put,List.getElem_toArray,List.getElem_cons_succ,List.getElem_cons_zero,List.setIfInBounds_toArray,List.set_cons_zero,List.set_cons_succ]
   refine one_at 9 _ 1 (by kernel_rfl) rfl (by kernel_rfl) ?_
   have Bz:=Blk.new x1 32 #[.slice none 0 0,.slice none 0 0,.slice none 0 0,.slice none 0 0,.slice none 0 0]
   have hzz:X.heap.size≤x1.heap.size:=hW.size
   have hba:Below x1.heap.size x1 (x1.alloc (.cells #[.slice none 0 0,.slice none 0 0,.slice none 0 0,.slice none 0 0,.slice none 0 0] 32)):=by go_grown
   have gne:∀ k∈repK.foot m,k≠x1.heap.size:=fun k hk=>by have:=repK.own_lt om k hk;omega
   replace om:=repK.own_out (F:=[]) om (Out.of_below hba) (fun _ _=>by simp)
   replace hW:=hW.trans (hba.mono hW.size)
   clear hba
   have hBzl:=Bz.lt
   go_wp2
   refine ThenGo.to ⟨⟨⟨_,hW⟩,rfl⟩,?_⟩
   generalize hGy1:x1.heap.size=g at *
   generalize x1.alloc (.cells #[.slice none 0 0,.slice none 0 0,.slice none 0 0,.slice none 0 0,.slice none 0 0] 32)=y1 at *
   clear hGy1
   obtain ⟨mvd,md,mvb,mb,mvt,mt,mvu,mu,mvn,mn⟩:=m
   obtain ⟨s0,t0,rfl⟩:∃ a c,mvd=.slice a md.length c:=om.1.shape
   obtain ⟨s1,t1,rfl⟩:∃ a c,mvb=.slice a mb.length c:=om.2.1.shape
   obtain ⟨s2,t2,rfl⟩:∃ a c,mvt=.slice a mt.length c:=om.2.2.1.shape
   obtain ⟨s3,t3,rfl⟩:∃ a c,mvu=.slice a mu.length c:=om.2.2.2.1.shape
   obtain ⟨s4,t4,rfl⟩:∃ a c,mvn=.slice a mn.length c:=om.2.2.2.2.shape
   refine one_at 10 _ 0 (by kernel_rfl) rfl (by kernel_rfl) ?_
   have hgW:X.heap.size≤g:=by omega
   have Rz:=Bz.row #[.slice s0 md.length t0,.slice s1 mb.length t1,.slice s2 mt.length t2,.slice s3 mu.length t3,.slice s4 mn.length t4]
   have oz:=repK.own_out om (out_row _ g #[.slice s0 md.length t0,.slice s1 mb.length t1,.slice s2 mt.length t2,.slice s3 mu.length t3,.slice s4 mn.length t4]) (fun k hk=>by simp only [List.mem_singleton];exact gne k hk)
   replace hW:=below_row hW hgW #[.slice s0 md.length t0,.slice s1 mb.length t1,.slice s2 mt.length t2,.slice s3 mu.length t3,.slice s4 mn.length t4]
   refine st_row (by kernel_rfl) 32 _ _ rfl _ #[.slice s0 md.length t0,.slice s1 mb.length t1,.slice s2 mt.length t2,.slice s3 mu.length t3,.slice s4 mn.length t4] rfl rfl 32 _ Bz sz_rep rfl (by simp [Value.oneCell']) ?_
   refine ThenGo.to ⟨⟨⟨_,hW⟩,rfl⟩,?_⟩
   refine text_end (by kernel_rfl) ?_
   refine ⟨rfl,_,⟨_,g,rfl,hgW,Rz,em,oz,hW⟩,?_⟩
   simp only [putAll,Act.put,List.getElem_toArray,List.getElem_cons_succ,List.getElem_cons_zero,List.setIfInBounds_toArray,List.set_cons_zero,List.set_cons_succ]
   try rfl
  ·skip
   refine op_one 9 _ rfl ?_
   have Bz:=Blk.new wd 32 #[.slice none 0 0,.slice none 0 0,.slice none 0 0,.slice none 0 0,.slice none 0 0]
   have hzz:X.heap.size≤wd.heap.size:=hW.size
   have hba:Below wd.heap.size wd (wd.alloc (.cells #[.slice none 0 0,.slice none 0 0,.slice none 0 0,.slice none 0 0,.slice none 0 0] 32)):=by go_grown
   replace hW:=hW.trans (hba.mono hW.size)
   clear hba
   have hBzl:=Bz.lt
   go_wp2
   refine ThenGo.to ⟨⟨⟨_,hW⟩,rfl⟩,?_⟩
   generalize hGy2:wd.heap.size=g at *
   generalize wd.alloc (.cells #[.slice none 0 0,.slice none 0 0,.slice none 0 0,.slice none 0 0,.slice none 0 0] 32)=y2 at *
   clear hGy2
   refine call_at 8 (some 42) 54 #[.slice p0 pd.length p5,.slice p2 pt.length p7] 1 (by kernel_rfl) (by kernel_rfl) (by kernel_rfl) (by kernel_rfl) (by kernel_rfl) ?_
   refine (hmk _ hW).mono ?_
   rintro e x2 ⟨m,rfl,em,om,nm,gm,hb⟩
   clear nm
   have gne:∀ k∈repK.foot m,k≠g:=fun k hk=>by have:=gm k hk;have:=Bz.lt;omega
   replace Bz:=Bz.below hb
   replace hW:=hW.trans (hb.mono hW.size)
   clear hb gm
   refine ⟨_,rfl,⟨⟨_,hW⟩,rfl⟩,?_⟩
   simp only [Act.put,List.getElem_toArray,List.getElem_cons_succ,List.getElem_cons_zero,List.setIfInBounds_toArray,List.set_cons_zero,List.set_cons_succ]
   obtain ⟨mvd,md,mvb,mb,mvt,mt,mvu,mu,mvn,mn⟩:=m
   obtain ⟨s0,t0,rfl⟩:∃ a c,mvd=.slice a md.length c:=om.1.shape
   obtain ⟨s1,t1,rfl⟩:∃ a c,mvb=.slice a mb.length c:=om.2.1.shape
   obtain ⟨s2,t2,rfl⟩:∃ a c,mvt=.slice a mt.length c:=om.2.2.1.shape
   obtain ⟨s3,t3,rfl⟩:∃ a c,mvu=.slice a mu.length c:=om.2.2.2.1.shape
   obtain ⟨s4,t4,rfl⟩:∃ a c,mvn=.slice a mn.length c:=om.2.2.2.2.shape
   refine one_at 10 _ 0 (by kernel_rfl) rfl (by kernel_rfl) ?_
   have hgW:X.heap.size≤g:=by omega
   have Rz:=Bz.row #[.slice s0 md.length t0,.slice s1 mb.length t1,.slice s2 mt.length t2,.slice s3 mu.length t3,.slice s4 mn.length t4]
   have oz:=repK.own_out om (out_row _ g #[.slice s0 md.length t0,.slice s1 mb.length t1,.slice s2 mt.length t2,.slice s3 mu.length t3,.slice s4 mn.length t4]) (fun k hk=>by simp only [List.mem_singleton];exact gne k hk)
   replace hW:=below_row hW hgW #[.slice s0 md.length t0,.slice s1 mb.length t1,.slice s2 mt.length t2,.slice s3 mu.length t3,.slice s4 mn.length t4]
   refine st_row (by kernel_rfl) 32 _ _ rfl _ #[.slice s0 md.length t0,.slice s1 mb.length t1,.slice s2 mt.length t2,.slice s3 mu.length t3,.slice s4 mn.length t4] rfl rfl 32 _ Bz sz_rep rfl (by simp [Value.oneCell']) ?_
   refine ThenGo.to ⟨⟨⟨_,hW⟩,rfl⟩,?_⟩
   refine text_end (by kernel_rfl) ?_
   refine ⟨rfl,_,⟨_,g,rfl,hgW,Rz,em,oz,hW⟩,?_⟩
   simp only [putAll,Act.put,List.getElem_toArray,List.getElem_cons_succ,List.getElem_cons_zero,List.setIfInBounds_toArray,List.set_cons_zero,List.set_cons_succ]
   try rfl
 rintro vs w5 ⟨m,g,rfl,hgX,Bg,em,om,hX5⟩
 simp only [putAll,Act.put,List.setIfInBounds_toArray,List.set_cons_zero,List.set_cons_succ]
 clear f0 f2 hmk
 have hFD' : ∀ t∈pd.map TxnQ.e,t.F=0:=fun t ht=>by obtain ⟨q,hq,rfl⟩:=List.mem_map.1 ht;exact hFD q hq
 have hFE' : ∀ t∈pt.map TxnQ.e,t.F=0:=fun t ht=>by obtain ⟨q,hq,rfl⟩:=List.mem_map.1 ht;exact hFE q hq
 have hsm:=l9Same_any g b m (⟨.slice p0 pd.length p5,pd,.slice p1 pb.length p6,pb,.slice p2 pt.length p7,pt,.slice p3 pu.length p8,pu,.slice p4 pn.length p9,pn⟩:RepQ) w5 Bg (hB4.below hX5) (repK.own_rd om) (repK.rd_below hr4 hX5) (by have:=mk_small em hFD' hFE' (by rw [List.length_map];omega) (by rw [List.length_map];omega);omega) (by dsimp only [RepQ.n];omega)
 rw [em] at hsm
 dsimp only [RepQ.e] at hsm
 have hb5:=hbX.trans (hX5.mono hbX.size)
 clear om Bg hB4 hr4 em hX5 hbX
 go_wp2_with fail
 refine hsm.mono ?_
 rintro e w6 ⟨rfl,hb6⟩
 replace hb5:=hb5.trans (hb6.mono hb5.size)
 clear hb6 hsm
 cases hS:sameRep (mkR (pd.map TxnQ.e) (pt.map TxnQ.e)) ⟨pd.map TxnQ.e,pb,pt.map TxnQ.e,pu.map USQ.e,pn⟩ with
 | false=>
  have h9:CC=(if sameRep (mkR (pd.map TxnQ.e) (pt.map TxnQ.e)) ⟨pd.map TxnQ.e,pb,pt.map TxnQ.e,pu.map USQ.e,pn⟩=true then 0 else 8):=HC.out
  have HC2:Hid (CC=8):=show CC=8 by simpa [hS] using h9
  clear h9
  clear HC
  go_wp2
  go_ret
  exact ⟨by first | (rw [HC2.out];done) | (rw [HC2.out];rfl) | (simp [HC2.out]),hb5⟩
 | true=>
  have h9:CC=(if sameRep (mkR (pd.map TxnQ.e) (pt.map TxnQ.e)) ⟨pd.map TxnQ.e,pb,pt.map TxnQ.e,pu.map USQ.e,pn⟩=true then 0 else 8):=HC.out
  have HC2:Hid (CC=0):=show CC=0 by simpa [hS] using h9
  clear h9
  clear HC
  go_wp2
  go_ret
  exact ⟨by first | (rw [HC2.out];done) | (rw [HC2.out];rfl) | (simp [HC2.out]),hb5⟩

end Go.Proofs.YtfdkcbafpiojkaaGreatDoor
namespace Go.Proofs.YtfdkcbafpiojkaaGreatDoor
open Go.RowKit
open Go.BigFrame
set_option maxRecDepth 100000
def rep0:RepQ:=⟨.slice none 0 0,[],.slice none 0 0,[],.slice none 0 0,[],.slice none 0 0,[],.slice none 0 0,[]⟩

theorem rep0_own (w:World):repK.own w rep0∧repK.foot rep0=[]:=by
 refine ⟨⟨(Kind.own_nil w).1,(Kind.own_nil w).1,(Kind.own_nil w).1,(Kind.own_nil w).1,(Kind.own_nil w).1⟩,?_⟩
 show txnK.fp (.slice none 0 0) [] ++ (itemK.fp (.slice none 0 0) [] ++ (txnK.fp (.slice none 0 0) [] ++ (ussK.fp (.slice none 0 0) [] ++ itemK.fp (.slice none 0 0) [])))=[]
 rw [(Kind.own_nil (K:=txnK) w).2,(Kind.own_nil (K:=itemK) w).2,(Kind.own_nil (K:=ussK) w).2]
 rfl

theorem sz_rr:(Tryz.prog.info? 34).map (·.size)=some 8:=by kernel_rfl

end Go.Proofs.YtfdkcbafpiojkaaGreatDoor
namespace Go.Proofs.YtfdkcbafpiojkaaGreatDoor
open Go.RowKit
open Go.BigFrame
set_option maxRecDepth 100000
theorem neq_err (c:Int) (w:World):(binOp .neq 115 (.iface 195 (.agg #[.int .i64 c])) .nilIface).run Tryz.prog w=.ok (.bool true) w:=by kernel_rfl

theorem neq_nil (w:World):(binOp .neq 115 .nilIface .nilIface).run Tryz.prog w=.ok (.bool false) w:=by kernel_rfl

end Go.Proofs.YtfdkcbafpiojkaaGreatDoor
namespace Go.Proofs.YtfdkcbafpiojkaaGreatDoor
open Go.RowKit
open Go.BigFrame
set_option maxRecDepth 100000
theorem at_cat9 {w:World} {B:Nat} {v:Value} {ps qs:List TxnQ} (o:w.ownsRow B 49 4 v (ps ++ qs).length (txnK.row (ps ++ qs))) (h1:∀ p∈ps,txnK.rd w p) (h2:∀ p∈qs,txnK.rd w p):txnK.At w v (ps ++ qs):=by
 obtain ⟨a,c,rfl⟩:=own_shape o
 exact ⟨a,c,rfl,Lies.own o,fun p hp=>(List.mem_append.1 hp).elim (h1 p) (h2 p)⟩

theorem At.rds {w:World} {v:Value} {ps:List TxnQ} (h:txnK.At w v ps):∀ p∈ps,txnK.rd w p:=by
 obtain ⟨a,c,_,_,h2⟩:=h
 exact h2

/-- A block that was there ahead of the record is written over. -/
theorem RecPost.row {w w' : World} {vN iN vU iU:Value} {D E:List TxnD} (h:RecPost w w' vN iN vU iU D E) {g:Nat} (hg:g < w.heap.size) (cs:Array Value):RecPost w (w'.setRow g cs) vN iN vU iU D E:=by
 obtain ⟨ds,us,rb,B0,R,e1,e2,h1,h2⟩:=h
 have hO:=out_row w' g cs
 have nF:∀ {k},B0≤k→k ∉ [g]:=fun hk hm=>by simp only [List.mem_singleton] at hm;omega
 have hrb:rb ∉ [g]:=fun hm=>by simp only [List.mem_singleton] at hm;omega
 exact ⟨ds,us,rb,B0,⟨(hO.block rb R.B.lt hrb).trans R.B,own_outs R.oN hO (fun k hk=>nF (R.lN k hk)),R.aN,own_outs R.oU hO (fun k hk=>nF (R.lU k hk)),fun p hp=>⟨(R.aU p hp).1,(R.aU p hp).2.out hO (fun k hk=>by rw [undoK_fp] at hk;exact nF (R.d3 p hp k hk).1)⟩,R.jN.out hO (fun k hk=>by rw [itemK_fp] at hk;exact nF (R.d1 k hk).1),R.jU.out hO (fun k hk=>by rw [itemK_fp] at hk;exact nF (R.d2 k hk).1),R.nu,R.lN,R.lU,R.d1,R.d2,R.d3⟩,e1,e2,h1,h2⟩

theorem RecPost.shapes {w w' : World} {vN iN vU iU:Value} {D E:List TxnD} (h:RecPost w w' vN iN vU iU D E):(∃ a n c,vN=.slice a n c)∧(∃ a n c,iN=.slice a n c)∧(∃ a n c,vU=.slice a n c)∧(∃ a n c,iU=.slice a n c):=by
 obtain ⟨ds,us,rb,B0,R,e1,e2,h1,h2⟩:=h
 obtain ⟨a1,c1,s1⟩:=own_shape R.oN
 obtain ⟨a2,c2,s2⟩:=R.jN.shape
 obtain ⟨a3,c3,s3⟩:=own_shape R.oU
 obtain ⟨a4,c4,s4⟩:=R.jU.shape
 exact ⟨⟨_,_,_,s1⟩,⟨_,_,_,s2⟩,⟨_,_,_,s3⟩,⟨_,_,_,s4⟩⟩

/-- The acts do not lie in the block of a record. -/
theorem acts_row9 {w:World} {g:Nat} {va:Value} {acts:List ActD} (h:actK.At w va acts) (B:Blk w g 103 #[.slice none 0 0,.slice none 0 0,.slice none 0 0,.slice none 0 0]) (cs:Array Value):actK.At (w.setRow g cs) va acts:=by
 obtain ⟨a,c,rfl,hL,_⟩:=h
 refine ⟨a,c,rfl,?_,fun _ _=>trivial⟩
 rcases hL with h0 | ⟨b,off,rfl,hlt,hc⟩
 ·exact Or.inl h0
 ·by_cases he:actK.row acts=[]
  ·exact Or.inl he
  ·refine Or.inr ⟨b,off,rfl,by simpa using hlt,fun j x hj=>?_⟩
   have hne:b≠g:=by
    rintro rfl
    obtain ⟨z,r,hzr⟩:∃ z r,acts=z :: r:=by
     cases acts with
     | nil=>exact absurd rfl he
     | cons z r=>exact ⟨z,r,rfl⟩
    have h0:=hc 0 (.int .i64 z.kind) (by rw [hzr];rfl)
    rw [Nat.add_zero] at h0
    have hB:w.heap[b]? = some (.cells #[.slice none 0 0,.slice none 0 0,.slice none 0 0,.slice none 0 0] 103 (0,0)):=B
    have hcl:w.cell? ⟨b,off,none⟩=(#[.slice none 0 0,.slice none 0 0,.slice none 0 0,.slice none 0 0]:Array Value)[off]? := by
     rcases Nat.lt_or_ge off 4 with h4 | h4
     ·match off,h4 with
      | 0,_=>exact B.cell 0 _ rfl
      | 1,_=>exact B.cell 1 _ rfl
      | 2,_=>exact B.cell 2 _ rfl
      | 3,_=>exact B.cell 3 _ rfl
     ·have:w.cell? ⟨b,off,none⟩=none:=by
       simp [World.cell?,hB,show ¬ off < 4 by omega]
      rw [this,Array.getElem?_eq_none (by simpa using h4)]
    rw [hcl] at h0
    match off,h0 with
    | 0,h0=>simp at h0
    | 1,h0=>simp at h0
    | 2,h0=>simp at h0
    | 3,h0=>simp at h0
    | (n + 4),h0=>simp at h0
   rw [World.cell?_of_block (w:=w) (a:=⟨b,off + j,none⟩) (setRow_other w g b cs hne)]
   exact hc j x hj

/-- A record's block that was there ahead is written over, in the world of the acts too. -/
theorem RecPost.rebase {w w' : World} {vN iN vU iU:Value} {D E:List TxnD} (h:RecPost w w' vN iN vU iU D E) (hb:Below w.heap.size w w') {g:Nat} (B:Blk w g 103 #[.slice none 0 0,.slice none 0 0,.slice none 0 0,.slice none 0 0]) (cs:Array Value) :
  RecPost (w.setRow g cs) (w'.setRow g cs) vN iN vU iU D E∧Below (w.setRow g cs).heap.size (w.setRow g cs) (w'.setRow g cs):=by
 have hg:=B.lt
 obtain ⟨ds,us,rb,B0,R,e1,e2,h1,h2⟩:=h.row hg cs
 refine ⟨⟨ds,us,rb,B0,⟨R.B,R.oN,fun p hp=>acts_row9 (R.aN p hp) B cs,R.oU,fun p hp=>⟨acts_row9 (R.aU p hp).1 B cs,(R.aU p hp).2⟩,R.jN,R.jU,R.nu,R.lN,R.lU,R.d1,R.d2,R.d3⟩,e1,e2,by simpa using h1,h2⟩,?_⟩
 refine ⟨hb.os,hb.tape,hb.output,by simpa using hb.size,fun k hk=>?_⟩
 rw [size_setRow] at hk
 by_cases hkg:k=g
 ·subst hkg
  exact ((B.below hb).row cs:_).trans ((B.row cs).symm)
 ·rw [setRow_other w' g k cs hkg,setRow_other w g k cs hkg]
  exact hb.block k hk

theorem sz_rec9:(Tryz.prog.info? 103).map (·.size)=some 4:=by kernel_rfl

theorem same9_eq {α:Type} {f:α→α→Bool} {g:List α→List α→Bool} (h1:∀ x r y s,g (x :: r) (y :: s)=(f x y && g r s)) (h2:∀ x r,g (x :: r) []=false) (h3:∀ y s,g [] (y :: s)=false) (hf:∀ x y,f x y=true→x=y):∀ xs ys,g xs ys=true→xs=ys
 | [],[],_=>rfl
 | [],y :: s,h=>by rw [h3] at h;cases h
 | x :: r,[],h=>by rw [h2] at h;cases h
 | x :: r,y :: s,h=>by
  rw [h1,Bool.and_eq_true] at h
  rw [hf x y h.1,same9_eq h1 h2 h3 hf r s h.2]

theorem sameAs9_eq (xs ys:List ActD) (h:sameAs xs ys=true):xs=ys:=same9_eq (f:=sameA) (fun _ _ _ _=>rfl) (fun _ _=>rfl) (fun _ _=>rfl) (fun x y h=>by
 obtain ⟨x0,x1,x2⟩:=x
 obtain ⟨y0,y1,y2⟩:=y
 simp [sameA] at h
 rw [h.1,h.2.1,h.2.2]) xs ys h

theorem sameTs9_eq (xs ys:List TxnD) (h:sameTs xs ys=true):xs=ys:=same9_eq (f:=sameT) (fun _ _ _ _=>rfl) (fun _ _=>rfl) (fun _ _=>rfl) (fun x y h=>by
 obtain ⟨x0,x1,x2,x3⟩:=x
 obtain ⟨y0,y1,y2,y3⟩:=y
 simp only [sameT,Bool.and_eq_true,beq_iff_eq] at h
 rw [h.1.1.1,h.1.1.2,h.1.2,sameAs9_eq _ _ h.2]) xs ys h

theorem sameUs9_eq (xs ys:List UndoD) (h:sameUs xs ys=true):xs=ys:=same9_eq (f:=sameU) (fun _ _ _ _=>rfl) (fun _ _=>rfl) (fun _ _=>rfl) (fun x y h=>by
 obtain ⟨x0,x1,x2⟩:=x
 obtain ⟨y0,y1,y2⟩:=y
 simp [sameU] at h
 rw [h.1,h.2.1,h.2.2]) xs ys h

theorem sameUss9_eq (xs ys:List (List UndoD)) (h:sameUss xs ys=true):xs=ys:=same9_eq (f:=sameUs) (fun _ _ _ _=>rfl) (fun _ _=>rfl) (fun _ _=>rfl) (fun x y h=>sameUs9_eq x y h) xs ys h

theorem sameRep_eq {x y:RepE} (h:sameRep x y=true):x=y:=by
 obtain ⟨x0,x1,x2,x3,x4⟩:=x
 obtain ⟨y0,y1,y2,y3,y4⟩:=y
 simp only [sameRep,Bool.and_eq_true] at h
 rw [sameTs9_eq _ _ h.1,sameIs_eq h.2.1,sameTs9_eq _ _ h.2.2.1,sameUss9_eq _ _ h.2.2.2.1,sameIs_eq h.2.2.2.2]

theorem mkR_now {r:RepE} (h:repF r=0):r=mkR r.done r.tent:=(sameRep_eq (rep_zero h).2.2).symm

end Go.Proofs.YtfdkcbafpiojkaaGreatDoor
