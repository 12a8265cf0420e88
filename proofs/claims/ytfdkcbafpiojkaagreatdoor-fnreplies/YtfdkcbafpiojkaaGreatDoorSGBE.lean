/- Texts joined, with what the laws reach alone. -/
import Derived.Test.YtfdkcbafpiojkaaGreatDoorSGAH
import Derived.Test.YtfdkcbafpiojkaaGreatDoorSGAF
set_option linter.unusedVariables false
set_option linter.unusedSimpArgs false
namespace Go.Proofs.YtfdkcbafpiojkaaGreatDoor
open Go.RowKit
set_option maxRecDepth 100000
section
variable {P:Type} {K:Kind P} {w w' : World} {a:Option Addr} {n cap:Nat} {ps:List P}
theorem Kind.Own.capK (h:K.Own w (.slice a n cap) ps):n≤cap∧cap≤maxLen:=by
 rcases h.1.2 with ⟨e,_⟩ | ⟨g,c,cur,e,_,_,h1,h2,_⟩
 ·simp only [Value.slice.injEq] at e
  obtain ⟨_,rfl,rfl⟩:=e
  exact ⟨Nat.le_refl _,by decide⟩
 ·simp only [Value.slice.injEq] at e
  obtain ⟨_,rfl,rfl⟩:=e
  exact ⟨h1,h2⟩

end
theorem Blk.putA {w:World} {b:Nat} {t:TypeId} {cs:Array Value} (h:Blk w b t cs) (j:Nat) (v:Value):Blk (w.setCell ⟨b,j,none⟩ v) b t (cs.setIfInBounds j v):=by
 have:=Go.Joins.block_setCell (i:=j) (v:=v) h
 unfold Blk
 simpa using this

theorem Blk.other8 {w:World} {b g j:Nat} {u:Value} {t:TypeId} {cs:Array Value} (h:Blk w b t cs) (hne:b≠g):Blk (w.setCell ⟨g,j,none⟩ u) b t cs:=(Below.heap_setCell w _ _ b hne).trans h

theorem Kind.Own.capOk {P:Type} {K:Kind P} {w:World} {v:Value} {ps:List P} (h:K.Own w v ps):CapOk v:=by
 obtain ⟨a,c,rfl⟩:=h.shape
 exact h.capK

end Go.Proofs.YtfdkcbafpiojkaaGreatDoor
namespace Go.Proofs.YtfdkcbafpiojkaaGreatDoor
open Go.RowKit
open Go.BigFrame
set_option maxRecDepth 100000
def idsL (ds:List TxnD) (k:Nat):List Int:=(ds.take k).map TxnD.id

theorem idsL_succ (ds:List TxnD) (k:Nat) (h:k < ds.length):idsL ds (k + 1)=idsL ds k ++ [(ds.getD k txnNo).id]:=by
 have e:ds.getD k txnNo=ds[k]:=by simp [List.getD,h]
 rw [idsL,idsL,List.take_succ_eq_append_getElem h,e]
 simp only [List.map_append,List.map_cons,List.map_nil]

theorem idsL_length (ds:List TxnD) (k:Nat) (h:k≤ds.length):(idsL ds k).length=k:=by simp [idsL];omega

end Go.Proofs.YtfdkcbafpiojkaaGreatDoor
namespace Go.Proofs.YtfdkcbafpiojkaaGreatDoor
open Go.RowKit
open Go.BigFrame
set_option maxRecDepth 100000
/-- The fault of two lists. -/
def bthF (ds ds' : List TxnD):Int:=if lstF ds=0 then lstF ds' else lstF ds

theorem listsTwo_any (v v' : Value) (ps ps' : List TxnQ) (w:World) (h:txnK.At w v ps) (h' : txnK.At w v' ps') (hl:ps.length + nmL TxnQ.n ps≤1048576) (hl' : ps'.length + nmL TxnQ.n ps' ≤ 1048576) :
  Calls Tryz.prog 156 #[.slice (some ⟨w.heap.size,0,none⟩) 2 2] (w.alloc (.cells #[v,v'] 28)) fun e w' => e=.returned (.int .i64 (bthF (ps.map TxnQ.e) (ps'.map TxnQ.e)))∧Below w.heap.size w w' := by
 have hB:Below w.heap.size w (w.alloc (.cells #[v,v'] 28)):=by go_grown
 have hX:=Blk.new w 28 #[v,v']
 have hq:=listsFault_any w.heap.size 2 [(v,ps),(v',ps')] (w.alloc (.cells #[v,v'] 28)) hX.lt (fun k hk=>by
  match k,hk with
  | 0,_=>exact hX.cell 0 _ rfl
  | 1,_=>exact hX.cell 1 _ rfl) (fun l hl=>by
   simp only [List.mem_cons,List.not_mem_nil,or_false] at hl
   rcases hl with rfl | rfl
   ·exact h.below hB
   ·exact h'.below hB) (fun l hl=>by
   simp only [List.mem_cons,List.not_mem_nil,or_false] at hl
   rcases hl with rfl | rfl <;> assumption) (by simp)
 have e0:lssF ([(v,ps),(v',ps')].map (fun l:Value × List TxnQ=>l.2.map TxnQ.e))=bthF (ps.map TxnQ.e) (ps'.map TxnQ.e):=by
  show (if lstF (ps.map TxnQ.e)=0 then (if lstF (ps'.map TxnQ.e)=0 then 0 else lstF (ps'.map TxnQ.e)) else lstF (ps.map TxnQ.e))=bthF _ _
  unfold bthF
  split
  ·split
   ·rename_i h0;exact h0.symm
   ·rfl
  ·rfl
 rw [e0] at hq
 refine Calls.mono (show Calls Tryz.prog _ #[.slice (some ⟨w.heap.size,0,none⟩) 2 2] _ _ from hq) ?_
 rintro e w2 ⟨rfl,hb⟩
 exact ⟨rfl,hB.trans (hb.mono hB.size)⟩

end Go.Proofs.YtfdkcbafpiojkaaGreatDoor
namespace Go.Proofs.YtfdkcbafpiojkaaGreatDoor
open Go.RowKit
open Go.BigFrame
set_option maxRecDepth 100000
set_option maxHeartbeats 2000000 in
theorem cloneTxns_any (v:Value) (ps:List TxnQ) (w:World) (h:txnK.At w v ps) (hne:∀ p∈ps,0 < p.acts.length) (hl:ps.length + nmL TxnQ.n ps≤1048576) :
  Calls Tryz.prog 99 #[v] w fun e w' => ∃ v' qs,e=.returned v' ∧ qs.map TxnQ.e=ps.map TxnQ.e∧txnK.Own w' v' qs∧(txnK.fp v' qs).Nodup∧(∀ k∈txnK.fp v' qs,w.heap.size≤k)∧Below w.heap.size w w' := by
 obtain ⟨a,cap,rfl⟩:=h.shape
 obtain ⟨i0,hi,hz0,hz1,hz2⟩:=info_parts infoTxn
 obtain ⟨hn1,hn2⟩:=Kind.own_nil (K:=txnK) w
 have HN0:Hid ((txnK.fp (.slice none 0 0) ([]:List TxnQ)).Nodup∧∀ k∈txnK.fp (.slice none 0 0) ([]:List TxnQ),w.heap.size≤k):=by
  rw [hn2]
  exact ⟨by simp,by simp⟩
 clear hn2
 go_enter Tryz.func99,Tryz.ntmps99
 go_wp2
 go_loopw [3,8] (fun v j wr=>∃ (k:Nat) (qs:List TxnQ),k≤ps.length∧j=.int .i64 k∧Hid (qs.map TxnQ.e=(ps.take k).map TxnQ.e)∧txnK.Own wr v qs∧Hid ((txnK.fp v qs).Nodup∧∀ k∈txnK.fp v qs,w.heap.size≤k)∧Below w.heap.size w wr) (fun _ j _=>ps.length - (intOf j).toNat)
 case atStart=>exact ⟨0,[],Nat.zero_le _,rfl,(rfl:_=_),hn1,HN0,Below.refl _ _⟩
 case round=>
  clear HN0 hn1
  obtain ⟨k,qs,hk,rfl,HE,hO,HN,hb⟩:=hrel
  obtain ⟨sa,sc,rfl⟩:=hO.shape
  have HQL:Hid (qs.length=k):=by
   have:=congrArg List.length HE.out
   rw [List.length_map,List.length_map,List.length_take] at this
   show qs.length=k
   omega
  by_cases hlt:k < ps.length
  ·obtain ⟨b,off,rfl,hbs,hc,hrd⟩:=(h.below hb).cell (by decide) k hlt
   have hc' : ∀ j x,(txnK.cells ps[k])[j]? = some x→wr.cell? ⟨b,off + k * 4 + j,none⟩=some x:=hc
   have c0:=hc' 0 (.int .i64 ps[k].i) rfl
   have c1:=hc' 1 (.int .i64 ps[k].s) rfl
   have c2:=hc' 2 (.int .i64 ps[k].q) rfl
   have c3:=hc' 3 (ps[k].va) rfl
   have hzl:=nm_le TxnQ.n ps k hlt
   have hpos:=hne _ (List.getElem_mem hlt)
   have HPE:Hid (∀ p' : TxnQ,p'.e=TxnQ.e ps[k]→(qs ++ [p']).map TxnQ.e=(ps.take (k + 1)).map TxnQ.e):=fun p' hp' => by
    rw [List.take_succ_eq_append_getElem hlt,List.map_append,List.map_append,HE.out,List.map_singleton,List.map_singleton,hp']
   clear hc hc'
   generalize ps[k]=p at *
   obtain ⟨i,s,q,va,acts⟩:=p
   replace hrd:actK.At wr va acts:=hrd
   replace hzl:acts.length≤nmL TxnQ.n ps:=hzl
   obtain ⟨aa,ac,rfl⟩:=hrd.shape
   dsimp only at c0 c1 c2 c3 hpos
   obtain ⟨ab,ao,haa⟩:∃ ab ao,aa=some ⟨ab,ao,none⟩:=by
    rcases (actK_at hrd).2 with h0 | ⟨ab,ao,e,_⟩
    ·have:=actCells_length acts
     rw [h0] at this
     simp at this
     omega
    ·exact ⟨ab,ao,e⟩
   subst haa
   have hbY:Below wr.heap.size wr (wr.alloc (.cells #[.int .i64 i,.int .i64 s,.int .i64 q,.slice (some ⟨ab,ao,none⟩) acts.length ac] 49)):=by go_grown
   have hcl:=cloneTxn_any i s q ab ao ac acts _ ((actK_at hrd).2.below hbY) hpos (by omega)
   rw [Nat.add_zero] at c0
   replace hO:=hO.below hbY
   replace hb:=hb.trans (hbY.mono hb.size)
   clear HE hbY
   go_wp2_with fail
   clear c0 c1 c2 c3
   generalize wr.alloc (.cells #[.int .i64 i,.int .i64 s,.int .i64 q,.slice (some ⟨ab,ao,none⟩) acts.length ac] 49)=Y at *
   have hYs:w.heap.size≤Y.heap.size:=hb.size
   refine hcl.mono ?_
   rintro e w2 ⟨a2,c2,rfl,ho2,hb2⟩
   have HLT:=hO.lt
   replace hO:=hO.below hb2
   replace hb:=hb.trans (hb2.mono hb.size)
   obtain ⟨o2,hk2⟩:=own_zero ho2
   have hP:txnK.own w2 ⟨i,s,q,.slice a2 acts.length c2,acts⟩:=⟨o2,fun _ _=>trivial⟩
   have hPlo:∀ x∈txnK.foot ⟨i,s,q,.slice a2 acts.length c2,acts⟩,Y.heap.size≤x:=fun x hx=>hk2 x (by rw [← actK_fp (.slice a2 acts.length c2) acts];exact hx)
   have hPn:(txnK.foot ⟨i,s,q,.slice a2 acts.length c2,acts⟩).Nodup:=by
    show (actK.fp _ _).Nodup
    rw [actK_fp];exact blk_nodup _
   have hbA:Below w2.heap.size w2 (w2.alloc (.cells #[.int .i64 i,.int .i64 s,.int .i64 q,.slice a2 acts.length c2] 49)):=by go_grown
   have hOA:=hO.below hbA
   have hPA:=txnK.own_out (F:=[]) hP (Out.of_below hbA) (fun _ _=>by simp)
   have hbB:=hb.trans (hbA.mono hb.size)
   clear hcl ho2 hO hP hk2
   have hrow0:=hOA.1
   go_wp2_with (at_builtin;refine wpList_append_own_at _ rfl _ _ 28 rfl 0 49 i0 (.agg #[.int .i64 0,.int .i64 0,.int .i64 0,.slice none 0 0]) 4 48 Tryz.underlying28 hi hz0 hz1 hz2 rfl (by decide) _ qs.length (txnK.row qs) rfl hrow0 ⟨w2.heap.size,0,none⟩ 1 1 [.int .i64 i,.int .i64 s,.int .i64 q,.slice a2 acts.length c2] rfl rfl ?c1 ?c2 ?c3 ?c4 ?c5 ?_)
   all_goals try (case c1=>intro j u hj;match j,hj with | 0,hj=>simp at hj;subst hj;simp [Addr.add] | 1,hj=>simp at hj;subst hj;simp [Addr.add] | 2,hj=>simp at hj;subst hj;simp [Addr.add] | 3,hj=>simp at hj;subst hj;simp [Addr.add])
   all_goals try (case c2=>intro u hu;simp at hu;rcases hu with rfl | rfl | rfl | rfl <;> rfl)
   all_goals try (case c3=>have:=HQL.out;unfold maxLen;omega)
   all_goals try (case c4=>have:=HQL.out;omega)
   all_goals try (case c5=>first | omega | simp)
   intro v' w5 hown hgrow hnil hat
   clear hnil hrow0
   rw [show w2.heap.size + 1=(w2.alloc (.cells #[.int .i64 i,.int .i64 s,.int .i64 q,.slice a2 acts.length c2] 49)).heap.size from (World.size_alloc _ _).symm] at hat
   generalize hwA:w2.alloc (.cells #[.int .i64 i,.int .i64 s,.int .i64 q,.slice a2 acts.length c2] 49)=WA at *
   clear hwA
   have hsz:Y.heap.size≤WA.heap.size:=by have:=hb2.size;have:=hbA.size;omega
   obtain ⟨hO5,hn5,hlo5,hou⟩:=hOA.snoc HN.out.1 HN.out.2 hPA hPn (fun x hx hx' => by have:=HLT x hx';have:=hPlo x hx;omega) (fun x hx=>by have:=hPlo x hx;omega) hbB.size hown hgrow hat
   have hb5:Below w.heap.size w w5:=Out.keep hbB hou hbB.size (fun x hx=>HN.out.2 x (by simp only [Kind.fp,List.mem_append];exact Or.inl hx))
   have HE5:Hid ((qs ++ [(⟨i,s,q,.slice a2 acts.length c2,acts⟩:TxnQ)]).map TxnQ.e=(ps.take (k + 1)).map TxnQ.e):=HPE.out _ rfl
   have HN5:Hid ((txnK.fp v' (qs ++ [(⟨i,s,q,.slice a2 acts.length c2,acts⟩:TxnQ)])).Nodup∧∀ k∈txnK.fp v' (qs ++ [(⟨i,s,q,.slice a2 acts.length c2,acts⟩:TxnQ)]),w.heap.size≤k):=⟨hn5,hlo5⟩
   clear HPE HN HLT hPlo hPn hPA hOA hbB hown hgrow hat hou hn5 hlo5 hrd hb hbA hb2 hzl hpos
   go_wp2
   go_roundw
   case rel=>exact ⟨k + 1,_,by omega,by go_num,HE5,hO5,HN5,hb5⟩
   case measure=>simp [intOf];omega
  ·have hkl:k=ps.length:=by omega
   subst hkl
   have hE:=HE.out
   rw [List.take_length] at hE
   clear HE
   go_wp2
   go_ret
   exact ⟨_,qs,rfl,hE,hO,HN.out.1,HN.out.2,hb⟩

end Go.Proofs.YtfdkcbafpiojkaaGreatDoor
namespace Go.Proofs.YtfdkcbafpiojkaaGreatDoor
open Go.RowKit
open Go.BigFrame
set_option maxRecDepth 100000
/-- Those of which none of the others has the name. -/
def witL (ds gone:List TxnD):List TxnD:=ds.filter (fun t=>!knw gone t)

def witQ (ps:List TxnQ) (gone:List TxnD):List TxnQ:=ps.filter (fun p=>!knw gone (TxnQ.e p))

theorem wit_map (ps:List TxnQ) (gone:List TxnD):(witQ ps gone).map TxnQ.e=witL (ps.map TxnQ.e) gone:=by
 induction ps with
 | nil=>rfl
 | cons p r ih=>
  simp only [witQ,witL,List.map_cons,List.filter_cons] at ih ⊢
  split <;> simp [ih]

theorem wit_succ (ps:List TxnQ) (gone:List TxnD) (k:Nat) (hk:k < ps.length):witQ (ps.take (k + 1)) gone=if knw gone (TxnQ.e ps[k]) then witQ (ps.take k) gone else witQ (ps.take k) gone ++ [ps[k]]:=by
 unfold witQ
 rw [List.take_succ_eq_append_getElem hk,List.filter_append]
 cases h:knw gone (TxnQ.e ps[k]) <;> simp [List.filter_cons,h]

theorem wit_len (ps:List TxnQ) (gone:List TxnD) (k:Nat):(witQ (ps.take k) gone).length≤k:=by
 have h1:(witQ (ps.take k) gone).length≤(ps.take k).length:=List.length_filter_le ..
 rw [List.length_take] at h1
 omega

theorem wit_mem {ps:List TxnQ} {gone:List TxnD} {p:TxnQ} (h:p∈witQ ps gone):p∈ps:=(List.mem_filter.1 h).1

theorem wit_n (ps:List TxnQ) (gone:List TxnD):(witQ ps gone).length + nmL TxnQ.n (witQ ps gone)≤ps.length + nmL TxnQ.n ps:=by
 induction ps with
 | nil=>simp [witQ,nmL]
 | cons p r ih=>
  simp only [witQ,List.filter_cons,List.length_cons] at ih ⊢
  simp only [nmL,List.map_cons,List.sum_cons] at ih ⊢
  split
  ·simp only [List.length_cons,List.map_cons,List.sum_cons]
   omega
  ·omega

theorem lstGo_mem:∀ (r acc:List TxnD),lstGo acc r=0→∀ t∈r,t.F=0
 | [],_,_,t,ht=>by simp at ht
 | x :: r,acc,h,t,ht=>by
  rw [lstGo] at h
  by_cases h0:stpF acc x=0
  ·rw [if_pos h0] at h
   rcases List.mem_cons.1 ht with rfl | ht
   ·exact (stp_zero h0).1
   ·exact lstGo_mem r _ h t ht
  ·rw [if_neg h0] at h
   exact absurd h h0

theorem lst_mem {ds:List TxnD} (h:lstF ds=0):ds.length≤40∧∀ t∈ds,t.F=0:=by
 unfold lstF at h
 by_cases h4:40 < ds.length
 ·rw [if_pos h4] at h
  exact absurd h (by decide)
 ·rw [if_neg h4] at h
  exact ⟨by omega,lstGo_mem ds [] h⟩

theorem txn_pos {t:TxnD} (h:t.F=0):0 < t.acts.length:=by
 obtain ⟨i,s,q,zs⟩:=t
 have h:txnF i s q zs=0:=h
 rcases txnF_ways i s q zs with ⟨_,e⟩ | ⟨_,_,e⟩ | ⟨_,_,_,e⟩ | ⟨_,_,_,⟨_,e⟩ | ⟨_,e⟩ | ⟨h1,_,_⟩⟩
 ·rw [e] at h;exact absurd h (by decide)
 ·rw [e] at h;exact absurd h (by decide)
 ·rw [e] at h;exact absurd h (by decide)
 ·rw [e] at h;exact absurd h (by decide)
 ·rw [e] at h;exact absurd h (by decide)
 ·show 0 < zs.length
  omega

theorem bth_zero {ds ds' : List TxnD} (h:bthF ds ds' = 0):lstF ds=0∧lstF ds' = 0:=by
 unfold bthF at h
 by_cases h0:lstF ds=0
 ·rw [if_pos h0] at h
  exact ⟨h0,h⟩
 ·rw [if_neg h0] at h
  exact absurd h h0

theorem lst_pos {ps:List TxnQ} (h:lstF (ps.map TxnQ.e)=0):∀ p∈ps,0 < p.acts.length:=fun p hp=>txn_pos (t:=TxnQ.e p) ((lst_mem h).2 _ (List.mem_map.2 ⟨p,hp,rfl⟩))

set_option maxRecDepth 100000 in
set_option maxHeartbeats 4000000 in
theorem outside_any (v v' : Value) (ps gs:List TxnQ) (w:World) (h:txnK.At w v ps) (h' : txnK.At w v' gs) (hl:ps.length≤40) (hl' : gs.length≤1048576) :
  Calls Tryz.prog 100 #[v,v'] w fun e w' => ∃ v2,e=.returned v2∧w'.ownsRow w.heap.size 49 4 v2 (witQ ps (gs.map TxnQ.e)).length (txnK.row (witQ ps (gs.map TxnQ.e)))∧Below w.heap.size w w' := by
 obtain ⟨a,cap,rfl⟩:=h.shape
 obtain ⟨a',cap',rfl⟩:=h'.shape
 obtain ⟨i0,hi,hz0,hz1,hz2⟩:=info_parts infoTxn
 have hhas:=fun x a n c w h=>implHasTxn_any (.slice a' gs.length cap') gs x a n c w h hl'
 generalize gs.map TxnQ.e=gd at *
 have hn1:w.ownsRow w.heap.size 49 4 (.slice none 0 0) (witQ (ps.take 0) gd).length (txnK.row (witQ (ps.take 0) gd)):=World.ownsRow_nil _ _ _ _
 go_enter Tryz.func100,Tryz.ntmps100
 go_wp2
 go_loopw [5,10] (fun v j wr=>∃ k:Nat,k≤ps.length∧j=.int .i64 k∧wr.ownsRow w.heap.size 49 4 v (witQ (ps.take k) gd).length (txnK.row (witQ (ps.take k) gd))∧Below w.heap.size w wr) (fun _ j _=>ps.length - (intOf j).toNat)
 case atStart=>exact ⟨0,Nat.zero_le _,rfl,hn1,Below.refl _ _⟩
 case round=>
  clear hn1
  obtain ⟨k,hk,rfl,hO,hb⟩:=hrel
  by_cases hlt:k < ps.length
  ·have HW:=wit_succ ps gd k hlt
   have HQL:=wit_len ps gd k
   obtain ⟨b,off,rfl,hbs,hc,hrd⟩:=(h.below hb).cell (by decide) k hlt
   have hc' : ∀ j x,(txnK.cells ps[k])[j]? = some x→wr.cell? ⟨b,off + k * 4 + j,none⟩=some x:=hc
   have c0:=hc' 0 (.int .i64 ps[k].i) rfl
   have c1:=hc' 1 (.int .i64 ps[k].s) rfl
   have c2:=hc' 2 (.int .i64 ps[k].q) rfl
   have c3:=hc' 3 (ps[k].va) rfl
   rw [Nat.add_zero] at c0
   clear hc hc'
   generalize witQ (ps.take k) gd=qs at *
   obtain ⟨sa,sc,rfl⟩:=own_shape hO
   generalize hK:knw gd (TxnQ.e ps[k])=K at *
   have HK:Hid (knw gd (TxnQ.e ps[k])=K):=hK
   clear hK
   generalize ps[k]=p at *
   obtain ⟨i,s,q,va,acts⟩:=p
   replace hrd:actK.At wr va acts:=hrd
   obtain ⟨aa,ac,rfl⟩:=hrd.shape
   dsimp only [TxnQ.e] at c0 c1 c2 c3 HK
   have hbY:Below wr.heap.size wr (wr.alloc (.cells #[.int .i64 i,.int .i64 s,.int .i64 q,.slice aa acts.length ac] 49)):=by go_grown
   have hX:=Blk.new wr 49 #[.int .i64 i,.int .i64 s,.int .i64 q,.slice aa acts.length ac]
   have hq:=hhas ⟨i,s,q,acts⟩ aa acts.length ac _ (h'.below (hb.trans (hbY.mono hb.size)))
   rw [HK.out] at hq
   dsimp only at hq
   replace hO:=own_below hO hbY
   replace hb:=hb.trans (hbY.mono hb.size)
   have hlti:(k:Int) < (ps.length:Int):=by omega
   clear hbY HK hrd
   go_wp2_with fail
   clear c0 c1 c2 c3
   have hlx:wr.heap.size < (wr.alloc (.cells #[.int .i64 i,.int .i64 s,.int .i64 q,.slice aa acts.length ac] 49)).heap.size:=by simp
   generalize wr.heap.size=H at *
   generalize wr.alloc (.cells #[.int .i64 i,.int .i64 s,.int .i64 q,.slice aa acts.length ac] 49)=Y at *
   refine hq.mono ?_
   rintro e w2 ⟨rfl,hb2⟩
   replace hO:=own_below hO hb2
   replace hb:=hb.trans (hb2.mono hb.size)
   replace hX:=hX.below hb2
   clear hq hb2
   cases K with
   | true=>
    rw [if_pos rfl] at HW
    rw [← HW] at hO
    have HH:Hid (w2.ownsRow w.heap.size 49 4 (.slice sa (witQ (ps.take (k + 1)) gd).length sc) (witQ (ps.take (k + 1)) gd).length (txnK.row (witQ (ps.take (k + 1)) gd))):=hO
    rw [← HW]
    clear HW hO
    go_wp2
    go_roundw
    case rel=>exact ⟨k + 1,by omega,by go_num,HH.out,hb⟩
    case measure=>simp [intOf];omega
   | false=>
    have HW2:Hid (witQ (ps.take (k + 1)) gd=qs ++ [(⟨i,s,q,.slice aa acts.length ac,acts⟩:TxnQ)]):=HW
    clear HW
    have x0:=hX.cell 0 _ rfl
    have x1:=hX.cell 1 _ rfl
    have x2:=hX.cell 2 _ rfl
    have x3:=hX.cell 3 _ rfl
    have hbA:Below w2.heap.size w2 (w2.alloc (.cells #[.int .i64 i,.int .i64 s,.int .i64 q,.slice aa acts.length ac] 49)):=by go_grown
    have hOA:=own_below hO hbA
    have hbB:=hb.trans (hbA.mono hb.size)
    have hsz:=hb.size
    clear hO hb hX
    go_wp2_with (at_builtin;refine wpList_append_own_at _ rfl _ _ 28 rfl w.heap.size 49 i0 (.agg #[.int .i64 0,.int .i64 0,.int .i64 0,.slice none 0 0]) 4 48 Tryz.underlying28 hi hz0 hz1 hz2 rfl (by decide) _ qs.length (txnK.row qs) rfl hOA ⟨w2.heap.size,0,none⟩ 1 1 [.int .i64 i,.int .i64 s,.int .i64 q,.slice aa acts.length ac] rfl rfl ?c1 ?c2 ?c3 ?c4 ?c5 ?_)
    all_goals try (case c1=>intro j u hj;match j,hj with | 0,hj=>simp at hj;subst hj;simp [Addr.add] | 1,hj=>simp at hj;subst hj;simp [Addr.add] | 2,hj=>simp at hj;subst hj;simp [Addr.add] | 3,hj=>simp at hj;subst hj;simp [Addr.add])
    all_goals try (case c2=>intro u hu;simp at hu;rcases hu with rfl | rfl | rfl | rfl <;> rfl)
    all_goals try (case c3=>unfold maxLen;omega)
    all_goals try (case c4=>omega)
    all_goals try (case c5=>have:=hbA.size;omega)
    intro v' w5 hown hgrow hnil hat5
    have hrow:txnK.row (qs ++ [(⟨i,s,q,.slice aa acts.length ac,acts⟩:TxnQ)])=txnK.row qs ++ [.int .i64 i,.int .i64 s,.int .i64 q,.slice aa acts.length ac]:=by simp [Kind.row];rfl
    have hown5:w5.ownsRow w.heap.size 49 4 v' (witQ (ps.take (k + 1)) gd).length (txnK.row (witQ (ps.take (k + 1)) gd)):=by rw [HW2.out,hrow,List.length_append];exact hown
    have hb5:Below w.heap.size w w5:=hbB.grown hgrow hbB.size (fun j hj=>by have:=(hOA.lt j hj).1;omega)
    clear hown hgrow hnil hat5 hrow hOA hbB x0 x1 x2 x3
    go_wp2
    go_roundw
    case rel=>exact ⟨k + 1,by omega,by go_num,hown5,hb5⟩
    case measure=>simp [intOf];omega
  ·have hkl:k=ps.length:=by omega
   subst hkl
   rw [List.take_length] at hO
   have hlti:¬ ((ps.length:Nat):Int) < (ps.length:Int):=by omega
   go_wp2
   go_ret
   exact ⟨_,rfl,hO,hb⟩

end Go.Proofs.YtfdkcbafpiojkaaGreatDoor
namespace Go.Proofs.YtfdkcbafpiojkaaGreatDoor
open Go.RowKit
open Go.BigFrame
set_option maxRecDepth 100000
/-- How many of the first ones are the same. -/
def comN:List TxnD→List TxnD→Nat
 | x :: r,y :: s=>if sameT x y then comN r s + 1 else 0
 | _,_=>0

theorem com_at:∀ (xs ys:List TxnD) (k:Nat),(∀ j,j < k→sameT (xs.getD j txnNo') (ys.getD j txnNo')=true)→k≤xs.length→k≤ys.length→(k=xs.length∨k=ys.length∨sameT (xs.getD k txnNo') (ys.getD k txnNo')=false)→comN xs ys=k
 | [],ys,k,_,h1,_,_=>by
  have:k=0:=by simpa using h1
  subst this
  simp [comN]
 | x :: r,[],k,_,_,h2,_=>by
  have:k=0:=by simpa using h2
  subst this
  simp [comN]
 | x :: r,y :: s,0,_,_,_,h=>by
  rcases h with h | h | h
  ·simp at h
  ·simp at h
  ·have:sameT x y=false:=h
   simp [comN,this]
 | x :: r,y :: s,k + 1,hA,h1,h2,h=>by
  have h0:sameT x y=true:=hA 0 (by omega)
  rw [comN,if_pos h0,com_at r s k (fun j hj=>hA (j + 1) (by omega)) (by simpa using h1) (by simpa using h2) (by
   rcases h with h | h | h
   ·exact Or.inl (by simpa using h)
   ·exact Or.inr (Or.inl (by simpa using h))
   ·exact Or.inr (Or.inr h))]

theorem com_le (xs ys:List TxnD):comN xs ys≤xs.length∧comN xs ys≤ys.length:=by
 induction xs generalizing ys with
 | nil=>simp [comN]
 | cons x r ih=>
  cases ys with
  | nil=>simp [comN]
  | cons y s=>
   simp only [comN,List.length_cons]
   have:=ih s
   split <;> omega

/-- The value of CommonOf. -/
def cmV (ds ds' : List TxnD):Int:=if bthF ds ds' = 0 then (comN ds ds' : Int) else 0

set_option maxRecDepth 100000 in
set_option maxHeartbeats 8000000 in
theorem implCommonOf_any (v v' : Value) (ps ps' : List TxnQ) (w:World) (h:txnK.At w v ps) (h' : txnK.At w v' ps') (hl:ps.length + nmL TxnQ.n ps≤1048576) (hl' : ps'.length + nmL TxnQ.n ps' ≤ 1048576) :
  Calls Tryz.prog 98 #[v,v'] w fun e w' => e=.returned (.agg #[.int .i64 (bthF (ps.map TxnQ.e) (ps'.map TxnQ.e)),.int .i64 (cmV (ps.map TxnQ.e) (ps'.map TxnQ.e))])∧Below w.heap.size w w' := by
 have HV:Hid ((bthF (ps.map TxnQ.e) (ps'.map TxnQ.e)=0→cmV (ps.map TxnQ.e) (ps'.map TxnQ.e)=(comN (ps.map TxnQ.e) (ps'.map TxnQ.e):Int))∧(bthF (ps.map TxnQ.e) (ps'.map TxnQ.e)≠0→cmV (ps.map TxnQ.e) (ps'.map TxnQ.e)=0)):=⟨fun h0=>if_pos h0,fun h0=>if_neg h0⟩
 have hB:Below w.heap.size w (w.alloc (.cells #[.int .i64 0,.int .i64 0] 160)):=by go_grown
 have Rb:=Blk.new w 160 #[.int .i64 0,.int .i64 0]
 have hq:=listsTwo_any v v' ps ps' (w.alloc (.cells #[.int .i64 0,.int .i64 0] 160)) (h.below hB) (h'.below hB) hl hl'
 rw [World.size_alloc] at hq
 obtain ⟨a,cap,rfl⟩:=h.shape
 obtain ⟨a',cap',rfl⟩:=h'.shape
 generalize bthF (ps.map TxnQ.e) (ps'.map TxnQ.e)=C at *
 generalize cmV (ps.map TxnQ.e) (ps'.map TxnQ.e)=V at *
 go_enter Tryz.func98,Tryz.ntmps98
 go_wp2_with fail
 refine hq.mono ?_
 rintro e w1 ⟨rfl,hb1⟩
 rw [← World.size_alloc w (.cells #[.int .i64 0,.int .i64 0] 160)] at hb1
 replace hB:=hB.trans (hb1.mono hB.size)
 replace Rb:=Rb.below hb1
 clear hq hb1
 by_cases hC:C=0
 ·have HV0:Hid (V=(comN (ps.map TxnQ.e) (ps'.map TxnQ.e):Int)):=HV.out.1 hC
  subst hC
  clear HV
  go_wp2
  go_loopw [6] (fun j wr=>∃ k:Nat,k≤ps.length∧k≤ps'.length∧j=.int .i64 k∧Below w.heap.size w wr∧Blk wr w.heap.size 160 #[.int .i64 0,.int .i64 0]∧Hid (∀ j,j < k→sameT ((ps.map TxnQ.e).getD j txnNo') ((ps'.map TxnQ.e).getD j txnNo')=true)) (fun j _=>ps.length - (intOf j).toNat)
  case atStart=>exact ⟨0,Nat.zero_le _,Nat.zero_le _,rfl,hB,Rb,fun j hj=>absurd hj (Nat.not_lt_zero _)⟩
  case round=>
   clear hB Rb
   obtain ⟨k,hk,hk',rfl,hb,Rb,HA⟩:=hrel
   obtain ⟨mn,hmn⟩:∃ mn:Nat,mn=min ps.length ps'.length:=⟨_,rfl⟩
   have hmin:∀ u:Lat wr,(Builtin.min_ #[3,3] 3 #[.int .i64 ps.length,.int .i64 ps'.length]).run Tryz.prog u.val=.ok (.int .i64 mn) u.val:=fun u=>by
    rw [run_min_int2]
    congr 2
    split <;> omega
   have hW:Below wr.heap.size wr wr.drew:=(Below.refl _ _).drew
   have hnn:Nonempty (Lat wr):=⟨⟨wr,Below.refl _ _⟩⟩
   by_cases hkm:k < mn
   ·have hlt:k < ps.length:=by omega
    have hlt' : k < ps'.length:=by omega
    obtain ⟨b,off,rfl,hbs,hcm,hrd⟩:=(h.below hb).cell (by decide) k hlt
    obtain ⟨b',off',rfl,hbs',hcm',hrd'⟩:=(h'.below hb).cell (by decide) k hlt'
    have hc' : ∀ j x,(txnK.cells ps[k])[j]? = some x→wr.cell? ⟨b,off + k * 4 + j,none⟩=some x:=hcm
    have hd' : ∀ j x,(txnK.cells ps'[k])[j]? = some x→wr.cell? ⟨b',off' + k * 4 + j,none⟩=some x:=hcm'
    have c0:=hc' 0 (.int .i64 ps[k].i) rfl
    have c1:=hc' 1 (.int .i64 ps[k].s) rfl
    have c2:=hc' 2 (.int .i64 ps[k].q) rfl
    have c3:=hc' 3 (ps[k].va) rfl
    have d0:=hd' 0 (.int .i64 ps'[k].i) rfl
    have d1:=hd' 1 (.int .i64 ps'[k].s) rfl
    have d2:=hd' 2 (.int .i64 ps'[k].q) rfl
    have d3:=hd' 3 (ps'[k].va) rfl
    rw [Nat.add_zero] at c0 d0
    have n1:=nm_le TxnQ.n ps k hlt
    have n2:=nm_le TxnQ.n ps' k hlt'
    have HY:Hid (sameT (TxnQ.e ps[k]) (TxnQ.e ps'[k])=false→comN (ps.map TxnQ.e) (ps'.map TxnQ.e)=k):=fun hx=>com_at _ _ k HA.out (by simpa using hk) (by simpa using hk') (Or.inr (Or.inr (by rw [txn_get ps k hlt,txn_get ps' k hlt'];exact hx)))
    have HN:Hid (sameT (TxnQ.e ps[k]) (TxnQ.e ps'[k])=true→∀ j,j < k + 1→sameT ((ps.map TxnQ.e).getD j txnNo') ((ps'.map TxnQ.e).getD j txnNo')=true):=fun hx j hj=>by
     by_cases hjk:j=k
     ·subst hjk
      rw [txn_get ps j hlt,txn_get ps' j hlt']
      exact hx
     ·exact HA.out j (by omega)
    clear HA hcm hcm' hc' hd'
    generalize hS:sameT (TxnQ.e ps[k]) (TxnQ.e ps'[k])=S at *
    have HS:Hid (sameT (TxnQ.e ps[k]) (TxnQ.e ps'[k])=S):=hS
    clear hS
    generalize ps[k]=p at *
    generalize ps'[k]=p' at *
    obtain ⟨i,s,q,va,acts⟩:=p
    obtain ⟨i',s',q',va',acts'⟩:=p'
    replace hrd:actK.At wr va acts:=hrd
    replace hrd' : actK.At wr va' acts' := hrd'
    replace n1:acts.length≤nmL TxnQ.n ps:=n1
    replace n2:acts'.length≤nmL TxnQ.n ps' := n2
    obtain ⟨aa,ac,rfl⟩:=hrd.shape
    obtain ⟨aa',ac',rfl⟩:=hrd'.shape
    have hR:=(actK_at hrd).2
    have hR' := (actK_at hrd').2
    dsimp only [TxnQ.e] at c0 c1 c2 c3 d0 d1 d2 d3 HS
    replace c0:=lat_cell c0
    replace c1:=lat_cell c1
    replace c2:=lat_cell c2
    replace c3:=lat_cell c3
    replace d0:=lat_cell d0
    replace d1:=lat_cell d1
    replace d2:=lat_cell d2
    replace d3:=lat_cell d3
    have hq:=fun w h1 h2=>isSameTxn_any ⟨i,s,q,acts⟩ ⟨i',s',q',acts'⟩ aa aa' ac ac' w h1 h2 (by dsimp only;omega) (by dsimp only;omega)
    rw [HS.out] at hq
    dsimp only at hq
    have hkmi:(k:Int) < (mn:Int):=by omega
    have hki:(k:Int) < (ps.length:Int):=by omega
    have hki' : (k:Int) < (ps'.length:Int):=by omega
    clear HS hmn hrd hrd'
    go_wp2_with fail
    refine text_begin (S:=fun w' => ∃ u:Lat wr,w' = u.val) (by kernel_rfl) ?_
    refine seg_range [(0,2),(3,1)] 15 (by kernel_rfl) (by kernel_rfl) (by kernel_rfl) (by kernel_rfl) (by kernel_rfl) ⟨⟨_,hW⟩,rfl⟩ ?_
    simp only [pickR,List.toList_toArray,List.flatMap_cons,List.flatMap_nil,List.drop_succ_cons,List.drop_zero,List.take_succ_cons,List.take_zero,List.cons_append,List.nil_append,List.append_nil]
    repeat go_big_quiet_step (fail)
    refine wpQuiet_nil ?_
    refine quiet_at 2 (some 17) (.int .i64 ps.length) 14 (by kernel_rfl) (by kernel_rfl) (by kernel_rfl) (by kernel_rfl) (by kernel_rfl) (fun u _=>by kernel_rfl) ⟨⟨_,hW⟩,rfl⟩ ?_
    simp only [Act.put,List.setIfInBounds_toArray,List.set_cons_zero,List.set_cons_succ]
    refine quiet_at 4 (some 19) (.int .i64 ps'.length) 13 (by kernel_rfl) (by kernel_rfl) (by kernel_rfl) (by kernel_rfl) (by kernel_rfl) (fun u _=>by kernel_rfl) ⟨⟨_,hW⟩,rfl⟩ ?_
    simp only [Act.put,List.setIfInBounds_toArray,List.set_cons_zero,List.set_cons_succ]
    refine quiet_at 5 (some 20) (.int .i64 mn) 12 (by kernel_rfl) (by kernel_rfl) (by kernel_rfl) (by kernel_rfl) (by kernel_rfl) (fun u hu=>?_) ⟨⟨_,hW⟩,rfl⟩ ?_
    ·obtain ⟨u,rfl⟩:=hu
     refine Eq.trans (b:=some (((Builtin.min_ #[3,3] 3 #[.int .i64 ps.length,.int .i64 ps'.length]) >>= fun x=>pure (Next.value x):Sem Next).run Tryz.prog u.val)) (by kernel_rfl) ?_
     rw [Sem.run_bind,hmin u]
     rfl
    simp only [Act.put,List.setIfInBounds_toArray,List.set_cons_zero,List.set_cons_succ]
    refine seg_range [(6,10)] 2 (by kernel_rfl) (by kernel_rfl) (by kernel_rfl) (by kernel_rfl) (by kernel_rfl) ⟨⟨_,hW⟩,rfl⟩ ?_
    simp only [pickR,List.toList_toArray,List.flatMap_cons,List.flatMap_nil,List.drop_succ_cons,List.drop_zero,List.take_succ_cons,List.take_zero,List.cons_append,List.nil_append,List.append_nil]
    repeat go_big_quiet_step (fail)
    refine wpQuiet_nil ?_
    refine call_at 16 (some 31) 102 #[.agg #[.int .i64 i,.int .i64 s,.int .i64 q,.slice aa acts.length ac],.agg #[.int .i64 i',.int .i64 s',.int .i64 q',.slice aa' acts'.length ac']] 1 (by kernel_rfl) (by kernel_rfl) (by kernel_rfl) (by kernel_rfl) (by kernel_rfl) ?_
    refine (hq _ (hR.below hW) (hR'.below hW)).mono ?_
    rintro e w9 ⟨rfl,hb9⟩
    replace hW:=hW.trans (hb9.mono hW.size)
    clear hb9
    refine ⟨_,rfl,⟨⟨_,hW⟩,rfl⟩,?_⟩
    simp only [Act.put,List.setIfInBounds_toArray,List.set_cons_zero,List.set_cons_succ]
    refine seg_range [(17,1)] 0 (by kernel_rfl) (by kernel_rfl) (by kernel_rfl) (by kernel_rfl) (by kernel_rfl) ⟨⟨_,hW⟩,rfl⟩ ?_
    simp only [pickR,List.toList_toArray,List.flatMap_cons,List.flatMap_nil,List.drop_succ_cons,List.drop_zero,List.take_succ_cons,List.take_zero,List.cons_append,List.nil_append,List.append_nil]
    repeat go_big_quiet_step (fail)
    refine wpQuiet_nil ?_
    refine text_end (by kernel_rfl) ?_
    replace hb:=hb.trans (hW.mono hb.size)
    replace Rb:=Rb.below hW
    clear hW hnn hq c0 c1 c2 c3 d0 d1 d2 d3 hR hR' hmin
    cases S with
    | true=>
     have HR:Hid _:=HN.out rfl
     clear HY HN
     go_wp2
     go_roundw
     case rel=>exact ⟨k + 1,by omega,by omega,by go_num,hb,Rb,HR.out⟩
     case measure=>simp [intOf];omega
    | false=>
     have HR:Hid (V=(k:Int)):=show _=_ by rw [HV0.out,HY.out rfl]
     have q0:=Rb.cell 0 _ rfl
     have q1:=Rb.cell 1 _ rfl
     have f0:=Rb.frozen 0
     have f1:=Rb.frozen 1
     clear HY HN HV0
     go_wp2
     exact bodyPost_ret (v:=.agg #[.int .i64 0,.int .i64 k]) (by simp [results,Tryz.results98,go_sem,q0,q1]) rfl ⟨by rw [HR.out],(hb.setCell (p:=⟨w.heap.size,0,none⟩) (Nat.le_refl _) _).setCell (p:=⟨w.heap.size,1,none⟩) (Nat.le_refl _) _⟩
   ·have hkmi:¬ (k:Int) < (mn:Int):=by omega
    have HR:Hid (V=(k:Int)):=show _=_ by
     rw [HV0.out,com_at _ _ k HA.out (by simpa using hk) (by simpa using hk') (by rw [List.length_map,List.length_map];omega)]
    clear HA HV0 hmn
    go_wp2_with fail
    refine text_begin (S:=fun w' => ∃ u:Lat wr,w' = u.val) (by kernel_rfl) ?_
    refine seg_range [(0,2),(3,1)] 15 (by kernel_rfl) (by kernel_rfl) (by kernel_rfl) (by kernel_rfl) (by kernel_rfl) ⟨⟨_,hW⟩,rfl⟩ ?_
    simp only [pickR,List.toList_toArray,List.flatMap_cons,List.flatMap_nil,List.drop_succ_cons,List.drop_zero,List.take_succ_cons,List.take_zero,List.cons_append,List.nil_append,List.append_nil]
    repeat go_big_quiet_step (fail)
    refine wpQuiet_nil ?_
    refine quiet_at 2 (some 17) (.int .i64 ps.length) 14 (by kernel_rfl) (by kernel_rfl) (by kernel_rfl) (by kernel_rfl) (by kernel_rfl) (fun u _=>by kernel_rfl) ⟨⟨_,hW⟩,rfl⟩ ?_
    simp only [Act.put,List.setIfInBounds_toArray,List.set_cons_zero,List.set_cons_succ]
    refine quiet_at 4 (some 19) (.int .i64 ps'.length) 13 (by kernel_rfl) (by kernel_rfl) (by kernel_rfl) (by kernel_rfl) (by kernel_rfl) (fun u _=>by kernel_rfl) ⟨⟨_,hW⟩,rfl⟩ ?_
    simp only [Act.put,List.setIfInBounds_toArray,List.set_cons_zero,List.set_cons_succ]
    refine quiet_at 5 (some 20) (.int .i64 mn) 12 (by kernel_rfl) (by kernel_rfl) (by kernel_rfl) (by kernel_rfl) (by kernel_rfl) (fun u hu=>?_) ⟨⟨_,hW⟩,rfl⟩ ?_
    ·obtain ⟨u,rfl⟩:=hu
     refine Eq.trans (b:=some (((Builtin.min_ #[3,3] 3 #[.int .i64 ps.length,.int .i64 ps'.length]) >>= fun x=>pure (Next.value x):Sem Next).run Tryz.prog u.val)) (by kernel_rfl) ?_
     rw [Sem.run_bind,hmin u]
     rfl
    simp only [Act.put,List.setIfInBounds_toArray,List.set_cons_zero,List.set_cons_succ]
    refine seg_range [(6,10)] 2 (by kernel_rfl) (by kernel_rfl) (by kernel_rfl) (by kernel_rfl) (by kernel_rfl) ⟨⟨_,hW⟩,rfl⟩ ?_
    simp only [pickR,List.toList_toArray,List.flatMap_cons,List.flatMap_nil,List.drop_succ_cons,List.drop_zero,List.take_succ_cons,List.take_zero,List.cons_append,List.nil_append,List.append_nil]
    repeat go_big_quiet_step (fail)
    refine wpQuiet_nil ?_
    refine skip_at 16 (some 31) 1 (by kernel_rfl) (by kernel_rfl) (by kernel_rfl) (by kernel_rfl) (by kernel_rfl) ⟨⟨_,hW⟩,rfl⟩ ?_
    simp only [Act.put,List.setIfInBounds_toArray,List.set_cons_zero,List.set_cons_succ]
    refine seg_range [(17,1)] 0 (by kernel_rfl) (by kernel_rfl) (by kernel_rfl) (by kernel_rfl) (by kernel_rfl) ⟨⟨_,hW⟩,rfl⟩ ?_
    simp only [pickR,List.toList_toArray,List.flatMap_cons,List.flatMap_nil,List.drop_succ_cons,List.drop_zero,List.take_succ_cons,List.take_zero,List.cons_append,List.nil_append,List.append_nil]
    repeat go_big_quiet_step (fail)
    refine wpQuiet_nil ?_
    refine text_end (by kernel_rfl) ?_
    replace hb:=hb.trans (hW.mono hb.size)
    replace Rb:=Rb.below hW
    clear hW hnn hmin
    generalize wr.drew=wd at *
    have q0:=Rb.cell 0 _ rfl
    have q1:=Rb.cell 1 _ rfl
    have f0:=Rb.frozen 0
    have f1:=Rb.frozen 1
    go_wp2
    exact bodyPost_ret (v:=.agg #[.int .i64 0,.int .i64 k]) (by simp [results,Tryz.results98,go_sem,q0,q1]) rfl ⟨by rw [HR.out],(hb.setCell (p:=⟨w.heap.size,0,none⟩) (Nat.le_refl _) _).setCell (p:=⟨w.heap.size,1,none⟩) (Nat.le_refl _) _⟩
 ·have HR:Hid (V=0):=HV.out.2 hC
  have q0:=Rb.cell 0 _ rfl
  have q1:=Rb.cell 1 _ rfl
  have f0:=Rb.frozen 0
  have f1:=Rb.frozen 1
  clear HV
  go_wp2
  exact bodyPost_ret (v:=.agg #[.int .i64 C,.int .i64 0]) (by simp [results,Tryz.results98,go_sem,q0,q1]) rfl ⟨by rw [HR.out],(hB.setCell (p:=⟨w.heap.size,0,none⟩) (Nat.le_refl _) _).setCell (p:=⟨w.heap.size,1,none⟩) (Nat.le_refl _) _⟩

end Go.Proofs.YtfdkcbafpiojkaaGreatDoor
