/- Texts joined, with what the law reaches alone. -/
import Derived.Test.YtfdkcbafpiojkaaGreatDoorSXAM
import Derived.Test.YtfdkcbafpiojkaaGreatDoorSXAS
set_option linter.unusedVariables false
set_option linter.unusedSimpArgs false
namespace Go.Proofs.YtfdkcbafpiojkaaGreatDoor
open Go.RowKit
open Go.BigFrame
set_option maxRecDepth 100000
/-- How many of the first ones are the same. -/
def comN:List TxnD→List TxnD→Nat
 | x :: r,y :: s=>if sameT x y then comN r s + 1 else 0
 | _,_=>0

theorem com_at:∀ (xs ys:List TxnD) (k:Nat),(∀ j,j < k→sameT (xs.getD j txnNo') (ys.getD j txnNo')=true)→k≤xs.length→k≤ys.length→(k=xs.length∨k=ys.length∨sameT (xs.getD k txnNo') (ys.getD k txnNo')=false)→comN xs ys=k
 | [],ys,k,_,h1,_,_=>by
  have:k=0:=by simpa using h1
  subst this
  simp [comN]
 | x :: r,[],k,_,_,h2,_=>by
  have:k=0:=by simpa using h2
  subst this
  simp [comN]
 | x :: r,y :: s,0,_,_,_,h=>by
  rcases h with h | h | h
  ·simp at h
  ·simp at h
  ·have:sameT x y=false:=h
   simp [comN,this]
 | x :: r,y :: s,k + 1,hA,h1,h2,h=>by
  have h0:sameT x y=true:=hA 0 (by omega)
  rw [comN,if_pos h0,com_at r s k (fun j hj=>hA (j + 1) (by omega)) (by simpa using h1) (by simpa using h2) (by
   rcases h with h | h | h
   ·exact Or.inl (by simpa using h)
   ·exact Or.inr (Or.inl (by simpa using h))
   ·exact Or.inr (Or.inr h))]

theorem com_le (xs ys:List TxnD):comN xs ys≤xs.length∧comN xs ys≤ys.length:=by
 induction xs generalizing ys with
 | nil=>simp [comN]
 | cons x r ih=>
  cases ys with
  | nil=>simp [comN]
  | cons y s=>
   simp only [comN,List.length_cons]
   have:=ih s
   split <;> omega

/-- The value of CommonOf. -/
def cmV (ds ds' : List TxnD):Int:=if bthF ds ds' = 0 then (comN ds ds' : Int) else 0

set_option maxRecDepth 100000 in
set_option maxHeartbeats 8000000 in
theorem implCommonOf_any (v v' : Value) (ps ps' : List TxnQ) (w:World) (h:txnK.At w v ps) (h' : txnK.At w v' ps') (hl:ps.length + nmL TxnQ.n ps≤1048576) (hl' : ps'.length + nmL TxnQ.n ps' ≤ 1048576) :
  Calls Tryz.prog 98 #[v,v'] w fun e w' => e=.returned (.agg #[.int .i64 (bthF (ps.map TxnQ.e) (ps'.map TxnQ.e)),.int .i64 (cmV (ps.map TxnQ.e) (ps'.map TxnQ.e))])∧Below w.heap.size w w' := by
 have HV:Hid ((bthF (ps.map TxnQ.e) (ps'.map TxnQ.e)=0→cmV (ps.map TxnQ.e) (ps'.map TxnQ.e)=(comN (ps.map TxnQ.e) (ps'.map TxnQ.e):Int))∧(bthF (ps.map TxnQ.e) (ps'.map TxnQ.e)≠0→cmV (ps.map TxnQ.e) (ps'.map TxnQ.e)=0)):=⟨fun h0=>if_pos h0,fun h0=>if_neg h0⟩
 have hB:Below w.heap.size w (w.alloc (.cells #[.int .i64 0,.int .i64 0] 160)):=by go_grown
 have Rb:=Blk.new w 160 #[.int .i64 0,.int .i64 0]
 have hq:=listsTwo_any v v' ps ps' (w.alloc (.cells #[.int .i64 0,.int .i64 0] 160)) (h.below hB) (h'.below hB) hl hl'
 rw [World.size_alloc] at hq
 obtain ⟨a,cap,rfl⟩:=h.shape
 obtain ⟨a',cap',rfl⟩:=h'.shape
 generalize bthF (ps.map TxnQ.e) (ps'.map TxnQ.e)=C at *
 generalize cmV (ps.map TxnQ.e) (ps'.map TxnQ.e)=V at *
 go_enter Tryz.func98,Tryz.ntmps98
 go_wp2_with fail
 refine hq.mono ?_
 rintro e w1 ⟨rfl,hb1⟩
 rw [← World.size_alloc w (.cells #[.int .i64 0,.int .i64 0] 160)] at hb1
 replace hB:=hB.trans (hb1.mono hB.size)
 replace Rb:=Rb.below hb1
 clear hq hb1
 by_cases hC:C=0
 ·have HV0:Hid (V=(comN (ps.map TxnQ.e) (ps'.map TxnQ.e):Int)):=HV.out.1 hC
  subst hC
  clear HV
  go_wp2
  go_loopw [6] (fun j wr=>∃ k:Nat,k≤ps.length∧k≤ps'.length∧j=.int .i64 k∧Below w.heap.size w wr∧Blk wr w.heap.size 160 #[.int .i64 0,.int .i64 0]∧Hid (∀ j,j < k→sameT ((ps.map TxnQ.e).getD j txnNo') ((ps'.map TxnQ.e).getD j txnNo')=true)) (fun j _=>ps.length - (intOf j).toNat)
  case atStart=>exact ⟨0,Nat.zero_le _,Nat.zero_le _,rfl,hB,Rb,fun j hj=>absurd hj (Nat.not_lt_zero _)⟩
  case round=>
   clear hB Rb
   obtain ⟨k,hk,hk',rfl,hb,Rb,HA⟩:=hrel
   obtain ⟨mn,hmn⟩:∃ mn:Nat,mn=min ps.length ps'.length:=⟨_,rfl⟩
   have hmin:∀ u:Lat wr,(Builtin.min_ #[3,3] 3 #[.int .i64 ps.length,.int .i64 ps'.length]).run Tryz.prog u.val=.ok (.int .i64 mn) u.val:=fun u=>by
    rw [run_min_int2]
    congr 2
    split <;> omega
   have hW:Below wr.heap.size wr wr.drew:=(Below.refl _ _).drew
   have hnn:Nonempty (Lat wr):=⟨⟨wr,Below.refl _ _⟩⟩
   by_cases hkm:k < mn
   ·have hlt:k < ps.length:=by omega
    have hlt' : k < ps'.length:=by omega
    obtain ⟨b,off,rfl,hbs,hcm,hrd⟩:=(h.below hb).cell (by decide) k hlt
    obtain ⟨b',off',rfl,hbs',hcm',hrd'⟩:=(h'.below hb).cell (by decide) k hlt'
    have hc' : ∀ j x,(txnK.cells ps[k])[j]? = some x→wr.cell? ⟨b,off + k * 4 + j,none⟩=some x:=hcm
    have hd' : ∀ j x,(txnK.cells ps'[k])[j]? = some x→wr.cell? ⟨b',off' + k * 4 + j,none⟩=some x:=hcm'
    have c0:=hc' 0 (.int .i64 ps[k].i) rfl
    have c1:=hc' 1 (.int .i64 ps[k].s) rfl
    have c2:=hc' 2 (.int .i64 ps[k].q) rfl
    have c3:=hc' 3 (ps[k].va) rfl
    have d0:=hd' 0 (.int .i64 ps'[k].i) rfl
    have d1:=hd' 1 (.int .i64 ps'[k].s) rfl
    have d2:=hd' 2 (.int .i64 ps'[k].q) rfl
    have d3:=hd' 3 (ps'[k].va) rfl
    rw [Nat.add_zero] at c0 d0
    have n1:=nm_le TxnQ.n ps k hlt
    have n2:=nm_le TxnQ.n ps' k hlt'
    have HY:Hid (sameT (TxnQ.e ps[k]) (TxnQ.e ps'[k])=false→comN (ps.map TxnQ.e) (ps'.map TxnQ.e)=k):=fun hx=>com_at _ _ k HA.out (by simpa using hk) (by simpa using hk') (Or.inr (Or.inr (by rw [txn_get ps k hlt,txn_get ps' k hlt'];exact hx)))
    have HN:Hid (sameT (TxnQ.e ps[k]) (TxnQ.e ps'[k])=true→∀ j,j < k + 1→sameT ((ps.map TxnQ.e).getD j txnNo') ((ps'.map TxnQ.e).getD j txnNo')=true):=fun hx j hj=>by
     by_cases hjk:j=k
     ·subst hjk
      rw [txn_get ps j hlt,txn_get ps' j hlt']
      exact hx
     ·exact HA.out j (by omega)
    clear HA hcm hcm' hc' hd'
    generalize hS:sameT (TxnQ.e ps[k]) (TxnQ.e ps'[k])=S at *
    have HS:Hid (sameT (TxnQ.e ps[k]) (TxnQ.e ps'[k])=S):=hS
    clear hS
    generalize ps[k]=p at *
    generalize ps'[k]=p' at *
    obtain ⟨i,s,q,va,acts⟩:=p
    obtain ⟨i',s',q',va',acts'⟩:=p'
    replace hrd:actK.At wr va acts:=hrd
    replace hrd' : actK.At wr va' acts' := hrd'
    replace n1:acts.length≤nmL TxnQ.n ps:=n1
    replace n2:acts'.length≤nmL TxnQ.n ps' := n2
    obtain ⟨aa,ac,rfl⟩:=hrd.shape
    obtain ⟨aa',ac',rfl⟩:=hrd'.shape
    have hR:=(actK_at hrd).2
    have hR' := (actK_at hrd').2
    dsimp only [TxnQ.e] at c0 c1 c2 c3 d0 d1 d2 d3 HS
    replace c0:=lat_cell c0
    replace c1:=lat_cell c1
    replace c2:=lat_cell c2
    replace c3:=lat_cell c3
    replace d0:=lat_cell d0
    replace d1:=lat_cell d1
    replace d2:=lat_cell d2
    replace d3:=lat_cell d3
    have hq:=fun w h1 h2=>isSameTxn_any ⟨i,s,q,acts⟩ ⟨i',s',q',acts'⟩ aa aa' ac ac' w h1 h2 (by dsimp only;omega) (by dsimp only;omega)
    rw [HS.out] at hq
    dsimp only at hq
    have hkmi:(k:Int) < (mn:Int):=by omega
    have hki:(k:Int) < (ps.length:Int):=by omega
    have hki' : (k:Int) < (ps'.length:Int):=by omega
    clear HS hmn hrd hrd'
    go_wp2_with fail
    refine text_begin (S:=fun w' => ∃ u:Lat wr,w' = u.val) (by kernel_rfl) ?_
    refine seg_range [(0,2),(3,1)] 15 (by kernel_rfl) (by kernel_rfl) (by kernel_rfl) (by kernel_rfl) (by kernel_rfl) ⟨⟨_,hW⟩,rfl⟩ ?_
    simp only [pickR,List.toList_toArray,List.flatMap_cons,List.flatMap_nil,List.drop_succ_cons,List.drop_zero,List.take_succ_cons,List.take_zero,List.cons_append,List.nil_append,List.append_nil]
    repeat go_big_quiet_step (fail)
    refine wpQuiet_nil ?_
    refine quiet_at 2 (some 17) (.int .i64 ps.length) 14 (by kernel_rfl) (by kernel_rfl) (by kernel_rfl) (by kernel_rfl) (by kernel_rfl) (fun u _=>by kernel_rfl) ⟨⟨_,hW⟩,rfl⟩ ?_
    simp only [Act.put,List.setIfInBounds_toArray,List.set_cons_zero,List.set_cons_succ]
    refine quiet_at 4 (some 19) (.int .i64 ps'.length) 13 (by kernel_rfl) (by kernel_rfl) (by kernel_rfl) (by kernel_rfl) (by kernel_rfl) (fun u _=>by kernel_rfl) ⟨⟨_,hW⟩,rfl⟩ ?_
    simp only [Act.put,List.setIfInBounds_toArray,List.set_cons_zero,List.set_cons_succ]
    refine quiet_at 5 (some 20) (.int .i64 mn) 12 (by kernel_rfl) (by kernel_rfl) (by kernel_rfl) (by kernel_rfl) (by kernel_rfl) (fun u hu=>?_) ⟨⟨_,hW⟩,rfl⟩ ?_
    ·obtain ⟨u,rfl⟩:=hu
     refine Eq.trans (b:=some (((Builtin.min_ #[3,3] 3 #[.int .i64 ps.length,.int .i64 ps'.length]) >>= fun x=>pure (Next.value x):Sem Next).run Tryz.prog u.val)) (by kernel_rfl) ?_
     rw [Sem.run_bind,hmin u]
     rfl
    simp only [Act.put,List.setIfInBounds_toArray,List.set_cons_zero,List.set_cons_succ]
    refine seg_range [(6,10)] 2 (by kernel_rfl) (by kernel_rfl) (by kernel_rfl) (by kernel_rfl) (by kernel_rfl) ⟨⟨_,hW⟩,rfl⟩ ?_
    simp only [pickR,List.toList_toArray,List.flatMap_cons,List.flatMap_nil,List.drop_succ_cons,List.drop_zero,List.take_succ_cons,List.take_zero,List.cons_append,List.nil_append,List.append_nil]
    repeat go_big_quiet_step (fail)
    refine wpQuiet_nil ?_
    refine call_at 16 (some 31) 102 #[.agg #[.int .i64 i,.int .i64 s,.int .i64 q,.slice aa acts.length ac],.agg #[.int .i64 i',.int .i64 s',.int .i64 q',.slice aa' acts'.length ac']] 1 (by kernel_rfl) (by kernel_rfl) (by kernel_rfl) (by kernel_rfl) (by kernel_rfl) ?_
    refine (hq _ (hR.below hW) (hR'.below hW)).mono ?_
    rintro e w9 ⟨rfl,hb9⟩
    replace hW:=hW.trans (hb9.mono hW.size)
    clear hb9
    refine ⟨_,rfl,⟨⟨_,hW⟩,rfl⟩,?_⟩
    simp only [Act.put,List.setIfInBounds_toArray,List.set_cons_zero,List.set_cons_succ]
    refine seg_range [(17,1)] 0 (by kernel_rfl) (by kernel_rfl) (by kernel_rfl) (by kernel_rfl) (by kernel_rfl) ⟨⟨_,hW⟩,rfl⟩ ?_
    simp only [pickR,List.toList_toArray,List.flatMap_cons,List.flatMap_nil,List.drop_succ_cons,List.drop_zero,List.take_succ_cons,List.take_zero,List.cons_append,List.nil_append,List.append_nil]
    repeat go_big_quiet_step (fail)
    refine wpQuiet_nil ?_
    refine text_end (by kernel_rfl) ?_
    replace hb:=hb.trans (hW.mono hb.size)
    replace Rb:=Rb.below hW
    clear hW hnn hq c0 c1 c2 c3 d0 d1 d2 d3 hR hR' hmin
    cases S with
    | true=>
     have HR:Hid _:=HN.out rfl
     clear HY HN
     go_wp2
     go_roundw
     case rel=>exact ⟨k + 1,by omega,by omega,by go_num,hb,Rb,HR.out⟩
     case measure=>simp [intOf];omega
    | false=>
     have HR:Hid (V=(k:Int)):=show _=_ by rw [HV0.out,HY.out rfl]
     have q0:=Rb.cell 0 _ rfl
     have q1:=Rb.cell 1 _ rfl
     have f0:=Rb.frozen 0
     have f1:=Rb.frozen 1
     clear HY HN HV0
     go_wp2
     exact bodyPost_ret (v:=.agg #[.int .i64 0,.int .i64 k]) (by simp [results,Tryz.results98,go_sem,q0,q1]) rfl ⟨by rw [HR.out],(hb.setCell (p:=⟨w.heap.size,0,none⟩) (Nat.le_refl _) _).setCell (p:=⟨w.heap.size,1,none⟩) (Nat.le_refl _) _⟩
   ·have hkmi:¬ (k:Int) < (mn:Int):=by omega
    have HR:Hid (V=(k:Int)):=show _=_ by
     rw [HV0.out,com_at _ _ k HA.out (by simpa using hk) (by simpa using hk') (by rw [List.length_map,List.length_map];omega)]
    clear HA HV0 hmn
    go_wp2_with fail
    refine text_begin (S:=fun w' => ∃ u:Lat wr,w' = u.val) (by kernel_rfl) ?_
    refine seg_range [(0,2),(3,1)] 15 (by kernel_rfl) (by kernel_rfl) (by kernel_rfl) (by kernel_rfl) (by kernel_rfl) ⟨⟨_,hW⟩,rfl⟩ ?_
    simp only [pickR,List.toList_toArray,List.flatMap_cons,List.flatMap_nil,List.drop_succ_cons,List.drop_zero,List.take_succ_cons,List.take_zero,List.cons_append,List.nil_append,List.append_nil]
    repeat go_big_quiet_step (fail)
    refine wpQuiet_nil ?_
    refine quiet_at 2 (some 17) (.int .i64 ps.length) 14 (by kernel_rfl) (by kernel_rfl) (by kernel_rfl) (by kernel_rfl) (by kernel_rfl) (fun u _=>by kernel_rfl) ⟨⟨_,hW⟩,rfl⟩ ?_
    simp only [Act.put,List.setIfInBounds_toArray,List.set_cons_zero,List.set_cons_succ]
    refine quiet_at 4 (some 19) (.int .i64 ps'.length) 13 (by kernel_rfl) (by kernel_rfl) (by kernel_rfl) (by kernel_rfl) (by kernel_rfl) (fun u _=>by kernel_rfl) ⟨⟨_,hW⟩,rfl⟩ ?_
    simp only [Act.put,List.setIfInBounds_toArray,List.set_cons_zero,List.set_cons_succ]
    refine quiet_at 5 (some 20) (.int .i64 mn) 12 (by kernel_rfl) (by kernel_rfl) (by kernel_rfl) (by kernel_rfl) (by kernel_rfl) (fun u hu=>?_) ⟨⟨_,hW⟩,rfl⟩ ?_
    ·obtain ⟨u,rfl⟩:=hu
     refine Eq.trans (b:=some (((Builtin.min_ #[3,3] 3 #[.int .i64 ps.length,.int .i64 ps'.length]) >>= fun x=>pure (Next.value x):Sem Next).run Tryz.prog u.val)) (by kernel_rfl) ?_
     rw [Sem.run_bind,hmin u]
     rfl
    simp only [Act.put,List.setIfInBounds_toArray,List.set_cons_zero,List.set_cons_succ]
    refine seg_range [(6,10)] 2 (by kernel_rfl) (by kernel_rfl) (by kernel_rfl) (by kernel_rfl) (by kernel_rfl) ⟨⟨_,hW⟩,rfl⟩ ?_
    simp only [pickR,List.toList_toArray,List.flatMap_cons,List.flatMap_nil,List.drop_succ_cons,List.drop_zero,List.take_succ_cons,List.take_zero,List.cons_append,List.nil_append,List.append_nil]
    repeat go_big_quiet_step (fail)
    refine wpQuiet_nil ?_
    refine skip_at 16 (some 31) 1 (by kernel_rfl) (by kernel_rfl) (by kernel_rfl) (by kernel_rfl) (by kernel_rfl) ⟨⟨_,hW⟩,rfl⟩ ?_
    simp only [Act.put,List.setIfInBounds_toArray,List.set_cons_zero,List.set_cons_succ]
    refine seg_range [(17,1)] 0 (by kernel_rfl) (by kernel_rfl) (by kernel_rfl) (by kernel_rfl) (by kernel_rfl) ⟨⟨_,hW⟩,rfl⟩ ?_
    simp only [pickR,List.toList_toArray,List.flatMap_cons,List.flatMap_nil,List.drop_succ_cons,List.drop_zero,List.take_succ_cons,List.take_zero,List.cons_append,List.nil_append,List.append_nil]
    repeat go_big_quiet_step (fail)
    refine wpQuiet_nil ?_
    refine text_end (by kernel_rfl) ?_
    replace hb:=hb.trans (hW.mono hb.size)
    replace Rb:=Rb.below hW
    clear hW hnn hmin
    generalize wr.drew=wd at *
    have q0:=Rb.cell 0 _ rfl
    have q1:=Rb.cell 1 _ rfl
    have f0:=Rb.frozen 0
    have f1:=Rb.frozen 1
    go_wp2
    exact bodyPost_ret (v:=.agg #[.int .i64 0,.int .i64 k]) (by simp [results,Tryz.results98,go_sem,q0,q1]) rfl ⟨by rw [HR.out],(hb.setCell (p:=⟨w.heap.size,0,none⟩) (Nat.le_refl _) _).setCell (p:=⟨w.heap.size,1,none⟩) (Nat.le_refl _) _⟩
 ·have HR:Hid (V=0):=HV.out.2 hC
  have q0:=Rb.cell 0 _ rfl
  have q1:=Rb.cell 1 _ rfl
  have f0:=Rb.frozen 0
  have f1:=Rb.frozen 1
  clear HV
  go_wp2
  exact bodyPost_ret (v:=.agg #[.int .i64 C,.int .i64 0]) (by simp [results,Tryz.results98,go_sem,q0,q1]) rfl ⟨by rw [HR.out],(hB.setCell (p:=⟨w.heap.size,0,none⟩) (Nat.le_refl _) _).setCell (p:=⟨w.heap.size,1,none⟩) (Nat.le_refl _) _⟩

set_option maxRecDepth 100000 in
set_option maxHeartbeats 8000000 in
theorem l8Common_any (v v' : Value) (ps ps' : List TxnQ) (w:World) (h:txnK.At w v ps) (h' : txnK.At w v' ps') (hl:ps.length + nmL TxnQ.n ps≤1048576) (hl' : ps'.length + nmL TxnQ.n ps' ≤ 1048576) :
  Calls Tryz.prog 178 #[v,v'] w fun e w' => e=.returned (.int .i64 (comN (ps.map TxnQ.e) (ps'.map TxnQ.e)))∧Below w.heap.size w w' := by
 obtain ⟨a,cap,rfl⟩:=h.shape
 obtain ⟨a',cap',rfl⟩:=h'.shape
 obtain ⟨V,hV⟩:∃ V:Int,V=(comN (ps.map TxnQ.e) (ps'.map TxnQ.e):Int):=⟨_,rfl⟩
 have HV0:Hid (V=(comN (ps.map TxnQ.e) (ps'.map TxnQ.e):Int)):=hV
 rw [← hV]
 clear hV
 go_enter Tryz.func178,Tryz.ntmps178
 go_wp2
 go_loopw [5] (fun j wr=>∃ k:Nat,k≤ps.length∧k≤ps'.length∧j=.int .i64 k∧Below w.heap.size w wr∧Hid (∀ j,j < k→sameT ((ps.map TxnQ.e).getD j txnNo') ((ps'.map TxnQ.e).getD j txnNo')=true)) (fun j _=>ps.length - (intOf j).toNat)
 case atStart=>exact ⟨0,Nat.zero_le _,Nat.zero_le _,rfl,Below.refl _ _,fun j hj=>absurd hj (Nat.not_lt_zero _)⟩
 case round=>
   obtain ⟨k,hk,hk',rfl,hb,HA⟩:=hrel
   have hW:Below wr.heap.size wr wr.drew:=(Below.refl _ _).drew
   have hnn:Nonempty (Lat wr):=⟨⟨wr,Below.refl _ _⟩⟩
   by_cases hkm:k < ps.length∧k < ps'.length
   ·obtain ⟨hlt,hlt'⟩:=hkm
    obtain ⟨b,off,rfl,hbs,hcm,hrd⟩:=(h.below hb).cell (by decide) k hlt
    obtain ⟨b',off',rfl,hbs',hcm',hrd'⟩:=(h'.below hb).cell (by decide) k hlt'
    have hc' : ∀ j x,(txnK.cells ps[k])[j]? = some x→wr.cell? ⟨b,off + k * 4 + j,none⟩=some x:=hcm
    have hd' : ∀ j x,(txnK.cells ps'[k])[j]? = some x→wr.cell? ⟨b',off' + k * 4 + j,none⟩=some x:=hcm'
    have c0:=hc' 0 (.int .i64 ps[k].i) rfl
    have c1:=hc' 1 (.int .i64 ps[k].s) rfl
    have c2:=hc' 2 (.int .i64 ps[k].q) rfl
    have c3:=hc' 3 (ps[k].va) rfl
    have d0:=hd' 0 (.int .i64 ps'[k].i) rfl
    have d1:=hd' 1 (.int .i64 ps'[k].s) rfl
    have d2:=hd' 2 (.int .i64 ps'[k].q) rfl
    have d3:=hd' 3 (ps'[k].va) rfl
    rw [Nat.add_zero] at c0 d0
    have n1:=nm_le TxnQ.n ps k hlt
    have n2:=nm_le TxnQ.n ps' k hlt'
    have HY:Hid (sameT (TxnQ.e ps[k]) (TxnQ.e ps'[k])=false→comN (ps.map TxnQ.e) (ps'.map TxnQ.e)=k):=fun hx=>com_at _ _ k HA.out (by simpa using hk) (by simpa using hk') (Or.inr (Or.inr (by rw [txn_get ps k hlt,txn_get ps' k hlt'];exact hx)))
    have HN:Hid (sameT (TxnQ.e ps[k]) (TxnQ.e ps'[k])=true→∀ j,j < k + 1→sameT ((ps.map TxnQ.e).getD j txnNo') ((ps'.map TxnQ.e).getD j txnNo')=true):=fun hx j hj=>by
     by_cases hjk:j=k
     ·subst hjk
      rw [txn_get ps j hlt,txn_get ps' j hlt']
      exact hx
     ·exact HA.out j (by omega)
    clear HA hcm hcm' hc' hd'
    generalize hS:sameT (TxnQ.e ps[k]) (TxnQ.e ps'[k])=S at *
    have HS:Hid (sameT (TxnQ.e ps[k]) (TxnQ.e ps'[k])=S):=hS
    clear hS
    generalize ps[k]=p at *
    generalize ps'[k]=p' at *
    obtain ⟨i,s,q,va,acts⟩:=p
    obtain ⟨i',s',q',va',acts'⟩:=p'
    replace hrd:actK.At wr va acts:=hrd
    replace hrd' : actK.At wr va' acts' := hrd'
    replace n1:acts.length≤nmL TxnQ.n ps:=n1
    replace n2:acts'.length≤nmL TxnQ.n ps' := n2
    obtain ⟨aa,ac,rfl⟩:=hrd.shape
    obtain ⟨aa',ac',rfl⟩:=hrd'.shape
    have hR:=(actK_at hrd).2
    have hR' := (actK_at hrd').2
    dsimp only [TxnQ.e] at c0 c1 c2 c3 d0 d1 d2 d3 HS
    have hB4:Box4 wr b (off + k * 4) (.int .i64 i) (.int .i64 s) (.int .i64 q) (.slice aa acts.length ac):=⟨c0,c1,c2,c3⟩
    have hB4' : Box4 wr b' (off' + k * 4) (.int .i64 i') (.int .i64 s') (.int .i64 q') (.slice aa' acts'.length ac'):=⟨d0,d1,d2,d3⟩
    have hq:=fun w h1 h2 h3 h4=>l2Same_any ⟨i,s,q,acts⟩ ⟨i',s',q',acts'⟩ b (off + k * 4) b' (off' + k * 4) aa aa' ac ac' w h1 h2 h3 h4 (by dsimp only;omega) (by dsimp only;omega)
    rw [HS.out] at hq
    dsimp only at hq
    have hki:(k:Int) < (ps.length:Int):=by omega
    have hki' : (k:Int) < (ps'.length:Int):=by omega
    clear HS hrd hrd' c0 c1 c2 c3 d0 d1 d2 d3
    go_wp2_with fail
    refine text_begin (S:=fun w' => ∃ u:Lat wr,w' = u.val) (by kernel_rfl) ?_
    refine seg_range [(0,2)] 17 (by kernel_rfl) (by kernel_rfl) (by kernel_rfl) (by kernel_rfl) (by kernel_rfl) ⟨⟨_,hW⟩,rfl⟩ ?_
    simp only [pickR,List.toList_toArray,List.flatMap_cons,List.flatMap_nil,List.drop_succ_cons,List.drop_zero,List.take_succ_cons,List.take_zero,List.cons_append,List.nil_append,List.append_nil]
    repeat go_big_quiet_step (fail)
    refine wpQuiet_nil ?_
    refine quiet_at 2 (some 8) (.int .i64 ps.length) 16 (by kernel_rfl) (by kernel_rfl) (by kernel_rfl) (by kernel_rfl) (by kernel_rfl) (fun u _=>by kernel_rfl) ⟨⟨_,hW⟩,rfl⟩ ?_
    simp only [Act.put,List.setIfInBounds_toArray,List.set_cons_zero,List.set_cons_succ]
    refine seg_range [(3,4)] 12 (by kernel_rfl) (by kernel_rfl) (by kernel_rfl) (by kernel_rfl) (by kernel_rfl) ⟨⟨_,hW⟩,rfl⟩ ?_
    simp only [pickR,List.toList_toArray,List.flatMap_cons,List.flatMap_nil,List.drop_succ_cons,List.drop_zero,List.take_succ_cons,List.take_zero,List.cons_append,List.nil_append,List.append_nil]
    repeat go_big_quiet_step (fail)
    refine wpQuiet_nil ?_
    refine quiet_at 7 (some 13) (.int .i64 ps'.length) 11 (by kernel_rfl) (by kernel_rfl) (by kernel_rfl) (by kernel_rfl) (by kernel_rfl) (fun u _=>by kernel_rfl) ⟨⟨_,hW⟩,rfl⟩ ?_
    simp only [Act.put,List.setIfInBounds_toArray,List.set_cons_zero,List.set_cons_succ]
    refine seg_range [(8,9)] 2 (by kernel_rfl) (by kernel_rfl) (by kernel_rfl) (by kernel_rfl) (by kernel_rfl) ⟨⟨_,hW⟩,rfl⟩ ?_
    simp only [pickR,List.toList_toArray,List.flatMap_cons,List.flatMap_nil,List.drop_succ_cons,List.drop_zero,List.take_succ_cons,List.take_zero,List.cons_append,List.nil_append,List.append_nil]
    repeat go_big_quiet_step (fail)
    refine wpQuiet_nil ?_
    refine call_at 17 (some 23) 188 #[.pointer (some ⟨b,off + k * 4,none⟩),.pointer (some ⟨b',off' + k * 4,none⟩)] 1 (by kernel_rfl) (by kernel_rfl) (by kernel_rfl) (by kernel_rfl) (by kernel_rfl) ?_
    refine (hq _ (hB4.below hW) (hB4'.below hW) (hR.below hW) (hR'.below hW)).mono ?_
    rintro e w9 ⟨rfl,hb9⟩
    replace hW:=hW.trans (hb9.mono hW.size)
    clear hb9
    refine ⟨_,rfl,⟨⟨_,hW⟩,rfl⟩,?_⟩
    simp only [Act.put,List.setIfInBounds_toArray,List.set_cons_zero,List.set_cons_succ]
    refine seg_range [(18,1)] 0 (by kernel_rfl) (by kernel_rfl) (by kernel_rfl) (by kernel_rfl) (by kernel_rfl) ⟨⟨_,hW⟩,rfl⟩ ?_
    simp only [pickR,List.toList_toArray,List.flatMap_cons,List.flatMap_nil,List.drop_succ_cons,List.drop_zero,List.take_succ_cons,List.take_zero,List.cons_append,List.nil_append,List.append_nil]
    repeat go_big_quiet_step (fail)
    refine wpQuiet_nil ?_
    refine text_end (by kernel_rfl) ?_
    replace hb:=hb.trans (hW.mono hb.size)
    clear hW hnn hq hB4 hB4' hR hR'
    cases S with
    | true=>
     have HR:Hid _:=HN.out rfl
     clear HY HN
     go_wp2
     go_roundw
     case rel=>exact ⟨k + 1,by omega,by omega,by go_num,hb,HR.out⟩
     case measure=>simp [intOf];omega
    | false=>
     have HR:Hid (V=(k:Int)):=show _=_ by rw [HV0.out,HY.out rfl]
     clear HY HN HV0
     go_wp2
     go_ret
     exact ⟨by rw [HR.out];rfl,hb⟩
   ·have HR:Hid (V=(k:Int)):=show _=_ by
     rw [HV0.out,com_at _ _ k HA.out (by simpa using hk) (by simpa using hk') (by rw [List.length_map,List.length_map];omega)]
    clear HA HV0
    by_cases hlt:k < ps.length
    ·have hki:(k:Int) < (ps.length:Int):=by omega
     have hlt' : ¬ k < ps'.length:=by omega
     have hki' : ¬ (k:Int) < (ps'.length:Int):=by omega
     go_wp2_with fail
     refine text_begin (S:=fun w' => ∃ u:Lat wr,w' = u.val) (by kernel_rfl) ?_
     refine seg_range [(0,2)] 17 (by kernel_rfl) (by kernel_rfl) (by kernel_rfl) (by kernel_rfl) (by kernel_rfl) ⟨⟨_,hW⟩,rfl⟩ ?_
     simp only [pickR,List.toList_toArray,List.flatMap_cons,List.flatMap_nil,List.drop_succ_cons,List.drop_zero,List.take_succ_cons,List.take_zero,List.cons_append,List.nil_append,List.append_nil]
     repeat go_big_quiet_step (fail)
     refine wpQuiet_nil ?_
     refine quiet_at 2 (some 8) (.int .i64 ps.length) 16 (by kernel_rfl) (by kernel_rfl) (by kernel_rfl) (by kernel_rfl) (by kernel_rfl) (fun u _=>by kernel_rfl) ⟨⟨_,hW⟩,rfl⟩ ?_
     simp only [Act.put,List.setIfInBounds_toArray,List.set_cons_zero,List.set_cons_succ]
     refine seg_range [(3,4)] 12 (by kernel_rfl) (by kernel_rfl) (by kernel_rfl) (by kernel_rfl) (by kernel_rfl) ⟨⟨_,hW⟩,rfl⟩ ?_
     simp only [pickR,List.toList_toArray,List.flatMap_cons,List.flatMap_nil,List.drop_succ_cons,List.drop_zero,List.take_succ_cons,List.take_zero,List.cons_append,List.nil_append,List.append_nil]
     repeat go_big_quiet_step (fail)
     refine wpQuiet_nil ?_
     refine quiet_at 7 (some 13) (.int .i64 ps'.length) 11 (by kernel_rfl) (by kernel_rfl) (by kernel_rfl) (by kernel_rfl) (by kernel_rfl) (fun u _=>by kernel_rfl) ⟨⟨_,hW⟩,rfl⟩ ?_
     simp only [Act.put,List.setIfInBounds_toArray,List.set_cons_zero,List.set_cons_succ]
     refine seg_range [(8,9)] 2 (by kernel_rfl) (by kernel_rfl) (by kernel_rfl) (by kernel_rfl) (by kernel_rfl) ⟨⟨_,hW⟩,rfl⟩ ?_
     simp only [pickR,List.toList_toArray,List.flatMap_cons,List.flatMap_nil,List.drop_succ_cons,List.drop_zero,List.take_succ_cons,List.take_zero,List.cons_append,List.nil_append,List.append_nil]
     repeat go_big_quiet_step (fail)
     refine wpQuiet_nil ?_
     refine skip_at 17 (some 23) 1 (by kernel_rfl) (by kernel_rfl) (by kernel_rfl) (by kernel_rfl) (by kernel_rfl) ⟨⟨_,hW⟩,rfl⟩ ?_
     simp only [Act.put,List.setIfInBounds_toArray,List.set_cons_zero,List.set_cons_succ]
     refine seg_range [(18,1)] 0 (by kernel_rfl) (by kernel_rfl) (by kernel_rfl) (by kernel_rfl) (by kernel_rfl) ⟨⟨_,hW⟩,rfl⟩ ?_
     simp only [pickR,List.toList_toArray,List.flatMap_cons,List.flatMap_nil,List.drop_succ_cons,List.drop_zero,List.take_succ_cons,List.take_zero,List.cons_append,List.nil_append,List.append_nil]
     repeat go_big_quiet_step (fail)
     refine wpQuiet_nil ?_
     refine text_end (by kernel_rfl) ?_
     replace hb:=hb.trans (hW.mono hb.size)
     clear hW hnn
     go_wp2
     go_ret
     exact ⟨by rw [HR.out];rfl,hb⟩
    ·have hki:¬ (k:Int) < (ps.length:Int):=by omega
     go_wp2_with fail
     refine text_begin (S:=fun w' => ∃ u:Lat wr,w' = u.val) (by kernel_rfl) ?_
     refine seg_range [(0,2)] 17 (by kernel_rfl) (by kernel_rfl) (by kernel_rfl) (by kernel_rfl) (by kernel_rfl) ⟨⟨_,hW⟩,rfl⟩ ?_
     simp only [pickR,List.toList_toArray,List.flatMap_cons,List.flatMap_nil,List.drop_succ_cons,List.drop_zero,List.take_succ_cons,List.take_zero,List.cons_append,List.nil_append,List.append_nil]
     repeat go_big_quiet_step (fail)
     refine wpQuiet_nil ?_
     refine quiet_at 2 (some 8) (.int .i64 ps.length) 16 (by kernel_rfl) (by kernel_rfl) (by kernel_rfl) (by kernel_rfl) (by kernel_rfl) (fun u _=>by kernel_rfl) ⟨⟨_,hW⟩,rfl⟩ ?_
     simp only [Act.put,List.setIfInBounds_toArray,List.set_cons_zero,List.set_cons_succ]
     refine seg_range [(3,4)] 12 (by kernel_rfl) (by kernel_rfl) (by kernel_rfl) (by kernel_rfl) (by kernel_rfl) ⟨⟨_,hW⟩,rfl⟩ ?_
     simp only [pickR,List.toList_toArray,List.flatMap_cons,List.flatMap_nil,List.drop_succ_cons,List.drop_zero,List.take_succ_cons,List.take_zero,List.cons_append,List.nil_append,List.append_nil]
     repeat go_big_quiet_step (fail)
     refine wpQuiet_nil ?_
     refine skip_at 7 (some 13) 11 (by kernel_rfl) (by kernel_rfl) (by kernel_rfl) (by kernel_rfl) (by kernel_rfl) ⟨⟨_,hW⟩,rfl⟩ ?_
     simp only [Act.put,List.setIfInBounds_toArray,List.set_cons_zero,List.set_cons_succ]
     refine seg_range [(8,9)] 2 (by kernel_rfl) (by kernel_rfl) (by kernel_rfl) (by kernel_rfl) (by kernel_rfl) ⟨⟨_,hW⟩,rfl⟩ ?_
     simp only [pickR,List.toList_toArray,List.flatMap_cons,List.flatMap_nil,List.drop_succ_cons,List.drop_zero,List.take_succ_cons,List.take_zero,List.cons_append,List.nil_append,List.append_nil]
     repeat go_big_quiet_step (fail)
     refine wpQuiet_nil ?_
     refine skip_at 17 (some 23) 1 (by kernel_rfl) (by kernel_rfl) (by kernel_rfl) (by kernel_rfl) (by kernel_rfl) ⟨⟨_,hW⟩,rfl⟩ ?_
     simp only [Act.put,List.setIfInBounds_toArray,List.set_cons_zero,List.set_cons_succ]
     refine seg_range [(18,1)] 0 (by kernel_rfl) (by kernel_rfl) (by kernel_rfl) (by kernel_rfl) (by kernel_rfl) ⟨⟨_,hW⟩,rfl⟩ ?_
     simp only [pickR,List.toList_toArray,List.flatMap_cons,List.flatMap_nil,List.drop_succ_cons,List.drop_zero,List.take_succ_cons,List.take_zero,List.cons_append,List.nil_append,List.append_nil]
     repeat go_big_quiet_step (fail)
     refine wpQuiet_nil ?_
     refine text_end (by kernel_rfl) ?_
     replace hb:=hb.trans (hW.mono hb.size)
     clear hW hnn
     go_wp2
     go_ret
     exact ⟨by rw [HR.out];rfl,hb⟩

end Go.Proofs.YtfdkcbafpiojkaaGreatDoor
