/- Texts joined, with what the laws reach alone. -/
import Derived.Test.YtfdkcbafpiojkaaGreatDoorSGAK
set_option linter.unusedVariables false
set_option linter.unusedSimpArgs false
namespace Go.Proofs.YtfdkcbafpiojkaaGreatDoor
open Go.RowKit Go.Maps
open Go.BigFrame
set_option maxRecDepth 100000
theorem delI_take_succ (xs:List ItemD) (q:Int) (k:Nat) (hk:k < xs.length):delI (xs.take (k + 1)) q=delI (xs.take k) q ++ (if ((xs.getD k itemNo).key == q)=true then [] else [xs.getD k itemNo]):=by
 have e:xs.getD k itemNo=xs[k]:=by simp [List.getD,hk]
 unfold delI
 rw [List.take_succ_eq_append_getElem hk,List.filter_append,e]
 congr 1
 cases hp:(xs[k].key == q) <;> simp [hp]

theorem drop_item {zs:List ItemD} {k:Nat} (h:k < zs.length):zs.drop k=zs.getD k itemNo :: zs.drop (k + 1):=by
 have e:zs.getD k itemNo=zs[k]:=by simp [List.getD,h]
 rw [List.drop_eq_getElem_cons h,e]

theorem itemCells_snoc' (xs:List ItemD) (z:ItemD):itemCells (xs ++ [z])=itemCells xs ++ [.int .i64 z.key,.int .i64 z.val]:=by simp [itemCells,ItemD.cells]

set_option maxRecDepth 100000 in
set_option maxHeartbeats 2000000 in
theorem l3Drop_any (a:Option Addr) (cap:Nat) (xs:List ItemD) (q:Int) (w:World) (h:ItemRow w a xs) (hl:xs.length≤100) :
  Calls Tryz.prog 191 #[.slice a xs.length cap,.int .i64 q] w fun e w' => ∃ b c,e=.returned (.slice b (delI xs q).length c) ∧
   w'.ownsRow w.heap.size 134 2 (.slice b (delI xs q).length c) (delI xs q).length (itemCells (delI xs q))∧Below w.heap.size w w' := by
 obtain ⟨i0,hi,hz0,hz1,hz2⟩:=info_parts infoItem
 go_enter Tryz.func191,Tryz.ntmps191
 go_wp2
 go_loopw [5,6] (fun v j wr=>∃ k:Nat,k≤xs.length∧j=.int .i64 k∧wr.ownsRow w.heap.size 134 2 v (delI (xs.take k) q).length (itemCells (delI (xs.take k) q))∧Below w.heap.size w wr) (fun _ j _=>xs.length - (intOf j).toNat)
 case atStart=>exact ⟨0,Nat.zero_le _,rfl,by rw [List.take_zero];exact World.ownsRow_lit w #[] 0 (Nat.le_refl _) (by decide) rfl,by go_grown⟩
 case round=>
  obtain ⟨k,hk,rfl,ho,hb⟩:=hrel
  obtain ⟨a1,c1,rfl⟩:=own_shape ho
  have hsz:=hb.size
  by_cases hlt:k < xs.length
  ·obtain ⟨b,off,rfl,hbs,hc0,hc1⟩:=h.at k hlt
   have hs:=delI_take_succ xs q k hlt
   have hdl:(delI (xs.take k) q).length≤100:=by have:=delI_length (xs.take k) q;simp at this;omega
   generalize delI (xs.take k) q=F at ho hs hdl
   cases he:((xs.getD k itemNo).key == q)
   ·have HS:Hid (delI (xs.take (k + 1)) q=F ++ [xs.getD k itemNo]):=by
     show _=_
     rw [hs,he]
     simp
    have hne:((xs.getD k itemNo).key != q)=true:=by unfold bne;rw [he];rfl
    clear hs
    generalize xs.getD k itemNo=z at hc0 hc1 he HS hne
    obtain ⟨z0,z1⟩:=z
    dsimp only at hc0 hc1 he hne
    have d0:=(hb.cell (p:=⟨b,off + k * 2,none⟩) hbs).trans hc0
    have d1:=(hb.cell (p:=⟨b,off + k * 2 + 1,none⟩) hbs).trans hc1
    have hW2:Below w.heap.size wr (wr.alloc (.cells #[.int .i64 z0,.int .i64 z1] 134)):=(Below.refl _ _).alloc (by omega) _
    have ho2:=ho.alloc (.cells #[.int .i64 z0,.int .i64 z1] 134)
    go_wp2_with (at_builtin;refine wpList_append_own _ rfl _ _ 29 rfl w.heap.size 134 i0 (.agg #[.int .i64 0,.int .i64 0]) 2 16 Tryz.underlying29 hi hz0 hz1 hz2 rfl (by decide) _ F.length (itemCells F) rfl ho2 ⟨wr.heap.size,0,none⟩ 1 1 [.int .i64 z0,.int .i64 z1] rfl rfl ?c1 ?c2 ?c3 ?c4 ?c5 ?_)
    all_goals try (case c1=>intro j u hj;match j,hj with | 0,hj=>simp at hj;subst hj;simp [Addr.add] | 1,hj=>simp at hj;subst hj;simp [Addr.add])
    all_goals try (case c2=>first | rfl | (intro u hu;simp at hu;rcases hu with rfl | rfl <;> rfl))
    all_goals try (case c3=>unfold maxLen;omega)
    all_goals try (case c4=>omega)
    all_goals try (case c5=>first | omega | (simp;omega))
    intro v' w3 hown hgrow _
    obtain ⟨a2,c2,rfl⟩:=own_shape hown
    have hW3:Below w.heap.size wr w3:=hW2.grown hgrow (by simp;omega) (fun j hj=>(ho.lt j hj).1)
    replace hb:=hb.trans hW3
    have hszn:=Nat.le_trans hsz hW3.size
    replace hsz:=hszn
    replace ho:=hown
    clear hW2 hgrow ho2 hown hW3 hszn d0 d1
    have R:Hid (_∧_):=⟨ho,hb⟩
    clear ho hb
    go_wp2
    go_roundw
    case rel=>
     refine ⟨k + 1,by omega,by go_num,?_,R.out.2⟩
     rw [HS.out,itemCells_snoc']
     simpa using R.out.1
    case measure=>simp [intOf];omega
   ·have HS:Hid (delI (xs.take (k + 1)) q=F):=by
     show _=_
     rw [hs,he]
     simp
    have hne:((xs.getD k itemNo).key != q)=false:=by unfold bne;rw [he];rfl
    clear hs
    have d0:=(hb.cell (p:=⟨b,off + k * 2,none⟩) hbs).trans hc0
    generalize (xs.getD k itemNo).key=z0 at d0 he hne
    have R:Hid (_∧_):=⟨ho,hb⟩
    clear ho hb hc0 hc1
    go_wp2
    go_roundw
    case rel=>exact ⟨k + 1,by omega,by go_num,by rw [HS.out];exact R.out.1,R.out.2⟩
    case measure=>simp [intOf];omega
  ·have hkl:k=xs.length:=by omega
   subst hkl
   rw [List.take_length] at ho
   go_wp2
   go_ret
   simp only [List.take_length]
   exact ⟨_,_,rfl,ho,hb⟩

theorem setR_step (x y:ItemD) (r:List ItemD) (d:Bool):setR x d (y :: r)=(if !d && decide (x.key≤y.key) then [x] else []) ++ ((if y.key == x.key then [] else [y]) ++ setR x (d || decide (x.key≤y.key)) r):=rfl

set_option maxRecDepth 100000 in
set_option maxHeartbeats 4000000 in
theorem l3Set_any (a:Option Addr) (cap:Nat) (xs:List ItemD) (x0 x1:Int) (w:World) (h:ItemRow w a xs) (hl:xs.length≤100) :
  Calls Tryz.prog 192 #[.slice a xs.length cap,.agg #[.int .i64 x0,.int .i64 x1]] w fun e w' => ∃ b c,e=.returned (.slice b (setR ⟨x0,x1⟩ false xs).length c) ∧
   w'.ownsRow w.heap.size 134 2 (.slice b (setR ⟨x0,x1⟩ false xs).length c) (setR ⟨x0,x1⟩ false xs).length (itemCells (setR ⟨x0,x1⟩ false xs))∧Below w.heap.size w w' := by
 obtain ⟨i0,hi,hz0,hz1,hz2⟩:=info_parts infoItem
 have hb0:Below w.heap.size w (w.alloc (.cells #[.int .i64 x0,.int .i64 x1] 134)):=by go_grown
 have hx0:(w.alloc (.cells #[.int .i64 x0,.int .i64 x1] 134)).cell? ⟨w.heap.size,0,none⟩=some (.int .i64 x0):=by simp
 have hx1:(w.alloc (.cells #[.int .i64 x0,.int .i64 x1] 134)).cell? ⟨w.heap.size,1,none⟩=some (.int .i64 x1):=by simp
 have hxl:w.heap.size < w.heap.size + 1:=Nat.lt_succ_self _
 have hbE:Below (w.heap.size + 1) (w.alloc (.cells #[.int .i64 x0,.int .i64 x1] 134)) ((w.alloc (.cells #[.int .i64 x0,.int .i64 x1] 134)).alloc (.cells #[] 134)):=(Below.refl _ _).alloc (by simp) _
 have hoE:((w.alloc (.cells #[.int .i64 x0,.int .i64 x1] 134)).alloc (.cells #[] 134)).ownsRow (w.heap.size + 1) 134 2 (.slice (some ⟨w.heap.size + 1,0,none⟩) 0 0) 0 []:=by
  have:=World.ownsRow_lit (size:=2) (e:=134) (w.alloc (.cells #[.int .i64 x0,.int .i64 x1] 134)) #[] 0 (Nat.le_refl _) (by decide) rfl
  rw [World.size_alloc] at this
  exact this
 have hsE:w.heap.size + 1≤((w.alloc (.cells #[.int .i64 x0,.int .i64 x1] 134)).alloc (.cells #[] 134)).heap.size:=by simp
 go_enter Tryz.func192,Tryz.ntmps192
 go_wp2
 generalize (w.alloc (.cells #[.int .i64 x0,.int .i64 x1] 134)).alloc (.cells #[] 134)=WE at hbE hoE hsE
 generalize w.alloc (.cells #[.int .i64 x0,.int .i64 x1] 134)=W0 at hb0 hx0 hx1 hbE
 have hold:∀ b,b < w.heap.size→b < w.heap.size + 1:=fun b hb=>by omega
 have hsW0:=hb0.size
 go_loopw [5,6,7] (fun v dv j wr=>∃ (k:Nat) (d:Bool) (L:List ItemD),k≤xs.length∧j=.int .i64 k∧dv=.bool d∧L.length≤2 * k∧wr.ownsRow (w.heap.size + 1) 134 2 v L.length (itemCells L)∧Below (w.heap.size + 1) W0 wr∧w.heap.size + 1≤wr.heap.size∧Hid (L ++ setR ⟨x0,x1⟩ d (xs.drop k)=setR ⟨x0,x1⟩ false xs)) (fun _ _ j _=>xs.length - (intOf j).toNat)
 case atStart=>exact ⟨0,false,[],Nat.zero_le _,rfl,rfl,by simp,hoE,hbE,hsE,by show _=_;simp⟩
 case round=>
  clear hoE hbE hsE
  obtain ⟨k,d,L,hk,rfl,rfl,hLl,ho,hb,hsz,HI⟩:=hrel
  obtain ⟨a1,c1,rfl⟩:=own_shape ho
  by_cases hlt:k < xs.length
  ·obtain ⟨b,off,rfl,hbs0,hc0,hc1⟩:=h.at k hlt
   replace hc0:W0.cell? _=_:=(hb0.cell (p:=⟨b,off + k * 2,none⟩) hbs0).trans hc0
   replace hc1:W0.cell? _=_:=(hb0.cell (p:=⟨b,off + k * 2 + 1,none⟩) hbs0).trans hc1
   have hbs:=hold b hbs0
   have hst:=HI.out
   rw [drop_item hlt,setR_step] at hst
   generalize xs.getD k itemNo=z at hc0 hc1 hst
   obtain ⟨z0,z1⟩:=z
   dsimp only at hc0 hc1 hst
   clear HI
   cases hE:(z0 == x0)
   ·have hne:(z0 != x0)=true:=by simp [bne,hE]
    cases d
    ·by_cases hle:x0≤z0
     ·have hG:decide (x0≤z0)=true:=by simp [hle]
      have HS:Hid ((L ++ [⟨x0,x1⟩] ++ [⟨z0,z1⟩]) ++ setR ⟨x0,x1⟩ true (xs.drop (k + 1))=setR ⟨x0,x1⟩ false xs):=by
       show _=_
       rw [← hst]
       simp only [Bool.not_true,Bool.not_false,Bool.false_and,Bool.true_and,Bool.true_or,Bool.false_or,hE,hG,if_true,if_false,Bool.false_eq_true,List.nil_append,List.append_assoc,List.cons_append]
      clear hst
      have d0:=lat_cell ((hb.cell (p:=⟨b,off + k * 2,none⟩) hbs).trans hc0)
      have d1:=lat_cell ((hb.cell (p:=⟨w.heap.size,0,none⟩) hxl).trans hx0)
      have hW:Below wr.heap.size wr wr.drew:=(Below.refl _ _).drew
      have hne:Nonempty (Lat wr):=⟨⟨wr,Below.refl _ _⟩⟩
      go_wp2_with fail
      refine text_begin (S:=fun w' => ∃ u:Lat wr,w' = u.val) (by kernel_rfl) ?_
      refine seg_range [(0,12)] 0 (by kernel_rfl) (by kernel_rfl) (by kernel_rfl) (by kernel_rfl) (by kernel_rfl) ⟨⟨_,hW⟩,rfl⟩ ?_
      simp only [pickR,List.toList_toArray,List.flatMap_cons,List.flatMap_nil,List.drop_succ_cons,List.drop_zero,List.take_succ_cons,List.take_zero,List.cons_append,List.nil_append,List.append_nil]
      repeat go_big_quiet_step (fail)
      refine wpQuiet_nil ?_
      refine text_end (by kernel_rfl) ?_
      replace ho:=own_below ho hW
      replace hb:=hb.trans (hW.mono hsz)
      have hszn:=Nat.le_trans hsz hW.size
      replace hsz:=hszn
      clear hW hne hszn d0 d1
      generalize wr.drew=u1 at ho hb hsz
      have d0:=(hb.cell (p:=⟨w.heap.size,0,none⟩) hxl).trans hx0
      have d1:=(hb.cell (p:=⟨w.heap.size,1,none⟩) hxl).trans hx1
      have hW2:Below (w.heap.size + 1) u1 (u1.alloc (.cells #[.int .i64 x0,.int .i64 x1] 134)):=(Below.refl _ _).alloc (by omega) _
      have ho2:=ho.alloc (.cells #[.int .i64 x0,.int .i64 x1] 134)
      go_wp2_with (at_builtin;refine wpList_append_own _ rfl _ _ 29 rfl (w.heap.size + 1) 134 i0 (.agg #[.int .i64 0,.int .i64 0]) 2 16 Tryz.underlying29 hi hz0 hz1 hz2 rfl (by decide) _ L.length (itemCells L) rfl ho2 ⟨u1.heap.size,0,none⟩ 1 1 [.int .i64 x0,.int .i64 x1] rfl rfl ?c1 ?c2 ?c3 ?c4 ?c5 ?_)
      all_goals try (case c1=>intro j u hj;match j,hj with | 0,hj=>simp at hj;subst hj;simp [Addr.add] | 1,hj=>simp at hj;subst hj;simp [Addr.add])
      all_goals try (case c2=>first | rfl | (intro u hu;simp at hu;rcases hu with rfl | rfl <;> rfl))
      all_goals try (case c3=>unfold maxLen;omega)
      all_goals try (case c4=>omega)
      all_goals try (case c5=>first | omega | (simp;omega))
      intro v' u2 hown hgrow _
      obtain ⟨a2,c2,rfl⟩:=own_shape hown
      have hW3:Below (w.heap.size + 1) u1 u2:=hW2.grown hgrow (by simp;omega) (fun j hj=>(ho.lt j hj).1)
      replace hb:=hb.trans hW3
      have hszn:=Nat.le_trans hsz hW3.size
      replace hsz:=hszn
      replace ho:=hown
      clear hW2 hgrow ho2 hown hW3 hszn d0 d1
      replace ho:u2.ownsRow (w.heap.size + 1) 134 2 (.slice a2 (L.length + 1) c2) (L.length + 1) (itemCells (L ++ [⟨x0,x1⟩])):=by rw [itemCells_snoc'];simpa using ho
      generalize hL2:L ++ [(⟨x0,x1⟩:ItemD)]=L2 at ho HS
      have HL2:Hid (L2.length=L.length + 1):=by
       show _=_
       rw [← hL2]
       simp
      clear hL2
      have d0:=lat_cell ((hb.cell (p:=⟨b,off + k * 2,none⟩) hbs).trans hc0)
      have d1:=lat_cell ((hb.cell (p:=⟨w.heap.size,0,none⟩) hxl).trans hx0)
      have hW:Below u2.heap.size u2 u2.drew:=(Below.refl _ _).drew
      have hne:Nonempty (Lat u2):=⟨⟨u2,Below.refl _ _⟩⟩
      go_wp2_with fail
      refine text_begin (S:=fun w' => ∃ u:Lat u2,w' = u.val) (by kernel_rfl) ?_
      refine seg_range [(0,8)] 0 (by kernel_rfl) (by kernel_rfl) (by kernel_rfl) (by kernel_rfl) (by kernel_rfl) ⟨⟨_,hW⟩,rfl⟩ ?_
      simp only [pickR,List.toList_toArray,List.flatMap_cons,List.flatMap_nil,List.drop_succ_cons,List.drop_zero,List.take_succ_cons,List.take_zero,List.cons_append,List.nil_append,List.append_nil]
      repeat go_big_quiet_step (fail)
      refine wpQuiet_nil ?_
      refine text_end (by kernel_rfl) ?_
      replace ho:=own_below ho hW
      replace hb:=hb.trans (hW.mono hsz)
      have hszn:=Nat.le_trans hsz hW.size
      replace hsz:=hszn
      clear hW hne hszn d0 d1
      generalize u2.drew=u3 at ho hb hsz
      have d0:=(hb.cell (p:=⟨b,off + k * 2,none⟩) hbs).trans hc0
      have d1:=(hb.cell (p:=⟨b,off + k * 2 + 1,none⟩) hbs).trans hc1
      have hW2:Below (w.heap.size + 1) u3 (u3.alloc (.cells #[.int .i64 z0,.int .i64 z1] 134)):=(Below.refl _ _).alloc (by omega) _
      have ho2:=ho.alloc (.cells #[.int .i64 z0,.int .i64 z1] 134)
      go_wp2_with (at_builtin;refine wpList_append_own _ rfl _ _ 29 rfl (w.heap.size + 1) 134 i0 (.agg #[.int .i64 0,.int .i64 0]) 2 16 Tryz.underlying29 hi hz0 hz1 hz2 rfl (by decide) _ (L.length + 1) (itemCells L2) rfl ho2 ⟨u3.heap.size,0,none⟩ 1 1 [.int .i64 z0,.int .i64 z1] rfl rfl ?c1 ?c2 ?c3 ?c4 ?c5 ?_)
      all_goals try (case c1=>intro j u hj;match j,hj with | 0,hj=>simp at hj;subst hj;simp [Addr.add] | 1,hj=>simp at hj;subst hj;simp [Addr.add])
      all_goals try (case c2=>first | rfl | (intro u hu;simp at hu;rcases hu with rfl | rfl <;> rfl))
      all_goals try (case c3=>unfold maxLen;omega)
      all_goals try (case c4=>omega)
      all_goals try (case c5=>first | omega | (simp;omega))
      intro v' u4 hown hgrow _
      obtain ⟨a4,c4,rfl⟩:=own_shape hown
      have hW3:Below (w.heap.size + 1) u3 u4:=hW2.grown hgrow (by simp;omega) (fun j hj=>(ho.lt j hj).1)
      replace hb:=hb.trans hW3
      have hszn:=Nat.le_trans hsz hW3.size
      replace hsz:=hszn
      replace ho:=hown
      clear hW2 hgrow ho2 hown hW3 hszn d0 d1
      have R:Hid (_∧_∧_):=⟨ho,hb,hsz⟩
      clear ho hb hsz
      go_wp2
      go_roundw
      case rel=>
       refine ⟨k + 1,true,L2 ++ [⟨z0,z1⟩],by omega,by go_num,rfl,by have:=HL2.out;first | (simp;omega) | omega,?_,R.out.2.1,R.out.2.2,HS⟩
       have:=R.out.1
       rw [itemCells_snoc']
       simpa [HL2.out] using this
      case measure=>simp [intOf];omega
     ·have hG:decide (x0≤z0)=false:=by simp [hle]
      have HS:Hid ((L ++ [⟨z0,z1⟩]) ++ setR ⟨x0,x1⟩ false (xs.drop (k + 1))=setR ⟨x0,x1⟩ false xs):=by
       show _=_
       rw [← hst]
       simp only [Bool.not_true,Bool.not_false,Bool.false_and,Bool.true_and,Bool.true_or,Bool.false_or,hE,hG,if_true,if_false,Bool.false_eq_true,List.nil_append,List.append_assoc,List.cons_append]
      clear hst
      have d0:=lat_cell ((hb.cell (p:=⟨b,off + k * 2,none⟩) hbs).trans hc0)
      have d1:=lat_cell ((hb.cell (p:=⟨w.heap.size,0,none⟩) hxl).trans hx0)
      have hW:Below wr.heap.size wr wr.drew:=(Below.refl _ _).drew
      have hne:Nonempty (Lat wr):=⟨⟨wr,Below.refl _ _⟩⟩
      go_wp2_with fail
      refine text_begin (S:=fun w' => ∃ u:Lat wr,w' = u.val) (by kernel_rfl) ?_
      refine seg_range [(0,12)] 0 (by kernel_rfl) (by kernel_rfl) (by kernel_rfl) (by kernel_rfl) (by kernel_rfl) ⟨⟨_,hW⟩,rfl⟩ ?_
      simp only [pickR,List.toList_toArray,List.flatMap_cons,List.flatMap_nil,List.drop_succ_cons,List.drop_zero,List.take_succ_cons,List.take_zero,List.cons_append,List.nil_append,List.append_nil]
      repeat go_big_quiet_step (fail)
      refine wpQuiet_nil ?_
      refine text_end (by kernel_rfl) ?_
      replace ho:=own_below ho hW
      replace hb:=hb.trans (hW.mono hsz)
      have hszn:=Nat.le_trans hsz hW.size
      replace hsz:=hszn
      clear hW hne hszn d0 d1
      generalize wr.drew=u1 at ho hb hsz
      have d0:=lat_cell ((hb.cell (p:=⟨b,off + k * 2,none⟩) hbs).trans hc0)
      have d1:=lat_cell ((hb.cell (p:=⟨w.heap.size,0,none⟩) hxl).trans hx0)
      have hW:Below u1.heap.size u1 u1.drew:=(Below.refl _ _).drew
      have hne:Nonempty (Lat u1):=⟨⟨u1,Below.refl _ _⟩⟩
      go_wp2_with fail
      refine text_begin (S:=fun w' => ∃ u:Lat u1,w' = u.val) (by kernel_rfl) ?_
      refine seg_range [(0,8)] 0 (by kernel_rfl) (by kernel_rfl) (by kernel_rfl) (by kernel_rfl) (by kernel_rfl) ⟨⟨_,hW⟩,rfl⟩ ?_
      simp only [pickR,List.toList_toArray,List.flatMap_cons,List.flatMap_nil,List.drop_succ_cons,List.drop_zero,List.take_succ_cons,List.take_zero,List.cons_append,List.nil_append,List.append_nil]
      repeat go_big_quiet_step (fail)
      refine wpQuiet_nil ?_
      refine text_end (by kernel_rfl) ?_
      replace ho:=own_below ho hW
      replace hb:=hb.trans (hW.mono hsz)
      have hszn:=Nat.le_trans hsz hW.size
      replace hsz:=hszn
      clear hW hne hszn d0 d1
      generalize u1.drew=u3 at ho hb hsz
      have d0:=(hb.cell (p:=⟨b,off + k * 2,none⟩) hbs).trans hc0
      have d1:=(hb.cell (p:=⟨b,off + k * 2 + 1,none⟩) hbs).trans hc1
      have hW2:Below (w.heap.size + 1) u3 (u3.alloc (.cells #[.int .i64 z0,.int .i64 z1] 134)):=(Below.refl _ _).alloc (by omega) _
      have ho2:=ho.alloc (.cells #[.int .i64 z0,.int .i64 z1] 134)
      go_wp2_with (at_builtin;refine wpList_append_own _ rfl _ _ 29 rfl (w.heap.size + 1) 134 i0 (.agg #[.int .i64 0,.int .i64 0]) 2 16 Tryz.underlying29 hi hz0 hz1 hz2 rfl (by decide) _ L.length (itemCells L) rfl ho2 ⟨u3.heap.size,0,none⟩ 1 1 [.int .i64 z0,.int .i64 z1] rfl rfl ?c1 ?c2 ?c3 ?c4 ?c5 ?_)
      all_goals try (case c1=>intro j u hj;match j,hj with | 0,hj=>simp at hj;subst hj;simp [Addr.add] | 1,hj=>simp at hj;subst hj;simp [Addr.add])
      all_goals try (case c2=>first | rfl | (intro u hu;simp at hu;rcases hu with rfl | rfl <;> rfl))
      all_goals try (case c3=>unfold maxLen;omega)
      all_goals try (case c4=>omega)
      all_goals try (case c5=>first | omega | (simp;omega))
      intro v' u4 hown hgrow _
      obtain ⟨a4,c4,rfl⟩:=own_shape hown
      have hW3:Below (w.heap.size + 1) u3 u4:=hW2.grown hgrow (by simp;omega) (fun j hj=>(ho.lt j hj).1)
      replace hb:=hb.trans hW3
      have hszn:=Nat.le_trans hsz hW3.size
      replace hsz:=hszn
      replace ho:=hown
      clear hW2 hgrow ho2 hown hW3 hszn d0 d1
      have R:Hid (_∧_∧_):=⟨ho,hb,hsz⟩
      clear ho hb hsz
      go_wp2
      go_roundw
      case rel=>
       refine ⟨k + 1,false,L ++ [⟨z0,z1⟩],by omega,by go_num,rfl,by first | (simp;omega) | omega,?_,R.out.2.1,R.out.2.2,HS⟩
       have:=R.out.1
       rw [itemCells_snoc']
       simpa using this
      case measure=>simp [intOf];omega
    ·have HS:Hid ((L ++ [⟨z0,z1⟩]) ++ setR ⟨x0,x1⟩ true (xs.drop (k + 1))=setR ⟨x0,x1⟩ false xs):=by
      show _=_
      rw [← hst]
      simp only [Bool.not_true,Bool.not_false,Bool.false_and,Bool.true_and,Bool.true_or,Bool.false_or,hE,if_true,if_false,Bool.false_eq_true,List.nil_append,List.append_assoc,List.cons_append]
     clear hst
     have hW:Below wr.heap.size wr wr.drew:=(Below.refl _ _).drew
     have hne:Nonempty (Lat wr):=⟨⟨wr,Below.refl _ _⟩⟩
     go_wp2_with fail
     refine text_begin (S:=fun w' => ∃ u:Lat wr,w' = u.val) (by kernel_rfl) ?_
     refine seg_range [(0,12)] 0 (by kernel_rfl) (by kernel_rfl) (by kernel_rfl) (by kernel_rfl) (by kernel_rfl) ⟨⟨_,hW⟩,rfl⟩ ?_
     simp only [pickR,List.toList_toArray,List.flatMap_cons,List.flatMap_nil,List.drop_succ_cons,List.drop_zero,List.take_succ_cons,List.take_zero,List.cons_append,List.nil_append,List.append_nil]
     repeat go_big_quiet_step (fail)
     refine wpQuiet_nil ?_
     refine text_end (by kernel_rfl) ?_
     replace ho:=own_below ho hW
     replace hb:=hb.trans (hW.mono hsz)
     have hszn:=Nat.le_trans hsz hW.size
     replace hsz:=hszn
     clear hW hne hszn 
     generalize wr.drew=u1 at ho hb hsz
     have d0:=lat_cell ((hb.cell (p:=⟨b,off + k * 2,none⟩) hbs).trans hc0)
     have d1:=lat_cell ((hb.cell (p:=⟨w.heap.size,0,none⟩) hxl).trans hx0)
     have hW:Below u1.heap.size u1 u1.drew:=(Below.refl _ _).drew
     have hne:Nonempty (Lat u1):=⟨⟨u1,Below.refl _ _⟩⟩
     go_wp2_with fail
     refine text_begin (S:=fun w' => ∃ u:Lat u1,w' = u.val) (by kernel_rfl) ?_
     refine seg_range [(0,8)] 0 (by kernel_rfl) (by kernel_rfl) (by kernel_rfl) (by kernel_rfl) (by kernel_rfl) ⟨⟨_,hW⟩,rfl⟩ ?_
     simp only [pickR,List.toList_toArray,List.flatMap_cons,List.flatMap_nil,List.drop_succ_cons,List.drop_zero,List.take_succ_cons,List.take_zero,List.cons_append,List.nil_append,List.append_nil]
     repeat go_big_quiet_step (fail)
     refine wpQuiet_nil ?_
     refine text_end (by kernel_rfl) ?_
     replace ho:=own_below ho hW
     replace hb:=hb.trans (hW.mono hsz)
     have hszn:=Nat.le_trans hsz hW.size
     replace hsz:=hszn
     clear hW hne hszn d0 d1
     generalize u1.drew=u3 at ho hb hsz
     have d0:=(hb.cell (p:=⟨b,off + k * 2,none⟩) hbs).trans hc0
     have d1:=(hb.cell (p:=⟨b,off + k * 2 + 1,none⟩) hbs).trans hc1
     have hW2:Below (w.heap.size + 1) u3 (u3.alloc (.cells #[.int .i64 z0,.int .i64 z1] 134)):=(Below.refl _ _).alloc (by omega) _
     have ho2:=ho.alloc (.cells #[.int .i64 z0,.int .i64 z1] 134)
     go_wp2_with (at_builtin;refine wpList_append_own _ rfl _ _ 29 rfl (w.heap.size + 1) 134 i0 (.agg #[.int .i64 0,.int .i64 0]) 2 16 Tryz.underlying29 hi hz0 hz1 hz2 rfl (by decide) _ L.length (itemCells L) rfl ho2 ⟨u3.heap.size,0,none⟩ 1 1 [.int .i64 z0,.int .i64 z1] rfl rfl ?c1 ?c2 ?c3 ?c4 ?c5 ?_)
     all_goals try (case c1=>intro j u hj;match j,hj with | 0,hj=>simp at hj;subst hj;simp [Addr.add] | 1,hj=>simp at hj;subst hj;simp [Addr.add])
     all_goals try (case c2=>first | rfl | (intro u hu;simp at hu;rcases hu with rfl | rfl <;> rfl))
     all_goals try (case c3=>unfold maxLen;omega)
     all_goals try (case c4=>omega)
     all_goals try (case c5=>first | omega | (simp;omega))
     intro v' u4 hown hgrow _
     obtain ⟨a4,c4,rfl⟩:=own_shape hown
     have hW3:Below (w.heap.size + 1) u3 u4:=hW2.grown hgrow (by simp;omega) (fun j hj=>(ho.lt j hj).1)
     replace hb:=hb.trans hW3
     have hszn:=Nat.le_trans hsz hW3.size
     replace hsz:=hszn
     replace ho:=hown
     clear hW2 hgrow ho2 hown hW3 hszn d0 d1
     have R:Hid (_∧_∧_):=⟨ho,hb,hsz⟩
     clear ho hb hsz
     go_wp2
     go_roundw
     case rel=>
      refine ⟨k + 1,true,L ++ [⟨z0,z1⟩],by omega,by go_num,rfl,by first | (simp;omega) | omega,?_,R.out.2.1,R.out.2.2,HS⟩
      have:=R.out.1
      rw [itemCells_snoc']
      simpa using this
     case measure=>simp [intOf];omega
   ·have hne:(z0 != x0)=false:=by simp [bne,hE]
    cases d
    ·have hle:x0≤z0:=by simp at hE;omega
     have hG:decide (x0≤z0)=true:=by simp [hle]
     have HS:Hid ((L ++ [⟨x0,x1⟩]) ++ setR ⟨x0,x1⟩ true (xs.drop (k + 1))=setR ⟨x0,x1⟩ false xs):=by
      show _=_
      rw [← hst]
      simp only [Bool.not_true,Bool.not_false,Bool.false_and,Bool.true_and,Bool.true_or,Bool.false_or,hE,hG,if_true,if_false,Bool.false_eq_true,List.nil_append,List.append_assoc,List.cons_append]
     clear hst
     have d0:=lat_cell ((hb.cell (p:=⟨b,off + k * 2,none⟩) hbs).trans hc0)
     have d1:=lat_cell ((hb.cell (p:=⟨w.heap.size,0,none⟩) hxl).trans hx0)
     have hW:Below wr.heap.size wr wr.drew:=(Below.refl _ _).drew
     have hne:Nonempty (Lat wr):=⟨⟨wr,Below.refl _ _⟩⟩
     go_wp2_with fail
     refine text_begin (S:=fun w' => ∃ u:Lat wr,w' = u.val) (by kernel_rfl) ?_
     refine seg_range [(0,12)] 0 (by kernel_rfl) (by kernel_rfl) (by kernel_rfl) (by kernel_rfl) (by kernel_rfl) ⟨⟨_,hW⟩,rfl⟩ ?_
     simp only [pickR,List.toList_toArray,List.flatMap_cons,List.flatMap_nil,List.drop_succ_cons,List.drop_zero,List.take_succ_cons,List.take_zero,List.cons_append,List.nil_append,List.append_nil]
     repeat go_big_quiet_step (fail)
     refine wpQuiet_nil ?_
     refine text_end (by kernel_rfl) ?_
     replace ho:=own_below ho hW
     replace hb:=hb.trans (hW.mono hsz)
     have hszn:=Nat.le_trans hsz hW.size
     replace hsz:=hszn
     clear hW hne hszn d0 d1
     generalize wr.drew=u1 at ho hb hsz
     have d0:=(hb.cell (p:=⟨w.heap.size,0,none⟩) hxl).trans hx0
     have d1:=(hb.cell (p:=⟨w.heap.size,1,none⟩) hxl).trans hx1
     have hW2:Below (w.heap.size + 1) u1 (u1.alloc (.cells #[.int .i64 x0,.int .i64 x1] 134)):=(Below.refl _ _).alloc (by omega) _
     have ho2:=ho.alloc (.cells #[.int .i64 x0,.int .i64 x1] 134)
     go_wp2_with (at_builtin;refine wpList_append_own _ rfl _ _ 29 rfl (w.heap.size + 1) 134 i0 (.agg #[.int .i64 0,.int .i64 0]) 2 16 Tryz.underlying29 hi hz0 hz1 hz2 rfl (by decide) _ L.length (itemCells L) rfl ho2 ⟨u1.heap.size,0,none⟩ 1 1 [.int .i64 x0,.int .i64 x1] rfl rfl ?c1 ?c2 ?c3 ?c4 ?c5 ?_)
     all_goals try (case c1=>intro j u hj;match j,hj with | 0,hj=>simp at hj;subst hj;simp [Addr.add] | 1,hj=>simp at hj;subst hj;simp [Addr.add])
     all_goals try (case c2=>first | rfl | (intro u hu;simp at hu;rcases hu with rfl | rfl <;> rfl))
     all_goals try (case c3=>unfold maxLen;omega)
     all_goals try (case c4=>omega)
     all_goals try (case c5=>first | omega | (simp;omega))
     intro v' u2 hown hgrow _
     obtain ⟨a2,c2,rfl⟩:=own_shape hown
     have hW3:Below (w.heap.size + 1) u1 u2:=hW2.grown hgrow (by simp;omega) (fun j hj=>(ho.lt j hj).1)
     replace hb:=hb.trans hW3
     have hszn:=Nat.le_trans hsz hW3.size
     replace hsz:=hszn
     replace ho:=hown
     clear hW2 hgrow ho2 hown hW3 hszn d0 d1
     replace ho:u2.ownsRow (w.heap.size + 1) 134 2 (.slice a2 (L.length + 1) c2) (L.length + 1) (itemCells (L ++ [⟨x0,x1⟩])):=by rw [itemCells_snoc'];simpa using ho
     generalize hL2:L ++ [(⟨x0,x1⟩:ItemD)]=L2 at ho HS
     have HL2:Hid (L2.length=L.length + 1):=by
      show _=_
      rw [← hL2]
      simp
     clear hL2
     have d0:=lat_cell ((hb.cell (p:=⟨b,off + k * 2,none⟩) hbs).trans hc0)
     have d1:=lat_cell ((hb.cell (p:=⟨w.heap.size,0,none⟩) hxl).trans hx0)
     have hW:Below u2.heap.size u2 u2.drew:=(Below.refl _ _).drew
     have hne:Nonempty (Lat u2):=⟨⟨u2,Below.refl _ _⟩⟩
     go_wp2_with fail
     refine text_begin (S:=fun w' => ∃ u:Lat u2,w' = u.val) (by kernel_rfl) ?_
     refine seg_range [(0,8)] 0 (by kernel_rfl) (by kernel_rfl) (by kernel_rfl) (by kernel_rfl) (by kernel_rfl) ⟨⟨_,hW⟩,rfl⟩ ?_
     simp only [pickR,List.toList_toArray,List.flatMap_cons,List.flatMap_nil,List.drop_succ_cons,List.drop_zero,List.take_succ_cons,List.take_zero,List.cons_append,List.nil_append,List.append_nil]
     repeat go_big_quiet_step (fail)
     refine wpQuiet_nil ?_
     refine text_end (by kernel_rfl) ?_
     replace ho:=own_below ho hW
     replace hb:=hb.trans (hW.mono hsz)
     have hszn:=Nat.le_trans hsz hW.size
     replace hsz:=hszn
     clear hW hne hszn d0 d1
     generalize u2.drew=u3 at ho hb hsz
     have R:Hid (_∧_∧_):=⟨ho,hb,hsz⟩
     clear ho hb hsz
     go_wp2
     go_roundw
     case rel=>
      refine ⟨k + 1,true,L2,by omega,by go_num,rfl,by have:=HL2.out;first | (simp;omega) | omega,?_,R.out.2.1,R.out.2.2,HS⟩
      have:=R.out.1
      skip
      simpa [HL2.out] using this
     case measure=>simp [intOf];omega
    ·have HS:Hid ((L) ++ setR ⟨x0,x1⟩ true (xs.drop (k + 1))=setR ⟨x0,x1⟩ false xs):=by
      show _=_
      rw [← hst]
      simp only [Bool.not_true,Bool.not_false,Bool.false_and,Bool.true_and,Bool.true_or,Bool.false_or,hE,if_true,if_false,Bool.false_eq_true,List.nil_append,List.append_assoc,List.cons_append]
     clear hst
     have hW:Below wr.heap.size wr wr.drew:=(Below.refl _ _).drew
     have hne:Nonempty (Lat wr):=⟨⟨wr,Below.refl _ _⟩⟩
     go_wp2_with fail
     refine text_begin (S:=fun w' => ∃ u:Lat wr,w' = u.val) (by kernel_rfl) ?_
     refine seg_range [(0,12)] 0 (by kernel_rfl) (by kernel_rfl) (by kernel_rfl) (by kernel_rfl) (by kernel_rfl) ⟨⟨_,hW⟩,rfl⟩ ?_
     simp only [pickR,List.toList_toArray,List.flatMap_cons,List.flatMap_nil,List.drop_succ_cons,List.drop_zero,List.take_succ_cons,List.take_zero,List.cons_append,List.nil_append,List.append_nil]
     repeat go_big_quiet_step (fail)
     refine wpQuiet_nil ?_
     refine text_end (by kernel_rfl) ?_
     replace ho:=own_below ho hW
     replace hb:=hb.trans (hW.mono hsz)
     have hszn:=Nat.le_trans hsz hW.size
     replace hsz:=hszn
     clear hW hne hszn 
     generalize wr.drew=u1 at ho hb hsz
     have d0:=lat_cell ((hb.cell (p:=⟨b,off + k * 2,none⟩) hbs).trans hc0)
     have d1:=lat_cell ((hb.cell (p:=⟨w.heap.size,0,none⟩) hxl).trans hx0)
     have hW:Below u1.heap.size u1 u1.drew:=(Below.refl _ _).drew
     have hne:Nonempty (Lat u1):=⟨⟨u1,Below.refl _ _⟩⟩
     go_wp2_with fail
     refine text_begin (S:=fun w' => ∃ u:Lat u1,w' = u.val) (by kernel_rfl) ?_
     refine seg_range [(0,8)] 0 (by kernel_rfl) (by kernel_rfl) (by kernel_rfl) (by kernel_rfl) (by kernel_rfl) ⟨⟨_,hW⟩,rfl⟩ ?_
     simp only [pickR,List.toList_toArray,List.flatMap_cons,List.flatMap_nil,List.drop_succ_cons,List.drop_zero,List.take_succ_cons,List.take_zero,List.cons_append,List.nil_append,List.append_nil]
     repeat go_big_quiet_step (fail)
     refine wpQuiet_nil ?_
     refine text_end (by kernel_rfl) ?_
     replace ho:=own_below ho hW
     replace hb:=hb.trans (hW.mono hsz)
     have hszn:=Nat.le_trans hsz hW.size
     replace hsz:=hszn
     clear hW hne hszn d0 d1
     generalize u1.drew=u3 at ho hb hsz
     have R:Hid (_∧_∧_):=⟨ho,hb,hsz⟩
     clear ho hb hsz
     go_wp2
     go_roundw
     case rel=>
      refine ⟨k + 1,true,L,by omega,by go_num,rfl,by first | (simp;omega) | omega,?_,R.out.2.1,R.out.2.2,HS⟩
      have:=R.out.1
      skip
      simpa using this
     case measure=>simp [intOf];omega
  ·have hkl:k=xs.length:=by omega
   subst hkl
   have HT:Hid (L ++ setR ⟨x0,x1⟩ d []=setR ⟨x0,x1⟩ false xs):=by
    have:=HI.out
    rw [List.drop_length] at this
    exact this
   clear HI
   cases d
   ·have HT2:Hid (setR ⟨x0,x1⟩ false xs=L ++ [⟨x0,x1⟩]):=HT.out.symm
    clear HT
    have d0:=(hb.cell (p:=⟨w.heap.size,0,none⟩) hxl).trans hx0
    have d1:=(hb.cell (p:=⟨w.heap.size,1,none⟩) hxl).trans hx1
    have hW2:Below (w.heap.size + 1) wr (wr.alloc (.cells #[.int .i64 x0,.int .i64 x1] 134)):=(Below.refl _ _).alloc (by omega) _
    have ho2:=ho.alloc (.cells #[.int .i64 x0,.int .i64 x1] 134)
    go_wp2_with (at_builtin;refine wpList_append_own _ rfl _ _ 29 rfl (w.heap.size + 1) 134 i0 (.agg #[.int .i64 0,.int .i64 0]) 2 16 Tryz.underlying29 hi hz0 hz1 hz2 rfl (by decide) _ L.length (itemCells L) rfl ho2 ⟨wr.heap.size,0,none⟩ 1 1 [.int .i64 x0,.int .i64 x1] rfl rfl ?c1 ?c2 ?c3 ?c4 ?c5 ?_)
    all_goals try (case c1=>intro j u hj;match j,hj with | 0,hj=>simp at hj;subst hj;simp [Addr.add] | 1,hj=>simp at hj;subst hj;simp [Addr.add])
    all_goals try (case c2=>first | rfl | (intro u hu;simp at hu;rcases hu with rfl | rfl <;> rfl))
    all_goals try (case c3=>unfold maxLen;omega)
    all_goals try (case c4=>omega)
    all_goals try (case c5=>first | omega | (simp;omega))
    intro v' u1 hown hgrow _
    obtain ⟨a2,c2,rfl⟩:=own_shape hown
    have hW3:Below (w.heap.size + 1) wr u1:=hW2.grown hgrow (by simp;omega) (fun j hj=>(ho.lt j hj).1)
    replace hb:=hb.trans hW3
    have hszn:=Nat.le_trans hsz hW3.size
    replace hsz:=hszn
    replace ho:=hown
    clear hW2 hgrow ho2 hown hW3 hszn d0 d1
    go_wp2
    go_ret
    rw [HT2.out]
    refine ⟨a2,c2,by simp,?_,hb0.trans (hb.mono (by omega))⟩
    rw [itemCells_snoc']
    simpa using own_base ho (by omega)
   ·have HT2:Hid (setR ⟨x0,x1⟩ false xs=L):=by
     have:=HT.out
     simp [setR] at this
     exact this.symm
    clear HT
    go_wp2
    go_ret
    rw [HT2.out]
    exact ⟨_,_,rfl,own_base ho (by omega),hb0.trans (hb.mono (by omega))⟩

end Go.Proofs.YtfdkcbafpiojkaaGreatDoor
