/- Texts joined, with what the laws reach alone. -/
import Derived.Test.YtjjoahhnkpjolaaGreatDoorCFAU
set_option linter.unusedVariables false
set_option linter.unusedSimpArgs false
namespace Go.Proofs.YtjjoahhnkpjolaaGreatDoor
open Go.RowKit Go.Maps
open Go.BigFrame
set_option maxRecDepth 100000
theorem delI_take_succ (xs:List ItemD) (q:Int) (k:Nat) (hk:k < xs.length):delI (xs.take (k + 1)) q=delI (xs.take k) q ++ (if ((xs.getD k itemNo).key == q)=true then [] else [xs.getD k itemNo]):=by
 have e:xs.getD k itemNo=xs[k]:=by simp [List.getD,hk]
 unfold delI
 rw [List.take_succ_eq_append_getElem hk,List.filter_append,e]
 congr 1
 cases hp:(xs[k].key == q) <;> simp [hp]

theorem drop_item {zs:List ItemD} {k:Nat} (h:k < zs.length):zs.drop k=zs.getD k itemNo :: zs.drop (k + 1):=by
 have e:zs.getD k itemNo=zs[k]:=by simp [List.getD,h]
 rw [List.drop_eq_getElem_cons h,e]

theorem itemCells_snoc' (xs:List ItemD) (z:ItemD):itemCells (xs ++ [z])=itemCells xs ++ [.int .i64 z.key,.int .i64 z.val]:=by simp [itemCells,ItemD.cells]

set_option maxRecDepth 100000 in
set_option maxHeartbeats 2000000 in
theorem l3Drop_any (a:Option Addr) (cap:Nat) (xs:List ItemD) (q:Int) (w:World) (h:ItemRow w a xs) (hl:xs.length≤100) :
  Calls Tryz.prog 240 #[.slice a xs.length cap,.int .i64 q] w fun e w' => ∃ b c,e=.returned (.slice b (delI xs q).length c) ∧
   w'.ownsRow w.heap.size 173 2 (.slice b (delI xs q).length c) (delI xs q).length (itemCells (delI xs q))∧Below w.heap.size w w' := by
 obtain ⟨i0,hi,hz0,hz1,hz2⟩:=info_parts infoItem
 go_enter Tryz.func240,Tryz.ntmps240
 go_wp2
 go_loopw [5,6] (fun v j wr=>∃ k:Nat,k≤xs.length∧j=.int .i64 k∧wr.ownsRow w.heap.size 173 2 v (delI (xs.take k) q).length (itemCells (delI (xs.take k) q))∧Below w.heap.size w wr) (fun _ j _=>xs.length - (intOf j).toNat)
 case atStart=>exact ⟨0,Nat.zero_le _,rfl,by rw [List.take_zero];exact World.ownsRow_lit w #[] 0 (Nat.le_refl _) (by decide) rfl,by go_grown⟩
 case round=>
  obtain ⟨k,hk,rfl,ho,hb⟩:=hrel
  obtain ⟨a1,c1,rfl⟩:=own_shape ho
  have hsz:=hb.size
  by_cases hlt:k < xs.length
  ·obtain ⟨b,off,rfl,hbs,hc0,hc1⟩:=h.at k hlt
   have hs:=delI_take_succ xs q k hlt
   have hdl:(delI (xs.take k) q).length≤100:=by have:=delI_length (xs.take k) q;simp at this;omega
   generalize delI (xs.take k) q=F at ho hs hdl
   cases he:((xs.getD k itemNo).key == q)
   ·have HS:Hid (delI (xs.take (k + 1)) q=F ++ [xs.getD k itemNo]):=by
     show _=_
     rw [hs,he]
     simp
    have hne:((xs.getD k itemNo).key != q)=true:=by unfold bne;rw [he];rfl
    clear hs
    generalize xs.getD k itemNo=z at hc0 hc1 he HS hne
    obtain ⟨z0,z1⟩:=z
    dsimp only at hc0 hc1 he hne
    have d0:=(hb.cell (p:=⟨b,off + k * 2,none⟩) hbs).trans hc0
    have d1:=(hb.cell (p:=⟨b,off + k * 2 + 1,none⟩) hbs).trans hc1
    have hW2:Below w.heap.size wr (wr.alloc (.cells #[.int .i64 z0,.int .i64 z1] 173)):=(Below.refl _ _).alloc (by omega) _
    have ho2:=ho.alloc (.cells #[.int .i64 z0,.int .i64 z1] 173)
    go_wp2_with (at_builtin;refine wpList_append_own _ rfl _ _ 53 rfl w.heap.size 173 i0 (.agg #[.int .i64 0,.int .i64 0]) 2 16 Tryz.underlying53 hi hz0 hz1 hz2 rfl (by decide) _ F.length (itemCells F) rfl ho2 ⟨wr.heap.size,0,none⟩ 1 1 [.int .i64 z0,.int .i64 z1] rfl rfl ?c1 ?c2 ?c3 ?c4 ?c5 ?_)
    all_goals try (case c1=>intro j u hj;match j,hj with | 0,hj=>simp at hj;subst hj;simp [Addr.add] | 1,hj=>simp at hj;subst hj;simp [Addr.add])
    all_goals try (case c2=>first | rfl | (intro u hu;simp at hu;rcases hu with rfl | rfl <;> rfl))
    all_goals try (case c3=>unfold maxLen;omega)
    all_goals try (case c4=>omega)
    all_goals try (case c5=>first | omega | (simp;omega))
    intro v' w3 hown hgrow _
    obtain ⟨a2,c2,rfl⟩:=own_shape hown
    have hW3:Below w.heap.size wr w3:=hW2.grown hgrow (by simp;omega) (fun j hj=>(ho.lt j hj).1)
    replace hb:=hb.trans hW3
    have hszn:=Nat.le_trans hsz hW3.size
    replace hsz:=hszn
    replace ho:=hown
    clear hW2 hgrow ho2 hown hW3 hszn d0 d1
    have R:Hid (_∧_):=⟨ho,hb⟩
    clear ho hb
    go_wp2
    go_roundw
    case rel=>
     refine ⟨k + 1,by omega,by go_num,?_,R.out.2⟩
     rw [HS.out,itemCells_snoc']
     simpa using R.out.1
    case measure=>simp [intOf];omega
   ·have HS:Hid (delI (xs.take (k + 1)) q=F):=by
     show _=_
     rw [hs,he]
     simp
    have hne:((xs.getD k itemNo).key != q)=false:=by unfold bne;rw [he];rfl
    clear hs
    have d0:=(hb.cell (p:=⟨b,off + k * 2,none⟩) hbs).trans hc0
    generalize (xs.getD k itemNo).key=z0 at d0 he hne
    have R:Hid (_∧_):=⟨ho,hb⟩
    clear ho hb hc0 hc1
    go_wp2
    go_roundw
    case rel=>exact ⟨k + 1,by omega,by go_num,by rw [HS.out];exact R.out.1,R.out.2⟩
    case measure=>simp [intOf];omega
  ·have hkl:k=xs.length:=by omega
   subst hkl
   rw [List.take_length] at ho
   go_wp2
   go_ret
   simp only [List.take_length]
   exact ⟨_,_,rfl,ho,hb⟩

theorem setR_step (x y:ItemD) (r:List ItemD) (d:Bool):setR x d (y :: r)=(if !d && decide (x.key≤y.key) then [x] else []) ++ ((if y.key == x.key then [] else [y]) ++ setR x (d || decide (x.key≤y.key)) r):=rfl

set_option maxRecDepth 100000 in
set_option maxHeartbeats 4000000 in
theorem l3Set_any (a:Option Addr) (cap:Nat) (xs:List ItemD) (x0 x1:Int) (w:World) (h:ItemRow w a xs) (hl:xs.length≤100) :
  Calls Tryz.prog 241 #[.slice a xs.length cap,.agg #[.int .i64 x0,.int .i64 x1]] w fun e w' => ∃ b c,e=.returned (.slice b (setR ⟨x0,x1⟩ false xs).length c) ∧
   w'.ownsRow w.heap.size 173 2 (.slice b (setR ⟨x0,x1⟩ false xs).length c) (setR ⟨x0,x1⟩ false xs).length (itemCells (setR ⟨x0,x1⟩ false xs))∧Below w.heap.size w w' := by
 obtain ⟨i0,hi,hz0,hz1,hz2⟩:=info_parts infoItem
 have hb0:Below w.heap.size w (w.alloc (.cells #[.int .i64 x0,.int .i64 x1] 173)):=by go_grown
 have hx0:(w.alloc (.cells #[.int .i64 x0,.int .i64 x1] 173)).cell? ⟨w.heap.size,0,none⟩=some (.int .i64 x0):=by simp
 have hx1:(w.alloc (.cells #[.int .i64 x0,.int .i64 x1] 173)).cell? ⟨w.heap.size,1,none⟩=some (.int .i64 x1):=by simp
 have hxl:w.heap.size < w.heap.size + 1:=Nat.lt_succ_self _
 have hbE:Below (w.heap.size + 1) (w.alloc (.cells #[.int .i64 x0,.int .i64 x1] 173)) ((w.alloc (.cells #[.int .i64 x0,.int .i64 x1] 173)).alloc (.cells #[] 173)):=(Below.refl _ _).alloc (by simp) _
 have hoE:((w.alloc (.cells #[.int .i64 x0,.int .i64 x1] 173)).alloc (.cells #[] 173)).ownsRow (w.heap.size + 1) 173 2 (.slice (some ⟨w.heap.size + 1,0,none⟩) 0 0) 0 []:=by
  have:=World.ownsRow_lit (size:=2) (e:=173) (w.alloc (.cells #[.int .i64 x0,.int .i64 x1] 173)) #[] 0 (Nat.le_refl _) (by decide) rfl
  rw [World.size_alloc] at this
  exact this
 have hsE:w.heap.size + 1≤((w.alloc (.cells #[.int .i64 x0,.int .i64 x1] 173)).alloc (.cells #[] 173)).heap.size:=by simp
 go_enter Tryz.func241,Tryz.ntmps241
 go_wp2
 generalize (w.alloc (.cells #[.int .i64 x0,.int .i64 x1] 173)).alloc (.cells #[] 173)=WE at hbE hoE hsE
 generalize w.alloc (.cells #[.int .i64 x0,.int .i64 x1] 173)=W0 at hb0 hx0 hx1 hbE
 have hold:∀ b,b < w.heap.size→b < w.heap.size + 1:=fun b hb=>by omega
 have hsW0:=hb0.size
 go_loopw [5,6,7] (fun v dv j wr=>∃ (k:Nat) (d:Bool) (L:List ItemD),k≤xs.length∧j=.int .i64 k∧dv=.bool d∧L.length≤2 * k∧wr.ownsRow (w.heap.size + 1) 173 2 v L.length (itemCells L)∧Below (w.heap.size + 1) W0 wr∧w.heap.size + 1≤wr.heap.size∧Hid (L ++ setR ⟨x0,x1⟩ d (xs.drop k)=setR ⟨x0,x1⟩ false xs)) (fun _ _ j _=>xs.length - (intOf j).toNat)
 case atStart=>exact ⟨0,false,[],Nat.zero_le _,rfl,rfl,by simp,hoE,hbE,hsE,by show _=_;simp⟩
 case round=>
  clear hoE hbE hsE
  obtain ⟨k,d,L,hk,rfl,rfl,hLl,ho,hb,hsz,HI⟩:=hrel
  obtain ⟨a1,c1,rfl⟩:=own_shape ho
  by_cases hlt:k < xs.length
  ·obtain ⟨b,off,rfl,hbs0,hc0,hc1⟩:=h.at k hlt
   replace hc0:W0.cell? _=_:=(hb0.cell (p:=⟨b,off + k * 2,none⟩) hbs0).trans hc0
   replace hc1:W0.cell? _=_:=(hb0.cell (p:=⟨b,off + k * 2 + 1,none⟩) hbs0).trans hc1
   have hbs:=hold b hbs0
   have hst:=HI.out
   rw [drop_item hlt,setR_step] at hst
   generalize xs.getD k itemNo=z at hc0 hc1 hst
   obtain ⟨z0,z1⟩:=z
   dsimp only at hc0 hc1 hst
   clear HI
   cases hE:(z0 == x0)
   ·have hne:(z0 != x0)=true:=by simp [bne,hE]
    cases d
    ·by_cases hle:x0≤z0
     ·have hG:decide (x0≤z0)=true:=by simp [hle]
      have HS:Hid ((L ++ [⟨x0,x1⟩] ++ [⟨z0,z1⟩]) ++ setR ⟨x0,x1⟩ true (xs.drop (k + 1))=setR ⟨x0,x1⟩ false xs):=by
       show _=_
       rw [← hst]
       simp only [Bool.not_true,Bool.not_false,Bool.false_and,Bool.true_and,Bool.true_or,Bool.false_or,hE,hG,if_true,if_false,Bool.false_eq_true,List.nil_append,List.append_assoc,List.cons_append]
      clear hst
      have d0:=lat_cell ((hb.cell (p:=⟨b,off + k * 2,none⟩) hbs).trans hc0)
      have d1:=lat_cell ((hb.cell (p:=⟨w.heap.size,0,none⟩) hxl).trans hx0)
      have hW:Below wr.heap.size wr wr.drew:=(Below.refl _ _).drew
      have hne:Nonempty (Lat wr):=⟨⟨wr,Below.refl _ _⟩⟩
      go_wp2_with fail
      refine text_begin (S:=fun w' => ∃ u:Lat wr,w' = u.val) (by kernel_rfl) ?_
      refine sgr [(0,12)] 0 (by kernel_rfl) ⟨⟨_,hW⟩,rfl⟩ ?_
      simp only [pkE]
      repeat go_big_quiet_step (fail)
      refine wpQuiet_nil ?_
      refine text_end (by kernel_rfl) ?_
      replace ho:=own_below ho hW
      replace hb:=hb.trans (hW.mono hsz)
      have hszn:=Nat.le_trans hsz hW.size
      replace hsz:=hszn
      clear hW hne hszn d0 d1
      generalize wr.drew=u1 at ho hb hsz
      have d0:=(hb.cell (p:=⟨w.heap.size,0,none⟩) hxl).trans hx0
      have d1:=(hb.cell (p:=⟨w.heap.size,1,none⟩) hxl).trans hx1
      have hW2:Below (w.heap.size + 1) u1 (u1.alloc (.cells #[.int .i64 x0,.int .i64 x1] 173)):=(Below.refl _ _).alloc (by omega) _
      have ho2:=ho.alloc (.cells #[.int .i64 x0,.int .i64 x1] 173)
      go_wp2_with (at_builtin;refine wpList_append_own _ rfl _ _ 53 rfl (w.heap.size + 1) 173 i0 (.agg #[.int .i64 0,.int .i64 0]) 2 16 Tryz.underlying53 hi hz0 hz1 hz2 rfl (by decide) _ L.length (itemCells L) rfl ho2 ⟨u1.heap.size,0,none⟩ 1 1 [.int .i64 x0,.int .i64 x1] rfl rfl ?c1 ?c2 ?c3 ?c4 ?c5 ?_)
      all_goals try (case c1=>intro j u hj;match j,hj with | 0,hj=>simp at hj;subst hj;simp [Addr.add] | 1,hj=>simp at hj;subst hj;simp [Addr.add])
      all_goals try (case c2=>first | rfl | (intro u hu;simp at hu;rcases hu with rfl | rfl <;> rfl))
      all_goals try (case c3=>unfold maxLen;omega)
      all_goals try (case c4=>omega)
      all_goals try (case c5=>first | omega | (simp;omega))
      intro v' u2 hown hgrow _
      obtain ⟨a2,c2,rfl⟩:=own_shape hown
      have hW3:Below (w.heap.size + 1) u1 u2:=hW2.grown hgrow (by simp;omega) (fun j hj=>(ho.lt j hj).1)
      replace hb:=hb.trans hW3
      have hszn:=Nat.le_trans hsz hW3.size
      replace hsz:=hszn
      replace ho:=hown
      clear hW2 hgrow ho2 hown hW3 hszn d0 d1
      replace ho:u2.ownsRow (w.heap.size + 1) 173 2 (.slice a2 (L.length + 1) c2) (L.length + 1) (itemCells (L ++ [⟨x0,x1⟩])):=by rw [itemCells_snoc'];simpa using ho
      generalize hL2:L ++ [(⟨x0,x1⟩:ItemD)]=L2 at ho HS
      have HL2:Hid (L2.length=L.length + 1):=by
       show _=_
       rw [← hL2]
       simp
      clear hL2
      have d0:=lat_cell ((hb.cell (p:=⟨b,off + k * 2,none⟩) hbs).trans hc0)
      have d1:=lat_cell ((hb.cell (p:=⟨w.heap.size,0,none⟩) hxl).trans hx0)
      have hW:Below u2.heap.size u2 u2.drew:=(Below.refl _ _).drew
      have hne:Nonempty (Lat u2):=⟨⟨u2,Below.refl _ _⟩⟩
      go_wp2_with fail
      refine text_begin (S:=fun w' => ∃ u:Lat u2,w' = u.val) (by kernel_rfl) ?_
      refine sgr [(0,8)] 0 (by kernel_rfl) ⟨⟨_,hW⟩,rfl⟩ ?_
      simp only [pkE]
      repeat go_big_quiet_step (fail)
      refine wpQuiet_nil ?_
      refine text_end (by kernel_rfl) ?_
      replace ho:=own_below ho hW
      replace hb:=hb.trans (hW.mono hsz)
      have hszn:=Nat.le_trans hsz hW.size
      replace hsz:=hszn
      clear hW hne hszn d0 d1
      generalize u2.drew=u3 at ho hb hsz
      have d0:=(hb.cell (p:=⟨b,off + k * 2,none⟩) hbs).trans hc0
      have d1:=(hb.cell (p:=⟨b,off + k * 2 + 1,none⟩) hbs).trans hc1
      have hW2:Below (w.heap.size + 1) u3 (u3.alloc (.cells #[.int .i64 z0,.int .i64 z1] 173)):=(Below.refl _ _).alloc (by omega) _
      have ho2:=ho.alloc (.cells #[.int .i64 z0,.int .i64 z1] 173)
      go_wp2_with (at_builtin;refine wpList_append_own _ rfl _ _ 53 rfl (w.heap.size + 1) 173 i0 (.agg #[.int .i64 0,.int .i64 0]) 2 16 Tryz.underlying53 hi hz0 hz1 hz2 rfl (by decide) _ (L.length + 1) (itemCells L2) rfl ho2 ⟨u3.heap.size,0,none⟩ 1 1 [.int .i64 z0,.int .i64 z1] rfl rfl ?c1 ?c2 ?c3 ?c4 ?c5 ?_)
      all_goals try (case c1=>intro j u hj;match j,hj with | 0,hj=>simp at hj;subst hj;simp [Addr.add] | 1,hj=>simp at hj;subst hj;simp [Addr.add])
      all_goals try (case c2=>first | rfl | (intro u hu;simp at hu;rcases hu with rfl | rfl <;> rfl))
      all_goals try (case c3=>unfold maxLen;omega)
      all_goals try (case c4=>omega)
      all_goals try (case c5=>first | omega | (simp;omega))
      intro v' u4 hown hgrow _
      obtain ⟨a4,c4,rfl⟩:=own_shape hown
      have hW3:Below (w.heap.size + 1) u3 u4:=hW2.grown hgrow (by simp;omega) (fun j hj=>(ho.lt j hj).1)
      replace hb:=hb.trans hW3
      have hszn:=Nat.le_trans hsz hW3.size
      replace hsz:=hszn
      replace ho:=hown
      clear hW2 hgrow ho2 hown hW3 hszn d0 d1
      have R:Hid (_∧_∧_):=⟨ho,hb,hsz⟩
      clear ho hb hsz
      go_wp2
      go_roundw
      case rel=>
       refine ⟨k + 1,true,L2 ++ [⟨z0,z1⟩],by omega,by go_num,rfl,by have:=HL2.out;first | (simp;omega) | omega,?_,R.out.2.1,R.out.2.2,HS⟩
       have:=R.out.1
       rw [itemCells_snoc']
       simpa [HL2.out] using this
      case measure=>simp [intOf];omega
     ·have hG:decide (x0≤z0)=false:=by simp [hle]
      have HS:Hid ((L ++ [⟨z0,z1⟩]) ++ setR ⟨x0,x1⟩ false (xs.drop (k + 1))=setR ⟨x0,x1⟩ false xs):=by
       show _=_
       rw [← hst]
       simp only [Bool.not_true,Bool.not_false,Bool.false_and,Bool.true_and,Bool.true_or,Bool.false_or,hE,hG,if_true,if_false,Bool.false_eq_true,List.nil_append,List.append_assoc,List.cons_append]
      clear hst
      have d0:=lat_cell ((hb.cell (p:=⟨b,off + k * 2,none⟩) hbs).trans hc0)
      have d1:=lat_cell ((hb.cell (p:=⟨w.heap.size,0,none⟩) hxl).trans hx0)
      have hW:Below wr.heap.size wr wr.drew:=(Below.refl _ _).drew
      have hne:Nonempty (Lat wr):=⟨⟨wr,Below.refl _ _⟩⟩
      go_wp2_with fail
      refine text_begin (S:=fun w' => ∃ u:Lat wr,w' = u.val) (by kernel_rfl) ?_
      refine sgr [(0,12)] 0 (by kernel_rfl) ⟨⟨_,hW⟩,rfl⟩ ?_
      simp only [pkE]
      repeat go_big_quiet_step (fail)
      refine wpQuiet_nil ?_
      refine text_end (by kernel_rfl) ?_
      replace ho:=own_below ho hW
      replace hb:=hb.trans (hW.mono hsz)
      have hszn:=Nat.le_trans hsz hW.size
      replace hsz:=hszn
      clear hW hne hszn d0 d1
      generalize wr.drew=u1 at ho hb hsz
      have d0:=lat_cell ((hb.cell (p:=⟨b,off + k * 2,none⟩) hbs).trans hc0)
      have d1:=lat_cell ((hb.cell (p:=⟨w.heap.size,0,none⟩) hxl).trans hx0)
      have hW:Below u1.heap.size u1 u1.drew:=(Below.refl _ _).drew
      have hne:Nonempty (Lat u1):=⟨⟨u1,Below.refl _ _⟩⟩
      go_wp2_with fail
      refine text_begin (S:=fun w' => ∃ u:Lat u1,w' = u.val) (by kernel_rfl) ?_
      refine sgr [(0,8)] 0 (by kernel_rfl) ⟨⟨_,hW⟩,rfl⟩ ?_
      simp only [pkE]
      repeat go_big_quiet_step (fail)
      refine wpQuiet_nil ?_
      refine text_end (by kernel_rfl) ?_
      replace ho:=own_below ho hW
      replace hb:=hb.trans (hW.mono hsz)
      have hszn:=Nat.le_trans hsz hW.size
      replace hsz:=hszn
      clear hW hne hszn d0 d1
      generalize u1.drew=u3 at ho hb hsz
      have d0:=(hb.cell (p:=⟨b,off + k * 2,none⟩) hbs).trans hc0
      have d1:=(hb.cell (p:=⟨b,off + k * 2 + 1,none⟩) hbs).trans hc1
      have hW2:Below (w.heap.size + 1) u3 (u3.alloc (.cells #[.int .i64 z0,.int .i64 z1] 173)):=(Below.refl _ _).alloc (by omega) _
      have ho2:=ho.alloc (.cells #[.int .i64 z0,.int .i64 z1] 173)
      go_wp2_with (at_builtin;refine wpList_append_own _ rfl _ _ 53 rfl (w.heap.size + 1) 173 i0 (.agg #[.int .i64 0,.int .i64 0]) 2 16 Tryz.underlying53 hi hz0 hz1 hz2 rfl (by decide) _ L.length (itemCells L) rfl ho2 ⟨u3.heap.size,0,none⟩ 1 1 [.int .i64 z0,.int .i64 z1] rfl rfl ?c1 ?c2 ?c3 ?c4 ?c5 ?_)
      all_goals try (case c1=>intro j u hj;match j,hj with | 0,hj=>simp at hj;subst hj;simp [Addr.add] | 1,hj=>simp at hj;subst hj;simp [Addr.add])
      all_goals try (case c2=>first | rfl | (intro u hu;simp at hu;rcases hu with rfl | rfl <;> rfl))
      all_goals try (case c3=>unfold maxLen;omega)
      all_goals try (case c4=>omega)
      all_goals try (case c5=>first | omega | (simp;omega))
      intro v' u4 hown hgrow _
      obtain ⟨a4,c4,rfl⟩:=own_shape hown
      have hW3:Below (w.heap.size + 1) u3 u4:=hW2.grown hgrow (by simp;omega) (fun j hj=>(ho.lt j hj).1)
      replace hb:=hb.trans hW3
      have hszn:=Nat.le_trans hsz hW3.size
      replace hsz:=hszn
      replace ho:=hown
      clear hW2 hgrow ho2 hown hW3 hszn d0 d1
      have R:Hid (_∧_∧_):=⟨ho,hb,hsz⟩
      clear ho hb hsz
      go_wp2
      go_roundw
      case rel=>
       refine ⟨k + 1,false,L ++ [⟨z0,z1⟩],by omega,by go_num,rfl,by first | (simp;omega) | omega,?_,R.out.2.1,R.out.2.2,HS⟩
       have:=R.out.1
       rw [itemCells_snoc']
       simpa using this
      case measure=>simp [intOf];omega
    ·have HS:Hid ((L ++ [⟨z0,z1⟩]) ++ setR ⟨x0,x1⟩ true (xs.drop (k + 1))=setR ⟨x0,x1⟩ false xs):=by
      show _=_
      rw [← hst]
      simp only [Bool.not_true,Bool.not_false,Bool.false_and,Bool.true_and,Bool.true_or,Bool.false_or,hE,if_true,if_false,Bool.false_eq_true,List.nil_append,List.append_assoc,List.cons_append]
     clear hst
     have hW:Below wr.heap.size wr wr.drew:=(Below.refl _ _).drew
     have hne:Nonempty (Lat wr):=⟨⟨wr,Below.refl _ _⟩⟩
     go_wp2_with fail
     refine text_begin (S:=fun w' => ∃ u:Lat wr,w' = u.val) (by kernel_rfl) ?_
     refine sgr [(0,12)] 0 (by kernel_rfl) ⟨⟨_,hW⟩,rfl⟩ ?_
     simp only [pkE]
     repeat go_big_quiet_step (fail)
     refine wpQuiet_nil ?_
     refine text_end (by kernel_rfl) ?_
     replace ho:=own_below ho hW
     replace hb:=hb.trans (hW.mono hsz)
     have hszn:=Nat.le_trans hsz hW.size
     replace hsz:=hszn
     clear hW hne hszn 
     generalize wr.drew=u1 at ho hb hsz
     have d0:=lat_cell ((hb.cell (p:=⟨b,off + k * 2,none⟩) hbs).trans hc0)
     have d1:=lat_cell ((hb.cell (p:=⟨w.heap.size,0,none⟩) hxl).trans hx0)
     have hW:Below u1.heap.size u1 u1.drew:=(Below.refl _ _).drew
     have hne:Nonempty (Lat u1):=⟨⟨u1,Below.refl _ _⟩⟩
     go_wp2_with fail
     refine text_begin (S:=fun w' => ∃ u:Lat u1,w' = u.val) (by kernel_rfl) ?_
     refine sgr [(0,8)] 0 (by kernel_rfl) ⟨⟨_,hW⟩,rfl⟩ ?_
     simp only [pkE]
     repeat go_big_quiet_step (fail)
     refine wpQuiet_nil ?_
     refine text_end (by kernel_rfl) ?_
     replace ho:=own_below ho hW
     replace hb:=hb.trans (hW.mono hsz)
     have hszn:=Nat.le_trans hsz hW.size
     replace hsz:=hszn
     clear hW hne hszn d0 d1
     generalize u1.drew=u3 at ho hb hsz
     have d0:=(hb.cell (p:=⟨b,off + k * 2,none⟩) hbs).trans hc0
     have d1:=(hb.cell (p:=⟨b,off + k * 2 + 1,none⟩) hbs).trans hc1
     have hW2:Below (w.heap.size + 1) u3 (u3.alloc (.cells #[.int .i64 z0,.int .i64 z1] 173)):=(Below.refl _ _).alloc (by omega) _
     have ho2:=ho.alloc (.cells #[.int .i64 z0,.int .i64 z1] 173)
     go_wp2_with (at_builtin;refine wpList_append_own _ rfl _ _ 53 rfl (w.heap.size + 1) 173 i0 (.agg #[.int .i64 0,.int .i64 0]) 2 16 Tryz.underlying53 hi hz0 hz1 hz2 rfl (by decide) _ L.length (itemCells L) rfl ho2 ⟨u3.heap.size,0,none⟩ 1 1 [.int .i64 z0,.int .i64 z1] rfl rfl ?c1 ?c2 ?c3 ?c4 ?c5 ?_)
     all_goals try (case c1=>intro j u hj;match j,hj with | 0,hj=>simp at hj;subst hj;simp [Addr.add] | 1,hj=>simp at hj;subst hj;simp [Addr.add])
     all_goals try (case c2=>first | rfl | (intro u hu;simp at hu;rcases hu with rfl | rfl <;> rfl))
     all_goals try (case c3=>unfold maxLen;omega)
     all_goals try (case c4=>omega)
     all_goals try (case c5=>first | omega | (simp;omega))
     intro v' u4 hown hgrow _
     obtain ⟨a4,c4,rfl⟩:=own_shape hown
     have hW3:Below (w.heap.size + 1) u3 u4:=hW2.grown hgrow (by simp;omega) (fun j hj=>(ho.lt j hj).1)
     replace hb:=hb.trans hW3
     have hszn:=Nat.le_trans hsz hW3.size
     replace hsz:=hszn
     replace ho:=hown
     clear hW2 hgrow ho2 hown hW3 hszn d0 d1
     have R:Hid (_∧_∧_):=⟨ho,hb,hsz⟩
     clear ho hb hsz
     go_wp2
     go_roundw
     case rel=>
      refine ⟨k + 1,true,L ++ [⟨z0,z1⟩],by omega,by go_num,rfl,by first | (simp;omega) | omega,?_,R.out.2.1,R.out.2.2,HS⟩
      have:=R.out.1
      rw [itemCells_snoc']
      simpa using this
     case measure=>simp [intOf];omega
   ·have hne:(z0 != x0)=false:=by simp [bne,hE]
    cases d
    ·have hle:x0≤z0:=by simp at hE;omega
     have hG:decide (x0≤z0)=true:=by simp [hle]
     have HS:Hid ((L ++ [⟨x0,x1⟩]) ++ setR ⟨x0,x1⟩ true (xs.drop (k + 1))=setR ⟨x0,x1⟩ false xs):=by
      show _=_
      rw [← hst]
      simp only [Bool.not_true,Bool.not_false,Bool.false_and,Bool.true_and,Bool.true_or,Bool.false_or,hE,hG,if_true,if_false,Bool.false_eq_true,List.nil_append,List.append_assoc,List.cons_append]
     clear hst
     have d0:=lat_cell ((hb.cell (p:=⟨b,off + k * 2,none⟩) hbs).trans hc0)
     have d1:=lat_cell ((hb.cell (p:=⟨w.heap.size,0,none⟩) hxl).trans hx0)
     have hW:Below wr.heap.size wr wr.drew:=(Below.refl _ _).drew
     have hne:Nonempty (Lat wr):=⟨⟨wr,Below.refl _ _⟩⟩
     go_wp2_with fail
     refine text_begin (S:=fun w' => ∃ u:Lat wr,w' = u.val) (by kernel_rfl) ?_
     refine sgr [(0,12)] 0 (by kernel_rfl) ⟨⟨_,hW⟩,rfl⟩ ?_
     simp only [pkE]
     repeat go_big_quiet_step (fail)
     refine wpQuiet_nil ?_
     refine text_end (by kernel_rfl) ?_
     replace ho:=own_below ho hW
     replace hb:=hb.trans (hW.mono hsz)
     have hszn:=Nat.le_trans hsz hW.size
     replace hsz:=hszn
     clear hW hne hszn d0 d1
     generalize wr.drew=u1 at ho hb hsz
     have d0:=(hb.cell (p:=⟨w.heap.size,0,none⟩) hxl).trans hx0
     have d1:=(hb.cell (p:=⟨w.heap.size,1,none⟩) hxl).trans hx1
     have hW2:Below (w.heap.size + 1) u1 (u1.alloc (.cells #[.int .i64 x0,.int .i64 x1] 173)):=(Below.refl _ _).alloc (by omega) _
     have ho2:=ho.alloc (.cells #[.int .i64 x0,.int .i64 x1] 173)
     go_wp2_with (at_builtin;refine wpList_append_own _ rfl _ _ 53 rfl (w.heap.size + 1) 173 i0 (.agg #[.int .i64 0,.int .i64 0]) 2 16 Tryz.underlying53 hi hz0 hz1 hz2 rfl (by decide) _ L.length (itemCells L) rfl ho2 ⟨u1.heap.size,0,none⟩ 1 1 [.int .i64 x0,.int .i64 x1] rfl rfl ?c1 ?c2 ?c3 ?c4 ?c5 ?_)
     all_goals try (case c1=>intro j u hj;match j,hj with | 0,hj=>simp at hj;subst hj;simp [Addr.add] | 1,hj=>simp at hj;subst hj;simp [Addr.add])
     all_goals try (case c2=>first | rfl | (intro u hu;simp at hu;rcases hu with rfl | rfl <;> rfl))
     all_goals try (case c3=>unfold maxLen;omega)
     all_goals try (case c4=>omega)
     all_goals try (case c5=>first | omega | (simp;omega))
     intro v' u2 hown hgrow _
     obtain ⟨a2,c2,rfl⟩:=own_shape hown
     have hW3:Below (w.heap.size + 1) u1 u2:=hW2.grown hgrow (by simp;omega) (fun j hj=>(ho.lt j hj).1)
     replace hb:=hb.trans hW3
     have hszn:=Nat.le_trans hsz hW3.size
     replace hsz:=hszn
     replace ho:=hown
     clear hW2 hgrow ho2 hown hW3 hszn d0 d1
     replace ho:u2.ownsRow (w.heap.size + 1) 173 2 (.slice a2 (L.length + 1) c2) (L.length + 1) (itemCells (L ++ [⟨x0,x1⟩])):=by rw [itemCells_snoc'];simpa using ho
     generalize hL2:L ++ [(⟨x0,x1⟩:ItemD)]=L2 at ho HS
     have HL2:Hid (L2.length=L.length + 1):=by
      show _=_
      rw [← hL2]
      simp
     clear hL2
     have d0:=lat_cell ((hb.cell (p:=⟨b,off + k * 2,none⟩) hbs).trans hc0)
     have d1:=lat_cell ((hb.cell (p:=⟨w.heap.size,0,none⟩) hxl).trans hx0)
     have hW:Below u2.heap.size u2 u2.drew:=(Below.refl _ _).drew
     have hne:Nonempty (Lat u2):=⟨⟨u2,Below.refl _ _⟩⟩
     go_wp2_with fail
     refine text_begin (S:=fun w' => ∃ u:Lat u2,w' = u.val) (by kernel_rfl) ?_
     refine sgr [(0,8)] 0 (by kernel_rfl) ⟨⟨_,hW⟩,rfl⟩ ?_
     simp only [pkE]
     repeat go_big_quiet_step (fail)
     refine wpQuiet_nil ?_
     refine text_end (by kernel_rfl) ?_
     replace ho:=own_below ho hW
     replace hb:=hb.trans (hW.mono hsz)
     have hszn:=Nat.le_trans hsz hW.size
     replace hsz:=hszn
     clear hW hne hszn d0 d1
     generalize u2.drew=u3 at ho hb hsz
     have R:Hid (_∧_∧_):=⟨ho,hb,hsz⟩
     clear ho hb hsz
     go_wp2
     go_roundw
     case rel=>
      refine ⟨k + 1,true,L2,by omega,by go_num,rfl,by have:=HL2.out;first | (simp;omega) | omega,?_,R.out.2.1,R.out.2.2,HS⟩
      have:=R.out.1
      skip
      simpa [HL2.out] using this
     case measure=>simp [intOf];omega
    ·have HS:Hid ((L) ++ setR ⟨x0,x1⟩ true (xs.drop (k + 1))=setR ⟨x0,x1⟩ false xs):=by
      show _=_
      rw [← hst]
      simp only [Bool.not_true,Bool.not_false,Bool.false_and,Bool.true_and,Bool.true_or,Bool.false_or,hE,if_true,if_false,Bool.false_eq_true,List.nil_append,List.append_assoc,List.cons_append]
     clear hst
     have hW:Below wr.heap.size wr wr.drew:=(Below.refl _ _).drew
     have hne:Nonempty (Lat wr):=⟨⟨wr,Below.refl _ _⟩⟩
     go_wp2_with fail
     refine text_begin (S:=fun w' => ∃ u:Lat wr,w' = u.val) (by kernel_rfl) ?_
     refine sgr [(0,12)] 0 (by kernel_rfl) ⟨⟨_,hW⟩,rfl⟩ ?_
     simp only [pkE]
     repeat go_big_quiet_step (fail)
     refine wpQuiet_nil ?_
     refine text_end (by kernel_rfl) ?_
     replace ho:=own_below ho hW
     replace hb:=hb.trans (hW.mono hsz)
     have hszn:=Nat.le_trans hsz hW.size
     replace hsz:=hszn
     clear hW hne hszn 
     generalize wr.drew=u1 at ho hb hsz
     have d0:=lat_cell ((hb.cell (p:=⟨b,off + k * 2,none⟩) hbs).trans hc0)
     have d1:=lat_cell ((hb.cell (p:=⟨w.heap.size,0,none⟩) hxl).trans hx0)
     have hW:Below u1.heap.size u1 u1.drew:=(Below.refl _ _).drew
     have hne:Nonempty (Lat u1):=⟨⟨u1,Below.refl _ _⟩⟩
     go_wp2_with fail
     refine text_begin (S:=fun w' => ∃ u:Lat u1,w' = u.val) (by kernel_rfl) ?_
     refine sgr [(0,8)] 0 (by kernel_rfl) ⟨⟨_,hW⟩,rfl⟩ ?_
     simp only [pkE]
     repeat go_big_quiet_step (fail)
     refine wpQuiet_nil ?_
     refine text_end (by kernel_rfl) ?_
     replace ho:=own_below ho hW
     replace hb:=hb.trans (hW.mono hsz)
     have hszn:=Nat.le_trans hsz hW.size
     replace hsz:=hszn
     clear hW hne hszn d0 d1
     generalize u1.drew=u3 at ho hb hsz
     have R:Hid (_∧_∧_):=⟨ho,hb,hsz⟩
     clear ho hb hsz
     go_wp2
     go_roundw
     case rel=>
      refine ⟨k + 1,true,L,by omega,by go_num,rfl,by first | (simp;omega) | omega,?_,R.out.2.1,R.out.2.2,HS⟩
      have:=R.out.1
      skip
      simpa using this
     case measure=>simp [intOf];omega
  ·have hkl:k=xs.length:=by omega
   subst hkl
   have HT:Hid (L ++ setR ⟨x0,x1⟩ d []=setR ⟨x0,x1⟩ false xs):=by
    have:=HI.out
    rw [List.drop_length] at this
    exact this
   clear HI
   cases d
   ·have HT2:Hid (setR ⟨x0,x1⟩ false xs=L ++ [⟨x0,x1⟩]):=HT.out.symm
    clear HT
    have d0:=(hb.cell (p:=⟨w.heap.size,0,none⟩) hxl).trans hx0
    have d1:=(hb.cell (p:=⟨w.heap.size,1,none⟩) hxl).trans hx1
    have hW2:Below (w.heap.size + 1) wr (wr.alloc (.cells #[.int .i64 x0,.int .i64 x1] 173)):=(Below.refl _ _).alloc (by omega) _
    have ho2:=ho.alloc (.cells #[.int .i64 x0,.int .i64 x1] 173)
    go_wp2_with (at_builtin;refine wpList_append_own _ rfl _ _ 53 rfl (w.heap.size + 1) 173 i0 (.agg #[.int .i64 0,.int .i64 0]) 2 16 Tryz.underlying53 hi hz0 hz1 hz2 rfl (by decide) _ L.length (itemCells L) rfl ho2 ⟨wr.heap.size,0,none⟩ 1 1 [.int .i64 x0,.int .i64 x1] rfl rfl ?c1 ?c2 ?c3 ?c4 ?c5 ?_)
    all_goals try (case c1=>intro j u hj;match j,hj with | 0,hj=>simp at hj;subst hj;simp [Addr.add] | 1,hj=>simp at hj;subst hj;simp [Addr.add])
    all_goals try (case c2=>first | rfl | (intro u hu;simp at hu;rcases hu with rfl | rfl <;> rfl))
    all_goals try (case c3=>unfold maxLen;omega)
    all_goals try (case c4=>omega)
    all_goals try (case c5=>first | omega | (simp;omega))
    intro v' u1 hown hgrow _
    obtain ⟨a2,c2,rfl⟩:=own_shape hown
    have hW3:Below (w.heap.size + 1) wr u1:=hW2.grown hgrow (by simp;omega) (fun j hj=>(ho.lt j hj).1)
    replace hb:=hb.trans hW3
    have hszn:=Nat.le_trans hsz hW3.size
    replace hsz:=hszn
    replace ho:=hown
    clear hW2 hgrow ho2 hown hW3 hszn d0 d1
    go_wp2
    go_ret
    rw [HT2.out]
    refine ⟨a2,c2,by simp,?_,hb0.trans (hb.mono (by omega))⟩
    rw [itemCells_snoc']
    simpa using own_base ho (by omega)
   ·have HT2:Hid (setR ⟨x0,x1⟩ false xs=L):=by
     have:=HT.out
     simp [setR] at this
     exact this.symm
    clear HT
    go_wp2
    go_ret
    rw [HT2.out]
    exact ⟨_,_,rfl,own_base ho (by omega),hb0.trans (hb.mono (by omega))⟩

end Go.Proofs.YtjjoahhnkpjolaaGreatDoor
namespace Go.Proofs.YtjjoahhnkpjolaaGreatDoor
open Go.RowKit Go.Maps
open Go.BigFrame
set_option maxRecDepth 100000
def exC (xs:List ItemD) (i s q:Int) (zs:List ActD):Int:=if itemsF xs≠0 then itemsF xs else if txnF i s q zs≠0 then txnF i s q zs else (runA xs zs).1

def exR (xs:List ItemD) (i s q:Int) (zs:List ActD):List ItemD:=if exC xs i s q zs=0 then (runA xs zs).2 else []

def lastK (zs:List ActD):Int:=(zs.getD (zs.length - 1) actNo).key

def exV (xs:List ItemD) (i s q:Int) (zs:List ActD):Int:=if exC xs i s q zs=0 then valI (runA xs zs).2 (lastK zs) else 0

theorem ex_bad {xs:List ItemD} {i s q:Int} {zs:List ActD} (h:itemsF xs≠0):exC xs i s q zs=itemsF xs∧exR xs i s q zs=[]∧exV xs i s q zs=0:=by
 have e:exC xs i s q zs=itemsF xs:=if_pos h
 exact ⟨e,by simp [exR,e,h],by simp [exV,e,h]⟩

theorem ex_bad2 {xs:List ItemD} {i s q:Int} {zs:List ActD} (h:itemsF xs=0) (h2:txnF i s q zs≠0):exC xs i s q zs=txnF i s q zs∧exR xs i s q zs=[]∧exV xs i s q zs=0:=by
 have e:exC xs i s q zs=txnF i s q zs:=by simp [exC,h,h2]
 exact ⟨e,by simp [exR,e,h2],by simp [exV,e,h2]⟩

theorem ex_bad3 {xs:List ItemD} {i s q:Int} {zs:List ActD} (h:itemsF xs=0) (h2:txnF i s q zs=0) (h3:(runA xs zs).1≠0):exC xs i s q zs=(runA xs zs).1∧exR xs i s q zs=[]∧exV xs i s q zs=0:=by
 have e:exC xs i s q zs=(runA xs zs).1:=by simp [exC,h,h2]
 exact ⟨e,by simp [exR,e,h3],by simp [exV,e,h3]⟩

theorem ex_ok {xs:List ItemD} {i s q:Int} {zs:List ActD} (h:itemsF xs=0) (h2:txnF i s q zs=0) (h3:(runA xs zs).1=0):exC xs i s q zs=0∧exR xs i s q zs=(runA xs zs).2∧exV xs i s q zs=valI (runA xs zs).2 (lastK zs):=by
 have e:exC xs i s q zs=0:=by simp [exC,h,h2,h3]
 exact ⟨e,by simp [exR,e],by simp [exV,e]⟩

theorem runA_cons (xs:List ItemD) (a:ActD) (r:List ActD):runA xs (a :: r)=if actC xs a=0 then runA (actN xs a) r else (actC xs a,[]):=rfl

theorem drop_act {zs:List ActD} {k:Nat} (h:k < zs.length):zs.drop k=zs.getD k actNo :: zs.drop (k + 1):=by
 have e:zs.getD k actNo=zs[k]:=by simp [List.getD,h]
 rw [List.drop_eq_getElem_cons h,e]

set_option maxRecDepth 100000 in
set_option maxHeartbeats 4000000 in
theorem implExecTxn_any (a:Option Addr) (cap:Nat) (xs:List ItemD) (i s q:Int) (ta:Option Addr) (tc:Nat) (zs:List ActD) (w:World) (h:ItemRow w a xs) (ht:ActRow w ta zs) (hl:xs.length≤1048576) (hl2:zs.length≤1048576) :
  Calls Tryz.prog 211 #[.slice a xs.length cap,.agg #[.int .i64 i,.int .i64 s,.int .i64 q,.slice ta zs.length tc]] w fun e w' => ∃ b c,e=.returned (.agg #[.int .i64 (exC xs i s q zs),.int .i64 (exV xs i s q zs),.slice b (exR xs i s q zs).length c]) ∧
   w'.ownsRow w.heap.size 173 2 (.slice b (exR xs i s q zs).length c) (exR xs i s q zs).length (itemCells (exR xs i s q zs))∧Below w.heap.size w w' := by
 have hF:=fun w h=>implItemsFault_any a cap xs w h hl
 have hT:=fun w h=>txnFault_any i s q ta tc zs w h hl2
 have hb0:Below w.heap.size w ((w.alloc (.cells #[.int .i64 i,.int .i64 s,.int .i64 q,.slice ta zs.length tc] 158)).alloc (.cells #[.int .i64 0,.int .i64 0,.slice none 0 0] 282)):=by go_grown
 have B0:=Blk.new (w.alloc (.cells #[.int .i64 i,.int .i64 s,.int .i64 q,.slice ta zs.length tc] 158)) 282 #[.int .i64 0,.int .i64 0,.slice none 0 0]
 have Bt:=(Blk.new w 158 #[.int .i64 i,.int .i64 s,.int .i64 q,.slice ta zs.length tc]).below (w' := (w.alloc (.cells #[.int .i64 i,.int .i64 s,.int .i64 q,.slice ta zs.length tc] 158)).alloc (.cells #[.int .i64 0,.int .i64 0,.slice none 0 0] 282)) (by go_grown)
 rw [World.size_alloc] at B0
 by_cases h0:itemsF xs=0
 case neg=>
  obtain ⟨e1,e2,e3⟩:=ex_bad (i:=i) (s:=s) (q:=q) (zs:=zs) h0
  rw [e1,e2,e3]
  have hne:(itemsF xs != 0)=true:=by simpa using h0
  clear h0 e1 e2 e3
  generalize itemsF xs=r at hF hne
  go_enter Tryz.func211,Tryz.ntmps211
  go_wp2_with fail
  generalize (w.alloc (.cells #[.int .i64 i,.int .i64 s,.int .i64 q,.slice ta zs.length tc] 158)).alloc (.cells #[.int .i64 0,.int .i64 0,.slice none 0 0] 282)=W0 at hb0 B0 Bt
  refine (hF _ (h.below hb0)).mono ?_
  rintro e w1 ⟨rfl,hb⟩
  replace B0:=B0.below hb
  replace hb0:=hb0.trans (hb.mono hb0.size)
  obtain ⟨p0,p1,p2⟩:=B0.cel3
  obtain ⟨f0,f1,f2⟩:=B0.frz3
  have hlt:=B0.lt
  clear hb B0 Bt
  go_wp2
  refine bodyPost_ret (v:=.agg #[.int .i64 r,.int .i64 0,.slice none 0 0]) (by simp [results,Tryz.results211,go_sem,p0,p1,p2]) rfl ⟨_,_,rfl,World.ownsRow_nil _ _ _ _,?_⟩
  repeat' (refine Below.setCell ?_ (by dsimp only;omega) _)
  exact hb0
 by_cases h2:txnF i s q zs=0
 case neg=>
  obtain ⟨e1,e2,e3⟩:=ex_bad2 h0 h2
  rw [e1,e2,e3]
  have hne:(txnF i s q zs != 0)=true:=by simpa using h2
  rw [h0] at hF
  clear h0 h2 e1 e2 e3
  generalize txnF i s q zs=r at hT hne
  go_enter Tryz.func211,Tryz.ntmps211
  go_wp2_with fail
  generalize (w.alloc (.cells #[.int .i64 i,.int .i64 s,.int .i64 q,.slice ta zs.length tc] 158)).alloc (.cells #[.int .i64 0,.int .i64 0,.slice none 0 0] 282)=W0 at hb0 B0 Bt
  refine (hF _ (h.below hb0)).mono ?_
  rintro e w1 ⟨rfl,hb⟩
  replace B0:=B0.below hb
  replace Bt:=Bt.below hb
  replace hb0:=hb0.trans (hb.mono hb0.size)
  obtain ⟨q0,q1,q2,q3⟩:=Bt.cel4
  clear hb
  go_wp2_with fail
  clear q0 q1 q2 q3 Bt
  refine (hT _ (ht.below hb0)).mono ?_
  rintro e w2 ⟨rfl,hb⟩
  replace B0:=B0.below hb
  replace hb0:=hb0.trans (hb.mono hb0.size)
  obtain ⟨p0,p1,p2⟩:=B0.cel3
  obtain ⟨f0,f1,f2⟩:=B0.frz3
  have hlt:=B0.lt
  clear hb B0
  go_wp2
  refine bodyPost_ret (v:=.agg #[.int .i64 r,.int .i64 0,.slice none 0 0]) (by simp [results,Tryz.results211,go_sem,p0,p1,p2]) rfl ⟨_,_,rfl,World.ownsRow_nil _ _ _ _,?_⟩
  repeat' (refine Below.setCell ?_ (by dsimp only;omega) _)
  exact hb0
 obtain ⟨h8,g⟩:=good_of_F h0
 obtain ⟨⟨hz1,hz4⟩,hact⟩:=acts_of_F h2
 have HB:Hid ((runA xs zs).1≠0→exC xs i s q zs=(runA xs zs).1∧exR xs i s q zs=[]∧exV xs i s q zs=0):=fun h3=>ex_bad3 h0 h2 h3
 have HK:Hid ((runA xs zs).1=0→exC xs i s q zs=0∧exR xs i s q zs=(runA xs zs).2∧exV xs i s q zs=valI (runA xs zs).2 (lastK zs)):=fun h3=>ex_ok h0 h2 h3
 have HA:Hid (∀ a∈zs,actF a=0):=hact
 have hsh:=fun w h=>shelfOf_any a cap xs w h h8 g
 rw [h0] at hF
 rw [h2] at hT
 clear h0 h2 hact
 go_enter Tryz.func211,Tryz.ntmps211
 go_wp2_with fail
 generalize (w.alloc (.cells #[.int .i64 i,.int .i64 s,.int .i64 q,.slice ta zs.length tc] 158)).alloc (.cells #[.int .i64 0,.int .i64 0,.slice none 0 0] 282)=W0 at hb0 B0 Bt
 refine (hF _ (h.below hb0)).mono ?_
 rintro e w1 ⟨rfl,hb⟩
 replace B0:=B0.below hb
 replace Bt:=Bt.below hb
 replace hb0:=hb0.trans (hb.mono hb0.size)
 obtain ⟨q0,q1,q2,q3⟩:=Bt.cel4
 clear hb
 go_wp2_with fail
 clear q0 q1 q2 q3
 refine (hT _ (ht.below hb0)).mono ?_
 rintro e w2 ⟨rfl,hb⟩
 replace B0:=B0.below hb
 replace Bt:=Bt.below hb
 replace hb0:=hb0.trans (hb.mono hb0.size)
 clear hb
 go_wp2_with fail
 refine (hsh _ (h.below hb0)).mono ?_
 rintro e w3 ⟨rfl,hS,hb⟩
 have hs0:=B0.lt
 have hst:=Bt.lt
 replace B0:=B0.below hb
 replace Bt:=Bt.below hb
 have ht0:=ht.below hb0
 replace ht:=ht.below (hb0.trans (hb.mono hb0.size))
 have hs3:=hS.lt
 have hbw:Below w.heap.size w w3:=hb0.trans (hb.mono hb0.size)
 have hsz0:=hb0.size
 have hrow:∀ k,k < zs.length→∃ b off,ta=some ⟨b,off,none⟩∧b < w2.heap.size:=fun k hk=>by
  obtain ⟨b,off,e,hbs,_⟩:=(ht0:ActRow w2 ta zs).at k hk
  exact ⟨b,off,e,hbs⟩
 clear hb hsh hT hF h
 generalize w2.heap.size=sb at *
 have q3:=Bt.cell 3 _ rfl
 go_wp2
 clear q3
 have hS3:=hS
 clear hS
 go_loopw [29] (fun j wr=>∃ (k:Nat) (cur:List ItemD),k≤zs.length∧j=.int .i64 k∧ShelfAt wr sb cur∧cur.length≤8∧Hid (Good cur∧runA cur (zs.drop k)=runA xs zs)∧Below sb w3 wr) (fun j _=>zs.length - (intOf j).toNat)
 case atStart=>exact ⟨0,xs,Nat.zero_le _,rfl,hS3,h8,⟨g,by simp⟩,Below.refl _ _⟩
 case round=>
  clear hS3
  obtain ⟨k,cur,hk,rfl,hS,hc8,HG,hb⟩:=hrel
  have hsb:=hS.lt
  by_cases hlt:k < zs.length
  ·obtain ⟨b,off,rfl,hbs⟩:=hrow k hlt
   obtain ⟨b',off',e,_,hc0,hc1,hc2⟩:=ht.at k hlt
   simp only [Option.some.injEq,Addr.mk.injEq,and_true] at e
   obtain ⟨rfl,rfl⟩:=e
   replace hc0:wr.cell? ⟨b,off + k * 3,none⟩=_:=(hb.cell (p:=⟨b,off + k * 3,none⟩) hbs).trans hc0
   replace hc1:wr.cell? ⟨b,off + k * 3 + 1,none⟩=_:=(hb.cell (p:=⟨b,off + k * 3 + 1,none⟩) hbs).trans hc1
   replace hc2:wr.cell? ⟨b,off + k * 3 + 2,none⟩=_:=(hb.cell (p:=⟨b,off + k * 3 + 2,none⟩) hbs).trans hc2
   have haz:=HA.out (zs.getD k actNo) (by simp [List.getD,hlt])
   have hdo:=fun w h=>do_any sb cur (zs.getD k actNo).kind (zs.getD k actNo).key (zs.getD k actNo).val w h hc8 HG.out.1 haz
   change ∀ w h,Calls _ _ _ _ fun e w' => e=.returned (.int .i64 (actC cur (zs.getD k actNo)))∧(actC cur (zs.getD k actNo)=0→ShelfAt w' sb (actN cur (zs.getD k actNo)))∧_ at hdo
   have HD:Hid (runA cur (zs.getD k actNo :: zs.drop (k + 1))=runA xs zs):=by
    have:=HG.out.2
    rw [drop_act hlt] at this
    exact this
   by_cases hF:actC cur (zs.getD k actNo)=0
   ·obtain ⟨hn8,hng⟩:=act_good hc8 HG.out.1 haz hF
    have HR2:Hid (Good (actN cur (zs.getD k actNo))∧runA (actN cur (zs.getD k actNo)) (zs.drop (k + 1))=runA xs zs):=⟨hng,by
     have:=HD.out
     rw [runA_cons,if_pos hF] at this
     exact this⟩
    rw [hF] at hdo
    clear HD hng HG haz hF
    generalize actN cur (zs.getD k actNo)=nx at hdo HR2 hn8
    generalize zs.getD k actNo=z at hc0 hc1 hc2 hdo
    obtain ⟨z0,z1,z2⟩:=z
    dsimp only at hc0 hc1 hc2 hdo
    have hS0:ShelfAt (wr.alloc (.cells #[.int .i64 z0,.int .i64 z1,.int .i64 z2] 210)) sb cur:=hS.below (by go_grown)
    have hbA:Below sb w3 (wr.alloc (.cells #[.int .i64 z0,.int .i64 z1,.int .i64 z2] 210)):=hb.alloc (by omega) _
    go_wp2_with fail
    refine (hdo _ hS0).mono ?_
    rintro e w5 ⟨rfl,hN,hO⟩
    have hb5:=below_only hbA hO (Nat.le_refl _) (by simp;omega)
    have hS5:=hN (by first | trivial | rfl)
    clear hdo hN hO hbA hS0 hS hb
    go_wp2
    go_roundw
    case rel=>exact ⟨k + 1,nx,by omega,by go_num,hS5,hn8,HR2,hb5⟩
    case measure=>simp [intOf];omega
   ·have HC:Hid (runA xs zs=(actC cur (zs.getD k actNo),[])):=by
     have:=HD.out
     rw [runA_cons,if_neg hF] at this
     exact this.symm
    have HE:Hid (exC xs i s q zs=actC cur (zs.getD k actNo)∧exR xs i s q zs=[]∧exV xs i s q zs=0):=by
     have:=HB.out (by rw [HC.out];exact hF)
     rw [HC.out] at this
     exact this
    have hne:(actC cur (zs.getD k actNo) != 0)=true:=by simpa using hF
    clear HD HG haz hF HC
    generalize actC cur (zs.getD k actNo)=r at hdo HE hne
    generalize zs.getD k actNo=z at hc0 hc1 hc2 hdo
    obtain ⟨z0,z1,z2⟩:=z
    dsimp only at hc0 hc1 hc2 hdo
    have hS0:ShelfAt (wr.alloc (.cells #[.int .i64 z0,.int .i64 z1,.int .i64 z2] 210)) sb cur:=hS.below (by go_grown)
    have hbA:Below sb w3 (wr.alloc (.cells #[.int .i64 z0,.int .i64 z1,.int .i64 z2] 210)):=hb.alloc (by omega) _
    go_wp2_with fail
    refine (hdo _ hS0).mono ?_
    rintro e w5 ⟨rfl,_,hO⟩
    have hb5:=below_only hbA hO (Nat.le_refl _) (by simp;omega)
    replace B0:Blk w5 _ _ _:=(hb5.block _ hs0).trans B0
    obtain ⟨p0,p1,p2⟩:=B0.cel3
    obtain ⟨f0,f1,f2⟩:=B0.frz3
    have hlt5:=B0.lt
    clear hdo hO hbA hS0 hS hb B0
    go_wp2
    refine bodyPost_ret (v:=.agg #[.int .i64 r,.int .i64 0,.slice none 0 0]) (by simp [results,Tryz.results211,go_sem,p0,p1,p2]) rfl ?_
    rw [HE.out.1,HE.out.2.1,HE.out.2.2]
    refine ⟨_,_,rfl,World.ownsRow_nil _ _ _ _,?_⟩
    repeat' (refine Below.setCell ?_ (by dsimp only;omega) _)
    exact hbw.trans (hb5.mono hsz0)
  ·have hkl:k=zs.length:=by omega
   have HC:Hid (runA xs zs=(0,cur)):=by
    have:=HG.out.2
    rw [hkl,List.drop_length] at this
    exact this.symm
   have HE:Hid (exC xs i s q zs=0∧exR xs i s q zs=cur∧exV xs i s q zs=valI cur (lastK zs)):=by
    have:=HK.out (by rw [HC.out])
    rw [HC.out] at this
    exact this
   have hg:=HG.out.1
   subst hkl
   obtain ⟨n,hn⟩:∃ n,zs.length=n + 1:=⟨zs.length - 1,by omega⟩
   obtain ⟨b,off,rfl,hbs⟩:=hrow n (by omega)
   obtain ⟨b',off',e,_,hc0,hc1,hc2⟩:=ht.at n (by omega)
   simp only [Option.some.injEq,Addr.mk.injEq,and_true] at e
   obtain ⟨rfl,rfl⟩:=e
   replace hc1:wr.cell? ⟨b,off + n * 3 + 1,none⟩=_:=(hb.cell (p:=⟨b,off + n * 3 + 1,none⟩) hbs).trans hc1
   have hkey:=(actF_zero (HA.out (zs.getD n actNo) (by simp [List.getD,show n < zs.length by omega]))).2.1
   have HL:Hid (lastK zs=(zs.getD n actNo).key):=by
    show _=_
    unfold lastK
    rw [hn,Nat.add_sub_cancel]
   generalize (zs.getD n actNo).key=kk at hc1 hkey HL
   have HV:Hid (exV xs i s q zs=valI cur kk):=by
    have:=HE.out.2.2
    rw [HL.out] at this
    exact this
   generalize hvv:valI cur kk=vv at HV
   have HVV:Hid (valI cur kk=vv):=hvv
   replace B0:Blk wr _ _ _:=(hb.block _ hs0).trans B0
   replace Bt:Blk wr _ _ _:=(hb.block _ hst).trans Bt
   have q3:=Bt.cell 3 _ rfl
   clear hc0 hc2 HC HG HL hvv
   go_wp2_with fail
   clear q3 hc1 Bt
   refine text_begin (S:=fun w' => ∃ u:KeepP (fun u=>ShelfAt u sb cur),w' = u.val) (by kernel_rfl) ?_
   have hne:Nonempty (KeepP (fun u=>ShelfAt u sb cur)):=⟨⟨wr,hS⟩⟩
   have hSd:ShelfAt wr.drew sb cur:=hS
   refine sgr [(0,2),(3,1)] 4 (by kernel_rfl) ⟨⟨wr.drew,hSd⟩,rfl⟩ ?_
   simp only [pkE]
   repeat go_big_quiet_step (fail)
   refine wpQuiet_nil ?_
   refine qta 2 (some 52) (.int .i64 vv) 3 (by kernel_rfl) ?hrun ⟨⟨wr.drew,hSd⟩,rfl⟩ ?_
   case hrun=>
    intro u hu
    obtain ⟨x,rfl⟩:=hu
    obtain ⟨c,hr,hat,_⟩:=World.ownsMap.lookup_int x.isP lawI64 Tryz.underlying301 Tryz.underlying2 (zeroI64 _) (keyI64 (k:=kk) (by omega))
    rw [shelf_at,HVV.out] at hat
    simp only [DataW.lit.injEq,Lit.int.injEq,true_and] at hat
    subst hat
    show some (Sem.run Tryz.prog (do let v ← Instr.lookup 301 (.map (some sb)) (.int .i64 kk) false;pure (Next.value v)) x.val)=_
    rw [Sem.run_bind,hr]
    rfl
   simp only [Act.put,pgE,pjE]
   refine cla 4 (some 54) 238 #[.map (some sb)] 2 (by kernel_rfl) ?_
   refine (items_any sb cur _ hSd hc8 hg).mono ?_
   rintro e w6 ⟨ra,rc,rfl,ro,hb6⟩
   have hS6:=hSd.below hb6
   refine ⟨_,rfl,⟨⟨w6,hS6⟩,rfl⟩,?_⟩
   simp only [Act.put,pgE,pjE]
   refine sgr [(5,1)] 1 (by kernel_rfl) ⟨⟨w6,hS6⟩,rfl⟩ ?_
   simp only [pkE]
   repeat go_big_quiet_step (fail)
   refine wpQuiet_nil ?_
   refine ona 6 0 rfl (by kernel_rfl) ?_
   have hsd:wr.drew.heap.size=wr.heap.size:=rfl
   rw [hsd] at ro hb6
   have hbd:Below wr.heap.size wr wr.drew:=(Below.refl _ _).drew
   replace B0:=B0.below (hbd.trans hb6)
   have hbf:Below w.heap.size w w6:=(hbw.trans (hb.mono hsz0)).trans ((hbd.trans hb6).mono (by omega))
   obtain ⟨p0,p1,p2⟩:=B0.cel3
   obtain ⟨f0,f1,f2⟩:=B0.frz3
   have hl6:=B0.lt
   clear B0 hb6 hbd hne
   go_wp2
   refine ThenGo.to ⟨⟨⟨_,World.ownsMap.setCell (World.ownsMap.setCell (World.ownsMap.setCell hS6 (by dsimp only;omega) _) (by dsimp only;omega) _) (by dsimp only;omega) _⟩,rfl⟩,?_⟩
   refine text_end (by kernel_rfl) ?_
   go_wp2
   refine bodyPost_ret (v:=.agg #[.int .i64 0,.int .i64 vv,.slice ra cur.length rc]) (by simp [results,Tryz.results211,go_sem,p0,p1,p2]) rfl ?_
   rw [HE.out.1,HE.out.2.1,HV.out]
   refine ⟨_,_,rfl,?_,?_⟩
   ·refine own_base (base:=wr.heap.size) ?_ (by omega)
    repeat' (refine ownsRow_setCell_below ?_ (by dsimp only;omega) _)
    exact ro
   ·repeat' (refine Below.setCell ?_ (by dsimp only;omega) _)
    exact hbf

end Go.Proofs.YtjjoahhnkpjolaaGreatDoor
