/- Texts joined, with what the law reaches alone. -/
import Derived.Test.YtfdkcbafpiojkaaGreatDoorSXAR
import Derived.Test.YtfdkcbafpiojkaaGreatDoorSXAC
import Derived.Test.YtfdkcbafpiojkaaGreatDoorSXAP
import Derived.Test.YtfdkcbafpiojkaaGreatDoorSXAD
import Derived.Test.YtfdkcbafpiojkaaGreatDoorSXAF
set_option linter.unusedVariables false
set_option linter.unusedSimpArgs false
namespace Go.Proofs.YtfdkcbafpiojkaaGreatDoor
open Go.RowKit
open Go.BigFrame
set_option maxRecDepth 100000
set_option maxHeartbeats 4000000 in
theorem specSameTxns_any (v v' : Value) (xs ys:List TxnD) (w:World) (h:TxnsAt w v xs) (h' : TxnsAt w v' ys) (hl:xs.length + sumA xs≤1048576) (hl' : ys.length + sumA ys≤1048576) :
  Calls Tryz.prog 159 #[v,v'] w fun e w' => e=.returned (.bool (sameTs xs ys))∧Below w.heap.size w w' := by
 obtain ⟨a,cap,rfl⟩:=h.shape
 obtain ⟨a',cap',rfl⟩:=h'.shape
 by_cases hlen:xs.length=ys.length
 case neg=>
  have E:sameTs xs ys=false:=same_len (f:=sameT) rfl (fun _ _ _ _=>rfl) (fun _ _=>rfl) (fun _ _=>rfl) xs ys hlen
  rw [E]
  have hd:((xs.length:Int) != (ys.length:Int))=true:=by simp;omega
  go_enter Tryz.func159,Tryz.ntmps159
  go_wp2
  go_ret
  exact ⟨rfl,Below.refl _ _⟩
 case pos=>
  have hd:((xs.length:Int) != (ys.length:Int))=false:=by simp [hlen]
  have HL:Hid (xs.length=ys.length):=hlen
  clear hlen
  go_enter Tryz.func159,Tryz.ntmps159
  go_wp2
  go_loopw [5] (fun i wr=>∃ k:Nat,k≤xs.length∧i=.int .i64 k∧Below w.heap.size w wr∧Hid (∀ j,j < k→sameT (xs.getD j txnNo) (ys.getD j txnNo)=true)) (fun i _=>xs.length - (intOf i).toNat)
  case atStart=>exact ⟨0,Nat.zero_le _,rfl,Below.refl _ _,fun j hj=>absurd hj (Nat.not_lt_zero _)⟩
  case round=>
   obtain ⟨k,hk,rfl,hb,HA⟩:=hrel
   by_cases hlt:k < xs.length
   ·have hlt' : k < ys.length:=by have:=HL.out;omega
    obtain ⟨b,off,aa,cc,rfl,hbs,hc0,hc1,hc2,hc3,hA⟩:=(h.below hb).at k hlt
    obtain ⟨b',off',aa',cc',rfl,hbs',hd0,hd1,hd2,hd3,hA'⟩:=(h'.below hb).at k hlt'
    have hzl:(xs.getD k txnNo).acts.length≤sumA xs:=mem_le_sumA (by simp [List.getD,hlt])
    have hzl' : (ys.getD k txnNo).acts.length≤sumA ys:=mem_le_sumA (by simp [List.getD,hlt'])
    have hBx:Box4 wr b (off + k * 4) _ _ _ _:=⟨hc0,hc1,hc2,hc3⟩
    have hBy:Box4 wr b' (off' + k * 4) _ _ _ _:=⟨hd0,hd1,hd2,hd3⟩
    have hq:=fun (w' : World) (hW:Below wr.heap.size wr w')=>l2Same_any (xs.getD k txnNo) (ys.getD k txnNo) b (off + k * 4) b' (off' + k * 4) aa aa' cc cc' w' (hBx.below hW) (hBy.below hW) (hA.below hW) (hA'.below hW) (by omega) (by omega)
    clear hBx hBy hA hA' hc0 hc1 hc2 hc3 hd0 hd1 hd2 hd3
    cases hs:sameT (xs.getD k txnNo) (ys.getD k txnNo)
    case false=>
     have E:Hid (sameTs xs ys=false):=same_bad (f:=sameT) txnNo (fun _ _ _ _=>rfl) xs ys k HL.out hlt hs
     rw [hs] at hq
     clear HA hs hzl hzl'
     have hW:Below wr.heap.size wr wr.drew:=(Below.refl _ _).drew
     have hne:Nonempty (Lat wr):=⟨⟨wr,Below.refl _ _⟩⟩
     go_wp2_with fail
     refine text_begin (S:=fun w' => ∃ u:Lat wr,w' = u.val) (by kernel_rfl) ?_
     refine seg_range [(0,6)] 2 (by kernel_rfl) (by kernel_rfl) (by kernel_rfl) (by kernel_rfl) (by kernel_rfl) ⟨⟨_,hW⟩,rfl⟩ ?_
     simp only [pickR,List.toList_toArray,List.flatMap_cons,List.flatMap_nil,List.drop_succ_cons,List.drop_zero,List.take_succ_cons,List.take_zero,List.cons_append,List.nil_append,List.append_nil]
     repeat go_big_quiet_step (fail)
     refine wpQuiet_nil ?_
     refine call_at 6 (some 23) 188 #[.pointer (some ⟨b,off + k * 4,none⟩),.pointer (some ⟨b',off' + k * 4,none⟩)] 1 (by kernel_rfl) (by kernel_rfl) (by kernel_rfl) (by kernel_rfl) (by kernel_rfl) ?_
     refine (hq _ hW).mono ?_
     rintro e w2 ⟨rfl,hb2⟩
     replace hW:=hW.trans (hb2.mono hW.size)
     clear hb2 hq
     refine ⟨_,rfl,⟨⟨_,hW⟩,rfl⟩,?_⟩
     simp only [Act.put,List.setIfInBounds_toArray,List.set_cons_zero,List.set_cons_succ]
     refine seg_range [(7,1)] 0 (by kernel_rfl) (by kernel_rfl) (by kernel_rfl) (by kernel_rfl) (by kernel_rfl) ⟨⟨_,hW⟩,rfl⟩ ?_
     simp only [pickR,List.toList_toArray,List.flatMap_cons,List.flatMap_nil,List.drop_succ_cons,List.drop_zero,List.take_succ_cons,List.take_zero,List.cons_append,List.nil_append,List.append_nil]
     repeat go_big_quiet_step (fail)
     refine wpQuiet_nil ?_
     refine text_end (by kernel_rfl) ?_
     replace hb:=hb.trans (hW.mono hb.size)
     clear hW hne
     go_wp2
     go_ret
     rw [E.out]
     exact ⟨rfl,hb⟩
    case true=>
     have HB:Hid (∀ j,j < k + 1→sameT (xs.getD j txnNo) (ys.getD j txnNo)=true):=by
      intro j hj
      by_cases hjk:j=k
      ·subst hjk;exact hs
      ·exact HA.out j (by omega)
     rw [hs] at hq
     clear HA hs hzl hzl'
     have hW:Below wr.heap.size wr wr.drew:=(Below.refl _ _).drew
     have hne:Nonempty (Lat wr):=⟨⟨wr,Below.refl _ _⟩⟩
     go_wp2_with fail
     refine text_begin (S:=fun w' => ∃ u:Lat wr,w' = u.val) (by kernel_rfl) ?_
     refine seg_range [(0,6)] 2 (by kernel_rfl) (by kernel_rfl) (by kernel_rfl) (by kernel_rfl) (by kernel_rfl) ⟨⟨_,hW⟩,rfl⟩ ?_
     simp only [pickR,List.toList_toArray,List.flatMap_cons,List.flatMap_nil,List.drop_succ_cons,List.drop_zero,List.take_succ_cons,List.take_zero,List.cons_append,List.nil_append,List.append_nil]
     repeat go_big_quiet_step (fail)
     refine wpQuiet_nil ?_
     refine call_at 6 (some 23) 188 #[.pointer (some ⟨b,off + k * 4,none⟩),.pointer (some ⟨b',off' + k * 4,none⟩)] 1 (by kernel_rfl) (by kernel_rfl) (by kernel_rfl) (by kernel_rfl) (by kernel_rfl) ?_
     refine (hq _ hW).mono ?_
     rintro e w2 ⟨rfl,hb2⟩
     replace hW:=hW.trans (hb2.mono hW.size)
     clear hb2 hq
     refine ⟨_,rfl,⟨⟨_,hW⟩,rfl⟩,?_⟩
     simp only [Act.put,List.setIfInBounds_toArray,List.set_cons_zero,List.set_cons_succ]
     refine seg_range [(7,1)] 0 (by kernel_rfl) (by kernel_rfl) (by kernel_rfl) (by kernel_rfl) (by kernel_rfl) ⟨⟨_,hW⟩,rfl⟩ ?_
     simp only [pickR,List.toList_toArray,List.flatMap_cons,List.flatMap_nil,List.drop_succ_cons,List.drop_zero,List.take_succ_cons,List.take_zero,List.cons_append,List.nil_append,List.append_nil]
     repeat go_big_quiet_step (fail)
     refine wpQuiet_nil ?_
     refine text_end (by kernel_rfl) ?_
     replace hb:=hb.trans (hW.mono hb.size)
     clear hW hne
     go_wp2
     go_roundw
     case rel=>exact ⟨k + 1,by omega,by go_num,hb,HB⟩
     case measure=>simp [intOf];omega
   ·have E:Hid (sameTs xs ys=true):=same_all (f:=sameT) txnNo rfl (fun _ _ _ _=>rfl) xs ys HL.out (fun j hj=>HA.out j (by omega))
    clear HA
    go_wp2
    go_ret
    rw [E.out]
    exact ⟨rfl,hb⟩

end Go.Proofs.YtfdkcbafpiojkaaGreatDoor
namespace Go.Proofs.YtfdkcbafpiojkaaGreatDoor
open Go.RowKit
set_option maxRecDepth 100000
def slA' : Value→Option Addr
 | .slice a _ _=>a
 | _=>none

def slK' : Value→Nat
 | .slice _ _ k=>k
 | _=>0

def TxnQ.p' (q:TxnQ):TxnP:=⟨q.e,slA' q.va,slK' q.va⟩

theorem TxnQ.p_cells' {w:World} {q:TxnQ} (h:actK.At w q.va q.acts):q.p'.cells=txnK.cells q:=by
 obtain ⟨a,c,e⟩:=h.shape
 show [_,_,_,_]=[_,_,_,_]
 simp only [TxnP.sl,TxnQ.p',TxnQ.e,e,slA',slK']

theorem txnsAt_of' {w:World} {v:Value} {ps:List TxnQ} (h:txnK.At w v ps):TxnsAt w v (ps.map TxnQ.e):=by
 obtain ⟨a,cap,e,hL,hr⟩:=h
 refine ⟨a,cap,ps.map TxnQ.p',by rw [List.length_map];exact e,by simp only [List.map_map];rfl,?_,?_⟩
 ·have e2:txnCells (ps.map TxnQ.p')=txnK.row ps:=by
   clear hL e
   induction ps with
   | nil=>rfl
   | cons q r ih=>
    have h1:q.p'.cells=txnK.cells q:=TxnQ.p_cells' (hr q (by simp))
    have h2:=ih (fun p hp=>hr p (List.mem_cons_of_mem _ hp))
    show q.p'.cells ++ txnCells (r.map TxnQ.p')=txnK.cells q ++ txnK.row r
    rw [h1,h2]
  rw [e2]
  exact hL
 ·intro p hp
  obtain ⟨q,hq,rfl⟩:=List.mem_map.1 hp
  have h1:actK.At w q.va q.acts:=hr q hq
  obtain ⟨a',c',e',hl',_⟩:=h1
  show ActRow w (slA' q.va) q.acts
  rw [e']
  exact hl'

theorem sumA_of' (ps:List TxnQ):sumA (ps.map TxnQ.e)=nmL TxnQ.n ps:=by
 simp only [sumA,nmL,List.map_map]
 rfl

end Go.Proofs.YtfdkcbafpiojkaaGreatDoor
namespace Go.Proofs.YtfdkcbafpiojkaaGreatDoor
open Go.RowKit
open Go.BigFrame
set_option maxRecDepth 100000
def sameUss:List (List UndoD)→List (List UndoD)→Bool
 | [],[]=>true
 | x :: r,y :: s=>sameUs x y && sameUss r s
 | _,_=>false

theorem uss_get (xs:List USQ) (k:Nat) (hk:k < xs.length):(xs.map USQ.e).getD k []=USQ.e xs[k]:=by simp [List.getD,hk]

theorem us_cell {w:World} {b off k:Nat} {p:USQ} (h:∀ j x,(ussK.cells p)[j]? = some x→w.cell? ⟨b,off + k * ussK.size + j,none⟩=some x):w.cell? ⟨b,off + k,none⟩=some p.va:=by
 have:=h 0 p.va rfl
 rwa [show off + k * ussK.size + 0=off + k from by show off + k * 1 + 0=off + k;omega] at this

set_option maxHeartbeats 4000000 in
theorem equalUss_any (v v' : Value) (xs ys:List USQ) (w:World) (h:ussK.At w v xs) (h' : ussK.At w v' ys) (hl:xs.length + nmL USQ.n xs≤1048576) (hl' : ys.length + nmL USQ.n ys≤1048576) :
  Calls Tryz.prog 90 #[v,v',.func (.func 91) #[] #[]] w fun e w' => e=.returned (.bool (sameUss (xs.map USQ.e) (ys.map USQ.e)))∧Below w.heap.size w w' := by
 obtain ⟨a,cap,rfl⟩:=h.shape
 obtain ⟨a',cap',rfl⟩:=h'.shape
 by_cases hlen:xs.length=ys.length
 case neg=>
  have E:sameUss (xs.map USQ.e) (ys.map USQ.e)=false:=same_len (f:=sameUs) rfl (fun _ _ _ _=>rfl) (fun _ _=>rfl) (fun _ _=>rfl) _ _ (by simpa using hlen)
  rw [E]
  have hd:((xs.length:Int) != (ys.length:Int))=true:=by simp;omega
  go_enter Tryz.func90,Tryz.ntmps90
  go_wp2
  go_ret
  exact ⟨rfl,Below.refl _ _⟩
 case pos=>
  have hd:((xs.length:Int) != (ys.length:Int))=false:=by simp [hlen]
  have HL:Hid (xs.length=ys.length):=hlen
  have HM:Hid ((xs.map USQ.e).length=(ys.map USQ.e).length):=show _=_ by simpa using hlen
  clear hlen
  generalize hE:sameUss (xs.map USQ.e) (ys.map USQ.e)=E
  have HE:Hid (sameUss (xs.map USQ.e) (ys.map USQ.e)=E):=hE
  clear hE
  go_enter Tryz.func90,Tryz.ntmps90
  go_wp2
  go_loopw [17] (fun i wr=>∃ k:Nat,k≤xs.length∧i=.int .i64 k∧Below w.heap.size w wr∧Hid (∀ j,j < k→sameUs ((xs.map USQ.e).getD j []) ((ys.map USQ.e).getD j [])=true)) (fun i _=>xs.length - (intOf i).toNat)
  case atStart=>exact ⟨0,Nat.zero_le _,rfl,Below.refl _ _,fun j hj=>absurd hj (Nat.not_lt_zero _)⟩
  case round=>
   obtain ⟨k,hk,rfl,hb,HA⟩:=hrel
   by_cases hlt:k < xs.length
   ·have hlt' : k < ys.length:=by have:=HL.out;omega
    obtain ⟨b,off,rfl,hbs,hc,hrd⟩:=(h.below hb).cell (by decide) k hlt
    obtain ⟨b',off',rfl,hbs',hd2,hrd'⟩:=(h'.below hb).cell (by decide) k hlt'
    have c0:=us_cell hc
    have d0:=us_cell hd2
    have n1:=nm_le USQ.n xs k hlt
    have n2:=nm_le USQ.n ys k hlt'
    have HY:Hid (sameUs (USQ.e xs[k]) (USQ.e ys[k])=false→E=false):=fun hx=>by
     rw [← HE.out]
     exact same_bad (f:=sameUs) [] (fun _ _ _ _=>rfl) _ _ k HM.out (by simpa using hlt) (by rw [uss_get xs k hlt,uss_get ys k hlt'];exact hx)
    have HN:Hid (sameUs (USQ.e xs[k]) (USQ.e ys[k])=true→∀ j,j < k + 1→sameUs ((xs.map USQ.e).getD j []) ((ys.map USQ.e).getD j [])=true):=fun hx j hj=>by
     by_cases hjk:j=k
     ·subst hjk
      rw [uss_get xs j hlt,uss_get ys j hlt']
      exact hx
     ·exact HA.out j (by omega)
    clear HA hc hd2
    generalize xs[k]=p at *
    generalize ys[k]=q at *
    obtain ⟨pv,pu⟩:=p
    obtain ⟨qv,qu⟩:=q
    replace hrd:undoK.At wr pv pu:=hrd
    replace hrd' : undoK.At wr qv qu:=hrd'
    replace n1:pu.length≤nmL USQ.n xs:=n1
    replace n2:qu.length≤nmL USQ.n ys:=n2
    dsimp only [USQ.e] at c0 d0 HY HN
    obtain ⟨a1,k1,rfl⟩:=hrd.shape
    obtain ⟨b1,m1,rfl⟩:=hrd'.shape
    have hq:=fun w f1 f2=>implSameUndo_any a1 b1 k1 m1 pu qu w f1 f2 (by omega) (by omega)
    have g1:=(undoK_at hrd).2
    have g2:=(undoK_at hrd').2
    generalize sameUs pu qu=X at *
    clear n1 n2 hrd hrd'
    go_wp2_with fail
    refine (hq _ g1 g2).mono ?_
    rintro e w2 ⟨rfl,hb2⟩
    have hb3:=below_from hb hb2
    clear hb2 c0 d0 hq g1 g2
    cases X with
    | false=>
     have E1:Hid (E=false):=HY.out rfl
     clear HY HN HE
     go_wp2
     go_ret
     exact ⟨by rw [E1.out];rfl,hb3⟩
    | true=>
     have R:=HN.out rfl
     have HR:Hid _:=R
     clear HY HN R
     go_wp2
     go_roundw
     case rel=>exact ⟨k + 1,by omega,by go_num,hb3,HR.out⟩
     case measure=>simp [intOf];omega
   ·have E1:Hid (E=true):=by rw [← HE.out];exact same_all (f:=sameUs) [] rfl (fun _ _ _ _=>rfl) _ _ HM.out (fun j hj=>HA.out j (by simpa using (by simpa using hj:j < xs.length) |> fun h=>Nat.lt_of_lt_of_le h (by omega)))
    clear HA HE
    go_wp2
    go_ret
    exact ⟨by rw [E1.out];rfl,hb⟩

set_option maxHeartbeats 4000000 in
theorem l9SameUndos_any (v v' : Value) (xs ys:List USQ) (w:World) (h:ussK.At w v xs) (h' : ussK.At w v' ys) (hl:xs.length + nmL USQ.n xs≤1048576) (hl' : ys.length + nmL USQ.n ys≤1048576) :
  Calls Tryz.prog 161 #[v,v'] w fun e w' => e=.returned (.bool (sameUss (xs.map USQ.e) (ys.map USQ.e)))∧Below w.heap.size w w' := by
 obtain ⟨a,cap,rfl⟩:=h.shape
 obtain ⟨a',cap',rfl⟩:=h'.shape
 by_cases hlen:xs.length=ys.length
 case neg=>
  have E:sameUss (xs.map USQ.e) (ys.map USQ.e)=false:=same_len (f:=sameUs) rfl (fun _ _ _ _=>rfl) (fun _ _=>rfl) (fun _ _=>rfl) _ _ (by simpa using hlen)
  rw [E]
  have hd:((xs.length:Int) != (ys.length:Int))=true:=by simp;omega
  go_enter Tryz.func161,Tryz.ntmps161
  go_wp2
  go_ret
  exact ⟨rfl,Below.refl _ _⟩
 case pos=>
  have hd:((xs.length:Int) != (ys.length:Int))=false:=by simp [hlen]
  have HL:Hid (xs.length=ys.length):=hlen
  have HM:Hid ((xs.map USQ.e).length=(ys.map USQ.e).length):=show _=_ by simpa using hlen
  clear hlen
  generalize hE:sameUss (xs.map USQ.e) (ys.map USQ.e)=E
  have HE:Hid (sameUss (xs.map USQ.e) (ys.map USQ.e)=E):=hE
  clear hE
  go_enter Tryz.func161,Tryz.ntmps161
  go_wp2
  go_loopw [5] (fun i wr=>∃ k:Nat,k≤xs.length∧i=.int .i64 k∧Below w.heap.size w wr∧Hid (∀ j,j < k→sameUs ((xs.map USQ.e).getD j []) ((ys.map USQ.e).getD j [])=true)) (fun i _=>xs.length - (intOf i).toNat)
  case atStart=>exact ⟨0,Nat.zero_le _,rfl,Below.refl _ _,fun j hj=>absurd hj (Nat.not_lt_zero _)⟩
  case round=>
   obtain ⟨k,hk,rfl,hb,HA⟩:=hrel
   by_cases hlt:k < xs.length
   ·have hlt' : k < ys.length:=by have:=HL.out;omega
    obtain ⟨b,off,rfl,hbs,hc,hrd⟩:=(h.below hb).cell (by decide) k hlt
    obtain ⟨b',off',rfl,hbs',hd2,hrd'⟩:=(h'.below hb).cell (by decide) k hlt'
    have c0:=us_cell hc
    have d0:=us_cell hd2
    have n1:=nm_le USQ.n xs k hlt
    have n2:=nm_le USQ.n ys k hlt'
    have HY:Hid (sameUs (USQ.e xs[k]) (USQ.e ys[k])=false→E=false):=fun hx=>by
     rw [← HE.out]
     exact same_bad (f:=sameUs) [] (fun _ _ _ _=>rfl) _ _ k HM.out (by simpa using hlt) (by rw [uss_get xs k hlt,uss_get ys k hlt'];exact hx)
    have HN:Hid (sameUs (USQ.e xs[k]) (USQ.e ys[k])=true→∀ j,j < k + 1→sameUs ((xs.map USQ.e).getD j []) ((ys.map USQ.e).getD j [])=true):=fun hx j hj=>by
     by_cases hjk:j=k
     ·subst hjk
      rw [uss_get xs j hlt,uss_get ys j hlt']
      exact hx
     ·exact HA.out j (by omega)
    clear HA hc hd2
    generalize xs[k]=p at *
    generalize ys[k]=q at *
    obtain ⟨pv,pu⟩:=p
    obtain ⟨qv,qu⟩:=q
    replace hrd:undoK.At wr pv pu:=hrd
    replace hrd' : undoK.At wr qv qu:=hrd'
    replace n1:pu.length≤nmL USQ.n xs:=n1
    replace n2:qu.length≤nmL USQ.n ys:=n2
    dsimp only [USQ.e] at c0 d0 HY HN
    obtain ⟨a1,k1,rfl⟩:=hrd.shape
    obtain ⟨b1,m1,rfl⟩:=hrd'.shape
    have hq:=fun w f1 f2=>specSameUndo_any a1 b1 k1 m1 pu qu w f1 f2 (by omega) (by omega)
    have g1:=(undoK_at hrd).2
    have g2:=(undoK_at hrd').2
    generalize sameUs pu qu=X at *
    clear n1 n2 hrd hrd'
    have hlti:(k:Int) < (xs.length:Int):=by omega
    have hlti' : (k:Int) < (ys.length:Int):=by omega
    replace c0:=lat_cell c0
    replace d0:=lat_cell d0
    have hW:Below wr.heap.size wr wr.drew:=(Below.refl _ _).drew
    have hnn:Nonempty (Lat wr):=⟨⟨wr,Below.refl _ _⟩⟩
    go_wp2_with fail
    refine text_begin (S:=fun w' => ∃ u:Lat wr,w' = u.val) (by kernel_rfl) ?_
    refine seg_range [(0,8)] 2 (by kernel_rfl) (by kernel_rfl) (by kernel_rfl) (by kernel_rfl) (by kernel_rfl) ⟨⟨_,hW⟩,rfl⟩ ?_
    simp only [pickR,List.toList_toArray,List.flatMap_cons,List.flatMap_nil,List.drop_succ_cons,List.drop_zero,List.take_succ_cons,List.take_zero,List.cons_append,List.nil_append,List.append_nil]
    repeat go_big_quiet_step (fail)
    refine wpQuiet_nil ?_
    refine call_at 8 (some 25) 189 #[.slice a1 pu.length k1,.slice b1 qu.length m1] 1 (by kernel_rfl) (by kernel_rfl) (by kernel_rfl) (by kernel_rfl) (by kernel_rfl) ?_
    refine (hq _ (g1.below hW) (g2.below hW)).mono ?_
    rintro e w9 ⟨rfl,hb9⟩
    replace hW:=hW.trans (hb9.mono hW.size)
    clear hb9
    refine ⟨_,rfl,⟨⟨_,hW⟩,rfl⟩,?_⟩
    simp only [Act.put,List.setIfInBounds_toArray,List.set_cons_zero,List.set_cons_succ]
    refine seg_range [(9,1)] 0 (by kernel_rfl) (by kernel_rfl) (by kernel_rfl) (by kernel_rfl) (by kernel_rfl) ⟨⟨_,hW⟩,rfl⟩ ?_
    simp only [pickR,List.toList_toArray,List.flatMap_cons,List.flatMap_nil,List.drop_succ_cons,List.drop_zero,List.take_succ_cons,List.take_zero,List.cons_append,List.nil_append,List.append_nil]
    repeat go_big_quiet_step (fail)
    refine wpQuiet_nil ?_
    refine text_end (by kernel_rfl) ?_
    replace hb:=hb.trans (hW.mono hb.size)
    clear hW hnn hq g1 g2 c0 d0
    cases X with
    | false=>
     have E1:Hid (E=false):=HY.out rfl
     clear HY HN HE
     go_wp2
     go_ret
     exact ⟨by rw [E1.out];rfl,hb⟩
    | true=>
     have R:=HN.out rfl
     have HR:Hid _:=R
     clear HY HN R
     go_wp2
     go_roundw
     case rel=>exact ⟨k + 1,by omega,by go_num,hb,HR.out⟩
     case measure=>simp [intOf];omega
   ·have E1:Hid (E=true):=by rw [← HE.out];exact same_all (f:=sameUs) [] rfl (fun _ _ _ _=>rfl) _ _ HM.out (fun j hj=>HA.out j (by simpa using (by simpa using hj:j < xs.length) |> fun h=>Nat.lt_of_lt_of_le h (by omega)))
    clear HA HE
    go_wp2
    go_ret
    exact ⟨by rw [E1.out];rfl,hb⟩

end Go.Proofs.YtfdkcbafpiojkaaGreatDoor
namespace Go.Proofs.YtfdkcbafpiojkaaGreatDoor
open Go.RowKit
open Go.BigFrame
set_option maxRecDepth 100000
/-- All is the same. -/
def sameRep (x y:RepE):Bool:=sameTs x.done y.done && (sameIs x.base y.base && (sameTs x.tent y.tent && (sameUss x.undos y.undos && sameIs x.now y.now)))

set_option maxHeartbeats 4000000 in
theorem implSameReplicas_any (p q:RepQ) (w:World) (h:repK.rd w p) (h' : repK.rd w q) (hl:p.n≤1048576) (hl' : q.n≤1048576) :
  Calls Tryz.prog 38 #[.agg #[p.vd,p.vb,p.vt,p.vu,p.vn],.agg #[q.vd,q.vb,q.vt,q.vu,q.vn]] w fun e w' => e=.returned (.bool (sameRep p.e q.e))∧Below w.heap.size w w' := by
 obtain ⟨pvd,pd,pvb,pb,pvt,pt,pvu,pu,pvn,pn⟩:=p
 obtain ⟨p0,p5,rfl⟩:∃ a c,pvd=.slice a pd.length c:=h.1.shape
 obtain ⟨p1,p6,rfl⟩:∃ a c,pvb=.slice a pb.length c:=h.2.1.shape
 obtain ⟨p2,p7,rfl⟩:∃ a c,pvt=.slice a pt.length c:=h.2.2.1.shape
 obtain ⟨p3,p8,rfl⟩:∃ a c,pvu=.slice a pu.length c:=h.2.2.2.1.shape
 obtain ⟨p4,p9,rfl⟩:∃ a c,pvn=.slice a pn.length c:=h.2.2.2.2.shape
 obtain ⟨qvd,qd,qvb,qb,qvt,qt,qvu,qu,qvn,qn⟩:=q
 obtain ⟨q0,q5,rfl⟩:∃ a c,qvd=.slice a qd.length c:=h'.1.shape
 obtain ⟨q1,q6,rfl⟩:∃ a c,qvb=.slice a qb.length c:=h'.2.1.shape
 obtain ⟨q2,q7,rfl⟩:∃ a c,qvt=.slice a qt.length c:=h'.2.2.1.shape
 obtain ⟨q3,q8,rfl⟩:∃ a c,qvu=.slice a qu.length c:=h'.2.2.2.1.shape
 obtain ⟨q4,q9,rfl⟩:∃ a c,qvn=.slice a qn.length c:=h'.2.2.2.2.shape
 dsimp only [RepQ.n] at hl hl'
 have c0:=fun w h h' => implSameTxns_any (.slice p0 pd.length p5) (.slice q0 qd.length q5) (pd.map TxnQ.e) (qd.map TxnQ.e) w (txnsAt_of' h) (txnsAt_of' h') (by rw [List.length_map,sumA_of'];omega) (by rw [List.length_map,sumA_of'];omega)
 have c1:=fun w h h' => implSameItems_any p1 q1 p6 q6 pb qb w h h' (by omega) (by omega)
 have c2:=fun w h h' => implSameTxns_any (.slice p2 pt.length p7) (.slice q2 qt.length q7) (pt.map TxnQ.e) (qt.map TxnQ.e) w (txnsAt_of' h) (txnsAt_of' h') (by rw [List.length_map,sumA_of'];omega) (by rw [List.length_map,sumA_of'];omega)
 have c3:=fun w h h' => equalUss_any (.slice p3 pu.length p8) (.slice q3 qu.length q8) pu qu w h h' (by omega) (by omega)
 have c4:=fun w h h' => implSameItems_any p4 q4 p9 q9 pn qn w h h' (by omega) (by omega)
 obtain ⟨r0,r1,r2,r3,r4⟩:txnK.At w (.slice p0 pd.length p5) pd∧itemK.At w (.slice p1 pb.length p6) pb∧txnK.At w (.slice p2 pt.length p7) pt∧ussK.At w (.slice p3 pu.length p8) pu∧itemK.At w (.slice p4 pn.length p9) pn:=h
 obtain ⟨s0,s1,s2,s3,s4⟩:txnK.At w (.slice q0 qd.length q5) qd∧itemK.At w (.slice q1 qb.length q6) qb∧txnK.At w (.slice q2 qt.length q7) qt∧ussK.At w (.slice q3 qu.length q8) qu∧itemK.At w (.slice q4 qn.length q9) qn:=h'
 replace r1:=(itemK_at r1).2
 replace r4:=(itemK_at r4).2
 replace s1:=(itemK_at s1).2
 replace s4:=(itemK_at s4).2
 have E:Hid (sameRep ⟨pd.map TxnQ.e,pb,pt.map TxnQ.e,pu.map USQ.e,pn⟩ ⟨qd.map TxnQ.e,qb,qt.map TxnQ.e,qu.map USQ.e,qn⟩=(sameTs (pd.map TxnQ.e) (qd.map TxnQ.e) && (sameIs pb qb && (sameTs (pt.map TxnQ.e) (qt.map TxnQ.e) && (sameUss (pu.map USQ.e) (qu.map USQ.e) && sameIs pn qn))))):=show _=_ from rfl
 dsimp only [RepQ.e]
 generalize sameTs (pd.map TxnQ.e) (qd.map TxnQ.e)=X0 at *
 generalize sameIs pb qb=X1 at *
 generalize sameTs (pt.map TxnQ.e) (qt.map TxnQ.e)=X2 at *
 generalize sameUss (pu.map USQ.e) (qu.map USQ.e)=X3 at *
 generalize sameIs pn qn=X4 at *
 generalize sameRep ⟨pd.map TxnQ.e,pb,pt.map TxnQ.e,pu.map USQ.e,pn⟩ ⟨qd.map TxnQ.e,qb,qt.map TxnQ.e,qu.map USQ.e,qn⟩=S at *
 have B:=(Blk.new w 32 #[.slice p0 pd.length p5,.slice p1 pb.length p6,.slice p2 pt.length p7,.slice p3 pu.length p8,.slice p4 pn.length p9]).below (w' := ((w.alloc (.cells #[.slice p0 pd.length p5,.slice p1 pb.length p6,.slice p2 pt.length p7,.slice p3 pu.length p8,.slice p4 pn.length p9] 32)).alloc (.cells #[.slice q0 qd.length q5,.slice q1 qb.length q6,.slice q2 qt.length q7,.slice q3 qu.length q8,.slice q4 qn.length q9] 32))) (by go_grown)
 have B' := Blk.new (w.alloc (.cells #[.slice p0 pd.length p5,.slice p1 pb.length p6,.slice p2 pt.length p7,.slice p3 pu.length p8,.slice p4 pn.length p9] 32)) 32 #[.slice q0 qd.length q5,.slice q1 qb.length q6,.slice q2 qt.length q7,.slice q3 qu.length q8,.slice q4 qn.length q9]
 have hB:Below w.heap.size w ((w.alloc (.cells #[.slice p0 pd.length p5,.slice p1 pb.length p6,.slice p2 pt.length p7,.slice p3 pu.length p8,.slice p4 pn.length p9] 32)).alloc (.cells #[.slice q0 qd.length q5,.slice q1 qb.length q6,.slice q2 qt.length q7,.slice q3 qu.length q8,.slice q4 qn.length q9] 32)):=by go_grown
 rw [World.size_alloc] at B'
 go_enter Tryz.func38,Tryz.ntmps38
 have f0:=B.cell 0 _ rfl
 have g0:=B'.cell 0 _ rfl
 go_wp2_with fail
 clear f0 g0
 generalize ((w.alloc (.cells #[.slice p0 pd.length p5,.slice p1 pb.length p6,.slice p2 pt.length p7,.slice p3 pu.length p8,.slice p4 pn.length p9] 32)).alloc (.cells #[.slice q0 qd.length q5,.slice q1 qb.length q6,.slice q2 qt.length q7,.slice q3 qu.length q8,.slice q4 qn.length q9] 32))=W at *
 refine (c0 W (r0.below hB) (s0.below hB)).mono ?_
 rintro e w0 ⟨rfl,hb⟩
 replace B:=B.below hb
 replace B' := B'.below hb
 replace hB:=hB.trans (hb.mono hB.size)
 clear hb
 cases X0 with
 | false=>
  go_wp2
  go_ret
  exact ⟨by rw [E.out];rfl,hB⟩
 | true=>
  have f1:=B.cell 1 _ rfl
  have g1:=B'.cell 1 _ rfl
  go_wp2_with fail
  clear f1 g1
  refine (c1 w0 (r1.below hB) (s1.below hB)).mono ?_
  rintro e w1 ⟨rfl,hb⟩
  replace B:=B.below hb
  replace B' := B'.below hb
  replace hB:=hB.trans (hb.mono hB.size)
  clear hb
  cases X1 with
  | false=>
   go_wp2
   go_ret
   exact ⟨by rw [E.out];rfl,hB⟩
  | true=>
   have f2:=B.cell 2 _ rfl
   have g2:=B'.cell 2 _ rfl
   go_wp2_with fail
   clear f2 g2
   refine (c2 w1 (r2.below hB) (s2.below hB)).mono ?_
   rintro e w2 ⟨rfl,hb⟩
   replace B:=B.below hb
   replace B' := B'.below hb
   replace hB:=hB.trans (hb.mono hB.size)
   clear hb
   cases X2 with
   | false=>
    go_wp2
    go_ret
    exact ⟨by rw [E.out];rfl,hB⟩
   | true=>
    have f3:=B.cell 3 _ rfl
    have g3:=B'.cell 3 _ rfl
    go_wp2_with fail
    clear f3 g3
    refine (c3 w2 (r3.below hB) (s3.below hB)).mono ?_
    rintro e w3 ⟨rfl,hb⟩
    replace B:=B.below hb
    replace B' := B'.below hb
    replace hB:=hB.trans (hb.mono hB.size)
    clear hb
    cases X3 with
    | false=>
     go_wp2
     go_ret
     exact ⟨by rw [E.out];rfl,hB⟩
    | true=>
     have f4:=B.cell 4 _ rfl
     have g4:=B'.cell 4 _ rfl
     go_wp2_with fail
     clear f4 g4
     refine (c4 w3 (r4.below hB) (s4.below hB)).mono ?_
     rintro e w4 ⟨rfl,hb⟩
     replace B:=B.below hb
     replace B' := B'.below hb
     replace hB:=hB.trans (hb.mono hB.size)
     clear hb
     go_wp2
     go_ret
     exact ⟨by rw [E.out];rfl,hB⟩

set_option maxHeartbeats 4000000 in
theorem l9Same_any (b b' : Nat) (p q:RepQ) (w:World) (hP:Blk w b 32 #[p.vd,p.vb,p.vt,p.vu,p.vn]) (hQ:Blk w b' 32 #[q.vd,q.vb,q.vt,q.vu,q.vn]) (h:repK.rd w p) (h' : repK.rd w q) (hl:p.n≤1048576) (hl' : q.n≤1048576) :
  Calls Tryz.prog 111 #[.pointer (some ⟨b,0,none⟩),.pointer (some ⟨b',0,none⟩)] w fun e w' => e=.returned (.bool (sameRep p.e q.e))∧Below w.heap.size w w' := by
 obtain ⟨pvd,pd,pvb,pb,pvt,pt,pvu,pu,pvn,pn⟩:=p
 obtain ⟨p0,p5,rfl⟩:∃ a c,pvd=.slice a pd.length c:=h.1.shape
 obtain ⟨p1,p6,rfl⟩:∃ a c,pvb=.slice a pb.length c:=h.2.1.shape
 obtain ⟨p2,p7,rfl⟩:∃ a c,pvt=.slice a pt.length c:=h.2.2.1.shape
 obtain ⟨p3,p8,rfl⟩:∃ a c,pvu=.slice a pu.length c:=h.2.2.2.1.shape
 obtain ⟨p4,p9,rfl⟩:∃ a c,pvn=.slice a pn.length c:=h.2.2.2.2.shape
 obtain ⟨qvd,qd,qvb,qb,qvt,qt,qvu,qu,qvn,qn⟩:=q
 obtain ⟨q0,q5,rfl⟩:∃ a c,qvd=.slice a qd.length c:=h'.1.shape
 obtain ⟨q1,q6,rfl⟩:∃ a c,qvb=.slice a qb.length c:=h'.2.1.shape
 obtain ⟨q2,q7,rfl⟩:∃ a c,qvt=.slice a qt.length c:=h'.2.2.1.shape
 obtain ⟨q3,q8,rfl⟩:∃ a c,qvu=.slice a qu.length c:=h'.2.2.2.1.shape
 obtain ⟨q4,q9,rfl⟩:∃ a c,qvn=.slice a qn.length c:=h'.2.2.2.2.shape
 dsimp only [RepQ.n] at hl hl'
 have c0:=fun w h h' => specSameTxns_any (.slice p0 pd.length p5) (.slice q0 qd.length q5) (pd.map TxnQ.e) (qd.map TxnQ.e) w (txnsAt_of' h) (txnsAt_of' h') (by rw [List.length_map,sumA_of'];omega) (by rw [List.length_map,sumA_of'];omega)
 have c1:=fun w h h' => specSameItems_any p1 q1 p6 q6 pb qb w h h' (by omega) (by omega)
 have c2:=fun w h h' => specSameTxns_any (.slice p2 pt.length p7) (.slice q2 qt.length q7) (pt.map TxnQ.e) (qt.map TxnQ.e) w (txnsAt_of' h) (txnsAt_of' h') (by rw [List.length_map,sumA_of'];omega) (by rw [List.length_map,sumA_of'];omega)
 have c3:=fun w h h' => l9SameUndos_any (.slice p3 pu.length p8) (.slice q3 qu.length q8) pu qu w h h' (by omega) (by omega)
 have c4:=fun w h h' => specSameItems_any p4 q4 p9 q9 pn qn w h h' (by omega) (by omega)
 obtain ⟨r0,r1,r2,r3,r4⟩:txnK.At w (.slice p0 pd.length p5) pd∧itemK.At w (.slice p1 pb.length p6) pb∧txnK.At w (.slice p2 pt.length p7) pt∧ussK.At w (.slice p3 pu.length p8) pu∧itemK.At w (.slice p4 pn.length p9) pn:=h
 obtain ⟨s0,s1,s2,s3,s4⟩:txnK.At w (.slice q0 qd.length q5) qd∧itemK.At w (.slice q1 qb.length q6) qb∧txnK.At w (.slice q2 qt.length q7) qt∧ussK.At w (.slice q3 qu.length q8) qu∧itemK.At w (.slice q4 qn.length q9) qn:=h'
 replace r1:=(itemK_at r1).2
 replace r4:=(itemK_at r4).2
 replace s1:=(itemK_at s1).2
 replace s4:=(itemK_at s4).2
 have E:Hid (sameRep ⟨pd.map TxnQ.e,pb,pt.map TxnQ.e,pu.map USQ.e,pn⟩ ⟨qd.map TxnQ.e,qb,qt.map TxnQ.e,qu.map USQ.e,qn⟩=(sameTs (pd.map TxnQ.e) (qd.map TxnQ.e) && (sameIs pb qb && (sameTs (pt.map TxnQ.e) (qt.map TxnQ.e) && (sameUss (pu.map USQ.e) (qu.map USQ.e) && sameIs pn qn))))):=show _=_ from rfl
 dsimp only [RepQ.e]
 generalize sameTs (pd.map TxnQ.e) (qd.map TxnQ.e)=X0 at *
 generalize sameIs pb qb=X1 at *
 generalize sameTs (pt.map TxnQ.e) (qt.map TxnQ.e)=X2 at *
 generalize sameUss (pu.map USQ.e) (qu.map USQ.e)=X3 at *
 generalize sameIs pn qn=X4 at *
 generalize sameRep ⟨pd.map TxnQ.e,pb,pt.map TxnQ.e,pu.map USQ.e,pn⟩ ⟨qd.map TxnQ.e,qb,qt.map TxnQ.e,qu.map USQ.e,qn⟩=S at *
 have f0:=hP.lat 0 _ rfl
 have g0:=hQ.lat 0 _ rfl
 have f1:=hP.lat 1 _ rfl
 have g1:=hQ.lat 1 _ rfl
 have f2:=hP.lat 2 _ rfl
 have g2:=hQ.lat 2 _ rfl
 have f3:=hP.lat 3 _ rfl
 have g3:=hQ.lat 3 _ rfl
 have f4:=hP.lat 4 _ rfl
 have g4:=hQ.lat 4 _ rfl
 have hW:Below w.heap.size w w.drew:=(Below.refl _ _).drew
 have hnn:Nonempty (Lat w):=⟨⟨w,Below.refl _ _⟩⟩
 go_enter Tryz.func111,Tryz.ntmps111
 go_wp2_with fail
 refine text_begin (S:=fun w' => ∃ u:Lat w,w' = u.val) (by kernel_rfl) ?_
 cases X0 with
 | false=>
  refine seg_range [(0,8)] 46 (by kernel_rfl) (by kernel_rfl) (by kernel_rfl) (by kernel_rfl) (by kernel_rfl) ⟨⟨_,hW⟩,rfl⟩ ?_
  simp only [pickR,List.toList_toArray,List.flatMap_cons,List.flatMap_nil,List.drop_succ_cons,List.drop_zero,List.take_succ_cons,List.take_zero,List.cons_append,List.nil_append,List.append_nil]
  repeat go_big_quiet_step (fail)
  refine wpQuiet_nil ?_
  refine call_at 8 (some 13) 159 #[.slice p0 pd.length p5,.slice q0 qd.length q5] 45 (by kernel_rfl) (by kernel_rfl) (by kernel_rfl) (by kernel_rfl) (by kernel_rfl) ?_
  refine (c0 _ (r0.below hW) (s0.below hW)).mono ?_
  rintro e w9 ⟨rfl,hb9⟩
  replace hW:=hW.trans (hb9.mono hW.size)
  clear hb9
  refine ⟨_,rfl,⟨⟨_,hW⟩,rfl⟩,?_⟩
  simp only [Act.put,List.setIfInBounds_toArray,List.set_cons_zero,List.set_cons_succ]
  refine seg_range [(9,9)] 36 (by kernel_rfl) (by kernel_rfl) (by kernel_rfl) (by kernel_rfl) (by kernel_rfl) ⟨⟨_,hW⟩,rfl⟩ ?_
  simp only [pickR,List.toList_toArray,List.flatMap_cons,List.flatMap_nil,List.drop_succ_cons,List.drop_zero,List.take_succ_cons,List.take_zero,List.cons_append,List.nil_append,List.append_nil]
  repeat go_big_quiet_step (fail)
  refine wpQuiet_nil ?_
  refine skip_at 18 (some 23) 35 (by kernel_rfl) (by kernel_rfl) (by kernel_rfl) (by kernel_rfl) (by kernel_rfl) ⟨⟨_,hW⟩,rfl⟩ ?_
  simp only [Act.put,List.setIfInBounds_toArray,List.set_cons_zero,List.set_cons_succ]
  refine seg_range [(19,10)] 25 (by kernel_rfl) (by kernel_rfl) (by kernel_rfl) (by kernel_rfl) (by kernel_rfl) ⟨⟨_,hW⟩,rfl⟩ ?_
  simp only [pickR,List.toList_toArray,List.flatMap_cons,List.flatMap_nil,List.drop_succ_cons,List.drop_zero,List.take_succ_cons,List.take_zero,List.cons_append,List.nil_append,List.append_nil]
  repeat go_big_quiet_step (fail)
  refine wpQuiet_nil ?_
  refine skip_at 29 (some 34) 24 (by kernel_rfl) (by kernel_rfl) (by kernel_rfl) (by kernel_rfl) (by kernel_rfl) ⟨⟨_,hW⟩,rfl⟩ ?_
  simp only [Act.put,List.setIfInBounds_toArray,List.set_cons_zero,List.set_cons_succ]
  refine seg_range [(30,10)] 14 (by kernel_rfl) (by kernel_rfl) (by kernel_rfl) (by kernel_rfl) (by kernel_rfl) ⟨⟨_,hW⟩,rfl⟩ ?_
  simp only [pickR,List.toList_toArray,List.flatMap_cons,List.flatMap_nil,List.drop_succ_cons,List.drop_zero,List.take_succ_cons,List.take_zero,List.cons_append,List.nil_append,List.append_nil]
  repeat go_big_quiet_step (fail)
  refine wpQuiet_nil ?_
  refine skip_at 40 (some 45) 13 (by kernel_rfl) (by kernel_rfl) (by kernel_rfl) (by kernel_rfl) (by kernel_rfl) ⟨⟨_,hW⟩,rfl⟩ ?_
  simp only [Act.put,List.setIfInBounds_toArray,List.set_cons_zero,List.set_cons_succ]
  refine seg_range [(41,10)] 3 (by kernel_rfl) (by kernel_rfl) (by kernel_rfl) (by kernel_rfl) (by kernel_rfl) ⟨⟨_,hW⟩,rfl⟩ ?_
  simp only [pickR,List.toList_toArray,List.flatMap_cons,List.flatMap_nil,List.drop_succ_cons,List.drop_zero,List.take_succ_cons,List.take_zero,List.cons_append,List.nil_append,List.append_nil]
  repeat go_big_quiet_step (fail)
  refine wpQuiet_nil ?_
  refine skip_at 51 (some 56) 2 (by kernel_rfl) (by kernel_rfl) (by kernel_rfl) (by kernel_rfl) (by kernel_rfl) ⟨⟨_,hW⟩,rfl⟩ ?_
  simp only [Act.put,List.setIfInBounds_toArray,List.set_cons_zero,List.set_cons_succ]
  refine seg_range [(52,2)] 0 (by kernel_rfl) (by kernel_rfl) (by kernel_rfl) (by kernel_rfl) (by kernel_rfl) ⟨⟨_,hW⟩,rfl⟩ ?_
  simp only [pickR,List.toList_toArray,List.flatMap_cons,List.flatMap_nil,List.drop_succ_cons,List.drop_zero,List.take_succ_cons,List.take_zero,List.cons_append,List.nil_append,List.append_nil]
  repeat go_big_quiet_step (fail)
  refine wpQuiet_nil ?_
  refine text_end (by kernel_rfl) ?_
  go_wp2
  go_ret
  exact ⟨by rw [E.out];simp,hW⟩
 | true=>
  cases X2 with
  | false=>
   refine seg_range [(0,8)] 46 (by kernel_rfl) (by kernel_rfl) (by kernel_rfl) (by kernel_rfl) (by kernel_rfl) ⟨⟨_,hW⟩,rfl⟩ ?_
   simp only [pickR,List.toList_toArray,List.flatMap_cons,List.flatMap_nil,List.drop_succ_cons,List.drop_zero,List.take_succ_cons,List.take_zero,List.cons_append,List.nil_append,List.append_nil]
   repeat go_big_quiet_step (fail)
   refine wpQuiet_nil ?_
   refine call_at 8 (some 13) 159 #[.slice p0 pd.length p5,.slice q0 qd.length q5] 45 (by kernel_rfl) (by kernel_rfl) (by kernel_rfl) (by kernel_rfl) (by kernel_rfl) ?_
   refine (c0 _ (r0.below hW) (s0.below hW)).mono ?_
   rintro e w9 ⟨rfl,hb9⟩
   replace hW:=hW.trans (hb9.mono hW.size)
   clear hb9
   refine ⟨_,rfl,⟨⟨_,hW⟩,rfl⟩,?_⟩
   simp only [Act.put,List.setIfInBounds_toArray,List.set_cons_zero,List.set_cons_succ]
   refine seg_range [(9,9)] 36 (by kernel_rfl) (by kernel_rfl) (by kernel_rfl) (by kernel_rfl) (by kernel_rfl) ⟨⟨_,hW⟩,rfl⟩ ?_
   simp only [pickR,List.toList_toArray,List.flatMap_cons,List.flatMap_nil,List.drop_succ_cons,List.drop_zero,List.take_succ_cons,List.take_zero,List.cons_append,List.nil_append,List.append_nil]
   repeat go_big_quiet_step (fail)
   refine wpQuiet_nil ?_
   refine call_at 18 (some 23) 159 #[.slice p2 pt.length p7,.slice q2 qt.length q7] 35 (by kernel_rfl) (by kernel_rfl) (by kernel_rfl) (by kernel_rfl) (by kernel_rfl) ?_
   refine (c2 _ (r2.below hW) (s2.below hW)).mono ?_
   rintro e w9 ⟨rfl,hb9⟩
   replace hW:=hW.trans (hb9.mono hW.size)
   clear hb9
   refine ⟨_,rfl,⟨⟨_,hW⟩,rfl⟩,?_⟩
   simp only [Act.put,List.setIfInBounds_toArray,List.set_cons_zero,List.set_cons_succ]
   refine seg_range [(19,10)] 25 (by kernel_rfl) (by kernel_rfl) (by kernel_rfl) (by kernel_rfl) (by kernel_rfl) ⟨⟨_,hW⟩,rfl⟩ ?_
   simp only [pickR,List.toList_toArray,List.flatMap_cons,List.flatMap_nil,List.drop_succ_cons,List.drop_zero,List.take_succ_cons,List.take_zero,List.cons_append,List.nil_append,List.append_nil]
   repeat go_big_quiet_step (fail)
   refine wpQuiet_nil ?_
   refine skip_at 29 (some 34) 24 (by kernel_rfl) (by kernel_rfl) (by kernel_rfl) (by kernel_rfl) (by kernel_rfl) ⟨⟨_,hW⟩,rfl⟩ ?_
   simp only [Act.put,List.setIfInBounds_toArray,List.set_cons_zero,List.set_cons_succ]
   refine seg_range [(30,10)] 14 (by kernel_rfl) (by kernel_rfl) (by kernel_rfl) (by kernel_rfl) (by kernel_rfl) ⟨⟨_,hW⟩,rfl⟩ ?_
   simp only [pickR,List.toList_toArray,List.flatMap_cons,List.flatMap_nil,List.drop_succ_cons,List.drop_zero,List.take_succ_cons,List.take_zero,List.cons_append,List.nil_append,List.append_nil]
   repeat go_big_quiet_step (fail)
   refine wpQuiet_nil ?_
   refine skip_at 40 (some 45) 13 (by kernel_rfl) (by kernel_rfl) (by kernel_rfl) (by kernel_rfl) (by kernel_rfl) ⟨⟨_,hW⟩,rfl⟩ ?_
   simp only [Act.put,List.setIfInBounds_toArray,List.set_cons_zero,List.set_cons_succ]
   refine seg_range [(41,10)] 3 (by kernel_rfl) (by kernel_rfl) (by kernel_rfl) (by kernel_rfl) (by kernel_rfl) ⟨⟨_,hW⟩,rfl⟩ ?_
   simp only [pickR,List.toList_toArray,List.flatMap_cons,List.flatMap_nil,List.drop_succ_cons,List.drop_zero,List.take_succ_cons,List.take_zero,List.cons_append,List.nil_append,List.append_nil]
   repeat go_big_quiet_step (fail)
   refine wpQuiet_nil ?_
   refine skip_at 51 (some 56) 2 (by kernel_rfl) (by kernel_rfl) (by kernel_rfl) (by kernel_rfl) (by kernel_rfl) ⟨⟨_,hW⟩,rfl⟩ ?_
   simp only [Act.put,List.setIfInBounds_toArray,List.set_cons_zero,List.set_cons_succ]
   refine seg_range [(52,2)] 0 (by kernel_rfl) (by kernel_rfl) (by kernel_rfl) (by kernel_rfl) (by kernel_rfl) ⟨⟨_,hW⟩,rfl⟩ ?_
   simp only [pickR,List.toList_toArray,List.flatMap_cons,List.flatMap_nil,List.drop_succ_cons,List.drop_zero,List.take_succ_cons,List.take_zero,List.cons_append,List.nil_append,List.append_nil]
   repeat go_big_quiet_step (fail)
   refine wpQuiet_nil ?_
   refine text_end (by kernel_rfl) ?_
   go_wp2
   go_ret
   exact ⟨by rw [E.out];simp,hW⟩
  | true=>
   cases X1 with
   | false=>
    refine seg_range [(0,8)] 46 (by kernel_rfl) (by kernel_rfl) (by kernel_rfl) (by kernel_rfl) (by kernel_rfl) ⟨⟨_,hW⟩,rfl⟩ ?_
    simp only [pickR,List.toList_toArray,List.flatMap_cons,List.flatMap_nil,List.drop_succ_cons,List.drop_zero,List.take_succ_cons,List.take_zero,List.cons_append,List.nil_append,List.append_nil]
    repeat go_big_quiet_step (fail)
    refine wpQuiet_nil ?_
    refine call_at 8 (some 13) 159 #[.slice p0 pd.length p5,.slice q0 qd.length q5] 45 (by kernel_rfl) (by kernel_rfl) (by kernel_rfl) (by kernel_rfl) (by kernel_rfl) ?_
    refine (c0 _ (r0.below hW) (s0.below hW)).mono ?_
    rintro e w9 ⟨rfl,hb9⟩
    replace hW:=hW.trans (hb9.mono hW.size)
    clear hb9
    refine ⟨_,rfl,⟨⟨_,hW⟩,rfl⟩,?_⟩
    simp only [Act.put,List.setIfInBounds_toArray,List.set_cons_zero,List.set_cons_succ]
    refine seg_range [(9,9)] 36 (by kernel_rfl) (by kernel_rfl) (by kernel_rfl) (by kernel_rfl) (by kernel_rfl) ⟨⟨_,hW⟩,rfl⟩ ?_
    simp only [pickR,List.toList_toArray,List.flatMap_cons,List.flatMap_nil,List.drop_succ_cons,List.drop_zero,List.take_succ_cons,List.take_zero,List.cons_append,List.nil_append,List.append_nil]
    repeat go_big_quiet_step (fail)
    refine wpQuiet_nil ?_
    refine call_at 18 (some 23) 159 #[.slice p2 pt.length p7,.slice q2 qt.length q7] 35 (by kernel_rfl) (by kernel_rfl) (by kernel_rfl) (by kernel_rfl) (by kernel_rfl) ?_
    refine (c2 _ (r2.below hW) (s2.below hW)).mono ?_
    rintro e w9 ⟨rfl,hb9⟩
    replace hW:=hW.trans (hb9.mono hW.size)
    clear hb9
    refine ⟨_,rfl,⟨⟨_,hW⟩,rfl⟩,?_⟩
    simp only [Act.put,List.setIfInBounds_toArray,List.set_cons_zero,List.set_cons_succ]
    refine seg_range [(19,10)] 25 (by kernel_rfl) (by kernel_rfl) (by kernel_rfl) (by kernel_rfl) (by kernel_rfl) ⟨⟨_,hW⟩,rfl⟩ ?_
    simp only [pickR,List.toList_toArray,List.flatMap_cons,List.flatMap_nil,List.drop_succ_cons,List.drop_zero,List.take_succ_cons,List.take_zero,List.cons_append,List.nil_append,List.append_nil]
    repeat go_big_quiet_step (fail)
    refine wpQuiet_nil ?_
    refine call_at 29 (some 34) 160 #[.slice p1 pb.length p6,.slice q1 qb.length q6] 24 (by kernel_rfl) (by kernel_rfl) (by kernel_rfl) (by kernel_rfl) (by kernel_rfl) ?_
    refine (c1 _ (r1.below hW) (s1.below hW)).mono ?_
    rintro e w9 ⟨rfl,hb9⟩
    replace hW:=hW.trans (hb9.mono hW.size)
    clear hb9
    refine ⟨_,rfl,⟨⟨_,hW⟩,rfl⟩,?_⟩
    simp only [Act.put,List.setIfInBounds_toArray,List.set_cons_zero,List.set_cons_succ]
    refine seg_range [(30,10)] 14 (by kernel_rfl) (by kernel_rfl) (by kernel_rfl) (by kernel_rfl) (by kernel_rfl) ⟨⟨_,hW⟩,rfl⟩ ?_
    simp only [pickR,List.toList_toArray,List.flatMap_cons,List.flatMap_nil,List.drop_succ_cons,List.drop_zero,List.take_succ_cons,List.take_zero,List.cons_append,List.nil_append,List.append_nil]
    repeat go_big_quiet_step (fail)
    refine wpQuiet_nil ?_
    refine skip_at 40 (some 45) 13 (by kernel_rfl) (by kernel_rfl) (by kernel_rfl) (by kernel_rfl) (by kernel_rfl) ⟨⟨_,hW⟩,rfl⟩ ?_
    simp only [Act.put,List.setIfInBounds_toArray,List.set_cons_zero,List.set_cons_succ]
    refine seg_range [(41,10)] 3 (by kernel_rfl) (by kernel_rfl) (by kernel_rfl) (by kernel_rfl) (by kernel_rfl) ⟨⟨_,hW⟩,rfl⟩ ?_
    simp only [pickR,List.toList_toArray,List.flatMap_cons,List.flatMap_nil,List.drop_succ_cons,List.drop_zero,List.take_succ_cons,List.take_zero,List.cons_append,List.nil_append,List.append_nil]
    repeat go_big_quiet_step (fail)
    refine wpQuiet_nil ?_
    refine skip_at 51 (some 56) 2 (by kernel_rfl) (by kernel_rfl) (by kernel_rfl) (by kernel_rfl) (by kernel_rfl) ⟨⟨_,hW⟩,rfl⟩ ?_
    simp only [Act.put,List.setIfInBounds_toArray,List.set_cons_zero,List.set_cons_succ]
    refine seg_range [(52,2)] 0 (by kernel_rfl) (by kernel_rfl) (by kernel_rfl) (by kernel_rfl) (by kernel_rfl) ⟨⟨_,hW⟩,rfl⟩ ?_
    simp only [pickR,List.toList_toArray,List.flatMap_cons,List.flatMap_nil,List.drop_succ_cons,List.drop_zero,List.take_succ_cons,List.take_zero,List.cons_append,List.nil_append,List.append_nil]
    repeat go_big_quiet_step (fail)
    refine wpQuiet_nil ?_
    refine text_end (by kernel_rfl) ?_
    go_wp2
    go_ret
    exact ⟨by rw [E.out];simp,hW⟩
   | true=>
    cases X4 with
    | false=>
     refine seg_range [(0,8)] 46 (by kernel_rfl) (by kernel_rfl) (by kernel_rfl) (by kernel_rfl) (by kernel_rfl) ⟨⟨_,hW⟩,rfl⟩ ?_
     simp only [pickR,List.toList_toArray,List.flatMap_cons,List.flatMap_nil,List.drop_succ_cons,List.drop_zero,List.take_succ_cons,List.take_zero,List.cons_append,List.nil_append,List.append_nil]
     repeat go_big_quiet_step (fail)
     refine wpQuiet_nil ?_
     refine call_at 8 (some 13) 159 #[.slice p0 pd.length p5,.slice q0 qd.length q5] 45 (by kernel_rfl) (by kernel_rfl) (by kernel_rfl) (by kernel_rfl) (by kernel_rfl) ?_
     refine (c0 _ (r0.below hW) (s0.below hW)).mono ?_
     rintro e w9 ⟨rfl,hb9⟩
     replace hW:=hW.trans (hb9.mono hW.size)
     clear hb9
     refine ⟨_,rfl,⟨⟨_,hW⟩,rfl⟩,?_⟩
     simp only [Act.put,List.setIfInBounds_toArray,List.set_cons_zero,List.set_cons_succ]
     refine seg_range [(9,9)] 36 (by kernel_rfl) (by kernel_rfl) (by kernel_rfl) (by kernel_rfl) (by kernel_rfl) ⟨⟨_,hW⟩,rfl⟩ ?_
     simp only [pickR,List.toList_toArray,List.flatMap_cons,List.flatMap_nil,List.drop_succ_cons,List.drop_zero,List.take_succ_cons,List.take_zero,List.cons_append,List.nil_append,List.append_nil]
     repeat go_big_quiet_step (fail)
     refine wpQuiet_nil ?_
     refine call_at 18 (some 23) 159 #[.slice p2 pt.length p7,.slice q2 qt.length q7] 35 (by kernel_rfl) (by kernel_rfl) (by kernel_rfl) (by kernel_rfl) (by kernel_rfl) ?_
     refine (c2 _ (r2.below hW) (s2.below hW)).mono ?_
     rintro e w9 ⟨rfl,hb9⟩
     replace hW:=hW.trans (hb9.mono hW.size)
     clear hb9
     refine ⟨_,rfl,⟨⟨_,hW⟩,rfl⟩,?_⟩
     simp only [Act.put,List.setIfInBounds_toArray,List.set_cons_zero,List.set_cons_succ]
     refine seg_range [(19,10)] 25 (by kernel_rfl) (by kernel_rfl) (by kernel_rfl) (by kernel_rfl) (by kernel_rfl) ⟨⟨_,hW⟩,rfl⟩ ?_
     simp only [pickR,List.toList_toArray,List.flatMap_cons,List.flatMap_nil,List.drop_succ_cons,List.drop_zero,List.take_succ_cons,List.take_zero,List.cons_append,List.nil_append,List.append_nil]
     repeat go_big_quiet_step (fail)
     refine wpQuiet_nil ?_
     refine call_at 29 (some 34) 160 #[.slice p1 pb.length p6,.slice q1 qb.length q6] 24 (by kernel_rfl) (by kernel_rfl) (by kernel_rfl) (by kernel_rfl) (by kernel_rfl) ?_
     refine (c1 _ (r1.below hW) (s1.below hW)).mono ?_
     rintro e w9 ⟨rfl,hb9⟩
     replace hW:=hW.trans (hb9.mono hW.size)
     clear hb9
     refine ⟨_,rfl,⟨⟨_,hW⟩,rfl⟩,?_⟩
     simp only [Act.put,List.setIfInBounds_toArray,List.set_cons_zero,List.set_cons_succ]
     refine seg_range [(30,10)] 14 (by kernel_rfl) (by kernel_rfl) (by kernel_rfl) (by kernel_rfl) (by kernel_rfl) ⟨⟨_,hW⟩,rfl⟩ ?_
     simp only [pickR,List.toList_toArray,List.flatMap_cons,List.flatMap_nil,List.drop_succ_cons,List.drop_zero,List.take_succ_cons,List.take_zero,List.cons_append,List.nil_append,List.append_nil]
     repeat go_big_quiet_step (fail)
     refine wpQuiet_nil ?_
     refine call_at 40 (some 45) 160 #[.slice p4 pn.length p9,.slice q4 qn.length q9] 13 (by kernel_rfl) (by kernel_rfl) (by kernel_rfl) (by kernel_rfl) (by kernel_rfl) ?_
     refine (c4 _ (r4.below hW) (s4.below hW)).mono ?_
     rintro e w9 ⟨rfl,hb9⟩
     replace hW:=hW.trans (hb9.mono hW.size)
     clear hb9
     refine ⟨_,rfl,⟨⟨_,hW⟩,rfl⟩,?_⟩
     simp only [Act.put,List.setIfInBounds_toArray,List.set_cons_zero,List.set_cons_succ]
     refine seg_range [(41,10)] 3 (by kernel_rfl) (by kernel_rfl) (by kernel_rfl) (by kernel_rfl) (by kernel_rfl) ⟨⟨_,hW⟩,rfl⟩ ?_
     simp only [pickR,List.toList_toArray,List.flatMap_cons,List.flatMap_nil,List.drop_succ_cons,List.drop_zero,List.take_succ_cons,List.take_zero,List.cons_append,List.nil_append,List.append_nil]
     repeat go_big_quiet_step (fail)
     refine wpQuiet_nil ?_
     refine skip_at 51 (some 56) 2 (by kernel_rfl) (by kernel_rfl) (by kernel_rfl) (by kernel_rfl) (by kernel_rfl) ⟨⟨_,hW⟩,rfl⟩ ?_
     simp only [Act.put,List.setIfInBounds_toArray,List.set_cons_zero,List.set_cons_succ]
     refine seg_range [(52,2)] 0 (by kernel_rfl) (by kernel_rfl) (by kernel_rfl) (by kernel_rfl) (by kernel_rfl) ⟨⟨_,hW⟩,rfl⟩ ?_
     simp only [pickR,List.toList_toArray,List.flatMap_cons,List.flatMap_nil,List.drop_succ_cons,List.drop_zero,List.take_succ_cons,List.take_zero,List.cons_append,List.nil_append,List.append_nil]
     repeat go_big_quiet_step (fail)
     refine wpQuiet_nil ?_
     refine text_end (by kernel_rfl) ?_
     go_wp2
     go_ret
     exact ⟨by rw [E.out];simp,hW⟩
    | true=>
     refine seg_range [(0,8)] 46 (by kernel_rfl) (by kernel_rfl) (by kernel_rfl) (by kernel_rfl) (by kernel_rfl) ⟨⟨_,hW⟩,rfl⟩ ?_
     simp only [pickR,List.toList_toArray,List.flatMap_cons,List.flatMap_nil,List.drop_succ_cons,List.drop_zero,List.take_succ_cons,List.take_zero,List.cons_append,List.nil_append,List.append_nil]
     repeat go_big_quiet_step (fail)
     refine wpQuiet_nil ?_
     refine call_at 8 (some 13) 159 #[.slice p0 pd.length p5,.slice q0 qd.length q5] 45 (by kernel_rfl) (by kernel_rfl) (by kernel_rfl) (by kernel_rfl) (by kernel_rfl) ?_
     refine (c0 _ (r0.below hW) (s0.below hW)).mono ?_
     rintro e w9 ⟨rfl,hb9⟩
     replace hW:=hW.trans (hb9.mono hW.size)
     clear hb9
     refine ⟨_,rfl,⟨⟨_,hW⟩,rfl⟩,?_⟩
     simp only [Act.put,List.setIfInBounds_toArray,List.set_cons_zero,List.set_cons_succ]
     refine seg_range [(9,9)] 36 (by kernel_rfl) (by kernel_rfl) (by kernel_rfl) (by kernel_rfl) (by kernel_rfl) ⟨⟨_,hW⟩,rfl⟩ ?_
     simp only [pickR,List.toList_toArray,List.flatMap_cons,List.flatMap_nil,List.drop_succ_cons,List.drop_zero,List.take_succ_cons,List.take_zero,List.cons_append,List.nil_append,List.append_nil]
     repeat go_big_quiet_step (fail)
     refine wpQuiet_nil ?_
     refine call_at 18 (some 23) 159 #[.slice p2 pt.length p7,.slice q2 qt.length q7] 35 (by kernel_rfl) (by kernel_rfl) (by kernel_rfl) (by kernel_rfl) (by kernel_rfl) ?_
     refine (c2 _ (r2.below hW) (s2.below hW)).mono ?_
     rintro e w9 ⟨rfl,hb9⟩
     replace hW:=hW.trans (hb9.mono hW.size)
     clear hb9
     refine ⟨_,rfl,⟨⟨_,hW⟩,rfl⟩,?_⟩
     simp only [Act.put,List.setIfInBounds_toArray,List.set_cons_zero,List.set_cons_succ]
     refine seg_range [(19,10)] 25 (by kernel_rfl) (by kernel_rfl) (by kernel_rfl) (by kernel_rfl) (by kernel_rfl) ⟨⟨_,hW⟩,rfl⟩ ?_
     simp only [pickR,List.toList_toArray,List.flatMap_cons,List.flatMap_nil,List.drop_succ_cons,List.drop_zero,List.take_succ_cons,List.take_zero,List.cons_append,List.nil_append,List.append_nil]
     repeat go_big_quiet_step (fail)
     refine wpQuiet_nil ?_
     refine call_at 29 (some 34) 160 #[.slice p1 pb.length p6,.slice q1 qb.length q6] 24 (by kernel_rfl) (by kernel_rfl) (by kernel_rfl) (by kernel_rfl) (by kernel_rfl) ?_
     refine (c1 _ (r1.below hW) (s1.below hW)).mono ?_
     rintro e w9 ⟨rfl,hb9⟩
     replace hW:=hW.trans (hb9.mono hW.size)
     clear hb9
     refine ⟨_,rfl,⟨⟨_,hW⟩,rfl⟩,?_⟩
     simp only [Act.put,List.setIfInBounds_toArray,List.set_cons_zero,List.set_cons_succ]
     refine seg_range [(30,10)] 14 (by kernel_rfl) (by kernel_rfl) (by kernel_rfl) (by kernel_rfl) (by kernel_rfl) ⟨⟨_,hW⟩,rfl⟩ ?_
     simp only [pickR,List.toList_toArray,List.flatMap_cons,List.flatMap_nil,List.drop_succ_cons,List.drop_zero,List.take_succ_cons,List.take_zero,List.cons_append,List.nil_append,List.append_nil]
     repeat go_big_quiet_step (fail)
     refine wpQuiet_nil ?_
     refine call_at 40 (some 45) 160 #[.slice p4 pn.length p9,.slice q4 qn.length q9] 13 (by kernel_rfl) (by kernel_rfl) (by kernel_rfl) (by kernel_rfl) (by kernel_rfl) ?_
     refine (c4 _ (r4.below hW) (s4.below hW)).mono ?_
     rintro e w9 ⟨rfl,hb9⟩
     replace hW:=hW.trans (hb9.mono hW.size)
     clear hb9
     refine ⟨_,rfl,⟨⟨_,hW⟩,rfl⟩,?_⟩
     simp only [Act.put,List.setIfInBounds_toArray,List.set_cons_zero,List.set_cons_succ]
     refine seg_range [(41,10)] 3 (by kernel_rfl) (by kernel_rfl) (by kernel_rfl) (by kernel_rfl) (by kernel_rfl) ⟨⟨_,hW⟩,rfl⟩ ?_
     simp only [pickR,List.toList_toArray,List.flatMap_cons,List.flatMap_nil,List.drop_succ_cons,List.drop_zero,List.take_succ_cons,List.take_zero,List.cons_append,List.nil_append,List.append_nil]
     repeat go_big_quiet_step (fail)
     refine wpQuiet_nil ?_
     refine call_at 51 (some 56) 161 #[.slice p3 pu.length p8,.slice q3 qu.length q8] 2 (by kernel_rfl) (by kernel_rfl) (by kernel_rfl) (by kernel_rfl) (by kernel_rfl) ?_
     refine (c3 _ (r3.below hW) (s3.below hW)).mono ?_
     rintro e w9 ⟨rfl,hb9⟩
     replace hW:=hW.trans (hb9.mono hW.size)
     clear hb9
     refine ⟨_,rfl,⟨⟨_,hW⟩,rfl⟩,?_⟩
     simp only [Act.put,List.setIfInBounds_toArray,List.set_cons_zero,List.set_cons_succ]
     refine seg_range [(52,2)] 0 (by kernel_rfl) (by kernel_rfl) (by kernel_rfl) (by kernel_rfl) (by kernel_rfl) ⟨⟨_,hW⟩,rfl⟩ ?_
     simp only [pickR,List.toList_toArray,List.flatMap_cons,List.flatMap_nil,List.drop_succ_cons,List.drop_zero,List.take_succ_cons,List.take_zero,List.cons_append,List.nil_append,List.append_nil]
     repeat go_big_quiet_step (fail)
     refine wpQuiet_nil ?_
     refine text_end (by kernel_rfl) ?_
     go_wp2
     go_ret
     exact ⟨by rw [E.out];simp,hW⟩

end Go.Proofs.YtfdkcbafpiojkaaGreatDoor
