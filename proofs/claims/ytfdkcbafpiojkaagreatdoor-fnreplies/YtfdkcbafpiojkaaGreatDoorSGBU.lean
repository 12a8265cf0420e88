/- Texts joined, with what the laws reach alone. -/
import Derived.Test.YtfdkcbafpiojkaaGreatDoorSGBE
set_option linter.unusedVariables false
set_option linter.unusedSimpArgs false
namespace Go.Proofs.YtfdkcbafpiojkaaGreatDoor
open Go.RowKit
open Go.BigFrame
set_option maxRecDepth 100000
set_option maxHeartbeats 1000000 in
theorem l2Ids_any (v:Value) (ds:List TxnD) (w:World) (h:TxnsAt w v ds) (hl:ds.length≤60) :
  Calls Tryz.prog 109 #[v] w fun e w' => ∃ b c,e=.returned (.slice b (ds.map TxnD.id).length c)∧w'.ownsRow w.heap.size 2 1 (.slice b (ds.map TxnD.id).length c) (ds.map TxnD.id).length ((ds.map TxnD.id).map (Value.int .i64))∧Below w.heap.size w w' := by
 obtain ⟨a,cap,rfl⟩:=h.shape
 obtain ⟨i0,hi,hz0,hz1,hz2⟩:=info_parts infoI64
 go_enter Tryz.func109,Tryz.ntmps109
 go_wp2
 go_loopw [3,4] (fun v j wr=>∃ k:Nat,k≤ds.length∧j=.int .i64 k∧wr.ownsRow w.heap.size 2 1 v (idsL ds k).length ((idsL ds k).map (Value.int .i64))∧Below w.heap.size w wr) (fun _ j _=>ds.length - (intOf j).toNat)
 case atStart=>exact ⟨0,Nat.zero_le _,rfl,by first | exact World.ownsRow_lit w #[] 0 (Nat.le_refl _) (by decide) rfl | (simp [idsL];exact World.ownsRow_lit w #[] 0 (Nat.le_refl _) (by decide) rfl),by go_grown⟩
 case round=>
  obtain ⟨k,hk,rfl,ho,hb⟩:=hrel
  have hsz:=hb.size
  have hkl:(idsL ds k).length≤60:=by rw [idsL_length ds k hk];omega
  obtain ⟨a1,c1,rfl⟩:=own_shape ho
  by_cases hlt:k < ds.length
  ·have hsu:Hid (idsL ds (k + 1)=idsL ds k ++ [(ds.getD k txnNo).id]):=idsL_succ ds k hlt
   obtain ⟨b,off,aa,cc,rfl,hbs,hc0,_⟩:=(h.below hb).at k hlt
   generalize (ds.getD k txnNo).id=z at hc0 hsu
   have hW2:Below w.heap.size wr (wr.alloc (.cells #[.int .i64 z] 2)):=(Below.refl _ _).alloc hsz _
   have ho2:=ho.alloc (.cells #[.int .i64 z] 2)
   go_wp2_with (at_builtin;refine wpList_append_own _ rfl _ _ 73 rfl w.heap.size 2 i0 (.int .i64 0) 1 8 Tryz.underlying73 hi hz0 hz1 hz2 rfl (by decide) _ (idsL ds k).length ((idsL ds k).map (Value.int .i64)) rfl ho2 ⟨wr.heap.size,0,none⟩ 1 1 [.int .i64 z] rfl rfl ?c1 ?c2 ?c3 ?c4 ?c5 ?_)
   all_goals try
    (case c1=>intro j u hj;match j,hj with | 0,hj=>simp at hj;subst hj;simp [Addr.add])
   all_goals try (case c2=>first | rfl | (intro u hu;simp at hu;subst hu;rfl))
   all_goals try (case c3=>unfold maxLen;omega)
   all_goals try (case c4=>omega)
   all_goals try (case c5=>first | omega | (simp;omega))
   intro v' w2 hown hgrow _
   obtain ⟨a2,c2,rfl⟩:=own_shape hown
   have hW3:Below w.heap.size wr w2:=hW2.grown hgrow (by simp;omega) (fun j hj=>(ho.lt j hj).1)
   clear hW2 hgrow ho2 ho
   have R:Hid (w2.ownsRow w.heap.size 2 1 (.slice a2 ((idsL ds k).length + 1) c2) ((idsL ds k).length + 1) ((idsL ds k ++ [z]).map (Value.int .i64))∧Below w.heap.size w w2):=⟨by simpa using hown,hb.trans hW3⟩
   clear hown hW3
   go_wp2
   go_roundw
   case rel=>
    refine ⟨k + 1,by omega,by go_num,?_,R.out.2⟩
    rw [hsu.out]
    simpa using R.out.1
   case measure=>simp [intOf];omega
  ·have hkk:k=ds.length:=by omega
   subst hkk
   have e:idsL ds ds.length=ds.map TxnD.id:=by simp [idsL]
   rw [e] at ho
   clear hkl
   go_wp2
   go_ret
   rw [e]
   exact ⟨_,_,rfl,ho,hb⟩

end Go.Proofs.YtfdkcbafpiojkaaGreatDoor
namespace Go.Proofs.YtfdkcbafpiojkaaGreatDoor
open Go.RowKit
open Go.BigFrame
set_option maxRecDepth 100000
/-- The first place of x, or the length. -/
def idxN:List Int→Int→Nat
 | [],_=>0
 | y :: r,x=>if y=x then 0 else idxN r x + 1

theorem idxN_at (L:List Int) (x:Int):∀ k,(∀ j,j < k→L.getD j 0≠x)→k < L.length→L.getD k 0=x→idxN L x=k:=by
 induction L with
 | nil=>intro k _ h;simp at h
 | cons y r ih=>
  intro k h0 hk he
  cases k with
  | zero=>simp [List.getD] at he;simp [idxN,he]
  | succ k=>
   have hy:y≠x:=by simpa [List.getD] using h0 0 (by omega)
   simp only [idxN,hy,if_false]
   rw [ih k (fun j hj=>by simpa [List.getD] using h0 (j + 1) (by omega)) (by simpa using hk) (by simpa [List.getD] using he)]

theorem idxN_none (L:List Int) (x:Int) (h:∀ j,j < L.length→L.getD j 0≠x):idxN L x=L.length:=by
 induction L with
 | nil=>rfl
 | cons y r ih=>
  have hy:y≠x:=by simpa [List.getD] using h 0 (by simp)
  simp only [idxN,hy,if_false,List.length_cons]
  rw [ih (fun j hj=>by simpa [List.getD] using h (j + 1) (by simpa using hj))]

def idxI (L:List Int) (x:Int):Int:=if idxN L x < L.length then (idxN L x:Int) else -1

set_option maxRecDepth 100000 in
set_option maxHeartbeats 1000000 in
theorem l1Find_any (a:Option Addr) (cap:Nat) (L:List Int) (x:Int) (w:World) (h:Row .i64 w a L) (hl:L.length≤1048576) :
  Calls Tryz.prog 108 #[.slice a L.length cap,.int .i64 x] w fun e w' => e=.returned (.int .i64 (idxI L x))∧w' = w:=by
 go_enter Tryz.func108,Tryz.ntmps108
 go_wp2
 go_loop [5] (fun j=>∃ k:Nat,k≤L.length∧j=.int .i64 k∧Hid (∀ j,j < k→L.getD j 0≠x)) (fun j=>L.length - (intOf j).toNat)
 case atStart=>exact ⟨0,Nat.zero_le _,rfl,fun j hj=>absurd hj (Nat.not_lt_zero _)⟩
 case round=>
  obtain ⟨k,hk,rfl,HA⟩:=hrel
  by_cases hlt:k < L.length
  ·obtain ⟨b,off,rfl,hbs,hc⟩:=h k hlt
   by_cases he:L.getD k 0=x
   ·have E:Hid (idxI L x=(k:Int)):=by
     show _=_
     rw [idxI,idxN_at L x k HA.out hlt he,if_pos hlt]
    have hee:(L.getD k 0 == x)=true:=by simpa using he
    clear HA he
    generalize L.getD k 0=z at hc hee
    go_wp2
    go_ret
    rw [E.out]
    exact ⟨rfl,rfl⟩
   ·have HB:Hid (∀ j,j < k + 1→L.getD j 0≠x):=by
     intro j hj
     by_cases hjk:j=k
     ·subst hjk;exact he
     ·exact HA.out j (by omega)
    have hee:(L.getD k 0 == x)=false:=by simpa using he
    clear HA he
    generalize L.getD k 0=z at hc hee
    go_wp2
    go_round
    case rel=>exact ⟨k + 1,by omega,by go_num,HB⟩
    case measure=>simp [intOf];omega
  ·have hkl:k=L.length:=by omega
   subst hkl
   have E:Hid (idxI L x=-1):=by
    show _=_
    rw [idxI,idxN_none L x HA.out,if_neg (Nat.lt_irrefl _)]
   clear HA
   go_wp2
   go_ret
   rw [E.out]
   exact ⟨rfl,rfl⟩

end Go.Proofs.YtfdkcbafpiojkaaGreatDoor
