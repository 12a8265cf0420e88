/- Texts joined, with what the laws reach alone. -/
import Derived.Test.YtfdkcbafpiojkaaGreatDoorSGAC
set_option linter.unusedVariables false
set_option linter.unusedSimpArgs false
namespace Go.Proofs.YtfdkcbafpiojkaaGreatDoor
open Go.RowKit
open Go.BigFrame
set_option maxRecDepth 100000
def unF (xs:List UndoD) (k:Nat):Int:=unF1 (xs.getD k undoNo)

def undoF (xs:List UndoD):Int:=if 4 < xs.length then 2 else firstNZ (unF xs) xs.length

theorem unF_ways (x:UndoD) :
  (inW x.key 1 20=false∧unF1 x=3)∨(inW x.key 1 20=true∧inW x.val (-20000) 20000=false∧unF1 x=3) ∨
  (inW x.key 1 20=true∧inW x.val (-20000) 20000=true∧x.was=false∧x.val≠0∧unF1 x=1) ∨
  (inW x.key 1 20=true∧inW x.val (-20000) 20000=true∧x.was=false∧x.val=0∧unF1 x=0) ∨
  (inW x.key 1 20=true∧inW x.val (-20000) 20000=true∧x.was=true∧unF1 x=0):=by
 unfold unF1
 cases h1:inW x.key 1 20 <;> cases h2:inW x.val (-20000) 20000 <;> cases h3:x.was <;> by_cases h4:x.val=0 <;> simp [h4]

set_option maxHeartbeats 1000000 in
theorem implUndoFault_any (a:Option Addr) (cap:Nat) (zs:List UndoD) (w:World) (h:UndoRow w a zs) (hl:zs.length≤1048576) :
  Calls Tryz.prog 149 #[.slice a zs.length cap] w fun e w' => e=.returned (.int .i64 (undoF zs))∧Below w.heap.size w w' := by
 by_cases h8:4 < zs.length
 ·have E:undoF zs=2:=if_pos h8
  rw [E]
  go_enter Tryz.func149,Tryz.ntmps149
  go_wp2
  go_ret
  exact ⟨rfl,Below.refl _ _⟩
 have E:undoF zs=firstNZ (unF zs) zs.length:=if_neg h8
 rw [E]
 clear E
 go_enter Tryz.func149,Tryz.ntmps149
 go_wp2
 go_loopw [10] (fun j wr=>∃ k:Nat,k≤zs.length∧j=.int .i64 k∧Below w.heap.size w wr∧Hid (∀ j,j < k→unF zs j=0)) (fun j _=>zs.length - (intOf j).toNat)
 case atStart=>exact ⟨0,Nat.zero_le _,rfl,Below.refl _ _,fun j hj=>absurd hj (Nat.not_lt_zero _)⟩
 case round=>
  obtain ⟨k,hk,rfl,hb,HA⟩:=hrel
  by_cases hlt:k < zs.length
  ·obtain ⟨b,off,rfl,hbs,hc0,hc1,hc2⟩:=(h.below hb).at k hlt
   have hsz:=hb.size
   have hX:=unF_ways (zs.getD k undoNo)
   have HB:Hid (unF1 (zs.getD k undoNo)=0→∀ j,j < k + 1→unF zs j=0):=by
    intro hF j hj
    by_cases hjk:j=k
    ·subst hjk;exact hF
    ·exact HA.out j (by omega)
   have HE:Hid (unF1 (zs.getD k undoNo)≠0→firstNZ (unF zs) zs.length=unF1 (zs.getD k undoNo)):=fun hF=>firstNZ_first (unF zs) k HA.out hF zs.length hlt
   clear HA
   generalize zs.getD k undoNo=z at hc0 hc1 hc2 hX HB HE
   obtain ⟨z0,z1,z2⟩:=z
   dsimp only at hc0 hc1 hc2 hX
   rcases hX with ⟨h1,hF⟩ | ⟨h1,h2,hF⟩ | ⟨h1,h2,rfl,h3,hF⟩ | ⟨h1,h2,rfl,rfl,hF⟩ | ⟨h1,h2,rfl,hF⟩
   case inr.inr.inr.inl=>
    replace HB:Hid _:=HB.out hF
    clear HE hF
    go_wp2_with (first | (go_at_call 146;refine (isWithin_any _ _ _ _).mono ?_;rintro e w' ⟨rfl,rfl⟩) | (go_at_call 147;refine (isItemValue_any _ _).mono ?_;rintro e w' ⟨rfl,rfl⟩))
    go_roundw
    case rel=>exact ⟨k + 1,by omega,by go_num,by go_grown,HB⟩
    case measure=>simp [intOf];omega
   case inr.inr.inr.inr=>
    replace HB:Hid _:=HB.out hF
    clear HE hF
    go_wp2_with (first | (go_at_call 146;refine (isWithin_any _ _ _ _).mono ?_;rintro e w' ⟨rfl,rfl⟩) | (go_at_call 147;refine (isItemValue_any _ _).mono ?_;rintro e w' ⟨rfl,rfl⟩))
    go_roundw
    case rel=>exact ⟨k + 1,by omega,by go_num,by go_grown,HB⟩
    case measure=>simp [intOf];omega
   all_goals
    have E:Hid (firstNZ (unF zs) zs.length=_):=HE.out (by rw [hF];decide)
    rw [hF] at E
    clear HB HE hF
    go_wp2_with (first | (go_at_call 146;refine (isWithin_any _ _ _ _).mono ?_;rintro e w' ⟨rfl,rfl⟩) | (go_at_call 147;refine (isItemValue_any _ _).mono ?_;rintro e w' ⟨rfl,rfl⟩))
    go_ret
    rw [E.out]
    exact ⟨rfl,by go_grown⟩
  ·have hkl:k=zs.length:=by omega
   subst hkl
   have E:Hid (firstNZ (unF zs) zs.length=0):=firstNZ_none _ _ HA.out
   clear HA
   go_wp2
   go_ret
   rw [E.out]
   exact ⟨rfl,hb⟩

end Go.Proofs.YtfdkcbafpiojkaaGreatDoor
namespace Go.Proofs.YtfdkcbafpiojkaaGreatDoor
open Go.RowKit
open Go.BigFrame
set_option maxRecDepth 100000
def sumU (ds:List (List UndoD)):Nat:=(ds.map List.length).sum

theorem mem_le_sumU {ds:List (List UndoD)} {d:List UndoD} (h:d∈ds):d.length≤sumU ds:=by
 induction ds with
 | nil=>simp at h
 | cons x r ih=>
  simp only [sumU,List.map_cons,List.sum_cons] at ih ⊢
  rcases List.mem_cons.1 h with rfl | h
  ·omega
  ·have:=ih h;omega

end Go.Proofs.YtfdkcbafpiojkaaGreatDoor
