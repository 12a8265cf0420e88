/- Texts joined, with what the law reaches alone. -/
import Derived.Test.YtfdkcbafpiojkaaGreatDoorSXAI
import Derived.Laws.StructEq
import Derived.Test.YtfdkcbafpiojkaaGreatDoorSXAE
import Derived.Test.YtfdkcbafpiojkaaGreatDoorSXAA
import Derived.Deep.Slices
import Derived.Deep.Strs
import Derived.Lib.SmallJoins
import Derived.ProofKit
import Derived.Test.YtfdkcbafpiojkaaGreatDoorSXAC
set_option linter.unusedVariables false
set_option linter.unusedSimpArgs false
namespace Go.Proofs.YtfdkcbafpiojkaaGreatDoor
open Go.RowKit
open Go.BigFrame
set_option maxRecDepth 100000
def sameU (x y:UndoD):Bool:=(x.key == y.key) && ((x.was == y.was) && (x.val == y.val))

def sameUs:List UndoD→List UndoD→Bool
 | [],[]=>true
 | x :: r,y :: s=>sameU x y && sameUs r s
 | _,_=>false

/-- A comparison of two lists, place by place. -/
theorem same_lenUndo {α:Type} {f:α→α→Bool} {g:List α→List α→Bool} (h0:g [] []=true) (h1:∀ x r y s,g (x :: r) (y :: s)=(f x y && g r s)) (h2:∀ x r,g (x :: r) []=false) (h3:∀ y s,g [] (y :: s)=false) :
  ∀ a b,a.length≠b.length→g a b=false:=by
 intro a
 induction a with
 | nil=>intro b h;cases b with | nil=>simp at h | cons y s=>exact h3 y s
 | cons x r ih=>intro b h;cases b with | nil=>exact h2 x r | cons y s=>rw [h1,ih s (by simpa using h)];simp

theorem same_badUndo {α:Type} {f:α→α→Bool} {g:List α→List α→Bool} (d:α) (h1:∀ x r y s,g (x :: r) (y :: s)=(f x y && g r s)) :
  ∀ a b k,a.length=b.length→k < a.length→f (a.getD k d) (b.getD k d)=false→g a b=false:=by
 intro a
 induction a with
 | nil=>intro b k _ h;simp at h
 | cons x r ih=>
  intro b k hl hk hf
  cases b with
  | nil=>simp at hl
  | cons y s=>
   rw [h1]
   cases k with
   | zero=>simp [List.getD] at hf;simp [hf]
   | succ k=>rw [ih s k (by simpa using hl) (by simpa using hk) (by simpa [List.getD] using hf)];simp

theorem same_allUndo {α:Type} {f:α→α→Bool} {g:List α→List α→Bool} (d:α) (h0:g [] []=true) (h1:∀ x r y s,g (x :: r) (y :: s)=(f x y && g r s)) :
  ∀ a b,a.length=b.length→(∀ k,k < a.length→f (a.getD k d) (b.getD k d)=true)→g a b=true:=by
 intro a
 induction a with
 | nil=>intro b hl _;cases b with | nil=>exact h0 | cons y s=>simp at hl
 | cons x r ih=>
  intro b hl hf
  cases b with
  | nil=>simp at hl
  | cons y s=>
   rw [h1,ih s (by simpa using hl) (fun k hk=>by simpa [List.getD] using hf (k + 1) (by simpa using hk))]
   have:=hf 0 (by simp)
   simp [List.getD] at this
   simp [this]

theorem eqUndo_run (x0:Int) (x1:Bool) (x2 y0:Int) (y1:Bool) (y2:Int) (w:World):(binOp .neq 185 (.agg #[.int .i64 x0,.bool x1,.int .i64 x2]) (.agg #[.int .i64 y0,.bool y1,.int .i64 y2])).run Tryz.prog w=.ok (.bool (!sameU ⟨x0,x1,x2⟩ ⟨y0,y1,y2⟩)) w:=by
 rw [run_neq_struct,run_equalIn_struct (P:=Tryz.prog) w 9999 185 _ _ (by kernel_rfl) (by kernel_rfl)]
 have c1:Tryz.prog.cellsOf 2=1:=by kernel_rfl
 have c2:Tryz.prog.cellsOf 4=1:=by kernel_rfl
 cases h0:(x0 == y0) <;> cases h1:(x1 == y1) <;> cases h2:(x2 == y2) <;> simp [Program.fieldsOf,Tryz.underlying185,Op.eqFields,go_sem,Tryz.underlying2,Tryz.underlying4,h0,h1,h2,sameU,c1,c2]

set_option maxHeartbeats 2000000 in
theorem equalU_any (a a' : Option Addr) (cap cap' : Nat) (xs ys:List UndoD) (w:World) (h:UndoRow w a xs) (h' : UndoRow w a' ys) (hl:xs.length≤1048576) (hl' : ys.length≤1048576) :
  Calls Tryz.prog 155 #[.slice a xs.length cap,.slice a' ys.length cap'] w fun e w' => e=.returned (.bool (sameUs xs ys))∧Below w.heap.size w w' := by
 by_cases hlen:xs.length=ys.length
 case neg=>
  have E:sameUs xs ys=false:=same_lenUndo (f:=sameU) rfl (fun _ _ _ _=>rfl) (fun _ _=>rfl) (fun _ _=>rfl) xs ys hlen
  rw [E]
  have hd:((xs.length:Int) != (ys.length:Int))=true:=by simp;omega
  go_enter Tryz.func155,Tryz.ntmps155
  go_wp2
  go_ret
  exact ⟨rfl,Below.refl _ _⟩
 case pos=>
  have hd:((xs.length:Int) != (ys.length:Int))=false:=by simp [hlen]
  have HL:Hid (xs.length=ys.length):=hlen
  clear hlen
  go_enter Tryz.func155,Tryz.ntmps155
  go_wp2
  go_loopw [13] (fun i wr=>∃ k m:Nat,k≤xs.length∧i=.int .i64 k∧wr=w.drewN m∧Hid (∀ j,j < k→sameU (xs.getD j undoNo) (ys.getD j undoNo)=true)) (fun i _=>xs.length - (intOf i).toNat)
  case atStart=>exact ⟨0,0,Nat.zero_le _,rfl,rfl,fun j hj=>absurd hj (Nat.not_lt_zero _)⟩
  case round=>
   obtain ⟨k,m,hk,rfl,rfl,HA⟩:=hrel
   by_cases hlt:k < xs.length
   ·have hlt' : k < ys.length:=by have:=HL.out;omega
    obtain ⟨b,off,rfl,hbs,hc0,hc1,hc2⟩:=h.at k hlt
    obtain ⟨b',off',rfl,hbs',hd0,hd1,hd2⟩:=h'.at k hlt'
    cases hs:sameU (xs.getD k undoNo) (ys.getD k undoNo)
    case false=>
     have E:Hid (sameUs xs ys=false):=same_badUndo (f:=sameU) undoNo (fun _ _ _ _=>rfl) xs ys k HL.out hlt hs
     have hr:=eqUndo_run (xs.getD k undoNo).key (xs.getD k undoNo).was (xs.getD k undoNo).val (ys.getD k undoNo).key (ys.getD k undoNo).was (ys.getD k undoNo).val
     rw [show sameU ⟨(xs.getD k undoNo).key,(xs.getD k undoNo).was,(xs.getD k undoNo).val⟩ ⟨(ys.getD k undoNo).key,(ys.getD k undoNo).was,(ys.getD k undoNo).val⟩=false from hs,Bool.not_false] at hr
     clear HA hs
     generalize xs.getD k undoNo=z at hc0 hc1 hc2 hr
     generalize ys.getD k undoNo=z' at hd0 hd1 hd2 hr
     go_wp2
     go_quiet (fail)
     go_wp2
     go_ret
     rw [E.out]
     exact ⟨rfl,below_drewN (below_drewN (Below.refl _ _) _) _⟩
    case true=>
     have HB:Hid (∀ j,j < k + 1→sameU (xs.getD j undoNo) (ys.getD j undoNo)=true):=by
      intro j hj
      by_cases hjk:j=k
      ·subst hjk;exact hs
      ·exact HA.out j (by omega)
     have hr:=eqUndo_run (xs.getD k undoNo).key (xs.getD k undoNo).was (xs.getD k undoNo).val (ys.getD k undoNo).key (ys.getD k undoNo).was (ys.getD k undoNo).val
     rw [show sameU ⟨(xs.getD k undoNo).key,(xs.getD k undoNo).was,(xs.getD k undoNo).val⟩ ⟨(ys.getD k undoNo).key,(ys.getD k undoNo).was,(ys.getD k undoNo).val⟩=true from hs,Bool.not_true] at hr
     clear HA hs
     generalize xs.getD k undoNo=z at hc0 hc1 hc2 hr
     generalize ys.getD k undoNo=z' at hd0 hd1 hd2 hr
     go_wp2
     go_quiet (fail)
     go_wp2
     go_roundw
     case rel=>exact ⟨k + 1,_,by omega,by go_num,rfl,HB⟩
     case measure=>simp [intOf];omega
   ·have E:Hid (sameUs xs ys=true):=same_allUndo (f:=sameU) undoNo rfl (fun _ _ _ _=>rfl) xs ys HL.out (fun j hj=>HA.out j (by omega))
    clear HA
    go_wp2
    go_ret
    rw [E.out]
    exact ⟨rfl,below_drewN (Below.refl _ _) _⟩

set_option maxHeartbeats 2000000 in
theorem specSameUndo_any (a a' : Option Addr) (cap cap' : Nat) (xs ys:List UndoD) (w:World) (h:UndoRow w a xs) (h' : UndoRow w a' ys) (hl:xs.length≤1048576) (hl' : ys.length≤1048576) :
  Calls Tryz.prog 189 #[.slice a xs.length cap,.slice a' ys.length cap'] w fun e w' => e=.returned (.bool (sameUs xs ys))∧Below w.heap.size w w' := by
 by_cases hlen:xs.length=ys.length
 case neg=>
  have E:sameUs xs ys=false:=same_lenUndo (f:=sameU) rfl (fun _ _ _ _=>rfl) (fun _ _=>rfl) (fun _ _=>rfl) xs ys hlen
  rw [E]
  have hd:((xs.length:Int) != (ys.length:Int))=true:=by simp;omega
  go_enter Tryz.func189,Tryz.ntmps189
  go_wp2
  go_ret
  exact ⟨rfl,Below.refl _ _⟩
 case pos=>
  have hd:((xs.length:Int) != (ys.length:Int))=false:=by simp [hlen]
  have HL:Hid (xs.length=ys.length):=hlen
  clear hlen
  go_enter Tryz.func189,Tryz.ntmps189
  go_wp2
  go_loopw [5] (fun i wr=>∃ k m:Nat,k≤xs.length∧i=.int .i64 k∧wr=w.drewN m∧Hid (∀ j,j < k→sameU (xs.getD j undoNo) (ys.getD j undoNo)=true)) (fun i _=>xs.length - (intOf i).toNat)
  case atStart=>exact ⟨0,0,Nat.zero_le _,rfl,rfl,fun j hj=>absurd hj (Nat.not_lt_zero _)⟩
  case round=>
   obtain ⟨k,m,hk,rfl,rfl,HA⟩:=hrel
   by_cases hlt:k < xs.length
   ·have hlt' : k < ys.length:=by have:=HL.out;omega
    obtain ⟨b,off,rfl,hbs,hc0,hc1,hc2⟩:=h.at k hlt
    obtain ⟨b',off',rfl,hbs',hd0,hd1,hd2⟩:=h'.at k hlt'
    cases hs:sameU (xs.getD k undoNo) (ys.getD k undoNo)
    case false=>
     have E:Hid (sameUs xs ys=false):=same_badUndo (f:=sameU) undoNo (fun _ _ _ _=>rfl) xs ys k HL.out hlt hs
     have hr:=eqUndo_run (xs.getD k undoNo).key (xs.getD k undoNo).was (xs.getD k undoNo).val (ys.getD k undoNo).key (ys.getD k undoNo).was (ys.getD k undoNo).val
     rw [show sameU ⟨(xs.getD k undoNo).key,(xs.getD k undoNo).was,(xs.getD k undoNo).val⟩ ⟨(ys.getD k undoNo).key,(ys.getD k undoNo).was,(ys.getD k undoNo).val⟩=false from hs,Bool.not_false] at hr
     clear HA hs
     generalize xs.getD k undoNo=z at hc0 hc1 hc2 hr
     generalize ys.getD k undoNo=z' at hd0 hd1 hd2 hr
     go_wp2
     go_quiet (fail)
     go_wp2
     go_ret
     rw [E.out]
     exact ⟨rfl,below_drewN (below_drewN (Below.refl _ _) _) _⟩
    case true=>
     have HB:Hid (∀ j,j < k + 1→sameU (xs.getD j undoNo) (ys.getD j undoNo)=true):=by
      intro j hj
      by_cases hjk:j=k
      ·subst hjk;exact hs
      ·exact HA.out j (by omega)
     have hr:=eqUndo_run (xs.getD k undoNo).key (xs.getD k undoNo).was (xs.getD k undoNo).val (ys.getD k undoNo).key (ys.getD k undoNo).was (ys.getD k undoNo).val
     rw [show sameU ⟨(xs.getD k undoNo).key,(xs.getD k undoNo).was,(xs.getD k undoNo).val⟩ ⟨(ys.getD k undoNo).key,(ys.getD k undoNo).was,(ys.getD k undoNo).val⟩=true from hs,Bool.not_true] at hr
     clear HA hs
     generalize xs.getD k undoNo=z at hc0 hc1 hc2 hr
     generalize ys.getD k undoNo=z' at hd0 hd1 hd2 hr
     go_wp2
     go_quiet (fail)
     go_wp2
     go_roundw
     case rel=>exact ⟨k + 1,_,by omega,by go_num,rfl,HB⟩
     case measure=>simp [intOf];omega
   ·have E:Hid (sameUs xs ys=true):=same_allUndo (f:=sameU) undoNo rfl (fun _ _ _ _=>rfl) xs ys HL.out (fun j hj=>HA.out j (by omega))
    clear HA
    go_wp2
    go_ret
    rw [E.out]
    exact ⟨rfl,below_drewN (Below.refl _ _) _⟩

set_option maxHeartbeats 1000000 in
theorem implSameUndo_any (a a' : Option Addr) (cap cap' : Nat) (xs ys:List UndoD) (w:World) (h:UndoRow w a xs) (h' : UndoRow w a' ys) (hl:xs.length≤1048576) (hl' : ys.length≤1048576) :
  Calls Tryz.prog 91 #[.slice a xs.length cap,.slice a' ys.length cap'] w fun e w' => e=.returned (.bool (sameUs xs ys))∧Below w.heap.size w w' := by
 have hq:=fun w h h' => equalU_any a a' cap cap' xs ys w h h' hl hl'
 generalize sameUs xs ys=r at hq
 go_enter Tryz.func91,Tryz.ntmps91
 go_wp2_with fail
 refine (hq _ h h').mono ?_
 rintro e w' ⟨rfl,hb⟩
 go_wp2
 go_ret
 exact ⟨rfl,hb⟩

end Go.Proofs.YtfdkcbafpiojkaaGreatDoor
namespace Go.Proofs.YtfdkcbafpiojkaaGreatDoor
open Go.RowKit
open Go.BigFrame
set_option maxRecDepth 100000
def sameI (x y:ItemD):Bool:=(x.key == y.key) && (x.val == y.val)

def sameIs:List ItemD→List ItemD→Bool
 | [],[]=>true
 | x :: r,y :: s=>sameI x y && sameIs r s
 | _,_=>false

/-- A comparison of two lists, place by place. -/
theorem same_lenItem {α:Type} {f:α→α→Bool} {g:List α→List α→Bool} (h0:g [] []=true) (h1:∀ x r y s,g (x :: r) (y :: s)=(f x y && g r s)) (h2:∀ x r,g (x :: r) []=false) (h3:∀ y s,g [] (y :: s)=false) :
  ∀ a b,a.length≠b.length→g a b=false:=by
 intro a
 induction a with
 | nil=>intro b h;cases b with | nil=>simp at h | cons y s=>exact h3 y s
 | cons x r ih=>intro b h;cases b with | nil=>exact h2 x r | cons y s=>rw [h1,ih s (by simpa using h)];simp

theorem same_badItem {α:Type} {f:α→α→Bool} {g:List α→List α→Bool} (d:α) (h1:∀ x r y s,g (x :: r) (y :: s)=(f x y && g r s)) :
  ∀ a b k,a.length=b.length→k < a.length→f (a.getD k d) (b.getD k d)=false→g a b=false:=by
 intro a
 induction a with
 | nil=>intro b k _ h;simp at h
 | cons x r ih=>
  intro b k hl hk hf
  cases b with
  | nil=>simp at hl
  | cons y s=>
   rw [h1]
   cases k with
   | zero=>simp [List.getD] at hf;simp [hf]
   | succ k=>rw [ih s k (by simpa using hl) (by simpa using hk) (by simpa [List.getD] using hf)];simp

theorem same_allItem {α:Type} {f:α→α→Bool} {g:List α→List α→Bool} (d:α) (h0:g [] []=true) (h1:∀ x r y s,g (x :: r) (y :: s)=(f x y && g r s)) :
  ∀ a b,a.length=b.length→(∀ k,k < a.length→f (a.getD k d) (b.getD k d)=true)→g a b=true:=by
 intro a
 induction a with
 | nil=>intro b hl _;cases b with | nil=>exact h0 | cons y s=>simp at hl
 | cons x r ih=>
  intro b hl hf
  cases b with
  | nil=>simp at hl
  | cons y s=>
   rw [h1,ih s (by simpa using hl) (fun k hk=>by simpa [List.getD] using hf (k + 1) (by simpa using hk))]
   have:=hf 0 (by simp)
   simp [List.getD] at this
   simp [this]

theorem sameIs_eq {xs ys:List ItemD} (h:sameIs xs ys=true):xs=ys:=by
 induction xs generalizing ys with
 | nil=>cases ys with | nil=>rfl | cons y s=>simp [sameIs] at h
 | cons x r ih=>
  cases ys with
  | nil=>simp [sameIs] at h
  | cons y s=>
   obtain ⟨x0,x1⟩:=x
   obtain ⟨y0,y1⟩:=y
   simp [sameIs,sameI] at h
   rw [ih h.2,h.1.1,h.1.2]

theorem eqItem_run (x0 x1 y0 y1:Int) (w:World):(binOp .neq 134 (.agg #[.int .i64 x0,.int .i64 x1]) (.agg #[.int .i64 y0,.int .i64 y1])).run Tryz.prog w=.ok (.bool (!sameI ⟨x0,x1⟩ ⟨y0,y1⟩)) w:=by
 rw [run_neq_struct,run_equalIn_struct (P:=Tryz.prog) w 9999 134 _ _ (by kernel_rfl) (by kernel_rfl)]
 have c1:Tryz.prog.cellsOf 2=1:=by kernel_rfl
 cases h0:(x0 == y0) <;> cases h1:(x1 == y1) <;> simp [Program.fieldsOf,Tryz.underlying134,Op.eqFields,go_sem,Tryz.underlying2,h0,h1,sameI,c1]

set_option maxHeartbeats 2000000 in
theorem equalI_any (a a' : Option Addr) (cap cap' : Nat) (xs ys:List ItemD) (w:World) (h:ItemRow w a xs) (h' : ItemRow w a' ys) (hl:xs.length≤1048576) (hl' : ys.length≤1048576) :
  Calls Tryz.prog 81 #[.slice a xs.length cap,.slice a' ys.length cap'] w fun e w' => e=.returned (.bool (sameIs xs ys))∧Below w.heap.size w w' := by
 by_cases hlen:xs.length=ys.length
 case neg=>
  have E:sameIs xs ys=false:=same_lenItem (f:=sameI) rfl (fun _ _ _ _=>rfl) (fun _ _=>rfl) (fun _ _=>rfl) xs ys hlen
  rw [E]
  have hd:((xs.length:Int) != (ys.length:Int))=true:=by simp;omega
  go_enter Tryz.func81,Tryz.ntmps81
  go_wp2
  go_ret
  exact ⟨rfl,Below.refl _ _⟩
 case pos=>
  have hd:((xs.length:Int) != (ys.length:Int))=false:=by simp [hlen]
  have HL:Hid (xs.length=ys.length):=hlen
  clear hlen
  go_enter Tryz.func81,Tryz.ntmps81
  go_wp2
  go_loopw [13] (fun i wr=>∃ k m:Nat,k≤xs.length∧i=.int .i64 k∧wr=w.drewN m∧Hid (∀ j,j < k→sameI (xs.getD j itemNo) (ys.getD j itemNo)=true)) (fun i _=>xs.length - (intOf i).toNat)
  case atStart=>exact ⟨0,0,Nat.zero_le _,rfl,rfl,fun j hj=>absurd hj (Nat.not_lt_zero _)⟩
  case round=>
   obtain ⟨k,m,hk,rfl,rfl,HA⟩:=hrel
   by_cases hlt:k < xs.length
   ·have hlt' : k < ys.length:=by have:=HL.out;omega
    obtain ⟨b,off,rfl,hbs,hc0,hc1⟩:=h.at k hlt
    obtain ⟨b',off',rfl,hbs',hd0,hd1⟩:=h'.at k hlt'
    cases hs:sameI (xs.getD k itemNo) (ys.getD k itemNo)
    case false=>
     have E:Hid (sameIs xs ys=false):=same_badItem (f:=sameI) itemNo (fun _ _ _ _=>rfl) xs ys k HL.out hlt hs
     have hr:=eqItem_run (xs.getD k itemNo).key (xs.getD k itemNo).val (ys.getD k itemNo).key (ys.getD k itemNo).val
     rw [show sameI ⟨(xs.getD k itemNo).key,(xs.getD k itemNo).val⟩ ⟨(ys.getD k itemNo).key,(ys.getD k itemNo).val⟩=false from hs,Bool.not_false] at hr
     clear HA hs
     generalize xs.getD k itemNo=z at hc0 hc1 hr
     generalize ys.getD k itemNo=z' at hd0 hd1 hr
     go_wp2
     go_quiet (fail)
     go_wp2
     go_ret
     rw [E.out]
     exact ⟨rfl,below_drewN (below_drewN (Below.refl _ _) _) _⟩
    case true=>
     have HB:Hid (∀ j,j < k + 1→sameI (xs.getD j itemNo) (ys.getD j itemNo)=true):=by
      intro j hj
      by_cases hjk:j=k
      ·subst hjk;exact hs
      ·exact HA.out j (by omega)
     have hr:=eqItem_run (xs.getD k itemNo).key (xs.getD k itemNo).val (ys.getD k itemNo).key (ys.getD k itemNo).val
     rw [show sameI ⟨(xs.getD k itemNo).key,(xs.getD k itemNo).val⟩ ⟨(ys.getD k itemNo).key,(ys.getD k itemNo).val⟩=true from hs,Bool.not_true] at hr
     clear HA hs
     generalize xs.getD k itemNo=z at hc0 hc1 hr
     generalize ys.getD k itemNo=z' at hd0 hd1 hr
     go_wp2
     go_quiet (fail)
     go_wp2
     go_roundw
     case rel=>exact ⟨k + 1,_,by omega,by go_num,rfl,HB⟩
     case measure=>simp [intOf];omega
   ·have E:Hid (sameIs xs ys=true):=same_allItem (f:=sameI) itemNo rfl (fun _ _ _ _=>rfl) xs ys HL.out (fun j hj=>HA.out j (by omega))
    clear HA
    go_wp2
    go_ret
    rw [E.out]
    exact ⟨rfl,below_drewN (Below.refl _ _) _⟩

set_option maxHeartbeats 2000000 in
theorem specSameItems_any (a a' : Option Addr) (cap cap' : Nat) (xs ys:List ItemD) (w:World) (h:ItemRow w a xs) (h' : ItemRow w a' ys) (hl:xs.length≤1048576) (hl' : ys.length≤1048576) :
  Calls Tryz.prog 160 #[.slice a xs.length cap,.slice a' ys.length cap'] w fun e w' => e=.returned (.bool (sameIs xs ys))∧Below w.heap.size w w' := by
 by_cases hlen:xs.length=ys.length
 case neg=>
  have E:sameIs xs ys=false:=same_lenItem (f:=sameI) rfl (fun _ _ _ _=>rfl) (fun _ _=>rfl) (fun _ _=>rfl) xs ys hlen
  rw [E]
  have hd:((xs.length:Int) != (ys.length:Int))=true:=by simp;omega
  go_enter Tryz.func160,Tryz.ntmps160
  go_wp2
  go_ret
  exact ⟨rfl,Below.refl _ _⟩
 case pos=>
  have hd:((xs.length:Int) != (ys.length:Int))=false:=by simp [hlen]
  have HL:Hid (xs.length=ys.length):=hlen
  clear hlen
  go_enter Tryz.func160,Tryz.ntmps160
  go_wp2
  go_loopw [5] (fun i wr=>∃ k m:Nat,k≤xs.length∧i=.int .i64 k∧wr=w.drewN m∧Hid (∀ j,j < k→sameI (xs.getD j itemNo) (ys.getD j itemNo)=true)) (fun i _=>xs.length - (intOf i).toNat)
  case atStart=>exact ⟨0,0,Nat.zero_le _,rfl,rfl,fun j hj=>absurd hj (Nat.not_lt_zero _)⟩
  case round=>
   obtain ⟨k,m,hk,rfl,rfl,HA⟩:=hrel
   by_cases hlt:k < xs.length
   ·have hlt' : k < ys.length:=by have:=HL.out;omega
    obtain ⟨b,off,rfl,hbs,hc0,hc1⟩:=h.at k hlt
    obtain ⟨b',off',rfl,hbs',hd0,hd1⟩:=h'.at k hlt'
    cases hs:sameI (xs.getD k itemNo) (ys.getD k itemNo)
    case false=>
     have E:Hid (sameIs xs ys=false):=same_badItem (f:=sameI) itemNo (fun _ _ _ _=>rfl) xs ys k HL.out hlt hs
     have hr:=eqItem_run (xs.getD k itemNo).key (xs.getD k itemNo).val (ys.getD k itemNo).key (ys.getD k itemNo).val
     rw [show sameI ⟨(xs.getD k itemNo).key,(xs.getD k itemNo).val⟩ ⟨(ys.getD k itemNo).key,(ys.getD k itemNo).val⟩=false from hs,Bool.not_false] at hr
     clear HA hs
     generalize xs.getD k itemNo=z at hc0 hc1 hr
     generalize ys.getD k itemNo=z' at hd0 hd1 hr
     go_wp2
     go_quiet (fail)
     go_wp2
     go_ret
     rw [E.out]
     exact ⟨rfl,below_drewN (below_drewN (Below.refl _ _) _) _⟩
    case true=>
     have HB:Hid (∀ j,j < k + 1→sameI (xs.getD j itemNo) (ys.getD j itemNo)=true):=by
      intro j hj
      by_cases hjk:j=k
      ·subst hjk;exact hs
      ·exact HA.out j (by omega)
     have hr:=eqItem_run (xs.getD k itemNo).key (xs.getD k itemNo).val (ys.getD k itemNo).key (ys.getD k itemNo).val
     rw [show sameI ⟨(xs.getD k itemNo).key,(xs.getD k itemNo).val⟩ ⟨(ys.getD k itemNo).key,(ys.getD k itemNo).val⟩=true from hs,Bool.not_true] at hr
     clear HA hs
     generalize xs.getD k itemNo=z at hc0 hc1 hr
     generalize ys.getD k itemNo=z' at hd0 hd1 hr
     go_wp2
     go_quiet (fail)
     go_wp2
     go_roundw
     case rel=>exact ⟨k + 1,_,by omega,by go_num,rfl,HB⟩
     case measure=>simp [intOf];omega
   ·have E:Hid (sameIs xs ys=true):=same_allItem (f:=sameI) itemNo rfl (fun _ _ _ _=>rfl) xs ys HL.out (fun j hj=>HA.out j (by omega))
    clear HA
    go_wp2
    go_ret
    rw [E.out]
    exact ⟨rfl,below_drewN (Below.refl _ _) _⟩

set_option maxHeartbeats 1000000 in
theorem implSameItems_any (a a' : Option Addr) (cap cap' : Nat) (xs ys:List ItemD) (w:World) (h:ItemRow w a xs) (h' : ItemRow w a' ys) (hl:xs.length≤1048576) (hl' : ys.length≤1048576) :
  Calls Tryz.prog 34 #[.slice a xs.length cap,.slice a' ys.length cap'] w fun e w' => e=.returned (.bool (sameIs xs ys))∧Below w.heap.size w w' := by
 have hq:=fun w h h' => equalI_any a a' cap cap' xs ys w h h' hl hl'
 generalize sameIs xs ys=r at hq
 go_enter Tryz.func34,Tryz.ntmps34
 go_wp2_with fail
 refine (hq _ h h').mono ?_
 rintro e w' ⟨rfl,hb⟩
 go_wp2
 go_ret
 exact ⟨rfl,hb⟩

end Go.Proofs.YtfdkcbafpiojkaaGreatDoor
namespace Go.Proofs.YtfdkcbafpiojkaaGreatDoor
open Go.RowKit Go.Deep Go.ChangeShapes Go.WideShapes
set_option maxRecDepth 100000
theorem flatten_at {α:Type} {c:Nat} (css:List (List α)) (hc:∀ l∈css,l.length=c):∀ (j:Nat) (x:α),css.flatten[j]? = some x→∃ i r,j=i * c + r∧r < c∧i < css.length∧(css.getD i [])[r]? = some x:=by
 induction css with
 | nil=>intro j x h;simp at h
 | cons l css ih=>
  intro j x h
  have hl:l.length=c:=hc l (by simp)
  rw [List.flatten_cons] at h
  by_cases hj:j < c
  ·rw [List.getElem?_append_left (by omega)] at h
   exact ⟨0,j,by omega,hj,by simp,by simpa [List.getD] using h⟩
  ·rw [List.getElem?_append_right (by omega),hl] at h
   obtain ⟨i,r,e1,e2,e3,e4⟩:=ih (fun l hl=>hc l (by simp [hl])) _ _ h
   refine ⟨i + 1,r,?_,e2,by simpa using e3,by simpa [List.getD] using e4⟩
   rw [Nat.add_mul];omega

section
variable {H:Type} {enc:TypeId × Value→H} {P:Program} {w:World} {base:Nat} {spare:Nat→Bool} {held:Bool}
set_option maxRecDepth 100000 in
theorem open_row {t e:TypeId} {c fuel:Nat} {cs:List Value} {x:DataW H × List MemPlace} (ht:P.underlying t=some (.slice e)) (hc:P.cellsOf e=c) (hc0:0 < c) (h:DataW.trod enc P w base spare held fuel t cs=some x) :
  ∃ (a:Option Addr) (cap n:Nat) (css:List (List Value)),cs=[.slice a css.length cap]∧css.length≤9223372036854775807∧Lies w a css.flatten∧∀ l∈css,l.length=c∧∃ y,DataW.trod enc P w base spare held n e l=some y:=by
 rcases open_slice ht h with ⟨rfl,_⟩ | ⟨a,len,cap,m,n,D,Pl,rfl,hb,hl,hm,hmm,rfl,hx⟩
 ·exact ⟨none,0,0,[],rfl,by simp,Or.inl rfl,by simp⟩
 have hlm:len≤m:=by rw [hmm];split <;> omega
 rw [hc] at hx
 obtain ⟨f,hf⟩:=choose_lt (α:=List Value) (p:=fun i l=>w.cells? base (a.add (i * c)) c=some l∧DataW.trod enc P w base spare held n e l=some (D i,Pl i)) (fun i hi=>hx i (Nat.lt_of_lt_of_le hi hlm))
 have hlen:∀ i,i < len→(f i).length=c:=fun i hi=>(World.cells?_some (hf i hi).1).2.1
 have hall:∀ l∈(List.range len).map f,l.length=c:=by
  intro l hl
  obtain ⟨i,hi,rfl⟩:=List.mem_map.1 hl
  exact hlen i (List.mem_range.1 hi)
 refine ⟨some a,cap,n,(List.range len).map f,by simp,?_,?_,?_⟩
 ·unfold maxLen at hm;simp;omega
 ·by_cases h0:len=0
  ·subst h0;exact Or.inl rfl
  ·right
   have h00:=(World.cells?_some (hf 0 (by omega)).1).2.2 0 hc0
   obtain ⟨v,hv⟩:∃ v,(f 0)[0]? = some v:=⟨_,List.getElem?_eq_getElem (by rw [hlen 0 (by omega)];exact hc0)⟩
   rw [hv,add_add] at h00
   obtain ⟨b,off,spot⟩:=a
   have hspot:spot=none:=by simpa [Addr.add] using World.cell?_spot h00
   subst hspot
   refine ⟨b,off,rfl,by simpa [Addr.add_lit] using World.block_lt_of_cell? w _ h00,?_⟩
   intro j x hj
   obtain ⟨i,r,rfl,hr,hi,hxr⟩:=flatten_at _ hall j x hj
   have hi' : i < len:=by simpa using hi
   have hxr' : (f i)[r]? = some x:=by simpa [List.getD,hi'] using hxr
   have:=(World.cells?_some (hf i hi').1).2.2 r hr
   rw [add_add,Addr.add_lit,hxr'] at this
   exact this
 ·intro l hl
  obtain ⟨i,hi,rfl⟩:=List.mem_map.1 hl
  exact ⟨hlen i (List.mem_range.1 hi),_,(hf i (List.mem_range.1 hi)).2⟩

end
theorem list_pre {α β:Type} {p:β→α→Prop} {q:α→Prop} (f:β→α) (l:List α) (h:∀ x∈l,∃ b,x=f b):∃ bs:List β,l=bs.map f:=by
 induction l with
 | nil=>exact ⟨[],rfl⟩
 | cons x l ih=>
  obtain ⟨bs,rfl⟩:=ih (fun x hx=>h x (by simp [hx]))
  obtain ⟨b,rfl⟩:=h x (by simp)
  exact ⟨b :: bs,rfl⟩

section
variable {H:Type} {enc:TypeId × Value→H} {w:World} {base:Nat} {spare:Nat→Bool} {held:Bool}
set_option maxRecDepth 100000 in
theorem open_act {fuel:Nat} {cs:List Value} {x:DataW H × List MemPlace} (h:DataW.trod enc Tryz.prog w base spare held fuel 193 cs=some x):∃ z:ActD,cs=z.cells:=by
 obtain ⟨y0,y1,y2,n,_,hl,h0,h1,h2⟩:=trod_struct3 Tryz.underlying193 h
 rw [show Tryz.prog.cellsOf 193=3 by kernel_rfl] at hl
 have e:Tryz.prog.cellsOf 2=1:=by kernel_rfl
 match cs,hl with
 | [c0,c1,c2],_=>
  simp only [e,List.drop_zero,List.drop_succ_cons,List.take_succ_cons,List.take_zero] at h0 h1 h2
  obtain ⟨k,e0,_⟩:=DataW.trod_int Tryz.underlying2 h0
  obtain ⟨y,e1,_⟩:=DataW.trod_int Tryz.underlying2 h1
  obtain ⟨v,e2,_⟩:=DataW.trod_int Tryz.underlying2 h2
  simp only [List.cons.injEq,and_true] at e0 e1 e2
  exact ⟨⟨k,y,v⟩,by rw [e0,e1,e2];rfl⟩

set_option maxRecDepth 100000 in
theorem open_acts {fuel:Nat} {cs:List Value} {x:DataW H × List MemPlace} (h:DataW.trod enc Tryz.prog w base spare held fuel 42 cs=some x) :
  ∃ (a:Option Addr) (cap:Nat) (zs:List ActD),cs=[.slice a zs.length cap]∧zs.length≤9223372036854775807∧ActRow w a zs:=by
 obtain ⟨a,cap,n,css,rfl,hl,hL,hc⟩:=open_row Tryz.underlying42 (show Tryz.prog.cellsOf 193=3 by kernel_rfl) (by omega) h
 obtain ⟨zs,rfl⟩:=list_pre (p:=fun _ _=>True) (q:=fun _=>True) ActD.cells css (fun l hl=>by obtain ⟨_,y,hy⟩:=hc l hl;exact open_act hy)
 refine ⟨a,cap,zs,by simp,by simpa using hl,?_⟩
 rw [← List.flatMap_def] at hL
 exact hL

set_option maxRecDepth 100000 in
theorem open_txnCells {fuel:Nat} {cs:List Value} {x:DataW H × List MemPlace} (h:DataW.trod enc Tryz.prog w base spare held fuel 44 cs=some x) :
  ∃ (i s q:Int) (a:Option Addr) (cap:Nat) (zs:List ActD),cs=[.int .i64 i,.int .i64 s,.int .i64 q,.slice a zs.length cap]∧zs.length≤9223372036854775807∧ActRow w a zs:=by
 obtain ⟨y0,y1,y2,y3,n,_,hl,h0,h1,h2,h3⟩:=Go.Joins.trod_struct4 Tryz.underlying44 h
 rw [show Tryz.prog.cellsOf 44=4 by kernel_rfl] at hl
 have e:Tryz.prog.cellsOf 2=1:=by kernel_rfl
 have e' : Tryz.prog.cellsOf 42=1:=by kernel_rfl
 match cs,hl with
 | [c0,c1,c2,c3],_=>
  simp only [e,e',List.drop_zero,List.drop_succ_cons,List.take_succ_cons,List.take_zero] at h0 h1 h2 h3
  obtain ⟨k,e0,_⟩:=DataW.trod_int Tryz.underlying2 h0
  obtain ⟨y,e1,_⟩:=DataW.trod_int Tryz.underlying2 h1
  obtain ⟨v,e2,_⟩:=DataW.trod_int Tryz.underlying2 h2
  obtain ⟨a,cap,zs,e3,hz,hA⟩:=open_acts h3
  simp only [List.cons.injEq,and_true] at e0 e1 e2 e3
  exact ⟨k,y,v,a,cap,zs,by rw [e0,e1,e2,e3],hz,hA⟩

end
end Go.Proofs.YtfdkcbafpiojkaaGreatDoor
namespace Go.Proofs.YtfdkcbafpiojkaaGreatDoor
open Go.RowKit Go.Deep Go.ChangeShapes Go.WideShapes
set_option maxRecDepth 100000
section
variable {H:Type} {enc:TypeId × Value→H} {w:World} {base:Nat} {spare:Nat→Bool} {held:Bool}
theorem list_pre2 {α β:Type} (f:β→α) (q:β→Prop) (l:List α) (h:∀ x∈l,∃ b,x=f b∧q b):∃ bs:List β,l=bs.map f∧∀ b∈bs,q b:=by
 induction l with
 | nil=>exact ⟨[],rfl,by simp⟩
 | cons x l ih=>
  obtain ⟨bs,rfl,hq⟩:=ih (fun x hx=>h x (by simp [hx]))
  obtain ⟨b,rfl,hb⟩:=h x (by simp)
  exact ⟨b :: bs,rfl,by intro c hc;rcases List.mem_cons.1 hc with rfl | hc;exact hb;exact hq c hc⟩

end
end Go.Proofs.YtfdkcbafpiojkaaGreatDoor
namespace Go.Proofs.YtfdkcbafpiojkaaGreatDoor
open Go.RowKit
open Go.BigFrame
set_option maxRecDepth 100000
def sameA (x y:ActD):Bool:=(x.kind == y.kind) && ((x.key == y.key) && (x.val == y.val))

def sameAs:List ActD→List ActD→Bool
 | [],[]=>true
 | x :: r,y :: s=>sameA x y && sameAs r s
 | _,_=>false

def sameT (x y:TxnD):Bool:=(x.id == y.id) && (x.session == y.session) && (x.seq == y.seq) && sameAs x.acts y.acts

def sameTs:List TxnD→List TxnD→Bool
 | [],[]=>true
 | x :: r,y :: s=>sameT x y && sameTs r s
 | _,_=>false

/-- A comparison of two lists, place by place. -/
theorem same_len {α:Type} {f:α→α→Bool} {g:List α→List α→Bool} (h0:g [] []=true) (h1:∀ x r y s,g (x :: r) (y :: s)=(f x y && g r s)) (h2:∀ x r,g (x :: r) []=false) (h3:∀ y s,g [] (y :: s)=false) :
  ∀ a b,a.length≠b.length→g a b=false:=by
 intro a
 induction a with
 | nil=>intro b h;cases b with | nil=>simp at h | cons y s=>exact h3 y s
 | cons x r ih=>intro b h;cases b with | nil=>exact h2 x r | cons y s=>rw [h1,ih s (by simpa using h)];simp

theorem same_bad {α:Type} {f:α→α→Bool} {g:List α→List α→Bool} (d:α) (h1:∀ x r y s,g (x :: r) (y :: s)=(f x y && g r s)) :
  ∀ a b k,a.length=b.length→k < a.length→f (a.getD k d) (b.getD k d)=false→g a b=false:=by
 intro a
 induction a with
 | nil=>intro b k _ h;simp at h
 | cons x r ih=>
  intro b k hl hk hf
  cases b with
  | nil=>simp at hl
  | cons y s=>
   rw [h1]
   cases k with
   | zero=>simp [List.getD] at hf;simp [hf]
   | succ k=>rw [ih s k (by simpa using hl) (by simpa using hk) (by simpa [List.getD] using hf)];simp

theorem same_all {α:Type} {f:α→α→Bool} {g:List α→List α→Bool} (d:α) (h0:g [] []=true) (h1:∀ x r y s,g (x :: r) (y :: s)=(f x y && g r s)) :
  ∀ a b,a.length=b.length→(∀ k,k < a.length→f (a.getD k d) (b.getD k d)=true)→g a b=true:=by
 intro a
 induction a with
 | nil=>intro b hl _;cases b with | nil=>exact h0 | cons y s=>simp at hl
 | cons x r ih=>
  intro b hl hf
  cases b with
  | nil=>simp at hl
  | cons y s=>
   rw [h1,ih s (by simpa using hl) (fun k hk=>by simpa [List.getD] using hf (k + 1) (by simpa using hk))]
   have:=hf 0 (by simp)
   simp [List.getD] at this
   simp [this]

theorem eqAct_run (x0 x1 x2 y0 y1 y2:Int) (w:World):(binOp .neq 146 (.agg #[.int .i64 x0,.int .i64 x1,.int .i64 x2]) (.agg #[.int .i64 y0,.int .i64 y1,.int .i64 y2])).run Tryz.prog w=.ok (.bool (!sameA ⟨x0,x1,x2⟩ ⟨y0,y1,y2⟩)) w:=by
 rw [run_neq_struct,run_equalIn_struct (P:=Tryz.prog) w 9999 146 _ _ (by kernel_rfl) (by kernel_rfl)]
 have c1:Tryz.prog.cellsOf 2=1:=by kernel_rfl
 cases h0:(x0 == y0) <;> cases h1:(x1 == y1) <;> cases h2:(x2 == y2) <;> simp [Program.fieldsOf,Tryz.underlying146,Op.eqFields,go_sem,Tryz.underlying2,h0,h1,h2,sameA,c1]

set_option maxRecDepth 100000 in
set_option maxHeartbeats 2000000 in
theorem equalA_any (a a' : Option Addr) (cap cap' : Nat) (xs ys:List ActD) (w:World) (h:ActRow w a xs) (h' : ActRow w a' ys) (hl:xs.length≤1048576) (hl' : ys.length≤1048576) :
  Calls Tryz.prog 158 #[.slice a xs.length cap,.slice a' ys.length cap'] w fun e w' => e=.returned (.bool (sameAs xs ys))∧Below w.heap.size w w' := by
 by_cases hlen:xs.length=ys.length
 case neg=>
  have E:sameAs xs ys=false:=same_len (f:=sameA) rfl (fun _ _ _ _=>rfl) (fun _ _=>rfl) (fun _ _=>rfl) xs ys hlen
  rw [E]
  have hd:((xs.length:Int) != (ys.length:Int))=true:=by simp;omega
  go_enter Tryz.func158,Tryz.ntmps158
  go_wp2
  go_ret
  exact ⟨rfl,Below.refl _ _⟩
 case pos=>
  have hd:((xs.length:Int) != (ys.length:Int))=false:=by simp [hlen]
  have HL:Hid (xs.length=ys.length):=hlen
  clear hlen
  go_enter Tryz.func158,Tryz.ntmps158
  go_wp2
  go_loopw [13] (fun i wr=>∃ k m:Nat,k≤xs.length∧i=.int .i64 k∧wr=w.drewN m∧Hid (∀ j,j < k→sameA (xs.getD j actNo) (ys.getD j actNo)=true)) (fun i _=>xs.length - (intOf i).toNat)
  case atStart=>exact ⟨0,0,Nat.zero_le _,rfl,rfl,fun j hj=>absurd hj (Nat.not_lt_zero _)⟩
  case round=>
   obtain ⟨k,m,hk,rfl,rfl,HA⟩:=hrel
   by_cases hlt:k < xs.length
   ·have hlt' : k < ys.length:=by have:=HL.out;omega
    obtain ⟨b,off,rfl,hbs,hc0,hc1,hc2⟩:=h.at k hlt
    obtain ⟨b',off',rfl,hbs',hd0,hd1,hd2⟩:=h'.at k hlt'
    cases hs:sameA (xs.getD k actNo) (ys.getD k actNo)
    case false=>
     have E:Hid (sameAs xs ys=false):=same_bad (f:=sameA) actNo (fun _ _ _ _=>rfl) xs ys k HL.out hlt hs
     have hr:=eqAct_run (xs.getD k actNo).kind (xs.getD k actNo).key (xs.getD k actNo).val (ys.getD k actNo).kind (ys.getD k actNo).key (ys.getD k actNo).val
     rw [show sameA ⟨(xs.getD k actNo).kind,(xs.getD k actNo).key,(xs.getD k actNo).val⟩ ⟨(ys.getD k actNo).kind,(ys.getD k actNo).key,(ys.getD k actNo).val⟩=false from hs,Bool.not_false] at hr
     clear HA hs
     generalize xs.getD k actNo=z at hc0 hc1 hc2 hr
     generalize ys.getD k actNo=z' at hd0 hd1 hd2 hr
     go_wp2
     go_quiet (fail)
     go_wp2
     go_ret
     rw [E.out]
     exact ⟨rfl,⟨rfl,rfl,rfl,Nat.le_refl _,fun _ _=>rfl⟩⟩
    case true=>
     have HB:Hid (∀ j,j < k + 1→sameA (xs.getD j actNo) (ys.getD j actNo)=true):=by
      intro j hj
      by_cases hjk:j=k
      ·subst hjk;exact hs
      ·exact HA.out j (by omega)
     have hr:=eqAct_run (xs.getD k actNo).kind (xs.getD k actNo).key (xs.getD k actNo).val (ys.getD k actNo).kind (ys.getD k actNo).key (ys.getD k actNo).val
     rw [show sameA ⟨(xs.getD k actNo).kind,(xs.getD k actNo).key,(xs.getD k actNo).val⟩ ⟨(ys.getD k actNo).kind,(ys.getD k actNo).key,(ys.getD k actNo).val⟩=true from hs,Bool.not_true] at hr
     clear HA hs
     generalize xs.getD k actNo=z at hc0 hc1 hc2 hr
     generalize ys.getD k actNo=z' at hd0 hd1 hd2 hr
     go_wp2
     go_quiet (fail)
     go_wp2
     go_roundw
     case rel=>exact ⟨k + 1,_,by omega,by go_num,rfl,HB⟩
     case measure=>simp [intOf];omega
   ·have E:Hid (sameAs xs ys=true):=same_all (f:=sameA) actNo rfl (fun _ _ _ _=>rfl) xs ys HL.out (fun j hj=>HA.out j (by omega))
    clear HA
    go_wp2
    go_ret
    rw [E.out]
    exact ⟨rfl,⟨rfl,rfl,rfl,Nat.le_refl _,fun _ _=>rfl⟩⟩

theorem sameT_ways (x y:TxnD):((x.id == y.id)=false∧sameT x y=false)∨((x.id == y.id)=true∧(x.session == y.session)=false∧sameT x y=false)∨((x.id == y.id)=true∧(x.session == y.session)=true∧(x.seq == y.seq)=false∧sameT x y=false) ∨
  ((x.id == y.id)=true∧(x.session == y.session)=true∧(x.seq == y.seq)=true∧sameT x y=sameAs x.acts y.acts):=by
 unfold sameT
 cases h1:(x.id == y.id) <;> cases h2:(x.session == y.session) <;> cases h3:(x.seq == y.seq) <;> simp

set_option maxRecDepth 100000 in
set_option maxHeartbeats 2000000 in
theorem isSameTxn_any (x y:TxnD) (a a' : Option Addr) (cap cap' : Nat) (w:World) (h:ActRow w a x.acts) (h' : ActRow w a' y.acts) (hl:x.acts.length≤1048576) (hl' : y.acts.length≤1048576) :
    Calls Tryz.prog 102 #[.agg #[.int .i64 x.id,.int .i64 x.session,.int .i64 x.seq,.slice a x.acts.length cap],.agg #[.int .i64 y.id,.int .i64 y.session,.int .i64 y.seq,.slice a' y.acts.length cap']] w fun e w' => e=.returned (.bool (sameT x y))∧Below w.heap.size w w' := by
  have hq:=fun w h h' => equalA_any a a' cap cap' x.acts y.acts w h h' hl hl'
  rcases sameT_ways x y with ⟨h1,e⟩ | ⟨h1,h2,e⟩ | ⟨h1,h2,h3,e⟩ | ⟨h1,h2,h3,e⟩ <;> rw [e] <;> clear e
  all_goals
    (generalize sameAs x.acts y.acts=r at hq
     obtain ⟨x0,x1,x2,xs⟩:=x
     obtain ⟨y0,y1,y2,ys⟩:=y
     dsimp only at *)
  all_goals
    (go_enter Tryz.func102,Tryz.ntmps102
     go_wp2_with (go_at_call 158;refine (hq _ (h.below (by go_grown)) (h'.below (by go_grown))).mono ?_;rintro e w' ⟨rfl,hb⟩)
     go_ret)
  · exact ⟨rfl,by go_grown⟩
  · exact ⟨rfl,by go_grown⟩
  · exact ⟨rfl,by go_grown⟩
  · exact ⟨rfl,below_from (by go_grown) hb⟩

end Go.Proofs.YtfdkcbafpiojkaaGreatDoor
namespace Go.Proofs.YtfdkcbafpiojkaaGreatDoor
open Go.RowKit
open Go.BigFrame
set_option maxRecDepth 100000
set_option maxRecDepth 100000 in
set_option maxHeartbeats 2000000 in
theorem equalFunc_any (v v' : Value) (xs ys:List TxnD) (w:World) (h:TxnsAt w v xs) (h' : TxnsAt w v' ys) (hl:xs.length + sumA xs≤1048576) (hl' : ys.length + sumA ys≤1048576) :
  Calls Tryz.prog 101 #[v,v',.func (.func 102) #[] #[]] w fun e w' => e=.returned (.bool (sameTs xs ys))∧Below w.heap.size w w' := by
 obtain ⟨a,cap,rfl⟩:=h.shape
 obtain ⟨a',cap',rfl⟩:=h'.shape
 by_cases hlen:xs.length=ys.length
 case neg=>
  have E:sameTs xs ys=false:=same_len (f:=sameT) rfl (fun _ _ _ _=>rfl) (fun _ _=>rfl) (fun _ _=>rfl) xs ys hlen
  rw [E]
  have hd:((xs.length:Int) != (ys.length:Int))=true:=by simp;omega
  go_enter Tryz.func101,Tryz.ntmps101
  go_wp2
  go_ret
  exact ⟨rfl,Below.refl _ _⟩
 case pos=>
  have hd:((xs.length:Int) != (ys.length:Int))=false:=by simp [hlen]
  have HL:Hid (xs.length=ys.length):=hlen
  clear hlen
  go_enter Tryz.func101,Tryz.ntmps101
  go_wp2
  go_loopw [17] (fun i wr=>∃ k:Nat,k≤xs.length∧i=.int .i64 k∧Below w.heap.size w wr∧Hid (∀ j,j < k→sameT (xs.getD j txnNo) (ys.getD j txnNo)=true)) (fun i _=>xs.length - (intOf i).toNat)
  case atStart=>exact ⟨0,Nat.zero_le _,rfl,Below.refl _ _,fun j hj=>absurd hj (Nat.not_lt_zero _)⟩
  case round=>
   obtain ⟨k,hk,rfl,hb,HA⟩:=hrel
   by_cases hlt:k < xs.length
   ·have hlt' : k < ys.length:=by have:=HL.out;omega
    obtain ⟨b,off,aa,cc,rfl,hbs,hc0,hc1,hc2,hc3,hA⟩:=(h.below hb).at k hlt
    obtain ⟨b',off',aa',cc',rfl,hbs',hd0,hd1,hd2,hd3,hA'⟩:=(h'.below hb).at k hlt'
    have hzl:(xs.getD k txnNo).acts.length≤sumA xs:=mem_le_sumA (by simp [List.getD,hlt])
    have hzl' : (ys.getD k txnNo).acts.length≤sumA ys:=mem_le_sumA (by simp [List.getD,hlt'])
    have hq:=fun w h h' => isSameTxn_any (xs.getD k txnNo) (ys.getD k txnNo) aa aa' cc cc' w h h' (by omega) (by omega)
    have hs5:=hb.size
    have hal:∀ (o:Obj) (j:Nat),(wr.alloc o).cell? ⟨b',j,none⟩=wr.cell? ⟨b',j,none⟩:=fun o j=>(show Below wr.heap.size wr (wr.alloc o) by go_grown).cell (p:=⟨b',j,none⟩) hbs'
    cases hs:sameT (xs.getD k txnNo) (ys.getD k txnNo)
    case false=>
     have E:Hid (sameTs xs ys=false):=same_bad (f:=sameT) txnNo (fun _ _ _ _=>rfl) xs ys k HL.out hlt hs
     rw [hs] at hq
     clear HA hs
     generalize xs.getD k txnNo=z at hc0 hc1 hc2 hc3 hA hq hzl
     generalize ys.getD k txnNo=z' at hd0 hd1 hd2 hd3 hA' hq hzl'
     obtain ⟨z0,z1,z2,zs⟩:=z
     obtain ⟨y0,y1,y2,us⟩:=z'
     dsimp only at hc0 hc1 hc2 hc3 hA hd0 hd1 hd2 hd3 hA' hq hzl hzl'
     go_wp2_with fail
     refine (hq _ (hA.below (by go_grown)) (hA'.below (by go_grown))).mono ?_
     rintro e w2 ⟨rfl,hb2⟩
     go_wp2
     go_ret
     rw [E.out]
     exact ⟨rfl,below_from (below_from hb (by go_grown)) hb2⟩
    case true=>
     have HB:Hid (∀ j,j < k + 1→sameT (xs.getD j txnNo) (ys.getD j txnNo)=true):=by
      intro j hj
      by_cases hjk:j=k
      ·subst hjk;exact hs
      ·exact HA.out j (by omega)
     rw [hs] at hq
     clear HA hs
     generalize xs.getD k txnNo=z at hc0 hc1 hc2 hc3 hA hq hzl
     generalize ys.getD k txnNo=z' at hd0 hd1 hd2 hd3 hA' hq hzl'
     obtain ⟨z0,z1,z2,zs⟩:=z
     obtain ⟨y0,y1,y2,us⟩:=z'
     dsimp only at hc0 hc1 hc2 hc3 hA hd0 hd1 hd2 hd3 hA' hq hzl hzl'
     go_wp2_with fail
     refine (hq _ (hA.below (by go_grown)) (hA'.below (by go_grown))).mono ?_
     rintro e w2 ⟨rfl,hb2⟩
     have hb3:=below_from (below_from hb (by go_grown)) hb2
     clear hb2 hal hc0 hc1 hc2 hc3 hd0 hd1 hd2 hd3 hA hA' hq
     go_wp2
     go_roundw
     case rel=>exact ⟨k + 1,by omega,by go_num,hb3,HB⟩
     case measure=>simp [intOf];omega
   ·have E:Hid (sameTs xs ys=true):=same_all (f:=sameT) txnNo rfl (fun _ _ _ _=>rfl) xs ys HL.out (fun j hj=>HA.out j (by omega))
    clear HA
    go_wp2
    go_ret
    rw [E.out]
    exact ⟨rfl,hb⟩

set_option maxRecDepth 100000 in
set_option maxHeartbeats 1000000 in
theorem implSameTxns_any (v v' : Value) (xs ys:List TxnD) (w:World) (h:TxnsAt w v xs) (h' : TxnsAt w v' ys) (hl:xs.length + sumA xs≤1048576) (hl' : ys.length + sumA ys≤1048576) :
  Calls Tryz.prog 42 #[v,v'] w fun e w' => e=.returned (.bool (sameTs xs ys))∧Below w.heap.size w w' := by
 have hq:=equalFunc_any v v' xs ys w h h' hl hl'
 generalize sameTs xs ys=r at hq
 go_enter Tryz.func42,Tryz.ntmps42
 go_wp2_with fail
 refine hq.mono ?_
 rintro e w2 ⟨rfl,hb⟩
 go_wp2
 go_ret
 exact ⟨rfl,hb⟩

end Go.Proofs.YtfdkcbafpiojkaaGreatDoor
namespace Go.Proofs.YtfdkcbafpiojkaaGreatDoor
open Go.RowKit
open Go.BigFrame
set_option maxRecDepth 100000
theorem sameT_ways2 (x y:TxnD):((x.id != y.id)=true∧sameT x y=false)∨((x.id != y.id)=false∧(x.session != y.session)=true∧sameT x y=false)∨((x.id != y.id)=false∧(x.session != y.session)=false∧(x.seq != y.seq)=true∧sameT x y=false) ∨
  ((x.id != y.id)=false∧(x.session != y.session)=false∧(x.seq != y.seq)=false∧((x.acts.length:Int) != (y.acts.length:Int))=true∧sameT x y=false) ∨
  ((x.id != y.id)=false∧(x.session != y.session)=false∧(x.seq != y.seq)=false∧((x.acts.length:Int) != (y.acts.length:Int))=false∧sameT x y=sameAs x.acts y.acts):=by
 by_cases hl:x.acts.length=y.acts.length
 ·rcases sameT_ways x y with ⟨h1,e⟩ | ⟨h1,h2,e⟩ | ⟨h1,h2,h3,e⟩ | ⟨h1,h2,h3,e⟩ <;> simp [bne, *]
 ·have hs:sameAs x.acts y.acts=false:=same_len (f:=sameA) rfl (fun _ _ _ _=>rfl) (fun _ _=>rfl) (fun _ _=>rfl) _ _ hl
  have hl2:¬ ((x.acts.length:Int)=(y.acts.length:Int)):=by omega
  rcases sameT_ways x y with ⟨h1,e⟩ | ⟨h1,h2,e⟩ | ⟨h1,h2,h3,e⟩ | ⟨h1,h2,h3,e⟩ <;> simp [bne, *]

set_option maxRecDepth 100000 in
set_option maxHeartbeats 4000000 in
theorem l2Same_any (x y:TxnD) (b o b' o' : Nat) (a a' : Option Addr) (cap cap' : Nat) (w:World) (hB:Box4 w b o (.int .i64 x.id) (.int .i64 x.session) (.int .i64 x.seq) (.slice a x.acts.length cap)) (hB' : Box4 w b' o' (.int .i64 y.id) (.int .i64 y.session) (.int .i64 y.seq) (.slice a' y.acts.length cap'))
  (h:ActRow w a x.acts) (h' : ActRow w a' y.acts) (hl:x.acts.length≤1048576) (hl' : y.acts.length≤1048576) :
  Calls Tryz.prog 188 #[.pointer (some ⟨b,o,none⟩),.pointer (some ⟨b',o',none⟩)] w fun e w' => e=.returned (.bool (sameT x y))∧Below w.heap.size w w' := by
 obtain ⟨c0,c1,c2,c3⟩:=hB
 obtain ⟨d0,d1,d2,d3⟩:=hB'
 rcases sameT_ways2 x y with ⟨h1,e⟩ | ⟨h1,h2,e⟩ | ⟨h1,h2,h3,e⟩ | ⟨h1,h2,h3,h4,e⟩ | ⟨h1,h2,h3,h4,e⟩ <;> rw [e] <;> clear e <;> obtain ⟨x0,x1,x2,xs⟩:=x <;> obtain ⟨y0,y1,y2,ys⟩:=y <;> dsimp only at *
 ·go_enter Tryz.func188,Tryz.ntmps188
  go_wp2_with fail
  go_quiet (fail)
  go_wp2
  go_ret
  exact ⟨rfl,⟨rfl,rfl,rfl,Nat.le_refl _,fun _ _=>rfl⟩⟩
 ·go_enter Tryz.func188,Tryz.ntmps188
  go_wp2_with fail
  go_quiet (fail)
  go_wp2
  go_ret
  exact ⟨rfl,⟨rfl,rfl,rfl,Nat.le_refl _,fun _ _=>rfl⟩⟩
 ·go_enter Tryz.func188,Tryz.ntmps188
  go_wp2_with fail
  go_quiet (fail)
  go_wp2
  go_ret
  exact ⟨rfl,⟨rfl,rfl,rfl,Nat.le_refl _,fun _ _=>rfl⟩⟩
 ·go_enter Tryz.func188,Tryz.ntmps188
  go_wp2_with fail
  go_quiet (fail)
  go_wp2
  go_ret
  exact ⟨rfl,⟨rfl,rfl,rfl,Nat.le_refl _,fun _ _=>rfl⟩⟩
 ·have hlen:xs.length=ys.length:=by simp at h4;omega
  have HL:Hid (xs.length=ys.length):=hlen
  clear hlen
  go_enter Tryz.func188,Tryz.ntmps188
  go_wp2_with fail
  go_quiet (fail)
  go_wp2
  go_loopw [5] (fun i wr=>∃ k m:Nat,k≤xs.length∧i=.int .i64 k∧wr=w.drewN m∧Hid (∀ j,j < k→sameA (xs.getD j actNo) (ys.getD j actNo)=true)) (fun i _=>xs.length - (intOf i).toNat)
  case atStart=>exact ⟨0,_,Nat.zero_le _,rfl,rfl,fun j hj=>absurd hj (Nat.not_lt_zero _)⟩
  case round=>
   obtain ⟨k,m,hk,rfl,rfl,HA⟩:=hrel
   by_cases hlt:k < xs.length
   ·have hlt' : k < ys.length:=by have:=HL.out;omega
    obtain ⟨bb,off,rfl,hbs,hc0,hc1,hc2⟩:=h.at k hlt
    obtain ⟨bb',off',rfl,hbs',hd0,hd1,hd2⟩:=h'.at k hlt'
    have hr:=eqAct_run (xs.getD k actNo).kind (xs.getD k actNo).key (xs.getD k actNo).val (ys.getD k actNo).kind (ys.getD k actNo).key (ys.getD k actNo).val
    cases hs:sameA (xs.getD k actNo) (ys.getD k actNo)
    case false=>
     have E:Hid (sameAs xs ys=false):=same_bad (f:=sameA) actNo (fun _ _ _ _=>rfl) xs ys k HL.out hlt hs
     rw [show sameA ⟨(xs.getD k actNo).kind,(xs.getD k actNo).key,(xs.getD k actNo).val⟩ ⟨(ys.getD k actNo).kind,(ys.getD k actNo).key,(ys.getD k actNo).val⟩=false from hs,Bool.not_false] at hr
     clear HA hs
     generalize xs.getD k actNo=z at hc0 hc1 hc2 hr
     generalize ys.getD k actNo=z' at hd0 hd1 hd2 hr
     go_wp2
     go_quiet (fail)
     go_wp2
     go_ret
     rw [E.out]
     exact ⟨rfl,⟨rfl,rfl,rfl,Nat.le_refl _,fun _ _=>rfl⟩⟩
    case true=>
     have HB:Hid (∀ j,j < k + 1→sameA (xs.getD j actNo) (ys.getD j actNo)=true):=by
      intro j hj
      by_cases hjk:j=k
      ·subst hjk;exact hs
      ·exact HA.out j (by omega)
     rw [show sameA ⟨(xs.getD k actNo).kind,(xs.getD k actNo).key,(xs.getD k actNo).val⟩ ⟨(ys.getD k actNo).kind,(ys.getD k actNo).key,(ys.getD k actNo).val⟩=true from hs,Bool.not_true] at hr
     clear HA hs
     generalize xs.getD k actNo=z at hc0 hc1 hc2 hr
     generalize ys.getD k actNo=z' at hd0 hd1 hd2 hr
     go_wp2
     go_quiet (fail)
     go_wp2
     go_roundw
     case rel=>exact ⟨k + 1,_,by omega,by go_num,rfl,HB⟩
     case measure=>simp [intOf];omega
   ·have E:Hid (sameAs xs ys=true):=same_all (f:=sameA) actNo rfl (fun _ _ _ _=>rfl) xs ys HL.out (fun j hj=>HA.out j (by omega))
    clear HA
    go_wp2
    go_ret
    rw [E.out]
    exact ⟨rfl,⟨rfl,rfl,rfl,Nat.le_refl _,fun _ _=>rfl⟩⟩

end Go.Proofs.YtfdkcbafpiojkaaGreatDoor
