/- Texts joined, with what the laws reach alone. -/
import Derived.Test.YtjjoahhnkpjolaaGreatDoorCFAD
set_option linter.unusedVariables false
set_option linter.unusedSimpArgs false
namespace Go.Proofs.YtjjoahhnkpjolaaGreatDoor
open Go.RowKit
open Go.BigFrame
set_option maxRecDepth 100000
structure ItemD where
 key:Int
 val:Int
deriving DecidableEq

def itemNo:ItemD:=⟨0,0⟩

def ItemD.cells (x:ItemD):List Value:=[.int .i64 x.key,.int .i64 x.val]

def itemCells (xs:List ItemD):List Value:=xs.flatMap ItemD.cells

def ItemRow (w:World) (a:Option Addr) (xs:List ItemD):Prop:=Lies w a (itemCells xs)

theorem itemCells_length (xs:List ItemD):(itemCells xs).length=xs.length * 2:=by
 induction xs with
 | nil=>rfl
 | cons x xs ih=>simp only [itemCells,List.flatMap_cons,List.length_append,List.length_cons] at ih ⊢;rw [ih];simp [ItemD.cells];omega

theorem itemCells_get (xs:List ItemD):∀ (i:Nat),i < xs.length→(itemCells xs)[i * 2]? = some (.int .i64 (xs.getD i itemNo).key)∧(itemCells xs)[i * 2 + 1]? = some (.int .i64 (xs.getD i itemNo).val):=by
 induction xs with
 | nil=>intro i h;simp at h
 | cons x xs ih=>
  intro i h
  cases i with
  | zero=>simp [itemCells,ItemD.cells]
  | succ i=>
   have e:itemCells (x :: xs)=x.cells ++ itemCells xs:=rfl
   have hl:x.cells.length=2:=rfl
   obtain ⟨h1,h2⟩:=ih i (by simpa using h)
   rw [e,List.getElem?_append_right (by omega),List.getElem?_append_right (by omega),hl,show (i + 1) * 2 - 2=i * 2 by omega,show (i + 1) * 2 + 1 - 2=i * 2 + 1 by omega]
   simpa [List.getD] using ⟨h1,h2⟩

theorem ItemRow.below {w w' : World} {a:Option Addr} {xs:List ItemD} (h:ItemRow w a xs) (hb:Below w.heap.size w w'):ItemRow w' a xs:=Lies.below h hb

theorem ItemRow.at {w:World} {a:Option Addr} {xs:List ItemD} (h:ItemRow w a xs) (i:Nat) (hi:i < xs.length) :
  ∃ b off,a=some ⟨b,off,none⟩∧b < w.heap.size∧w.cell? ⟨b,off + i * 2,none⟩=some (.int .i64 (xs.getD i itemNo).key)∧w.cell? ⟨b,off + i * 2 + 1,none⟩=some (.int .i64 (xs.getD i itemNo).val):=by
 obtain ⟨h1,h2⟩:=itemCells_get xs i hi
 rcases h with h | ⟨b,off,ha,hlt,hc⟩
 ·have:=itemCells_length xs
  rw [h] at this
  simp at this
  omega
 ·exact ⟨b,off,ha,hlt,hc _ _ h1,by rw [Nat.add_assoc];exact hc _ _ h2⟩

theorem infoItem:(Tryz.prog.info? 173).map (fun i=>(i.zero,i.size,i.bytes))=some (some (.agg #[.int .i64 0,.int .i64 0]),2,16):=by kernel_rfl

set_option maxHeartbeats 1000000 in
theorem toItem_any (k:Int) (y:Int) (w:World) :
  Calls Tryz.prog 165 #[.agg #[.int .i64 k,.int .i64 y]] w fun e w' => e=.returned (.agg #[.int .i64 k,.int .i64 y])∧Below w.heap.size w w' := by
 go_enter Tryz.func165,Tryz.ntmps165
 go_wp2
 exact bodyPost_ret (v:=.agg #[.int .i64 k,.int .i64 y]) (by simp [results,Tryz.results165,go_sem]) rfl ⟨rfl,by go_grown⟩

/-- The cells of one element are written over. -/
theorem layItem {w:World} {base e g cap n k:Nat} {zs ys:List Value} {v0 v1:Value} (ho:w.ownsRow base e 2 (.slice (some ⟨g,0,none⟩) n cap) n (layV zs ys (k * 2)))
  (hl:ys.length=zs.length) (hz:zs.length=n * 2) (hk:k < n) (g0:zs[k * 2]? = some v0) (g1:zs[k * 2 + 1]? = some v1) :
  ((w.setCell ⟨g,k * 2,none⟩ v0).setCell ⟨g,k * 2 + 1,none⟩ v1).ownsRow base e 2 (.slice (some ⟨g,0,none⟩) n cap) n (layV zs ys ((k + 1) * 2)) ∧
  (w.frozen? ⟨g,k * 2,none⟩=false∧w.frozen? ⟨g,k * 2 + 1,none⟩=false) ∧
  ((∃ u,w.cell? ⟨g,k * 2,none⟩=some u)∧(∃ u,w.cell? ⟨g,k * 2 + 1,none⟩=some u)) ∧
  (∀ B a,Below B a w→B≤g→Below B a ((w.setCell ⟨g,k * 2,none⟩ v0).setCell ⟨g,k * 2 + 1,none⟩ v1)):=by
 have hc:∀ j,j < n * 2→∃ u,w.cell? ⟨g,j,none⟩=some u:=fun j hj=>by
  rw [ho.cellAt j hj]
  exact ⟨_,List.getElem?_eq_getElem (by rw [ho.1];exact hj)⟩
 have s0:=(ho.stored (k * 2) v0).1
 rw [layV_step _ _ _ _ hl g0] at s0
 have s1:=(s0.stored (k * 2 + 1) v1).1
 rw [layV_step _ _ _ _ hl g1,show k * 2 + 1 + 1=(k + 1) * 2 by omega] at s1
 exact ⟨s1,⟨ho.frozenAt _,ho.frozenAt _⟩,⟨hc _ (by omega),hc _ (by omega)⟩,fun B a h hB=>((h.setCell hB _).setCell hB _)⟩

set_option maxHeartbeats 1000000 in
theorem toItemS_any (a:Option Addr) (cap:Nat) (zs:List ItemD) (w:World) (h:ItemRow w a zs) (hl:zs.length≤1048576) :
  Calls Tryz.prog 124 #[.slice a zs.length cap] w fun e w' => ∃ g c,e=.returned (.slice (some ⟨g,0,none⟩) zs.length c) ∧
   w'.ownsRow w.heap.size 173 2 (.slice (some ⟨g,0,none⟩) zs.length c) zs.length (itemCells zs)∧Below w.heap.size w w' := by
 obtain ⟨i0,hi,hz0,hz1,hz2⟩:=info_parts infoItem
 have hbytes:i0.bytes * zs.length≤281474976710656:=by rw [hz2];omega
 have hmax:zs.length≤maxLen:=by unfold maxLen;omega
 have hcl:=itemCells_length zs
 go_enter Tryz.func124,Tryz.ntmps124
 go_wp2_with (at_make;refine wpList_make_full _ rfl _ _ 53 rfl w.heap.size 173 i0 (.agg #[.int .i64 0,.int .i64 0]) 2 Tryz.underlying53 hi hz0 hz1 _ _ _ _ zs.length rfl rfl rfl rfl hbytes hmax (Nat.le_refl _) ?_)
 intro w1 hown hgrow
 have hlen0:(madeCells #[Value.int .i64 0,.int .i64 0] (zs.length * 2)).toList.length=(itemCells zs).length:=by simp [size_madeCells,hcl]
 have hb1:Below w.heap.size w w1:=(Below.refl _ _).grown hgrow (Nat.le_refl _) (by simp)
 generalize (madeCells #[Value.int .i64 0,.int .i64 0] (zs.length * 2)).toList=ys at hown hlen0
 rw [← layV_zero (itemCells zs) ys] at hown
 go_wp2
 go_loopw [4] (fun i wr=>∃ k:Nat,k≤zs.length∧i=.int .i64 k∧wr.ownsRow w.heap.size 173 2 (.slice (some ⟨w.heap.size,0,none⟩) zs.length zs.length) zs.length (layV (itemCells zs) ys (k * 2))∧Below w.heap.size w wr) (fun i _=>zs.length - (intOf i).toNat)
 case atStart=>exact ⟨0,Nat.zero_le _,rfl,by simpa using hown,hb1⟩
 case round=>
  obtain ⟨k,hk,rfl,ho,hb⟩:=hrel
  by_cases hlt:k < zs.length
  ·obtain ⟨b,off,rfl,hbs,hc0,hc1⟩:=(h.below hb).at k hlt
   obtain ⟨g0,g1⟩:=itemCells_get zs k hlt
   generalize zs.getD k itemNo=z at hc0 hc1 g0 g1
   go_wp2_with fail
   refine (toItem_any _ _ _).mono ?_
   rintro e w2 ⟨rfl,hb2⟩
   replace ho:=own_below ho hb2
   replace hb:=hb.trans (hb2.mono hb.size)
   clear hc0 hc1 hb2
   obtain ⟨hst,hfr,hce,hbel⟩:=layItem ho hlen0 hcl hlt g0 g1
   obtain ⟨f0,f1⟩:=hfr
   obtain ⟨⟨u0,e0⟩,⟨u1,e1⟩⟩:=hce
   have R:Hid (_∧_):=⟨hst,hbel _ _ hb (Nat.le_refl _)⟩
   clear hst hbel g0 g1 ho
   go_wp2
   go_roundw
   case rel=>exact ⟨k + 1,by omega,by go_num,R.out.1,R.out.2⟩
   case measure=>simp [intOf];omega
  ·go_wp2
   go_ret
   have hkl:k=zs.length:=by omega
   subst hkl
   rw [layV_all _ _ _ hlen0 hcl] at ho
   exact ⟨_,_,rfl,ho,hb⟩

set_option maxHeartbeats 1000000 in
theorem eqItem_true (k:Int) (y:Int) (w:World) :
  Calls Tryz.prog 188 #[.agg #[.int .i64 k,.int .i64 y],.agg #[.int .i64 k,.int .i64 y]] w fun e w' => e=.returned (.bool true)∧Below w.heap.size w w' := by
 have h0:(k != k)=false:=by simp
 have h1:(y != y)=false:=by simp
 go_enter Tryz.func188,Tryz.ntmps188
 go_wp2
 go_ret
 exact ⟨rfl,by go_grown⟩

set_option maxHeartbeats 2000000 in
theorem eqItemS_true (a a' : Option Addr) (cap cap' : Nat) (zs:List ItemD) (w:World) (h:ItemRow w a zs) (h' : ItemRow w a' zs) (hl:zs.length≤1099511627776) :
  Calls Tryz.prog 140 #[.slice a zs.length cap,.slice a' zs.length cap'] w fun e w' => e=.returned (.bool true)∧Below w.heap.size w w' := by
 go_enter Tryz.func140,Tryz.ntmps140
 go_wp2
 go_loopw [5] (fun i wr=>∃ k:Nat,k≤zs.length∧i=.int .i64 k∧Below w.heap.size w wr) (fun i _=>zs.length - (intOf i).toNat)
 case atStart=>exact ⟨0,Nat.zero_le _,rfl,Below.refl _ _⟩
 case round=>
  obtain ⟨k,hk,rfl,hb⟩:=hrel
  by_cases hlt:k < zs.length
  ·obtain ⟨b,off,rfl,hbs,hc0,hc1⟩:=(h.below hb).at k hlt
   obtain ⟨b',off',rfl,hbs',hd0,hd1⟩:=(h'.below hb).at k hlt
   generalize zs.getD k itemNo=z at hc0 hc1 hd0 hd1
   obtain ⟨z0,z1⟩:=z
   have k0:=lat_cell hc0
   have l0:=lat_cell hd0
   have k1:=lat_cell hc1
   have l1:=lat_cell hd1
   clear hc0 hc1 hd0 hd1
   have hW:Below wr.heap.size wr wr.drew:=(Below.refl _ _).drew
   have hne:Nonempty (Lat wr):=⟨⟨wr,Below.refl _ _⟩⟩
   go_wp2_with fail
   refine text_begin (S:=fun w' => ∃ u:Lat wr,w' = u.val) (by kernel_rfl) ?_
   refine sgr [(0,8)] 2 (by kernel_rfl) ⟨⟨_,hW⟩,rfl⟩ ?_
   simp only [pkE]
   repeat go_big_quiet_step (fail)
   refine wpQuiet_nil ?_
   refine cla 8 (some 25) 188 #[.agg #[.int .i64 z0,.int .i64 z1],.agg #[.int .i64 z0,.int .i64 z1]] 1 (by kernel_rfl) ?_
   refine (eqItem_true _ _ _).mono ?_
   rintro e w2 ⟨rfl,hb2⟩
   replace hW:=hW.trans (hb2.mono hW.size)
   clear hb2
   refine ⟨_,rfl,⟨⟨_,hW⟩,rfl⟩,?_⟩
   simp only [Act.put,pjE]
   refine sgr [(9,1)] 0 (by kernel_rfl) ⟨⟨_,hW⟩,rfl⟩ ?_
   simp only [pkE]
   repeat go_big_quiet_step (fail)
   refine wpQuiet_nil ?_
   refine text_end (by kernel_rfl) ?_
   replace hb:=hb.trans (hW.mono hb.size)
   clear k0 l0 k1 l1 hW hne
   go_wp2
   go_roundw
   case rel=>exact ⟨k + 1,by omega,by go_num,hb⟩
   case measure=>simp [intOf];omega
  ·go_wp2
   go_ret
   exact ⟨rfl,hb⟩

/-- Marks, 2 cells an element. -/
def itemMarks (c:Int) (n:Nat):List ItemD:=(List.range n).map fun (i:Nat)=>⟨c + ((i * 2:Nat):Int),c + ((i * 2 + 1:Nat):Int)⟩

set_option maxHeartbeats 1000000 in
theorem szItemS_any (a:Option Addr) (n cap:Nat) (c:Int) (w:World) (hn:n≤9223372036854775807) (h0:0≤c) (h1:c≤1099511627776) :
  Calls Tryz.prog 109 #[.slice a n cap,.int .i64 c] w fun e w' => e=.returned (.int .i64 (if c - n < 0 then -1 else c - n))∧w' = w:=by
 by_cases h:c - n < 0
 ·rw [if_pos h]
  go_enter Tryz.func109,Tryz.ntmps109
  go_wp2
  go_ret
  exact ⟨rfl,rfl⟩
 ·rw [if_neg h]
  go_enter Tryz.func109,Tryz.ntmps109
  go_wp2
  go_ret
  exact ⟨rfl,rfl⟩

end Go.Proofs.YtjjoahhnkpjolaaGreatDoor
namespace Go.Proofs.YtjjoahhnkpjolaaGreatDoor
open Go.RowKit
open Go.BigFrame
set_option maxRecDepth 100000
structure UndoD where
 key:Int
 was:Bool
 val:Int
deriving DecidableEq

def undoNo:UndoD:=⟨0,false,0⟩

def UndoD.cells (x:UndoD):List Value:=[.int .i64 x.key,.bool x.was,.int .i64 x.val]

def undoCells (xs:List UndoD):List Value:=xs.flatMap UndoD.cells

def UndoRow (w:World) (a:Option Addr) (xs:List UndoD):Prop:=Lies w a (undoCells xs)

theorem undoCells_length (xs:List UndoD):(undoCells xs).length=xs.length * 3:=by
 induction xs with
 | nil=>rfl
 | cons x xs ih=>simp only [undoCells,List.flatMap_cons,List.length_append,List.length_cons] at ih ⊢;rw [ih];simp [UndoD.cells];omega

theorem undoCells_get (xs:List UndoD):∀ (i:Nat),i < xs.length→(undoCells xs)[i * 3]? = some (.int .i64 (xs.getD i undoNo).key)∧(undoCells xs)[i * 3 + 1]? = some (.bool (xs.getD i undoNo).was)∧(undoCells xs)[i * 3 + 2]? = some (.int .i64 (xs.getD i undoNo).val):=by
 induction xs with
 | nil=>intro i h;simp at h
 | cons x xs ih=>
  intro i h
  cases i with
  | zero=>simp [undoCells,UndoD.cells]
  | succ i=>
   have e:undoCells (x :: xs)=x.cells ++ undoCells xs:=rfl
   have hl:x.cells.length=3:=rfl
   obtain ⟨h1,h2,h3⟩:=ih i (by simpa using h)
   rw [e,List.getElem?_append_right (by omega),List.getElem?_append_right (by omega),List.getElem?_append_right (by omega),hl,show (i + 1) * 3 - 3=i * 3 by omega,show (i + 1) * 3 + 1 - 3=i * 3 + 1 by omega,show (i + 1) * 3 + 2 - 3=i * 3 + 2 by omega]
   simpa [List.getD] using ⟨h1,h2,h3⟩

theorem UndoRow.below {w w' : World} {a:Option Addr} {xs:List UndoD} (h:UndoRow w a xs) (hb:Below w.heap.size w w'):UndoRow w' a xs:=Lies.below h hb

theorem UndoRow.at {w:World} {a:Option Addr} {xs:List UndoD} (h:UndoRow w a xs) (i:Nat) (hi:i < xs.length) :
  ∃ b off,a=some ⟨b,off,none⟩∧b < w.heap.size∧w.cell? ⟨b,off + i * 3,none⟩=some (.int .i64 (xs.getD i undoNo).key)∧w.cell? ⟨b,off + i * 3 + 1,none⟩=some (.bool (xs.getD i undoNo).was)∧w.cell? ⟨b,off + i * 3 + 2,none⟩=some (.int .i64 (xs.getD i undoNo).val):=by
 obtain ⟨h1,h2,h3⟩:=undoCells_get xs i hi
 rcases h with h | ⟨b,off,ha,hlt,hc⟩
 ·have:=undoCells_length xs
  rw [h] at this
  simp at this
  omega
 ·exact ⟨b,off,ha,hlt,hc _ _ h1,by rw [Nat.add_assoc];exact hc _ _ h2,by rw [Nat.add_assoc];exact hc _ _ h3⟩

theorem infoUndo:(Tryz.prog.info? 223).map (fun i=>(i.zero,i.size,i.bytes))=some (some (.agg #[.int .i64 0,.bool false,.int .i64 0]),3,24):=by kernel_rfl

set_option maxHeartbeats 1000000 in
theorem toUndo_any (k:Int) (y:Bool) (v:Int) (w:World) :
  Calls Tryz.prog 200 #[.agg #[.int .i64 k,.bool y,.int .i64 v]] w fun e w' => e=.returned (.agg #[.int .i64 k,.bool y,.int .i64 v])∧Below w.heap.size w w' := by
 go_enter Tryz.func200,Tryz.ntmps200
 go_wp2
 exact bodyPost_ret (v:=.agg #[.int .i64 k,.bool y,.int .i64 v]) (by simp [results,Tryz.results200,go_sem]) rfl ⟨rfl,by go_grown⟩

/-- The cells of one element are written over. -/
theorem layUndo {w:World} {base e g cap n k:Nat} {zs ys:List Value} {v0 v1 v2:Value} (ho:w.ownsRow base e 3 (.slice (some ⟨g,0,none⟩) n cap) n (layV zs ys (k * 3)))
  (hl:ys.length=zs.length) (hz:zs.length=n * 3) (hk:k < n) (g0:zs[k * 3]? = some v0) (g1:zs[k * 3 + 1]? = some v1) (g2:zs[k * 3 + 2]? = some v2) :
  (((w.setCell ⟨g,k * 3,none⟩ v0).setCell ⟨g,k * 3 + 1,none⟩ v1).setCell ⟨g,k * 3 + 2,none⟩ v2).ownsRow base e 3 (.slice (some ⟨g,0,none⟩) n cap) n (layV zs ys ((k + 1) * 3)) ∧
  (w.frozen? ⟨g,k * 3,none⟩=false∧w.frozen? ⟨g,k * 3 + 1,none⟩=false∧w.frozen? ⟨g,k * 3 + 2,none⟩=false) ∧
  ((∃ u,w.cell? ⟨g,k * 3,none⟩=some u)∧(∃ u,w.cell? ⟨g,k * 3 + 1,none⟩=some u)∧(∃ u,w.cell? ⟨g,k * 3 + 2,none⟩=some u)) ∧
  (∀ B a,Below B a w→B≤g→Below B a (((w.setCell ⟨g,k * 3,none⟩ v0).setCell ⟨g,k * 3 + 1,none⟩ v1).setCell ⟨g,k * 3 + 2,none⟩ v2)):=by
 have hc:∀ j,j < n * 3→∃ u,w.cell? ⟨g,j,none⟩=some u:=fun j hj=>by
  rw [ho.cellAt j hj]
  exact ⟨_,List.getElem?_eq_getElem (by rw [ho.1];exact hj)⟩
 have s0:=(ho.stored (k * 3) v0).1
 rw [layV_step _ _ _ _ hl g0] at s0
 have s1:=(s0.stored (k * 3 + 1) v1).1
 rw [layV_step _ _ _ _ hl g1] at s1
 have s2:=(s1.stored (k * 3 + 2) v2).1
 rw [layV_step _ _ _ _ hl g2,show k * 3 + 2 + 1=(k + 1) * 3 by omega] at s2
 exact ⟨s2,⟨ho.frozenAt _,ho.frozenAt _,ho.frozenAt _⟩,⟨hc _ (by omega),hc _ (by omega),hc _ (by omega)⟩,fun B a h hB=>(((h.setCell hB _).setCell hB _).setCell hB _)⟩

set_option maxHeartbeats 1000000 in
theorem toUndoS_any (a:Option Addr) (cap:Nat) (zs:List UndoD) (w:World) (h:UndoRow w a zs) (hl:zs.length≤1048576) :
  Calls Tryz.prog 166 #[.slice a zs.length cap] w fun e w' => ∃ g c,e=.returned (.slice (some ⟨g,0,none⟩) zs.length c) ∧
   w'.ownsRow w.heap.size 223 3 (.slice (some ⟨g,0,none⟩) zs.length c) zs.length (undoCells zs)∧Below w.heap.size w w' := by
 obtain ⟨i0,hi,hz0,hz1,hz2⟩:=info_parts infoUndo
 have hbytes:i0.bytes * zs.length≤281474976710656:=by rw [hz2];omega
 have hmax:zs.length≤maxLen:=by unfold maxLen;omega
 have hcl:=undoCells_length zs
 go_enter Tryz.func166,Tryz.ntmps166
 go_wp2_with (at_make;refine wpList_make_full _ rfl _ _ 175 rfl w.heap.size 223 i0 (.agg #[.int .i64 0,.bool false,.int .i64 0]) 3 Tryz.underlying175 hi hz0 hz1 _ _ _ _ zs.length rfl rfl rfl rfl hbytes hmax (Nat.le_refl _) ?_)
 intro w1 hown hgrow
 have hlen0:(madeCells #[Value.int .i64 0,.bool false,.int .i64 0] (zs.length * 3)).toList.length=(undoCells zs).length:=by simp [size_madeCells,hcl]
 have hb1:Below w.heap.size w w1:=(Below.refl _ _).grown hgrow (Nat.le_refl _) (by simp)
 generalize (madeCells #[Value.int .i64 0,.bool false,.int .i64 0] (zs.length * 3)).toList=ys at hown hlen0
 rw [← layV_zero (undoCells zs) ys] at hown
 go_wp2
 go_loopw [4] (fun i wr=>∃ k:Nat,k≤zs.length∧i=.int .i64 k∧wr.ownsRow w.heap.size 223 3 (.slice (some ⟨w.heap.size,0,none⟩) zs.length zs.length) zs.length (layV (undoCells zs) ys (k * 3))∧Below w.heap.size w wr) (fun i _=>zs.length - (intOf i).toNat)
 case atStart=>exact ⟨0,Nat.zero_le _,rfl,by simpa using hown,hb1⟩
 case round=>
  obtain ⟨k,hk,rfl,ho,hb⟩:=hrel
  by_cases hlt:k < zs.length
  ·obtain ⟨b,off,rfl,hbs,hc0,hc1,hc2⟩:=(h.below hb).at k hlt
   obtain ⟨g0,g1,g2⟩:=undoCells_get zs k hlt
   generalize zs.getD k undoNo=z at hc0 hc1 hc2 g0 g1 g2
   go_wp2_with fail
   refine (toUndo_any _ _ _ _).mono ?_
   rintro e w2 ⟨rfl,hb2⟩
   replace ho:=own_below ho hb2
   replace hb:=hb.trans (hb2.mono hb.size)
   clear hc0 hc1 hc2 hb2
   obtain ⟨hst,hfr,hce,hbel⟩:=layUndo ho hlen0 hcl hlt g0 g1 g2
   obtain ⟨f0,f1,f2⟩:=hfr
   obtain ⟨⟨u0,e0⟩,⟨u1,e1⟩,⟨u2,e2⟩⟩:=hce
   have R:Hid (_∧_):=⟨hst,hbel _ _ hb (Nat.le_refl _)⟩
   clear hst hbel g0 g1 g2 ho
   go_wp2
   go_roundw
   case rel=>exact ⟨k + 1,by omega,by go_num,R.out.1,R.out.2⟩
   case measure=>simp [intOf];omega
  ·go_wp2
   go_ret
   have hkl:k=zs.length:=by omega
   subst hkl
   rw [layV_all _ _ _ hlen0 hcl] at ho
   exact ⟨_,_,rfl,ho,hb⟩

set_option maxHeartbeats 1000000 in
theorem eqUndo_true (k:Int) (y:Bool) (v:Int) (w:World) :
  Calls Tryz.prog 220 #[.agg #[.int .i64 k,.bool y,.int .i64 v],.agg #[.int .i64 k,.bool y,.int .i64 v]] w fun e w' => e=.returned (.bool true)∧Below w.heap.size w w' := by
 have h0:(k != k)=false:=by simp
 have h1:(y != y)=false:=by simp
 have h2:(v != v)=false:=by simp
 go_enter Tryz.func220,Tryz.ntmps220
 go_wp2
 go_ret
 exact ⟨rfl,by go_grown⟩

set_option maxHeartbeats 2000000 in
theorem eqUndoS_true (a a' : Option Addr) (cap cap' : Nat) (zs:List UndoD) (w:World) (h:UndoRow w a zs) (h' : UndoRow w a' zs) (hl:zs.length≤1099511627776) :
  Calls Tryz.prog 189 #[.slice a zs.length cap,.slice a' zs.length cap'] w fun e w' => e=.returned (.bool true)∧Below w.heap.size w w' := by
 go_enter Tryz.func189,Tryz.ntmps189
 go_wp2
 go_loopw [5] (fun i wr=>∃ k:Nat,k≤zs.length∧i=.int .i64 k∧Below w.heap.size w wr) (fun i _=>zs.length - (intOf i).toNat)
 case atStart=>exact ⟨0,Nat.zero_le _,rfl,Below.refl _ _⟩
 case round=>
  obtain ⟨k,hk,rfl,hb⟩:=hrel
  by_cases hlt:k < zs.length
  ·obtain ⟨b,off,rfl,hbs,hc0,hc1,hc2⟩:=(h.below hb).at k hlt
   obtain ⟨b',off',rfl,hbs',hd0,hd1,hd2⟩:=(h'.below hb).at k hlt
   generalize zs.getD k undoNo=z at hc0 hc1 hc2 hd0 hd1 hd2
   obtain ⟨z0,z1,z2⟩:=z
   have k0:=lat_cell hc0
   have l0:=lat_cell hd0
   have k1:=lat_cell hc1
   have l1:=lat_cell hd1
   have k2:=lat_cell hc2
   have l2:=lat_cell hd2
   clear hc0 hc1 hc2 hd0 hd1 hd2
   have hW:Below wr.heap.size wr wr.drew:=(Below.refl _ _).drew
   have hne:Nonempty (Lat wr):=⟨⟨wr,Below.refl _ _⟩⟩
   go_wp2_with fail
   refine text_begin (S:=fun w' => ∃ u:Lat wr,w' = u.val) (by kernel_rfl) ?_
   refine sgr [(0,8)] 2 (by kernel_rfl) ⟨⟨_,hW⟩,rfl⟩ ?_
   simp only [pkE]
   repeat go_big_quiet_step (fail)
   refine wpQuiet_nil ?_
   refine cla 8 (some 25) 220 #[.agg #[.int .i64 z0,.bool z1,.int .i64 z2],.agg #[.int .i64 z0,.bool z1,.int .i64 z2]] 1 (by kernel_rfl) ?_
   refine (eqUndo_true _ _ _ _).mono ?_
   rintro e w2 ⟨rfl,hb2⟩
   replace hW:=hW.trans (hb2.mono hW.size)
   clear hb2
   refine ⟨_,rfl,⟨⟨_,hW⟩,rfl⟩,?_⟩
   simp only [Act.put,pjE]
   refine sgr [(9,1)] 0 (by kernel_rfl) ⟨⟨_,hW⟩,rfl⟩ ?_
   simp only [pkE]
   repeat go_big_quiet_step (fail)
   refine wpQuiet_nil ?_
   refine text_end (by kernel_rfl) ?_
   replace hb:=hb.trans (hW.mono hb.size)
   clear k0 l0 k1 l1 k2 l2 hW hne
   go_wp2
   go_roundw
   case rel=>exact ⟨k + 1,by omega,by go_num,hb⟩
   case measure=>simp [intOf];omega
  ·go_wp2
   go_ret
   exact ⟨rfl,hb⟩

/-- Marks, 3 cells an element. -/
def undoMarks (c:Int) (n:Nat):List UndoD:=(List.range n).map fun (i:Nat)=>⟨c + ((i * 3:Nat):Int),((c + ((i * 3 + 1:Nat):Int)) % 3 == 0),c + ((i * 3 + 2:Nat):Int)⟩

set_option maxHeartbeats 1000000 in
theorem szUndoS_any (a:Option Addr) (n cap:Nat) (c:Int) (w:World) (hn:n≤9223372036854775807) (h0:0≤c) (h1:c≤1099511627776) :
  Calls Tryz.prog 153 #[.slice a n cap,.int .i64 c] w fun e w' => e=.returned (.int .i64 (if c - n < 0 then -1 else c - n))∧w' = w:=by
 by_cases h:c - n < 0
 ·rw [if_pos h]
  go_enter Tryz.func153,Tryz.ntmps153
  go_wp2
  go_ret
  exact ⟨rfl,rfl⟩
 ·rw [if_neg h]
  go_enter Tryz.func153,Tryz.ntmps153
  go_wp2
  go_ret
  exact ⟨rfl,rfl⟩

end Go.Proofs.YtjjoahhnkpjolaaGreatDoor
namespace Go.Proofs.YtjjoahhnkpjolaaGreatDoor
open Go.RowKit
open Go.BigFrame
set_option maxRecDepth 100000
def itemK:Kind ItemD where
 ty:=173
 size:=2
 cells:=ItemD.cells
 own _ _:=True
 rd _ _:=True
 foot _:=[]
 len _:=rfl
 own_rd _:=trivial
 own_out _ _ _:=trivial
 own_lt _ k hk:=by simp at hk
 rd_below _ _:=trivial

theorem itemK_at {w:World} {a:Option Addr} {n cap:Nat} {zs:List ItemD} (h:itemK.At w (.slice a n cap) zs):n=zs.length∧ItemRow w a zs:=by
 obtain ⟨a',c,e,hl,_⟩:=h
 simp only [Value.slice.injEq] at e
 obtain ⟨rfl,rfl,_⟩:=e
 exact ⟨rfl,hl⟩

theorem itemK_fp (v:Value) (zs:List ItemD):itemK.fp v zs=blk v:=by
 have:zs.flatMap itemK.foot=[]:=by simp [show ∀ z,itemK.foot z=[] from fun _=>rfl]
 simp [Kind.fp,this]

def undoK:Kind UndoD where
 ty:=223
 size:=3
 cells:=UndoD.cells
 own _ _:=True
 rd _ _:=True
 foot _:=[]
 len _:=rfl
 own_rd _:=trivial
 own_out _ _ _:=trivial
 own_lt _ k hk:=by simp at hk
 rd_below _ _:=trivial

theorem undoK_at {w:World} {a:Option Addr} {n cap:Nat} {zs:List UndoD} (h:undoK.At w (.slice a n cap) zs):n=zs.length∧UndoRow w a zs:=by
 obtain ⟨a',c,e,hl,_⟩:=h
 simp only [Value.slice.injEq] at e
 obtain ⟨rfl,rfl,_⟩:=e
 exact ⟨rfl,hl⟩

theorem undoK_fp (v:Value) (zs:List UndoD):undoK.fp v zs=blk v:=by
 have:zs.flatMap undoK.foot=[]:=by simp [show ∀ z,undoK.foot z=[] from fun _=>rfl]
 simp [Kind.fp,this]

theorem szItems_k (v:Value) (zs:List ItemD) (c:Int) (w:World) (h:itemK.At w v zs) (hn:zs.length≤9223372036854775807) (h0:0≤c) (h1:c≤1048576) :
  Calls Tryz.prog 109 #[v,.int .i64 c] w fun e w' => ∃ r:Int,e=.returned (.int .i64 r)∧(¬ r < 0→(zs.length:Int) + r=c)∧Below w.heap.size w w' := by
 obtain ⟨a,cap,rfl⟩:=h.shape
 refine (szItemS_any a zs.length cap c w hn h0 (by omega)).mono ?_
 rintro e w' ⟨rfl,rfl⟩
 refine ⟨_,rfl,?_,Below.refl _ _⟩
 split <;> omega

theorem toItems_k (v:Value) (zs:List ItemD) (w:World) (h:itemK.At w v zs) (hl:zs.length≤1048576) :
  Calls Tryz.prog 124 #[v] w fun e w' => ∃ v',e=.returned v' ∧ itemK.Own w' v' zs∧(itemK.fp v' zs).Nodup∧(∀ k∈itemK.fp v' zs,w.heap.size≤k)∧Below w.heap.size w w' := by
 obtain ⟨a,cap,rfl⟩:=h.shape
 refine (toItemS_any a cap zs w (itemK_at h).2 hl).mono ?_
 rintro e w' ⟨g,c,rfl,ho,hb⟩
 obtain ⟨o,hk⟩:=own_zero ho
 refine ⟨_,rfl,⟨o,fun _ _=>trivial⟩,?_,?_,hb⟩
 ·rw [itemK_fp];exact blk_nodup _
 ·rw [itemK_fp];exact hk

theorem eqItems_k (v v' : Value) (zs:List ItemD) (w:World) (h:itemK.At w v zs) (h' : itemK.At w v' zs) (hl:zs.length≤1048576) :
  Calls Tryz.prog 140 #[v,v'] w fun e w' => e=.returned (.bool true)∧Below w.heap.size w w' := by
 obtain ⟨a,cap,rfl⟩:=h.shape
 obtain ⟨a',cap',rfl⟩:=h'.shape
 exact eqItemS_true a a' cap cap' zs w (itemK_at h).2 (itemK_at h').2 (by omega)

theorem szUndos_k (v:Value) (zs:List UndoD) (c:Int) (w:World) (h:undoK.At w v zs) (hn:zs.length≤9223372036854775807) (h0:0≤c) (h1:c≤1048576) :
  Calls Tryz.prog 153 #[v,.int .i64 c] w fun e w' => ∃ r:Int,e=.returned (.int .i64 r)∧(¬ r < 0→(zs.length:Int) + r=c)∧Below w.heap.size w w' := by
 obtain ⟨a,cap,rfl⟩:=h.shape
 refine (szUndoS_any a zs.length cap c w hn h0 (by omega)).mono ?_
 rintro e w' ⟨rfl,rfl⟩
 refine ⟨_,rfl,?_,Below.refl _ _⟩
 split <;> omega

theorem toUndos_k (v:Value) (zs:List UndoD) (w:World) (h:undoK.At w v zs) (hl:zs.length≤1048576) :
  Calls Tryz.prog 166 #[v] w fun e w' => ∃ v',e=.returned v' ∧ undoK.Own w' v' zs∧(undoK.fp v' zs).Nodup∧(∀ k∈undoK.fp v' zs,w.heap.size≤k)∧Below w.heap.size w w' := by
 obtain ⟨a,cap,rfl⟩:=h.shape
 refine (toUndoS_any a cap zs w (undoK_at h).2 hl).mono ?_
 rintro e w' ⟨g,c,rfl,ho,hb⟩
 obtain ⟨o,hk⟩:=own_zero ho
 refine ⟨_,rfl,⟨o,fun _ _=>trivial⟩,?_,?_,hb⟩
 ·rw [undoK_fp];exact blk_nodup _
 ·rw [undoK_fp];exact hk

theorem eqUndos_k (v v' : Value) (zs:List UndoD) (w:World) (h:undoK.At w v zs) (h' : undoK.At w v' zs) (hl:zs.length≤1048576) :
  Calls Tryz.prog 189 #[v,v'] w fun e w' => e=.returned (.bool true)∧Below w.heap.size w w' := by
 obtain ⟨a,cap,rfl⟩:=h.shape
 obtain ⟨a',cap',rfl⟩:=h'.shape
 exact eqUndoS_true a a' cap cap' zs w (undoK_at h).2 (undoK_at h').2 (by omega)

/-- A list of undos where it lies. -/
structure USQ where
 va:Value
 us:List UndoD

def ussK:Kind USQ where
 ty:=175
 size:=1
 cells p:=[p.va]
 own w p:=undoK.Own w p.va p.us
 rd w p:=undoK.At w p.va p.us
 foot p:=undoK.fp p.va p.us
 len _:=rfl
 own_rd h:=h.at
 own_out h ho hd:=h.out ho hd
 own_lt h:=h.lt
 rd_below h hb:=h.below hb

def USQ.e (p:USQ):List UndoD:=p.us

def USQ.n (p:USQ):Nat:=p.us.length

def USQ.wf (p:USQ):Prop:=p.us.length≤9223372036854775807

theorem infoUndos9:(Tryz.prog.info? 175).map (fun i=>(i.zero,i.size,i.bytes))=some (some (.slice none 0 0),1,24):=by kernel_rfl

end Go.Proofs.YtjjoahhnkpjolaaGreatDoor
namespace Go.Proofs.YtjjoahhnkpjolaaGreatDoor
open Go.RowKit
open Go.BigFrame
set_option maxRecDepth 100000
theorem szUs_k (p:USQ) (c:Int) (w:World) (h:ussK.rd w p) (hn:USQ.wf p) (h0:0≤c) (h1:c≤1048576) :
  Calls Tryz.prog 153 #[p.va,.int .i64 c] w fun e w' => ∃ r:Int,e=.returned (.int .i64 r)∧(¬ r < 0→(USQ.n p:Int) + r=c)∧Below w.heap.size w w' := szUndos_k p.va p.us c w h hn h0 h1

theorem eqUs_k (p p' : USQ) (w:World) (h:ussK.rd w p) (h' : ussK.rd w p') (he:p.e=p'.e) (hl:USQ.n p≤1048576) :
  Calls Tryz.prog 189 #[p.va,p'.va] w fun e w' => e=.returned (.bool true)∧Below w.heap.size w w' := by
 obtain ⟨va,us⟩:=p
 obtain ⟨va',us'⟩:=p'
 have he:us=us' := he
 subst he
 exact eqUndos_k va va' us w h h' hl

theorem toUs_k (p:USQ) (w:World) (h:ussK.rd w p) (hl:USQ.n p≤1048576) :
  Calls Tryz.prog 166 #[p.va] w fun e w' => ∃ p' : USQ,e=.returned p'.va∧p'.e=p.e∧ussK.own w' p' ∧ (ussK.foot p').Nodup∧(∀ k∈ussK.foot p',w.heap.size≤k)∧Below w.heap.size w w' := by
 refine (toUndos_k p.va p.us w h hl).mono ?_
 rintro e w' ⟨v',rfl,ho,hn,hg,hb⟩
 exact ⟨⟨v',p.us⟩,rfl,rfl,ho,hn,hg,hb⟩

set_option maxHeartbeats 1000000 in
theorem szUss_k (v:Value) (ps:List USQ) (c:Int) (w:World) (h:ussK.At w v ps) (hn:ps.length≤9223372036854775807) (hn1:∀ p∈ps,USQ.wf p) (h0:0≤c) (h1:c≤1048576) :
  Calls Tryz.prog 110 #[v,.int .i64 c] w fun e w' => ∃ r:Int,e=.returned (.int .i64 r)∧(¬ r < 0→((ps.length + nmL USQ.n ps:Nat):Int) + r=c)∧Below w.heap.size w w' := by
 obtain ⟨a,cap,rfl⟩:=h.shape
 by_cases hbig:c - ps.length < 0
 ·go_enter Tryz.func110,Tryz.ntmps110
  go_wp2
  go_ret
  exact ⟨_,rfl,fun h=>by omega,Below.refl _ _⟩
 ·go_enter Tryz.func110,Tryz.ntmps110
  go_wp2
  go_loopw [1,5] (fun l i wr=>∃ (k:Nat) (x:Int),k≤ps.length∧i=.int .i64 k∧l=.int .i64 x∧0≤x∧x≤1048576∧Hid (ps.length + nmL USQ.n (ps.take k) + x=c)∧Below w.heap.size w wr) (fun _ i _=>ps.length - (intOf i).toNat)
  case atStart=>exact ⟨0,c - ps.length,Nat.zero_le _,rfl,by go_num,by omega,by omega,show _=_ by simp [nmL];omega,Below.refl _ _⟩
  case round=>
   obtain ⟨k,x,hk,rfl,rfl,hx0,hx1,HS,hb⟩:=hrel
   by_cases hlt:k < ps.length
   ·obtain ⟨b,off,rfl,hbs,hc,hrd⟩:=(h.below hb).cell (by decide) k hlt
    have hc' : ∀ j x,(ussK.cells ps[k])[j]? = some x→wr.cell? ⟨b,off + k + j,none⟩=some x:=fun j x hx=>by have:=hc j x hx;rwa [show k * ussK.size=k from Nat.mul_one k] at this
    have c0:=hc' 0 (ps[k].va) rfl
    have hs:=nmL_succ USQ.n ps k hlt
    have HN:=hn1 _ (List.getElem_mem hlt)
    have HS' : Hid (∀ y:Int,(USQ.n ps[k]:Int) + y=x→ps.length + nmL USQ.n (ps.take (k + 1)) + y=c):=by
     intro y hy
     have:=HS.out
     omega
    clear HS hs hc hc'
    generalize ps[k]=p at *
    have hsz:=szUs_k p x wr hrd HN hx0 hx1
    generalize USQ.n p=m at *
    rw [Nat.add_zero] at c0
    go_wp2_with fail
    refine hsz.mono ?_
    rintro e w2 ⟨r,rfl,hr,hb2⟩
    replace hb:=hb.trans (hb2.mono hb.size)
    clear hb2 hsz c0
    by_cases hneg:r < 0
    ·go_wp2
     go_ret
     exact ⟨_,rfl,fun h=>by omega,hb⟩
    ·have hrx:=hr (by omega)
     have HR:Hid (ps.length + nmL USQ.n (ps.take (k + 1)) + r=c):=HS'.out r hrx
     have hr1:r≤1048576:=by omega
     clear HS' hr hrx
     go_wp2
     go_roundw
     case rel=>exact ⟨k + 1,r,by omega,by go_num,rfl,by omega,hr1,HR.out,hb⟩
     case measure=>simp [intOf];omega
   ·have hkl:k=ps.length:=by omega
    subst hkl
    rw [List.take_length] at HS
    go_wp2
    go_ret
    exact ⟨_,rfl,fun _=>by have:=HS.out;omega,hb⟩

set_option maxHeartbeats 2000000 in
theorem eqUss_k (v v' : Value) (ps qs:List USQ) (w:World) (h:ussK.At w v ps) (h' : ussK.At w v' qs) (he:ps.map USQ.e=qs.map USQ.e) (hl:(ps.length + nmL USQ.n ps)≤1048576) :
  Calls Tryz.prog 141 #[v,v'] w fun e w' => e=.returned (.bool true)∧Below w.heap.size w w' := by
 obtain ⟨a,cap,rfl⟩:=h.shape
 obtain ⟨a',cap',rfl⟩:=h'.shape
 have hlen:qs.length=ps.length:=by
  have:=congrArg List.length he
  simpa using this.symm
 rw [hlen] at h' ⊢
 have HL:Hid (qs.length=ps.length):=hlen
 clear hlen
 go_enter Tryz.func141,Tryz.ntmps141
 go_wp2
 go_loopw [5] (fun i wr=>∃ k:Nat,k≤ps.length∧i=.int .i64 k∧Below w.heap.size w wr) (fun i _=>ps.length - (intOf i).toNat)
 case atStart=>exact ⟨0,Nat.zero_le _,rfl,Below.refl _ _⟩
 case round=>
  obtain ⟨k,hk,rfl,hb⟩:=hrel
  by_cases hlt:k < ps.length
  ·have hlt' : k < qs.length:=by have:=HL.out;omega
   obtain ⟨b,off,rfl,hbs,hc,hrd⟩:=(h.below hb).cell (by decide) k hlt
   obtain ⟨b',off',rfl,hbs',hd,hrd'⟩:=(h'.below hb).cell (by decide) k hlt'
   have hc' : ∀ j x,(ussK.cells ps[k])[j]? = some x→wr.cell? ⟨b,off + k + j,none⟩=some x:=fun j x hx=>by have:=hc j x hx;rwa [show k * ussK.size=k from Nat.mul_one k] at this
   have hd' : ∀ j x,(ussK.cells qs[k])[j]? = some x→wr.cell? ⟨b',off' + k + j,none⟩=some x:=fun j x hx=>by have:=hd j x hx;rwa [show k * ussK.size=k from Nat.mul_one k] at this
   have c0:=hc' 0 (ps[k].va) rfl
   have d0:=hd' 0 (qs[k].va) rfl
   have hee:USQ.e ps[k]=USQ.e qs[k]:=by
    have:=congrArg (·[k]?) he
    simpa [hlt,hlt'] using this
   have hzl:=nm_le USQ.n ps k hlt
   clear hc hc' hd hd'
   generalize ps[k]=p at *
   generalize qs[k]=p' at *
   have hEQ:=fun w h1 h2=>eqUs_k p p' w h1 h2 hee (show USQ.n p≤1048576 by omega)
   clear hee hzl
   rw [Nat.add_zero] at c0 d0
   have k0:=lat_cell c0
   have l0:=lat_cell d0
   clear c0 d0
   have hW:Below wr.heap.size wr wr.drew:=(Below.refl _ _).drew
   have hne:Nonempty (Lat wr):=⟨⟨wr,Below.refl _ _⟩⟩
   go_wp2_with fail
   refine text_begin (S:=fun w' => ∃ u:Lat wr,w' = u.val) (by kernel_rfl) ?_
   refine sgr [(0,8)] 2 (by kernel_rfl) ⟨⟨_,hW⟩,rfl⟩ ?_
   simp only [pkE]
   repeat go_big_quiet_step (fail)
   refine wpQuiet_nil ?_
   refine cla 8 (some 25) 189 #[p.va,p'.va] 1 (by kernel_rfl) ?_
   refine (hEQ _ (ussK.rd_below hrd hW) (ussK.rd_below hrd' hW)).mono ?_
   rintro e w2 ⟨rfl,hb2⟩
   replace hW:=hW.trans (hb2.mono hW.size)
   clear hb2
   refine ⟨_,rfl,⟨⟨_,hW⟩,rfl⟩,?_⟩
   simp only [Act.put,pjE]
   refine sgr [(9,1)] 0 (by kernel_rfl) ⟨⟨_,hW⟩,rfl⟩ ?_
   simp only [pkE]
   repeat go_big_quiet_step (fail)
   refine wpQuiet_nil ?_
   refine text_end (by kernel_rfl) ?_
   replace hb:=hb.trans (hW.mono hb.size)
   clear k0 l0 hW hne hrd hrd' hEQ
   go_wp2
   go_roundw
   case rel=>exact ⟨k + 1,by omega,by go_num,hb⟩
   case measure=>simp [intOf];omega
  ·go_wp2
   go_ret
   exact ⟨rfl,hb⟩

set_option maxHeartbeats 2000000 in
theorem toUss_k (v:Value) (ps:List USQ) (w:World) (h:ussK.At w v ps) (hl:(ps.length + nmL USQ.n ps)≤1048576) :
  Calls Tryz.prog 125 #[v] w fun e w' => ∃ v' qs,e=.returned v' ∧ qs.map USQ.e=ps.map USQ.e∧ussK.Own w' v' qs∧(ussK.fp v' qs).Nodup∧(∀ k∈ussK.fp v' qs,w.heap.size≤k)∧Below w.heap.size w w' := by
 obtain ⟨a,cap,rfl⟩:=h.shape
 obtain ⟨i0,hi,hz0,hz1,hz2⟩:=info_parts infoUndos9
 have hbytes:i0.bytes * ps.length≤281474976710656:=by rw [hz2];omega
 have hmax:ps.length≤maxLen:=by unfold maxLen;omega
 go_enter Tryz.func125,Tryz.ntmps125
 go_wp2_with (at_make;refine wpList_make_full _ rfl _ _ 54 rfl w.heap.size 175 i0 (.slice none 0 0) 1 Tryz.underlying54 hi hz0 hz1 _ _ _ _ ps.length rfl rfl rfl rfl hbytes hmax (Nat.le_refl _) ?_)
 intro w1 hown hgrow
 have hb1:Below w.heap.size w w1:=(Below.refl _ _).grown hgrow (Nat.le_refl _) (by simp)
 have hO:ussK.Own w1 (.slice (some ⟨w.heap.size,0,none⟩) ps.length ps.length) (List.replicate ps.length (⟨.slice none 0 0,[]⟩:USQ)):=by
  refine ⟨?_,fun p hp=>?_⟩
  ·rw [List.length_replicate,← made_row (⟨.slice none 0 0,[]⟩:USQ) _ (by decide)]
   rw [show ps.length * ussK.size=ps.length from Nat.mul_one _]
   exact own_base hown (Nat.zero_le _)
  ·rw [(List.mem_replicate.1 hp).2]
   exact ⟨World.ownsRow_nil _ _ _ _,fun p hp=>by simp at hp⟩
 have hF:ussK.fp (.slice (some ⟨w.heap.size,0,none⟩) ps.length ps.length) (List.replicate ps.length (⟨.slice none 0 0,[]⟩:USQ))=[w.heap.size]:=fp_new rfl
 have HN:Hid ((ussK.fp (.slice (some ⟨w.heap.size,0,none⟩) ps.length ps.length) (List.replicate ps.length (⟨.slice none 0 0,[]⟩:USQ))).Nodup):=by rw [hF];show List.Nodup _;simp
 have HG:Hid (∀ x∈ussK.fp (.slice (some ⟨w.heap.size,0,none⟩) ps.length ps.length) (List.replicate ps.length (⟨.slice none 0 0,[]⟩:USQ)),w.heap.size≤x):=by rw [hF];intro x hx;simp at hx;omega
 have HZ:Hid (∀ j (hj:j < (List.replicate ps.length (⟨.slice none 0 0,[]⟩:USQ)).length),0≤j→(List.replicate ps.length (⟨.slice none 0 0,[]⟩:USQ))[j]=(⟨.slice none 0 0,[]⟩:USQ)):=fun j hj _=>by simp
 have hql:(List.replicate ps.length (⟨.slice none 0 0,[]⟩:USQ)).length=ps.length:=by simp
 clear hown hgrow hF
 generalize List.replicate ps.length (⟨.slice none 0 0,[]⟩:USQ)=qs0 at *
 have HE:Hid ((qs0.take 0).map USQ.e=(ps.take 0).map USQ.e):=show _=_ by simp
 go_wp2
 go_loopw [4] (fun i wr=>∃ (k:Nat) (qs:List USQ),k≤ps.length∧i=.int .i64 k∧Hid (qs.length=ps.length)∧Hid ((qs.take k).map USQ.e=(ps.take k).map USQ.e)∧Hid (∀ j (hj:j < qs.length),k≤j→qs[j]=(⟨.slice none 0 0,[]⟩:USQ))∧ussK.Own wr (.slice (some ⟨w.heap.size,0,none⟩) ps.length ps.length) qs ∧
  Hid ((ussK.fp (.slice (some ⟨w.heap.size,0,none⟩) ps.length ps.length) qs).Nodup)∧Hid (∀ x∈ussK.fp (.slice (some ⟨w.heap.size,0,none⟩) ps.length ps.length) qs,w.heap.size≤x)∧Below w.heap.size w wr) (fun i _=>ps.length - (intOf i).toNat)
 case atStart=>exact ⟨0,qs0,Nat.zero_le _,rfl,hql,HE,HZ,hO,HN,HG,hb1⟩
 case round=>
  clear HE HZ hO HN HG hb1 hql
  obtain ⟨k,qs,hk,rfl,HQ,HE,HZ,hO,HN,HG,hb⟩:=hrel
  by_cases hlt:k < ps.length
  ·have hltq:k < qs.length:=by have:=HQ.out;omega
   have hzk:=HZ.out k hltq (Nat.le_refl _)
   obtain ⟨b,off,rfl,hbs,hc,hrd⟩:=(h.below hb).cell (by decide) k hlt
   have hc' : ∀ j x,(ussK.cells ps[k])[j]? = some x→wr.cell? ⟨b,off + k + j,none⟩=some x:=fun j x hx=>by have:=hc j x hx;rwa [show k * ussK.size=k from Nat.mul_one k] at this
   have c0:=hc' 0 (ps[k].va) rfl
   have hzl:=nm_le USQ.n ps k hlt
   have HPE:Hid (∀ p' : USQ,p'.e=USQ.e ps[k]→((qs.set k p').take (k + 1)).map USQ.e=(ps.take (k + 1)).map USQ.e):=by
    intro p' hp'
    have h1:=HE.out
    rw [List.take_succ_eq_append_getElem hlt,List.take_succ_eq_append_getElem (show k < (qs.set k p').length by simpa using hltq)]
    simp only [List.map_append,List.map_cons,List.map_nil,List.getElem_set_self,hp',List.take_set_of_le (Nat.le_refl k),h1]
   clear hc hc'
   generalize ps[k]=p at *
   have hto:=toUs_k p wr hrd (by omega)
   rw [Nat.add_zero] at c0
   go_wp2_with fail
   refine hto.mono ?_
   rintro e w2 ⟨p',rfl,hpe,hown',hnd',hlo',hb2⟩
   obtain ⟨x0,y0⟩:=p'
   have o0:undoK.Own w2 x0 y0:=hown'
   obtain ⟨a0,b0,rfl⟩:=o0.shape
   clear o0
   dsimp only
   generalize hP:(⟨.slice a0 y0.length b0,y0⟩:USQ)=p' at hpe hown' hnd' hlo'
   have hcp:ussK.cells p' = [.slice a0 y0.length b0]:=by rw [← hP];rfl
   have hO2:=hO.below hb2
   obtain ⟨e0,f0⟩:=hO2.cell k hltq 0 _ (by rw [hzk];rfl)
   have hkk:∀ j,k * ussK.size + j=k + j:=fun j=>by rw [show k * ussK.size=k from Nat.mul_one k]
   rw [hkk] at e0 f0
   rw [Nat.add_zero] at e0 f0
   have hrow0:=hO2.1
   have hQ:=HQ.out
   rw [hQ] at hrow0
   have hrow:=own_setFrom hrow0 (k) [.slice a0 y0.length b0]
   rw [← hcp] at hrow
   have hfp:∀ x∈ussK.fp (.slice (some ⟨w.heap.size,0,none⟩) ps.length ps.length) qs,x < wr.heap.size:=hO.lt
   have hg0:w.heap.size∈ussK.fp (.slice (some ⟨w.heap.size,0,none⟩) ps.length ps.length) qs:=by simp [Kind.fp,blk,Value.ownBlock]
   have hgl:w.heap.size < wr.heap.size:=hfp _ hg0
   have hNq:=HN.out
   have hdis:∀ x∈ussK.foot p',x ∉ ussK.fp (.slice (some ⟨w.heap.size,0,none⟩) ps.length ps.length) qs:=fun x hx hxx=>by have:=hlo' x hx;have:=hfp x hxx;omega
   have hput:ussK.Own (w2.setCell ⟨w.heap.size,k,none⟩ (.slice a0 y0.length b0)) (.slice (some ⟨w.heap.size,0,none⟩) ps.length ps.length) (qs.set k p'):=by
    refine Kind.Own.put hO2 k hltq p' ?_ (Out.setCell _ _ _ _) ?_ hown' ?_
    ·rw [hQ]
     rw [show k * ussK.size=k from Nat.mul_one k]
     rw [hcp] at hrow ⊢
     exact hrow
    ·intro q hq x hx hxe
     simp only [Kind.fp,blk,Value.ownBlock,Option.toList,List.cons_append,List.nil_append,List.nodup_cons] at hNq
     exact hNq.1 (List.mem_flatMap.2 ⟨q,hq,hxe ▸ hx⟩)
    ·intro x hx hxe
     have:=hlo' x hx
     omega
   have R:Hid (ussK.Own (w2.setCell ⟨w.heap.size,k,none⟩ (.slice a0 y0.length b0)) (.slice (some ⟨w.heap.size,0,none⟩) ps.length ps.length) (qs.set k p')∧Below w.heap.size w (w2.setCell ⟨w.heap.size,k,none⟩ (.slice a0 y0.length b0))):=by
    refine ⟨hput,?_⟩
    have hbb:=hb.trans (hb2.mono hb.size)
    exact (hbb.setCell (p:=⟨w.heap.size,k,none⟩) (Nat.le_refl _) _)
   have R1:Hid ((ussK.fp (.slice (some ⟨w.heap.size,0,none⟩) ps.length ps.length) (qs.set k p')).Nodup):=nodup_put hNq k hltq p' (by rw [hzk];rfl) hnd' hdis
   have R2:Hid (∀ x∈ussK.fp (.slice (some ⟨w.heap.size,0,none⟩) ps.length ps.length) (qs.set k p'),w.heap.size≤x):=by
    intro x hx
    simp only [Kind.fp,List.mem_append] at hx
    rcases hx with hx | hx
    ·exact HG.out x (by simp only [Kind.fp,List.mem_append];exact Or.inl hx)
    ·rcases mem_foot_set hltq hx with hx | hx
     ·exact HG.out x (by simp only [Kind.fp,List.mem_append];exact Or.inr hx)
     ·have:=hlo' x hx
      omega
   have R3:Hid (∀ j (hj:j < (qs.set k p').length),k + 1≤j→(qs.set k p')[j]=(⟨.slice none 0 0,[]⟩:USQ)):=fun j hj hkj=>by
    rw [List.getElem_set_ne (by omega)]
    exact HZ.out j (by simpa using hj) (by omega)
   have R4:Hid ((qs.set k p').length=ps.length):=by rw [List.length_set];exact HQ.out
   have R5:Hid (((qs.set k p').take (k + 1)).map USQ.e=(ps.take (k + 1)).map USQ.e):=HPE.out p' hpe
   clear hput hrow hrow0 hQ hO2 hO HN HG HZ HE HQ HPE hNq hdis hown' hnd' hlo' hfp hg0 hb hzk hrd hto hpe hkk hcp hP
   go_wp2
   go_roundw
   case rel=>exact ⟨k + 1,qs.set k p',by omega,by go_num,R4.out,R5.out,R3.out,R.out.1,R1.out,R2.out,R.out.2⟩
   case measure=>simp [intOf];omega
  ·have hkl:k=ps.length:=by omega
   subst hkl
   have hQ:=HQ.out
   have hE:=HE.out
   rw [List.take_length,List.take_of_length_le (by omega)] at hE
   clear HE HZ
   go_wp2
   go_ret
   exact ⟨_,qs,rfl,hE,hO,HN.out,HG.out,hb⟩

end Go.Proofs.YtjjoahhnkpjolaaGreatDoor
