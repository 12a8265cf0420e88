/- Texts joined, with what the laws reach alone. -/
import Derived.Test.YtpmkhnakgeillaaGreatDoorSNAD
import Derived.Maps.AppendAt
import Derived.Shelf.SortM.Plain
import Derived.Shelf.SortM.SortNone
import Derived.Shelf.SlicesG.In.CompactI
import Derived.Shelf.SlIterI.Nil
set_option linter.unusedVariables false
set_option linter.unusedSimpArgs false
namespace Go.Proofs.YtpmkhnakgeillaaGreatDoor
open Go.RowKit
open Go.BigFrame
set_option maxRecDepth 100000
structure ItemD where
 key:Int
 val:Int
deriving DecidableEq

def itemNo:ItemD:=⟨0,0⟩

def ItemD.cells (x:ItemD):List Value:=[.int .i64 x.key,.int .i64 x.val]

def itemCells (xs:List ItemD):List Value:=xs.flatMap ItemD.cells

def ItemRow (w:World) (a:Option Addr) (xs:List ItemD):Prop:=Lies w a (itemCells xs)

theorem itemCells_length (xs:List ItemD):(itemCells xs).length=xs.length * 2:=by
 induction xs with
 | nil=>rfl
 | cons x xs ih=>simp only [itemCells,List.flatMap_cons,List.length_append,List.length_cons] at ih ⊢;rw [ih];simp [ItemD.cells];omega

theorem itemCells_get (xs:List ItemD):∀ (i:Nat),i < xs.length→(itemCells xs)[i * 2]? = some (.int .i64 (xs.getD i itemNo).key)∧(itemCells xs)[i * 2 + 1]? = some (.int .i64 (xs.getD i itemNo).val):=by
 induction xs with
 | nil=>intro i h;simp at h
 | cons x xs ih=>
  intro i h
  cases i with
  | zero=>simp [itemCells,ItemD.cells]
  | succ i=>
   have e:itemCells (x :: xs)=x.cells ++ itemCells xs:=rfl
   have hl:x.cells.length=2:=rfl
   obtain ⟨h1,h2⟩:=ih i (by simpa using h)
   rw [e,List.getElem?_append_right (by omega),List.getElem?_append_right (by omega),hl,show (i + 1) * 2 - 2=i * 2 by omega,show (i + 1) * 2 + 1 - 2=i * 2 + 1 by omega]
   simpa [List.getD] using ⟨h1,h2⟩

theorem ItemRow.below {w w' : World} {a:Option Addr} {xs:List ItemD} (h:ItemRow w a xs) (hb:Below w.heap.size w w'):ItemRow w' a xs:=Lies.below h hb

theorem ItemRow.at {w:World} {a:Option Addr} {xs:List ItemD} (h:ItemRow w a xs) (i:Nat) (hi:i < xs.length) :
  ∃ b off,a=some ⟨b,off,none⟩∧b < w.heap.size∧w.cell? ⟨b,off + i * 2,none⟩=some (.int .i64 (xs.getD i itemNo).key)∧w.cell? ⟨b,off + i * 2 + 1,none⟩=some (.int .i64 (xs.getD i itemNo).val):=by
 obtain ⟨h1,h2⟩:=itemCells_get xs i hi
 rcases h with h | ⟨b,off,ha,hlt,hc⟩
 ·have:=itemCells_length xs
  rw [h] at this
  simp at this
  omega
 ·exact ⟨b,off,ha,hlt,hc _ _ h1,by rw [Nat.add_assoc];exact hc _ _ h2⟩

theorem infoItem:(Tryz.prog.info? 119).map (fun i=>(i.zero,i.size,i.bytes))=some (some (.agg #[.int .i64 0,.int .i64 0]),2,16):=by kernel_rfl

set_option maxHeartbeats 1000000 in
theorem toItem_any (k:Int) (y:Int) (w:World) :
  Calls Tryz.prog 191 #[.agg #[.int .i64 k,.int .i64 y]] w fun e w' => e=.returned (.agg #[.int .i64 k,.int .i64 y])∧Below w.heap.size w w' := by
 go_enter Tryz.func191,Tryz.ntmps191
 go_wp2
 exact bodyPost_ret (v:=.agg #[.int .i64 k,.int .i64 y]) (by simp [results,Tryz.results191,go_sem]) rfl ⟨rfl,by go_grown⟩

/-- The cells of one element are written over. -/
theorem layItem {w:World} {base e g cap n k:Nat} {zs ys:List Value} {v0 v1:Value} (ho:w.ownsRow base e 2 (.slice (some ⟨g,0,none⟩) n cap) n (layV zs ys (k * 2)))
  (hl:ys.length=zs.length) (hz:zs.length=n * 2) (hk:k < n) (g0:zs[k * 2]? = some v0) (g1:zs[k * 2 + 1]? = some v1) :
  ((w.setCell ⟨g,k * 2,none⟩ v0).setCell ⟨g,k * 2 + 1,none⟩ v1).ownsRow base e 2 (.slice (some ⟨g,0,none⟩) n cap) n (layV zs ys ((k + 1) * 2)) ∧
  (w.frozen? ⟨g,k * 2,none⟩=false∧w.frozen? ⟨g,k * 2 + 1,none⟩=false) ∧
  ((∃ u,w.cell? ⟨g,k * 2,none⟩=some u)∧(∃ u,w.cell? ⟨g,k * 2 + 1,none⟩=some u)) ∧
  (∀ B a,Below B a w→B≤g→Below B a ((w.setCell ⟨g,k * 2,none⟩ v0).setCell ⟨g,k * 2 + 1,none⟩ v1)):=by
 have hc:∀ j,j < n * 2→∃ u,w.cell? ⟨g,j,none⟩=some u:=fun j hj=>by
  rw [ho.cellAt j hj]
  exact ⟨_,List.getElem?_eq_getElem (by rw [ho.1];exact hj)⟩
 have s0:=(ho.stored (k * 2) v0).1
 rw [layV_step _ _ _ _ hl g0] at s0
 have s1:=(s0.stored (k * 2 + 1) v1).1
 rw [layV_step _ _ _ _ hl g1,show k * 2 + 1 + 1=(k + 1) * 2 by omega] at s1
 exact ⟨s1,⟨ho.frozenAt _,ho.frozenAt _⟩,⟨hc _ (by omega),hc _ (by omega)⟩,fun B a h hB=>((h.setCell hB _).setCell hB _)⟩

set_option maxHeartbeats 1000000 in
theorem toItemS_any (a:Option Addr) (cap:Nat) (zs:List ItemD) (w:World) (h:ItemRow w a zs) (hl:zs.length≤1048576) :
  Calls Tryz.prog 137 #[.slice a zs.length cap] w fun e w' => ∃ g c,e=.returned (.slice (some ⟨g,0,none⟩) zs.length c) ∧
   w'.ownsRow w.heap.size 119 2 (.slice (some ⟨g,0,none⟩) zs.length c) zs.length (itemCells zs)∧Below w.heap.size w w' := by
 obtain ⟨i0,hi,hz0,hz1,hz2⟩:=info_parts infoItem
 have hbytes:i0.bytes * zs.length≤281474976710656:=by rw [hz2];omega
 have hmax:zs.length≤maxLen:=by unfold maxLen;omega
 have hcl:=itemCells_length zs
 go_enter Tryz.func137,Tryz.ntmps137
 go_wp2_with (at_make;refine wpList_make_full _ rfl _ _ 26 rfl w.heap.size 119 i0 (.agg #[.int .i64 0,.int .i64 0]) 2 Tryz.underlying26 hi hz0 hz1 _ _ _ _ zs.length rfl rfl rfl rfl hbytes hmax (Nat.le_refl _) ?_)
 intro w1 hown hgrow
 have hlen0:(madeCells #[Value.int .i64 0,.int .i64 0] (zs.length * 2)).toList.length=(itemCells zs).length:=by simp [size_madeCells,hcl]
 have hb1:Below w.heap.size w w1:=(Below.refl _ _).grown hgrow (Nat.le_refl _) (by simp)
 generalize (madeCells #[Value.int .i64 0,.int .i64 0] (zs.length * 2)).toList=ys at hown hlen0
 rw [← layV_zero (itemCells zs) ys] at hown
 go_wp2
 go_loopw [4] (fun i wr=>∃ k:Nat,k≤zs.length∧i=.int .i64 k∧wr.ownsRow w.heap.size 119 2 (.slice (some ⟨w.heap.size,0,none⟩) zs.length zs.length) zs.length (layV (itemCells zs) ys (k * 2))∧Below w.heap.size w wr) (fun i _=>zs.length - (intOf i).toNat)
 case atStart=>exact ⟨0,Nat.zero_le _,rfl,by simpa using hown,hb1⟩
 case round=>
  obtain ⟨k,hk,rfl,ho,hb⟩:=hrel
  by_cases hlt:k < zs.length
  ·obtain ⟨b,off,rfl,hbs,hc0,hc1⟩:=(h.below hb).at k hlt
   obtain ⟨g0,g1⟩:=itemCells_get zs k hlt
   generalize zs.getD k itemNo=z at hc0 hc1 g0 g1
   go_wp2_with fail
   refine (toItem_any _ _ _).mono ?_
   rintro e w2 ⟨rfl,hb2⟩
   replace ho:=own_below ho hb2
   replace hb:=hb.trans (hb2.mono hb.size)
   clear hc0 hc1 hb2
   obtain ⟨hst,hfr,hce,hbel⟩:=layItem ho hlen0 hcl hlt g0 g1
   obtain ⟨f0,f1⟩:=hfr
   obtain ⟨⟨u0,e0⟩,⟨u1,e1⟩⟩:=hce
   have R:Hid (_∧_):=⟨hst,hbel _ _ hb (Nat.le_refl _)⟩
   clear hst hbel g0 g1 ho
   go_wp2
   go_roundw
   case rel=>exact ⟨k + 1,by omega,by go_num,R.out.1,R.out.2⟩
   case measure=>simp [intOf];omega
  ·go_wp2
   go_ret
   have hkl:k=zs.length:=by omega
   subst hkl
   rw [layV_all _ _ _ hlen0 hcl] at ho
   exact ⟨_,_,rfl,ho,hb⟩

set_option maxHeartbeats 1000000 in
theorem eqItem_true (k:Int) (y:Int) (w:World) :
  Calls Tryz.prog 194 #[.agg #[.int .i64 k,.int .i64 y],.agg #[.int .i64 k,.int .i64 y]] w fun e w' => e=.returned (.bool true)∧Below w.heap.size w w' := by
 have h0:(k != k)=false:=by simp
 have h1:(y != y)=false:=by simp
 go_enter Tryz.func194,Tryz.ntmps194
 go_wp2
 go_ret
 exact ⟨rfl,by go_grown⟩

set_option maxHeartbeats 2000000 in
theorem eqItemS_true (a a' : Option Addr) (cap cap' : Nat) (zs:List ItemD) (w:World) (h:ItemRow w a zs) (h' : ItemRow w a' zs) (hl:zs.length≤1099511627776) :
  Calls Tryz.prog 142 #[.slice a zs.length cap,.slice a' zs.length cap'] w fun e w' => e=.returned (.bool true)∧Below w.heap.size w w' := by
 go_enter Tryz.func142,Tryz.ntmps142
 go_wp2
 go_loopw [5] (fun i wr=>∃ k:Nat,k≤zs.length∧i=.int .i64 k∧Below w.heap.size w wr) (fun i _=>zs.length - (intOf i).toNat)
 case atStart=>exact ⟨0,Nat.zero_le _,rfl,Below.refl _ _⟩
 case round=>
  obtain ⟨k,hk,rfl,hb⟩:=hrel
  by_cases hlt:k < zs.length
  ·obtain ⟨b,off,rfl,hbs,hc0,hc1⟩:=(h.below hb).at k hlt
   obtain ⟨b',off',rfl,hbs',hd0,hd1⟩:=(h'.below hb).at k hlt
   generalize zs.getD k itemNo=z at hc0 hc1 hd0 hd1
   obtain ⟨z0,z1⟩:=z
   have k0:=lat_cell hc0
   have l0:=lat_cell hd0
   have k1:=lat_cell hc1
   have l1:=lat_cell hd1
   clear hc0 hc1 hd0 hd1
   have hW:Below wr.heap.size wr wr.drew:=(Below.refl _ _).drew
   have hne:Nonempty (Lat wr):=⟨⟨wr,Below.refl _ _⟩⟩
   go_wp2_with fail
   refine text_begin (S:=fun w' => ∃ u:Lat wr,w' = u.val) (by kernel_rfl) ?_
   refine seg_range [(0,8)] 2 (by kernel_rfl) (by kernel_rfl) (by kernel_rfl) (by kernel_rfl) (by kernel_rfl) ⟨⟨_,hW⟩,rfl⟩ ?_
   simp only [pickR,List.toList_toArray,List.flatMap_cons,List.flatMap_nil,List.drop_succ_cons,List.drop_zero,List.take_succ_cons,List.take_zero,List.cons_append,List.nil_append,List.append_nil]
   repeat go_big_quiet_step (fail)
   refine wpQuiet_nil ?_
   refine call_at 8 (some 25) 194 #[.agg #[.int .i64 z0,.int .i64 z1],.agg #[.int .i64 z0,.int .i64 z1]] 1 (by kernel_rfl) (by kernel_rfl) (by kernel_rfl) (by kernel_rfl) (by kernel_rfl) ?_
   refine (eqItem_true _ _ _).mono ?_
   rintro e w2 ⟨rfl,hb2⟩
   replace hW:=hW.trans (hb2.mono hW.size)
   clear hb2
   refine ⟨_,rfl,⟨⟨_,hW⟩,rfl⟩,?_⟩
   simp only [Act.put,List.setIfInBounds_toArray,List.set_cons_zero,List.set_cons_succ]
   refine seg_range [(9,1)] 0 (by kernel_rfl) (by kernel_rfl) (by kernel_rfl) (by kernel_rfl) (by kernel_rfl) ⟨⟨_,hW⟩,rfl⟩ ?_
   simp only [pickR,List.toList_toArray,List.flatMap_cons,List.flatMap_nil,List.drop_succ_cons,List.drop_zero,List.take_succ_cons,List.take_zero,List.cons_append,List.nil_append,List.append_nil]
   repeat go_big_quiet_step (fail)
   refine wpQuiet_nil ?_
   refine text_end (by kernel_rfl) ?_
   replace hb:=hb.trans (hW.mono hb.size)
   clear k0 l0 k1 l1 hW hne
   go_wp2
   go_roundw
   case rel=>exact ⟨k + 1,by omega,by go_num,hb⟩
   case measure=>simp [intOf];omega
  ·go_wp2
   go_ret
   exact ⟨rfl,hb⟩

/-- Marks, 2 cells an element. -/
def itemMarks (c:Int) (n:Nat):List ItemD:=(List.range n).map fun (i:Nat)=>⟨c + ((i * 2:Nat):Int),c + ((i * 2 + 1:Nat):Int)⟩

set_option maxHeartbeats 1000000 in
theorem szItemS_any (a:Option Addr) (n cap:Nat) (c:Int) (w:World) (hn:n≤9223372036854775807) (h0:0≤c) (h1:c≤1099511627776) :
  Calls Tryz.prog 132 #[.slice a n cap,.int .i64 c] w fun e w' => e=.returned (.int .i64 (if c - n < 0 then -1 else c - n))∧w' = w:=by
 by_cases h:c - n < 0
 ·rw [if_pos h]
  go_enter Tryz.func132,Tryz.ntmps132
  go_wp2
  go_ret
  exact ⟨rfl,rfl⟩
 ·rw [if_neg h]
  go_enter Tryz.func132,Tryz.ntmps132
  go_wp2
  go_ret
  exact ⟨rfl,rfl⟩

end Go.Proofs.YtpmkhnakgeillaaGreatDoor
namespace Go.Proofs.YtpmkhnakgeillaaGreatDoor
open Go.RowKit
open Go.BigFrame
set_option maxRecDepth 100000
structure UndoD where
 key:Int
 was:Bool
 val:Int
deriving DecidableEq

def undoNo:UndoD:=⟨0,false,0⟩

def UndoD.cells (x:UndoD):List Value:=[.int .i64 x.key,.bool x.was,.int .i64 x.val]

def undoCells (xs:List UndoD):List Value:=xs.flatMap UndoD.cells

def UndoRow (w:World) (a:Option Addr) (xs:List UndoD):Prop:=Lies w a (undoCells xs)

theorem undoCells_length (xs:List UndoD):(undoCells xs).length=xs.length * 3:=by
 induction xs with
 | nil=>rfl
 | cons x xs ih=>simp only [undoCells,List.flatMap_cons,List.length_append,List.length_cons] at ih ⊢;rw [ih];simp [UndoD.cells];omega

theorem undoCells_get (xs:List UndoD):∀ (i:Nat),i < xs.length→(undoCells xs)[i * 3]? = some (.int .i64 (xs.getD i undoNo).key)∧(undoCells xs)[i * 3 + 1]? = some (.bool (xs.getD i undoNo).was)∧(undoCells xs)[i * 3 + 2]? = some (.int .i64 (xs.getD i undoNo).val):=by
 induction xs with
 | nil=>intro i h;simp at h
 | cons x xs ih=>
  intro i h
  cases i with
  | zero=>simp [undoCells,UndoD.cells]
  | succ i=>
   have e:undoCells (x :: xs)=x.cells ++ undoCells xs:=rfl
   have hl:x.cells.length=3:=rfl
   obtain ⟨h1,h2,h3⟩:=ih i (by simpa using h)
   rw [e,List.getElem?_append_right (by omega),List.getElem?_append_right (by omega),List.getElem?_append_right (by omega),hl,show (i + 1) * 3 - 3=i * 3 by omega,show (i + 1) * 3 + 1 - 3=i * 3 + 1 by omega,show (i + 1) * 3 + 2 - 3=i * 3 + 2 by omega]
   simpa [List.getD] using ⟨h1,h2,h3⟩

theorem UndoRow.below {w w' : World} {a:Option Addr} {xs:List UndoD} (h:UndoRow w a xs) (hb:Below w.heap.size w w'):UndoRow w' a xs:=Lies.below h hb

theorem UndoRow.at {w:World} {a:Option Addr} {xs:List UndoD} (h:UndoRow w a xs) (i:Nat) (hi:i < xs.length) :
  ∃ b off,a=some ⟨b,off,none⟩∧b < w.heap.size∧w.cell? ⟨b,off + i * 3,none⟩=some (.int .i64 (xs.getD i undoNo).key)∧w.cell? ⟨b,off + i * 3 + 1,none⟩=some (.bool (xs.getD i undoNo).was)∧w.cell? ⟨b,off + i * 3 + 2,none⟩=some (.int .i64 (xs.getD i undoNo).val):=by
 obtain ⟨h1,h2,h3⟩:=undoCells_get xs i hi
 rcases h with h | ⟨b,off,ha,hlt,hc⟩
 ·have:=undoCells_length xs
  rw [h] at this
  simp at this
  omega
 ·exact ⟨b,off,ha,hlt,hc _ _ h1,by rw [Nat.add_assoc];exact hc _ _ h2,by rw [Nat.add_assoc];exact hc _ _ h3⟩

theorem infoUndo:(Tryz.prog.info? 216).map (fun i=>(i.zero,i.size,i.bytes))=some (some (.agg #[.int .i64 0,.bool false,.int .i64 0]),3,24):=by kernel_rfl

set_option maxHeartbeats 1000000 in
theorem toUndo_any (k:Int) (y:Bool) (v:Int) (w:World) :
  Calls Tryz.prog 242 #[.agg #[.int .i64 k,.bool y,.int .i64 v]] w fun e w' => e=.returned (.agg #[.int .i64 k,.bool y,.int .i64 v])∧Below w.heap.size w w' := by
 go_enter Tryz.func242,Tryz.ntmps242
 go_wp2
 exact bodyPost_ret (v:=.agg #[.int .i64 k,.bool y,.int .i64 v]) (by simp [results,Tryz.results242,go_sem]) rfl ⟨rfl,by go_grown⟩

/-- The cells of one element are written over. -/
theorem layUndo {w:World} {base e g cap n k:Nat} {zs ys:List Value} {v0 v1 v2:Value} (ho:w.ownsRow base e 3 (.slice (some ⟨g,0,none⟩) n cap) n (layV zs ys (k * 3)))
  (hl:ys.length=zs.length) (hz:zs.length=n * 3) (hk:k < n) (g0:zs[k * 3]? = some v0) (g1:zs[k * 3 + 1]? = some v1) (g2:zs[k * 3 + 2]? = some v2) :
  (((w.setCell ⟨g,k * 3,none⟩ v0).setCell ⟨g,k * 3 + 1,none⟩ v1).setCell ⟨g,k * 3 + 2,none⟩ v2).ownsRow base e 3 (.slice (some ⟨g,0,none⟩) n cap) n (layV zs ys ((k + 1) * 3)) ∧
  (w.frozen? ⟨g,k * 3,none⟩=false∧w.frozen? ⟨g,k * 3 + 1,none⟩=false∧w.frozen? ⟨g,k * 3 + 2,none⟩=false) ∧
  ((∃ u,w.cell? ⟨g,k * 3,none⟩=some u)∧(∃ u,w.cell? ⟨g,k * 3 + 1,none⟩=some u)∧(∃ u,w.cell? ⟨g,k * 3 + 2,none⟩=some u)) ∧
  (∀ B a,Below B a w→B≤g→Below B a (((w.setCell ⟨g,k * 3,none⟩ v0).setCell ⟨g,k * 3 + 1,none⟩ v1).setCell ⟨g,k * 3 + 2,none⟩ v2)):=by
 have hc:∀ j,j < n * 3→∃ u,w.cell? ⟨g,j,none⟩=some u:=fun j hj=>by
  rw [ho.cellAt j hj]
  exact ⟨_,List.getElem?_eq_getElem (by rw [ho.1];exact hj)⟩
 have s0:=(ho.stored (k * 3) v0).1
 rw [layV_step _ _ _ _ hl g0] at s0
 have s1:=(s0.stored (k * 3 + 1) v1).1
 rw [layV_step _ _ _ _ hl g1] at s1
 have s2:=(s1.stored (k * 3 + 2) v2).1
 rw [layV_step _ _ _ _ hl g2,show k * 3 + 2 + 1=(k + 1) * 3 by omega] at s2
 exact ⟨s2,⟨ho.frozenAt _,ho.frozenAt _,ho.frozenAt _⟩,⟨hc _ (by omega),hc _ (by omega),hc _ (by omega)⟩,fun B a h hB=>(((h.setCell hB _).setCell hB _).setCell hB _)⟩

set_option maxHeartbeats 1000000 in
theorem toUndoS_any (a:Option Addr) (cap:Nat) (zs:List UndoD) (w:World) (h:UndoRow w a zs) (hl:zs.length≤1048576) :
  Calls Tryz.prog 192 #[.slice a zs.length cap] w fun e w' => ∃ g c,e=.returned (.slice (some ⟨g,0,none⟩) zs.length c) ∧
   w'.ownsRow w.heap.size 216 3 (.slice (some ⟨g,0,none⟩) zs.length c) zs.length (undoCells zs)∧Below w.heap.size w w' := by
 obtain ⟨i0,hi,hz0,hz1,hz2⟩:=info_parts infoUndo
 have hbytes:i0.bytes * zs.length≤281474976710656:=by rw [hz2];omega
 have hmax:zs.length≤maxLen:=by unfold maxLen;omega
 have hcl:=undoCells_length zs
 go_enter Tryz.func192,Tryz.ntmps192
 go_wp2_with (at_make;refine wpList_make_full _ rfl _ _ 161 rfl w.heap.size 216 i0 (.agg #[.int .i64 0,.bool false,.int .i64 0]) 3 Tryz.underlying161 hi hz0 hz1 _ _ _ _ zs.length rfl rfl rfl rfl hbytes hmax (Nat.le_refl _) ?_)
 intro w1 hown hgrow
 have hlen0:(madeCells #[Value.int .i64 0,.bool false,.int .i64 0] (zs.length * 3)).toList.length=(undoCells zs).length:=by simp [size_madeCells,hcl]
 have hb1:Below w.heap.size w w1:=(Below.refl _ _).grown hgrow (Nat.le_refl _) (by simp)
 generalize (madeCells #[Value.int .i64 0,.bool false,.int .i64 0] (zs.length * 3)).toList=ys at hown hlen0
 rw [← layV_zero (undoCells zs) ys] at hown
 go_wp2
 go_loopw [4] (fun i wr=>∃ k:Nat,k≤zs.length∧i=.int .i64 k∧wr.ownsRow w.heap.size 216 3 (.slice (some ⟨w.heap.size,0,none⟩) zs.length zs.length) zs.length (layV (undoCells zs) ys (k * 3))∧Below w.heap.size w wr) (fun i _=>zs.length - (intOf i).toNat)
 case atStart=>exact ⟨0,Nat.zero_le _,rfl,by simpa using hown,hb1⟩
 case round=>
  obtain ⟨k,hk,rfl,ho,hb⟩:=hrel
  by_cases hlt:k < zs.length
  ·obtain ⟨b,off,rfl,hbs,hc0,hc1,hc2⟩:=(h.below hb).at k hlt
   obtain ⟨g0,g1,g2⟩:=undoCells_get zs k hlt
   generalize zs.getD k undoNo=z at hc0 hc1 hc2 g0 g1 g2
   go_wp2_with fail
   refine (toUndo_any _ _ _ _).mono ?_
   rintro e w2 ⟨rfl,hb2⟩
   replace ho:=own_below ho hb2
   replace hb:=hb.trans (hb2.mono hb.size)
   clear hc0 hc1 hc2 hb2
   obtain ⟨hst,hfr,hce,hbel⟩:=layUndo ho hlen0 hcl hlt g0 g1 g2
   obtain ⟨f0,f1,f2⟩:=hfr
   obtain ⟨⟨u0,e0⟩,⟨u1,e1⟩,⟨u2,e2⟩⟩:=hce
   have R:Hid (_∧_):=⟨hst,hbel _ _ hb (Nat.le_refl _)⟩
   clear hst hbel g0 g1 g2 ho
   go_wp2
   go_roundw
   case rel=>exact ⟨k + 1,by omega,by go_num,R.out.1,R.out.2⟩
   case measure=>simp [intOf];omega
  ·go_wp2
   go_ret
   have hkl:k=zs.length:=by omega
   subst hkl
   rw [layV_all _ _ _ hlen0 hcl] at ho
   exact ⟨_,_,rfl,ho,hb⟩

set_option maxHeartbeats 1000000 in
theorem eqUndo_true (k:Int) (y:Bool) (v:Int) (w:World) :
  Calls Tryz.prog 243 #[.agg #[.int .i64 k,.bool y,.int .i64 v],.agg #[.int .i64 k,.bool y,.int .i64 v]] w fun e w' => e=.returned (.bool true)∧Below w.heap.size w w' := by
 have h0:(k != k)=false:=by simp
 have h1:(y != y)=false:=by simp
 have h2:(v != v)=false:=by simp
 go_enter Tryz.func243,Tryz.ntmps243
 go_wp2
 go_ret
 exact ⟨rfl,by go_grown⟩

set_option maxHeartbeats 2000000 in
theorem eqUndoS_true (a a' : Option Addr) (cap cap' : Nat) (zs:List UndoD) (w:World) (h:UndoRow w a zs) (h' : UndoRow w a' zs) (hl:zs.length≤1099511627776) :
  Calls Tryz.prog 195 #[.slice a zs.length cap,.slice a' zs.length cap'] w fun e w' => e=.returned (.bool true)∧Below w.heap.size w w' := by
 go_enter Tryz.func195,Tryz.ntmps195
 go_wp2
 go_loopw [5] (fun i wr=>∃ k:Nat,k≤zs.length∧i=.int .i64 k∧Below w.heap.size w wr) (fun i _=>zs.length - (intOf i).toNat)
 case atStart=>exact ⟨0,Nat.zero_le _,rfl,Below.refl _ _⟩
 case round=>
  obtain ⟨k,hk,rfl,hb⟩:=hrel
  by_cases hlt:k < zs.length
  ·obtain ⟨b,off,rfl,hbs,hc0,hc1,hc2⟩:=(h.below hb).at k hlt
   obtain ⟨b',off',rfl,hbs',hd0,hd1,hd2⟩:=(h'.below hb).at k hlt
   generalize zs.getD k undoNo=z at hc0 hc1 hc2 hd0 hd1 hd2
   obtain ⟨z0,z1,z2⟩:=z
   have k0:=lat_cell hc0
   have l0:=lat_cell hd0
   have k1:=lat_cell hc1
   have l1:=lat_cell hd1
   have k2:=lat_cell hc2
   have l2:=lat_cell hd2
   clear hc0 hc1 hc2 hd0 hd1 hd2
   have hW:Below wr.heap.size wr wr.drew:=(Below.refl _ _).drew
   have hne:Nonempty (Lat wr):=⟨⟨wr,Below.refl _ _⟩⟩
   go_wp2_with fail
   refine text_begin (S:=fun w' => ∃ u:Lat wr,w' = u.val) (by kernel_rfl) ?_
   refine seg_range [(0,8)] 2 (by kernel_rfl) (by kernel_rfl) (by kernel_rfl) (by kernel_rfl) (by kernel_rfl) ⟨⟨_,hW⟩,rfl⟩ ?_
   simp only [pickR,List.toList_toArray,List.flatMap_cons,List.flatMap_nil,List.drop_succ_cons,List.drop_zero,List.take_succ_cons,List.take_zero,List.cons_append,List.nil_append,List.append_nil]
   repeat go_big_quiet_step (fail)
   refine wpQuiet_nil ?_
   refine call_at 8 (some 25) 243 #[.agg #[.int .i64 z0,.bool z1,.int .i64 z2],.agg #[.int .i64 z0,.bool z1,.int .i64 z2]] 1 (by kernel_rfl) (by kernel_rfl) (by kernel_rfl) (by kernel_rfl) (by kernel_rfl) ?_
   refine (eqUndo_true _ _ _ _).mono ?_
   rintro e w2 ⟨rfl,hb2⟩
   replace hW:=hW.trans (hb2.mono hW.size)
   clear hb2
   refine ⟨_,rfl,⟨⟨_,hW⟩,rfl⟩,?_⟩
   simp only [Act.put,List.setIfInBounds_toArray,List.set_cons_zero,List.set_cons_succ]
   refine seg_range [(9,1)] 0 (by kernel_rfl) (by kernel_rfl) (by kernel_rfl) (by kernel_rfl) (by kernel_rfl) ⟨⟨_,hW⟩,rfl⟩ ?_
   simp only [pickR,List.toList_toArray,List.flatMap_cons,List.flatMap_nil,List.drop_succ_cons,List.drop_zero,List.take_succ_cons,List.take_zero,List.cons_append,List.nil_append,List.append_nil]
   repeat go_big_quiet_step (fail)
   refine wpQuiet_nil ?_
   refine text_end (by kernel_rfl) ?_
   replace hb:=hb.trans (hW.mono hb.size)
   clear k0 l0 k1 l1 k2 l2 hW hne
   go_wp2
   go_roundw
   case rel=>exact ⟨k + 1,by omega,by go_num,hb⟩
   case measure=>simp [intOf];omega
  ·go_wp2
   go_ret
   exact ⟨rfl,hb⟩

/-- Marks, 3 cells an element. -/
def undoMarks (c:Int) (n:Nat):List UndoD:=(List.range n).map fun (i:Nat)=>⟨c + ((i * 3:Nat):Int),((c + ((i * 3 + 1:Nat):Int)) % 3 == 0),c + ((i * 3 + 2:Nat):Int)⟩

set_option maxHeartbeats 1000000 in
theorem szUndoS_any (a:Option Addr) (n cap:Nat) (c:Int) (w:World) (hn:n≤9223372036854775807) (h0:0≤c) (h1:c≤1099511627776) :
  Calls Tryz.prog 189 #[.slice a n cap,.int .i64 c] w fun e w' => e=.returned (.int .i64 (if c - n < 0 then -1 else c - n))∧w' = w:=by
 by_cases h:c - n < 0
 ·rw [if_pos h]
  go_enter Tryz.func189,Tryz.ntmps189
  go_wp2
  go_ret
  exact ⟨rfl,rfl⟩
 ·rw [if_neg h]
  go_enter Tryz.func189,Tryz.ntmps189
  go_wp2
  go_ret
  exact ⟨rfl,rfl⟩

end Go.Proofs.YtpmkhnakgeillaaGreatDoor
namespace Go.Proofs.YtpmkhnakgeillaaGreatDoor
open Go.RowKit
open Go.BigFrame
set_option maxRecDepth 100000
def itemK:Kind ItemD where
 ty:=119
 size:=2
 cells:=ItemD.cells
 own _ _:=True
 rd _ _:=True
 foot _:=[]
 len _:=rfl
 own_rd _:=trivial
 own_out _ _ _:=trivial
 own_lt _ k hk:=by simp at hk
 rd_below _ _:=trivial

theorem itemK_at {w:World} {a:Option Addr} {n cap:Nat} {zs:List ItemD} (h:itemK.At w (.slice a n cap) zs):n=zs.length∧ItemRow w a zs:=by
 obtain ⟨a',c,e,hl,_⟩:=h
 simp only [Value.slice.injEq] at e
 obtain ⟨rfl,rfl,_⟩:=e
 exact ⟨rfl,hl⟩

theorem itemK_fp (v:Value) (zs:List ItemD):itemK.fp v zs=blk v:=by
 have:zs.flatMap itemK.foot=[]:=by simp [show ∀ z,itemK.foot z=[] from fun _=>rfl]
 simp [Kind.fp,this]

def undoK:Kind UndoD where
 ty:=216
 size:=3
 cells:=UndoD.cells
 own _ _:=True
 rd _ _:=True
 foot _:=[]
 len _:=rfl
 own_rd _:=trivial
 own_out _ _ _:=trivial
 own_lt _ k hk:=by simp at hk
 rd_below _ _:=trivial

theorem undoK_at {w:World} {a:Option Addr} {n cap:Nat} {zs:List UndoD} (h:undoK.At w (.slice a n cap) zs):n=zs.length∧UndoRow w a zs:=by
 obtain ⟨a',c,e,hl,_⟩:=h
 simp only [Value.slice.injEq] at e
 obtain ⟨rfl,rfl,_⟩:=e
 exact ⟨rfl,hl⟩

theorem undoK_fp (v:Value) (zs:List UndoD):undoK.fp v zs=blk v:=by
 have:zs.flatMap undoK.foot=[]:=by simp [show ∀ z,undoK.foot z=[] from fun _=>rfl]
 simp [Kind.fp,this]

theorem szItems_k (v:Value) (zs:List ItemD) (c:Int) (w:World) (h:itemK.At w v zs) (hn:zs.length≤9223372036854775807) (h0:0≤c) (h1:c≤1048576) :
  Calls Tryz.prog 132 #[v,.int .i64 c] w fun e w' => ∃ r:Int,e=.returned (.int .i64 r)∧(¬ r < 0→(zs.length:Int) + r=c)∧Below w.heap.size w w' := by
 obtain ⟨a,cap,rfl⟩:=h.shape
 refine (szItemS_any a zs.length cap c w hn h0 (by omega)).mono ?_
 rintro e w' ⟨rfl,rfl⟩
 refine ⟨_,rfl,?_,Below.refl _ _⟩
 split <;> omega

theorem toItems_k (v:Value) (zs:List ItemD) (w:World) (h:itemK.At w v zs) (hl:zs.length≤1048576) :
  Calls Tryz.prog 137 #[v] w fun e w' => ∃ v',e=.returned v' ∧ itemK.Own w' v' zs∧(itemK.fp v' zs).Nodup∧(∀ k∈itemK.fp v' zs,w.heap.size≤k)∧Below w.heap.size w w' := by
 obtain ⟨a,cap,rfl⟩:=h.shape
 refine (toItemS_any a cap zs w (itemK_at h).2 hl).mono ?_
 rintro e w' ⟨g,c,rfl,ho,hb⟩
 obtain ⟨o,hk⟩:=own_zero ho
 refine ⟨_,rfl,⟨o,fun _ _=>trivial⟩,?_,?_,hb⟩
 ·rw [itemK_fp];exact blk_nodup _
 ·rw [itemK_fp];exact hk

theorem eqItems_k (v v' : Value) (zs:List ItemD) (w:World) (h:itemK.At w v zs) (h' : itemK.At w v' zs) (hl:zs.length≤1048576) :
  Calls Tryz.prog 142 #[v,v'] w fun e w' => e=.returned (.bool true)∧Below w.heap.size w w' := by
 obtain ⟨a,cap,rfl⟩:=h.shape
 obtain ⟨a',cap',rfl⟩:=h'.shape
 exact eqItemS_true a a' cap cap' zs w (itemK_at h).2 (itemK_at h').2 (by omega)

theorem szUndos_k (v:Value) (zs:List UndoD) (c:Int) (w:World) (h:undoK.At w v zs) (hn:zs.length≤9223372036854775807) (h0:0≤c) (h1:c≤1048576) :
  Calls Tryz.prog 189 #[v,.int .i64 c] w fun e w' => ∃ r:Int,e=.returned (.int .i64 r)∧(¬ r < 0→(zs.length:Int) + r=c)∧Below w.heap.size w w' := by
 obtain ⟨a,cap,rfl⟩:=h.shape
 refine (szUndoS_any a zs.length cap c w hn h0 (by omega)).mono ?_
 rintro e w' ⟨rfl,rfl⟩
 refine ⟨_,rfl,?_,Below.refl _ _⟩
 split <;> omega

theorem toUndos_k (v:Value) (zs:List UndoD) (w:World) (h:undoK.At w v zs) (hl:zs.length≤1048576) :
  Calls Tryz.prog 192 #[v] w fun e w' => ∃ v',e=.returned v' ∧ undoK.Own w' v' zs∧(undoK.fp v' zs).Nodup∧(∀ k∈undoK.fp v' zs,w.heap.size≤k)∧Below w.heap.size w w' := by
 obtain ⟨a,cap,rfl⟩:=h.shape
 refine (toUndoS_any a cap zs w (undoK_at h).2 hl).mono ?_
 rintro e w' ⟨g,c,rfl,ho,hb⟩
 obtain ⟨o,hk⟩:=own_zero ho
 refine ⟨_,rfl,⟨o,fun _ _=>trivial⟩,?_,?_,hb⟩
 ·rw [undoK_fp];exact blk_nodup _
 ·rw [undoK_fp];exact hk

theorem eqUndos_k (v v' : Value) (zs:List UndoD) (w:World) (h:undoK.At w v zs) (h' : undoK.At w v' zs) (hl:zs.length≤1048576) :
  Calls Tryz.prog 195 #[v,v'] w fun e w' => e=.returned (.bool true)∧Below w.heap.size w w' := by
 obtain ⟨a,cap,rfl⟩:=h.shape
 obtain ⟨a',cap',rfl⟩:=h'.shape
 exact eqUndoS_true a a' cap cap' zs w (undoK_at h).2 (undoK_at h').2 (by omega)

/-- A list of undos where it lies. -/
structure USQ where
 va:Value
 us:List UndoD

def ussK:Kind USQ where
 ty:=161
 size:=1
 cells p:=[p.va]
 own w p:=undoK.Own w p.va p.us
 rd w p:=undoK.At w p.va p.us
 foot p:=undoK.fp p.va p.us
 len _:=rfl
 own_rd h:=h.at
 own_out h ho hd:=h.out ho hd
 own_lt h:=h.lt
 rd_below h hb:=h.below hb

def USQ.e (p:USQ):List UndoD:=p.us

def USQ.n (p:USQ):Nat:=p.us.length

def USQ.wf (p:USQ):Prop:=p.us.length≤9223372036854775807

theorem infoUndos9:(Tryz.prog.info? 161).map (fun i=>(i.zero,i.size,i.bytes))=some (some (.slice none 0 0),1,24):=by kernel_rfl

end Go.Proofs.YtpmkhnakgeillaaGreatDoor
namespace Go.Proofs.YtpmkhnakgeillaaGreatDoor
open Go.RowKit
set_option maxRecDepth 100000
section
variable {P:Type} {K:Kind P} {w w' : World} {v v' : Value} {ps:List P} {p:P} {B:Nat}
theorem Kind.row_snoc (ps:List P) (p:P):K.row (ps ++ [p])=K.row ps ++ K.cells p:=by simp [Kind.row]

theorem Kind.Own.snoc (h:K.Own w v ps) (hnd:(K.fp v ps).Nodup) (hlo:∀ k∈K.fp v ps,B≤k) (hp:K.own w p) (hpn:(K.foot p).Nodup) (hpd:∀ k∈K.foot p,k ∉ K.fp v ps) (hplo:∀ k∈K.foot p,B≤k) (hB:B≤w.heap.size)
  (hrow:w'.ownsRow 0 K.ty K.size v' (ps.length + 1) (K.row ps ++ K.cells p)) (hg:w.grownBy w' v.ownBlock) (hat:v'.ownBlock=v.ownBlock∨v'.ownBlock=some w.heap.size) :
  K.Own w' v' (ps ++ [p])∧(K.fp v' (ps ++ [p])).Nodup∧(∀ k∈K.fp v' (ps ++ [p]),B≤k)∧Out (blk v) w w' := by
 have hO:Out (blk v) w w' := Out.of_grown hg
 have hnd2:=List.nodup_append.1 hnd
 have hlt:=h.lt
 have hplt:=K.own_lt hp
 have hfe:(ps ++ [p]).flatMap K.foot=ps.flatMap K.foot ++ K.foot p:=by simp
 refine ⟨⟨?_,?_⟩,?_,?_,hO⟩
 ·rw [List.length_append,List.length_singleton,Kind.row_snoc]
  exact hrow
 ·intro q hq
  rcases List.mem_append.1 hq with hq | hq
  ·exact K.own_out (h.2 q hq) hO (fun k hk hkb=>hnd2.2.2 k hkb k (List.mem_flatMap.2 ⟨q,hq,hk⟩) rfl)
  ·simp only [List.mem_singleton] at hq
   subst hq
   exact K.own_out hp hO (fun k hk hkb=>hpd k hk (by simp only [Kind.fp,List.mem_append];exact Or.inl hkb))
 ·unfold Kind.fp
  rw [hfe]
  have hrest:(ps.flatMap K.foot ++ K.foot p).Nodup:=List.nodup_append.2 ⟨hnd2.2.1,hpn,fun a ha b hb e=>hpd b hb (by simp only [Kind.fp,List.mem_append];exact Or.inr (e ▸ ha))⟩
  rcases hat with hat | hat
  ·have e:blk v' = blk v:=by unfold blk;rw [hat]
   rw [e]
   refine List.nodup_append.2 ⟨hnd2.1,hrest,fun a ha b hb e=>?_⟩
   subst e
   rcases List.mem_append.1 hb with hb | hb
   ·exact hnd2.2.2 a ha a hb rfl
   ·exact hpd a hb (by simp only [Kind.fp,List.mem_append];exact Or.inl ha)
  ·have e:blk v' = [w.heap.size]:=by unfold blk;rw [hat];rfl
   rw [e]
   refine List.nodup_append.2 ⟨by simp,hrest,fun a ha b hb e=>?_⟩
   simp only [List.mem_singleton] at ha
   subst e ha
   rcases List.mem_append.1 hb with hb | hb
   ·have:=hlt _ (show w.heap.size∈K.fp v ps by simp only [Kind.fp,List.mem_append];exact Or.inr hb)
    omega
   ·have:=hplt _ hb
    omega
 ·intro k hk
  unfold Kind.fp at hk
  rw [hfe] at hk
  rcases List.mem_append.1 hk with hk | hk
  ·rcases hat with hat | hat
   ·exact hlo k (by simp only [Kind.fp,List.mem_append];left;unfold blk at hk ⊢;rw [hat] at hk;exact hk)
   ·unfold blk at hk
    rw [hat] at hk
    simp only [Option.toList,List.mem_singleton] at hk
    omega
  ·rcases List.mem_append.1 hk with hk | hk
   ·exact hlo k (by simp only [Kind.fp,List.mem_append];exact Or.inr hk)
   ·exact hplo k hk

theorem Kind.own_nil (w:World):K.Own w (.slice none 0 0) ([]:List P)∧(K.fp (.slice none 0 0) ([]:List P))=[]:=⟨⟨World.ownsRow_nil _ _ _ _,fun p hp=>by simp at hp⟩,by simp [Kind.fp,blk,Value.ownBlock]⟩

end
end Go.Proofs.YtpmkhnakgeillaaGreatDoor
namespace Go.Proofs.YtpmkhnakgeillaaGreatDoor
open Go.RowKit
set_option maxRecDepth 100000
section
variable {P:Type} {K:Kind P} {w w' : World} {a:Option Addr} {n cap:Nat} {ps:List P}
theorem Kind.At.takeK (h:K.At w (.slice a n cap) ps) (m:Nat) (hm:m≤ps.length):K.At w (.slice a m cap) (ps.take m):=by
 obtain ⟨a',c,e,hl,hr⟩:=h
 simp only [Value.slice.injEq] at e
 obtain ⟨rfl,_,rfl⟩:=e
 refine ⟨a,cap,by rw [List.length_take,Nat.min_eq_left hm],?_,fun p hp=>hr p (List.mem_of_mem_take hp)⟩
 have er:K.row ps=K.row (ps.take m) ++ K.row (ps.drop m):=by
  unfold Kind.row
  rw [← List.flatMap_append,List.take_append_drop]
 rcases hl with h0 | ⟨b,off,ha,hlt,hc⟩
 ·left
  rw [er] at h0
  exact (List.append_eq_nil_iff.1 h0).1
 ·right
  refine ⟨b,off,ha,hlt,fun j x hx=>hc j x ?_⟩
  rw [er,List.getElem?_append_left (List.getElem?_eq_some_iff.1 hx).1]
  exact hx

theorem Kind.At.nilA (w:World) (a:Option Addr) (c' : Nat):K.At w (.slice a 0 c') ([]:List P):=⟨a,c',rfl,Or.inl rfl,fun p hp=>by simp at hp⟩

theorem Kind.At.dropS (h:K.At w (.slice a n cap) ps) (m:Nat) (hm:m≤ps.length) (hcap:ps.length≤cap) (c' : Nat):K.At w (.slice (if cap=m then a else a.map (·.add (m * K.size))) (ps.drop m).length c') (ps.drop m):=by
 by_cases hc:cap=m
 ·have hp:ps.drop m=[]:=List.drop_of_length_le (by omega)
  rw [if_pos hc,hp]
  exact Kind.At.nilA w a c'
 ·rw [if_neg hc]
  cases a with
  | none=>
   obtain ⟨a',c,e,hl,hr⟩:=h
   simp only [Value.slice.injEq] at e
   obtain ⟨rfl,_,rfl⟩:=e
   rcases hl with h0 | ⟨b',off',ha,_⟩
   ·refine ⟨none,c',rfl,Or.inl ?_,fun p hp=>hr p (List.mem_of_mem_drop hp)⟩
    have er:K.row ps=K.row (ps.take m) ++ K.row (ps.drop m):=by
     unfold Kind.row
     rw [← List.flatMap_append,List.take_append_drop]
    rw [er] at h0
    exact (List.append_eq_nil_iff.1 h0).2
   ·simp at ha
  | some x=>
   obtain ⟨a',c,e,hl,hr⟩:=h
   simp only [Value.slice.injEq] at e
   obtain ⟨rfl,_,rfl⟩:=e
   refine ⟨_,c',rfl,?_,fun p hp=>hr p (List.mem_of_mem_drop hp)⟩
   have er:K.row ps=K.row (ps.take m) ++ K.row (ps.drop m):=by
    unfold Kind.row
    rw [← List.flatMap_append,List.take_append_drop]
   have hlen:(K.row (ps.take m)).length=m * K.size:=by rw [Kind.row_length,List.length_take,Nat.min_eq_left hm]
   rcases hl with h0 | ⟨b',off',ha,hlt,hc⟩
   ·left
    rw [er] at h0
    exact (List.append_eq_nil_iff.1 h0).2
   ·right
    simp only [Option.some.injEq] at ha
    subst ha
    refine ⟨b',off' + m * K.size,by simp [Addr.add],hlt,fun j y hy=>?_⟩
    have h2:=hc (m * K.size + j) y (by rw [er,List.getElem?_append_right (by omega),hlen,show m * K.size + j - m * K.size=j by omega];exact hy)
    rw [← Nat.add_assoc] at h2
    exact h2

/-- A row of one's own whose elements are read elsewhere. -/
theorem Kind.at_of_row {v:Value} {base e:Nat} (h:w.ownsRow base e K.size v ps.length (K.row ps)) (hr:∀ p∈ps,K.rd w p):K.At w v ps:=by
 obtain ⟨a,c,rfl⟩:=own_shape h
 exact ⟨a,c,rfl,Lies.own h,hr⟩

end
theorem Blk.outs8 {w w' : World} {b:Nat} {t:TypeId} {cs:Array Value} {F:List Nat} (h:Blk w b t cs) (hU:Out F w w') (hF:b ∉ F):Blk w' b t cs:=(hU.block b h.lt hF).trans h

/-- What goes with a slice: how long it may be. -/
def CapOk:Value→Prop
 | .slice _ n c=>n≤c∧c≤maxLen
 | _=>False

end Go.Proofs.YtpmkhnakgeillaaGreatDoor
namespace Go.Proofs.YtpmkhnakgeillaaGreatDoor
open Go.RowKit
open Go.BigFrame
set_option maxRecDepth 100000
/-- The first of f 0, f 1 .. f (n - 1) that is not 0; else 0. -/
def firstNZ (f:Nat→Int):Nat→Int
 | 0=>0
 | n + 1=>if firstNZ f n=0 then f n else firstNZ f n

theorem firstNZ_none (f:Nat→Int):∀ n,(∀ j,j < n→f j=0)→firstNZ f n=0
 | 0,_=>rfl
 | n + 1,h=>by
  have:=firstNZ_none f n (fun j hj=>h j (by omega))
  simp only [firstNZ,this,if_true]
  exact h n (by omega)

theorem firstNZ_first (f:Nat→Int) (k:Nat) (h:∀ j,j < k→f j=0) (hne:f k≠0):∀ n,k < n→firstNZ f n=f k
 | 0,hk=>by omega
 | n + 1,hk=>by
  by_cases e:k=n
  ·subst e
   simp only [firstNZ,firstNZ_none f k h,if_true]
  ·have:=firstNZ_first f k h hne n (by omega)
   simp only [firstNZ,this,hne,if_false]

theorem firstNZ_zero (f:Nat→Int):∀ n,firstNZ f n=0→∀ j,j < n→f j=0
 | 0,_,j,hj=>by omega
 | n + 1,h,j,hj=>by
  simp only [firstNZ] at h
  by_cases e:firstNZ f n=0
  ·rw [if_pos e] at h
   by_cases ej:j=n
   ·subst ej;exact h
   ·exact firstNZ_zero f n e j (by omega)
  ·rw [if_neg e] at h;exact absurd h e

def prevK (xs:List ItemD) (k:Nat):Int:=if k=0 then 0 else (xs.getD (k - 1) itemNo).key

def itF (xs:List ItemD) (k:Nat):Int:=
 if inW (xs.getD k itemNo).key 1 20=false∨inW (xs.getD k itemNo).val (-20000) 20000=false then 3
 else if (xs.getD k itemNo).key≤prevK xs k then 1 else 0

def itemsF (xs:List ItemD):Int:=if 8 < xs.length then 2 else firstNZ (itF xs) xs.length

theorem itF_ways (xs:List ItemD) (k:Nat) :
  (inW (xs.getD k itemNo).key 1 20=false∧itF xs k=3)∨(inW (xs.getD k itemNo).key 1 20=true∧inW (xs.getD k itemNo).val (-20000) 20000=false∧itF xs k=3) ∨
  (inW (xs.getD k itemNo).key 1 20=true∧inW (xs.getD k itemNo).val (-20000) 20000=true∧(xs.getD k itemNo).key≤prevK xs k∧itF xs k=1) ∨
  (inW (xs.getD k itemNo).key 1 20=true∧inW (xs.getD k itemNo).val (-20000) 20000=true∧¬ (xs.getD k itemNo).key≤prevK xs k∧itF xs k=0):=by
 unfold itF
 generalize xs.getD k itemNo=x
 generalize prevK xs k=p
 cases h1:inW x.key 1 20 <;> cases h2:inW x.val (-20000) 20000 <;> by_cases h3:x.key≤p <;> simp [h3]

set_option maxHeartbeats 400000 in
theorem isItemValue_any (n:Int) (w:World) :
  Calls Tryz.prog 234 #[.int .i64 n] w fun e w' => e=.returned (.bool (inW n (-20000) 20000))∧w' = w:=by
 have hc:=fun w=>isWithin_any n (-20000) 20000 w
 generalize inW n (-20000) 20000=r at hc
 go_enter Tryz.func234,Tryz.ntmps234
 go_wp2_with (go_at_call 63;refine (hc _).mono ?_;rintro e w' ⟨rfl,rfl⟩)
 go_ret
 exact ⟨rfl,rfl⟩

set_option maxHeartbeats 1000000 in
theorem implItemsFault_any (a:Option Addr) (cap:Nat) (zs:List ItemD) (w:World) (h:ItemRow w a zs) (hl:zs.length≤1048576) :
  Calls Tryz.prog 181 #[.slice a zs.length cap] w fun e w' => e=.returned (.int .i64 (itemsF zs))∧Below w.heap.size w w' := by
 by_cases h8:8 < zs.length
 ·have E:itemsF zs=2:=if_pos h8
  rw [E]
  go_enter Tryz.func181,Tryz.ntmps181
  go_wp2
  go_ret
  exact ⟨rfl,Below.refl _ _⟩
 have E:itemsF zs=firstNZ (itF zs) zs.length:=if_neg h8
 rw [E]
 clear E
 go_enter Tryz.func181,Tryz.ntmps181
 go_wp2
 go_loopw [3,11] (fun l j wr=>∃ k:Nat,k≤zs.length∧j=.int .i64 k∧l=.int .i64 (prevK zs k)∧Below w.heap.size w wr∧Hid (∀ j,j < k→itF zs j=0)) (fun _ j _=>zs.length - (intOf j).toNat)
 case atStart=>exact ⟨0,Nat.zero_le _,rfl,rfl,Below.refl _ _,fun j hj=>absurd hj (Nat.not_lt_zero _)⟩
 case round=>
  obtain ⟨k,hk,rfl,rfl,hb,HA⟩:=hrel
  by_cases hlt:k < zs.length
  ·obtain ⟨b,off,rfl,hbs,hc0,hc1⟩:=(h.below hb).at k hlt
   have hsz:=hb.size
   have HK:Hid (prevK zs (k + 1)=(zs.getD k itemNo).key):=if_neg (Nat.succ_ne_zero k)
   rcases itF_ways zs k with ⟨h1,hF⟩ | ⟨h1,h2,hF⟩ | ⟨h1,h2,h3,hF⟩ | ⟨h1,h2,h3,hF⟩
   case inr.inr.inr=>
    have HB:Hid (∀ j,j < k + 1→itF zs j=0):=by
     intro j hj
     by_cases hjk:j=k
     ·subst hjk;exact hF
     ·exact HA.out j (by omega)
    clear HA hF
    generalize prevK zs k=p at h3
    generalize zs.getD k itemNo=z at hc0 hc1 h1 h2 h3 HK
    obtain ⟨z0,z1⟩:=z
    dsimp only at hc0 hc1 h1 h2 h3 HK
    go_wp2_with (first | (go_at_call 63;refine (isWithin_any _ _ _ _).mono ?_;rintro e w' ⟨rfl,rfl⟩) | (go_at_call 234;refine (isItemValue_any _ _).mono ?_;rintro e w' ⟨rfl,rfl⟩))
    go_roundw
    case rel=>exact ⟨k + 1,by omega,by go_num,by rw [HK.out],by go_grown,HB⟩
    case measure=>simp [intOf];omega
   all_goals
    have E:Hid (firstNZ (itF zs) zs.length=_):=firstNZ_first (itF zs) k HA.out (by rw [hF];decide) zs.length hlt
    rw [hF] at E
    clear HA hF HK
    generalize prevK zs k=p at *
    generalize zs.getD k itemNo=z at *
    obtain ⟨z0,z1⟩:=z
    dsimp only at *
    go_wp2_with (first | (go_at_call 63;refine (isWithin_any _ _ _ _).mono ?_;rintro e w' ⟨rfl,rfl⟩) | (go_at_call 234;refine (isItemValue_any _ _).mono ?_;rintro e w' ⟨rfl,rfl⟩))
    go_ret
    rw [E.out]
    exact ⟨rfl,by go_grown⟩
  ·have hkl:k=zs.length:=by omega
   subst hkl
   have E:Hid (firstNZ (itF zs) zs.length=0):=firstNZ_none _ _ HA.out
   clear HA
   go_wp2
   go_ret
   rw [E.out]
   exact ⟨rfl,hb⟩

end Go.Proofs.YtpmkhnakgeillaaGreatDoor
namespace Go.Proofs.YtpmkhnakgeillaaGreatDoor
open Go.RowKit
set_option maxRecDepth 100000
/-- v owns its row, which lies in blocks from lo up to hi. -/
def OwnS (e size lo hi:Nat) (w:World) (v:Value) (n:Nat) (xs:List Value):Prop:=w.ownsRow lo e size v n xs∧∀ g,v.ownBlock=some g→g < hi

theorem OwnS.of {e size lo n:Nat} {w:World} {v:Value} {xs:List Value} (o:w.ownsRow lo e size v n xs):OwnS e size lo w.heap.size w v n xs:=⟨o,fun g hg=>(o.lt g hg).2⟩

theorem OwnS.below {e size lo hi n:Nat} {w w' : World} {v:Value} {xs:List Value} (o:OwnS e size lo hi w v n xs) (hb:Below w.heap.size w w'):OwnS e size lo hi w' v n xs:=⟨own_below o.1 hb,o.2⟩

theorem OwnS.only {e size lo hi n lo' hi' : Nat} {w w' : World} {v:Value} {xs:List Value} (o:OwnS e size lo hi w v n xs) (h:Only lo' hi' w w') (hh:hi' ≤ lo):OwnS e size lo hi w' v n xs:=⟨own_only o.1 h hh,o.2⟩

theorem OwnS.lies {e size lo hi n c:Nat} {w:World} {a:Option Addr} {xs:List Value} (o:OwnS e size lo hi w (.slice a n c) n xs):Lies w a xs:=Lies.own o.1

theorem OwnS.wide {e size lo hi n lo' hi' : Nat} {w:World} {v:Value} {xs:List Value} (o:OwnS e size lo hi w v n xs) (h:lo' ≤ lo) (hh:hi≤hi'):OwnS e size lo' hi' w v n xs:=⟨own_base o.1 h,fun g hg=>Nat.lt_of_lt_of_le (o.2 g hg) hh⟩

theorem OwnS.grown {e size lo hi n:Nat} {w w' : World} {v:Value} {xs:List Value} (o:OwnS e size lo hi w v n xs) (hg:w.grownBy w' v.ownBlock):Only lo hi w w' := only_of_grown hg (fun g h=>⟨(o.1.lt g h).1,o.2 g h⟩)

/-- Another list's marking leaves it, where the two lie in two blocks. -/
theorem OwnS.beside {e size lo hi n:Nat} {w w' : World} {v v' : Value} {xs:List Value} (o:OwnS e size lo hi w v n xs) (hg:w.grownBy w' v'.ownBlock) (h:v.ownBlock=none∨v.ownBlock≠v'.ownBlock):OwnS e size lo hi w' v n xs:=⟨o.1.kept hg h,o.2⟩

-- 39

theorem OwnTxns.only {lo hi lo' hi' : Nat} {w w' : World} {v:Value} {ds:List TxnD} (h:OwnTxns lo hi w v ds) (ho:Only lo' hi' w w') (hh:hi' ≤ lo):OwnTxns lo hi w' v ds:=by
 obtain ⟨g,cap,ps,e,hg,hd,o,hp⟩:=h
 exact ⟨g,cap,ps,e,hg,hd,own_only o ho hh,fun p hm=>⟨own_only (hp p hm).1 ho hh,(hp p hm).2⟩⟩

end Go.Proofs.YtpmkhnakgeillaaGreatDoor
namespace Go.Proofs.YtpmkhnakgeillaaGreatDoor
open Go.RowKit Go.Sort Go.Shelf
set_option maxRecDepth 100000
def shSort_ren:Go.Shelf.Ren:=⟨fun | 5=>285 | 8=>298 | 7=>297 | 19=>313 | 20=>314 | 10=>304 | 11=>305 | 12=>306 | 13=>307 | 14=>308 | 15=>309 | 16=>310 | 17=>311 | 18=>312 | 30=>319 | 31=>320 | 32=>321 | 33=>322 | 34=>323 | 35=>324 | 40=>327 | n=>n,fun | 23=>115 | 25=>2 | 3=>3 | 32=>370 | 22=>115 | 0=>0 | 44=>388 | 46=>378 | 4=>4 | 36=>381 | 35=>380 | 41=>385 | 5=>5 | 9=>9 | 53=>396 | 57=>400 | 63=>404 | 64=>405 | n=>n,fun | n=>n⟩

theorem shSort:Go.Proofs.SlLaysM.n5 Tryz.prog shSort_ren:={
 mixed:=by kernel_rfl,
 f5:=⟨Tryz.f285.name,by decide,Tryz.func285.trans (congrArg some (by kernel_rfl))⟩,
 f7:=⟨Tryz.f297.name,by decide,Tryz.func297.trans (congrArg some (by kernel_rfl))⟩,
 f8:=Tryz.func298.trans (congrArg some (by kernel_rfl)),
 f10:=⟨Tryz.f304.name,by decide,Tryz.func304.trans (congrArg some (by kernel_rfl))⟩,
 f11:=⟨Tryz.f305.name,by decide,Tryz.func305.trans (congrArg some (by kernel_rfl))⟩,
 f12:=⟨Tryz.f306.name,by decide,Tryz.func306.trans (congrArg some (by kernel_rfl))⟩,
 f13:=⟨Tryz.f307.name,by decide,Tryz.func307.trans (congrArg some (by kernel_rfl))⟩,
 f14:=⟨Tryz.f308.name,by decide,Tryz.func308.trans (congrArg some (by kernel_rfl))⟩,
 f15:=⟨Tryz.f309.name,by decide,Tryz.func309.trans (congrArg some (by kernel_rfl))⟩,
 f16:=⟨Tryz.f310.name,by decide,Tryz.func310.trans (congrArg some (by kernel_rfl))⟩,
 f17:=⟨Tryz.f311.name,by decide,Tryz.func311.trans (congrArg some (by kernel_rfl))⟩,
 f18:=⟨Tryz.f312.name,by decide,Tryz.func312.trans (congrArg some (by kernel_rfl))⟩,
 f19:=Tryz.func313.trans (congrArg some (by kernel_rfl)),
 f20:=Tryz.func314.trans (congrArg some (by kernel_rfl)),
 f30:=⟨Tryz.f319.name,by decide,Tryz.func319.trans (congrArg some (by kernel_rfl))⟩,
 f31:=Tryz.func320.trans (congrArg some (by kernel_rfl)),
 f32:=Tryz.func321.trans (congrArg some (by kernel_rfl)),
 f33:=⟨Tryz.f322.name,by decide,Tryz.func322.trans (congrArg some (by kernel_rfl))⟩,
 f34:=⟨Tryz.f323.name,by decide,Tryz.func323.trans (congrArg some (by kernel_rfl))⟩,
 f35:=⟨Tryz.f324.name,by decide,Tryz.func324.trans (congrArg some (by kernel_rfl))⟩,
 f40:=⟨Tryz.f327.name,by decide,Tryz.func327.trans (congrArg some (by kernel_rfl))⟩,
 t0:=Tryz.underlying0,
 a0:=Tryz.isAgg0,
 z0:=Tryz.sizeOf0,
 v0:=Tryz.zeroValue0,
 t3:=Tryz.underlying3,
 a3:=Tryz.isAgg3,
 z3:=Tryz.sizeOf3,
 v3:=Tryz.zeroValue3,
 t4:=Tryz.underlying4,
 a4:=Tryz.isAgg4,
 z4:=Tryz.sizeOf4,
 v4:=Tryz.zeroValue4,
 t5:=Tryz.underlying5,
 a5:=Tryz.isAgg5,
 z5:=Tryz.sizeOf5,
 v5:=Tryz.zeroValue5,
 t9:=Tryz.underlying9,
 a9:=Tryz.isAgg9,
 z9:=Tryz.sizeOf9,
 v9:=Tryz.zeroValue9,
 t22:=Tryz.underlying115,
 a22:=Tryz.isAgg115,
 z22:=Tryz.sizeOf115,
 v22:=Tryz.zeroValue115,
 t23:=Tryz.underlying115,
 a23:=Tryz.isAgg115,
 z23:=Tryz.sizeOf115,
 v23:=Tryz.zeroValue115,
 t25:=Tryz.underlying2,
 a25:=Tryz.isAgg2,
 z25:=Tryz.sizeOf2,
 v25:=Tryz.zeroValue2,
 t32:=Tryz.underlying370,
 a32:=Tryz.isAgg370,
 z32:=Tryz.sizeOf370,
 v32:=Tryz.zeroValue370,
 t35:=Tryz.underlying380,
 a35:=Tryz.isAgg380,
 z35:=Tryz.sizeOf380,
 v35:=Tryz.zeroValue380,
 t36:=Tryz.underlying381,
 a36:=Tryz.isAgg381,
 z36:=Tryz.sizeOf381,
 v36:=Tryz.zeroValue381,
 t41:=Tryz.underlying385,
 a41:=Tryz.isAgg385,
 z41:=Tryz.sizeOf385,
 v41:=Tryz.zeroValue385,
 t44:=Tryz.underlying388,
 a44:=Tryz.isAgg388,
 z44:=Tryz.sizeOf388,
 v44:=Tryz.zeroValue388,
 t46:=Tryz.underlying378,
 a46:=Tryz.isAgg378,
 z46:=Tryz.sizeOf378,
 v46:=Tryz.zeroValue378,
 t53:=Tryz.underlying396,
 a53:=Tryz.isAgg396,
 z53:=Tryz.sizeOf396,
 v53:=Tryz.zeroValue396,
 t57:=Tryz.underlying400,
 a57:=Tryz.isAgg400,
 z57:=Tryz.sizeOf400,
 v57:=Tryz.zeroValue400,
 t63:=Tryz.underlying404,
 a63:=Tryz.isAgg404,
 z63:=Tryz.sizeOf404,
 v63:=Tryz.zeroValue404,
 t64:=Tryz.underlying405,
 a64:=Tryz.isAgg405,
 z64:=Tryz.sizeOf405,
 v64:=Tryz.zeroValue405 }

def shComp_ren:Go.Shelf.Ren:=⟨fun | 43=>287 | n=>n,fun | 22=>115 | 23=>2 | 3=>3 | 4=>4 | 0=>0 | n=>n,fun | n=>n⟩

theorem shComp:Go.Proofs.SlLaysN.n43 Tryz.prog shComp_ren:={
 mixed:=by kernel_rfl,
 f43:=⟨Tryz.f287.name,by decide,Tryz.func287.trans (congrArg some (by kernel_rfl))⟩,
 t0:=Tryz.underlying0,
 a0:=Tryz.isAgg0,
 z0:=Tryz.sizeOf0,
 v0:=Tryz.zeroValue0,
 t3:=Tryz.underlying3,
 a3:=Tryz.isAgg3,
 z3:=Tryz.sizeOf3,
 v3:=Tryz.zeroValue3,
 t4:=Tryz.underlying4,
 a4:=Tryz.isAgg4,
 z4:=Tryz.sizeOf4,
 v4:=Tryz.zeroValue4,
 t22:=Tryz.underlying115,
 a22:=Tryz.isAgg115,
 z22:=Tryz.sizeOf115,
 v22:=Tryz.zeroValue115,
 t23:=Tryz.underlying2,
 a23:=Tryz.isAgg2,
 z23:=Tryz.sizeOf2,
 v23:=Tryz.zeroValue2,
 i23:=by kernel_rfl }

end Go.Proofs.YtpmkhnakgeillaaGreatDoor
namespace Go.Proofs.YtpmkhnakgeillaaGreatDoor
open Go.RowKit Go.Maps Go.Sort Go.Shelf
def shKeys_ren:Go.Shelf.Ren:=⟨fun | 7=>272 | 10=>286 | n=>n,fun | 23=>309 | 26=>2 | 3=>2 | 28=>366 | 0=>0 | 27=>365 | 33=>323 | 4=>4 | n=>n,fun | n=>n⟩

theorem shKeys:Go.Proofs.SlLaysZI.n7 Tryz.prog shKeys_ren:={
 mixed:=by kernel_rfl,
 f7:=⟨Tryz.f272.name,by decide,Tryz.func272.trans (congrArg some (by kernel_rfl))⟩,
 f10:=⟨Tryz.f286.name,by decide,Tryz.func286.trans (congrArg some (by kernel_rfl))⟩,
 t0:=Tryz.underlying0,
 a0:=Tryz.isAgg0,
 z0:=Tryz.sizeOf0,
 v0:=Tryz.zeroValue0,
 t4:=Tryz.underlying4,
 a4:=Tryz.isAgg4,
 z4:=Tryz.sizeOf4,
 v4:=Tryz.zeroValue4,
 t23:=Tryz.underlying309,
 a23:=Tryz.isAgg309,
 z23:=Tryz.sizeOf309,
 v23:=Tryz.zeroValue309,
 t26:=Tryz.underlying2,
 a26:=Tryz.isAgg2,
 z26:=Tryz.sizeOf2,
 v26:=Tryz.zeroValue2,
 t27:=Tryz.underlying365,
 a27:=Tryz.isAgg365,
 z27:=Tryz.sizeOf365,
 v27:=Tryz.zeroValue365,
 t28:=Tryz.underlying366,
 a28:=Tryz.isAgg366,
 z28:=Tryz.sizeOf366,
 v28:=Tryz.zeroValue366,
 t33:=Tryz.underlying323,
 a33:=Tryz.isAgg323,
 z33:=Tryz.sizeOf323,
 v33:=Tryz.zeroValue323 }

def shSorted_ren:Go.Shelf.Ren:=⟨fun | 6=>271 | 8=>284 | 9=>285 | 11=>296 | 13=>298 | 12=>297 | 23=>313 | 24=>314 | 14=>304 | 15=>305 | 16=>306 | 17=>307 | 18=>308 | 19=>309 | 20=>310 | 21=>311 | 22=>312 | 25=>319 | 26=>320 | 27=>321 | 28=>322 | 29=>323 | 30=>324 | 31=>327 | n=>n,fun | 26=>2 | 28=>366 | 24=>115 | 0=>0 | 3=>3 | 37=>370 | 48=>388 | 50=>378 | 4=>4 | 40=>381 | 39=>380 | 45=>385 | 5=>5 | 9=>9 | 51=>396 | 55=>400 | 57=>404 | 58=>405 | 33=>323 | n=>n,fun | n=>n⟩

theorem shSorted:Go.Proofs.SlLaysZI.n6 Tryz.prog shSorted_ren:={
 mixed:=by kernel_rfl,
 f6:=⟨Tryz.f271.name,by decide,Tryz.func271.trans (congrArg some (by kernel_rfl))⟩,
 f8:=⟨Tryz.f284.name,by decide,Tryz.func284.trans (congrArg some (by kernel_rfl))⟩,
 f11:=⟨Tryz.f296.name,by decide,Tryz.func296.trans (congrArg some (by kernel_rfl))⟩,
 t0:=Tryz.underlying0,
 a0:=Tryz.isAgg0,
 z0:=Tryz.sizeOf0,
 v0:=Tryz.zeroValue0,
 t24:=Tryz.underlying115,
 a24:=Tryz.isAgg115,
 z24:=Tryz.sizeOf115,
 v24:=Tryz.zeroValue115,
 t26:=Tryz.underlying2,
 a26:=Tryz.isAgg2,
 z26:=Tryz.sizeOf2,
 v26:=Tryz.zeroValue2,
 t28:=Tryz.underlying366,
 a28:=Tryz.isAgg366,
 z28:=Tryz.sizeOf366,
 v28:=Tryz.zeroValue366,
 i26:=by kernel_rfl }

end Go.Proofs.YtpmkhnakgeillaaGreatDoor
