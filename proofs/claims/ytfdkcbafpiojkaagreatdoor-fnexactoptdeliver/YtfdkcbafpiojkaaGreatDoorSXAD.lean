/- Texts joined, with what the law reaches alone. -/
import Derived.Test.YtfdkcbafpiojkaaGreatDoorSXAB
import Derived.Lib.SmallJoins
import Derived.Test.YtfdkcbafpiojkaaGreatDoorSXAC
import Derived.Test.YtfdkcbafpiojkaaGreatDoorSXAA
import Derived.Maps.AppendAt
set_option linter.unusedVariables false
set_option linter.unusedSimpArgs false
namespace Go.Proofs.YtfdkcbafpiojkaaGreatDoor
open Go.RowKit
open Go.BigFrame
set_option maxRecDepth 100000
structure ItemD where
 key:Int
 val:Int
deriving DecidableEq

def itemNo:ItemD:=⟨0,0⟩

def ItemD.cells (x:ItemD):List Value:=[.int .i64 x.key,.int .i64 x.val]

def itemCells (xs:List ItemD):List Value:=xs.flatMap ItemD.cells

def ItemRow (w:World) (a:Option Addr) (xs:List ItemD):Prop:=Lies w a (itemCells xs)

theorem itemCells_length (xs:List ItemD):(itemCells xs).length=xs.length * 2:=by
 induction xs with
 | nil=>rfl
 | cons x xs ih=>simp only [itemCells,List.flatMap_cons,List.length_append,List.length_cons] at ih ⊢;rw [ih];simp [ItemD.cells];omega

theorem itemCells_get (xs:List ItemD):∀ (i:Nat),i < xs.length→(itemCells xs)[i * 2]? = some (.int .i64 (xs.getD i itemNo).key)∧(itemCells xs)[i * 2 + 1]? = some (.int .i64 (xs.getD i itemNo).val):=by
 induction xs with
 | nil=>intro i h;simp at h
 | cons x xs ih=>
  intro i h
  cases i with
  | zero=>simp [itemCells,ItemD.cells]
  | succ i=>
   have e:itemCells (x :: xs)=x.cells ++ itemCells xs:=rfl
   have hl:x.cells.length=2:=rfl
   obtain ⟨h1,h2⟩:=ih i (by simpa using h)
   rw [e,List.getElem?_append_right (by omega),List.getElem?_append_right (by omega),hl,show (i + 1) * 2 - 2=i * 2 by omega,show (i + 1) * 2 + 1 - 2=i * 2 + 1 by omega]
   simpa [List.getD] using ⟨h1,h2⟩

theorem ItemRow.below {w w' : World} {a:Option Addr} {xs:List ItemD} (h:ItemRow w a xs) (hb:Below w.heap.size w w'):ItemRow w' a xs:=Lies.below h hb

theorem ItemRow.at {w:World} {a:Option Addr} {xs:List ItemD} (h:ItemRow w a xs) (i:Nat) (hi:i < xs.length) :
  ∃ b off,a=some ⟨b,off,none⟩∧b < w.heap.size∧w.cell? ⟨b,off + i * 2,none⟩=some (.int .i64 (xs.getD i itemNo).key)∧w.cell? ⟨b,off + i * 2 + 1,none⟩=some (.int .i64 (xs.getD i itemNo).val):=by
 obtain ⟨h1,h2⟩:=itemCells_get xs i hi
 rcases h with h | ⟨b,off,ha,hlt,hc⟩
 ·have:=itemCells_length xs
  rw [h] at this
  simp at this
  omega
 ·exact ⟨b,off,ha,hlt,hc _ _ h1,by rw [Nat.add_assoc];exact hc _ _ h2⟩

theorem infoItem:(Tryz.prog.info? 134).map (fun i=>(i.zero,i.size,i.bytes))=some (some (.agg #[.int .i64 0,.int .i64 0]),2,16):=by kernel_rfl

set_option maxHeartbeats 1000000 in
theorem toItem_any (k:Int) (y:Int) (w:World) :
  Calls Tryz.prog 113 #[.agg #[.int .i64 k,.int .i64 y]] w fun e w' => e=.returned (.agg #[.int .i64 k,.int .i64 y])∧Below w.heap.size w w' := by
 go_enter Tryz.func113,Tryz.ntmps113
 go_wp2
 exact bodyPost_ret (v:=.agg #[.int .i64 k,.int .i64 y]) (by simp [results,Tryz.results113,go_sem]) rfl ⟨rfl,by go_grown⟩

/-- The cells of one element are written over. -/
theorem layItem {w:World} {base e g cap n k:Nat} {zs ys:List Value} {v0 v1:Value} (ho:w.ownsRow base e 2 (.slice (some ⟨g,0,none⟩) n cap) n (layV zs ys (k * 2)))
  (hl:ys.length=zs.length) (hz:zs.length=n * 2) (hk:k < n) (g0:zs[k * 2]? = some v0) (g1:zs[k * 2 + 1]? = some v1) :
  ((w.setCell ⟨g,k * 2,none⟩ v0).setCell ⟨g,k * 2 + 1,none⟩ v1).ownsRow base e 2 (.slice (some ⟨g,0,none⟩) n cap) n (layV zs ys ((k + 1) * 2)) ∧
  (w.frozen? ⟨g,k * 2,none⟩=false∧w.frozen? ⟨g,k * 2 + 1,none⟩=false) ∧
  ((∃ u,w.cell? ⟨g,k * 2,none⟩=some u)∧(∃ u,w.cell? ⟨g,k * 2 + 1,none⟩=some u)) ∧
  (∀ B a,Below B a w→B≤g→Below B a ((w.setCell ⟨g,k * 2,none⟩ v0).setCell ⟨g,k * 2 + 1,none⟩ v1)):=by
 have hc:∀ j,j < n * 2→∃ u,w.cell? ⟨g,j,none⟩=some u:=fun j hj=>by
  rw [ho.cellAt j hj]
  exact ⟨_,List.getElem?_eq_getElem (by rw [ho.1];exact hj)⟩
 have s0:=(ho.stored (k * 2) v0).1
 rw [layV_step _ _ _ _ hl g0] at s0
 have s1:=(s0.stored (k * 2 + 1) v1).1
 rw [layV_step _ _ _ _ hl g1,show k * 2 + 1 + 1=(k + 1) * 2 by omega] at s1
 exact ⟨s1,⟨ho.frozenAt _,ho.frozenAt _⟩,⟨hc _ (by omega),hc _ (by omega)⟩,fun B a h hB=>((h.setCell hB _).setCell hB _)⟩

set_option maxHeartbeats 1000000 in
theorem toItemS_any (a:Option Addr) (cap:Nat) (zs:List ItemD) (w:World) (h:ItemRow w a zs) (hl:zs.length≤1048576) :
  Calls Tryz.prog 55 #[.slice a zs.length cap] w fun e w' => ∃ g c,e=.returned (.slice (some ⟨g,0,none⟩) zs.length c) ∧
   w'.ownsRow w.heap.size 134 2 (.slice (some ⟨g,0,none⟩) zs.length c) zs.length (itemCells zs)∧Below w.heap.size w w' := by
 obtain ⟨i0,hi,hz0,hz1,hz2⟩:=info_parts infoItem
 have hbytes:i0.bytes * zs.length≤281474976710656:=by rw [hz2];omega
 have hmax:zs.length≤maxLen:=by unfold maxLen;omega
 have hcl:=itemCells_length zs
 go_enter Tryz.func55,Tryz.ntmps55
 go_wp2_with (at_make;refine wpList_make_full _ rfl _ _ 29 rfl w.heap.size 134 i0 (.agg #[.int .i64 0,.int .i64 0]) 2 Tryz.underlying29 hi hz0 hz1 _ _ _ _ zs.length rfl rfl rfl rfl hbytes hmax (Nat.le_refl _) ?_)
 intro w1 hown hgrow
 have hlen0:(madeCells #[Value.int .i64 0,.int .i64 0] (zs.length * 2)).toList.length=(itemCells zs).length:=by simp [size_madeCells,hcl]
 have hb1:Below w.heap.size w w1:=(Below.refl _ _).grown hgrow (Nat.le_refl _) (by simp)
 generalize (madeCells #[Value.int .i64 0,.int .i64 0] (zs.length * 2)).toList=ys at hown hlen0
 rw [← layV_zero (itemCells zs) ys] at hown
 go_wp2
 go_loopw [4] (fun i wr=>∃ k:Nat,k≤zs.length∧i=.int .i64 k∧wr.ownsRow w.heap.size 134 2 (.slice (some ⟨w.heap.size,0,none⟩) zs.length zs.length) zs.length (layV (itemCells zs) ys (k * 2))∧Below w.heap.size w wr) (fun i _=>zs.length - (intOf i).toNat)
 case atStart=>exact ⟨0,Nat.zero_le _,rfl,by simpa using hown,hb1⟩
 case round=>
  obtain ⟨k,hk,rfl,ho,hb⟩:=hrel
  by_cases hlt:k < zs.length
  ·obtain ⟨b,off,rfl,hbs,hc0,hc1⟩:=(h.below hb).at k hlt
   obtain ⟨g0,g1⟩:=itemCells_get zs k hlt
   generalize zs.getD k itemNo=z at hc0 hc1 g0 g1
   go_wp2_with fail
   refine (toItem_any _ _ _).mono ?_
   rintro e w2 ⟨rfl,hb2⟩
   replace ho:=own_below ho hb2
   replace hb:=hb.trans (hb2.mono hb.size)
   clear hc0 hc1 hb2
   obtain ⟨hst,hfr,hce,hbel⟩:=layItem ho hlen0 hcl hlt g0 g1
   obtain ⟨f0,f1⟩:=hfr
   obtain ⟨⟨u0,e0⟩,⟨u1,e1⟩⟩:=hce
   have R:Hid (_∧_):=⟨hst,hbel _ _ hb (Nat.le_refl _)⟩
   clear hst hbel g0 g1 ho
   go_wp2
   go_roundw
   case rel=>exact ⟨k + 1,by omega,by go_num,R.out.1,R.out.2⟩
   case measure=>simp [intOf];omega
  ·go_wp2
   go_ret
   have hkl:k=zs.length:=by omega
   subst hkl
   rw [layV_all _ _ _ hlen0 hcl] at ho
   exact ⟨_,_,rfl,ho,hb⟩

set_option maxHeartbeats 1000000 in
theorem eqItem_true (k:Int) (y:Int) (w:World) :
  Calls Tryz.prog 122 #[.agg #[.int .i64 k,.int .i64 y],.agg #[.int .i64 k,.int .i64 y]] w fun e w' => e=.returned (.bool true)∧Below w.heap.size w w' := by
 have h0:(k != k)=false:=by simp
 have h1:(y != y)=false:=by simp
 go_enter Tryz.func122,Tryz.ntmps122
 go_wp2
 go_ret
 exact ⟨rfl,by go_grown⟩

set_option maxHeartbeats 2000000 in
theorem eqItemS_true (a a' : Option Addr) (cap cap' : Nat) (zs:List ItemD) (w:World) (h:ItemRow w a zs) (h' : ItemRow w a' zs) (hl:zs.length≤1099511627776) :
  Calls Tryz.prog 59 #[.slice a zs.length cap,.slice a' zs.length cap'] w fun e w' => e=.returned (.bool true)∧Below w.heap.size w w' := by
 go_enter Tryz.func59,Tryz.ntmps59
 go_wp2
 go_loopw [5] (fun i wr=>∃ k:Nat,k≤zs.length∧i=.int .i64 k∧Below w.heap.size w wr) (fun i _=>zs.length - (intOf i).toNat)
 case atStart=>exact ⟨0,Nat.zero_le _,rfl,Below.refl _ _⟩
 case round=>
  obtain ⟨k,hk,rfl,hb⟩:=hrel
  by_cases hlt:k < zs.length
  ·obtain ⟨b,off,rfl,hbs,hc0,hc1⟩:=(h.below hb).at k hlt
   obtain ⟨b',off',rfl,hbs',hd0,hd1⟩:=(h'.below hb).at k hlt
   generalize zs.getD k itemNo=z at hc0 hc1 hd0 hd1
   obtain ⟨z0,z1⟩:=z
   have k0:=lat_cell hc0
   have l0:=lat_cell hd0
   have k1:=lat_cell hc1
   have l1:=lat_cell hd1
   clear hc0 hc1 hd0 hd1
   have hW:Below wr.heap.size wr wr.drew:=(Below.refl _ _).drew
   have hne:Nonempty (Lat wr):=⟨⟨wr,Below.refl _ _⟩⟩
   go_wp2_with fail
   refine text_begin (S:=fun w' => ∃ u:Lat wr,w' = u.val) (by kernel_rfl) ?_
   refine seg_range [(0,8)] 2 (by kernel_rfl) (by kernel_rfl) (by kernel_rfl) (by kernel_rfl) (by kernel_rfl) ⟨⟨_,hW⟩,rfl⟩ ?_
   simp only [pickR,List.toList_toArray,List.flatMap_cons,List.flatMap_nil,List.drop_succ_cons,List.drop_zero,List.take_succ_cons,List.take_zero,List.cons_append,List.nil_append,List.append_nil]
   repeat go_big_quiet_step (fail)
   refine wpQuiet_nil ?_
   refine call_at 8 (some 25) 122 #[.agg #[.int .i64 z0,.int .i64 z1],.agg #[.int .i64 z0,.int .i64 z1]] 1 (by kernel_rfl) (by kernel_rfl) (by kernel_rfl) (by kernel_rfl) (by kernel_rfl) ?_
   refine (eqItem_true _ _ _).mono ?_
   rintro e w2 ⟨rfl,hb2⟩
   replace hW:=hW.trans (hb2.mono hW.size)
   clear hb2
   refine ⟨_,rfl,⟨⟨_,hW⟩,rfl⟩,?_⟩
   simp only [Act.put,List.setIfInBounds_toArray,List.set_cons_zero,List.set_cons_succ]
   refine seg_range [(9,1)] 0 (by kernel_rfl) (by kernel_rfl) (by kernel_rfl) (by kernel_rfl) (by kernel_rfl) ⟨⟨_,hW⟩,rfl⟩ ?_
   simp only [pickR,List.toList_toArray,List.flatMap_cons,List.flatMap_nil,List.drop_succ_cons,List.drop_zero,List.take_succ_cons,List.take_zero,List.cons_append,List.nil_append,List.append_nil]
   repeat go_big_quiet_step (fail)
   refine wpQuiet_nil ?_
   refine text_end (by kernel_rfl) ?_
   replace hb:=hb.trans (hW.mono hb.size)
   clear k0 l0 k1 l1 hW hne
   go_wp2
   go_roundw
   case rel=>exact ⟨k + 1,by omega,by go_num,hb⟩
   case measure=>simp [intOf];omega
  ·go_wp2
   go_ret
   exact ⟨rfl,hb⟩

theorem grownItem {w wr:World} {g k:Nat} {v0 v1:Value} (h:w.grownBy wr (some g)):w.grownBy ((wr.setCell ⟨g,k,none⟩ v0).setCell ⟨g,k + 1,none⟩ v1) (some g):=by
 have one:∀ (u:World) (j:Nat) (v:Value),w.grownBy u (some g)→w.grownBy (u.setCell ⟨g,j,none⟩ v) (some g):=fun u j v h=>
  ⟨h.os,h.tape,h.output,by simpa [World.setCell] using h.size,fun i hi hne=>by rw [Below.heap_setCell _ _ _ _ (by intro e;apply hne;simp [e])];exact h.block i hi hne⟩
 exact (one _ _ _ (one _ _ _ h))

/-- Marks, 2 cells an element. -/
def itemMarks (c:Int) (n:Nat):List ItemD:=(List.range n).map fun (i:Nat)=>⟨c + ((i * 2:Nat):Int),c + ((i * 2 + 1:Nat):Int)⟩

theorem itemMarks_length (c:Int) (n:Nat):(itemMarks c n).length=n:=by simp [itemMarks]

theorem itemMarks_getD (c:Int) (n i:Nat) (h:i < n):(itemMarks c n).getD i itemNo=⟨c + ((i * 2:Nat):Int),c + ((i * 2 + 1:Nat):Int)⟩:=by simp [itemMarks,List.getD,h]

set_option maxHeartbeats 2000000 in
theorem markItemS_any (base:Nat) (v:Value) (n:Nat) (xs:List Value) (c:Int) (w:World) (h:w.ownsRow base 134 2 v n xs) (hn:n≤1099511627776) (h0:0≤c) (h1:c≤1099511627776) :
  Calls Tryz.prog 61 #[v,.int .i64 c] w fun e w' => e=.returned (.int .i64 (c + ((n * 2:Nat):Int)))∧w'.ownsRow base 134 2 v n (itemCells (itemMarks c n))∧w.grownBy w' v.ownBlock:=by
 rcases h.2 with ⟨rfl,rfl⟩ | ⟨g,cap,cur,rfl,hb,hg,r⟩
 ·go_enter Tryz.func61,Tryz.ntmps61
  go_wp2
  refine wp_loop_rounds 1 ?_
  rw [rounds_succ]
  go_wp2
  go_ret
  exact ⟨by simp,World.ownsRow_nil _ _ _ _,World.grownBy.refl _ _⟩
 ·clear hg r
  have hml:=itemCells_length (itemMarks c n)
  rw [itemMarks_length] at hml
  have hxl:xs.length=(itemCells (itemMarks c n)).length:=by rw [hml];exact h.1
  rw [← layV_zero (itemCells (itemMarks c n)) xs] at h
  go_enter Tryz.func61,Tryz.ntmps61
  go_wp2
  go_loopw [1,5] (fun j i wr=>∃ k:Nat,k≤n∧j=.int .i64 (c + ((k * 2:Nat):Int))∧i=.int .i64 k∧wr.ownsRow base 134 2 (.slice (some ⟨g,0,none⟩) n cap) n (layV (itemCells (itemMarks c n)) xs (k * 2))∧w.grownBy wr (some g)) (fun _ i _=>n - (intOf i).toNat)
  case atStart=>exact ⟨0,Nat.zero_le _,by simp,rfl,by simpa using h,World.grownBy.refl _ _⟩
  case round=>
   obtain ⟨k,hk,rfl,rfl,ho,hgr⟩:=hrel
   by_cases hlt:k < n
   ·obtain ⟨g0,g1⟩:=itemCells_get (itemMarks c n) k (by rw [itemMarks_length];exact hlt)
    rw [itemMarks_getD _ _ _ hlt] at g0 g1
    obtain ⟨hst,⟨f0,f1⟩,⟨⟨u0,e0⟩,⟨u1,e1⟩⟩,_⟩:=layItem ho hxl hml hlt g0 g1
    have hgr2:=grownItem hgr (g:=g) (k:=k * 2) (v0:=.int .i64 (c + ((k * 2:Nat):Int))) (v1:=.int .i64 (c + ((k * 2 + 1:Nat):Int)))
    have R:Hid (_∧_):=⟨hst,hgr2⟩
    have e01:c + ((k * 2 + 1:Nat):Int)=c + ((k * 2:Nat):Int) + 1:=by omega
    have e99:Hid (c + (((k + 1) * 2:Nat):Int)=c + ((k * 2:Nat):Int) + 1 + 1):=show _=_ by omega
    rw [e01] at R
    clear hst hgr2 g0 g1 ho hgr e01
    generalize hy:((k * 2:Nat):Int)=y at R e99
    have hy1:y≤2199023255552:=by omega
    have hy0:0≤y:=by omega
    clear hy
    go_wp2
    go_roundw
    case rel=>exact ⟨k + 1,by omega,by rw [e99.out],by go_num,R.out.1,R.out.2⟩
    case measure=>simp [intOf];omega
   ·go_wp2
    go_ret
    have hkl:k=n:=by omega
    subst hkl
    rw [layV_all _ _ _ hxl hml] at ho
    exact ⟨rfl,ho,hgr⟩

set_option maxHeartbeats 2000000 in
theorem heldItemS_true (a:Option Addr) (n cap:Nat) (c:Int) (w:World) (h:ItemRow w a (itemMarks c n)) (hn:n≤1099511627776) (h0:0≤c) (h1:c≤1099511627776) :
  Calls Tryz.prog 126 #[.slice a n cap,.int .i64 c] w fun e w' => e=.returned (.int .i64 (c + ((n * 2:Nat):Int)))∧w' = w:=by
 go_enter Tryz.func126,Tryz.ntmps126
 go_wp2
 go_loop [1,5] (fun j i=>∃ k:Nat,k≤n∧j=.int .i64 (c + ((k * 2:Nat):Int))∧i=.int .i64 k) (fun _ i=>n - (intOf i).toNat)
 case atStart=>exact ⟨0,Nat.zero_le _,by simp,rfl⟩
 case round=>
  obtain ⟨k,hk,rfl,rfl⟩:=hrel
  by_cases hlt:k < n
  ·obtain ⟨b,off,rfl,hbs,hc0,hc1⟩:=h.at k (by rw [itemMarks_length];exact hlt)
   rw [itemMarks_getD _ _ _ hlt] at hc0 hc1
   have e01:c + ((k * 2 + 1:Nat):Int)=c + ((k * 2:Nat):Int) + 1:=by omega
   have e99:Hid (c + (((k + 1) * 2:Nat):Int)=c + ((k * 2:Nat):Int) + 1 + 1):=show _=_ by omega
   dsimp only at hc0 hc1
   rw [e01] at hc1
   clear e01
   generalize hy:((k * 2:Nat):Int)=y at hc0 hc1 e99
   have hy1:y≤2199023255552:=by omega
   have hy0:0≤y:=by omega
   clear hy
   go_wp2
   go_round
   case rel=>exact ⟨k + 1,by omega,by rw [e99.out],by go_num⟩
   case measure=>simp [intOf];omega
  ·go_wp2
   go_ret
   have hkl:k=n:=by omega
   subst hkl
   exact ⟨rfl,rfl⟩

set_option maxHeartbeats 1000000 in
theorem szItemS_any (a:Option Addr) (n cap:Nat) (c:Int) (w:World) (hn:n≤9223372036854775807) (h0:0≤c) (h1:c≤1099511627776) :
  Calls Tryz.prog 50 #[.slice a n cap,.int .i64 c] w fun e w' => e=.returned (.int .i64 (if c - n < 0 then -1 else c - n))∧w' = w:=by
 by_cases h:c - n < 0
 ·rw [if_pos h]
  go_enter Tryz.func50,Tryz.ntmps50
  go_wp2
  go_ret
  exact ⟨rfl,rfl⟩
 ·rw [if_neg h]
  go_enter Tryz.func50,Tryz.ntmps50
  go_wp2
  go_ret
  exact ⟨rfl,rfl⟩

end Go.Proofs.YtfdkcbafpiojkaaGreatDoor
namespace Go.Proofs.YtfdkcbafpiojkaaGreatDoor
open Go.RowKit
open Go.BigFrame
set_option maxRecDepth 100000
structure UndoD where
 key:Int
 was:Bool
 val:Int
deriving DecidableEq

def undoNo:UndoD:=⟨0,false,0⟩

def UndoD.cells (x:UndoD):List Value:=[.int .i64 x.key,.bool x.was,.int .i64 x.val]

def undoCells (xs:List UndoD):List Value:=xs.flatMap UndoD.cells

def UndoRow (w:World) (a:Option Addr) (xs:List UndoD):Prop:=Lies w a (undoCells xs)

theorem undoCells_length (xs:List UndoD):(undoCells xs).length=xs.length * 3:=by
 induction xs with
 | nil=>rfl
 | cons x xs ih=>simp only [undoCells,List.flatMap_cons,List.length_append,List.length_cons] at ih ⊢;rw [ih];simp [UndoD.cells];omega

theorem undoCells_get (xs:List UndoD):∀ (i:Nat),i < xs.length→(undoCells xs)[i * 3]? = some (.int .i64 (xs.getD i undoNo).key)∧(undoCells xs)[i * 3 + 1]? = some (.bool (xs.getD i undoNo).was)∧(undoCells xs)[i * 3 + 2]? = some (.int .i64 (xs.getD i undoNo).val):=by
 induction xs with
 | nil=>intro i h;simp at h
 | cons x xs ih=>
  intro i h
  cases i with
  | zero=>simp [undoCells,UndoD.cells]
  | succ i=>
   have e:undoCells (x :: xs)=x.cells ++ undoCells xs:=rfl
   have hl:x.cells.length=3:=rfl
   obtain ⟨h1,h2,h3⟩:=ih i (by simpa using h)
   rw [e,List.getElem?_append_right (by omega),List.getElem?_append_right (by omega),List.getElem?_append_right (by omega),hl,show (i + 1) * 3 - 3=i * 3 by omega,show (i + 1) * 3 + 1 - 3=i * 3 + 1 by omega,show (i + 1) * 3 + 2 - 3=i * 3 + 2 by omega]
   simpa [List.getD] using ⟨h1,h2,h3⟩

theorem UndoRow.below {w w' : World} {a:Option Addr} {xs:List UndoD} (h:UndoRow w a xs) (hb:Below w.heap.size w w'):UndoRow w' a xs:=Lies.below h hb

theorem UndoRow.at {w:World} {a:Option Addr} {xs:List UndoD} (h:UndoRow w a xs) (i:Nat) (hi:i < xs.length) :
  ∃ b off,a=some ⟨b,off,none⟩∧b < w.heap.size∧w.cell? ⟨b,off + i * 3,none⟩=some (.int .i64 (xs.getD i undoNo).key)∧w.cell? ⟨b,off + i * 3 + 1,none⟩=some (.bool (xs.getD i undoNo).was)∧w.cell? ⟨b,off + i * 3 + 2,none⟩=some (.int .i64 (xs.getD i undoNo).val):=by
 obtain ⟨h1,h2,h3⟩:=undoCells_get xs i hi
 rcases h with h | ⟨b,off,ha,hlt,hc⟩
 ·have:=undoCells_length xs
  rw [h] at this
  simp at this
  omega
 ·exact ⟨b,off,ha,hlt,hc _ _ h1,by rw [Nat.add_assoc];exact hc _ _ h2,by rw [Nat.add_assoc];exact hc _ _ h3⟩

theorem infoUndo:(Tryz.prog.info? 185).map (fun i=>(i.zero,i.size,i.bytes))=some (some (.agg #[.int .i64 0,.bool false,.int .i64 0]),3,24):=by kernel_rfl

set_option maxHeartbeats 1000000 in
theorem toUndo_any (k:Int) (y:Bool) (v:Int) (w:World) :
  Calls Tryz.prog 163 #[.agg #[.int .i64 k,.bool y,.int .i64 v]] w fun e w' => e=.returned (.agg #[.int .i64 k,.bool y,.int .i64 v])∧Below w.heap.size w w' := by
 go_enter Tryz.func163,Tryz.ntmps163
 go_wp2
 exact bodyPost_ret (v:=.agg #[.int .i64 k,.bool y,.int .i64 v]) (by simp [results,Tryz.results163,go_sem]) rfl ⟨rfl,by go_grown⟩

/-- The cells of one element are written over. -/
theorem layUndo {w:World} {base e g cap n k:Nat} {zs ys:List Value} {v0 v1 v2:Value} (ho:w.ownsRow base e 3 (.slice (some ⟨g,0,none⟩) n cap) n (layV zs ys (k * 3)))
  (hl:ys.length=zs.length) (hz:zs.length=n * 3) (hk:k < n) (g0:zs[k * 3]? = some v0) (g1:zs[k * 3 + 1]? = some v1) (g2:zs[k * 3 + 2]? = some v2) :
  (((w.setCell ⟨g,k * 3,none⟩ v0).setCell ⟨g,k * 3 + 1,none⟩ v1).setCell ⟨g,k * 3 + 2,none⟩ v2).ownsRow base e 3 (.slice (some ⟨g,0,none⟩) n cap) n (layV zs ys ((k + 1) * 3)) ∧
  (w.frozen? ⟨g,k * 3,none⟩=false∧w.frozen? ⟨g,k * 3 + 1,none⟩=false∧w.frozen? ⟨g,k * 3 + 2,none⟩=false) ∧
  ((∃ u,w.cell? ⟨g,k * 3,none⟩=some u)∧(∃ u,w.cell? ⟨g,k * 3 + 1,none⟩=some u)∧(∃ u,w.cell? ⟨g,k * 3 + 2,none⟩=some u)) ∧
  (∀ B a,Below B a w→B≤g→Below B a (((w.setCell ⟨g,k * 3,none⟩ v0).setCell ⟨g,k * 3 + 1,none⟩ v1).setCell ⟨g,k * 3 + 2,none⟩ v2)):=by
 have hc:∀ j,j < n * 3→∃ u,w.cell? ⟨g,j,none⟩=some u:=fun j hj=>by
  rw [ho.cellAt j hj]
  exact ⟨_,List.getElem?_eq_getElem (by rw [ho.1];exact hj)⟩
 have s0:=(ho.stored (k * 3) v0).1
 rw [layV_step _ _ _ _ hl g0] at s0
 have s1:=(s0.stored (k * 3 + 1) v1).1
 rw [layV_step _ _ _ _ hl g1] at s1
 have s2:=(s1.stored (k * 3 + 2) v2).1
 rw [layV_step _ _ _ _ hl g2,show k * 3 + 2 + 1=(k + 1) * 3 by omega] at s2
 exact ⟨s2,⟨ho.frozenAt _,ho.frozenAt _,ho.frozenAt _⟩,⟨hc _ (by omega),hc _ (by omega),hc _ (by omega)⟩,fun B a h hB=>(((h.setCell hB _).setCell hB _).setCell hB _)⟩

set_option maxHeartbeats 1000000 in
theorem toUndoS_any (a:Option Addr) (cap:Nat) (zs:List UndoD) (w:World) (h:UndoRow w a zs) (hl:zs.length≤1048576) :
  Calls Tryz.prog 114 #[.slice a zs.length cap] w fun e w' => ∃ g c,e=.returned (.slice (some ⟨g,0,none⟩) zs.length c) ∧
   w'.ownsRow w.heap.size 185 3 (.slice (some ⟨g,0,none⟩) zs.length c) zs.length (undoCells zs)∧Below w.heap.size w w' := by
 obtain ⟨i0,hi,hz0,hz1,hz2⟩:=info_parts infoUndo
 have hbytes:i0.bytes * zs.length≤281474976710656:=by rw [hz2];omega
 have hmax:zs.length≤maxLen:=by unfold maxLen;omega
 have hcl:=undoCells_length zs
 go_enter Tryz.func114,Tryz.ntmps114
 go_wp2_with (at_make;refine wpList_make_full _ rfl _ _ 118 rfl w.heap.size 185 i0 (.agg #[.int .i64 0,.bool false,.int .i64 0]) 3 Tryz.underlying118 hi hz0 hz1 _ _ _ _ zs.length rfl rfl rfl rfl hbytes hmax (Nat.le_refl _) ?_)
 intro w1 hown hgrow
 have hlen0:(madeCells #[Value.int .i64 0,.bool false,.int .i64 0] (zs.length * 3)).toList.length=(undoCells zs).length:=by simp [size_madeCells,hcl]
 have hb1:Below w.heap.size w w1:=(Below.refl _ _).grown hgrow (Nat.le_refl _) (by simp)
 generalize (madeCells #[Value.int .i64 0,.bool false,.int .i64 0] (zs.length * 3)).toList=ys at hown hlen0
 rw [← layV_zero (undoCells zs) ys] at hown
 go_wp2
 go_loopw [4] (fun i wr=>∃ k:Nat,k≤zs.length∧i=.int .i64 k∧wr.ownsRow w.heap.size 185 3 (.slice (some ⟨w.heap.size,0,none⟩) zs.length zs.length) zs.length (layV (undoCells zs) ys (k * 3))∧Below w.heap.size w wr) (fun i _=>zs.length - (intOf i).toNat)
 case atStart=>exact ⟨0,Nat.zero_le _,rfl,by simpa using hown,hb1⟩
 case round=>
  obtain ⟨k,hk,rfl,ho,hb⟩:=hrel
  by_cases hlt:k < zs.length
  ·obtain ⟨b,off,rfl,hbs,hc0,hc1,hc2⟩:=(h.below hb).at k hlt
   obtain ⟨g0,g1,g2⟩:=undoCells_get zs k hlt
   generalize zs.getD k undoNo=z at hc0 hc1 hc2 g0 g1 g2
   go_wp2_with fail
   refine (toUndo_any _ _ _ _).mono ?_
   rintro e w2 ⟨rfl,hb2⟩
   replace ho:=own_below ho hb2
   replace hb:=hb.trans (hb2.mono hb.size)
   clear hc0 hc1 hc2 hb2
   obtain ⟨hst,hfr,hce,hbel⟩:=layUndo ho hlen0 hcl hlt g0 g1 g2
   obtain ⟨f0,f1,f2⟩:=hfr
   obtain ⟨⟨u0,e0⟩,⟨u1,e1⟩,⟨u2,e2⟩⟩:=hce
   have R:Hid (_∧_):=⟨hst,hbel _ _ hb (Nat.le_refl _)⟩
   clear hst hbel g0 g1 g2 ho
   go_wp2
   go_roundw
   case rel=>exact ⟨k + 1,by omega,by go_num,R.out.1,R.out.2⟩
   case measure=>simp [intOf];omega
  ·go_wp2
   go_ret
   have hkl:k=zs.length:=by omega
   subst hkl
   rw [layV_all _ _ _ hlen0 hcl] at ho
   exact ⟨_,_,rfl,ho,hb⟩

set_option maxHeartbeats 1000000 in
theorem eqUndo_true (k:Int) (y:Bool) (v:Int) (w:World) :
  Calls Tryz.prog 165 #[.agg #[.int .i64 k,.bool y,.int .i64 v],.agg #[.int .i64 k,.bool y,.int .i64 v]] w fun e w' => e=.returned (.bool true)∧Below w.heap.size w w' := by
 have h0:(k != k)=false:=by simp
 have h1:(y != y)=false:=by simp
 have h2:(v != v)=false:=by simp
 go_enter Tryz.func165,Tryz.ntmps165
 go_wp2
 go_ret
 exact ⟨rfl,by go_grown⟩

set_option maxHeartbeats 2000000 in
theorem eqUndoS_true (a a' : Option Addr) (cap cap' : Nat) (zs:List UndoD) (w:World) (h:UndoRow w a zs) (h' : UndoRow w a' zs) (hl:zs.length≤1099511627776) :
  Calls Tryz.prog 123 #[.slice a zs.length cap,.slice a' zs.length cap'] w fun e w' => e=.returned (.bool true)∧Below w.heap.size w w' := by
 go_enter Tryz.func123,Tryz.ntmps123
 go_wp2
 go_loopw [5] (fun i wr=>∃ k:Nat,k≤zs.length∧i=.int .i64 k∧Below w.heap.size w wr) (fun i _=>zs.length - (intOf i).toNat)
 case atStart=>exact ⟨0,Nat.zero_le _,rfl,Below.refl _ _⟩
 case round=>
  obtain ⟨k,hk,rfl,hb⟩:=hrel
  by_cases hlt:k < zs.length
  ·obtain ⟨b,off,rfl,hbs,hc0,hc1,hc2⟩:=(h.below hb).at k hlt
   obtain ⟨b',off',rfl,hbs',hd0,hd1,hd2⟩:=(h'.below hb).at k hlt
   generalize zs.getD k undoNo=z at hc0 hc1 hc2 hd0 hd1 hd2
   obtain ⟨z0,z1,z2⟩:=z
   have k0:=lat_cell hc0
   have l0:=lat_cell hd0
   have k1:=lat_cell hc1
   have l1:=lat_cell hd1
   have k2:=lat_cell hc2
   have l2:=lat_cell hd2
   clear hc0 hc1 hc2 hd0 hd1 hd2
   have hW:Below wr.heap.size wr wr.drew:=(Below.refl _ _).drew
   have hne:Nonempty (Lat wr):=⟨⟨wr,Below.refl _ _⟩⟩
   go_wp2_with fail
   refine text_begin (S:=fun w' => ∃ u:Lat wr,w' = u.val) (by kernel_rfl) ?_
   refine seg_range [(0,8)] 2 (by kernel_rfl) (by kernel_rfl) (by kernel_rfl) (by kernel_rfl) (by kernel_rfl) ⟨⟨_,hW⟩,rfl⟩ ?_
   simp only [pickR,List.toList_toArray,List.flatMap_cons,List.flatMap_nil,List.drop_succ_cons,List.drop_zero,List.take_succ_cons,List.take_zero,List.cons_append,List.nil_append,List.append_nil]
   repeat go_big_quiet_step (fail)
   refine wpQuiet_nil ?_
   refine call_at 8 (some 25) 165 #[.agg #[.int .i64 z0,.bool z1,.int .i64 z2],.agg #[.int .i64 z0,.bool z1,.int .i64 z2]] 1 (by kernel_rfl) (by kernel_rfl) (by kernel_rfl) (by kernel_rfl) (by kernel_rfl) ?_
   refine (eqUndo_true _ _ _ _).mono ?_
   rintro e w2 ⟨rfl,hb2⟩
   replace hW:=hW.trans (hb2.mono hW.size)
   clear hb2
   refine ⟨_,rfl,⟨⟨_,hW⟩,rfl⟩,?_⟩
   simp only [Act.put,List.setIfInBounds_toArray,List.set_cons_zero,List.set_cons_succ]
   refine seg_range [(9,1)] 0 (by kernel_rfl) (by kernel_rfl) (by kernel_rfl) (by kernel_rfl) (by kernel_rfl) ⟨⟨_,hW⟩,rfl⟩ ?_
   simp only [pickR,List.toList_toArray,List.flatMap_cons,List.flatMap_nil,List.drop_succ_cons,List.drop_zero,List.take_succ_cons,List.take_zero,List.cons_append,List.nil_append,List.append_nil]
   repeat go_big_quiet_step (fail)
   refine wpQuiet_nil ?_
   refine text_end (by kernel_rfl) ?_
   replace hb:=hb.trans (hW.mono hb.size)
   clear k0 l0 k1 l1 k2 l2 hW hne
   go_wp2
   go_roundw
   case rel=>exact ⟨k + 1,by omega,by go_num,hb⟩
   case measure=>simp [intOf];omega
  ·go_wp2
   go_ret
   exact ⟨rfl,hb⟩

theorem grownUndo {w wr:World} {g k:Nat} {v0 v1 v2:Value} (h:w.grownBy wr (some g)):w.grownBy (((wr.setCell ⟨g,k,none⟩ v0).setCell ⟨g,k + 1,none⟩ v1).setCell ⟨g,k + 2,none⟩ v2) (some g):=by
 have one:∀ (u:World) (j:Nat) (v:Value),w.grownBy u (some g)→w.grownBy (u.setCell ⟨g,j,none⟩ v) (some g):=fun u j v h=>
  ⟨h.os,h.tape,h.output,by simpa [World.setCell] using h.size,fun i hi hne=>by rw [Below.heap_setCell _ _ _ _ (by intro e;apply hne;simp [e])];exact h.block i hi hne⟩
 exact (one _ _ _ (one _ _ _ (one _ _ _ h)))

/-- Marks, 3 cells an element. -/
def undoMarks (c:Int) (n:Nat):List UndoD:=(List.range n).map fun (i:Nat)=>⟨c + ((i * 3:Nat):Int),((c + ((i * 3 + 1:Nat):Int)) % 3 == 0),c + ((i * 3 + 2:Nat):Int)⟩

theorem undoMarks_length (c:Int) (n:Nat):(undoMarks c n).length=n:=by simp [undoMarks]

theorem undoMarks_getD (c:Int) (n i:Nat) (h:i < n):(undoMarks c n).getD i undoNo=⟨c + ((i * 3:Nat):Int),((c + ((i * 3 + 1:Nat):Int)) % 3 == 0),c + ((i * 3 + 2:Nat):Int)⟩:=by simp [undoMarks,List.getD,h]

set_option maxHeartbeats 2000000 in
theorem markUndoS_any (base:Nat) (v:Value) (n:Nat) (xs:List Value) (c:Int) (w:World) (h:w.ownsRow base 185 3 v n xs) (hn:n≤1099511627776) (h0:0≤c) (h1:c≤1099511627776) :
  Calls Tryz.prog 124 #[v,.int .i64 c] w fun e w' => e=.returned (.int .i64 (c + ((n * 3:Nat):Int)))∧w'.ownsRow base 185 3 v n (undoCells (undoMarks c n))∧w.grownBy w' v.ownBlock:=by
 rcases h.2 with ⟨rfl,rfl⟩ | ⟨g,cap,cur,rfl,hb,hg,r⟩
 ·go_enter Tryz.func124,Tryz.ntmps124
  go_wp2
  refine wp_loop_rounds 1 ?_
  rw [rounds_succ]
  go_wp2
  go_ret
  exact ⟨by simp,World.ownsRow_nil _ _ _ _,World.grownBy.refl _ _⟩
 ·clear hg r
  have hml:=undoCells_length (undoMarks c n)
  rw [undoMarks_length] at hml
  have hxl:xs.length=(undoCells (undoMarks c n)).length:=by rw [hml];exact h.1
  rw [← layV_zero (undoCells (undoMarks c n)) xs] at h
  go_enter Tryz.func124,Tryz.ntmps124
  go_wp2
  go_loopw [1,5] (fun j i wr=>∃ k:Nat,k≤n∧j=.int .i64 (c + ((k * 3:Nat):Int))∧i=.int .i64 k∧wr.ownsRow base 185 3 (.slice (some ⟨g,0,none⟩) n cap) n (layV (undoCells (undoMarks c n)) xs (k * 3))∧w.grownBy wr (some g)) (fun _ i _=>n - (intOf i).toNat)
  case atStart=>exact ⟨0,Nat.zero_le _,by simp,rfl,by simpa using h,World.grownBy.refl _ _⟩
  case round=>
   obtain ⟨k,hk,rfl,rfl,ho,hgr⟩:=hrel
   by_cases hlt:k < n
   ·obtain ⟨g0,g1,g2⟩:=undoCells_get (undoMarks c n) k (by rw [undoMarks_length];exact hlt)
    rw [undoMarks_getD _ _ _ hlt] at g0 g1 g2
    obtain ⟨hst,⟨f0,f1,f2⟩,⟨⟨u0,e0⟩,⟨u1,e1⟩,⟨u2,e2⟩⟩,_⟩:=layUndo ho hxl hml hlt g0 g1 g2
    have hgr2:=grownUndo hgr (g:=g) (k:=k * 3) (v0:=.int .i64 (c + ((k * 3:Nat):Int))) (v1:=.bool (((c + ((k * 3 + 1:Nat):Int)) % 3 == 0))) (v2:=.int .i64 (c + ((k * 3 + 2:Nat):Int)))
    have R:Hid (_∧_):=⟨hst,hgr2⟩
    have e01:c + ((k * 3 + 1:Nat):Int)=c + ((k * 3:Nat):Int) + 1:=by omega
    have e02:c + ((k * 3 + 2:Nat):Int)=c + ((k * 3:Nat):Int) + 1 + 1:=by omega
    have e99:Hid (c + (((k + 1) * 3:Nat):Int)=c + ((k * 3:Nat):Int) + 1 + 1 + 1):=show _=_ by omega
    rw [e01,e02] at R
    clear hst hgr2 g0 g1 g2 ho hgr e01 e02
    generalize hy:((k * 3:Nat):Int)=y at R e99
    have hy1:y≤3298534883328:=by omega
    have hy0:0≤y:=by omega
    clear hy
    go_wp2
    go_roundw
    case rel=>exact ⟨k + 1,by omega,by rw [e99.out],by go_num,R.out.1,R.out.2⟩
    case measure=>simp [intOf];omega
   ·go_wp2
    go_ret
    have hkl:k=n:=by omega
    subst hkl
    rw [layV_all _ _ _ hxl hml] at ho
    exact ⟨rfl,ho,hgr⟩

set_option maxHeartbeats 2000000 in
theorem heldUndoS_true (a:Option Addr) (n cap:Nat) (c:Int) (w:World) (h:UndoRow w a (undoMarks c n)) (hn:n≤1099511627776) (h0:0≤c) (h1:c≤1099511627776) :
  Calls Tryz.prog 167 #[.slice a n cap,.int .i64 c] w fun e w' => e=.returned (.int .i64 (c + ((n * 3:Nat):Int)))∧w' = w:=by
 go_enter Tryz.func167,Tryz.ntmps167
 go_wp2
 go_loop [1,5] (fun j i=>∃ k:Nat,k≤n∧j=.int .i64 (c + ((k * 3:Nat):Int))∧i=.int .i64 k) (fun _ i=>n - (intOf i).toNat)
 case atStart=>exact ⟨0,Nat.zero_le _,by simp,rfl⟩
 case round=>
  obtain ⟨k,hk,rfl,rfl⟩:=hrel
  by_cases hlt:k < n
  ·obtain ⟨b,off,rfl,hbs,hc0,hc1,hc2⟩:=h.at k (by rw [undoMarks_length];exact hlt)
   rw [undoMarks_getD _ _ _ hlt] at hc0 hc1 hc2
   have e01:c + ((k * 3 + 1:Nat):Int)=c + ((k * 3:Nat):Int) + 1:=by omega
   have e02:c + ((k * 3 + 2:Nat):Int)=c + ((k * 3:Nat):Int) + 1 + 1:=by omega
   have e99:Hid (c + (((k + 1) * 3:Nat):Int)=c + ((k * 3:Nat):Int) + 1 + 1 + 1):=show _=_ by omega
   dsimp only at hc0 hc1 hc2
   rw [e01] at hc1
   rw [e02] at hc2
   clear e01 e02
   generalize hy:((k * 3:Nat):Int)=y at hc0 hc1 hc2 e99
   have hy1:y≤3298534883328:=by omega
   have hy0:0≤y:=by omega
   clear hy
   go_wp2
   go_round
   case rel=>exact ⟨k + 1,by omega,by rw [e99.out],by go_num⟩
   case measure=>simp [intOf];omega
  ·go_wp2
   go_ret
   have hkl:k=n:=by omega
   subst hkl
   exact ⟨rfl,rfl⟩

set_option maxHeartbeats 1000000 in
theorem szUndoS_any (a:Option Addr) (n cap:Nat) (c:Int) (w:World) (hn:n≤9223372036854775807) (h0:0≤c) (h1:c≤1099511627776) :
  Calls Tryz.prog 110 #[.slice a n cap,.int .i64 c] w fun e w' => e=.returned (.int .i64 (if c - n < 0 then -1 else c - n))∧w' = w:=by
 by_cases h:c - n < 0
 ·rw [if_pos h]
  go_enter Tryz.func110,Tryz.ntmps110
  go_wp2
  go_ret
  exact ⟨rfl,rfl⟩
 ·rw [if_neg h]
  go_enter Tryz.func110,Tryz.ntmps110
  go_wp2
  go_ret
  exact ⟨rfl,rfl⟩

end Go.Proofs.YtfdkcbafpiojkaaGreatDoor
namespace Go.Proofs.YtfdkcbafpiojkaaGreatDoor
open Go.RowKit
set_option maxRecDepth 100000
theorem Blk.set {w:World} {b:Nat} {t:TypeId} {cs:Array Value} (h:Blk w b t cs) (j:Nat) (x:Value):Blk (w.setCell ⟨b,j,none⟩ x) b t (cs.setIfInBounds j x):=Go.Joins.block_setCell (i:=j) (v:=x) h

theorem Blk.other {w:World} {b b' : Nat} {t:TypeId} {cs:Array Value} (h:Blk w b t cs) (hne:b≠b') (j:Nat) (x:Value):Blk (w.setCell ⟨b',j,none⟩ x) b t cs:=(Below.heap_setCell w ⟨b',j,none⟩ x b hne).trans h

end Go.Proofs.YtfdkcbafpiojkaaGreatDoor
namespace Go.Proofs.YtfdkcbafpiojkaaGreatDoor
open Go.RowKit
open Go.BigFrame
set_option maxRecDepth 100000
def itemK:Kind ItemD where
 ty:=134
 size:=2
 cells:=ItemD.cells
 own _ _:=True
 rd _ _:=True
 foot _:=[]
 len _:=rfl
 own_rd _:=trivial
 own_out _ _ _:=trivial
 own_lt _ k hk:=by simp at hk
 rd_below _ _:=trivial

theorem itemK_at {w:World} {a:Option Addr} {n cap:Nat} {zs:List ItemD} (h:itemK.At w (.slice a n cap) zs):n=zs.length∧ItemRow w a zs:=by
 obtain ⟨a',c,e,hl,_⟩:=h
 simp only [Value.slice.injEq] at e
 obtain ⟨rfl,rfl,_⟩:=e
 exact ⟨rfl,hl⟩

theorem itemK_fp (v:Value) (zs:List ItemD):itemK.fp v zs=blk v:=by
 have:zs.flatMap itemK.foot=[]:=by simp [show ∀ z,itemK.foot z=[] from fun _=>rfl]
 simp [Kind.fp,this]

def undoK:Kind UndoD where
 ty:=185
 size:=3
 cells:=UndoD.cells
 own _ _:=True
 rd _ _:=True
 foot _:=[]
 len _:=rfl
 own_rd _:=trivial
 own_out _ _ _:=trivial
 own_lt _ k hk:=by simp at hk
 rd_below _ _:=trivial

theorem undoK_at {w:World} {a:Option Addr} {n cap:Nat} {zs:List UndoD} (h:undoK.At w (.slice a n cap) zs):n=zs.length∧UndoRow w a zs:=by
 obtain ⟨a',c,e,hl,_⟩:=h
 simp only [Value.slice.injEq] at e
 obtain ⟨rfl,rfl,_⟩:=e
 exact ⟨rfl,hl⟩

theorem undoK_fp (v:Value) (zs:List UndoD):undoK.fp v zs=blk v:=by
 have:zs.flatMap undoK.foot=[]:=by simp [show ∀ z,undoK.foot z=[] from fun _=>rfl]
 simp [Kind.fp,this]

theorem szItems_k (v:Value) (zs:List ItemD) (c:Int) (w:World) (h:itemK.At w v zs) (hn:zs.length≤9223372036854775807) (h0:0≤c) (h1:c≤1048576) :
  Calls Tryz.prog 50 #[v,.int .i64 c] w fun e w' => ∃ r:Int,e=.returned (.int .i64 r)∧(¬ r < 0→(zs.length:Int) + r=c)∧Below w.heap.size w w' := by
 obtain ⟨a,cap,rfl⟩:=h.shape
 refine (szItemS_any a zs.length cap c w hn h0 (by omega)).mono ?_
 rintro e w' ⟨rfl,rfl⟩
 refine ⟨_,rfl,?_,Below.refl _ _⟩
 split <;> omega

theorem toItems_k (v:Value) (zs:List ItemD) (w:World) (h:itemK.At w v zs) (hl:zs.length≤1048576) :
  Calls Tryz.prog 55 #[v] w fun e w' => ∃ v',e=.returned v' ∧ itemK.Own w' v' zs∧(itemK.fp v' zs).Nodup∧(∀ k∈itemK.fp v' zs,w.heap.size≤k)∧Below w.heap.size w w' := by
 obtain ⟨a,cap,rfl⟩:=h.shape
 refine (toItemS_any a cap zs w (itemK_at h).2 hl).mono ?_
 rintro e w' ⟨g,c,rfl,ho,hb⟩
 obtain ⟨o,hk⟩:=own_zero ho
 refine ⟨_,rfl,⟨o,fun _ _=>trivial⟩,?_,?_,hb⟩
 ·rw [itemK_fp];exact blk_nodup _
 ·rw [itemK_fp];exact hk

theorem eqItems_k (v v' : Value) (zs:List ItemD) (w:World) (h:itemK.At w v zs) (h' : itemK.At w v' zs) (hl:zs.length≤1048576) :
  Calls Tryz.prog 59 #[v,v'] w fun e w' => e=.returned (.bool true)∧Below w.heap.size w w' := by
 obtain ⟨a,cap,rfl⟩:=h.shape
 obtain ⟨a',cap',rfl⟩:=h'.shape
 exact eqItemS_true a a' cap cap' zs w (itemK_at h).2 (itemK_at h').2 (by omega)

def mkItems (c:Int) (zs:List ItemD):List ItemD:=itemMarks c zs.length

theorem mkItems_fp (c:Int) (v:Value) (zs:List ItemD):itemK.fp v (mkItems c zs)=itemK.fp v zs:=by rw [itemK_fp,itemK_fp]

theorem markItems_k (v:Value) (zs:List ItemD) (c:Int) (w:World) (h:itemK.Own w v zs) (hl:zs.length≤1048576) (h0:0≤c) (h1:c≤1099511627776) :
  Calls Tryz.prog 61 #[v,.int .i64 c] w fun e w' => e=.returned (.int .i64 (c + ((zs.length * 2:Nat):Int)))∧itemK.Own w' v (mkItems c zs)∧Out (itemK.fp v zs) w w' := by
 refine (markItemS_any 0 v zs.length _ c w h.1 (by omega) h0 h1).mono ?_
 rintro e w' ⟨rfl,ho,hg⟩
 refine ⟨rfl,⟨?_,fun _ _=>trivial⟩,?_⟩
 ·have e:(mkItems c zs).length=zs.length:=by simp [mkItems,itemMarks_length]
  rw [e]
  exact ho
 ·rw [itemK_fp];exact Out.of_grown hg

theorem heldItems_k (v:Value) (zs:List ItemD) (c:Int) (w:World) (h:itemK.At w v (mkItems c zs)) (hl:zs.length≤1048576) (h0:0≤c) (h1:c≤1099511627776) :
  Calls Tryz.prog 126 #[v,.int .i64 c] w fun e w' => e=.returned (.int .i64 (c + ((zs.length * 2:Nat):Int)))∧Below w.heap.size w w' := by
 obtain ⟨a,cap,rfl⟩:=h.shape
 have e:(mkItems c zs).length=zs.length:=by simp [mkItems,itemMarks_length]
 have hA:=(itemK_at h).2
 rw [e]
 refine (heldItemS_true a zs.length cap c w hA (by omega) h0 h1).mono ?_
 rintro e w' ⟨rfl,hw⟩
 exact ⟨rfl,by subst hw;exact Below.refl _ _⟩

theorem szUndos_k (v:Value) (zs:List UndoD) (c:Int) (w:World) (h:undoK.At w v zs) (hn:zs.length≤9223372036854775807) (h0:0≤c) (h1:c≤1048576) :
  Calls Tryz.prog 110 #[v,.int .i64 c] w fun e w' => ∃ r:Int,e=.returned (.int .i64 r)∧(¬ r < 0→(zs.length:Int) + r=c)∧Below w.heap.size w w' := by
 obtain ⟨a,cap,rfl⟩:=h.shape
 refine (szUndoS_any a zs.length cap c w hn h0 (by omega)).mono ?_
 rintro e w' ⟨rfl,rfl⟩
 refine ⟨_,rfl,?_,Below.refl _ _⟩
 split <;> omega

theorem toUndos_k (v:Value) (zs:List UndoD) (w:World) (h:undoK.At w v zs) (hl:zs.length≤1048576) :
  Calls Tryz.prog 114 #[v] w fun e w' => ∃ v',e=.returned v' ∧ undoK.Own w' v' zs∧(undoK.fp v' zs).Nodup∧(∀ k∈undoK.fp v' zs,w.heap.size≤k)∧Below w.heap.size w w' := by
 obtain ⟨a,cap,rfl⟩:=h.shape
 refine (toUndoS_any a cap zs w (undoK_at h).2 hl).mono ?_
 rintro e w' ⟨g,c,rfl,ho,hb⟩
 obtain ⟨o,hk⟩:=own_zero ho
 refine ⟨_,rfl,⟨o,fun _ _=>trivial⟩,?_,?_,hb⟩
 ·rw [undoK_fp];exact blk_nodup _
 ·rw [undoK_fp];exact hk

theorem eqUndos_k (v v' : Value) (zs:List UndoD) (w:World) (h:undoK.At w v zs) (h' : undoK.At w v' zs) (hl:zs.length≤1048576) :
  Calls Tryz.prog 123 #[v,v'] w fun e w' => e=.returned (.bool true)∧Below w.heap.size w w' := by
 obtain ⟨a,cap,rfl⟩:=h.shape
 obtain ⟨a',cap',rfl⟩:=h'.shape
 exact eqUndoS_true a a' cap cap' zs w (undoK_at h).2 (undoK_at h').2 (by omega)

def mkUndos (c:Int) (zs:List UndoD):List UndoD:=undoMarks c zs.length

theorem mkUndos_fp (c:Int) (v:Value) (zs:List UndoD):undoK.fp v (mkUndos c zs)=undoK.fp v zs:=by rw [undoK_fp,undoK_fp]

theorem markUndos_k (v:Value) (zs:List UndoD) (c:Int) (w:World) (h:undoK.Own w v zs) (hl:zs.length≤1048576) (h0:0≤c) (h1:c≤1099511627776) :
  Calls Tryz.prog 124 #[v,.int .i64 c] w fun e w' => e=.returned (.int .i64 (c + ((zs.length * 3:Nat):Int)))∧undoK.Own w' v (mkUndos c zs)∧Out (undoK.fp v zs) w w' := by
 refine (markUndoS_any 0 v zs.length _ c w h.1 (by omega) h0 h1).mono ?_
 rintro e w' ⟨rfl,ho,hg⟩
 refine ⟨rfl,⟨?_,fun _ _=>trivial⟩,?_⟩
 ·have e:(mkUndos c zs).length=zs.length:=by simp [mkUndos,undoMarks_length]
  rw [e]
  exact ho
 ·rw [undoK_fp];exact Out.of_grown hg

theorem heldUndos_k (v:Value) (zs:List UndoD) (c:Int) (w:World) (h:undoK.At w v (mkUndos c zs)) (hl:zs.length≤1048576) (h0:0≤c) (h1:c≤1099511627776) :
  Calls Tryz.prog 167 #[v,.int .i64 c] w fun e w' => e=.returned (.int .i64 (c + ((zs.length * 3:Nat):Int)))∧Below w.heap.size w w' := by
 obtain ⟨a,cap,rfl⟩:=h.shape
 have e:(mkUndos c zs).length=zs.length:=by simp [mkUndos,undoMarks_length]
 have hA:=(undoK_at h).2
 rw [e]
 refine (heldUndoS_true a zs.length cap c w hA (by omega) h0 h1).mono ?_
 rintro e w' ⟨rfl,hw⟩
 exact ⟨rfl,by subst hw;exact Below.refl _ _⟩

/-- A list of undos where it lies. -/
structure USQ where
 va:Value
 us:List UndoD

def ussK:Kind USQ where
 ty:=118
 size:=1
 cells p:=[p.va]
 own w p:=undoK.Own w p.va p.us
 rd w p:=undoK.At w p.va p.us
 foot p:=undoK.fp p.va p.us
 len _:=rfl
 own_rd h:=h.at
 own_out h ho hd:=h.out ho hd
 own_lt h:=h.lt
 rd_below h hb:=h.below hb

def USQ.e (p:USQ):List UndoD:=p.us

def USQ.n (p:USQ):Nat:=p.us.length

def USQ.wf (p:USQ):Prop:=p.us.length≤9223372036854775807

theorem infoUndos9:(Tryz.prog.info? 118).map (fun i=>(i.zero,i.size,i.bytes))=some (some (.slice none 0 0),1,24):=by kernel_rfl

end Go.Proofs.YtfdkcbafpiojkaaGreatDoor
namespace Go.Proofs.YtfdkcbafpiojkaaGreatDoor
open Go.RowKit
set_option maxRecDepth 100000
section
variable {P:Type} {K:Kind P} {w w' : World} {v v' : Value} {ps:List P} {p:P} {B:Nat}
theorem Kind.row_snoc (ps:List P) (p:P):K.row (ps ++ [p])=K.row ps ++ K.cells p:=by simp [Kind.row]

theorem Kind.Own.snoc (h:K.Own w v ps) (hnd:(K.fp v ps).Nodup) (hlo:∀ k∈K.fp v ps,B≤k) (hp:K.own w p) (hpn:(K.foot p).Nodup) (hpd:∀ k∈K.foot p,k ∉ K.fp v ps) (hplo:∀ k∈K.foot p,B≤k) (hB:B≤w.heap.size)
  (hrow:w'.ownsRow 0 K.ty K.size v' (ps.length + 1) (K.row ps ++ K.cells p)) (hg:w.grownBy w' v.ownBlock) (hat:v'.ownBlock=v.ownBlock∨v'.ownBlock=some w.heap.size) :
  K.Own w' v' (ps ++ [p])∧(K.fp v' (ps ++ [p])).Nodup∧(∀ k∈K.fp v' (ps ++ [p]),B≤k)∧Out (blk v) w w' := by
 have hO:Out (blk v) w w' := Out.of_grown hg
 have hnd2:=List.nodup_append.1 hnd
 have hlt:=h.lt
 have hplt:=K.own_lt hp
 have hfe:(ps ++ [p]).flatMap K.foot=ps.flatMap K.foot ++ K.foot p:=by simp
 refine ⟨⟨?_,?_⟩,?_,?_,hO⟩
 ·rw [List.length_append,List.length_singleton,Kind.row_snoc]
  exact hrow
 ·intro q hq
  rcases List.mem_append.1 hq with hq | hq
  ·exact K.own_out (h.2 q hq) hO (fun k hk hkb=>hnd2.2.2 k hkb k (List.mem_flatMap.2 ⟨q,hq,hk⟩) rfl)
  ·simp only [List.mem_singleton] at hq
   subst hq
   exact K.own_out hp hO (fun k hk hkb=>hpd k hk (by simp only [Kind.fp,List.mem_append];exact Or.inl hkb))
 ·unfold Kind.fp
  rw [hfe]
  have hrest:(ps.flatMap K.foot ++ K.foot p).Nodup:=List.nodup_append.2 ⟨hnd2.2.1,hpn,fun a ha b hb e=>hpd b hb (by simp only [Kind.fp,List.mem_append];exact Or.inr (e ▸ ha))⟩
  rcases hat with hat | hat
  ·have e:blk v' = blk v:=by unfold blk;rw [hat]
   rw [e]
   refine List.nodup_append.2 ⟨hnd2.1,hrest,fun a ha b hb e=>?_⟩
   subst e
   rcases List.mem_append.1 hb with hb | hb
   ·exact hnd2.2.2 a ha a hb rfl
   ·exact hpd a hb (by simp only [Kind.fp,List.mem_append];exact Or.inl ha)
  ·have e:blk v' = [w.heap.size]:=by unfold blk;rw [hat];rfl
   rw [e]
   refine List.nodup_append.2 ⟨by simp,hrest,fun a ha b hb e=>?_⟩
   simp only [List.mem_singleton] at ha
   subst e ha
   rcases List.mem_append.1 hb with hb | hb
   ·have:=hlt _ (show w.heap.size∈K.fp v ps by simp only [Kind.fp,List.mem_append];exact Or.inr hb)
    omega
   ·have:=hplt _ hb
    omega
 ·intro k hk
  unfold Kind.fp at hk
  rw [hfe] at hk
  rcases List.mem_append.1 hk with hk | hk
  ·rcases hat with hat | hat
   ·exact hlo k (by simp only [Kind.fp,List.mem_append];left;unfold blk at hk ⊢;rw [hat] at hk;exact hk)
   ·unfold blk at hk
    rw [hat] at hk
    simp only [Option.toList,List.mem_singleton] at hk
    omega
  ·rcases List.mem_append.1 hk with hk | hk
   ·exact hlo k (by simp only [Kind.fp,List.mem_append];exact Or.inr hk)
   ·exact hplo k hk

theorem Kind.own_nil (w:World):K.Own w (.slice none 0 0) ([]:List P)∧(K.fp (.slice none 0 0) ([]:List P))=[]:=⟨⟨World.ownsRow_nil _ _ _ _,fun p hp=>by simp at hp⟩,by simp [Kind.fp,blk,Value.ownBlock]⟩

end
end Go.Proofs.YtfdkcbafpiojkaaGreatDoor
namespace Go.Proofs.YtfdkcbafpiojkaaGreatDoor
open Go.RowKit
set_option maxRecDepth 100000
section
variable {P:Type} {K:Kind P} {w w' : World} {a:Option Addr} {n cap:Nat} {ps:List P}
theorem Kind.At.takeK (h:K.At w (.slice a n cap) ps) (m:Nat) (hm:m≤ps.length):K.At w (.slice a m cap) (ps.take m):=by
 obtain ⟨a',c,e,hl,hr⟩:=h
 simp only [Value.slice.injEq] at e
 obtain ⟨rfl,_,rfl⟩:=e
 refine ⟨a,cap,by rw [List.length_take,Nat.min_eq_left hm],?_,fun p hp=>hr p (List.mem_of_mem_take hp)⟩
 have er:K.row ps=K.row (ps.take m) ++ K.row (ps.drop m):=by
  unfold Kind.row
  rw [← List.flatMap_append,List.take_append_drop]
 rcases hl with h0 | ⟨b,off,ha,hlt,hc⟩
 ·left
  rw [er] at h0
  exact (List.append_eq_nil_iff.1 h0).1
 ·right
  refine ⟨b,off,ha,hlt,fun j x hx=>hc j x ?_⟩
  rw [er,List.getElem?_append_left (List.getElem?_eq_some_iff.1 hx).1]
  exact hx

theorem Kind.Own.capK (h:K.Own w (.slice a n cap) ps):n≤cap∧cap≤maxLen:=by
 rcases h.1.2 with ⟨e,_⟩ | ⟨g,c,cur,e,_,_,h1,h2,_⟩
 ·simp only [Value.slice.injEq] at e
  obtain ⟨_,rfl,rfl⟩:=e
  exact ⟨Nat.le_refl _,by decide⟩
 ·simp only [Value.slice.injEq] at e
  obtain ⟨_,rfl,rfl⟩:=e
  exact ⟨h1,h2⟩

theorem Kind.At.nilA (w:World) (a:Option Addr) (c' : Nat):K.At w (.slice a 0 c') ([]:List P):=⟨a,c',rfl,Or.inl rfl,fun p hp=>by simp at hp⟩

theorem Kind.At.dropS (h:K.At w (.slice a n cap) ps) (m:Nat) (hm:m≤ps.length) (hcap:ps.length≤cap) (c' : Nat):K.At w (.slice (if cap=m then a else a.map (·.add (m * K.size))) (ps.drop m).length c') (ps.drop m):=by
 by_cases hc:cap=m
 ·have hp:ps.drop m=[]:=List.drop_of_length_le (by omega)
  rw [if_pos hc,hp]
  exact Kind.At.nilA w a c'
 ·rw [if_neg hc]
  cases a with
  | none=>
   obtain ⟨a',c,e,hl,hr⟩:=h
   simp only [Value.slice.injEq] at e
   obtain ⟨rfl,_,rfl⟩:=e
   rcases hl with h0 | ⟨b',off',ha,_⟩
   ·refine ⟨none,c',rfl,Or.inl ?_,fun p hp=>hr p (List.mem_of_mem_drop hp)⟩
    have er:K.row ps=K.row (ps.take m) ++ K.row (ps.drop m):=by
     unfold Kind.row
     rw [← List.flatMap_append,List.take_append_drop]
    rw [er] at h0
    exact (List.append_eq_nil_iff.1 h0).2
   ·simp at ha
  | some x=>
   obtain ⟨a',c,e,hl,hr⟩:=h
   simp only [Value.slice.injEq] at e
   obtain ⟨rfl,_,rfl⟩:=e
   refine ⟨_,c',rfl,?_,fun p hp=>hr p (List.mem_of_mem_drop hp)⟩
   have er:K.row ps=K.row (ps.take m) ++ K.row (ps.drop m):=by
    unfold Kind.row
    rw [← List.flatMap_append,List.take_append_drop]
   have hlen:(K.row (ps.take m)).length=m * K.size:=by rw [Kind.row_length,List.length_take,Nat.min_eq_left hm]
   rcases hl with h0 | ⟨b',off',ha,hlt,hc⟩
   ·left
    rw [er] at h0
    exact (List.append_eq_nil_iff.1 h0).2
   ·right
    simp only [Option.some.injEq] at ha
    subst ha
    refine ⟨b',off' + m * K.size,by simp [Addr.add],hlt,fun j y hy=>?_⟩
    have h2:=hc (m * K.size + j) y (by rw [er,List.getElem?_append_right (by omega),hlen,show m * K.size + j - m * K.size=j by omega];exact hy)
    rw [← Nat.add_assoc] at h2
    exact h2

/-- A row of one's own whose elements are read elsewhere. -/
theorem Kind.at_of_row {v:Value} {base e:Nat} (h:w.ownsRow base e K.size v ps.length (K.row ps)) (hr:∀ p∈ps,K.rd w p):K.At w v ps:=by
 obtain ⟨a,c,rfl⟩:=own_shape h
 exact ⟨a,c,rfl,Lies.own h,hr⟩

end
theorem Blk.outs8 {w w' : World} {b:Nat} {t:TypeId} {cs:Array Value} {F:List Nat} (h:Blk w b t cs) (hU:Out F w w') (hF:b ∉ F):Blk w' b t cs:=(hU.block b h.lt hF).trans h

theorem Blk.putA {w:World} {b:Nat} {t:TypeId} {cs:Array Value} (h:Blk w b t cs) (j:Nat) (v:Value):Blk (w.setCell ⟨b,j,none⟩ v) b t (cs.setIfInBounds j v):=by
 have:=Go.Joins.block_setCell (i:=j) (v:=v) h
 unfold Blk
 simpa using this

theorem Blk.other8 {w:World} {b g j:Nat} {u:Value} {t:TypeId} {cs:Array Value} (h:Blk w b t cs) (hne:b≠g):Blk (w.setCell ⟨g,j,none⟩ u) b t cs:=(Below.heap_setCell w _ _ b hne).trans h

/-- What goes with a slice: how long it may be. -/
def CapOk:Value→Prop
 | .slice _ n c=>n≤c∧c≤maxLen
 | _=>False

theorem Kind.Own.capOk {P:Type} {K:Kind P} {w:World} {v:Value} {ps:List P} (h:K.Own w v ps):CapOk v:=by
 obtain ⟨a,c,rfl⟩:=h.shape
 exact h.capK

end Go.Proofs.YtfdkcbafpiojkaaGreatDoor
