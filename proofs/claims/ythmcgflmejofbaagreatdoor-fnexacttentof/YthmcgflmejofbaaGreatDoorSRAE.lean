/- Texts joined, with what the law reaches alone. -/
import Derived.Test.YthmcgflmejofbaaGreatDoorSRAB
import Derived.Test.YthmcgflmejofbaaGreatDoorSRAC
import Derived.Lib.SmallJoins
import Derived.Test.YthmcgflmejofbaaGreatDoorSRAD
import Derived.Maps.AppendAt
set_option linter.unusedVariables false
set_option linter.unusedSimpArgs false
namespace Go.Proofs.YthmcgflmejofbaaGreatDoor
open Go.RowKit
open Go.BigFrame
set_option maxRecDepth 100000
structure UndoD where
 key:Int
 was:Bool
 val:Int
deriving DecidableEq

def undoNo:UndoD:=⟨0,false,0⟩

def UndoD.cells (x:UndoD):List Value:=[.int .i64 x.key,.bool x.was,.int .i64 x.val]

def undoCells (xs:List UndoD):List Value:=xs.flatMap UndoD.cells

def UndoRow (w:World) (a:Option Addr) (xs:List UndoD):Prop:=Lies w a (undoCells xs)

theorem undoCells_length (xs:List UndoD):(undoCells xs).length=xs.length * 3:=by
 induction xs with
 | nil=>rfl
 | cons x xs ih=>simp only [undoCells,List.flatMap_cons,List.length_append,List.length_cons] at ih ⊢;rw [ih];simp [UndoD.cells];omega

theorem undoCells_get (xs:List UndoD):∀ (i:Nat),i < xs.length→(undoCells xs)[i * 3]? = some (.int .i64 (xs.getD i undoNo).key)∧(undoCells xs)[i * 3 + 1]? = some (.bool (xs.getD i undoNo).was)∧(undoCells xs)[i * 3 + 2]? = some (.int .i64 (xs.getD i undoNo).val):=by
 induction xs with
 | nil=>intro i h;simp at h
 | cons x xs ih=>
  intro i h
  cases i with
  | zero=>simp [undoCells,UndoD.cells]
  | succ i=>
   have e:undoCells (x :: xs)=x.cells ++ undoCells xs:=rfl
   have hl:x.cells.length=3:=rfl
   obtain ⟨h1,h2,h3⟩:=ih i (by simpa using h)
   rw [e,List.getElem?_append_right (by omega),List.getElem?_append_right (by omega),List.getElem?_append_right (by omega),hl,show (i + 1) * 3 - 3=i * 3 by omega,show (i + 1) * 3 + 1 - 3=i * 3 + 1 by omega,show (i + 1) * 3 + 2 - 3=i * 3 + 2 by omega]
   simpa [List.getD] using ⟨h1,h2,h3⟩

theorem UndoRow.below {w w' : World} {a:Option Addr} {xs:List UndoD} (h:UndoRow w a xs) (hb:Below w.heap.size w w'):UndoRow w' a xs:=Lies.below h hb

theorem UndoRow.at {w:World} {a:Option Addr} {xs:List UndoD} (h:UndoRow w a xs) (i:Nat) (hi:i < xs.length) :
  ∃ b off,a=some ⟨b,off,none⟩∧b < w.heap.size∧w.cell? ⟨b,off + i * 3,none⟩=some (.int .i64 (xs.getD i undoNo).key)∧w.cell? ⟨b,off + i * 3 + 1,none⟩=some (.bool (xs.getD i undoNo).was)∧w.cell? ⟨b,off + i * 3 + 2,none⟩=some (.int .i64 (xs.getD i undoNo).val):=by
 obtain ⟨h1,h2,h3⟩:=undoCells_get xs i hi
 rcases h with h | ⟨b,off,ha,hlt,hc⟩
 ·have:=undoCells_length xs
  rw [h] at this
  simp at this
  omega
 ·exact ⟨b,off,ha,hlt,hc _ _ h1,by rw [Nat.add_assoc];exact hc _ _ h2,by rw [Nat.add_assoc];exact hc _ _ h3⟩

theorem infoUndo:(Tryz.prog.info? 193).map (fun i=>(i.zero,i.size,i.bytes))=some (some (.agg #[.int .i64 0,.bool false,.int .i64 0]),3,24):=by kernel_rfl

set_option maxHeartbeats 1000000 in
theorem toUndo_any (k:Int) (y:Bool) (v:Int) (w:World) :
  Calls Tryz.prog 188 #[.agg #[.int .i64 k,.bool y,.int .i64 v]] w fun e w' => e=.returned (.agg #[.int .i64 k,.bool y,.int .i64 v])∧Below w.heap.size w w' := by
 go_enter Tryz.func188,Tryz.ntmps188
 go_wp2
 exact bodyPost_ret (v:=.agg #[.int .i64 k,.bool y,.int .i64 v]) (by simp [results,Tryz.results188,go_sem]) rfl ⟨rfl,by go_grown⟩

/-- The cells of one element are written over. -/
theorem layUndo {w:World} {base e g cap n k:Nat} {zs ys:List Value} {v0 v1 v2:Value} (ho:w.ownsRow base e 3 (.slice (some ⟨g,0,none⟩) n cap) n (layV zs ys (k * 3)))
  (hl:ys.length=zs.length) (hz:zs.length=n * 3) (hk:k < n) (g0:zs[k * 3]? = some v0) (g1:zs[k * 3 + 1]? = some v1) (g2:zs[k * 3 + 2]? = some v2) :
  (((w.setCell ⟨g,k * 3,none⟩ v0).setCell ⟨g,k * 3 + 1,none⟩ v1).setCell ⟨g,k * 3 + 2,none⟩ v2).ownsRow base e 3 (.slice (some ⟨g,0,none⟩) n cap) n (layV zs ys ((k + 1) * 3)) ∧
  (w.frozen? ⟨g,k * 3,none⟩=false∧w.frozen? ⟨g,k * 3 + 1,none⟩=false∧w.frozen? ⟨g,k * 3 + 2,none⟩=false) ∧
  ((∃ u,w.cell? ⟨g,k * 3,none⟩=some u)∧(∃ u,w.cell? ⟨g,k * 3 + 1,none⟩=some u)∧(∃ u,w.cell? ⟨g,k * 3 + 2,none⟩=some u)) ∧
  (∀ B a,Below B a w→B≤g→Below B a (((w.setCell ⟨g,k * 3,none⟩ v0).setCell ⟨g,k * 3 + 1,none⟩ v1).setCell ⟨g,k * 3 + 2,none⟩ v2)):=by
 have hc:∀ j,j < n * 3→∃ u,w.cell? ⟨g,j,none⟩=some u:=fun j hj=>by
  rw [ho.cellAt j hj]
  exact ⟨_,List.getElem?_eq_getElem (by rw [ho.1];exact hj)⟩
 have s0:=(ho.stored (k * 3) v0).1
 rw [layV_step _ _ _ _ hl g0] at s0
 have s1:=(s0.stored (k * 3 + 1) v1).1
 rw [layV_step _ _ _ _ hl g1] at s1
 have s2:=(s1.stored (k * 3 + 2) v2).1
 rw [layV_step _ _ _ _ hl g2,show k * 3 + 2 + 1=(k + 1) * 3 by omega] at s2
 exact ⟨s2,⟨ho.frozenAt _,ho.frozenAt _,ho.frozenAt _⟩,⟨hc _ (by omega),hc _ (by omega),hc _ (by omega)⟩,fun B a h hB=>(((h.setCell hB _).setCell hB _).setCell hB _)⟩

set_option maxHeartbeats 1000000 in
theorem toUndoS_any (a:Option Addr) (cap:Nat) (zs:List UndoD) (w:World) (h:UndoRow w a zs) (hl:zs.length≤1048576) :
  Calls Tryz.prog 154 #[.slice a zs.length cap] w fun e w' => ∃ g c,e=.returned (.slice (some ⟨g,0,none⟩) zs.length c) ∧
   w'.ownsRow w.heap.size 193 3 (.slice (some ⟨g,0,none⟩) zs.length c) zs.length (undoCells zs)∧Below w.heap.size w w' := by
 obtain ⟨i0,hi,hz0,hz1,hz2⟩:=info_parts infoUndo
 have hbytes:i0.bytes * zs.length≤281474976710656:=by rw [hz2];omega
 have hmax:zs.length≤maxLen:=by unfold maxLen;omega
 have hcl:=undoCells_length zs
 go_enter Tryz.func154,Tryz.ntmps154
 go_wp2_with (at_make;refine wpList_make_full _ rfl _ _ 110 rfl w.heap.size 193 i0 (.agg #[.int .i64 0,.bool false,.int .i64 0]) 3 Tryz.underlying110 hi hz0 hz1 _ _ _ _ zs.length rfl rfl rfl rfl hbytes hmax (Nat.le_refl _) ?_)
 intro w1 hown hgrow
 have hlen0:(madeCells #[Value.int .i64 0,.bool false,.int .i64 0] (zs.length * 3)).toList.length=(undoCells zs).length:=by simp [size_madeCells,hcl]
 have hb1:Below w.heap.size w w1:=(Below.refl _ _).grown hgrow (Nat.le_refl _) (by simp)
 generalize (madeCells #[Value.int .i64 0,.bool false,.int .i64 0] (zs.length * 3)).toList=ys at hown hlen0
 rw [← layV_zero (undoCells zs) ys] at hown
 go_wp2
 go_loopw [4] (fun i wr=>∃ k:Nat,k≤zs.length∧i=.int .i64 k∧wr.ownsRow w.heap.size 193 3 (.slice (some ⟨w.heap.size,0,none⟩) zs.length zs.length) zs.length (layV (undoCells zs) ys (k * 3))∧Below w.heap.size w wr) (fun i _=>zs.length - (intOf i).toNat)
 case atStart=>exact ⟨0,Nat.zero_le _,rfl,by simpa using hown,hb1⟩
 case round=>
  obtain ⟨k,hk,rfl,ho,hb⟩:=hrel
  by_cases hlt:k < zs.length
  ·obtain ⟨b,off,rfl,hbs,hc0,hc1,hc2⟩:=(h.below hb).at k hlt
   obtain ⟨g0,g1,g2⟩:=undoCells_get zs k hlt
   generalize zs.getD k undoNo=z at hc0 hc1 hc2 g0 g1 g2
   go_wp2_with fail
   refine (toUndo_any _ _ _ _).mono ?_
   rintro e w2 ⟨rfl,hb2⟩
   replace ho:=own_below ho hb2
   replace hb:=hb.trans (hb2.mono hb.size)
   clear hc0 hc1 hc2 hb2
   obtain ⟨hst,hfr,hce,hbel⟩:=layUndo ho hlen0 hcl hlt g0 g1 g2
   obtain ⟨f0,f1,f2⟩:=hfr
   obtain ⟨⟨u0,e0⟩,⟨u1,e1⟩,⟨u2,e2⟩⟩:=hce
   have R:Hid (_∧_):=⟨hst,hbel _ _ hb (Nat.le_refl _)⟩
   clear hst hbel g0 g1 g2 ho
   go_wp2
   go_roundw
   case rel=>exact ⟨k + 1,by omega,by go_num,R.out.1,R.out.2⟩
   case measure=>simp [intOf];omega
  ·go_wp2
   go_ret
   have hkl:k=zs.length:=by omega
   subst hkl
   rw [layV_all _ _ _ hlen0 hcl] at ho
   exact ⟨_,_,rfl,ho,hb⟩

set_option maxHeartbeats 1000000 in
theorem eqUndo_true (k:Int) (y:Bool) (v:Int) (w:World) :
  Calls Tryz.prog 189 #[.agg #[.int .i64 k,.bool y,.int .i64 v],.agg #[.int .i64 k,.bool y,.int .i64 v]] w fun e w' => e=.returned (.bool true)∧Below w.heap.size w w' := by
 have h0:(k != k)=false:=by simp
 have h1:(y != y)=false:=by simp
 have h2:(v != v)=false:=by simp
 go_enter Tryz.func189,Tryz.ntmps189
 go_wp2
 go_ret
 exact ⟨rfl,by go_grown⟩

set_option maxHeartbeats 2000000 in
theorem eqUndoS_true (a a' : Option Addr) (cap cap' : Nat) (zs:List UndoD) (w:World) (h:UndoRow w a zs) (h' : UndoRow w a' zs) (hl:zs.length≤1099511627776) :
  Calls Tryz.prog 156 #[.slice a zs.length cap,.slice a' zs.length cap'] w fun e w' => e=.returned (.bool true)∧Below w.heap.size w w' := by
 go_enter Tryz.func156,Tryz.ntmps156
 go_wp2
 go_loopw [5] (fun i wr=>∃ k:Nat,k≤zs.length∧i=.int .i64 k∧Below w.heap.size w wr) (fun i _=>zs.length - (intOf i).toNat)
 case atStart=>exact ⟨0,Nat.zero_le _,rfl,Below.refl _ _⟩
 case round=>
  obtain ⟨k,hk,rfl,hb⟩:=hrel
  by_cases hlt:k < zs.length
  ·obtain ⟨b,off,rfl,hbs,hc0,hc1,hc2⟩:=(h.below hb).at k hlt
   obtain ⟨b',off',rfl,hbs',hd0,hd1,hd2⟩:=(h'.below hb).at k hlt
   generalize zs.getD k undoNo=z at hc0 hc1 hc2 hd0 hd1 hd2
   obtain ⟨z0,z1,z2⟩:=z
   have k0:=lat_cell hc0
   have l0:=lat_cell hd0
   have k1:=lat_cell hc1
   have l1:=lat_cell hd1
   have k2:=lat_cell hc2
   have l2:=lat_cell hd2
   clear hc0 hc1 hc2 hd0 hd1 hd2
   have hW:Below wr.heap.size wr wr.drew:=(Below.refl _ _).drew
   have hne:Nonempty (Lat wr):=⟨⟨wr,Below.refl _ _⟩⟩
   go_wp2_with fail
   refine text_begin (S:=fun w' => ∃ u:Lat wr,w' = u.val) (by kernel_rfl) ?_
   refine seg_range [(0,8)] 2 (by kernel_rfl) (by kernel_rfl) (by kernel_rfl) (by kernel_rfl) (by kernel_rfl) ⟨⟨_,hW⟩,rfl⟩ ?_
   simp only [pickR,List.toList_toArray,List.flatMap_cons,List.flatMap_nil,List.drop_succ_cons,List.drop_zero,List.take_succ_cons,List.take_zero,List.cons_append,List.nil_append,List.append_nil]
   repeat go_big_quiet_step (fail)
   refine wpQuiet_nil ?_
   refine call_at 8 (some 25) 189 #[.agg #[.int .i64 z0,.bool z1,.int .i64 z2],.agg #[.int .i64 z0,.bool z1,.int .i64 z2]] 1 (by kernel_rfl) (by kernel_rfl) (by kernel_rfl) (by kernel_rfl) (by kernel_rfl) ?_
   refine (eqUndo_true _ _ _ _).mono ?_
   rintro e w2 ⟨rfl,hb2⟩
   replace hW:=hW.trans (hb2.mono hW.size)
   clear hb2
   refine ⟨_,rfl,⟨⟨_,hW⟩,rfl⟩,?_⟩
   simp only [Act.put,List.setIfInBounds_toArray,List.set_cons_zero,List.set_cons_succ]
   refine seg_range [(9,1)] 0 (by kernel_rfl) (by kernel_rfl) (by kernel_rfl) (by kernel_rfl) (by kernel_rfl) ⟨⟨_,hW⟩,rfl⟩ ?_
   simp only [pickR,List.toList_toArray,List.flatMap_cons,List.flatMap_nil,List.drop_succ_cons,List.drop_zero,List.take_succ_cons,List.take_zero,List.cons_append,List.nil_append,List.append_nil]
   repeat go_big_quiet_step (fail)
   refine wpQuiet_nil ?_
   refine text_end (by kernel_rfl) ?_
   replace hb:=hb.trans (hW.mono hb.size)
   clear k0 l0 k1 l1 k2 l2 hW hne
   go_wp2
   go_roundw
   case rel=>exact ⟨k + 1,by omega,by go_num,hb⟩
   case measure=>simp [intOf];omega
  ·go_wp2
   go_ret
   exact ⟨rfl,hb⟩

/-- Marks, 3 cells an element. -/
def undoMarks (c:Int) (n:Nat):List UndoD:=(List.range n).map fun (i:Nat)=>⟨c + ((i * 3:Nat):Int),((c + ((i * 3 + 1:Nat):Int)) % 3 == 0),c + ((i * 3 + 2:Nat):Int)⟩

set_option maxHeartbeats 1000000 in
theorem szUndoS_any (a:Option Addr) (n cap:Nat) (c:Int) (w:World) (hn:n≤9223372036854775807) (h0:0≤c) (h1:c≤1099511627776) :
  Calls Tryz.prog 152 #[.slice a n cap,.int .i64 c] w fun e w' => e=.returned (.int .i64 (if c - n < 0 then -1 else c - n))∧w' = w:=by
 by_cases h:c - n < 0
 ·rw [if_pos h]
  go_enter Tryz.func152,Tryz.ntmps152
  go_wp2
  go_ret
  exact ⟨rfl,rfl⟩
 ·rw [if_neg h]
  go_enter Tryz.func152,Tryz.ntmps152
  go_wp2
  go_ret
  exact ⟨rfl,rfl⟩

end Go.Proofs.YthmcgflmejofbaaGreatDoor
namespace Go.Proofs.YthmcgflmejofbaaGreatDoor
open Go.RowKit
set_option maxRecDepth 100000
theorem Blk.set {w:World} {b:Nat} {t:TypeId} {cs:Array Value} (h:Blk w b t cs) (j:Nat) (x:Value):Blk (w.setCell ⟨b,j,none⟩ x) b t (cs.setIfInBounds j x):=Go.Joins.block_setCell (i:=j) (v:=x) h

theorem Blk.other {w:World} {b b' : Nat} {t:TypeId} {cs:Array Value} (h:Blk w b t cs) (hne:b≠b') (j:Nat) (x:Value):Blk (w.setCell ⟨b',j,none⟩ x) b t cs:=(Below.heap_setCell w ⟨b',j,none⟩ x b hne).trans h

end Go.Proofs.YthmcgflmejofbaaGreatDoor
namespace Go.Proofs.YthmcgflmejofbaaGreatDoor
open Go.RowKit
open Go.BigFrame
set_option maxRecDepth 100000
def itemK:Kind ItemD where
 ty:=121
 size:=2
 cells:=ItemD.cells
 own _ _:=True
 rd _ _:=True
 foot _:=[]
 len _:=rfl
 own_rd _:=trivial
 own_out _ _ _:=trivial
 own_lt _ k hk:=by simp at hk
 rd_below _ _:=trivial

theorem itemK_at {w:World} {a:Option Addr} {n cap:Nat} {zs:List ItemD} (h:itemK.At w (.slice a n cap) zs):n=zs.length∧ItemRow w a zs:=by
 obtain ⟨a',c,e,hl,_⟩:=h
 simp only [Value.slice.injEq] at e
 obtain ⟨rfl,rfl,_⟩:=e
 exact ⟨rfl,hl⟩

theorem itemK_fp (v:Value) (zs:List ItemD):itemK.fp v zs=blk v:=by
 have:zs.flatMap itemK.foot=[]:=by simp [show ∀ z,itemK.foot z=[] from fun _=>rfl]
 simp [Kind.fp,this]

def undoK:Kind UndoD where
 ty:=193
 size:=3
 cells:=UndoD.cells
 own _ _:=True
 rd _ _:=True
 foot _:=[]
 len _:=rfl
 own_rd _:=trivial
 own_out _ _ _:=trivial
 own_lt _ k hk:=by simp at hk
 rd_below _ _:=trivial

theorem undoK_at {w:World} {a:Option Addr} {n cap:Nat} {zs:List UndoD} (h:undoK.At w (.slice a n cap) zs):n=zs.length∧UndoRow w a zs:=by
 obtain ⟨a',c,e,hl,_⟩:=h
 simp only [Value.slice.injEq] at e
 obtain ⟨rfl,rfl,_⟩:=e
 exact ⟨rfl,hl⟩

theorem undoK_fp (v:Value) (zs:List UndoD):undoK.fp v zs=blk v:=by
 have:zs.flatMap undoK.foot=[]:=by simp [show ∀ z,undoK.foot z=[] from fun _=>rfl]
 simp [Kind.fp,this]

theorem szItems_k (v:Value) (zs:List ItemD) (c:Int) (w:World) (h:itemK.At w v zs) (hn:zs.length≤9223372036854775807) (h0:0≤c) (h1:c≤1048576) :
  Calls Tryz.prog 101 #[v,.int .i64 c] w fun e w' => ∃ r:Int,e=.returned (.int .i64 r)∧(¬ r < 0→(zs.length:Int) + r=c)∧Below w.heap.size w w' := by
 obtain ⟨a,cap,rfl⟩:=h.shape
 refine (szItemS_any a zs.length cap c w hn h0 (by omega)).mono ?_
 rintro e w' ⟨rfl,rfl⟩
 refine ⟨_,rfl,?_,Below.refl _ _⟩
 split <;> omega

theorem toItems_k (v:Value) (zs:List ItemD) (w:World) (h:itemK.At w v zs) (hl:zs.length≤1048576) :
  Calls Tryz.prog 103 #[v] w fun e w' => ∃ v',e=.returned v' ∧ itemK.Own w' v' zs∧(itemK.fp v' zs).Nodup∧(∀ k∈itemK.fp v' zs,w.heap.size≤k)∧Below w.heap.size w w' := by
 obtain ⟨a,cap,rfl⟩:=h.shape
 refine (toItemS_any a cap zs w (itemK_at h).2 hl).mono ?_
 rintro e w' ⟨g,c,rfl,ho,hb⟩
 obtain ⟨o,hk⟩:=own_zero ho
 refine ⟨_,rfl,⟨o,fun _ _=>trivial⟩,?_,?_,hb⟩
 ·rw [itemK_fp];exact blk_nodup _
 ·rw [itemK_fp];exact hk

theorem eqItems_k (v v' : Value) (zs:List ItemD) (w:World) (h:itemK.At w v zs) (h' : itemK.At w v' zs) (hl:zs.length≤1048576) :
  Calls Tryz.prog 105 #[v,v'] w fun e w' => e=.returned (.bool true)∧Below w.heap.size w w' := by
 obtain ⟨a,cap,rfl⟩:=h.shape
 obtain ⟨a',cap',rfl⟩:=h'.shape
 exact eqItemS_true a a' cap cap' zs w (itemK_at h).2 (itemK_at h').2 (by omega)

theorem szUndos_k (v:Value) (zs:List UndoD) (c:Int) (w:World) (h:undoK.At w v zs) (hn:zs.length≤9223372036854775807) (h0:0≤c) (h1:c≤1048576) :
  Calls Tryz.prog 152 #[v,.int .i64 c] w fun e w' => ∃ r:Int,e=.returned (.int .i64 r)∧(¬ r < 0→(zs.length:Int) + r=c)∧Below w.heap.size w w' := by
 obtain ⟨a,cap,rfl⟩:=h.shape
 refine (szUndoS_any a zs.length cap c w hn h0 (by omega)).mono ?_
 rintro e w' ⟨rfl,rfl⟩
 refine ⟨_,rfl,?_,Below.refl _ _⟩
 split <;> omega

theorem toUndos_k (v:Value) (zs:List UndoD) (w:World) (h:undoK.At w v zs) (hl:zs.length≤1048576) :
  Calls Tryz.prog 154 #[v] w fun e w' => ∃ v',e=.returned v' ∧ undoK.Own w' v' zs∧(undoK.fp v' zs).Nodup∧(∀ k∈undoK.fp v' zs,w.heap.size≤k)∧Below w.heap.size w w' := by
 obtain ⟨a,cap,rfl⟩:=h.shape
 refine (toUndoS_any a cap zs w (undoK_at h).2 hl).mono ?_
 rintro e w' ⟨g,c,rfl,ho,hb⟩
 obtain ⟨o,hk⟩:=own_zero ho
 refine ⟨_,rfl,⟨o,fun _ _=>trivial⟩,?_,?_,hb⟩
 ·rw [undoK_fp];exact blk_nodup _
 ·rw [undoK_fp];exact hk

theorem eqUndos_k (v v' : Value) (zs:List UndoD) (w:World) (h:undoK.At w v zs) (h' : undoK.At w v' zs) (hl:zs.length≤1048576) :
  Calls Tryz.prog 156 #[v,v'] w fun e w' => e=.returned (.bool true)∧Below w.heap.size w w' := by
 obtain ⟨a,cap,rfl⟩:=h.shape
 obtain ⟨a',cap',rfl⟩:=h'.shape
 exact eqUndoS_true a a' cap cap' zs w (undoK_at h).2 (undoK_at h').2 (by omega)

/-- A list of undos where it lies. -/
structure USQ where
 va:Value
 us:List UndoD

def ussK:Kind USQ where
 ty:=110
 size:=1
 cells p:=[p.va]
 own w p:=undoK.Own w p.va p.us
 rd w p:=undoK.At w p.va p.us
 foot p:=undoK.fp p.va p.us
 len _:=rfl
 own_rd h:=h.at
 own_out h ho hd:=h.out ho hd
 own_lt h:=h.lt
 rd_below h hb:=h.below hb

def USQ.e (p:USQ):List UndoD:=p.us

def USQ.n (p:USQ):Nat:=p.us.length

def USQ.wf (p:USQ):Prop:=p.us.length≤9223372036854775807

theorem infoUndos9:(Tryz.prog.info? 110).map (fun i=>(i.zero,i.size,i.bytes))=some (some (.slice none 0 0),1,24):=by kernel_rfl

end Go.Proofs.YthmcgflmejofbaaGreatDoor
namespace Go.Proofs.YthmcgflmejofbaaGreatDoor
open Go.RowKit
set_option maxRecDepth 100000
section
variable {P:Type} {K:Kind P} {w w' : World} {v v' : Value} {ps:List P} {p:P} {B:Nat}
theorem Kind.row_snoc (ps:List P) (p:P):K.row (ps ++ [p])=K.row ps ++ K.cells p:=by simp [Kind.row]

theorem Kind.Own.snoc (h:K.Own w v ps) (hnd:(K.fp v ps).Nodup) (hlo:∀ k∈K.fp v ps,B≤k) (hp:K.own w p) (hpn:(K.foot p).Nodup) (hpd:∀ k∈K.foot p,k ∉ K.fp v ps) (hplo:∀ k∈K.foot p,B≤k) (hB:B≤w.heap.size)
  (hrow:w'.ownsRow 0 K.ty K.size v' (ps.length + 1) (K.row ps ++ K.cells p)) (hg:w.grownBy w' v.ownBlock) (hat:v'.ownBlock=v.ownBlock∨v'.ownBlock=some w.heap.size) :
  K.Own w' v' (ps ++ [p])∧(K.fp v' (ps ++ [p])).Nodup∧(∀ k∈K.fp v' (ps ++ [p]),B≤k)∧Out (blk v) w w' := by
 have hO:Out (blk v) w w' := Out.of_grown hg
 have hnd2:=List.nodup_append.1 hnd
 have hlt:=h.lt
 have hplt:=K.own_lt hp
 have hfe:(ps ++ [p]).flatMap K.foot=ps.flatMap K.foot ++ K.foot p:=by simp
 refine ⟨⟨?_,?_⟩,?_,?_,hO⟩
 ·rw [List.length_append,List.length_singleton,Kind.row_snoc]
  exact hrow
 ·intro q hq
  rcases List.mem_append.1 hq with hq | hq
  ·exact K.own_out (h.2 q hq) hO (fun k hk hkb=>hnd2.2.2 k hkb k (List.mem_flatMap.2 ⟨q,hq,hk⟩) rfl)
  ·simp only [List.mem_singleton] at hq
   subst hq
   exact K.own_out hp hO (fun k hk hkb=>hpd k hk (by simp only [Kind.fp,List.mem_append];exact Or.inl hkb))
 ·unfold Kind.fp
  rw [hfe]
  have hrest:(ps.flatMap K.foot ++ K.foot p).Nodup:=List.nodup_append.2 ⟨hnd2.2.1,hpn,fun a ha b hb e=>hpd b hb (by simp only [Kind.fp,List.mem_append];exact Or.inr (e ▸ ha))⟩
  rcases hat with hat | hat
  ·have e:blk v' = blk v:=by unfold blk;rw [hat]
   rw [e]
   refine List.nodup_append.2 ⟨hnd2.1,hrest,fun a ha b hb e=>?_⟩
   subst e
   rcases List.mem_append.1 hb with hb | hb
   ·exact hnd2.2.2 a ha a hb rfl
   ·exact hpd a hb (by simp only [Kind.fp,List.mem_append];exact Or.inl ha)
  ·have e:blk v' = [w.heap.size]:=by unfold blk;rw [hat];rfl
   rw [e]
   refine List.nodup_append.2 ⟨by simp,hrest,fun a ha b hb e=>?_⟩
   simp only [List.mem_singleton] at ha
   subst e ha
   rcases List.mem_append.1 hb with hb | hb
   ·have:=hlt _ (show w.heap.size∈K.fp v ps by simp only [Kind.fp,List.mem_append];exact Or.inr hb)
    omega
   ·have:=hplt _ hb
    omega
 ·intro k hk
  unfold Kind.fp at hk
  rw [hfe] at hk
  rcases List.mem_append.1 hk with hk | hk
  ·rcases hat with hat | hat
   ·exact hlo k (by simp only [Kind.fp,List.mem_append];left;unfold blk at hk ⊢;rw [hat] at hk;exact hk)
   ·unfold blk at hk
    rw [hat] at hk
    simp only [Option.toList,List.mem_singleton] at hk
    omega
  ·rcases List.mem_append.1 hk with hk | hk
   ·exact hlo k (by simp only [Kind.fp,List.mem_append];exact Or.inr hk)
   ·exact hplo k hk

theorem Kind.own_nil (w:World):K.Own w (.slice none 0 0) ([]:List P)∧(K.fp (.slice none 0 0) ([]:List P))=[]:=⟨⟨World.ownsRow_nil _ _ _ _,fun p hp=>by simp at hp⟩,by simp [Kind.fp,blk,Value.ownBlock]⟩

end
end Go.Proofs.YthmcgflmejofbaaGreatDoor
namespace Go.Proofs.YthmcgflmejofbaaGreatDoor
open Go.RowKit
set_option maxRecDepth 100000
section
variable {P:Type} {K:Kind P} {w w' : World} {a:Option Addr} {n cap:Nat} {ps:List P}
theorem Kind.At.takeK (h:K.At w (.slice a n cap) ps) (m:Nat) (hm:m≤ps.length):K.At w (.slice a m cap) (ps.take m):=by
 obtain ⟨a',c,e,hl,hr⟩:=h
 simp only [Value.slice.injEq] at e
 obtain ⟨rfl,_,rfl⟩:=e
 refine ⟨a,cap,by rw [List.length_take,Nat.min_eq_left hm],?_,fun p hp=>hr p (List.mem_of_mem_take hp)⟩
 have er:K.row ps=K.row (ps.take m) ++ K.row (ps.drop m):=by
  unfold Kind.row
  rw [← List.flatMap_append,List.take_append_drop]
 rcases hl with h0 | ⟨b,off,ha,hlt,hc⟩
 ·left
  rw [er] at h0
  exact (List.append_eq_nil_iff.1 h0).1
 ·right
  refine ⟨b,off,ha,hlt,fun j x hx=>hc j x ?_⟩
  rw [er,List.getElem?_append_left (List.getElem?_eq_some_iff.1 hx).1]
  exact hx

/-- A row of one's own whose elements are read elsewhere. -/
theorem Kind.at_of_row {v:Value} {base e:Nat} (h:w.ownsRow base e K.size v ps.length (K.row ps)) (hr:∀ p∈ps,K.rd w p):K.At w v ps:=by
 obtain ⟨a,c,rfl⟩:=own_shape h
 exact ⟨a,c,rfl,Lies.own h,hr⟩

end
theorem Blk.outs8 {w w' : World} {b:Nat} {t:TypeId} {cs:Array Value} {F:List Nat} (h:Blk w b t cs) (hU:Out F w w') (hF:b ∉ F):Blk w' b t cs:=(hU.block b h.lt hF).trans h

/-- What goes with a slice: how long it may be. -/
def CapOk:Value→Prop
 | .slice _ n c=>n≤c∧c≤maxLen
 | _=>False

end Go.Proofs.YthmcgflmejofbaaGreatDoor
namespace Go.Proofs.YthmcgflmejofbaaGreatDoor
open Go.RowKit
open Go.BigFrame
set_option maxRecDepth 100000
/-- The first of f 0, f 1 .. f (n - 1) that is not 0; else 0. -/
def firstNZ (f:Nat→Int):Nat→Int
 | 0=>0
 | n + 1=>if firstNZ f n=0 then f n else firstNZ f n

theorem firstNZ_none (f:Nat→Int):∀ n,(∀ j,j < n→f j=0)→firstNZ f n=0
 | 0,_=>rfl
 | n + 1,h=>by
  have:=firstNZ_none f n (fun j hj=>h j (by omega))
  simp only [firstNZ,this,if_true]
  exact h n (by omega)

theorem firstNZ_first (f:Nat→Int) (k:Nat) (h:∀ j,j < k→f j=0) (hne:f k≠0):∀ n,k < n→firstNZ f n=f k
 | 0,hk=>by omega
 | n + 1,hk=>by
  by_cases e:k=n
  ·subst e
   simp only [firstNZ,firstNZ_none f k h,if_true]
  ·have:=firstNZ_first f k h hne n (by omega)
   simp only [firstNZ,this,hne,if_false]

theorem firstNZ_zero (f:Nat→Int):∀ n,firstNZ f n=0→∀ j,j < n→f j=0
 | 0,_,j,hj=>by omega
 | n + 1,h,j,hj=>by
  simp only [firstNZ] at h
  by_cases e:firstNZ f n=0
  ·rw [if_pos e] at h
   by_cases ej:j=n
   ·subst ej;exact h
   ·exact firstNZ_zero f n e j (by omega)
  ·rw [if_neg e] at h;exact absurd h e

def prevK (xs:List ItemD) (k:Nat):Int:=if k=0 then 0 else (xs.getD (k - 1) itemNo).key

def itF (xs:List ItemD) (k:Nat):Int:=
 if inW (xs.getD k itemNo).key 1 20=false∨inW (xs.getD k itemNo).val (-20000) 20000=false then 3
 else if (xs.getD k itemNo).key≤prevK xs k then 1 else 0

def itemsF (xs:List ItemD):Int:=if 8 < xs.length then 2 else firstNZ (itF xs) xs.length

theorem itF_ways (xs:List ItemD) (k:Nat) :
  (inW (xs.getD k itemNo).key 1 20=false∧itF xs k=3)∨(inW (xs.getD k itemNo).key 1 20=true∧inW (xs.getD k itemNo).val (-20000) 20000=false∧itF xs k=3) ∨
  (inW (xs.getD k itemNo).key 1 20=true∧inW (xs.getD k itemNo).val (-20000) 20000=true∧(xs.getD k itemNo).key≤prevK xs k∧itF xs k=1) ∨
  (inW (xs.getD k itemNo).key 1 20=true∧inW (xs.getD k itemNo).val (-20000) 20000=true∧¬ (xs.getD k itemNo).key≤prevK xs k∧itF xs k=0):=by
 unfold itF
 generalize xs.getD k itemNo=x
 generalize prevK xs k=p
 cases h1:inW x.key 1 20 <;> cases h2:inW x.val (-20000) 20000 <;> by_cases h3:x.key≤p <;> simp [h3]

set_option maxHeartbeats 400000 in
theorem isItemValue_any (n:Int) (w:World) :
  Calls Tryz.prog 137 #[.int .i64 n] w fun e w' => e=.returned (.bool (inW n (-20000) 20000))∧w' = w:=by
 have hc:=fun w=>isWithin_any n (-20000) 20000 w
 generalize inW n (-20000) 20000=r at hc
 go_enter Tryz.func137,Tryz.ntmps137
 go_wp2_with (go_at_call 136;refine (hc _).mono ?_;rintro e w' ⟨rfl,rfl⟩)
 go_ret
 exact ⟨rfl,rfl⟩

set_option maxHeartbeats 1000000 in
theorem implItemsFault_any (a:Option Addr) (cap:Nat) (zs:List ItemD) (w:World) (h:ItemRow w a zs) (hl:zs.length≤1048576) :
  Calls Tryz.prog 70 #[.slice a zs.length cap] w fun e w' => e=.returned (.int .i64 (itemsF zs))∧Below w.heap.size w w' := by
 by_cases h8:8 < zs.length
 ·have E:itemsF zs=2:=if_pos h8
  rw [E]
  go_enter Tryz.func70,Tryz.ntmps70
  go_wp2
  go_ret
  exact ⟨rfl,Below.refl _ _⟩
 have E:itemsF zs=firstNZ (itF zs) zs.length:=if_neg h8
 rw [E]
 clear E
 go_enter Tryz.func70,Tryz.ntmps70
 go_wp2
 go_loopw [3,11] (fun l j wr=>∃ k:Nat,k≤zs.length∧j=.int .i64 k∧l=.int .i64 (prevK zs k)∧Below w.heap.size w wr∧Hid (∀ j,j < k→itF zs j=0)) (fun _ j _=>zs.length - (intOf j).toNat)
 case atStart=>exact ⟨0,Nat.zero_le _,rfl,rfl,Below.refl _ _,fun j hj=>absurd hj (Nat.not_lt_zero _)⟩
 case round=>
  obtain ⟨k,hk,rfl,rfl,hb,HA⟩:=hrel
  by_cases hlt:k < zs.length
  ·obtain ⟨b,off,rfl,hbs,hc0,hc1⟩:=(h.below hb).at k hlt
   have hsz:=hb.size
   have HK:Hid (prevK zs (k + 1)=(zs.getD k itemNo).key):=if_neg (Nat.succ_ne_zero k)
   rcases itF_ways zs k with ⟨h1,hF⟩ | ⟨h1,h2,hF⟩ | ⟨h1,h2,h3,hF⟩ | ⟨h1,h2,h3,hF⟩
   case inr.inr.inr=>
    have HB:Hid (∀ j,j < k + 1→itF zs j=0):=by
     intro j hj
     by_cases hjk:j=k
     ·subst hjk;exact hF
     ·exact HA.out j (by omega)
    clear HA hF
    generalize prevK zs k=p at h3
    generalize zs.getD k itemNo=z at hc0 hc1 h1 h2 h3 HK
    obtain ⟨z0,z1⟩:=z
    dsimp only at hc0 hc1 h1 h2 h3 HK
    go_wp2_with (first | (go_at_call 136;refine (isWithin_any _ _ _ _).mono ?_;rintro e w' ⟨rfl,rfl⟩) | (go_at_call 137;refine (isItemValue_any _ _).mono ?_;rintro e w' ⟨rfl,rfl⟩))
    go_roundw
    case rel=>exact ⟨k + 1,by omega,by go_num,by rw [HK.out],by go_grown,HB⟩
    case measure=>simp [intOf];omega
   all_goals
    have E:Hid (firstNZ (itF zs) zs.length=_):=firstNZ_first (itF zs) k HA.out (by rw [hF];decide) zs.length hlt
    rw [hF] at E
    clear HA hF HK
    generalize prevK zs k=p at *
    generalize zs.getD k itemNo=z at *
    obtain ⟨z0,z1⟩:=z
    dsimp only at *
    go_wp2_with (first | (go_at_call 136;refine (isWithin_any _ _ _ _).mono ?_;rintro e w' ⟨rfl,rfl⟩) | (go_at_call 137;refine (isItemValue_any _ _).mono ?_;rintro e w' ⟨rfl,rfl⟩))
    go_ret
    rw [E.out]
    exact ⟨rfl,by go_grown⟩
  ·have hkl:k=zs.length:=by omega
   subst hkl
   have E:Hid (firstNZ (itF zs) zs.length=0):=firstNZ_none _ _ HA.out
   clear HA
   go_wp2
   go_ret
   rw [E.out]
   exact ⟨rfl,hb⟩

end Go.Proofs.YthmcgflmejofbaaGreatDoor
