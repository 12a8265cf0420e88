/- Texts joined, with what the law reaches alone. -/
import Derived.WalkKit
import Derived.WalkSpells
import Derived.WalkLawsBesides
import Derived.BigQuiet
import Derived.Handy
import Derived.Test.YtfdkcbafpiojkaaGreatDoorProg
set_option linter.unusedVariables false
set_option linter.unusedSimpArgs false
namespace Go.Proofs.YtfdkcbafpiojkaaGreatDoor
open Go.RowKit
set_option maxRecDepth 100000
/-- The slice that begins at 'a' reads as the integers zs (of kind k) in w. -/
def Row (k:IntKind) (w:World) (a:Option Addr) (zs:List Int):Prop:=
 ∀ i,i < zs.length→∃ b off,a=some ⟨b,off,none⟩∧b < w.heap.size∧w.cell? ⟨b,off + i,none⟩=some (.int k (zs.getD i 0))

theorem Row.nil (k:IntKind) (w:World) (a:Option Addr):Row k w a []:=fun i h=>absurd h (Nat.not_lt_zero _)

theorem Row.below {k:IntKind} {w w' : World} {a:Option Addr} {zs:List Int} (h:Row k w a zs) (hb:Below w.heap.size w w'):Row k w' a zs:=by
 intro i hi
 obtain ⟨b,off,ha,hlt,hc⟩:=h i hi
 exact ⟨b,off,ha,Nat.lt_of_lt_of_le hlt hb.size,by rw [hb.cell (p:=⟨b,off + i,none⟩) hlt];exact hc⟩

theorem Row.own {k:IntKind} {w:World} {base e n c:Nat} {a:Option Addr} {zs:List Int} (h:w.ownsRow base e 1 (.slice a n c) n (zs.map (Value.int k))):Row k w a zs:=by
 have hlen:zs.length=n:=by simpa using h.1
 intro i hi
 rcases h.2 with ⟨he,hn⟩ | ⟨g,cap,cur,he,hb,hg,r⟩
 ·omega
 ·simp only [Value.slice.injEq,true_and] at he
  obtain ⟨rfl,rfl⟩:=he
  refine ⟨g,0,rfl,(Array.getElem?_eq_some_iff.1 hg).1,?_⟩
  have:=h.cellAt i (by omega)
  rw [Nat.zero_add,this]
  simp [List.getD,hi]

/-- Where a call has made new memory only, all that was there reads as before. -/
theorem bcell {W w1:World} (hb:Below W.heap.size W w1):(∀ b o,b < W.heap.size→w1.cell? ⟨b,o,none⟩=W.cell? ⟨b,o,none⟩)∧(∀ b o,b < W.heap.size→w1.frozen? ⟨b,o,none⟩=W.frozen? ⟨b,o,none⟩):=
 ⟨fun b o h=>hb.cell (p:=⟨b,o,none⟩) h,fun b o h=>hb.frozen (p:=⟨b,o,none⟩) h⟩

/-- What is owned stays owned behind a call that makes new memory only. -/
theorem own_below {w w' : World} {base e size n:Nat} {v:Value} {xs:List Value} (h:w.ownsRow base e size v n xs) (hb:Below w.heap.size w w'):w'.ownsRow base e size v n xs:=by
 refine ⟨h.1,?_⟩
 rcases h.2 with h2 | ⟨g,cap,cur,hv,hg,hh,r⟩
 ·exact Or.inl h2
 ·exact Or.inr ⟨g,cap,cur,hv,hg,by rw [hb.block g (Array.getElem?_eq_some_iff.1 hh).1];exact hh,r⟩

theorem own_shape {w:World} {base e size n:Nat} {v:Value} {xs:List Value} (h:w.ownsRow base e size v n xs):∃ a k,v=.slice a n k:=by
 rcases h.2 with ⟨rfl,rfl⟩ | ⟨g,cap,cur,rfl,r⟩
 ·exact ⟨_,_,rfl⟩
 ·exact ⟨_,_,rfl⟩

/-- What is owned from a number on is owned from every smaller one on. -/
theorem own_base {w:World} {base base' e size n:Nat} {v:Value} {xs:List Value} (h:w.ownsRow base e size v n xs) (hb:base' ≤ base):w.ownsRow base' e size v n xs:=by
 refine ⟨h.1,?_⟩
 rcases h.2 with h2 | ⟨g,cap,cur,hv,hg,r⟩
 ·exact Or.inl h2
 ·exact Or.inr ⟨g,cap,cur,hv,Nat.le_trans hb hg,r⟩

/-- Two cells at the head of block b. -/
structure Box (w:World) (b:Nat) (x y:Value):Prop where
 fst:w.cell? ⟨b,0,none⟩=some x
 snd:w.cell? ⟨b,1,none⟩=some y

theorem Box.lt {w:World} {b:Nat} {x y:Value} (h:Box w b x y):b < w.heap.size:=World.block_lt_of_cell? w ⟨b,0,none⟩ h.fst

theorem Box.new (w:World) (x y:Value) (t:TypeId):Box (w.alloc (.cells #[x,y] t)) w.heap.size x y:=⟨by simp,by simp⟩

theorem Box.below {w w' : World} {b:Nat} {x y:Value} (h:Box w b x y) (hb:Below w.heap.size w w'):Box w' b x y:=
 ⟨by rw [hb.cell (p:=⟨b,0,none⟩) h.lt];exact h.fst,by rw [hb.cell (p:=⟨b,1,none⟩) h.lt];exact h.snd⟩

theorem Box.alloc {w:World} {b:Nat} {x y:Value} (h:Box w b x y) (o:Obj):Box (w.alloc o) b x y:=h.below ((Below.refl _ _).alloc (Nat.le_refl _) o)

theorem Box.grown {w w' : World} {b:Nat} {x y:Value} {row:Option Nat} (h:Box w b x y) (hg:w.grownBy w' row) (hne:some b≠row):Box w' b x y:=
 ⟨hg.cell h.fst hne,hg.cell h.snd hne⟩

/-- The marks: from c on, counted up, as the kind k holds them. -/
def marks (k:IntKind) (c:Int) (n:Nat):List Int:=(List.range n).map fun (i:Nat)=>k.wrap (c + (i:Int))

/-- A list whose head is written over, place by place. -/
def laid (zs:List Int) (k:IntKind) (xs:List Value) (i:Nat):List Value:=(zs.take i).map (Value.int k) ++ xs.drop i

end Go.Proofs.YtfdkcbafpiojkaaGreatDoor
namespace Go.Proofs.YtfdkcbafpiojkaaGreatDoor
open Go.RowKit
set_option maxRecDepth 100000
/-- The cells from 'a' on hold xs. -/
def Lies (w:World) (a:Option Addr) (xs:List Value):Prop:=
 xs=[]∨∃ b off,a=some ⟨b,off,none⟩∧b < w.heap.size∧∀ i x,xs[i]? = some x→w.cell? ⟨b,off + i,none⟩=some x

theorem Lies.below {w w' : World} {a:Option Addr} {xs:List Value} (h:Lies w a xs) (hb:Below w.heap.size w w'):Lies w' a xs:=by
 rcases h with h | ⟨b,off,ha,hlt,hc⟩
 ·exact Or.inl h
 ·exact Or.inr ⟨b,off,ha,Nat.lt_of_lt_of_le hlt hb.size,fun i x hx=>by rw [hb.cell (p:=⟨b,off + i,none⟩) hlt];exact hc i x hx⟩

theorem Lies.own {w:World} {base e size n c:Nat} {a:Option Addr} {xs:List Value} (h:w.ownsRow base e size (.slice a n c) n xs):Lies w a xs:=by
 rcases h.2 with ⟨he,hn⟩ | ⟨g,cap,cur,he,hb,hg,r⟩
 ·left
  have:=h.1
  rw [hn,Nat.zero_mul] at this
  exact List.eq_nil_of_length_eq_zero this
 ·right
  simp only [Value.slice.injEq,true_and] at he
  obtain ⟨rfl,rfl⟩:=he
  refine ⟨g,0,rfl,(Array.getElem?_eq_some_iff.1 hg).1,fun i x hx=>?_⟩
  have hi:i < n * size:=by rw [← h.1];exact (List.getElem?_eq_some_iff.1 hx).1
  rw [Nat.zero_add,h.cellAt i hi,hx]

/-- A list whose head is written over, place by place. -/
def layV (zs xs:List Value) (k:Nat):List Value:=zs.take k ++ xs.drop k

theorem layV_zero (zs xs:List Value):layV zs xs 0=xs:=by simp [layV]

theorem layV_all (zs xs:List Value) (k:Nat) (h:xs.length=zs.length) (hk:zs.length=k):layV zs xs k=zs:=by
 have:xs.drop k=[]:=List.drop_of_length_le (by omega)
 simp [layV,this,← hk]
 omega

theorem layV_step (zs xs:List Value) (k:Nat) (v:Value) (h:xs.length=zs.length) (hv:zs[k]? = some v):(layV zs xs k).set k v=layV zs xs (k + 1):=by
 have hk:k < zs.length:=(List.getElem?_eq_some_iff.1 hv).1
 apply List.ext_getElem?
 intro j
 simp only [layV,List.getElem?_set,List.getElem?_append,List.length_append,List.length_take,List.length_drop,List.getElem?_drop,List.getElem?_take]
 by_cases hj:j=k
 ·subst hj
  simp [Nat.min_eq_left (Nat.le_of_lt hk),Nat.min_eq_left (show j + 1≤zs.length by omega),hv]
  omega
 ·rw [if_neg (by omega),Nat.min_eq_left (by omega),Nat.min_eq_left (by omega)]
  by_cases hlt:j < k
  ·simp [hlt,show j < k + 1 by omega]
  ·rw [if_neg hlt,if_neg (by omega)]
   congr 1;omega

structure ActD where
 kind:Int
 key:Int
 val:Int

def actNo:ActD:=⟨0,0,0⟩

def ActD.cells (x:ActD):List Value:=[.int .i64 x.kind,.int .i64 x.key,.int .i64 x.val]

def actCells (xs:List ActD):List Value:=xs.flatMap ActD.cells

def ActRow (w:World) (a:Option Addr) (xs:List ActD):Prop:=Lies w a (actCells xs)

theorem actCells_length (xs:List ActD):(actCells xs).length=xs.length * 3:=by
 induction xs with
 | nil=>rfl
 | cons x xs ih=>simp only [actCells,List.flatMap_cons,List.length_append,List.length_cons] at ih ⊢;rw [ih];simp [ActD.cells];omega

theorem actCells_get (xs:List ActD):∀ (i:Nat),i < xs.length→(actCells xs)[i * 3]? = some (.int .i64 (xs.getD i actNo).kind)∧(actCells xs)[i * 3 + 1]? = some (.int .i64 (xs.getD i actNo).key)∧(actCells xs)[i * 3 + 2]? = some (.int .i64 (xs.getD i actNo).val):=by
 induction xs with
 | nil=>intro i h;simp at h
 | cons x xs ih=>
  intro i h
  cases i with
  | zero=>simp [actCells,ActD.cells]
  | succ i=>
   have e:actCells (x :: xs)=x.cells ++ actCells xs:=rfl
   have hl:x.cells.length=3:=rfl
   obtain ⟨h1,h2,h3⟩:=ih i (by simpa using h)
   rw [e,List.getElem?_append_right (by omega),List.getElem?_append_right (by omega),List.getElem?_append_right (by omega),hl,show (i + 1) * 3 - 3=i * 3 by omega,show (i + 1) * 3 + 1 - 3=i * 3 + 1 by omega,show (i + 1) * 3 + 2 - 3=i * 3 + 2 by omega]
   simpa [List.getD] using ⟨h1,h2,h3⟩

theorem ActRow.below {w w' : World} {a:Option Addr} {xs:List ActD} (h:ActRow w a xs) (hb:Below w.heap.size w w'):ActRow w' a xs:=Lies.below h hb

theorem ActRow.at {w:World} {a:Option Addr} {xs:List ActD} (h:ActRow w a xs) (i:Nat) (hi:i < xs.length) :
  ∃ b off,a=some ⟨b,off,none⟩∧b < w.heap.size∧w.cell? ⟨b,off + i * 3,none⟩=some (.int .i64 (xs.getD i actNo).kind)∧w.cell? ⟨b,off + i * 3 + 1,none⟩=some (.int .i64 (xs.getD i actNo).key)∧w.cell? ⟨b,off + i * 3 + 2,none⟩=some (.int .i64 (xs.getD i actNo).val):=by
 obtain ⟨h1,h2,h3⟩:=actCells_get xs i hi
 rcases h with h | ⟨b,off,ha,hlt,hc⟩
 ·have:=actCells_length xs
  rw [h] at this
  simp at this
  omega
 ·exact ⟨b,off,ha,hlt,hc _ _ h1,by rw [Nat.add_assoc];exact hc _ _ h2,by rw [Nat.add_assoc];exact hc _ _ h3⟩

theorem infoAct:(Tryz.prog.info? 146).map (fun i=>(i.zero,i.size,i.bytes))=some (some (.agg #[.int .i64 0,.int .i64 0,.int .i64 0]),3,24):=by kernel_rfl

set_option maxHeartbeats 1000000 in
theorem toAct_any (k y v:Int) (w:World) :
  Calls Tryz.prog 132 #[.agg #[.int .i64 k,.int .i64 y,.int .i64 v]] w fun e w' => e=.returned (.agg #[.int .i64 k,.int .i64 y,.int .i64 v])∧Below w.heap.size w w' := by
 go_enter Tryz.func132,Tryz.ntmps132
 go_wp2
 exact bodyPost_ret (v:=.agg #[.int .i64 k,.int .i64 y,.int .i64 v]) (by simp [results,Tryz.results132,go_sem]) rfl ⟨rfl,by go_grown⟩

/-- Three cells of a row of threes are written over. -/
theorem lay3 {w:World} {base e g cap n k:Nat} {zs ys:List Value} {v0 v1 v2:Value} (ho:w.ownsRow base e 3 (.slice (some ⟨g,0,none⟩) n cap) n (layV zs ys (k * 3)))
  (hl:ys.length=zs.length) (hz:zs.length=n * 3) (hk:k < n) (g0:zs[k * 3]? = some v0) (g1:zs[k * 3 + 1]? = some v1) (g2:zs[k * 3 + 2]? = some v2) :
  (((w.setCell ⟨g,k * 3,none⟩ v0).setCell ⟨g,k * 3 + 1,none⟩ v1).setCell ⟨g,k * 3 + 2,none⟩ v2).ownsRow base e 3 (.slice (some ⟨g,0,none⟩) n cap) n (layV zs ys ((k + 1) * 3)) ∧
  (w.frozen? ⟨g,k * 3,none⟩=false∧w.frozen? ⟨g,k * 3 + 1,none⟩=false∧w.frozen? ⟨g,k * 3 + 2,none⟩=false) ∧
  ((∃ u,w.cell? ⟨g,k * 3,none⟩=some u)∧(∃ u,w.cell? ⟨g,k * 3 + 1,none⟩=some u)∧(∃ u,w.cell? ⟨g,k * 3 + 2,none⟩=some u)) ∧
  (∀ B a,Below B a w→B≤g→Below B a (((w.setCell ⟨g,k * 3,none⟩ v0).setCell ⟨g,k * 3 + 1,none⟩ v1).setCell ⟨g,k * 3 + 2,none⟩ v2)):=by
 have hc:∀ j,j < n * 3→∃ u,w.cell? ⟨g,j,none⟩=some u:=fun j hj=>by
  rw [ho.cellAt j hj]
  exact ⟨_,List.getElem?_eq_getElem (by rw [ho.1];exact hj)⟩
 have s0:=(ho.stored (k * 3) v0).1
 rw [layV_step _ _ _ _ hl g0] at s0
 have s1:=(s0.stored (k * 3 + 1) v1).1
 rw [layV_step _ _ _ _ hl g1] at s1
 have s2:=(s1.stored (k * 3 + 2) v2).1
 rw [layV_step _ _ _ _ hl g2,show k * 3 + 2 + 1=(k + 1) * 3 by omega] at s2
 exact ⟨s2,⟨ho.frozenAt _,ho.frozenAt _,ho.frozenAt _⟩,⟨hc _ (by omega),hc _ (by omega),hc _ (by omega)⟩,fun B a h hB=>((h.setCell hB _).setCell hB _).setCell hB _⟩

set_option maxHeartbeats 1000000 in
theorem toActS_any (a:Option Addr) (cap:Nat) (zs:List ActD) (w:World) (h:ActRow w a zs) (hl:zs.length≤1048576) :
  Calls Tryz.prog 66 #[.slice a zs.length cap] w fun e w' => ∃ g c,e=.returned (.slice (some ⟨g,0,none⟩) zs.length c) ∧
   w'.ownsRow w.heap.size 146 3 (.slice (some ⟨g,0,none⟩) zs.length c) zs.length (actCells zs)∧Below w.heap.size w w' := by
 obtain ⟨i0,hi,hz0,hz1,hz2⟩:=info_parts infoAct
 have hbytes:i0.bytes * zs.length≤281474976710656:=by rw [hz2];omega
 have hmax:zs.length≤maxLen:=by unfold maxLen;omega
 have hcl:=actCells_length zs
 go_enter Tryz.func66,Tryz.ntmps66
 go_wp2_with (at_make;refine wpList_make_full _ rfl _ _ 47 rfl w.heap.size 146 i0 (.agg #[.int .i64 0,.int .i64 0,.int .i64 0]) 3 Tryz.underlying47 hi hz0 hz1 _ _ _ _ zs.length rfl rfl rfl rfl hbytes hmax (Nat.le_refl _) ?_)
 intro w1 hown hgrow
 have hlen0:(madeCells #[Value.int .i64 0,.int .i64 0,.int .i64 0] (zs.length * 3)).toList.length=(actCells zs).length:=by simp [size_madeCells,hcl]
 have hb1:Below w.heap.size w w1:=(Below.refl _ _).grown hgrow (Nat.le_refl _) (by simp)
 generalize (madeCells #[Value.int .i64 0,.int .i64 0,.int .i64 0] (zs.length * 3)).toList=ys at hown hlen0
 rw [← layV_zero (actCells zs) ys] at hown
 go_wp2
 go_loopw [4] (fun i wr=>∃ k:Nat,k≤zs.length∧i=.int .i64 k∧wr.ownsRow w.heap.size 146 3 (.slice (some ⟨w.heap.size,0,none⟩) zs.length zs.length) zs.length (layV (actCells zs) ys (k * 3))∧Below w.heap.size w wr) (fun i _=>zs.length - (intOf i).toNat)
 case atStart=>exact ⟨0,Nat.zero_le _,rfl,by simpa using hown,hb1⟩
 case round=>
  obtain ⟨k,hk,rfl,ho,hb⟩:=hrel
  by_cases hlt:k < zs.length
  ·obtain ⟨b,off,rfl,hbs,hc0,hc1,hc2⟩:=(h.below hb).at k hlt
   obtain ⟨g0,g1,g2⟩:=actCells_get zs k hlt
   generalize zs.getD k actNo=z at hc0 hc1 hc2 g0 g1 g2
   go_wp2_with fail
   refine (toAct_any _ _ _ _).mono ?_
   rintro e w2 ⟨rfl,hb2⟩
   replace ho:=own_below ho hb2
   replace hb:=hb.trans (hb2.mono hb.size)
   clear hc0 hc1 hc2 hb2
   obtain ⟨hst,hfr,hce,hbel⟩:=lay3 ho hlen0 hcl hlt g0 g1 g2
   obtain ⟨f0,f1,f2⟩:=hfr
   obtain ⟨⟨u0,e0⟩,⟨u1,e1⟩,⟨u2,e2⟩⟩:=hce
   have R:Hid (_∧_):=⟨hst,hbel _ _ hb (Nat.le_refl _)⟩
   clear hst hbel g0 g1 g2 ho
   go_wp2
   go_roundw
   case rel=>exact ⟨k + 1,by omega,by go_num,R.out.1,R.out.2⟩
   case measure=>simp [intOf];omega
  ·go_wp2
   go_ret
   have hkl:k=zs.length:=by omega
   subst hkl
   rw [layV_all _ _ _ hlen0 hcl] at ho
   exact ⟨_,_,rfl,ho,hb⟩

end Go.Proofs.YtfdkcbafpiojkaaGreatDoor
namespace Go.Proofs.YtfdkcbafpiojkaaGreatDoor
open Go.RowKit
set_option maxRecDepth 100000
/-- Only the blocks of F turn. -/
structure Out (F:List Nat) (w w' : World):Prop where
 os:w'.os=w.os
 tape:w'.tape=w.tape
 output:w'.output=w.output
 size:w.heap.size≤w'.heap.size
 block:∀ k,k < w.heap.size→k ∉ F→w'.heap[k]? = w.heap[k]?

theorem Out.refl (F:List Nat) (w:World):Out F w w:=⟨rfl,rfl,rfl,Nat.le_refl _,fun _ _ _=>rfl⟩

theorem Out.trans {F:List Nat} {a b c:World} (h:Out F a b) (k:Out F b c):Out F a c:=
 ⟨k.os.trans h.os,k.tape.trans h.tape,k.output.trans h.output,Nat.le_trans h.size k.size,fun i hi hn=>(k.block i (Nat.lt_of_lt_of_le hi h.size) hn).trans (h.block i hi hn)⟩

theorem Out.mono {F G:List Nat} {w w' : World} (h:Out F w w') (hF:∀ k∈F,k∈G):Out G w w' := ⟨h.os,h.tape,h.output,h.size,fun k hk hn=>h.block k hk (fun e=>hn (hF k e))⟩

theorem Out.of_below {F:List Nat} {w w' : World} (h:Below w.heap.size w w'):Out F w w' := ⟨h.os,h.tape,h.output,h.size,fun k hk _=>h.block k hk⟩

theorem Out.of_grown {w w' : World} {row:Option Nat} (h:w.grownBy w' row):Out row.toList w w' := ⟨h.os,h.tape,h.output,h.size,fun k hk hn=>h.block k hk (fun e=>hn (by rw [← e];simp))⟩

theorem Out.setCell (w:World) (g j:Nat) (u:Value):Out [g] w (w.setCell ⟨g,j,none⟩ u):=⟨rfl,rfl,rfl,by simp,fun k _ hn=>Below.heap_setCell w _ _ k (by simpa using hn)⟩

theorem Out.keep {B:Nat} {F:List Nat} {a w w' : World} (h:Below B a w) (ho:Out F w w') (hB:B≤w.heap.size) (hF:∀ k∈F,B≤k):Below B a w' :=
 ⟨ho.os.trans h.os,ho.tape.trans h.tape,ho.output.trans h.output,Nat.le_trans h.size ho.size,fun k hk=>(ho.block k (by omega) (fun e=>by have:=hF k e;omega)).trans (h.block k hk)⟩

/-- The block that a slice begins in. -/
def blk (v:Value):List Nat:=v.ownBlock.toList

theorem own_outs {w w' : World} {base e s n:Nat} {v:Value} {xs:List Value} {F:List Nat} (h:w.ownsRow base e s v n xs) (ho:Out F w w') (hd:∀ k∈blk v,k ∉ F):w'.ownsRow base e s v n xs:=by
 refine ⟨h.1,?_⟩
 rcases h.2 with h2 | ⟨g,cap,cur,hv,hg,hh,r⟩
 ·exact Or.inl h2
 ·refine Or.inr ⟨g,cap,cur,hv,hg,?_,r⟩
  rw [ho.block g (Array.getElem?_eq_some_iff.1 hh).1 (hd g (by rw [hv];simp [blk,Value.ownBlock]))]
  exact hh

/-- A kind of elements: their cells, when they are read and owned, and the blocks beneath them. -/
structure Kind (P:Type) where
 ty:Nat
 size:Nat
 cells:P→List Value
 own:World→P→Prop
 rd:World→P→Prop
 foot:P→List Nat
 len:∀ p,(cells p).length=size
 own_rd:∀ {w p},own w p→rd w p
 own_out:∀ {w w' p F},own w p→Out F w w' → (∀ k∈foot p,k ∉ F)→own w' p
 own_lt:∀ {w p},own w p→∀ k∈foot p,k < w.heap.size
 rd_below:∀ {w w' p},rd w p→Below w.heap.size w w' → rd w' p

section
variable {P:Type} (K:Kind P)
def Kind.row (ps:List P):List Value:=ps.flatMap K.cells

/-- The slice v reads as these elements. -/
def Kind.At (w:World) (v:Value) (ps:List P):Prop:=∃ a cap,v=.slice a ps.length cap∧Lies w a (K.row ps)∧∀ p∈ps,K.rd w p

/-- The slice v owns these elements. -/
def Kind.Own (w:World) (v:Value) (ps:List P):Prop:=w.ownsRow 0 K.ty K.size v ps.length (K.row ps)∧∀ p∈ps,K.own w p

/-- All blocks beneath a slice. -/
def Kind.fp (v:Value) (ps:List P):List Nat:=blk v ++ ps.flatMap K.foot

end
section
variable {P:Type} {K:Kind P} {w w' : World} {v:Value} {ps:List P}
theorem Kind.row_length (ps:List P):(K.row ps).length=ps.length * K.size:=by
 induction ps with
 | nil=>simp [Kind.row]
 | cons p r ih=>
  simp only [Kind.row,List.flatMap_cons,List.length_append,K.len,List.length_cons] at ih ⊢
  rw [ih,Nat.add_mul]
  omega

theorem Kind.row_get (ps:List P) (i:Nat) (hi:i < ps.length) (j:Nat) (hj:j < K.size):(K.row ps)[i * K.size + j]? = (K.cells ps[i])[j]? := by
 induction ps generalizing i with
 | nil=>simp at hi
 | cons p r ih=>
  simp only [Kind.row,List.flatMap_cons]
  cases i with
  | zero=>
   rw [List.getElem?_append_left (by rw [K.len];omega)]
   simp
  | succ i=>
   rw [List.getElem?_append_right (by rw [K.len,Nat.add_mul];omega),K.len]
   have:=ih i (by simpa using hi)
   simp only [Kind.row] at this
   rw [show (i + 1) * K.size + j - K.size=i * K.size + j by rw [Nat.add_mul];omega,this]
   simp

theorem Kind.Own.at (h:K.Own w v ps):K.At w v ps:=by
 obtain ⟨a,c,rfl⟩:=own_shape h.1
 exact ⟨a,c,rfl,Lies.own h.1,fun p hp=>K.own_rd (h.2 p hp)⟩

theorem Kind.At.below (h:K.At w v ps) (hb:Below w.heap.size w w'):K.At w' v ps:=by
 obtain ⟨a,c,e,hl,hr⟩:=h
 exact ⟨a,c,e,hl.below hb,fun p hp=>K.rd_below (hr p hp) hb⟩

theorem Kind.At.shape (h:K.At w v ps):∃ a cap,v=.slice a ps.length cap:=by
 obtain ⟨a,c,e,_⟩:=h
 exact ⟨a,c,e⟩

theorem Kind.Own.shape (h:K.Own w v ps):∃ a cap,v=.slice a ps.length cap:=own_shape h.1

theorem Kind.Own.out {F:List Nat} (h:K.Own w v ps) (ho:Out F w w') (hd:∀ k∈K.fp v ps,k ∉ F):K.Own w' v ps:=by
 refine ⟨own_outs h.1 ho (fun k hk=>hd k (by simp [Kind.fp,hk])),fun p hp=>K.own_out (h.2 p hp) ho (fun k hk=>hd k ?_)⟩
 simp only [Kind.fp,List.mem_append,List.mem_flatMap]
 exact Or.inr ⟨p,hp,hk⟩

theorem Kind.Own.below (h:K.Own w v ps) (hb:Below w.heap.size w w'):K.Own w' v ps:=h.out (Out.of_below (F:=[]) hb) (fun _ _=>by simp)

theorem Kind.Own.lt (h:K.Own w v ps):∀ k∈K.fp v ps,k < w.heap.size:=by
 intro k hk
 simp only [Kind.fp,List.mem_append,List.mem_flatMap] at hk
 rcases hk with hk | ⟨p,hp,hk⟩
 ·exact (h.1.lt k (by simpa [blk] using hk)).2
 ·exact K.own_lt (h.2 p hp) k hk

/-- The cells of element i, where the slice is read. -/
theorem Kind.At.cell {a:Option Addr} {n cap:Nat} (h:K.At w (.slice a n cap) ps) (hs:0 < K.size) (i:Nat) (hi:i < ps.length) :
  ∃ b off,a=some ⟨b,off,none⟩∧b < w.heap.size∧(∀ j x,(K.cells ps[i])[j]? = some x→w.cell? ⟨b,off + i * K.size + j,none⟩=some x)∧K.rd w ps[i]:=by
 obtain ⟨a',c,e,hl,hr⟩:=h
 simp only [Value.slice.injEq] at e
 obtain ⟨rfl,_,_⟩:=e
 rcases hl with h0 | ⟨b,off,ha,hlt,hc⟩
 ·have:=Kind.row_length (K:=K) ps
  rw [h0] at this
  simp only [List.length_nil] at this
  have h1:1 * K.size≤ps.length * K.size:=Nat.mul_le_mul_right _ (by omega)
  omega
 ·refine ⟨b,off,ha,hlt,fun j x hx=>?_,hr _ (List.getElem_mem hi)⟩
  have hj:j < K.size:=by rw [← K.len ps[i]];exact (List.getElem?_eq_some_iff.1 hx).1
  rw [show off + i * K.size + j=off + (i * K.size + j) by omega]
  exact hc _ _ (by rw [Kind.row_get ps i hi j hj];exact hx)

/-- The block of a slice that is owned and not empty. -/
theorem Kind.Own.blkOf {a:Option Addr} {n cap:Nat} (h:K.Own w (.slice a n cap) ps) (hn:0 < ps.length):∃ g,a=some ⟨g,0,none⟩:=by
 rcases h.1.2 with ⟨he,h0⟩ | ⟨g,cap,cur,he,r⟩
 ·omega
 ·simp only [Value.slice.injEq] at he
  exact ⟨g,he.1⟩

theorem Kind.Own.cell {g n cap:Nat} (h:K.Own w (.slice (some ⟨g,0,none⟩) n cap) ps) (i:Nat) (hi:i < ps.length) (j:Nat) (x:Value) (hx:(K.cells ps[i])[j]? = some x):w.cell? ⟨g,i * K.size + j,none⟩=some x∧w.frozen? ⟨g,i * K.size + j,none⟩=false:=by
 obtain ⟨a',c,e⟩:=h.shape
 simp only [Value.slice.injEq] at e
 obtain ⟨_,rfl,_⟩:=e
 have hj:j < K.size:=by rw [← K.len ps[i]];exact (List.getElem?_eq_some_iff.1 hx).1
 have hlt:i * K.size + j < ps.length * K.size:=by
  have:(i + 1) * K.size≤ps.length * K.size:=Nat.mul_le_mul_right _ (by omega)
  rw [Nat.add_mul] at this
  omega
 exact ⟨by rw [h.1.cellAt _ hlt,Kind.row_get ps i hi j hj];exact hx,h.1.frozenAt _⟩

/-- Cells that are written over from o on. -/
def setFrom (xs:List Value) (o:Nat):List Value→List Value
 | []=>xs
 | y :: ys=>setFrom (xs.set o y) (o + 1) ys

theorem setFrom_length (xs:List Value) (o:Nat) (ys:List Value):(setFrom xs o ys).length=xs.length:=by
 induction ys generalizing xs o with
 | nil=>rfl
 | cons y ys ih=>simp [setFrom,ih]

theorem setFrom_get (xs:List Value) (o:Nat) (ys:List Value) (j:Nat) (hj:j < xs.length):(setFrom xs o ys)[j]? = if o≤j∧j < o + ys.length then ys[j - o]? else xs[j]? := by
 induction ys generalizing xs o with
 | nil=>
  rw [if_neg (by simp only [List.length_nil];omega)]
  rfl
 | cons y ys ih=>
  rw [setFrom,ih (xs.set o y) (o + 1) (by simpa using hj)]
  by_cases h1:o + 1≤j∧j < o + 1 + ys.length
  ·rw [if_pos h1,if_pos (by simp;omega),show j - o=(j - (o + 1)) + 1 by omega]
   simp
  ·rw [if_neg h1,List.getElem?_set]
   by_cases h2:o=j
   ·subst h2
    rw [if_pos rfl,if_pos hj,if_pos (by simp)]
    simp
   ·rw [if_neg h2,if_neg (by simp;omega)]

theorem Kind.row_put (ps:List P) (i:Nat) (hi:i < ps.length) (p:P):setFrom (K.row ps) (i * K.size) (K.cells p)=K.row (ps.set i p):=by
 have hl:=Kind.row_length (K:=K) ps
 have hl2:=Kind.row_length (K:=K) (ps.set i p)
 rw [List.length_set] at hl2
 have hi2:(i + 1) * K.size≤ps.length * K.size:=Nat.mul_le_mul_right _ (by omega)
 rw [Nat.add_mul,Nat.one_mul] at hi2
 apply List.ext_getElem?
 intro j
 by_cases hj:j < ps.length * K.size
 ·rw [setFrom_get _ _ _ _ (by omega),K.len]
  have hs:0 < K.size:=by
   rcases Nat.eq_zero_or_pos K.size with h0 | h0
   ·rw [h0] at hj;simp at hj
   ·exact h0
  have hd:=Nat.div_add_mod j K.size
  have hm:=Nat.mod_lt j hs
  have hq:j / K.size < ps.length:=Nat.div_lt_of_lt_mul (by rw [Nat.mul_comm];exact hj)
  have e:j=j / K.size * K.size + j % K.size:=by rw [Nat.mul_comm];exact hd.symm
  have e2:=Kind.row_get (K:=K) (ps.set i p) (j / K.size) (by simpa using hq) (j % K.size) hm
  rw [← e] at e2
  have e3:=Kind.row_get (K:=K) ps (j / K.size) hq (j % K.size) hm
  rw [← e] at e3
  rw [e2,e3]
  by_cases hk:j / K.size=i
  ·subst hk
   rw [if_pos (by omega)]
   simp only [List.getElem_set_self]
   congr 1
   omega
  ·have hne:¬ (i * K.size≤j∧j < i * K.size + K.size):=by
    rintro ⟨h1,h2⟩
    apply hk
    exact Nat.div_eq_of_lt_le (by omega) (by rw [Nat.add_mul];omega)
   rw [if_neg hne,List.getElem_set_ne (Ne.symm hk)]
 ·rw [List.getElem?_eq_none (by rw [setFrom_length];omega),List.getElem?_eq_none (by omega)]

theorem Kind.row_store (ps:List P) (i:Nat) (hi:i < ps.length) (p:P) (j:Nat) (u:Value) (hc:K.cells p=(K.cells ps[i]).set j u) (hj:j < K.size):(K.row ps).set (i * K.size + j) u=K.row (ps.set i p):=by
 rw [← Kind.row_put ps i hi p,hc]
 have hl:=Kind.row_length (K:=K) ps
 have hi2:(i + 1) * K.size≤ps.length * K.size:=Nat.mul_le_mul_right _ (by omega)
 rw [Nat.add_mul,Nat.one_mul] at hi2
 apply List.ext_getElem?
 intro k
 by_cases hk:k < ps.length * K.size
 ·rw [setFrom_get _ _ _ _ (by omega),List.length_set,K.len,List.getElem?_set]
  by_cases h1:i * K.size + j=k
  ·subst h1
   rw [if_pos rfl,if_pos (by omega),if_pos (by omega),List.getElem?_set,if_pos (by omega),if_pos (by rw [K.len];omega)]
  ·rw [if_neg h1]
   by_cases h2:i * K.size≤k∧k < i * K.size + K.size
   ·rw [if_pos h2,List.getElem?_set,if_neg (by omega)]
    have:=Kind.row_get (K:=K) ps i hi (k - i * K.size) (by omega)
    rw [show i * K.size + (k - i * K.size)=k by omega] at this
    exact this
   ·rw [if_neg h2]
 ·rw [List.getElem?_eq_none (by simp;omega),List.getElem?_eq_none (by rw [setFrom_length];omega)]

theorem foot_set (ps:List P) (i:Nat) (hi:i < ps.length) (p:P) (hf:K.foot p=K.foot ps[i]):(ps.set i p).flatMap K.foot=ps.flatMap K.foot:=by
 induction ps generalizing i with
 | nil=>simp at hi
 | cons q r ih=>
  cases i with
  | zero=>simp only [List.set_cons_zero,List.flatMap_cons,hf,List.getElem_cons_zero]
  | succ i=>simp only [List.set_cons_succ,List.flatMap_cons,ih i (by simpa using hi) (by simpa using hf)]

theorem Kind.fp_set (v:Value) (ps:List P) (i:Nat) (hi:i < ps.length) (p:P) (hf:K.foot p=K.foot ps[i]):K.fp v (ps.set i p)=K.fp v ps:=by
 simp only [Kind.fp,foot_set ps i hi p hf]

theorem foot_apart {ps:List P} (h:(ps.flatMap K.foot).Nodup) (i:Nat) (hi:i < ps.length) (j:Nat) (hj:j < ps.length) (hne:i≠j):∀ k∈K.foot ps[j],k ∉ K.foot ps[i]:=by
 induction ps generalizing i j with
 | nil=>simp at hi
 | cons p r ih=>
  rw [List.flatMap_cons,List.nodup_append] at h
  obtain ⟨_,h2,h3⟩:=h
  intro k hk hk2
  cases i with
  | zero=>
   cases j with
   | zero=>exact hne rfl
   | succ j=>
    simp only [List.getElem_cons_succ,List.getElem_cons_zero] at hk hk2
    exact h3 k hk2 k (List.mem_flatMap.2 ⟨_,List.getElem_mem (by simpa using hj),hk⟩) rfl
  | succ i=>
   cases j with
   | zero=>
    simp only [List.getElem_cons_succ,List.getElem_cons_zero] at hk hk2
    exact h3 k hk k (List.mem_flatMap.2 ⟨_,List.getElem_mem (by simpa using hi),hk2⟩) rfl
   | succ j=>
    simp only [List.getElem_cons_succ] at hk hk2
    exact ih h2 i (by simpa using hi) j (by simpa using hj) (by omega) k hk hk2

/-- One element is written over, its blocks and its other cells as they were. -/
theorem Kind.Own.store {g n cap:Nat} (h:K.Own w (.slice (some ⟨g,0,none⟩) n cap) ps) (hnd:(K.fp (.slice (some ⟨g,0,none⟩) n cap) ps).Nodup) (i:Nat) (hi:i < ps.length) (p:P) (j:Nat) (u:Value) (hj:j < K.size)
  (hc:K.cells p=(K.cells ps[i]).set j u) (hf:K.foot p=K.foot ps[i]) (hown:∀ w',K.own w' ps[i]→K.own w' p) :
  K.Own (w.setCell ⟨g,i * K.size + j,none⟩ u) (.slice (some ⟨g,0,none⟩) n cap) (ps.set i p)∧K.fp (.slice (some ⟨g,0,none⟩) n cap) (ps.set i p)=K.fp (.slice (some ⟨g,0,none⟩) n cap) ps:=by
 obtain ⟨a',c,e⟩:=h.shape
 simp only [Value.slice.injEq] at e
 obtain ⟨_,rfl,_⟩:=e
 refine ⟨⟨?_,?_⟩,Kind.fp_set _ ps i hi p hf⟩
 ·have h1:=(h.1.stored (i * K.size + j) u).1
  rw [Kind.row_store ps i hi p j u hc hj] at h1
  rw [List.length_set]
  exact h1
 ·have hg:∀ q∈ps,∀ k∈K.foot q,k ∉ [g]:=by
   intro q hq k hk
   simp only [Kind.fp,blk,Value.ownBlock,Option.toList,List.cons_append,List.nil_append,List.nodup_cons] at hnd
   simp only [List.mem_singleton]
   rintro rfl
   exact hnd.1 (List.mem_flatMap.2 ⟨q,hq,hk⟩)
  have hall:∀ q∈ps,K.own (w.setCell ⟨g,i * K.size + j,none⟩ u) q:=fun q hq=>K.own_out (h.2 q hq) (Out.setCell w g _ u) (hg q hq)
  intro q hq
  rcases List.mem_or_eq_of_mem_set hq with hq | rfl
  ·exact hall q hq
  ·exact hown _ (hall _ (List.getElem_mem hi))

/-- What lies beneath one element turns. -/
theorem Kind.Own.turn (h:K.Own w v ps) (hnd:(K.fp v ps).Nodup) (i:Nat) (hi:i < ps.length) (p:P) {F:List Nat} (ho:Out F w w') (hF:∀ k∈F,k∈K.foot ps[i])
  (hc:K.cells p=K.cells ps[i]) (hf:K.foot p=K.foot ps[i]) (hown:K.own w' p):K.Own w' v (ps.set i p)∧K.fp v (ps.set i p)=K.fp v ps:=by
 have hnd2:=hnd
 simp only [Kind.fp] at hnd2
 rw [List.nodup_append] at hnd2
 refine ⟨⟨?_,?_⟩,Kind.fp_set _ ps i hi p hf⟩
 ·have e:K.row (ps.set i p)=K.row ps:=by
   rw [← Kind.row_put ps i hi p,hc,Kind.row_put ps i hi ps[i],List.set_getElem_self]
  rw [e,List.length_set]
  refine own_outs h.1 ho (fun k hk hkF=>?_)
  exact hnd2.2.2 k hk k (List.mem_flatMap.2 ⟨ps[i],List.getElem_mem hi,hF k hkF⟩) rfl
 ·intro q hq
  obtain ⟨j,hj,rfl⟩:=List.getElem_of_mem hq
  rw [List.length_set] at hj
  by_cases hij:i=j
  ·subst hij
   rw [List.getElem_set_self]
   exact hown
  ·rw [List.getElem_set_ne hij]
   exact K.own_out (h.2 _ (List.getElem_mem hj)) ho (fun k hk hkF=>foot_apart hnd2.2.1 i hi j hj hij k hk (hF k hkF))

/-- A whole element is written over by a new one. -/
theorem Kind.Own.put {g n cap:Nat} (h:K.Own w (.slice (some ⟨g,0,none⟩) n cap) ps) (i:Nat) (hi:i < ps.length) (p:P) (hrow:w'.ownsRow 0 K.ty K.size (.slice (some ⟨g,0,none⟩) n cap) ps.length (setFrom (K.row ps) (i * K.size) (K.cells p)))
  (ho:Out [g] w w') (hg:∀ q∈ps,∀ k∈K.foot q,k≠g) (hown:K.own w p) (hp:∀ k∈K.foot p,k≠g):K.Own w' (.slice (some ⟨g,0,none⟩) n cap) (ps.set i p):=by
 rw [Kind.row_put ps i hi p] at hrow
 refine ⟨by rw [List.length_set];exact hrow,fun q hq=>?_⟩
 rcases List.mem_or_eq_of_mem_set hq with hq | rfl
 ·exact K.own_out (h.2 q hq) ho (fun k hk=>by simpa using hg q hq k hk)
 ·exact K.own_out hown ho (fun k hk=>by simpa using hp k hk)

/-- Marks: from c on, element by element. -/
def mkL (mk:Int→P→P) (nm:P→Nat):Int→List P→List P
 | _,[]=>[]
 | c,p :: r=>mk c p :: mkL mk nm (c + nm p) r

def nmL (nm:P→Nat) (ps:List P):Nat:=(ps.map nm).sum

theorem mkL_length (mk:Int→P→P) (nm:P→Nat) (c:Int) (ps:List P):(mkL mk nm c ps).length=ps.length:=by
 induction ps generalizing c with
 | nil=>rfl
 | cons p r ih=>simp [mkL,ih]

theorem nmL_succ (nm:P→Nat) (ps:List P) (k:Nat) (h:k < ps.length):nmL nm (ps.take (k + 1))=nmL nm (ps.take k) + nm ps[k]:=by
 rw [List.take_succ_eq_append_getElem h]
 simp only [nmL,List.map_append,List.map_cons,List.map_nil,List.sum_append,List.sum_cons,List.sum_nil,Nat.add_zero]

theorem nmL_le (nm:P→Nat) (ps:List P) (k:Nat):nmL nm (ps.take k)≤nmL nm ps:=by
 have e:nmL nm ps=nmL nm (ps.take k) + nmL nm (ps.drop k):=by
  conv=>lhs;rw [← List.take_append_drop k ps]
  simp only [nmL,List.map_append,List.sum_append]
 omega

theorem mkL_get (mk:Int→P→P) (nm:P→Nat) (c:Int) (ps:List P) (k:Nat) (h:k < ps.length):(mkL mk nm c ps)[k]'(by rw [mkL_length];exact h)=mk (c + nmL nm (ps.take k)) ps[k]:=by
 induction ps generalizing c k with
 | nil=>simp at h
 | cons p r ih=>
  cases k with
  | zero=>simp [mkL,nmL]
  | succ k=>
   simp only [mkL,List.getElem_cons_succ,List.take_succ_cons]
   rw [ih (c + nm p) k (by simpa using h)]
   congr 1
   simp only [nmL,List.map_cons,List.sum_cons]
   omega

/-- The first k elements marked. -/
def half (mk:Int→P→P) (nm:P→Nat) (c:Int) (ps:List P) (k:Nat):List P:=(mkL mk nm c ps).take k ++ ps.drop k

theorem half_zero (mk:Int→P→P) (nm:P→Nat) (c:Int) (ps:List P):half mk nm c ps 0=ps:=by simp [half]

theorem half_all (mk:Int→P→P) (nm:P→Nat) (c:Int) (ps:List P):half mk nm c ps ps.length=mkL mk nm c ps:=by
 have:=mkL_length mk nm c ps
 simp [half,List.take_of_length_le (show (mkL mk nm c ps).length≤ps.length by omega)]

theorem half_length (mk:Int→P→P) (nm:P→Nat) (c:Int) (ps:List P) (k:Nat) (hk:k≤ps.length):(half mk nm c ps k).length=ps.length:=by
 have:=mkL_length mk nm c ps
 simp [half]
 omega

theorem half_get (mk:Int→P→P) (nm:P→Nat) (c:Int) (ps:List P) (k:Nat) (hk:k < ps.length):(half mk nm c ps k)[k]'(by rw [half_length _ _ _ _ _ (by omega)];exact hk)=ps[k]:=by
 have:=mkL_length mk nm c ps
 simp only [half]
 rw [List.getElem_append_right (by simp;omega)]
 simp only [List.length_take,this,List.getElem_drop]
 congr 1
 omega

theorem half_set (mk:Int→P→P) (nm:P→Nat) (c:Int) (ps:List P) (k:Nat) (hk:k < ps.length):(half mk nm c ps k).set k (mk (c + nmL nm (ps.take k)) ps[k])=half mk nm c ps (k + 1):=by
 have hm:=mkL_length mk nm c ps
 rw [← mkL_get mk nm c ps k hk]
 simp only [half]
 rw [List.set_append_right _ _ (by simp;omega),show k - ((mkL mk nm c ps).take k).length=0 by simp;omega,List.drop_eq_getElem_cons hk,List.set_cons_zero,List.take_succ_eq_append_getElem (show k < (mkL mk nm c ps).length by omega),List.append_assoc]
 rfl

end
end Go.Proofs.YtfdkcbafpiojkaaGreatDoor
namespace Go.Proofs.YtfdkcbafpiojkaaGreatDoor
open Go.RowKit
set_option maxRecDepth 100000
section
variable {P:Type} {K:Kind P} {w w' : World} {v:Value} {ps:List P}
theorem made_row (z:P) (n:Nat) (hs:0 < K.size):(madeCells (K.cells z).toArray (n * K.size)).toList=K.row (List.replicate n z):=by
 have hl:=Kind.row_length (K:=K) (List.replicate n z)
 rw [List.length_replicate] at hl
 apply List.ext_getElem?
 intro j
 by_cases hj:j < n * K.size
 ·have hm:=Nat.mod_lt j hs
  have hq:j / K.size < n:=Nat.div_lt_of_lt_mul (by rw [Nat.mul_comm];exact hj)
  have e:j=j / K.size * K.size + j % K.size:=by rw [Nat.mul_comm];exact (Nat.div_add_mod j K.size).symm
  have e2:=Kind.row_get (K:=K) (List.replicate n z) (j / K.size) (by simpa using hq) (j % K.size) hm
  rw [← e] at e2
  rw [e2]
  have hz:(K.cells z).length=K.size:=K.len z
  simp only [madeCells,Array.toList_map,Array.toList_range,List.getElem?_map,List.getElem?_range hj,Option.map_some,List.size_toArray,hz,List.getElem_replicate]
  rw [List.getElem!_toArray,List.getElem?_eq_getElem (by omega),getElem!_pos (K.cells z) (j % K.size) (by omega)]
 ·rw [List.getElem?_eq_none (by simp [size_madeCells];omega),List.getElem?_eq_none (by omega)]

theorem fp_new {z:P} {n g cap:Nat} (hz:K.foot z=[]):K.fp (.slice (some ⟨g,0,none⟩) n cap) (List.replicate n z)=[g]:=by
 have:(List.replicate n z).flatMap K.foot=[]:=by
  rw [List.flatMap_eq_nil_iff]
  intro x hx
  rw [(List.mem_replicate.1 hx).2,hz]
 simp [Kind.fp,blk,Value.ownBlock,this]

theorem set_split (ps:List P) (i:Nat) (hi:i < ps.length) (p:P):ps.set i p=ps.take i ++ p :: ps.drop (i + 1):=by
 rw [List.set_eq_take_append_cons_drop,if_pos hi]

theorem mem_foot_set {ps:List P} {i:Nat} (hi:i < ps.length) {p:P} {k:Nat} (h:k∈(ps.set i p).flatMap K.foot):k∈ps.flatMap K.foot∨k∈K.foot p:=by
 obtain ⟨q,hq,hk⟩:=List.mem_flatMap.1 h
 rcases List.mem_or_eq_of_mem_set hq with hq | rfl
 ·exact Or.inl (List.mem_flatMap.2 ⟨q,hq,hk⟩)
 ·exact Or.inr hk

theorem nodup_put {ps:List P} (h:(K.fp v ps).Nodup) (i:Nat) (hi:i < ps.length) (p:P) (h0:K.foot ps[i]=[]) (hp:(K.foot p).Nodup) (hd:∀ k∈K.foot p,k ∉ K.fp v ps):(K.fp v (ps.set i p)).Nodup:=by
 have e:ps=ps.take i ++ ps[i] :: ps.drop (i + 1):=by
  conv=>lhs;rw [← List.take_append_drop i ps,List.drop_eq_getElem_cons hi]
 have hA:K.fp v ps=blk v ++ ((ps.take i).flatMap K.foot ++ (ps.drop (i + 1)).flatMap K.foot):=by
  conv=>lhs;rw [e]
  simp only [Kind.fp,List.flatMap_append,List.flatMap_cons,h0,List.nil_append]
 rw [hA] at h hd
 simp only [Kind.fp]
 rw [set_split ps i hi p]
 simp only [List.flatMap_append,List.flatMap_cons]
 generalize blk v=A at *
 generalize (ps.take i).flatMap K.foot=B at *
 generalize (ps.drop (i + 1)).flatMap K.foot=C at *
 generalize K.foot p=D at *
 simp only [List.nodup_append,List.mem_append] at h hd ⊢
 obtain ⟨hA1,⟨hB1,hC1,hBC⟩,hABC⟩:=h
 refine ⟨hA1,⟨hB1,⟨hp,hC1,?_⟩,?_⟩,?_⟩
 ·rintro a ha b hb rfl
  exact hd a ha (Or.inr (Or.inr hb))
 ·rintro a ha b (hb | hb) rfl
  ·exact hd a hb (Or.inr (Or.inl ha))
  ·exact hBC a ha a hb rfl
 ·rintro a ha b (hb | hb | hb) rfl
  ·exact hABC a ha a (Or.inl hb) rfl
  ·exact hd a hb (Or.inl ha)
  ·exact hABC a ha a (Or.inr hb) rfl

section
variable {g n cap k:Nat} {hs:List P} {p:P}
theorem Kind.Own.elem' (h:K.Own w v (hs.set k p)) (hk:k < hs.length):K.own w p:=h.2 p (List.mem_set hk p)

theorem Kind.Own.cell' (h:K.Own w (.slice (some ⟨g,0,none⟩) n cap) (hs.set k p)) (hk:k < hs.length) (j:Nat) (x:Value) (hx:(K.cells p)[j]? = some x):w.cell? ⟨g,k * K.size + j,none⟩=some x∧w.frozen? ⟨g,k * K.size + j,none⟩=false:=
 h.cell k (by simpa using hk) j x (by rw [List.getElem_set_self];exact hx)

theorem Kind.Own.store' (h:K.Own w (.slice (some ⟨g,0,none⟩) n cap) (hs.set k p)) (hnd:(K.fp (.slice (some ⟨g,0,none⟩) n cap) (hs.set k p)).Nodup) (hk:k < hs.length) (p' : P) (j:Nat) (u:Value) (hj:j < K.size)
  (hc:K.cells p' = (K.cells p).set j u) (hf:K.foot p' = K.foot p) (hown:∀ w',K.own w' p→K.own w' p') :
  K.Own (w.setCell ⟨g,k * K.size + j,none⟩ u) (.slice (some ⟨g,0,none⟩) n cap) (hs.set k p')∧(K.fp (.slice (some ⟨g,0,none⟩) n cap) (hs.set k p')).Nodup:=by
 have hk' : k < (hs.set k p).length:=by simpa using hk
 have e:(hs.set k p)[k]=p:=List.getElem_set_self (h:=hk')
 obtain ⟨h1,h2⟩:=h.store hnd k hk' p' j u hj (by rw [e];exact hc) (by rw [e];exact hf) (by rw [e];exact hown)
 rw [List.set_set] at h1 h2
 exact ⟨h1,by rw [h2];exact hnd⟩

theorem Kind.Own.turn' (h:K.Own w v (hs.set k p)) (hnd:(K.fp v (hs.set k p)).Nodup) (hk:k < hs.length) (p' : P) {F:List Nat} (ho:Out F w w') (hF:∀ x∈F,x∈K.foot p) (hc:K.cells p' = K.cells p) (hf:K.foot p' = K.foot p) (hown:K.own w' p') :
  K.Own w' v (hs.set k p')∧(K.fp v (hs.set k p')).Nodup:=by
 have hk' : k < (hs.set k p).length:=by simpa using hk
 have e:(hs.set k p)[k]=p:=List.getElem_set_self (h:=hk')
 obtain ⟨h1,h2⟩:=h.turn hnd k hk' p' ho (by rw [e];exact hF) (by rw [e];exact hc) (by rw [e];exact hf) hown
 rw [List.set_set] at h1 h2
 exact ⟨h1,by rw [h2];exact hnd⟩

end
theorem foot_mkL {mk:Int→P→P} {nm:P→Nat} (hf:∀ c p,K.foot (mk c p)=K.foot p) (c:Int) (ps:List P):(mkL mk nm c ps).flatMap K.foot=ps.flatMap K.foot:=by
 induction ps generalizing c with
 | nil=>rfl
 | cons p r ih=>simp only [mkL,List.flatMap_cons,hf,ih]

theorem fp_mkL {mk:Int→P→P} {nm:P→Nat} (hf:∀ c p,K.foot (mk c p)=K.foot p) (v:Value) (c:Int) (ps:List P):K.fp v (mkL mk nm c ps)=K.fp v ps:=by simp only [Kind.fp,foot_mkL hf]

theorem fp_half {mk:Int→P→P} {nm:P→Nat} (hf:∀ c p,K.foot (mk c p)=K.foot p) (v:Value) (c:Int) (ps:List P) (k:Nat):K.fp v (half mk nm c ps k)=K.fp v ps:=by
 have h1:((mkL mk nm c ps).take k).flatMap K.foot=(ps.take k).flatMap K.foot:=by
  have e:(mkL mk nm c ps).take k=mkL mk nm c (ps.take k):=by
   induction ps generalizing c k with
   | nil=>simp [mkL]
   | cons p r ih=>
    cases k with
    | zero=>simp [mkL]
    | succ k=>simp only [mkL,List.take_succ_cons,ih]
  rw [e,foot_mkL hf]
 simp only [Kind.fp,half,List.flatMap_append,h1]
 rw [← List.flatMap_append,List.take_append_drop]

end
theorem Out.set {F:List Nat} {w W:World} {b j:Nat} {u:Value} (h:Out F w W) (hb:b∈F):Out F w (W.setCell ⟨b,j,none⟩ u):=h.trans ((Out.setCell W b j u).mono (fun k hk=>by simp only [List.mem_singleton] at hk;rw [hk];exact hb))

theorem Out.call {F:List Nat} {w W W' : World} (h:Out F w W) (hb:Below W.heap.size W W'):Out F w W' := h.trans (Out.of_below hb)

theorem Below.call {B:Nat} {w W W' : World} (h:Below B w W) (hs:B≤W.heap.size) (hb:Below W.heap.size W W'):Below B w W' := h.trans (hb.mono hs)

/-- A row of cells is written over, place by place. -/
theorem own_setFrom {w:World} {base e s g n cap:Nat} {xs:List Value} (h:w.ownsRow base e s (.slice (some ⟨g,0,none⟩) n cap) n xs) (o:Nat) (ys:List Value) :
  (ys.zipIdx.foldl (fun w (y:Value × Nat)=>w.setCell ⟨g,o + y.2,none⟩ y.1) w).ownsRow base e s (.slice (some ⟨g,0,none⟩) n cap) n (setFrom xs o ys):=by
 suffices H:∀ (ys:List Value) (w:World) (xs:List Value) (d:Nat),w.ownsRow base e s (.slice (some ⟨g,0,none⟩) n cap) n xs→((ys.zipIdx d).foldl (fun w (y:Value × Nat)=>w.setCell ⟨g,o + y.2,none⟩ y.1) w).ownsRow base e s (.slice (some ⟨g,0,none⟩) n cap) n (setFrom xs (o + d) ys) from H ys w xs 0 h
 intro ys
 induction ys with
 | nil=>intro w xs d h;exact h
 | cons y ys ih=>
  intro w xs d h
  have:=ih (w.setCell ⟨g,o + d,none⟩ y) (xs.set (o + d) y) (d + 1) (h.stored (o + d) y).1
  simpa [List.zipIdx_cons,setFrom,Nat.add_assoc] using this

end Go.Proofs.YtfdkcbafpiojkaaGreatDoor
namespace Go.Proofs.YtfdkcbafpiojkaaGreatDoor
open Go.RowKit
set_option maxRecDepth 100000
theorem infoI64:(Tryz.prog.info? 2).map (fun i=>(i.zero,i.size,i.bytes))=some (some (.int .i64 0),1,8):=by kernel_rfl

end Go.Proofs.YtfdkcbafpiojkaaGreatDoor
