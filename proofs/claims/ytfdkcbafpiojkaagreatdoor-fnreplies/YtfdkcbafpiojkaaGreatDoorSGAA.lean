/- Texts joined, with what the laws reach alone. -/
import Derived.WalkKit
import Derived.WalkSpells
import Derived.WalkLawsBesides
import Derived.BigQuiet
import Derived.Handy
import Derived.Test.YtfdkcbafpiojkaaGreatDoorProg
import Derived.Deep.RegionHeld3
set_option linter.unusedVariables false
set_option linter.unusedSimpArgs false
namespace Go.Proofs.YtfdkcbafpiojkaaGreatDoor
open Go.RowKit
set_option maxRecDepth 100000
/-- The slice that begins at 'a' reads as the integers zs (of kind k) in w. -/
def Row (k:IntKind) (w:World) (a:Option Addr) (zs:List Int):Prop:=
 ∀ i,i < zs.length→∃ b off,a=some ⟨b,off,none⟩∧b < w.heap.size∧w.cell? ⟨b,off + i,none⟩=some (.int k (zs.getD i 0))

theorem Row.nil (k:IntKind) (w:World) (a:Option Addr):Row k w a []:=fun i h=>absurd h (Nat.not_lt_zero _)

theorem Row.below {k:IntKind} {w w' : World} {a:Option Addr} {zs:List Int} (h:Row k w a zs) (hb:Below w.heap.size w w'):Row k w' a zs:=by
 intro i hi
 obtain ⟨b,off,ha,hlt,hc⟩:=h i hi
 exact ⟨b,off,ha,Nat.lt_of_lt_of_le hlt hb.size,by rw [hb.cell (p:=⟨b,off + i,none⟩) hlt];exact hc⟩

theorem Row.own {k:IntKind} {w:World} {base e n c:Nat} {a:Option Addr} {zs:List Int} (h:w.ownsRow base e 1 (.slice a n c) n (zs.map (Value.int k))):Row k w a zs:=by
 have hlen:zs.length=n:=by simpa using h.1
 intro i hi
 rcases h.2 with ⟨he,hn⟩ | ⟨g,cap,cur,he,hb,hg,r⟩
 ·omega
 ·simp only [Value.slice.injEq,true_and] at he
  obtain ⟨rfl,rfl⟩:=he
  refine ⟨g,0,rfl,(Array.getElem?_eq_some_iff.1 hg).1,?_⟩
  have:=h.cellAt i (by omega)
  rw [Nat.zero_add,this]
  simp [List.getD,hi]

/-- What is owned stays owned behind a call that makes new memory only. -/
theorem own_below {w w' : World} {base e size n:Nat} {v:Value} {xs:List Value} (h:w.ownsRow base e size v n xs) (hb:Below w.heap.size w w'):w'.ownsRow base e size v n xs:=by
 refine ⟨h.1,?_⟩
 rcases h.2 with h2 | ⟨g,cap,cur,hv,hg,hh,r⟩
 ·exact Or.inl h2
 ·exact Or.inr ⟨g,cap,cur,hv,hg,by rw [hb.block g (Array.getElem?_eq_some_iff.1 hh).1];exact hh,r⟩

theorem own_shape {w:World} {base e size n:Nat} {v:Value} {xs:List Value} (h:w.ownsRow base e size v n xs):∃ a k,v=.slice a n k:=by
 rcases h.2 with ⟨rfl,rfl⟩ | ⟨g,cap,cur,rfl,r⟩
 ·exact ⟨_,_,rfl⟩
 ·exact ⟨_,_,rfl⟩

/-- What is owned from a number on is owned from every smaller one on. -/
theorem own_base {w:World} {base base' e size n:Nat} {v:Value} {xs:List Value} (h:w.ownsRow base e size v n xs) (hb:base' ≤ base):w.ownsRow base' e size v n xs:=by
 refine ⟨h.1,?_⟩
 rcases h.2 with h2 | ⟨g,cap,cur,hv,hg,r⟩
 ·exact Or.inl h2
 ·exact Or.inr ⟨g,cap,cur,hv,Nat.le_trans hb hg,r⟩

/-- Two cells at the head of block b. -/
structure Box (w:World) (b:Nat) (x y:Value):Prop where
 fst:w.cell? ⟨b,0,none⟩=some x
 snd:w.cell? ⟨b,1,none⟩=some y

theorem Box.lt {w:World} {b:Nat} {x y:Value} (h:Box w b x y):b < w.heap.size:=World.block_lt_of_cell? w ⟨b,0,none⟩ h.fst

theorem Box.new (w:World) (x y:Value) (t:TypeId):Box (w.alloc (.cells #[x,y] t)) w.heap.size x y:=⟨by simp,by simp⟩

theorem Box.below {w w' : World} {b:Nat} {x y:Value} (h:Box w b x y) (hb:Below w.heap.size w w'):Box w' b x y:=
 ⟨by rw [hb.cell (p:=⟨b,0,none⟩) h.lt];exact h.fst,by rw [hb.cell (p:=⟨b,1,none⟩) h.lt];exact h.snd⟩

theorem Box.alloc {w:World} {b:Nat} {x y:Value} (h:Box w b x y) (o:Obj):Box (w.alloc o) b x y:=h.below ((Below.refl _ _).alloc (Nat.le_refl _) o)

theorem Box.grown {w w' : World} {b:Nat} {x y:Value} {row:Option Nat} (h:Box w b x y) (hg:w.grownBy w' row) (hne:some b≠row):Box w' b x y:=
 ⟨hg.cell h.fst hne,hg.cell h.snd hne⟩

/-- The marks: from c on, counted up, as the kind k holds them. -/
def marks (k:IntKind) (c:Int) (n:Nat):List Int:=(List.range n).map fun (i:Nat)=>k.wrap (c + (i:Int))

/-- A list whose head is written over, place by place. -/
def laid (zs:List Int) (k:IntKind) (xs:List Value) (i:Nat):List Value:=(zs.take i).map (Value.int k) ++ xs.drop i

end Go.Proofs.YtfdkcbafpiojkaaGreatDoor
namespace Go.Proofs.YtfdkcbafpiojkaaGreatDoor
open Go.RowKit
set_option maxRecDepth 100000
/-- The cells from 'a' on hold xs. -/
def Lies (w:World) (a:Option Addr) (xs:List Value):Prop:=
 xs=[]∨∃ b off,a=some ⟨b,off,none⟩∧b < w.heap.size∧∀ i x,xs[i]? = some x→w.cell? ⟨b,off + i,none⟩=some x

theorem Lies.below {w w' : World} {a:Option Addr} {xs:List Value} (h:Lies w a xs) (hb:Below w.heap.size w w'):Lies w' a xs:=by
 rcases h with h | ⟨b,off,ha,hlt,hc⟩
 ·exact Or.inl h
 ·exact Or.inr ⟨b,off,ha,Nat.lt_of_lt_of_le hlt hb.size,fun i x hx=>by rw [hb.cell (p:=⟨b,off + i,none⟩) hlt];exact hc i x hx⟩

theorem Lies.own {w:World} {base e size n c:Nat} {a:Option Addr} {xs:List Value} (h:w.ownsRow base e size (.slice a n c) n xs):Lies w a xs:=by
 rcases h.2 with ⟨he,hn⟩ | ⟨g,cap,cur,he,hb,hg,r⟩
 ·left
  have:=h.1
  rw [hn,Nat.zero_mul] at this
  exact List.eq_nil_of_length_eq_zero this
 ·right
  simp only [Value.slice.injEq,true_and] at he
  obtain ⟨rfl,rfl⟩:=he
  refine ⟨g,0,rfl,(Array.getElem?_eq_some_iff.1 hg).1,fun i x hx=>?_⟩
  have hi:i < n * size:=by rw [← h.1];exact (List.getElem?_eq_some_iff.1 hx).1
  rw [Nat.zero_add,h.cellAt i hi,hx]

structure ActD where
 kind:Int
 key:Int
 val:Int

def actNo:ActD:=⟨0,0,0⟩

def ActD.cells (x:ActD):List Value:=[.int .i64 x.kind,.int .i64 x.key,.int .i64 x.val]

def actCells (xs:List ActD):List Value:=xs.flatMap ActD.cells

def ActRow (w:World) (a:Option Addr) (xs:List ActD):Prop:=Lies w a (actCells xs)

theorem actCells_length (xs:List ActD):(actCells xs).length=xs.length * 3:=by
 induction xs with
 | nil=>rfl
 | cons x xs ih=>simp only [actCells,List.flatMap_cons,List.length_append,List.length_cons] at ih ⊢;rw [ih];simp [ActD.cells];omega

theorem actCells_get (xs:List ActD):∀ (i:Nat),i < xs.length→(actCells xs)[i * 3]? = some (.int .i64 (xs.getD i actNo).kind)∧(actCells xs)[i * 3 + 1]? = some (.int .i64 (xs.getD i actNo).key)∧(actCells xs)[i * 3 + 2]? = some (.int .i64 (xs.getD i actNo).val):=by
 induction xs with
 | nil=>intro i h;simp at h
 | cons x xs ih=>
  intro i h
  cases i with
  | zero=>simp [actCells,ActD.cells]
  | succ i=>
   have e:actCells (x :: xs)=x.cells ++ actCells xs:=rfl
   have hl:x.cells.length=3:=rfl
   obtain ⟨h1,h2,h3⟩:=ih i (by simpa using h)
   rw [e,List.getElem?_append_right (by omega),List.getElem?_append_right (by omega),List.getElem?_append_right (by omega),hl,show (i + 1) * 3 - 3=i * 3 by omega,show (i + 1) * 3 + 1 - 3=i * 3 + 1 by omega,show (i + 1) * 3 + 2 - 3=i * 3 + 2 by omega]
   simpa [List.getD] using ⟨h1,h2,h3⟩

theorem ActRow.below {w w' : World} {a:Option Addr} {xs:List ActD} (h:ActRow w a xs) (hb:Below w.heap.size w w'):ActRow w' a xs:=Lies.below h hb

theorem ActRow.at {w:World} {a:Option Addr} {xs:List ActD} (h:ActRow w a xs) (i:Nat) (hi:i < xs.length) :
  ∃ b off,a=some ⟨b,off,none⟩∧b < w.heap.size∧w.cell? ⟨b,off + i * 3,none⟩=some (.int .i64 (xs.getD i actNo).kind)∧w.cell? ⟨b,off + i * 3 + 1,none⟩=some (.int .i64 (xs.getD i actNo).key)∧w.cell? ⟨b,off + i * 3 + 2,none⟩=some (.int .i64 (xs.getD i actNo).val):=by
 obtain ⟨h1,h2,h3⟩:=actCells_get xs i hi
 rcases h with h | ⟨b,off,ha,hlt,hc⟩
 ·have:=actCells_length xs
  rw [h] at this
  simp at this
  omega
 ·exact ⟨b,off,ha,hlt,hc _ _ h1,by rw [Nat.add_assoc];exact hc _ _ h2,by rw [Nat.add_assoc];exact hc _ _ h3⟩

theorem infoAct:(Tryz.prog.info? 146).map (fun i=>(i.zero,i.size,i.bytes))=some (some (.agg #[.int .i64 0,.int .i64 0,.int .i64 0]),3,24):=by kernel_rfl

end Go.Proofs.YtfdkcbafpiojkaaGreatDoor
namespace Go.Proofs.YtfdkcbafpiojkaaGreatDoor
open Go.RowKit
set_option maxRecDepth 100000
/-- Only the blocks of F turn. -/
structure Out (F:List Nat) (w w' : World):Prop where
 os:w'.os=w.os
 tape:w'.tape=w.tape
 output:w'.output=w.output
 size:w.heap.size≤w'.heap.size
 block:∀ k,k < w.heap.size→k ∉ F→w'.heap[k]? = w.heap[k]?

theorem Out.refl (F:List Nat) (w:World):Out F w w:=⟨rfl,rfl,rfl,Nat.le_refl _,fun _ _ _=>rfl⟩

theorem Out.trans {F:List Nat} {a b c:World} (h:Out F a b) (k:Out F b c):Out F a c:=
 ⟨k.os.trans h.os,k.tape.trans h.tape,k.output.trans h.output,Nat.le_trans h.size k.size,fun i hi hn=>(k.block i (Nat.lt_of_lt_of_le hi h.size) hn).trans (h.block i hi hn)⟩

theorem Out.mono {F G:List Nat} {w w' : World} (h:Out F w w') (hF:∀ k∈F,k∈G):Out G w w' := ⟨h.os,h.tape,h.output,h.size,fun k hk hn=>h.block k hk (fun e=>hn (hF k e))⟩

theorem Out.of_below {F:List Nat} {w w' : World} (h:Below w.heap.size w w'):Out F w w' := ⟨h.os,h.tape,h.output,h.size,fun k hk _=>h.block k hk⟩

theorem Out.of_grown {w w' : World} {row:Option Nat} (h:w.grownBy w' row):Out row.toList w w' := ⟨h.os,h.tape,h.output,h.size,fun k hk hn=>h.block k hk (fun e=>hn (by rw [← e];simp))⟩

theorem Out.setCell (w:World) (g j:Nat) (u:Value):Out [g] w (w.setCell ⟨g,j,none⟩ u):=⟨rfl,rfl,rfl,by simp,fun k _ hn=>Below.heap_setCell w _ _ k (by simpa using hn)⟩

theorem Out.keep {B:Nat} {F:List Nat} {a w w' : World} (h:Below B a w) (ho:Out F w w') (hB:B≤w.heap.size) (hF:∀ k∈F,B≤k):Below B a w' :=
 ⟨ho.os.trans h.os,ho.tape.trans h.tape,ho.output.trans h.output,Nat.le_trans h.size ho.size,fun k hk=>(ho.block k (by omega) (fun e=>by have:=hF k e;omega)).trans (h.block k hk)⟩

/-- The block that a slice begins in. -/
def blk (v:Value):List Nat:=v.ownBlock.toList

theorem own_outs {w w' : World} {base e s n:Nat} {v:Value} {xs:List Value} {F:List Nat} (h:w.ownsRow base e s v n xs) (ho:Out F w w') (hd:∀ k∈blk v,k ∉ F):w'.ownsRow base e s v n xs:=by
 refine ⟨h.1,?_⟩
 rcases h.2 with h2 | ⟨g,cap,cur,hv,hg,hh,r⟩
 ·exact Or.inl h2
 ·refine Or.inr ⟨g,cap,cur,hv,hg,?_,r⟩
  rw [ho.block g (Array.getElem?_eq_some_iff.1 hh).1 (hd g (by rw [hv];simp [blk,Value.ownBlock]))]
  exact hh

/-- A kind of elements: their cells, when they are read and owned, and the blocks beneath them. -/
structure Kind (P:Type) where
 ty:Nat
 size:Nat
 cells:P→List Value
 own:World→P→Prop
 rd:World→P→Prop
 foot:P→List Nat
 len:∀ p,(cells p).length=size
 own_rd:∀ {w p},own w p→rd w p
 own_out:∀ {w w' p F},own w p→Out F w w' → (∀ k∈foot p,k ∉ F)→own w' p
 own_lt:∀ {w p},own w p→∀ k∈foot p,k < w.heap.size
 rd_below:∀ {w w' p},rd w p→Below w.heap.size w w' → rd w' p

section
variable {P:Type} (K:Kind P)
def Kind.row (ps:List P):List Value:=ps.flatMap K.cells

/-- The slice v reads as these elements. -/
def Kind.At (w:World) (v:Value) (ps:List P):Prop:=∃ a cap,v=.slice a ps.length cap∧Lies w a (K.row ps)∧∀ p∈ps,K.rd w p

/-- The slice v owns these elements. -/
def Kind.Own (w:World) (v:Value) (ps:List P):Prop:=w.ownsRow 0 K.ty K.size v ps.length (K.row ps)∧∀ p∈ps,K.own w p

/-- All blocks beneath a slice. -/
def Kind.fp (v:Value) (ps:List P):List Nat:=blk v ++ ps.flatMap K.foot

end
section
variable {P:Type} {K:Kind P} {w w' : World} {v:Value} {ps:List P}
theorem Kind.row_length (ps:List P):(K.row ps).length=ps.length * K.size:=by
 induction ps with
 | nil=>simp [Kind.row]
 | cons p r ih=>
  simp only [Kind.row,List.flatMap_cons,List.length_append,K.len,List.length_cons] at ih ⊢
  rw [ih,Nat.add_mul]
  omega

theorem Kind.row_get (ps:List P) (i:Nat) (hi:i < ps.length) (j:Nat) (hj:j < K.size):(K.row ps)[i * K.size + j]? = (K.cells ps[i])[j]? := by
 induction ps generalizing i with
 | nil=>simp at hi
 | cons p r ih=>
  simp only [Kind.row,List.flatMap_cons]
  cases i with
  | zero=>
   rw [List.getElem?_append_left (by rw [K.len];omega)]
   simp
  | succ i=>
   rw [List.getElem?_append_right (by rw [K.len,Nat.add_mul];omega),K.len]
   have:=ih i (by simpa using hi)
   simp only [Kind.row] at this
   rw [show (i + 1) * K.size + j - K.size=i * K.size + j by rw [Nat.add_mul];omega,this]
   simp

theorem Kind.Own.at (h:K.Own w v ps):K.At w v ps:=by
 obtain ⟨a,c,rfl⟩:=own_shape h.1
 exact ⟨a,c,rfl,Lies.own h.1,fun p hp=>K.own_rd (h.2 p hp)⟩

theorem Kind.At.below (h:K.At w v ps) (hb:Below w.heap.size w w'):K.At w' v ps:=by
 obtain ⟨a,c,e,hl,hr⟩:=h
 exact ⟨a,c,e,hl.below hb,fun p hp=>K.rd_below (hr p hp) hb⟩

theorem Kind.At.shape (h:K.At w v ps):∃ a cap,v=.slice a ps.length cap:=by
 obtain ⟨a,c,e,_⟩:=h
 exact ⟨a,c,e⟩

theorem Kind.Own.shape (h:K.Own w v ps):∃ a cap,v=.slice a ps.length cap:=own_shape h.1

theorem Kind.Own.out {F:List Nat} (h:K.Own w v ps) (ho:Out F w w') (hd:∀ k∈K.fp v ps,k ∉ F):K.Own w' v ps:=by
 refine ⟨own_outs h.1 ho (fun k hk=>hd k (by simp [Kind.fp,hk])),fun p hp=>K.own_out (h.2 p hp) ho (fun k hk=>hd k ?_)⟩
 simp only [Kind.fp,List.mem_append,List.mem_flatMap]
 exact Or.inr ⟨p,hp,hk⟩

theorem Kind.Own.below (h:K.Own w v ps) (hb:Below w.heap.size w w'):K.Own w' v ps:=h.out (Out.of_below (F:=[]) hb) (fun _ _=>by simp)

theorem Kind.Own.lt (h:K.Own w v ps):∀ k∈K.fp v ps,k < w.heap.size:=by
 intro k hk
 simp only [Kind.fp,List.mem_append,List.mem_flatMap] at hk
 rcases hk with hk | ⟨p,hp,hk⟩
 ·exact (h.1.lt k (by simpa [blk] using hk)).2
 ·exact K.own_lt (h.2 p hp) k hk

/-- The cells of element i, where the slice is read. -/
theorem Kind.At.cell {a:Option Addr} {n cap:Nat} (h:K.At w (.slice a n cap) ps) (hs:0 < K.size) (i:Nat) (hi:i < ps.length) :
  ∃ b off,a=some ⟨b,off,none⟩∧b < w.heap.size∧(∀ j x,(K.cells ps[i])[j]? = some x→w.cell? ⟨b,off + i * K.size + j,none⟩=some x)∧K.rd w ps[i]:=by
 obtain ⟨a',c,e,hl,hr⟩:=h
 simp only [Value.slice.injEq] at e
 obtain ⟨rfl,_,_⟩:=e
 rcases hl with h0 | ⟨b,off,ha,hlt,hc⟩
 ·have:=Kind.row_length (K:=K) ps
  rw [h0] at this
  simp only [List.length_nil] at this
  have h1:1 * K.size≤ps.length * K.size:=Nat.mul_le_mul_right _ (by omega)
  omega
 ·refine ⟨b,off,ha,hlt,fun j x hx=>?_,hr _ (List.getElem_mem hi)⟩
  have hj:j < K.size:=by rw [← K.len ps[i]];exact (List.getElem?_eq_some_iff.1 hx).1
  rw [show off + i * K.size + j=off + (i * K.size + j) by omega]
  exact hc _ _ (by rw [Kind.row_get ps i hi j hj];exact hx)

theorem Kind.Own.cell {g n cap:Nat} (h:K.Own w (.slice (some ⟨g,0,none⟩) n cap) ps) (i:Nat) (hi:i < ps.length) (j:Nat) (x:Value) (hx:(K.cells ps[i])[j]? = some x):w.cell? ⟨g,i * K.size + j,none⟩=some x∧w.frozen? ⟨g,i * K.size + j,none⟩=false:=by
 obtain ⟨a',c,e⟩:=h.shape
 simp only [Value.slice.injEq] at e
 obtain ⟨_,rfl,_⟩:=e
 have hj:j < K.size:=by rw [← K.len ps[i]];exact (List.getElem?_eq_some_iff.1 hx).1
 have hlt:i * K.size + j < ps.length * K.size:=by
  have:(i + 1) * K.size≤ps.length * K.size:=Nat.mul_le_mul_right _ (by omega)
  rw [Nat.add_mul] at this
  omega
 exact ⟨by rw [h.1.cellAt _ hlt,Kind.row_get ps i hi j hj];exact hx,h.1.frozenAt _⟩

/-- Cells that are written over from o on. -/
def setFrom (xs:List Value) (o:Nat):List Value→List Value
 | []=>xs
 | y :: ys=>setFrom (xs.set o y) (o + 1) ys

theorem setFrom_length (xs:List Value) (o:Nat) (ys:List Value):(setFrom xs o ys).length=xs.length:=by
 induction ys generalizing xs o with
 | nil=>rfl
 | cons y ys ih=>simp [setFrom,ih]

theorem setFrom_get (xs:List Value) (o:Nat) (ys:List Value) (j:Nat) (hj:j < xs.length):(setFrom xs o ys)[j]? = if o≤j∧j < o + ys.length then ys[j - o]? else xs[j]? := by
 induction ys generalizing xs o with
 | nil=>
  rw [if_neg (by simp only [List.length_nil];omega)]
  rfl
 | cons y ys ih=>
  rw [setFrom,ih (xs.set o y) (o + 1) (by simpa using hj)]
  by_cases h1:o + 1≤j∧j < o + 1 + ys.length
  ·rw [if_pos h1,if_pos (by simp;omega),show j - o=(j - (o + 1)) + 1 by omega]
   simp
  ·rw [if_neg h1,List.getElem?_set]
   by_cases h2:o=j
   ·subst h2
    rw [if_pos rfl,if_pos hj,if_pos (by simp)]
    simp
   ·rw [if_neg h2,if_neg (by simp;omega)]

theorem Kind.row_put (ps:List P) (i:Nat) (hi:i < ps.length) (p:P):setFrom (K.row ps) (i * K.size) (K.cells p)=K.row (ps.set i p):=by
 have hl:=Kind.row_length (K:=K) ps
 have hl2:=Kind.row_length (K:=K) (ps.set i p)
 rw [List.length_set] at hl2
 have hi2:(i + 1) * K.size≤ps.length * K.size:=Nat.mul_le_mul_right _ (by omega)
 rw [Nat.add_mul,Nat.one_mul] at hi2
 apply List.ext_getElem?
 intro j
 by_cases hj:j < ps.length * K.size
 ·rw [setFrom_get _ _ _ _ (by omega),K.len]
  have hs:0 < K.size:=by
   rcases Nat.eq_zero_or_pos K.size with h0 | h0
   ·rw [h0] at hj;simp at hj
   ·exact h0
  have hd:=Nat.div_add_mod j K.size
  have hm:=Nat.mod_lt j hs
  have hq:j / K.size < ps.length:=Nat.div_lt_of_lt_mul (by rw [Nat.mul_comm];exact hj)
  have e:j=j / K.size * K.size + j % K.size:=by rw [Nat.mul_comm];exact hd.symm
  have e2:=Kind.row_get (K:=K) (ps.set i p) (j / K.size) (by simpa using hq) (j % K.size) hm
  rw [← e] at e2
  have e3:=Kind.row_get (K:=K) ps (j / K.size) hq (j % K.size) hm
  rw [← e] at e3
  rw [e2,e3]
  by_cases hk:j / K.size=i
  ·subst hk
   rw [if_pos (by omega)]
   simp only [List.getElem_set_self]
   congr 1
   omega
  ·have hne:¬ (i * K.size≤j∧j < i * K.size + K.size):=by
    rintro ⟨h1,h2⟩
    apply hk
    exact Nat.div_eq_of_lt_le (by omega) (by rw [Nat.add_mul];omega)
   rw [if_neg hne,List.getElem_set_ne (Ne.symm hk)]
 ·rw [List.getElem?_eq_none (by rw [setFrom_length];omega),List.getElem?_eq_none (by omega)]

theorem Kind.row_store (ps:List P) (i:Nat) (hi:i < ps.length) (p:P) (j:Nat) (u:Value) (hc:K.cells p=(K.cells ps[i]).set j u) (hj:j < K.size):(K.row ps).set (i * K.size + j) u=K.row (ps.set i p):=by
 rw [← Kind.row_put ps i hi p,hc]
 have hl:=Kind.row_length (K:=K) ps
 have hi2:(i + 1) * K.size≤ps.length * K.size:=Nat.mul_le_mul_right _ (by omega)
 rw [Nat.add_mul,Nat.one_mul] at hi2
 apply List.ext_getElem?
 intro k
 by_cases hk:k < ps.length * K.size
 ·rw [setFrom_get _ _ _ _ (by omega),List.length_set,K.len,List.getElem?_set]
  by_cases h1:i * K.size + j=k
  ·subst h1
   rw [if_pos rfl,if_pos (by omega),if_pos (by omega),List.getElem?_set,if_pos (by omega),if_pos (by rw [K.len];omega)]
  ·rw [if_neg h1]
   by_cases h2:i * K.size≤k∧k < i * K.size + K.size
   ·rw [if_pos h2,List.getElem?_set,if_neg (by omega)]
    have:=Kind.row_get (K:=K) ps i hi (k - i * K.size) (by omega)
    rw [show i * K.size + (k - i * K.size)=k by omega] at this
    exact this
   ·rw [if_neg h2]
 ·rw [List.getElem?_eq_none (by simp;omega),List.getElem?_eq_none (by rw [setFrom_length];omega)]

theorem foot_set (ps:List P) (i:Nat) (hi:i < ps.length) (p:P) (hf:K.foot p=K.foot ps[i]):(ps.set i p).flatMap K.foot=ps.flatMap K.foot:=by
 induction ps generalizing i with
 | nil=>simp at hi
 | cons q r ih=>
  cases i with
  | zero=>simp only [List.set_cons_zero,List.flatMap_cons,hf,List.getElem_cons_zero]
  | succ i=>simp only [List.set_cons_succ,List.flatMap_cons,ih i (by simpa using hi) (by simpa using hf)]

theorem Kind.fp_set (v:Value) (ps:List P) (i:Nat) (hi:i < ps.length) (p:P) (hf:K.foot p=K.foot ps[i]):K.fp v (ps.set i p)=K.fp v ps:=by
 simp only [Kind.fp,foot_set ps i hi p hf]

theorem foot_apart {ps:List P} (h:(ps.flatMap K.foot).Nodup) (i:Nat) (hi:i < ps.length) (j:Nat) (hj:j < ps.length) (hne:i≠j):∀ k∈K.foot ps[j],k ∉ K.foot ps[i]:=by
 induction ps generalizing i j with
 | nil=>simp at hi
 | cons p r ih=>
  rw [List.flatMap_cons,List.nodup_append] at h
  obtain ⟨_,h2,h3⟩:=h
  intro k hk hk2
  cases i with
  | zero=>
   cases j with
   | zero=>exact hne rfl
   | succ j=>
    simp only [List.getElem_cons_succ,List.getElem_cons_zero] at hk hk2
    exact h3 k hk2 k (List.mem_flatMap.2 ⟨_,List.getElem_mem (by simpa using hj),hk⟩) rfl
  | succ i=>
   cases j with
   | zero=>
    simp only [List.getElem_cons_succ,List.getElem_cons_zero] at hk hk2
    exact h3 k hk k (List.mem_flatMap.2 ⟨_,List.getElem_mem (by simpa using hi),hk2⟩) rfl
   | succ j=>
    simp only [List.getElem_cons_succ] at hk hk2
    exact ih h2 i (by simpa using hi) j (by simpa using hj) (by omega) k hk hk2

/-- One element is written over, its blocks and its other cells as they were. -/
theorem Kind.Own.store {g n cap:Nat} (h:K.Own w (.slice (some ⟨g,0,none⟩) n cap) ps) (hnd:(K.fp (.slice (some ⟨g,0,none⟩) n cap) ps).Nodup) (i:Nat) (hi:i < ps.length) (p:P) (j:Nat) (u:Value) (hj:j < K.size)
  (hc:K.cells p=(K.cells ps[i]).set j u) (hf:K.foot p=K.foot ps[i]) (hown:∀ w',K.own w' ps[i]→K.own w' p) :
  K.Own (w.setCell ⟨g,i * K.size + j,none⟩ u) (.slice (some ⟨g,0,none⟩) n cap) (ps.set i p)∧K.fp (.slice (some ⟨g,0,none⟩) n cap) (ps.set i p)=K.fp (.slice (some ⟨g,0,none⟩) n cap) ps:=by
 obtain ⟨a',c,e⟩:=h.shape
 simp only [Value.slice.injEq] at e
 obtain ⟨_,rfl,_⟩:=e
 refine ⟨⟨?_,?_⟩,Kind.fp_set _ ps i hi p hf⟩
 ·have h1:=(h.1.stored (i * K.size + j) u).1
  rw [Kind.row_store ps i hi p j u hc hj] at h1
  rw [List.length_set]
  exact h1
 ·have hg:∀ q∈ps,∀ k∈K.foot q,k ∉ [g]:=by
   intro q hq k hk
   simp only [Kind.fp,blk,Value.ownBlock,Option.toList,List.cons_append,List.nil_append,List.nodup_cons] at hnd
   simp only [List.mem_singleton]
   rintro rfl
   exact hnd.1 (List.mem_flatMap.2 ⟨q,hq,hk⟩)
  have hall:∀ q∈ps,K.own (w.setCell ⟨g,i * K.size + j,none⟩ u) q:=fun q hq=>K.own_out (h.2 q hq) (Out.setCell w g _ u) (hg q hq)
  intro q hq
  rcases List.mem_or_eq_of_mem_set hq with hq | rfl
  ·exact hall q hq
  ·exact hown _ (hall _ (List.getElem_mem hi))

/-- What lies beneath one element turns. -/
theorem Kind.Own.turn (h:K.Own w v ps) (hnd:(K.fp v ps).Nodup) (i:Nat) (hi:i < ps.length) (p:P) {F:List Nat} (ho:Out F w w') (hF:∀ k∈F,k∈K.foot ps[i])
  (hc:K.cells p=K.cells ps[i]) (hf:K.foot p=K.foot ps[i]) (hown:K.own w' p):K.Own w' v (ps.set i p)∧K.fp v (ps.set i p)=K.fp v ps:=by
 have hnd2:=hnd
 simp only [Kind.fp] at hnd2
 rw [List.nodup_append] at hnd2
 refine ⟨⟨?_,?_⟩,Kind.fp_set _ ps i hi p hf⟩
 ·have e:K.row (ps.set i p)=K.row ps:=by
   rw [← Kind.row_put ps i hi p,hc,Kind.row_put ps i hi ps[i],List.set_getElem_self]
  rw [e,List.length_set]
  refine own_outs h.1 ho (fun k hk hkF=>?_)
  exact hnd2.2.2 k hk k (List.mem_flatMap.2 ⟨ps[i],List.getElem_mem hi,hF k hkF⟩) rfl
 ·intro q hq
  obtain ⟨j,hj,rfl⟩:=List.getElem_of_mem hq
  rw [List.length_set] at hj
  by_cases hij:i=j
  ·subst hij
   rw [List.getElem_set_self]
   exact hown
  ·rw [List.getElem_set_ne hij]
   exact K.own_out (h.2 _ (List.getElem_mem hj)) ho (fun k hk hkF=>foot_apart hnd2.2.1 i hi j hj hij k hk (hF k hkF))

/-- A whole element is written over by a new one. -/
theorem Kind.Own.put {g n cap:Nat} (h:K.Own w (.slice (some ⟨g,0,none⟩) n cap) ps) (i:Nat) (hi:i < ps.length) (p:P) (hrow:w'.ownsRow 0 K.ty K.size (.slice (some ⟨g,0,none⟩) n cap) ps.length (setFrom (K.row ps) (i * K.size) (K.cells p)))
  (ho:Out [g] w w') (hg:∀ q∈ps,∀ k∈K.foot q,k≠g) (hown:K.own w p) (hp:∀ k∈K.foot p,k≠g):K.Own w' (.slice (some ⟨g,0,none⟩) n cap) (ps.set i p):=by
 rw [Kind.row_put ps i hi p] at hrow
 refine ⟨by rw [List.length_set];exact hrow,fun q hq=>?_⟩
 rcases List.mem_or_eq_of_mem_set hq with hq | rfl
 ·exact K.own_out (h.2 q hq) ho (fun k hk=>by simpa using hg q hq k hk)
 ·exact K.own_out hown ho (fun k hk=>by simpa using hp k hk)

def nmL (nm:P→Nat) (ps:List P):Nat:=(ps.map nm).sum

theorem nmL_succ (nm:P→Nat) (ps:List P) (k:Nat) (h:k < ps.length):nmL nm (ps.take (k + 1))=nmL nm (ps.take k) + nm ps[k]:=by
 rw [List.take_succ_eq_append_getElem h]
 simp only [nmL,List.map_append,List.map_cons,List.map_nil,List.sum_append,List.sum_cons,List.sum_nil,Nat.add_zero]

theorem nmL_le (nm:P→Nat) (ps:List P) (k:Nat):nmL nm (ps.take k)≤nmL nm ps:=by
 have e:nmL nm ps=nmL nm (ps.take k) + nmL nm (ps.drop k):=by
  conv=>lhs;rw [← List.take_append_drop k ps]
  simp only [nmL,List.map_append,List.sum_append]
 omega

end
end Go.Proofs.YtfdkcbafpiojkaaGreatDoor
namespace Go.Proofs.YtfdkcbafpiojkaaGreatDoor
open Go.RowKit
set_option maxRecDepth 100000
section
variable {P:Type} {K:Kind P} {w w' : World} {v:Value} {ps:List P}
theorem made_row (z:P) (n:Nat) (hs:0 < K.size):(madeCells (K.cells z).toArray (n * K.size)).toList=K.row (List.replicate n z):=by
 have hl:=Kind.row_length (K:=K) (List.replicate n z)
 rw [List.length_replicate] at hl
 apply List.ext_getElem?
 intro j
 by_cases hj:j < n * K.size
 ·have hm:=Nat.mod_lt j hs
  have hq:j / K.size < n:=Nat.div_lt_of_lt_mul (by rw [Nat.mul_comm];exact hj)
  have e:j=j / K.size * K.size + j % K.size:=by rw [Nat.mul_comm];exact (Nat.div_add_mod j K.size).symm
  have e2:=Kind.row_get (K:=K) (List.replicate n z) (j / K.size) (by simpa using hq) (j % K.size) hm
  rw [← e] at e2
  rw [e2]
  have hz:(K.cells z).length=K.size:=K.len z
  simp only [madeCells,Array.toList_map,Array.toList_range,List.getElem?_map,List.getElem?_range hj,Option.map_some,List.size_toArray,hz,List.getElem_replicate]
  rw [List.getElem!_toArray,List.getElem?_eq_getElem (by omega),getElem!_pos (K.cells z) (j % K.size) (by omega)]
 ·rw [List.getElem?_eq_none (by simp [size_madeCells];omega),List.getElem?_eq_none (by omega)]

theorem fp_new {z:P} {n g cap:Nat} (hz:K.foot z=[]):K.fp (.slice (some ⟨g,0,none⟩) n cap) (List.replicate n z)=[g]:=by
 have:(List.replicate n z).flatMap K.foot=[]:=by
  rw [List.flatMap_eq_nil_iff]
  intro x hx
  rw [(List.mem_replicate.1 hx).2,hz]
 simp [Kind.fp,blk,Value.ownBlock,this]

end
theorem Out.set {F:List Nat} {w W:World} {b j:Nat} {u:Value} (h:Out F w W) (hb:b∈F):Out F w (W.setCell ⟨b,j,none⟩ u):=h.trans ((Out.setCell W b j u).mono (fun k hk=>by simp only [List.mem_singleton] at hk;rw [hk];exact hb))

theorem Out.call {F:List Nat} {w W W' : World} (h:Out F w W) (hb:Below W.heap.size W W'):Out F w W' := h.trans (Out.of_below hb)

theorem Below.call {B:Nat} {w W W' : World} (h:Below B w W) (hs:B≤W.heap.size) (hb:Below W.heap.size W W'):Below B w W' := h.trans (hb.mono hs)

end Go.Proofs.YtfdkcbafpiojkaaGreatDoor
namespace Go.Proofs.YtfdkcbafpiojkaaGreatDoor
open Go.RowKit
set_option maxRecDepth 100000
theorem infoI64:(Tryz.prog.info? 2).map (fun i=>(i.zero,i.size,i.bytes))=some (some (.int .i64 0),1,8):=by kernel_rfl

end Go.Proofs.YtfdkcbafpiojkaaGreatDoor
namespace Go.Proofs.YtfdkcbafpiojkaaGreatDoor
open Go.RowKit
set_option maxRecDepth 100000
/-- The worlds that have new memory alone beside w. -/
structure Lat (w:World) where
 val:World
 isBelow:Below w.heap.size w val

/-- The worlds that are as w below B. -/
structure LatB (B:Nat) (w:World) where
 val:World
 isBelow:Below B w val

/-- Operations that yield one value and nothing else. -/
def plainB:Op→Bool
 | .move _=>true
 | .assign _=>true
 | .pick _ _ _=>true
 | .load _ _=>true
 | .fieldAddr _ _ _=>true
 | .field _ _ _=>true
 | .binOp _ _ _ _ _=>true
 | .unOp _ _ _=>true
 | .convert _ _ _=>true
 | .indexAddr _ _ _=>true
 | .extract _ _=>true
 | .nilCheck _=>true
 | .build _ _=>true
 | _=>false

theorem value_of_bind {P:Program} {s:Sem Value} {w w' : World} {n:Next} (h:(do let x ← s;pure (Next.value x):Sem Next).run P w=.ok n w'):∃ v,n=.value v:=by
 rw [Sem.run_bind] at h
 cases hs:s.run P w with
 | ok x w1=>
  rw [hs] at h
  simp [Result.andThen,Sem.run_pure] at h
  exact ⟨x,h.1.symm⟩
 | halt x w1=>
  rw [hs] at h
  simp [Result.andThen] at h

theorem value_of_nil {P:Program} {g:Program→Sem (Option Bool)} {u:Unsupported} {x:Value} {w w' : World} {n:Next}
  (h:(do let p ← program;let r ← g p;if (r != some false)=true then do unsupported u;pure (Next.value x) else pure (Next.value x):Sem Next).run P w=.ok n w'):∃ v,n=.value v:=by
 simp only [Sem.run_bind,run_program,Result.andThen_ok] at h
 cases hs:(g P).run P w with
 | ok r w1=>
  rw [hs] at h
  simp only [Result.andThen_ok] at h
  split at h
  ·rw [Sem.run_bind] at h
   cases hu:(unsupported u:Sem Unit).run P w1 with
   | ok r w2=>rw [hu] at h;simp [Sem.run_pure] at h;exact ⟨_,h.1.symm⟩
   | halt r w2=>rw [hu] at h;simp [Result.andThen] at h
  ·simp [Sem.run_pure] at h;exact ⟨_,h.1.symm⟩
 | halt r w1=>rw [hs] at h;simp [Result.andThen] at h

theorem plain_value {P:Program} {o:Oper} {ρ:Operand→Value} {w w' : World} {n:Next} (hp:plainB o.op=true) (h:(execOp ρ o).run P w=.ok n w'):∃ v,n=.value v:=by
  unfold execOp at h
  cases hop:o.op <;> rw [hop] at hp <;> simp only [plainB,Bool.false_eq_true] at hp <;> rw [hop] at h <;> dsimp only at h
  all_goals first
    | exact value_of_bind h
    | (simp [Sem.run_pure] at h;exact ⟨_,h.1.symm⟩)
    | (split at h
       all_goals first
         | (simp [Sem.run_pure] at h;exact ⟨_,h.1.symm⟩)
         | (simp [go_sem] at h;done)
         | (split at h
            all_goals first
              | (simp [Sem.run_pure] at h;exact ⟨_,h.1.symm⟩)
              | (simp [go_sem] at h;done)
              | (exact value_of_nil (g:=fun p=>nilAhead (p.types.size + Made.depth) _ _ _) h)))
    | (rw [Sem.run_bind] at h
       revert h
       cases (asBool (ρ _)).run P w with
       | ok x w1=>intro h;simp [Result.andThen,Sem.run_pure] at h;exact ⟨_,h.1.symm⟩
       | halt x w1=>intro h;simp [Result.andThen] at h)

section
variable {P:Program} {ops:Array Oper} {Q:Exit→Act→World→Prop} {S:World→Prop}
/-- These may come up one behind the other, each ahead of all that has not come up. -/
def okSeg (ops:Array Oper):List Nat→Array Bool→Bool
 | [],_=>true
 | i :: r,l=>Region.free .any ops l i && (Region.ready .any ops l).contains i && okSeg ops r (l.setIfInBounds i true)

/-- What has come up behind these. -/
def upTo:List Nat→Array Bool→Array Bool
 | [],l=>l
 | i :: r,l=>upTo r (l.setIfInBounds i true)

/-- The numbers, and the operations, of ranges (from, how many). -/
def idxR (rs:List (Nat × Nat)):List Nat:=rs.flatMap fun r=>(List.range r.2).map (r.1 + ·)

def pickR (l:List Oper) (rs:List (Nat × Nat)):List Oper:=rs.flatMap fun r=>(l.drop r.1).take r.2

theorem seg_sound (hs:Region.noSelect ops=true) (hQ:∀ c a d v w,Q (.panic c) (a.put d v) w→Q (.panic c) a w) :
  ∀ (idx:List Nat) (os:List Oper) (l:Array Bool) (a:Act) (w:World) (fuel:Nat),idx.map (ops[·]?)=os.map some→os.all (fun o=>plainB o.op)=true→okSeg ops idx l=true→S w →
   wpQuiet P ops S (fun a' => wpAnyH P .any ops Q S fuel (upTo idx l) a' w) os a→wpAnyH P .any ops Q S (fuel + idx.length) l a w:=by
 intro idx
 induction idx with
 | nil=>
  intro os l a w fuel hos _ _ _ h
  cases os with
  | nil=>exact h
  | cons o os=>simp at hos
 | cons i r ih=>
  intro os l a w fuel hos hpl hok hS h
  cases os with
  | nil=>simp at hos
  | cons o os=>
   simp only [List.map_cons,List.cons.injEq] at hos
   simp only [List.all_cons,Bool.and_eq_true] at hpl
   simp only [okSeg,Bool.and_eq_true] at hok
   obtain ⟨⟨hf,hr⟩,hok'⟩:=hok
   simp only [wpQuiet] at h
   by_cases hw:Region.wanted o (yielded ops a.tmps)=true
   ·rw [if_pos hw] at h
    obtain ⟨v,hv,hk⟩:=h
    refine wpAnyH_take (i:=i) (oi:=o) (v:=v) hos.1 hs hf hr (fun c a w=>hQ c a _ _ w) (Or.inl ⟨hw,fun u hu=>?_⟩) hS (ih os _ _ w fuel hos.2 hpl.2 hok' hS hk)
    have hq:=hv u hu
    unfold Oper.quietAt at hq
    cases hrun:(execOp a.eval o).run P u with
    | ok n u' =>
     obtain ⟨x,rfl⟩:=plain_value hpl.1 hrun
     rw [hrun] at hq
     obtain ⟨e1,e2⟩:=hq
     rw [e1,e2]
    | halt x u' =>
     rw [hrun] at hq
     exact hq.elim
   ·rw [if_neg hw] at h
    have hw' : Region.wanted o (yielded ops a.tmps)=false:=by simpa using hw
    exact wpAnyH_take (i:=i) (oi:=o) (v:=undef) hos.1 hs hf hr (fun c a w=>hQ c a _ _ w) (Or.inr ⟨hw',rfl⟩) hS (ih os _ _ w fuel hos.2 hpl.2 hok' hS h)

/-- An operation whose guard says no. -/
theorem skip_sound (hs:Region.noSelect ops=true) (hQ:∀ c a d v w,Q (.panic c) (a.put d v) w→Q (.panic c) a w) (i:Nat) (d:Option Tmp) {l:Array Bool} {a:Act} {w:World} {fuel:Nat}
  (hd:(ops[i]?).map (·.dst)=some d) (hok:okSeg ops [i] l=true) (hw:(ops[i]?).map (fun o=>Region.wanted o (yielded ops a.tmps))=some false) (hS:S w)
  (h:wpAnyH P .any ops Q S fuel (upTo [i] l) (a.put d undef) w):wpAnyH P .any ops Q S (fuel + 1) l a w:=by
 cases ho:ops[i]? with
 | none=>rw [ho] at hd;simp at hd
 | some o=>
  rw [ho] at hd hw
  simp only [Option.map_some,Option.some.injEq] at hd hw
  subst hd
  simp only [okSeg,Bool.and_eq_true,Bool.and_true] at hok
  exact wpAnyH_take (i:=i) (oi:=o) (v:=undef) ho hs hok.1 hok.2 (fun c a w=>hQ c a _ _ w) (Or.inr ⟨hw,rfl⟩) hS h

/-- A call that alone may come up: by its contract, S shown anew. -/
theorem call_sound (i:Nat) (d:Option Tmp) (f:Nat) (args:Array Value) {l:Array Bool} {a:Act} {w:World} {fuel:Nat}
  (hd:(ops[i]?).map (·.dst)=some d) (hr:Region.ready .any ops l=[i]) (hw:(ops[i]?).map (fun o=>Region.wanted o (yielded ops a.tmps))=some true)
  (hrun:(ops[i]?).map (fun o=>(execOp a.eval o).run P w)=some (.ok (.enter f args) w))
  (hc:Calls P f args w (fun e w' => ∃ v,e=.returned v∧S w' ∧ wpAnyH P .any ops Q S fuel (upTo [i] l) (a.put d v) w')):wpAnyH P .any ops Q S (fuel + 1) l a w:=by
 cases ho:ops[i]? with
 | none=>rw [ho] at hd;simp at hd
 | some o=>
  rw [ho] at hd hw hrun
  simp only [Option.map_some,Option.some.injEq] at hd hw hrun
  subst hd
  refine wpAnyH_all hr (by simp) (fun j hj=>?_)
  simp only [List.mem_singleton] at hj
  subst hj
  unfold wpOp
  simp only [ho,hw,if_true]
  refine .inl ?_
  unfold Oper.wp
  rw [hrun]
  simp only [Oper.upon]
  refine hc.mono fun e w' he=>?_
  obtain ⟨v,rfl,h1,h2⟩:=he
  exact ⟨h1,h2⟩

/-- The same over ranges; the fuel as it stands. -/
theorem seg_range (rs:List (Nat × Nat)) (fuel:Nat) {F:Nat} {l:Array Bool} {a:Act} {w:World} (hF:F=fuel + (idxR rs).length) (hs:Region.noSelect ops=true) (hm:(idxR rs).map (ops[·]?)=(pickR ops.toList rs).map some)
  (hp:(pickR ops.toList rs).all (fun o=>plainB o.op)=true) (hok:okSeg ops (idxR rs) l=true) (hS:S w)
  (h:wpQuiet P ops S (fun a' => wpAnyH P .any ops (NoPanic Q) S fuel (upTo (idxR rs) l) a' w) (pickR ops.toList rs) a):wpAnyH P .any ops (NoPanic Q) S F l a w:=by
 subst hF
 exact seg_sound hs (fun _ _ _ _ _ h=>h) (idxR rs) _ l a w fuel hm hp hok hS h

theorem skip_at (i:Nat) (d:Option Tmp) (fuel:Nat) {F:Nat} {l:Array Bool} {a:Act} {w:World} (hF:F=fuel + 1) (hs:Region.noSelect ops=true)
  (hd:(ops[i]?).map (·.dst)=some d) (hok:okSeg ops [i] l=true) (hw:(ops[i]?).map (fun o=>Region.wanted o (yielded ops a.tmps))=some false) (hS:S w)
  (h:wpAnyH P .any ops (NoPanic Q) S fuel (upTo [i] l) (a.put d undef) w):wpAnyH P .any ops (NoPanic Q) S F l a w:=by
 subst hF
 exact skip_sound hs (fun _ _ _ _ _ h=>h) i d hd hok hw hS h

theorem call_at (i:Nat) (d:Option Tmp) (f:Nat) (args:Array Value) (fuel:Nat) {F:Nat} {l:Array Bool} {a:Act} {w:World} (hF:F=fuel + 1)
  (hd:(ops[i]?).map (·.dst)=some d) (hr:Region.ready .any ops l=[i]) (hw:(ops[i]?).map (fun o=>Region.wanted o (yielded ops a.tmps))=some true)
  (hrun:(ops[i]?).map (fun o=>(execOp a.eval o).run P w)=some (.ok (.enter f args) w))
  (hc:Calls P f args w (fun e w' => ∃ v,e=.returned v∧S w' ∧ wpAnyH P .any ops (NoPanic Q) S fuel (upTo [i] l) (a.put d v) w')):wpAnyH P .any ops (NoPanic Q) S F l a w:=by
 subst hF
 exact call_sound i d f args hd hr hw hrun hc

/-- What one operation of a region is to come to. -/
def ThenGo (Q:Exit→Act→World→Prop) (K:Act→World→Prop):Exit→Act→World→Prop
 | .normal,a,w=>K a w
 | e,a,w=>NoPanic Q e a w

theorem ThenGo.to {K:Act→World→Prop} {a:Act} {w:World} (h:K a w):ThenGo Q K .normal a w:=h

/-- An operation that alone may come up, whatever it does: walked as a list of one. -/
theorem one_at (i:Nat) (o:Oper) (fuel:Nat) {F:Nat} {l:Array Bool} {a:Act} {w:World} (hF:F=fuel + 1) (ho:ops[i]? = some o) (hr:Region.ready .any ops l=[i])
  (h:wpList P ops (ThenGo Q (fun a' w' => S w' ∧ wpAnyH P .any ops (NoPanic Q) S fuel (upTo [i] l) a' w')) [o] a w):wpAnyH P .any ops (NoPanic Q) S F l a w:=by
 subst hF
 refine wpAnyH_all hr (by simp) (fun j hj=>?_)
 simp only [List.mem_singleton] at hj
 subst hj
 unfold wpOp
 simp only [ho]
 simp only [wpList] at h
 split at h
 ·rename_i hw
  rw [if_pos hw]
  rcases h with h | ⟨h1,h2⟩
  ·left
   unfold Oper.wp at h ⊢
   revert h
   generalize (execOp a.eval o).run P w=r
   intro h
   unfold Oper.upon at h ⊢
   split at h
   ·exact h
   ·exact h
   ·exact h
   ·refine Calls.mono h fun e w' he=>?_
    cases e <;> exact he
   ·exact h
   ·exact h
   ·exact h
  ·exact Or.inr ⟨h1,h2⟩
 ·rename_i hw
  rw [if_neg hw]
  exact h

/-- All have come up. -/
theorem text_end {F:Nat} {l:Array Bool} {a:Act} {w:World} (hr:Region.ready .any ops l=[]) (h:Q .normal a w):wpAnyH P .any ops (NoPanic Q) S F l a w:=wpAnyH_done hr (NoPanic.normal h) F

/-- The beginning. -/
theorem text_begin {id:Nat} {a:Act} {w:World} (hm:P.follows .mixedOrders=true)
  (h:wpAnyH P .any ops (NoPanic Q) S ops.size (Array.replicate ops.size false) a w.drew):(Code.region id ops true).wp P Q a w:=
 wp_region_noPanic (wp_region_held hm h)

theorem noPanic_put:∀ c a d v w,NoPanic Q (.panic c) (Act.put a d v) w→NoPanic Q (.panic c) a w:=fun _ _ _ _ _ h=>h

end
end Go.Proofs.YtfdkcbafpiojkaaGreatDoor
namespace Go.Proofs.YtfdkcbafpiojkaaGreatDoor
open Go.RowKit
open Go.BigFrame
set_option maxRecDepth 100000
theorem lat_cell {w:World} {a:Addr} {v:Value} (h:w.cell? a=some v):∀ u:Lat w,u.val.cell? a=some v:=fun u=>by
 rw [u.isBelow.cell (World.block_lt_of_cell? w a h)];exact h

end Go.Proofs.YtfdkcbafpiojkaaGreatDoor
namespace Go.Proofs.YtfdkcbafpiojkaaGreatDoor
open Go.RowKit
set_option maxRecDepth 100000
theorem below_from {w W w' : World} (h:Below w.heap.size w W) (hb:Below W.heap.size W w'):Below w.heap.size w w' := h.trans (hb.mono h.size)

end Go.Proofs.YtfdkcbafpiojkaaGreatDoor
