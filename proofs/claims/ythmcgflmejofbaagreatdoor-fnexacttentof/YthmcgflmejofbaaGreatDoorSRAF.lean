/- Texts joined, with what the law reaches alone. -/
import Derived.Test.YthmcgflmejofbaaGreatDoorSRAE
import Derived.Maps.OwnSet
import Derived.Maps.Ext
import Derived.Lib.SlKeysI
import Derived.Test.YthmcgflmejofbaaGreatDoorSRAC
import Derived.Shelf.SlIterI.Nil
import Derived.Shelf.SortM.Plain
import Derived.Shelf.SortM.SortNone
import Derived.Test.YthmcgflmejofbaaGreatDoorProg
set_option linter.unusedVariables false
set_option linter.unusedSimpArgs false
namespace Go.Proofs.YthmcgflmejofbaaGreatDoor
open Go.RowKit Go.Maps
set_option maxRecDepth 100000
def hasI (xs:List ItemD) (k:Int):Bool:=xs.any (fun x=>x.key == k)

def valI (xs:List ItemD) (k:Int):Int:=match xs.find? (fun x=>x.key == k) with | some x=>x.val | none=>0

def insI (x:ItemD):List ItemD→List ItemD
 | []=>[x]
 | y :: r=>if x.key < y.key then x :: y :: r else y :: insI x r

def delI (xs:List ItemD) (k:Int):List ItemD:=xs.filter (fun y=>!(y.key == k))

def setI (xs:List ItemD) (x:ItemD):List ItemD:=insI x (delI xs x.key)

/-- Items that are right, however many. -/
structure Good (xs:List ItemD):Prop where
 rise:xs.Pairwise (fun a b=>a.key < b.key)
 key:∀ x∈xs,1≤x.key∧x.key≤20
 val:∀ x∈xs,-20000≤x.val∧x.val≤20000

theorem getD_mem {xs:List ItemD} {k:Nat} (h:k < xs.length):xs.getD k itemNo∈xs:=by simp [List.getD,h]

theorem good_of_F {xs:List ItemD} (h:itemsF xs=0):xs.length≤8∧Good xs:=by
 have h8:¬ 8 < xs.length:=by
  intro h8
  simp [itemsF,h8] at h
 have hz:=firstNZ_zero (itF xs) xs.length (by simpa [itemsF,h8] using h)
 have hw:∀ j,j < xs.length→(1≤(xs.getD j itemNo).key∧(xs.getD j itemNo).key≤20)∧(-20000≤(xs.getD j itemNo).val∧(xs.getD j itemNo).val≤20000)∧prevK xs j < (xs.getD j itemNo).key:=by
  intro j hj
  rcases itF_ways xs j with ⟨_,e⟩ | ⟨_,_,e⟩ | ⟨_,_,_,e⟩ | ⟨h1,h2,h3,e⟩
  ·rw [hz j hj] at e;simp at e
  ·rw [hz j hj] at e;simp at e
  ·rw [hz j hj] at e;simp at e
  ·simp [inW] at h1 h2
   exact ⟨by simpa using h1,by simpa using h2,by omega⟩
 have hmem:∀ x∈xs,∃ j,j < xs.length∧x=xs.getD j itemNo:=by
  intro x hx
  obtain ⟨j,hj,rfl⟩:=List.mem_iff_getElem.1 hx
  exact ⟨j,hj,by simp [List.getD,hj]⟩
 refine ⟨by omega,?_,?_,?_⟩
 ·have step:∀ j,j + 1 < xs.length→(xs.getD j itemNo).key < (xs.getD (j + 1) itemNo).key:=by
   intro j hj
   have:=(hw (j + 1) hj).2.2
   simpa [prevK] using this
  have far:∀ d j,j + d + 1 < xs.length→(xs.getD j itemNo).key < (xs.getD (j + d + 1) itemNo).key:=by
   intro d
   induction d with
   | zero=>intro j hj;exact step j hj
   | succ d ih=>
    intro j hj
    have h1:=ih j (by omega)
    have h2:=step (j + d + 1) (by omega)
    rw [show j + (d + 1) + 1=j + d + 1 + 1 by omega]
    omega
  rw [List.pairwise_iff_getElem]
  intro i j hi hj hij
  have:=far (j - i - 1) i (by omega)
  rw [show i + (j - i - 1) + 1=j by omega] at this
  simpa [List.getD,hi,hj] using this
 ·intro x hx
  obtain ⟨j,hj,rfl⟩:=hmem x hx
  exact (hw j hj).1
 ·intro x hx
  obtain ⟨j,hj,rfl⟩:=hmem x hx
  exact (hw j hj).2.1

theorem F_of_good {xs:List ItemD} (hl:xs.length≤8) (g:Good xs):itemsF xs=0:=by
 unfold itemsF
 rw [if_neg (by omega)]
 refine firstNZ_none _ _ ?_
 intro j hj
 have hm:=getD_mem hj
 have hk:=g.key _ hm
 have hv:=g.val _ hm
 have hp:prevK xs j < (xs.getD j itemNo).key:=by
  unfold prevK
  split
  ·omega
  ·have:=(List.pairwise_iff_getElem.1 g.rise) (j - 1) j (by omega) hj (by omega)
   simpa [List.getD,hj,show j - 1 < xs.length by omega] using this
 have hw:=itF_ways xs j
 generalize xs.getD j itemNo=x at hk hv hp hw
 rcases hw with ⟨h1,_⟩ | ⟨_,h2,_⟩ | ⟨_,_,h3,_⟩ | ⟨_,_,_,e⟩
 ·simp [inW] at h1;omega
 ·simp [inW] at h2;omega
 ·omega
 ·exact e

theorem mem_insI {x y:ItemD}:∀ {l:List ItemD},y∈insI x l↔y=x∨y∈l
 | []=>by simp [insI]
 | z :: r=>by
  simp only [insI]
  split
  ·simp
  ·simp only [List.mem_cons,mem_insI (l:=r)]
   constructor
   ·rintro (h | h | h) <;> simp [h]
   ·rintro (h | h | h) <;> simp [h]

theorem insI_rise {x:ItemD}:∀ {l:List ItemD},l.Pairwise (fun a b=>a.key < b.key)→(∀ y∈l,y.key≠x.key)→(insI x l).Pairwise (fun a b=>a.key < b.key)
 | [],_,_=>by simp [insI]
 | z :: r,h,hne=>by
  rw [List.pairwise_cons] at h
  simp only [insI]
  split
  ·rename_i hlt
   rw [List.pairwise_cons]
   refine ⟨?_,List.pairwise_cons.2 h⟩
   intro y hy
   rcases List.mem_cons.1 hy with rfl | hy
   ·exact hlt
   ·have:=h.1 y hy;omega
  ·rename_i hlt
   rw [List.pairwise_cons]
   refine ⟨?_,insI_rise h.2 (fun y hy=>hne y (by simp [hy]))⟩
   intro y hy
   rcases mem_insI.1 hy with rfl | hy
   ·have:=hne z (by simp);omega
   ·exact h.1 y hy

theorem mem_delI {xs:List ItemD} {k:Int} {y:ItemD}:y∈delI xs k↔y∈xs∧y.key≠k:=by simp [delI]

theorem Good.del {xs:List ItemD} (g:Good xs) (k:Int):Good (delI xs k):=
 ⟨g.rise.filter _,fun x hx=>g.key x (mem_delI.1 hx).1,fun x hx=>g.val x (mem_delI.1 hx).1⟩

theorem Good.set {xs:List ItemD} (g:Good xs) {x:ItemD} (hk:1≤x.key∧x.key≤20) (hv:-20000≤x.val∧x.val≤20000):Good (setI xs x):=by
 refine ⟨insI_rise (g.del x.key).rise (fun y hy=>(mem_delI.1 hy).2),?_,?_⟩
 ·intro y hy
  rcases mem_insI.1 hy with rfl | hy
  ·exact hk
  ·exact g.key y (mem_delI.1 hy).1
 ·intro y hy
  rcases mem_insI.1 hy with rfl | hy
  ·exact hv
  ·exact g.val y (mem_delI.1 hy).1

theorem Good.valI {xs:List ItemD} (g:Good xs) (k:Int):-20000≤valI xs k∧valI xs k≤20000:=by
 unfold Go.Proofs.YthmcgflmejofbaaGreatDoor.valI
 cases h:xs.find? (fun x=>x.key == k) with
 | none=>simp
 | some x=>exact g.val x (List.mem_of_find?_eq_some h)

/-- Items as the map that holds them reads. -/
def litI (x:ItemD):Lit × DataW Unit:=(.int .i64 x.key,.lit (.int .i64 x.val))

def shelfD (xs:List ItemD):DataW Unit:=.map (xs.map litI)

theorem sameKey_i64 (a b:Int):(Lit.int .i64 a).sameKey (.int .i64 b)=(a == b):=by
 simp [Lit.sameKey]
 rfl

theorem shelf_size (xs:List ItemD):Maps.size (shelfD xs)=xs.length:=by simp [shelfD,Maps.size_eq]

theorem shelf_has (xs:List ItemD) (k:Int):Maps.has (shelfD xs) (.int .i64 k)=hasI xs k:=by
 rw [shelfD,Maps.has_eq,List.any_map]
 unfold hasI
 congr 1
 funext x
 exact sameKey_i64 x.key k

theorem shelf_at (xs:List ItemD) (k:Int):(shelfD xs).atKey (.int .i64 k) (.lit (.int .i64 0))=.lit (.int .i64 (valI xs k)):=by
 unfold shelfD DataW.atKey valI
 dsimp only
 rw [List.find?_map]
 have e:((fun p:Lit × DataW Unit=>p.1.sameKey (.int .i64 k)) ∘ litI)=fun x:ItemD=>x.key == k:=by
  funext x
  exact sameKey_i64 x.key k
 rw [e]
 cases xs.find? (fun x=>x.key == k) <;> rfl

theorem insert_map (x:ItemD):∀ l:List ItemD,DataW.insert (litI x) (l.map litI)=(insI x l).map litI
 | []=>rfl
 | y :: r=>by
  simp only [List.map_cons,DataW.insert,insI]
  have e:(litI x).1.before (litI y).1=decide (x.key < y.key):=rfl
  rw [e]
  by_cases h:x.key < y.key
  ·simp [h]
  ·simp [h,insert_map x r]

theorem filter_litI (xs:List ItemD) (k:Int):(xs.map litI).filter (fun p=>!p.1.sameKey (.int .i64 k))=(delI xs k).map litI:=by
 rw [List.filter_map,delI]
 congr 1
 congr 1
 funext x
 exact congrArg (!·) (sameKey_i64 x.key k)

theorem shelf_put (xs:List ItemD) (k v:Int):(shelfD xs).put (.int .i64 k) (.lit (.int .i64 v))=shelfD (setI xs ⟨k,v⟩):=by
 unfold shelfD DataW.put
 dsimp only
 rw [filter_litI,show ((Lit.int .i64 k,DataW.lit (Lit.int .i64 v)):Lit × DataW Unit)=litI ⟨k,v⟩ from rfl,insert_map]
 rfl

theorem shelf_del (xs:List ItemD) (k:Int):(shelfD xs).del (.int .i64 k)=shelfD (delI xs k):=by
 unfold shelfD DataW.del
 dsimp only
 rw [filter_litI]

theorem shelf_keys (xs:List ItemD):intKeys (shelfD xs)=xs.map ItemD.key:=by
 simp only [shelfD,intKeys,List.map_map]
 rfl

theorem shelf_tidy {xs:List ItemD} (h:xs.Pairwise (fun a b=>a.key < b.key)):Maps.Tidy (shelfD xs):=by
 refine ⟨_,rfl,?_⟩
 rw [List.pairwise_map]
 refine h.imp ?_
 intro a b hab e
 simp only [litI,Lit.int.injEq,true_and] at e
 omega

theorem setI_length {xs:List ItemD} (g:Good xs) (x:ItemD):(setI xs x).length=if hasI xs x.key then xs.length else xs.length + 1:=by
 have:=Maps.size_put (k:=.int .i64 x.key) (shelf_tidy g.rise) (.lit (.int .i64 x.val))
 rw [shelf_put,shelf_size,shelf_has,shelf_size] at this
 exact this

theorem delI_length (xs:List ItemD) (k:Int):(delI xs k).length≤xs.length:=List.length_filter_le _ _

/-- What the model's setting comes to, element by element. -/
def setR (x:ItemD):Bool→List ItemD→List ItemD
 | d,[]=>if d then [] else [x]
 | d,y :: r=>(if !d && decide (x.key≤y.key) then [x] else []) ++ ((if y.key == x.key then [] else [y]) ++ setR x (d || decide (x.key≤y.key)) r)

theorem setR_true (x:ItemD):∀ l:List ItemD,setR x true l=delI l x.key
 | []=>rfl
 | y :: r=>by
  have ih:=setR_true x r
  unfold delI at ih ⊢
  simp only [setR,Bool.not_true,Bool.false_and,Bool.true_or,List.filter_cons,ih]
  cases h:(y.key == x.key) <;> simp

theorem insI_low {x:ItemD}:∀ {l:List ItemD},(∀ y∈l,x.key < y.key)→insI x l=x :: l
 | [],_=>rfl
 | y :: r,h=>by simp [insI,h y (by simp)]

theorem setR_false (x:ItemD):∀ {l:List ItemD},l.Pairwise (fun a b=>a.key < b.key)→setR x false l=setI l x
 | [],_=>rfl
 | y :: r,h=>by
  rw [List.pairwise_cons] at h
  have ih:=setR_false x h.2
  simp only [setR,Bool.not_false,Bool.true_and,Bool.false_or]
  by_cases h1:y.key=x.key
  ·have e:(y.key == x.key)=true:=by simp [h1]
   have e2:decide (x.key≤y.key)=true:=by simp [h1]
   rw [e,e2,setR_true]
   unfold setI
   have e3:delI (y :: r) x.key=delI r x.key:=by simp [delI,h1]
   rw [e3,insI_low (fun z hz=>by have:=h.1 z (mem_delI.1 hz).1;omega)]
   simp
  ·have e:(y.key == x.key)=false:=by simp [h1]
   have e3:delI (y :: r) x.key=y :: delI r x.key:=by simp [delI,h1]
   by_cases h2:x.key≤y.key
   ·have e2:decide (x.key≤y.key)=true:=by simp [h2]
    rw [e,e2,setR_true]
    unfold setI
    rw [e3]
    simp [insI,show x.key < y.key by omega]
   ·have e2:decide (x.key≤y.key)=false:=by simp [h2]
    rw [e,e2,ih]
    unfold setI
    rw [e3]
    simp [insI,show ¬ x.key < y.key by omega]

/-- A number laid at a key: the code. -/
def layC (xs:List ItemD) (k v:Int):Int:=if inW v (-20000) 20000=false then 3 else if hasI xs k=false∧8≤xs.length then 7 else 0

/-- An act done: the code, and what is there then. -/
def actC (xs:List ItemD) (a:ActD):Int:=
 if a.kind=1 then layC xs a.key a.val else if a.kind=2 then layC xs a.key (valI xs a.key + a.val)
 else if a.kind=3 then (if hasI xs a.key=true then 0 else 4) else (if hasI xs a.key=true∧valI xs a.key=a.val then 0 else 9)

def actN (xs:List ItemD) (a:ActD):List ItemD:=
 if a.kind=1 then setI xs ⟨a.key,a.val⟩ else if a.kind=2 then setI xs ⟨a.key,valI xs a.key + a.val⟩ else if a.kind=3 then delI xs a.key else xs

theorem actF_zero {a:ActD} (h:actF a=0):(1≤a.kind∧a.kind≤4)∧(1≤a.key∧a.key≤20)∧(-1000≤a.val∧a.val≤1000):=by
 obtain ⟨k,y,v⟩:=a
 rcases actF_ways k y v with ⟨_,e⟩ | ⟨_,_,_,e⟩ | ⟨h1,_,⟨_,e⟩ | ⟨_,_,e⟩ | ⟨h4,h5,_⟩⟩
 ·rw [h] at e;simp at e
 ·rw [h] at e;simp at e
 ·rw [h] at e;simp at e
 ·rw [h] at e;simp at e
 ·simp [inW] at h1 h4 h5
  exact ⟨h1,h4,h5⟩

theorem lay_good {xs:List ItemD} {k v:Int} (hl:xs.length≤8) (g:Good xs) (hk:1≤k∧k≤20) (h:layC xs k v=0):(setI xs ⟨k,v⟩).length≤8∧Good (setI xs ⟨k,v⟩):=by
 unfold layC at h
 split at h
 ·simp at h
 ·rename_i hv
  split at h
  ·simp at h
  ·rename_i hh
   simp [inW] at hv
   refine ⟨?_,g.set hk (by simpa using hv)⟩
   rw [setI_length g]
   dsimp only
   cases e:hasI xs k
   ·simp [e] at hh ⊢;omega
   ·simp;omega

theorem act_good {xs:List ItemD} {a:ActD} (hl:xs.length≤8) (g:Good xs) (ha:actF a=0) (h:actC xs a=0):(actN xs a).length≤8∧Good (actN xs a):=by
 obtain ⟨hk,hy,hv⟩:=actF_zero ha
 unfold actC at h
 unfold actN
 split
 ·rename_i e;rw [if_pos e] at h;exact lay_good hl g hy h
 ·rename_i e;rw [if_neg e] at h
  split
  ·rename_i e;rw [if_pos e] at h;exact lay_good hl g hy h
  ·split
   ·exact ⟨Nat.le_trans (delI_length _ _) hl,g.del _⟩
   ·exact ⟨hl,g⟩

/-- Acts done one by one, up to the first code. -/
def runA:List ItemD→List ActD→Int × List ItemD
 | xs,[]=>(0,xs)
 | xs,a :: r=>if actC xs a=0 then runA (actN xs a) r else (actC xs a,[])

theorem run_good:∀ {zs:List ActD} {xs:List ItemD},xs.length≤8→Good xs→(∀ a∈zs,actF a=0)→(runA xs zs).1=0→(runA xs zs).2.length≤8∧Good (runA xs zs).2
 | [],xs,hl,g,_,_=>⟨hl,g⟩
 | a :: r,xs,hl,g,ha,h=>by
  simp only [runA] at h ⊢
  by_cases e:actC xs a=0
  ·rw [if_pos e] at h ⊢
   obtain ⟨h1,h2⟩:=act_good hl g (ha a (by simp)) e
   exact run_good h1 h2 (fun b hb=>ha b (by simp [hb])) h
  ·rw [if_neg e] at h
   exact absurd h e

theorem acts_of_F {i s q:Int} {zs:List ActD} (h:txnF i s q zs=0):(1≤zs.length∧zs.length≤4)∧∀ a∈zs,actF a=0:=by
 rcases txnF_ways i s q zs with ⟨_,e⟩ | ⟨_,_,e⟩ | ⟨_,_,_,e⟩ | ⟨_,_,_,⟨_,e⟩ | ⟨_,e⟩ | ⟨h4,h5,e⟩⟩
 ·rw [h] at e;simp at e
 ·rw [h] at e;simp at e
 ·rw [h] at e;simp at e
 ·rw [h] at e;simp at e
 ·rw [h] at e;simp at e
 ·refine ⟨by omega,?_⟩
  rw [h] at e
  have:∀ l:List ActD,actsF l=0→∀ a∈l,actF a=0:=by
   intro l
   induction l with
   | nil=>simp
   | cons x r ih=>
    intro h0 a ha
    simp only [actsF] at h0
    by_cases hx:actF x=0
    ·rw [if_pos hx] at h0
     rcases List.mem_cons.1 ha with rfl | ha
     ·exact hx
     ·exact ih h0 a ha
    ·rw [if_neg hx] at h0;exact absurd h0 hx
  exact this zs e.symm

end Go.Proofs.YthmcgflmejofbaaGreatDoor
namespace Go.Proofs.YthmcgflmejofbaaGreatDoor
open Go.RowKit
set_option maxRecDepth 100000
end Go.Proofs.YthmcgflmejofbaaGreatDoor
namespace Go.Proofs.YthmcgflmejofbaaGreatDoor
open Go.RowKit
set_option maxRecDepth 100000
/-- v owns its row, which lies in blocks from lo up to hi. -/
def OwnS (e size lo hi:Nat) (w:World) (v:Value) (n:Nat) (xs:List Value):Prop:=w.ownsRow lo e size v n xs∧∀ g,v.ownBlock=some g→g < hi

theorem OwnS.of {e size lo n:Nat} {w:World} {v:Value} {xs:List Value} (o:w.ownsRow lo e size v n xs):OwnS e size lo w.heap.size w v n xs:=⟨o,fun g hg=>(o.lt g hg).2⟩

theorem OwnS.below {e size lo hi n:Nat} {w w' : World} {v:Value} {xs:List Value} (o:OwnS e size lo hi w v n xs) (hb:Below w.heap.size w w'):OwnS e size lo hi w' v n xs:=⟨own_below o.1 hb,o.2⟩

theorem OwnS.only {e size lo hi n lo' hi' : Nat} {w w' : World} {v:Value} {xs:List Value} (o:OwnS e size lo hi w v n xs) (h:Only lo' hi' w w') (hh:hi' ≤ lo):OwnS e size lo hi w' v n xs:=⟨own_only o.1 h hh,o.2⟩

theorem OwnS.lies {e size lo hi n c:Nat} {w:World} {a:Option Addr} {xs:List Value} (o:OwnS e size lo hi w (.slice a n c) n xs):Lies w a xs:=Lies.own o.1

theorem OwnS.wide {e size lo hi n lo' hi' : Nat} {w:World} {v:Value} {xs:List Value} (o:OwnS e size lo hi w v n xs) (h:lo' ≤ lo) (hh:hi≤hi'):OwnS e size lo' hi' w v n xs:=⟨own_base o.1 h,fun g hg=>Nat.lt_of_lt_of_le (o.2 g hg) hh⟩

theorem OwnS.grown {e size lo hi n:Nat} {w w' : World} {v:Value} {xs:List Value} (o:OwnS e size lo hi w v n xs) (hg:w.grownBy w' v.ownBlock):Only lo hi w w' := only_of_grown hg (fun g h=>⟨(o.1.lt g h).1,o.2 g h⟩)

/-- Another list's marking leaves it, where the two lie in two blocks. -/
theorem OwnS.beside {e size lo hi n:Nat} {w w' : World} {v v' : Value} {xs:List Value} (o:OwnS e size lo hi w v n xs) (hg:w.grownBy w' v'.ownBlock) (h:v.ownBlock=none∨v.ownBlock≠v'.ownBlock):OwnS e size lo hi w' v n xs:=⟨o.1.kept hg h,o.2⟩

-- 31

theorem OwnTxns.only {lo hi lo' hi' : Nat} {w w' : World} {v:Value} {ds:List TxnD} (h:OwnTxns lo hi w v ds) (ho:Only lo' hi' w w') (hh:hi' ≤ lo):OwnTxns lo hi w' v ds:=by
 obtain ⟨g,cap,ps,e,hg,hd,o,hp⟩:=h
 exact ⟨g,cap,ps,e,hg,hd,own_only o ho hh,fun p hm=>⟨own_only (hp p hm).1 ho hh,(hp p hm).2⟩⟩

end Go.Proofs.YthmcgflmejofbaaGreatDoor
namespace Go.Proofs.YthmcgflmejofbaaGreatDoor
open Go.RowKit Go.Maps Go.Sort Go.Shelf
def shKeys_ren:Go.Shelf.Ren:=⟨fun | 7=>144 | 10=>183 | n=>n,fun | 23=>132 | 26=>2 | 3=>2 | 28=>210 | 0=>0 | 27=>209 | 33=>202 | 4=>4 | n=>n,fun | n=>n⟩

theorem shKeys:Go.Proofs.SlLaysZI.n7 Tryz.prog shKeys_ren:={
 mixed:=by kernel_rfl,
 f7:=⟨Tryz.f144.name,by decide,Tryz.func144.trans (congrArg some (by kernel_rfl))⟩,
 f10:=⟨Tryz.f183.name,by decide,Tryz.func183.trans (congrArg some (by kernel_rfl))⟩,
 t0:=Tryz.underlying0,
 a0:=Tryz.isAgg0,
 z0:=Tryz.sizeOf0,
 v0:=Tryz.zeroValue0,
 t4:=Tryz.underlying4,
 a4:=Tryz.isAgg4,
 z4:=Tryz.sizeOf4,
 v4:=Tryz.zeroValue4,
 t23:=Tryz.underlying132,
 a23:=Tryz.isAgg132,
 z23:=Tryz.sizeOf132,
 v23:=Tryz.zeroValue132,
 t26:=Tryz.underlying2,
 a26:=Tryz.isAgg2,
 z26:=Tryz.sizeOf2,
 v26:=Tryz.zeroValue2,
 t27:=Tryz.underlying209,
 a27:=Tryz.isAgg209,
 z27:=Tryz.sizeOf209,
 v27:=Tryz.zeroValue209,
 t28:=Tryz.underlying210,
 a28:=Tryz.isAgg210,
 z28:=Tryz.sizeOf210,
 v28:=Tryz.zeroValue210,
 t33:=Tryz.underlying202,
 a33:=Tryz.isAgg202,
 z33:=Tryz.sizeOf202,
 v33:=Tryz.zeroValue202 }

def shSorted_ren:Go.Shelf.Ren:=⟨fun | 6=>143 | 8=>181 | 9=>182 | 11=>200 | 13=>202 | 12=>201 | 23=>213 | 24=>214 | 14=>204 | 15=>205 | 16=>206 | 17=>207 | 18=>208 | 19=>209 | 20=>210 | 21=>211 | 22=>212 | 25=>215 | 26=>216 | 27=>217 | 28=>218 | 29=>219 | 30=>220 | 31=>221 | n=>n,fun | 26=>2 | 28=>210 | 24=>49 | 0=>0 | 3=>3 | 37=>278 | 48=>289 | 50=>291 | 4=>4 | 40=>281 | 39=>280 | 45=>286 | 5=>5 | 9=>9 | 51=>292 | 55=>296 | 57=>298 | 58=>299 | 33=>202 | n=>n,fun | n=>n⟩

theorem shSorted:Go.Proofs.SlLaysZI.n6 Tryz.prog shSorted_ren:={
 mixed:=by kernel_rfl,
 f6:=⟨Tryz.f143.name,by decide,Tryz.func143.trans (congrArg some (by kernel_rfl))⟩,
 f8:=⟨Tryz.f181.name,by decide,Tryz.func181.trans (congrArg some (by kernel_rfl))⟩,
 f11:=⟨Tryz.f200.name,by decide,Tryz.func200.trans (congrArg some (by kernel_rfl))⟩,
 t0:=Tryz.underlying0,
 a0:=Tryz.isAgg0,
 z0:=Tryz.sizeOf0,
 v0:=Tryz.zeroValue0,
 t24:=Tryz.underlying49,
 a24:=Tryz.isAgg49,
 z24:=Tryz.sizeOf49,
 v24:=Tryz.zeroValue49,
 t26:=Tryz.underlying2,
 a26:=Tryz.isAgg2,
 z26:=Tryz.sizeOf2,
 v26:=Tryz.zeroValue2,
 t28:=Tryz.underlying210,
 a28:=Tryz.isAgg210,
 z28:=Tryz.sizeOf210,
 v28:=Tryz.zeroValue210,
 i26:=by kernel_rfl }

def shSort_ren:Go.Shelf.Ren:=⟨fun | 5=>182 | 8=>202 | 7=>201 | 19=>213 | 20=>214 | 10=>204 | 11=>205 | 12=>206 | 13=>207 | 14=>208 | 15=>209 | 16=>210 | 17=>211 | 18=>212 | 30=>215 | 31=>216 | 32=>217 | 33=>218 | 34=>219 | 35=>220 | 40=>221 | n=>n,fun | 23=>49 | 25=>2 | 3=>3 | 32=>278 | 22=>49 | 0=>0 | 44=>289 | 46=>291 | 4=>4 | 36=>281 | 35=>280 | 41=>286 | 5=>5 | 9=>9 | 53=>292 | 57=>296 | 63=>298 | 64=>299 | n=>n,fun | n=>n⟩

theorem shSort:Go.Proofs.SlLaysM.n5 Tryz.prog shSort_ren:={
 mixed:=by kernel_rfl,
 f5:=⟨Tryz.f182.name,by decide,Tryz.func182.trans (congrArg some (by kernel_rfl))⟩,
 f7:=⟨Tryz.f201.name,by decide,Tryz.func201.trans (congrArg some (by kernel_rfl))⟩,
 f8:=Tryz.func202.trans (congrArg some (by kernel_rfl)),
 f10:=⟨Tryz.f204.name,by decide,Tryz.func204.trans (congrArg some (by kernel_rfl))⟩,
 f11:=⟨Tryz.f205.name,by decide,Tryz.func205.trans (congrArg some (by kernel_rfl))⟩,
 f12:=⟨Tryz.f206.name,by decide,Tryz.func206.trans (congrArg some (by kernel_rfl))⟩,
 f13:=⟨Tryz.f207.name,by decide,Tryz.func207.trans (congrArg some (by kernel_rfl))⟩,
 f14:=⟨Tryz.f208.name,by decide,Tryz.func208.trans (congrArg some (by kernel_rfl))⟩,
 f15:=⟨Tryz.f209.name,by decide,Tryz.func209.trans (congrArg some (by kernel_rfl))⟩,
 f16:=⟨Tryz.f210.name,by decide,Tryz.func210.trans (congrArg some (by kernel_rfl))⟩,
 f17:=⟨Tryz.f211.name,by decide,Tryz.func211.trans (congrArg some (by kernel_rfl))⟩,
 f18:=⟨Tryz.f212.name,by decide,Tryz.func212.trans (congrArg some (by kernel_rfl))⟩,
 f19:=Tryz.func213.trans (congrArg some (by kernel_rfl)),
 f20:=Tryz.func214.trans (congrArg some (by kernel_rfl)),
 f30:=⟨Tryz.f215.name,by decide,Tryz.func215.trans (congrArg some (by kernel_rfl))⟩,
 f31:=Tryz.func216.trans (congrArg some (by kernel_rfl)),
 f32:=Tryz.func217.trans (congrArg some (by kernel_rfl)),
 f33:=⟨Tryz.f218.name,by decide,Tryz.func218.trans (congrArg some (by kernel_rfl))⟩,
 f34:=⟨Tryz.f219.name,by decide,Tryz.func219.trans (congrArg some (by kernel_rfl))⟩,
 f35:=⟨Tryz.f220.name,by decide,Tryz.func220.trans (congrArg some (by kernel_rfl))⟩,
 f40:=⟨Tryz.f221.name,by decide,Tryz.func221.trans (congrArg some (by kernel_rfl))⟩,
 t0:=Tryz.underlying0,
 a0:=Tryz.isAgg0,
 z0:=Tryz.sizeOf0,
 v0:=Tryz.zeroValue0,
 t3:=Tryz.underlying3,
 a3:=Tryz.isAgg3,
 z3:=Tryz.sizeOf3,
 v3:=Tryz.zeroValue3,
 t4:=Tryz.underlying4,
 a4:=Tryz.isAgg4,
 z4:=Tryz.sizeOf4,
 v4:=Tryz.zeroValue4,
 t5:=Tryz.underlying5,
 a5:=Tryz.isAgg5,
 z5:=Tryz.sizeOf5,
 v5:=Tryz.zeroValue5,
 t9:=Tryz.underlying9,
 a9:=Tryz.isAgg9,
 z9:=Tryz.sizeOf9,
 v9:=Tryz.zeroValue9,
 t22:=Tryz.underlying49,
 a22:=Tryz.isAgg49,
 z22:=Tryz.sizeOf49,
 v22:=Tryz.zeroValue49,
 t23:=Tryz.underlying49,
 a23:=Tryz.isAgg49,
 z23:=Tryz.sizeOf49,
 v23:=Tryz.zeroValue49,
 t25:=Tryz.underlying2,
 a25:=Tryz.isAgg2,
 z25:=Tryz.sizeOf2,
 v25:=Tryz.zeroValue2,
 t32:=Tryz.underlying278,
 a32:=Tryz.isAgg278,
 z32:=Tryz.sizeOf278,
 v32:=Tryz.zeroValue278,
 t35:=Tryz.underlying280,
 a35:=Tryz.isAgg280,
 z35:=Tryz.sizeOf280,
 v35:=Tryz.zeroValue280,
 t36:=Tryz.underlying281,
 a36:=Tryz.isAgg281,
 z36:=Tryz.sizeOf281,
 v36:=Tryz.zeroValue281,
 t41:=Tryz.underlying286,
 a41:=Tryz.isAgg286,
 z41:=Tryz.sizeOf286,
 v41:=Tryz.zeroValue286,
 t44:=Tryz.underlying289,
 a44:=Tryz.isAgg289,
 z44:=Tryz.sizeOf289,
 v44:=Tryz.zeroValue289,
 t46:=Tryz.underlying291,
 a46:=Tryz.isAgg291,
 z46:=Tryz.sizeOf291,
 v46:=Tryz.zeroValue291,
 t53:=Tryz.underlying292,
 a53:=Tryz.isAgg292,
 z53:=Tryz.sizeOf292,
 v53:=Tryz.zeroValue292,
 t57:=Tryz.underlying296,
 a57:=Tryz.isAgg296,
 z57:=Tryz.sizeOf296,
 v57:=Tryz.zeroValue296,
 t63:=Tryz.underlying298,
 a63:=Tryz.isAgg298,
 z63:=Tryz.sizeOf298,
 v63:=Tryz.zeroValue298,
 t64:=Tryz.underlying299,
 a64:=Tryz.isAgg299,
 z64:=Tryz.sizeOf299,
 v64:=Tryz.zeroValue299 }

end Go.Proofs.YthmcgflmejofbaaGreatDoor
