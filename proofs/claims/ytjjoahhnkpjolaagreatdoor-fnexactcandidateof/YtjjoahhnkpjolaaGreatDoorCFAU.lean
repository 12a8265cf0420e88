/- Texts joined, with what the laws reach alone. -/
import Derived.Test.YtjjoahhnkpjolaaGreatDoorCFAO
import Derived.Maps.OwnSet
import Derived.Maps.Ext
import Derived.Lib.SlKeysI
set_option linter.unusedVariables false
set_option linter.unusedSimpArgs false
namespace Go.Proofs.YtjjoahhnkpjolaaGreatDoor
open Go.RowKit Go.Maps
set_option maxRecDepth 100000
def hasI (xs:List ItemD) (k:Int):Bool:=xs.any (fun x=>x.key == k)

def valI (xs:List ItemD) (k:Int):Int:=match xs.find? (fun x=>x.key == k) with | some x=>x.val | none=>0

def insI (x:ItemD):List ItemD→List ItemD
 | []=>[x]
 | y :: r=>if x.key < y.key then x :: y :: r else y :: insI x r

def delI (xs:List ItemD) (k:Int):List ItemD:=xs.filter (fun y=>!(y.key == k))

def setI (xs:List ItemD) (x:ItemD):List ItemD:=insI x (delI xs x.key)

/-- Items that are right, however many. -/
structure Good (xs:List ItemD):Prop where
 rise:xs.Pairwise (fun a b=>a.key < b.key)
 key:∀ x∈xs,1≤x.key∧x.key≤20
 val:∀ x∈xs,-20000≤x.val∧x.val≤20000

theorem getD_mem {xs:List ItemD} {k:Nat} (h:k < xs.length):xs.getD k itemNo∈xs:=by simp [List.getD,h]

theorem good_of_F {xs:List ItemD} (h:itemsF xs=0):xs.length≤8∧Good xs:=by
 have h8:¬ 8 < xs.length:=by
  intro h8
  simp [itemsF,h8] at h
 have hz:=firstNZ_zero (itF xs) xs.length (by simpa [itemsF,h8] using h)
 have hw:∀ j,j < xs.length→(1≤(xs.getD j itemNo).key∧(xs.getD j itemNo).key≤20)∧(-20000≤(xs.getD j itemNo).val∧(xs.getD j itemNo).val≤20000)∧prevK xs j < (xs.getD j itemNo).key:=by
  intro j hj
  rcases itF_ways xs j with ⟨_,e⟩ | ⟨_,_,e⟩ | ⟨_,_,_,e⟩ | ⟨h1,h2,h3,e⟩
  ·rw [hz j hj] at e;simp at e
  ·rw [hz j hj] at e;simp at e
  ·rw [hz j hj] at e;simp at e
  ·simp [inW] at h1 h2
   exact ⟨by simpa using h1,by simpa using h2,by omega⟩
 have hmem:∀ x∈xs,∃ j,j < xs.length∧x=xs.getD j itemNo:=by
  intro x hx
  obtain ⟨j,hj,rfl⟩:=List.mem_iff_getElem.1 hx
  exact ⟨j,hj,by simp [List.getD,hj]⟩
 refine ⟨by omega,?_,?_,?_⟩
 ·have step:∀ j,j + 1 < xs.length→(xs.getD j itemNo).key < (xs.getD (j + 1) itemNo).key:=by
   intro j hj
   have:=(hw (j + 1) hj).2.2
   simpa [prevK] using this
  have far:∀ d j,j + d + 1 < xs.length→(xs.getD j itemNo).key < (xs.getD (j + d + 1) itemNo).key:=by
   intro d
   induction d with
   | zero=>intro j hj;exact step j hj
   | succ d ih=>
    intro j hj
    have h1:=ih j (by omega)
    have h2:=step (j + d + 1) (by omega)
    rw [show j + (d + 1) + 1=j + d + 1 + 1 by omega]
    omega
  rw [List.pairwise_iff_getElem]
  intro i j hi hj hij
  have:=far (j - i - 1) i (by omega)
  rw [show i + (j - i - 1) + 1=j by omega] at this
  simpa [List.getD,hi,hj] using this
 ·intro x hx
  obtain ⟨j,hj,rfl⟩:=hmem x hx
  exact (hw j hj).1
 ·intro x hx
  obtain ⟨j,hj,rfl⟩:=hmem x hx
  exact (hw j hj).2.1

theorem F_of_good {xs:List ItemD} (hl:xs.length≤8) (g:Good xs):itemsF xs=0:=by
 unfold itemsF
 rw [if_neg (by omega)]
 refine firstNZ_none _ _ ?_
 intro j hj
 have hm:=getD_mem hj
 have hk:=g.key _ hm
 have hv:=g.val _ hm
 have hp:prevK xs j < (xs.getD j itemNo).key:=by
  unfold prevK
  split
  ·omega
  ·have:=(List.pairwise_iff_getElem.1 g.rise) (j - 1) j (by omega) hj (by omega)
   simpa [List.getD,hj,show j - 1 < xs.length by omega] using this
 have hw:=itF_ways xs j
 generalize xs.getD j itemNo=x at hk hv hp hw
 rcases hw with ⟨h1,_⟩ | ⟨_,h2,_⟩ | ⟨_,_,h3,_⟩ | ⟨_,_,_,e⟩
 ·simp [inW] at h1;omega
 ·simp [inW] at h2;omega
 ·omega
 ·exact e

theorem mem_insI {x y:ItemD}:∀ {l:List ItemD},y∈insI x l↔y=x∨y∈l
 | []=>by simp [insI]
 | z :: r=>by
  simp only [insI]
  split
  ·simp
  ·simp only [List.mem_cons,mem_insI (l:=r)]
   constructor
   ·rintro (h | h | h) <;> simp [h]
   ·rintro (h | h | h) <;> simp [h]

theorem insI_rise {x:ItemD}:∀ {l:List ItemD},l.Pairwise (fun a b=>a.key < b.key)→(∀ y∈l,y.key≠x.key)→(insI x l).Pairwise (fun a b=>a.key < b.key)
 | [],_,_=>by simp [insI]
 | z :: r,h,hne=>by
  rw [List.pairwise_cons] at h
  simp only [insI]
  split
  ·rename_i hlt
   rw [List.pairwise_cons]
   refine ⟨?_,List.pairwise_cons.2 h⟩
   intro y hy
   rcases List.mem_cons.1 hy with rfl | hy
   ·exact hlt
   ·have:=h.1 y hy;omega
  ·rename_i hlt
   rw [List.pairwise_cons]
   refine ⟨?_,insI_rise h.2 (fun y hy=>hne y (by simp [hy]))⟩
   intro y hy
   rcases mem_insI.1 hy with rfl | hy
   ·have:=hne z (by simp);omega
   ·exact h.1 y hy

theorem mem_delI {xs:List ItemD} {k:Int} {y:ItemD}:y∈delI xs k↔y∈xs∧y.key≠k:=by simp [delI]

theorem Good.del {xs:List ItemD} (g:Good xs) (k:Int):Good (delI xs k):=
 ⟨g.rise.filter _,fun x hx=>g.key x (mem_delI.1 hx).1,fun x hx=>g.val x (mem_delI.1 hx).1⟩

theorem Good.set {xs:List ItemD} (g:Good xs) {x:ItemD} (hk:1≤x.key∧x.key≤20) (hv:-20000≤x.val∧x.val≤20000):Good (setI xs x):=by
 refine ⟨insI_rise (g.del x.key).rise (fun y hy=>(mem_delI.1 hy).2),?_,?_⟩
 ·intro y hy
  rcases mem_insI.1 hy with rfl | hy
  ·exact hk
  ·exact g.key y (mem_delI.1 hy).1
 ·intro y hy
  rcases mem_insI.1 hy with rfl | hy
  ·exact hv
  ·exact g.val y (mem_delI.1 hy).1

theorem Good.valI {xs:List ItemD} (g:Good xs) (k:Int):-20000≤valI xs k∧valI xs k≤20000:=by
 unfold Go.Proofs.YtjjoahhnkpjolaaGreatDoor.valI
 cases h:xs.find? (fun x=>x.key == k) with
 | none=>simp
 | some x=>exact g.val x (List.mem_of_find?_eq_some h)

/-- Items as the map that holds them reads. -/
def litI (x:ItemD):Lit × DataW Unit:=(.int .i64 x.key,.lit (.int .i64 x.val))

def shelfD (xs:List ItemD):DataW Unit:=.map (xs.map litI)

theorem sameKey_i64 (a b:Int):(Lit.int .i64 a).sameKey (.int .i64 b)=(a == b):=by
 simp [Lit.sameKey]
 rfl

theorem shelf_size (xs:List ItemD):Maps.size (shelfD xs)=xs.length:=by simp [shelfD,Maps.size_eq]

theorem shelf_has (xs:List ItemD) (k:Int):Maps.has (shelfD xs) (.int .i64 k)=hasI xs k:=by
 rw [shelfD,Maps.has_eq,List.any_map]
 unfold hasI
 congr 1
 funext x
 exact sameKey_i64 x.key k

theorem shelf_at (xs:List ItemD) (k:Int):(shelfD xs).atKey (.int .i64 k) (.lit (.int .i64 0))=.lit (.int .i64 (valI xs k)):=by
 unfold shelfD DataW.atKey valI
 dsimp only
 rw [List.find?_map]
 have e:((fun p:Lit × DataW Unit=>p.1.sameKey (.int .i64 k)) ∘ litI)=fun x:ItemD=>x.key == k:=by
  funext x
  exact sameKey_i64 x.key k
 rw [e]
 cases xs.find? (fun x=>x.key == k) <;> rfl

theorem insert_map (x:ItemD):∀ l:List ItemD,DataW.insert (litI x) (l.map litI)=(insI x l).map litI
 | []=>rfl
 | y :: r=>by
  simp only [List.map_cons,DataW.insert,insI]
  have e:(litI x).1.before (litI y).1=decide (x.key < y.key):=rfl
  rw [e]
  by_cases h:x.key < y.key
  ·simp [h]
  ·simp [h,insert_map x r]

theorem filter_litI (xs:List ItemD) (k:Int):(xs.map litI).filter (fun p=>!p.1.sameKey (.int .i64 k))=(delI xs k).map litI:=by
 rw [List.filter_map,delI]
 congr 1
 congr 1
 funext x
 exact congrArg (!·) (sameKey_i64 x.key k)

theorem shelf_put (xs:List ItemD) (k v:Int):(shelfD xs).put (.int .i64 k) (.lit (.int .i64 v))=shelfD (setI xs ⟨k,v⟩):=by
 unfold shelfD DataW.put
 dsimp only
 rw [filter_litI,show ((Lit.int .i64 k,DataW.lit (Lit.int .i64 v)):Lit × DataW Unit)=litI ⟨k,v⟩ from rfl,insert_map]
 rfl

theorem shelf_del (xs:List ItemD) (k:Int):(shelfD xs).del (.int .i64 k)=shelfD (delI xs k):=by
 unfold shelfD DataW.del
 dsimp only
 rw [filter_litI]

theorem shelf_keys (xs:List ItemD):intKeys (shelfD xs)=xs.map ItemD.key:=by
 simp only [shelfD,intKeys,List.map_map]
 rfl

theorem shelf_tidy {xs:List ItemD} (h:xs.Pairwise (fun a b=>a.key < b.key)):Maps.Tidy (shelfD xs):=by
 refine ⟨_,rfl,?_⟩
 rw [List.pairwise_map]
 refine h.imp ?_
 intro a b hab e
 simp only [litI,Lit.int.injEq,true_and] at e
 omega

theorem setI_length {xs:List ItemD} (g:Good xs) (x:ItemD):(setI xs x).length=if hasI xs x.key then xs.length else xs.length + 1:=by
 have:=Maps.size_put (k:=.int .i64 x.key) (shelf_tidy g.rise) (.lit (.int .i64 x.val))
 rw [shelf_put,shelf_size,shelf_has,shelf_size] at this
 exact this

theorem delI_length (xs:List ItemD) (k:Int):(delI xs k).length≤xs.length:=List.length_filter_le _ _

/-- What the model's setting comes to, element by element. -/
def setR (x:ItemD):Bool→List ItemD→List ItemD
 | d,[]=>if d then [] else [x]
 | d,y :: r=>(if !d && decide (x.key≤y.key) then [x] else []) ++ ((if y.key == x.key then [] else [y]) ++ setR x (d || decide (x.key≤y.key)) r)

theorem setR_true (x:ItemD):∀ l:List ItemD,setR x true l=delI l x.key
 | []=>rfl
 | y :: r=>by
  have ih:=setR_true x r
  unfold delI at ih ⊢
  simp only [setR,Bool.not_true,Bool.false_and,Bool.true_or,List.filter_cons,ih]
  cases h:(y.key == x.key) <;> simp

theorem insI_low {x:ItemD}:∀ {l:List ItemD},(∀ y∈l,x.key < y.key)→insI x l=x :: l
 | [],_=>rfl
 | y :: r,h=>by simp [insI,h y (by simp)]

theorem setR_false (x:ItemD):∀ {l:List ItemD},l.Pairwise (fun a b=>a.key < b.key)→setR x false l=setI l x
 | [],_=>rfl
 | y :: r,h=>by
  rw [List.pairwise_cons] at h
  have ih:=setR_false x h.2
  simp only [setR,Bool.not_false,Bool.true_and,Bool.false_or]
  by_cases h1:y.key=x.key
  ·have e:(y.key == x.key)=true:=by simp [h1]
   have e2:decide (x.key≤y.key)=true:=by simp [h1]
   rw [e,e2,setR_true]
   unfold setI
   have e3:delI (y :: r) x.key=delI r x.key:=by simp [delI,h1]
   rw [e3,insI_low (fun z hz=>by have:=h.1 z (mem_delI.1 hz).1;omega)]
   simp
  ·have e:(y.key == x.key)=false:=by simp [h1]
   have e3:delI (y :: r) x.key=y :: delI r x.key:=by simp [delI,h1]
   by_cases h2:x.key≤y.key
   ·have e2:decide (x.key≤y.key)=true:=by simp [h2]
    rw [e,e2,setR_true]
    unfold setI
    rw [e3]
    simp [insI,show x.key < y.key by omega]
   ·have e2:decide (x.key≤y.key)=false:=by simp [h2]
    rw [e,e2,ih]
    unfold setI
    rw [e3]
    simp [insI,show ¬ x.key < y.key by omega]

/-- A number laid at a key: the code. -/
def layC (xs:List ItemD) (k v:Int):Int:=if inW v (-20000) 20000=false then 3 else if hasI xs k=false∧8≤xs.length then 7 else 0

/-- An act done: the code, and what is there then. -/
def actC (xs:List ItemD) (a:ActD):Int:=
 if a.kind=1 then layC xs a.key a.val else if a.kind=2 then layC xs a.key (valI xs a.key + a.val)
 else if a.kind=3 then (if hasI xs a.key=true then 0 else 4) else (if hasI xs a.key=true∧valI xs a.key=a.val then 0 else 9)

def actN (xs:List ItemD) (a:ActD):List ItemD:=
 if a.kind=1 then setI xs ⟨a.key,a.val⟩ else if a.kind=2 then setI xs ⟨a.key,valI xs a.key + a.val⟩ else if a.kind=3 then delI xs a.key else xs

theorem actF_zero {a:ActD} (h:actF a=0):(1≤a.kind∧a.kind≤4)∧(1≤a.key∧a.key≤20)∧(-1000≤a.val∧a.val≤1000):=by
 obtain ⟨k,y,v⟩:=a
 rcases actF_ways k y v with ⟨_,e⟩ | ⟨_,_,_,e⟩ | ⟨h1,_,⟨_,e⟩ | ⟨_,_,e⟩ | ⟨h4,h5,_⟩⟩
 ·rw [h] at e;simp at e
 ·rw [h] at e;simp at e
 ·rw [h] at e;simp at e
 ·rw [h] at e;simp at e
 ·simp [inW] at h1 h4 h5
  exact ⟨h1,h4,h5⟩

theorem lay_good {xs:List ItemD} {k v:Int} (hl:xs.length≤8) (g:Good xs) (hk:1≤k∧k≤20) (h:layC xs k v=0):(setI xs ⟨k,v⟩).length≤8∧Good (setI xs ⟨k,v⟩):=by
 unfold layC at h
 split at h
 ·simp at h
 ·rename_i hv
  split at h
  ·simp at h
  ·rename_i hh
   simp [inW] at hv
   refine ⟨?_,g.set hk (by simpa using hv)⟩
   rw [setI_length g]
   dsimp only
   cases e:hasI xs k
   ·simp [e] at hh ⊢;omega
   ·simp;omega

theorem act_good {xs:List ItemD} {a:ActD} (hl:xs.length≤8) (g:Good xs) (ha:actF a=0) (h:actC xs a=0):(actN xs a).length≤8∧Good (actN xs a):=by
 obtain ⟨hk,hy,hv⟩:=actF_zero ha
 unfold actC at h
 unfold actN
 split
 ·rename_i e;rw [if_pos e] at h;exact lay_good hl g hy h
 ·rename_i e;rw [if_neg e] at h
  split
  ·rename_i e;rw [if_pos e] at h;exact lay_good hl g hy h
  ·split
   ·exact ⟨Nat.le_trans (delI_length _ _) hl,g.del _⟩
   ·exact ⟨hl,g⟩

/-- Acts done one by one, up to the first code. -/
def runA:List ItemD→List ActD→Int × List ItemD
 | xs,[]=>(0,xs)
 | xs,a :: r=>if actC xs a=0 then runA (actN xs a) r else (actC xs a,[])

theorem run_good:∀ {zs:List ActD} {xs:List ItemD},xs.length≤8→Good xs→(∀ a∈zs,actF a=0)→(runA xs zs).1=0→(runA xs zs).2.length≤8∧Good (runA xs zs).2
 | [],xs,hl,g,_,_=>⟨hl,g⟩
 | a :: r,xs,hl,g,ha,h=>by
  simp only [runA] at h ⊢
  by_cases e:actC xs a=0
  ·rw [if_pos e] at h ⊢
   obtain ⟨h1,h2⟩:=act_good hl g (ha a (by simp)) e
   exact run_good h1 h2 (fun b hb=>ha b (by simp [hb])) h
  ·rw [if_neg e] at h
   exact absurd h e

theorem acts_of_F {i s q:Int} {zs:List ActD} (h:txnF i s q zs=0):(1≤zs.length∧zs.length≤4)∧∀ a∈zs,actF a=0:=by
 rcases txnF_ways i s q zs with ⟨_,e⟩ | ⟨_,_,e⟩ | ⟨_,_,_,e⟩ | ⟨_,_,_,⟨_,e⟩ | ⟨_,e⟩ | ⟨h4,h5,e⟩⟩
 ·rw [h] at e;simp at e
 ·rw [h] at e;simp at e
 ·rw [h] at e;simp at e
 ·rw [h] at e;simp at e
 ·rw [h] at e;simp at e
 ·refine ⟨by omega,?_⟩
  rw [h] at e
  have:∀ l:List ActD,actsF l=0→∀ a∈l,actF a=0:=by
   intro l
   induction l with
   | nil=>simp
   | cons x r ih=>
    intro h0 a ha
    simp only [actsF] at h0
    by_cases hx:actF x=0
    ·rw [if_pos hx] at h0
     rcases List.mem_cons.1 ha with rfl | ha
     ·exact hx
     ·exact ih h0 a ha
    ·rw [if_neg hx] at h0;exact absurd h0 hx
  exact this zs e.symm

end Go.Proofs.YtjjoahhnkpjolaaGreatDoor
namespace Go.Proofs.YtjjoahhnkpjolaaGreatDoor
open Go.RowKit Go.Maps Go.Sort Go.Shelf
set_option maxRecDepth 100000
/-- Block b is a map that reads as these items. -/
def ShelfAt (w:World) (b:Nat) (xs:List ItemD):Prop:=w.ownsMap (H:=Unit) Tryz.prog 2 (plainElem Tryz.prog 2) b xs.length (shelfD xs)

theorem lawI64:Keyed Tryz.prog 2:=int_keyed Tryz.underlying2

theorem zeroI64 (w:World):(zeroValue 2).run Tryz.prog w=.ok (.int .i64 0) w:=by kernel_rfl

theorem tighten {w:World} {b n:Nat} {xs:List ItemD} (h:w.ownsMap (H:=Unit) Tryz.prog 2 (plainElem Tryz.prog 2) b n (shelfD xs)):ShelfAt w b xs:=by
 obtain ⟨es,clock,hb,F,_,hD⟩:=h
 refine ⟨es,clock,hb,F,?_,hD⟩
 have e:=congrArg Maps.size hD
 rw [shelf_size,Maps.size_eq,length_sorted] at e
 simp at e
 omega

theorem ShelfAt.below {w w' : World} {b:Nat} {xs:List ItemD} (h:ShelfAt w b xs) (hb:Below w.heap.size w w'):ShelfAt w' b xs:=by
 have hlt:=h.lt
 obtain ⟨es,clock,hh,r⟩:=h
 exact ⟨es,clock,(hb.block b hlt).trans hh,r⟩

theorem wf64 {v:Int} (h:-9000000≤v∧v≤9000000):(Lit.int .i64 v).wf=true:=WalkArith.wf_i64 (by omega)

theorem keyI64 {k:Int} (h:-9000000≤k∧k≤9000000):keyOf Tryz.prog 2 (.int .i64 k)=some (.int .i64 k):=keyOf_int_mk Tryz.underlying2 (wf64 h)

theorem delI_none {l:List ItemD} {k:Int} (h:∀ y∈l,y.key≠k):delI l k=l:=by
 unfold delI
 rw [List.filter_eq_self]
 intro y hy
 simpa using h y hy

theorem insI_high {x:ItemD}:∀ {l:List ItemD},(∀ y∈l,y.key < x.key)→insI x l=l ++ [x]
 | [],_=>rfl
 | y :: r,h=>by
  have h1:=h y (by simp)
  have ih:=insI_high (l:=r) (fun z hz=>h z (by simp [hz]))
  simp [insI,show ¬ x.key < y.key by omega,ih]

theorem setI_take {zs:List ItemD} (g:Good zs) {k:Nat} (hk:k < zs.length):setI (zs.take k) (zs.getD k itemNo)=zs.take (k + 1):=by
 have hlow:∀ y∈zs.take k,y.key < (zs.getD k itemNo).key:=by
  intro y hy
  obtain ⟨j,hj,rfl⟩:=List.mem_iff_getElem.1 hy
  have hj' : j < k:=by simp at hj;omega
  have:=(List.pairwise_iff_getElem.1 g.rise) j k (by omega) hk hj'
  simpa [List.getD,hk] using this
 have e:zs.getD k itemNo=zs[k]:=by simp [List.getD,hk]
 unfold setI
 rw [delI_none (fun y hy=>by have:=hlow y hy;omega),insI_high hlow,List.take_succ_eq_append_getElem hk,e]

set_option maxHeartbeats 1000000 in
theorem shelfOf_any (a:Option Addr) (cap:Nat) (zs:List ItemD) (w:World) (h:ItemRow w a zs) (hl:zs.length≤8) (g:Good zs) :
  Calls Tryz.prog 212 #[.slice a zs.length cap] w fun e w' => e=.returned (.map (some w.heap.size))∧ShelfAt w' w.heap.size zs∧Below w.heap.size w w' := by
 have hmm:=@run_makeMap Tryz.prog
 have hm0:(w.alloc (.map #[] 0)).ownsMap (H:=Unit) Tryz.prog 2 (plainElem Tryz.prog 2) w.heap.size 0 (shelfD (zs.take 0)):=by
  rw [List.take_zero]
  exact World.ownsMap_made _ _ _ _
 go_enter Tryz.func212,Tryz.ntmps212
 go_wp2
 go_loopw [9] (fun i wr=>∃ k:Nat,k≤zs.length∧i=.int .i64 k∧wr.ownsMap (H:=Unit) Tryz.prog 2 (plainElem Tryz.prog 2) w.heap.size k (shelfD (zs.take k))∧Below w.heap.size w wr) (fun i _=>zs.length - (intOf i).toNat)
 case atStart=>exact ⟨0,Nat.zero_le _,rfl,hm0,(Below.refl _ _).alloc (Nat.le_refl _) _⟩
 case round=>
  obtain ⟨k,hk,rfl,hown,hb⟩:=hrel
  by_cases hlt:k < zs.length
  ·obtain ⟨b,off,rfl,hbs,hc0,hc1⟩:=(h.below hb).at k hlt
   have hsz:=hb.size
   have HS:Hid (setI (zs.take k) (zs.getD k itemNo)=zs.take (k + 1)):=setI_take g hlt
   have hgk:=g.key _ (getD_mem hlt)
   have hgv:=g.val _ (getD_mem hlt)
   generalize zs.getD k itemNo=z at hc0 hc1 HS hgk hgv
   obtain ⟨z0,z1⟩:=z
   dsimp only at hc0 hc1 hgk hgv
   have hkey:=keyI64 (k:=z0) (by omega)
   have hval:=plainElem_int (H:=Unit) Tryz.underlying2 (wf64 (v:=z1) (by omega))
   go_wp2_with (at_mapUpdate;refine wpList_mapUpdate_own _ rfl _ _ _ 301 rfl 2 2 lawI64 Tryz.underlying301 _ w.heap.size k _ rfl (hown.alloc _) (by unfold maxLen;omega) _ _ _ rfl rfl hkey _ [] hval ?_;intro w1 hown1 hgrow1)
   rw [shelf_put] at hown1
   have hb1:Below w.heap.size w w1:=(hb.alloc hsz _).grown hgrow1 (by simp;omega) (fun j hj=>by cases hj;exact Nat.le_refl _)
   clear hown hgrow1 hkey hval
   go_wp2
   go_roundw
   case rel=>exact ⟨k + 1,by omega,by go_num,by rw [← HS.out];exact hown1,hb1⟩
   case measure=>simp [intOf];omega
  ·have hkl:k=zs.length:=by omega
   subst hkl
   rw [List.take_length] at hown
   go_wp2
   go_ret
   exact ⟨rfl,hown,hb⟩

section
variable (w:World) {ops:Array Oper} {rest:List Oper} {o:Oper} {a:Act} {Q:Exit→Act→World→Prop}
/-- A key is asked for, and whether it is there. -/
theorem wpList_shelf_ok (hg:o.guard=none) (m x:Operand) (hop:o.op=Op.lookup 301 m x true) (b:Nat) (xs:List ItemD) (hm:a.eval m=.map (some b)) (h:ShelfAt w b xs) (k:Int) (hx:a.eval x=.int .i64 k) (hk:-9000000≤k∧k≤9000000)
  (hK:wpList Tryz.prog ops Q rest (a.put o.dst (.tuple #[.int .i64 (valI xs k),.bool (hasI xs k)])) w):wpList Tryz.prog ops Q (o :: rest) a w:=by
 refine wpList_lookup_own_ok_int w hg m x 301 hop 2 2 .i64 lawI64 Tryz.underlying301 Tryz.underlying2 (zeroI64 _) b xs.length _ hm h _ _ hx (keyI64 hk) ?_
 intro c hat _
 rw [shelf_at] at hat
 simp only [DataW.lit.injEq,Lit.int.injEq,true_and] at hat
 rw [shelf_has,← hat]
 exact hK

theorem wpList_shelf_at (hg:o.guard=none) (m x:Operand) (hop:o.op=Op.lookup 301 m x false) (b:Nat) (xs:List ItemD) (hm:a.eval m=.map (some b)) (h:ShelfAt w b xs) (k:Int) (hx:a.eval x=.int .i64 k) (hk:-9000000≤k∧k≤9000000)
  (hK:wpList Tryz.prog ops Q rest (a.put o.dst (.int .i64 (valI xs k))) w):wpList Tryz.prog ops Q (o :: rest) a w:=by
 refine wpList_lookup_own_int w hg m x 301 hop 2 2 .i64 lawI64 Tryz.underlying301 Tryz.underlying2 (zeroI64 _) b xs.length _ hm h _ _ hx (keyI64 hk) ?_
 intro c hat _
 rw [shelf_at] at hat
 simp only [DataW.lit.injEq,Lit.int.injEq,true_and] at hat
 rw [← hat]
 exact hK

end
theorem layC_ways (xs:List ItemD) (k v:Int) :
  (inW v (-20000) 20000=false∧layC xs k v=3)∨(inW v (-20000) 20000=true∧hasI xs k=true∧layC xs k v=0) ∨
  (inW v (-20000) 20000=true∧hasI xs k=false∧8≤xs.length∧layC xs k v=7)∨(inW v (-20000) 20000=true∧hasI xs k=false∧¬ 8≤xs.length∧layC xs k v=0):=by
 unfold layC
 cases h1:inW v (-20000) 20000 <;> cases h2:hasI xs k <;> by_cases h3:8≤xs.length <;> simp [h3]

set_option maxRecDepth 100000 in
set_option maxHeartbeats 1000000 in
theorem lay_any (b:Nat) (xs:List ItemD) (k v:Int) (w:World) (h:ShelfAt w b xs) (hl:xs.length≤8) (hk:1≤k∧k≤20) :
  Calls Tryz.prog 261 #[.map (some b),.int .i64 k,.int .i64 v] w fun e w' => e=.returned (.int .i64 (layC xs k v))∧(layC xs k v=0→ShelfAt w' b (setI xs ⟨k,v⟩))∧w.grownBy w' (some b):=by
 have hkey:=keyI64 (k:=k) (by omega)
 have hlen:∀ ty,(Builtin.len_ #[301] ty #[.map (some b)]).run Tryz.prog w=.ok (.int .i64 xs.length) w:=fun ty=>by
  have:=World.ownsMap.len h Tryz.underlying301 ty
  rw [shelf_size] at this
  exact this
 have hhas:=shelf_has xs k
 have hvc:=fun w=>isItemValue_any v w
 rcases layC_ways xs k v with ⟨h1,e⟩ | ⟨h1,h2,e⟩ | ⟨h1,h2,h3,e⟩ | ⟨h1,h2,h3,e⟩ <;> rw [e] <;> rw [h1] at hvc
 ·go_enter Tryz.func261,Tryz.ntmps261
  go_wp2_with (go_at_call 260;refine (hvc _).mono ?_;rintro e w' ⟨rfl,hw⟩;replace hw:=hw.symm;subst hw)
  go_ret
  exact ⟨rfl,fun h=>by simp at h,World.grownBy.refl _ _⟩
 ·have hval:=plainElem_int (H:=Unit) Tryz.underlying2 (wf64 (v:=v) (by simp [inW] at h1;omega))
  rw [h2] at hhas
  go_enter Tryz.func261,Tryz.ntmps261
  go_wp2_with (first | (go_at_call 260;refine (hvc _).mono ?_;rintro e w' ⟨rfl,hw⟩;replace hw:=hw.symm;subst hw) | (at_lookup;refine wpList_lookup_own_ok_int _ rfl _ _ 301 rfl 2 2 .i64 lawI64 Tryz.underlying301 Tryz.underlying2 (zeroI64 _) b xs.length _ rfl h _ _ rfl hkey ?_;rw [hhas];intro c hat hwc) | (at_mapUpdate;refine wpList_mapUpdate_own _ rfl _ _ _ 301 rfl 2 2 lawI64 Tryz.underlying301 _ b xs.length _ rfl h (by unfold maxLen;omega) _ _ _ rfl rfl hkey _ [] hval ?_;intro w1 hown1 hgrow1))
  go_ret
  rw [shelf_put] at hown1
  exact ⟨rfl,fun _=>tighten hown1,hgrow1⟩
 ·rw [h2] at hhas
  go_enter Tryz.func261,Tryz.ntmps261
  go_wp2_with (first | (go_at_call 260;refine (hvc _).mono ?_;rintro e w' ⟨rfl,hw⟩;replace hw:=hw.symm;subst hw) | (at_lookup;refine wpList_lookup_own_ok_int _ rfl _ _ 301 rfl 2 2 .i64 lawI64 Tryz.underlying301 Tryz.underlying2 (zeroI64 _) b xs.length _ rfl h _ _ rfl hkey ?_;rw [hhas];intro c hat hwc))
  go_ret
  exact ⟨rfl,fun h=>by simp at h,World.grownBy.refl _ _⟩
 ·have hval:=plainElem_int (H:=Unit) Tryz.underlying2 (wf64 (v:=v) (by simp [inW] at h1;omega))
  rw [h2] at hhas
  go_enter Tryz.func261,Tryz.ntmps261
  go_wp2_with (first | (go_at_call 260;refine (hvc _).mono ?_;rintro e w' ⟨rfl,hw⟩;replace hw:=hw.symm;subst hw) | (at_lookup;refine wpList_lookup_own_ok_int _ rfl _ _ 301 rfl 2 2 .i64 lawI64 Tryz.underlying301 Tryz.underlying2 (zeroI64 _) b xs.length _ rfl h _ _ rfl hkey ?_;rw [hhas];intro c hat hwc) | (at_mapUpdate;refine wpList_mapUpdate_own _ rfl _ _ _ 301 rfl 2 2 lawI64 Tryz.underlying301 _ b xs.length _ rfl h (by unfold maxLen;omega) _ _ _ rfl rfl hkey _ [] hval ?_;intro w1 hown1 hgrow1))
  go_ret
  rw [shelf_put] at hown1
  exact ⟨rfl,fun _=>tighten hown1,hgrow1⟩

theorem only_of_alloc {w w' : World} {b:Nat} {o:Obj} (h:(w.alloc o).grownBy w' (some b)):Only b (b + 1) w w' :=
 (Only.of_below ((Below.refl _ _).alloc (Nat.le_refl _) o)).trans (only_of_grown h (fun g hg=>by cases hg;omega))

set_option maxRecDepth 100000 in
set_option maxHeartbeats 1000000 in
theorem do_any (b:Nat) (xs:List ItemD) (k y v:Int) (w:World) (h:ShelfAt w b xs) (hl:xs.length≤8) (g:Good xs) (ha:actF ⟨k,y,v⟩=0) :
  Calls Tryz.prog 237 #[.map (some b),.agg #[.int .i64 k,.int .i64 y,.int .i64 v]] w fun e w' => e=.returned (.int .i64 (actC xs ⟨k,y,v⟩))∧(actC xs ⟨k,y,v⟩=0→ShelfAt w' b (actN xs ⟨k,y,v⟩))∧Only b (b + 1) w w' := by
 obtain ⟨hk,hy,hv⟩:=actF_zero ha
 dsimp only at hk hy hv
 have hgv:=g.valI y
 have h0:ShelfAt (w.alloc (.cells #[.int .i64 k,.int .i64 y,.int .i64 v] 210)) b xs:=h.below (by go_grown)
 have hO:Only b (b + 1) w (w.alloc (.cells #[.int .i64 k,.int .i64 y,.int .i64 v] 210)):=Only.of_below (by go_grown)
 have hlay:=fun v w h=>lay_any b xs y v w h hl hy
 have hlook:∀ (w:World) (_:ShelfAt w b xs) (ops:Array Oper) (rest:List Oper) (o:Oper) (a:Act) (Q:Exit→Act→World→Prop) (hg:o.guard=none) (m x:Operand) (hop:o.op=Op.lookup 301 m x true) (hm:a.eval m=.map (some b)) (hx:a.eval x=.int .i64 y) (hK:wpList Tryz.prog ops Q rest (a.put o.dst (.tuple #[.int .i64 (valI xs y),.bool (hasI xs y)])) w),wpList Tryz.prog ops Q (o :: rest) a w:=
  fun w h ops rest o a Q hg m x hop hm hx hK=>wpList_shelf_ok w hg m x hop b xs hm h y hx (by omega) hK
 rcases (show k=1∨k=2∨k=3∨k=4 by omega) with rfl | rfl | rfl | rfl
 ·have e1:actC xs ⟨1,y,v⟩=layC xs y v:=by simp [actC]
  have e2:actN xs ⟨1,y,v⟩=setI xs ⟨y,v⟩:=by simp [actN]
  rw [e1,e2]
  clear e1 e2
  generalize layC xs y=LC at hlay
  generalize setI xs=SI at hlay
  generalize valI xs y=c at hlook hgv
  generalize hasI xs y=t at hlook
  go_enter Tryz.func237,Tryz.ntmps237
  go_wp2_with (first | (at_lookup;refine hlook _ h0 _ _ _ _ _ rfl _ _ rfl rfl rfl ?_) | (go_at_call 261;refine (hlay _ _ h0).mono ?_;rintro e w' ⟨rfl,hS,hG⟩))
  go_ret
  exact ⟨rfl,hS,only_of_alloc hG⟩
 ·have e1:actC xs ⟨2,y,v⟩=layC xs y (valI xs y + v):=by simp [actC]
  have e2:actN xs ⟨2,y,v⟩=setI xs ⟨y,valI xs y + v⟩:=by simp [actN]
  rw [e1,e2]
  clear e1 e2
  generalize layC xs y=LC at hlay
  generalize setI xs=SI at hlay
  generalize valI xs y=c at hlook hgv
  generalize hasI xs y=t at hlook
  go_enter Tryz.func237,Tryz.ntmps237
  go_wp2_with (first | (at_lookup;refine hlook _ h0 _ _ _ _ _ rfl _ _ rfl rfl rfl ?_) | (go_at_call 261;refine (hlay _ _ h0).mono ?_;rintro e w' ⟨rfl,hS,hG⟩))
  go_ret
  exact ⟨rfl,hS,only_of_alloc hG⟩
 ·cases hh:hasI xs y
  ·have e1:actC xs ⟨3,y,v⟩=4:=by simp [actC,hh]
   rw [e1]
   rw [hh] at hlook
   clear e1
   generalize valI xs y=c at hlook hgv
   go_enter Tryz.func237,Tryz.ntmps237
   go_wp2_with (at_lookup;refine hlook _ h0 _ _ _ _ _ rfl _ _ rfl rfl rfl ?_)
   go_ret
   exact ⟨rfl,fun h=>by simp at h,hO⟩
  ·have e1:actC xs ⟨3,y,v⟩=0:=by simp [actC,hh]
   have e2:actN xs ⟨3,y,v⟩=delI xs y:=by simp [actN]
   have hkey:=keyI64 (k:=y) (by omega)
   rw [e1,e2]
   rw [hh] at hlook
   clear e1 e2
   generalize valI xs y=c at hlook hgv
   go_enter Tryz.func237,Tryz.ntmps237
   go_wp2_with (first | (at_lookup;refine hlook _ h0 _ _ _ _ _ rfl _ _ rfl rfl rfl ?_) | (at_delete;refine wpList_delete_own _ rfl _ _ 301 2 rfl 2 lawI64 Tryz.underlying301 _ b xs.length _ rfl h0 _ _ rfl hkey ?_;intro w1 hown1 hturn1))
   go_ret
   rw [shelf_del] at hown1
   exact ⟨rfl,fun _=>tighten hown1,only_of_alloc hturn1.grown⟩
 ·cases hh:hasI xs y
  ·have e1:actC xs ⟨4,y,v⟩=9:=by simp [actC,hh]
   rw [e1]
   rw [hh] at hlook
   clear e1
   generalize valI xs y=c at hlook hgv
   go_enter Tryz.func237,Tryz.ntmps237
   go_wp2_with (at_lookup;refine hlook _ h0 _ _ _ _ _ rfl _ _ rfl rfl rfl ?_)
   go_ret
   exact ⟨rfl,fun h=>by simp at h,hO⟩
  ·by_cases hc:valI xs y=v
   ·have e1:actC xs ⟨4,y,v⟩=0:=by simp [actC,hh,hc]
    have e2:actN xs ⟨4,y,v⟩=xs:=by simp [actN]
    have hne:(v != v)=false:=by simp
    rw [e1,e2]
    rw [hh,hc] at hlook
    clear e1 e2 hc hgv
    go_enter Tryz.func237,Tryz.ntmps237
    go_wp2_with (at_lookup;refine hlook _ h0 _ _ _ _ _ rfl _ _ rfl rfl rfl ?_)
    go_ret
    exact ⟨rfl,fun _=>h0,hO⟩
   ·have e1:actC xs ⟨4,y,v⟩=9:=by simp [actC,hh,hc]
    have hne:(valI xs y != v)=true:=by simpa using hc
    rw [e1]
    rw [hh] at hlook
    clear e1 hc
    generalize valI xs y=c at hlook hgv hne
    go_enter Tryz.func237,Tryz.ntmps237
    go_wp2_with (at_lookup;refine hlook _ h0 _ _ _ _ _ rfl _ _ rfl rfl rfl ?_)
    go_ret
    exact ⟨rfl,fun h=>by simp at h,hO⟩

end Go.Proofs.YtjjoahhnkpjolaaGreatDoor
namespace Go.Proofs.YtjjoahhnkpjolaaGreatDoor
open Go.RowKit Go.Maps Go.Sort Go.Shelf
set_option maxRecDepth 100000
theorem sorts3 (m:Nat):AnyZI.SortsIn Tryz.prog shSorted_ren Fence.wide m:=
 ⟨fun blk off cap ss W hH hblk hsz=>callsIn_wide.2 (AnyM.slices_Sort_int shSort blk off cap ss W hH hblk hsz),fun p cap W=>callsIn_wide.2 (AnyM.slices_Sort_int_none shSort p cap W)⟩

theorem keys3 (mb:Option Nat) (W:World):Calls Tryz.prog 263 #[.map mb] W fun e w' => e=.returned (.func (.func 275) #[] #[.pointer (some ⟨W.heap.size,0,none⟩)])∧w' = W.alloc (.cells #[.map mb] 301):=
 (callsIn_wide (n:=5)).1 (AnyZI.keys_in shKeys Fence.wide 5 trivial rfl mb W)

theorem sort_rise {xs:List ItemD} (g:Good xs) {ss:List Int} (h:ss.Perm (xs.map ItemD.key)):ss.mergeSort (fun x y=>decide (x≤y))=xs.map ItemD.key:=by
 have tr:∀ a b c:Int,leI a b=true→leI b c=true→leI a c=true:=fun a b c h1 h2=>by simp only [leI,decide_eq_true_eq] at *;exact Int.le_trans h1 h2
 have to:∀ a b:Int,(leI a b || leI b a)=true:=fun a b=>by simp only [leI,Bool.or_eq_true,decide_eq_true_eq];exact Int.le_total a b
 refine List.Perm.eq_of_pairwise (le:=fun a b=>leI a b=true) (fun a b _ _ h1 h2=>?_) (List.pairwise_mergeSort tr to ss) ?_ ((List.mergeSort_perm ss leI).trans h)
 ·simp only [leI,decide_eq_true_eq] at h1 h2
  omega
 ·rw [List.pairwise_map]
  exact g.rise.imp (fun h=>by simp only [leI,decide_eq_true_eq];omega)

set_option maxHeartbeats 1000000 in
theorem sorted3 (b:Nat) (xs:List ItemD) (w:World) (h:ShelfAt w b xs) (hl:xs.length≤8) (g:Good xs) :
  Calls Tryz.prog 262 #[.func (.func 275) #[] #[.pointer (some ⟨w.heap.size,0,none⟩)]] (w.alloc (.cells #[.map (some b)] 301)) fun e w' => ∃ a c,e=.returned (.slice a xs.length c) ∧
   w'.ownsRow (w.heap.size + 1) 2 1 (.slice a xs.length c) xs.length ((xs.map ItemD.key).map (Value.int .i64))∧Below w.heap.size w w' := by
 have hbl:=h.lt
 have hseq:SeqGives Fence.wide 2 Tryz.prog 275 #[.pointer (some ⟨w.heap.size,0,none⟩)] encZ (fun ss=>ss.Perm (intKeys (shelfD xs))) (Maps.size (shelfD xs)) (w.alloc (.cells #[.map (some b)] 301)):=
  AnyZI.keys_gives (ρ:=shKeys_ren) { shKeys with } Fence.wide _ trivial rfl (by omega) w.heap.size b xs.length (shelfD xs) _ (by simp) (by simp) (by
   obtain ⟨es,clock,hb,Ft,hs,hD⟩:=h
   exact ⟨es,clock,(Below.heap_alloc _ _ b hbl).trans hb,Ft,hs,hD⟩)
 have hz:=shelf_size xs
 have cS:=AnyZI.sorted_in shSorted Fence.wide 5 trivial trivial trivial trivial rfl (by omega) (sorts3 _) (enters_of Tryz.func202 (by kernel_rfl) rfl) 275 #[.pointer (some ⟨w.heap.size,0,none⟩)] trivial (enters_of Tryz.func275 (by kernel_rfl) rfl) _ _ (by rw [hz];unfold maxLen;omega) (by rw [hz];omega) _ hseq
 change CallsIn _ _ Tryz.prog 262 _ _ _ at cS
 refine ((callsIn_wide (n:=5)).1 cS).mono ?_
 rintro e w' ⟨v,ss,rfl,hS,hrow,hnil,hb⟩
 rw [shelf_keys] at hS
 rw [sort_rise g hS] at hrow
 have hlen:ss.length=xs.length:=by simpa using hS.length_eq
 rw [hlen] at hrow
 obtain ⟨a,c,rfl⟩:=own_shape hrow
 refine ⟨a,c,rfl,?_,?_⟩
 ·rw [World.size_alloc] at hrow
  exact hrow
 ·exact ((Below.refl _ w).alloc (Nat.le_refl _) _).trans (hb.mono (by simp))

theorem valI_at {xs:List ItemD} (g:Good xs) {k:Nat} (hk:k < xs.length):valI xs (xs.getD k itemNo).key=(xs.getD k itemNo).val:=by
 have e:xs.getD k itemNo=xs[k]:=by simp [List.getD,hk]
 have hf:xs.find? (fun x=>x.key == (xs.getD k itemNo).key)=some (xs.getD k itemNo):=by
  rw [List.find?_eq_some_iff_getElem]
  refine ⟨by simp,k,hk,e.symm,?_⟩
  intro j hj
  have:=(List.pairwise_iff_getElem.1 g.rise) j k (by omega) hk hj
  rw [e]
  simp
  omega
 unfold valI
 rw [hf]

set_option maxRecDepth 100000 in
set_option maxHeartbeats 1000000 in
theorem items_any (b:Nat) (xs:List ItemD) (w:World) (h:ShelfAt w b xs) (hl:xs.length≤8) (g:Good xs) :
  Calls Tryz.prog 238 #[.map (some b)] w fun e w' => ∃ a c,e=.returned (.slice a xs.length c) ∧
   w'.ownsRow w.heap.size 173 2 (.slice a xs.length c) xs.length (itemCells xs)∧Below w.heap.size w w' := by
 obtain ⟨i0,hi,hz0,hz1,hz2⟩:=info_parts infoItem
 have cS:=sorted3 b xs w h hl g
 go_enter Tryz.func238,Tryz.ntmps238
 go_wp2_with (first | (go_at_call 263;refine (keys3 _ _).mono ?_;rintro e w' ⟨rfl,rfl⟩) | (go_at_call 262;refine cS.mono ?_;rintro e w1 ⟨ka,kc,rfl,hko,hb1⟩))
 clear cS
 have hR:Row .i64 w1 ka (xs.map ItemD.key):=Row.own (zs:=xs.map ItemD.key) (by simpa using hko)
 have h1:=h.below hb1
 clear hko
 go_loopw [3,10] (fun v i wr=>∃ k:Nat,k≤xs.length∧i=.int .i64 k∧wr.ownsRow w1.heap.size 173 2 v k (itemCells (xs.take k))∧Below w1.heap.size w1 wr) (fun _ i _=>xs.length - (intOf i).toNat)
 case atStart=>exact ⟨0,Nat.zero_le _,rfl,World.ownsRow_nil _ _ _ _,Below.refl _ _⟩
 case round=>
  obtain ⟨k,hk,rfl,ho,hb⟩:=hrel
  obtain ⟨a1,c1,rfl⟩:=own_shape ho
  have hsz:=hb.size
  by_cases hlt:k < xs.length
  ·obtain ⟨bb,off,rfl,hbs,hc⟩:=(hR.below hb) k (by simpa using hlt)
   have ek:(xs.map ItemD.key).getD k 0=(xs.getD k itemNo).key:=by simp [List.getD,hlt]
   rw [ek] at hc
   have hsh:=h1.below hb
   have HS:Hid (xs.take (k + 1)=xs.take k ++ [xs.getD k itemNo]):=by
    have e:xs.getD k itemNo=xs[k]:=by simp [List.getD,hlt]
    show _=_
    rw [List.take_succ_eq_append_getElem hlt,e]
   have hgk:=g.key _ (getD_mem hlt)
   have hva:=valI_at g hlt
   have hlook:∀ (ops:Array Oper) (rest:List Oper) (o:Oper) (a:Act) (Q:Exit→Act→World→Prop) (hg:o.guard=none) (m x:Operand) (hop:o.op=Op.lookup 301 m x false) (hm:a.eval m=.map (some b)) (hx:a.eval x=.int .i64 (xs.getD k itemNo).key) (hK:wpList Tryz.prog ops Q rest (a.put o.dst (.int .i64 (xs.getD k itemNo).val)) wr),wpList Tryz.prog ops Q (o :: rest) a wr:=
    fun ops rest o a Q hg m x hop hm hx hK=>wpList_shelf_at wr hg m x hop b xs hm hsh _ hx (by omega) (by rw [hva];exact hK)
   clear hva hsh
   generalize xs.getD k itemNo=z at hc HS hgk hlook
   obtain ⟨z0,z1⟩:=z
   dsimp only at hc hgk hlook
   have hW2:Below w1.heap.size wr (wr.alloc (.cells #[.int .i64 z0,.int .i64 z1] 173)):=(Below.refl _ _).alloc (by omega) _
   have ho2:=ho.alloc (.cells #[.int .i64 z0,.int .i64 z1] 173)
   go_wp2_with (first | (at_lookup;refine hlook _ _ _ _ _ rfl _ _ rfl rfl rfl ?_) | (at_builtin;refine wpList_append_own _ rfl _ _ 53 rfl w1.heap.size 173 i0 (.agg #[.int .i64 0,.int .i64 0]) 2 16 Tryz.underlying53 hi hz0 hz1 hz2 rfl (by decide) _ k (itemCells (xs.take k)) rfl ho2 ⟨wr.heap.size,0,none⟩ 1 1 [.int .i64 z0,.int .i64 z1] rfl rfl ?c1 ?c2 ?c3 ?c4 ?c5 ?_))
   all_goals try
    (case c1=>intro j u hj;match j,hj with | 0,hj=>simp at hj;subst hj;simp [Addr.add] | 1,hj=>simp at hj;subst hj;simp [Addr.add])
   all_goals try (case c2=>first | rfl | (intro u hu;simp at hu;rcases hu with rfl | rfl <;> rfl))
   all_goals try (case c3=>unfold maxLen;omega)
   all_goals try (case c4=>omega)
   all_goals try (case c5=>first | omega | (simp;omega))
   intro v' w3 hown hgrow _
   obtain ⟨a2,c2,rfl⟩:=own_shape hown
   have hW3:Below w1.heap.size wr w3:=hW2.grown hgrow (by simp;omega) (fun j hj=>(ho.lt j hj).1)
   have R:Hid (w3.ownsRow w1.heap.size 173 2 (.slice a2 (k + 1) c2) (k + 1) (itemCells (xs.take (k + 1)))∧Below w1.heap.size w1 w3):=⟨by rw [HS.out];simpa [itemCells,ItemD.cells] using hown,hb.trans hW3⟩
   clear hW2 hgrow ho2 ho hown hW3
   go_wp2
   go_roundw
   case rel=>exact ⟨k + 1,by omega,by go_num,R.out.1,R.out.2⟩
   case measure=>simp [intOf];omega
  ·have hkl:k=xs.length:=by omega
   subst hkl
   rw [List.take_length] at ho
   go_wp2
   go_ret
   exact ⟨_,_,rfl,own_base ho hb1.size,below_from hb1 hb⟩

end Go.Proofs.YtjjoahhnkpjolaaGreatDoor
namespace Go.Proofs.YtjjoahhnkpjolaaGreatDoor
open Go.RowKit Go.Maps
open Go.BigFrame
set_option maxRecDepth 100000
/-- A slice that is nil, or lies somewhere. -/
def Nice (a:Option Addr) (n cap:Nat):Prop:=(∃ ad,a=some ad)∨(a=none∧n=0∧cap=0)

theorem nice_own {w:World} {base e size n c:Nat} {a:Option Addr} {xs:List Value} (h:w.ownsRow base e size (.slice a n c) n xs):Nice a n c:=by
 rcases h.2 with ⟨he,hn⟩ | ⟨g,cap,cur,he,_⟩
 ·simp only [Value.slice.injEq] at he
  obtain ⟨rfl,rfl,rfl⟩:=he
  exact Or.inr ⟨rfl,rfl,rfl⟩
 ·simp only [Value.slice.injEq] at he
  obtain ⟨rfl,_⟩:=he
  exact Or.inl ⟨_,rfl⟩

theorem hasI_none {xs:List ItemD} {k:Int} (h:∀ j,j < xs.length→((xs.getD j itemNo).key == k)=false):hasI xs k=false∧valI xs k=0:=by
 have hn:∀ x∈xs,(x.key == k)=false:=by
  intro x hx
  obtain ⟨j,hj,rfl⟩:=List.mem_iff_getElem.1 hx
  simpa [List.getD,hj] using h j hj
 constructor
 ·unfold hasI
  rw [List.any_eq_false]
  intro x hx
  simp [hn x hx]
 ·unfold valI
  have:xs.find? (fun x=>x.key == k)=none:=by
   rw [List.find?_eq_none]
   intro x hx
   simp [hn x hx]
  rw [this]

theorem hasI_first {xs:List ItemD} {k:Int} {j:Nat} (hj:j < xs.length) (h0:∀ i,i < j→((xs.getD i itemNo).key == k)=false) (h1:((xs.getD j itemNo).key == k)=true):hasI xs k=true∧valI xs k=(xs.getD j itemNo).val:=by
 have e:xs.getD j itemNo=xs[j]:=by simp [List.getD,hj]
 constructor
 ·unfold hasI
  rw [List.any_eq_true]
  exact ⟨_,getD_mem hj,h1⟩
 ·unfold valI
  have:xs.find? (fun x=>x.key == k)=some (xs.getD j itemNo):=by
   rw [List.find?_eq_some_iff_getElem]
   refine ⟨h1,j,hj,e.symm,?_⟩
   intro i hi
   have:=h0 i hi
   simp [List.getD,show i < xs.length by omega] at this
   simpa using this
  rw [this]

set_option maxHeartbeats 1000000 in
theorem l3At_any (a:Option Addr) (cap:Nat) (xs:List ItemD) (k:Int) (w:World) (h:ItemRow w a xs) (hl:xs.length≤1048576) :
  Calls Tryz.prog 227 #[.slice a xs.length cap,.int .i64 k] w fun e w' => ∃ r:Int,e=.returned (.int .i64 r)∧((r=-1∧hasI xs k=false∧valI xs k=0)∨∃ j:Nat,r=j∧j < xs.length∧hasI xs k=true∧valI xs k=(xs.getD j itemNo).val)∧w' = w:=by
 go_enter Tryz.func227,Tryz.ntmps227
 go_wp2
 go_loop [5] (fun i=>∃ j:Nat,j≤xs.length∧i=.int .i64 j∧Hid (∀ i,i < j→((xs.getD i itemNo).key == k)=false)) (fun i=>xs.length - (intOf i).toNat)
 case atStart=>exact ⟨0,Nat.zero_le _,rfl,fun j hj=>absurd hj (Nat.not_lt_zero _)⟩
 case round=>
  obtain ⟨j,hj,rfl,HA⟩:=hrel
  by_cases hlt:j < xs.length
  ·obtain ⟨b,off,rfl,hbs,hc0,hc1⟩:=h.at j hlt
   clear hc1
   cases he:((xs.getD j itemNo).key == k)
   ·have HB:Hid (∀ i,i < j + 1→((xs.getD i itemNo).key == k)=false):=by
     intro i hi
     by_cases hij:i=j
     ·subst hij;exact he
     ·exact HA.out i (by omega)
    clear HA
    generalize (xs.getD j itemNo).key=z at hc0 he
    go_wp2
    go_round
    case rel=>exact ⟨j + 1,by omega,by go_num,HB⟩
    case measure=>simp [intOf];omega
   ·have E:Hid (hasI xs k=true∧valI xs k=(xs.getD j itemNo).val):=hasI_first hlt HA.out he
    clear HA
    generalize (xs.getD j itemNo).key=z at hc0 he
    go_wp2
    go_ret
    exact ⟨_,rfl,Or.inr ⟨j,rfl,hlt,E.out.1,E.out.2⟩,rfl⟩
  ·have hjl:j=xs.length:=by omega
   subst hjl
   have E:Hid (hasI xs k=false∧valI xs k=0):=hasI_none HA.out
   clear HA
   go_wp2
   go_ret
   exact ⟨_,rfl,Or.inl ⟨rfl,E.out.1,E.out.2⟩,rfl⟩

set_option maxHeartbeats 1000000 in
theorem l3Value_any (a:Option Addr) (cap:Nat) (xs:List ItemD) (k:Int) (w:World) (h:ItemRow w a xs) (hl:xs.length≤1048576) :
  Calls Tryz.prog 226 #[.slice a xs.length cap,.int .i64 k] w fun e w' => e=.returned (.int .i64 (valI xs k))∧w' = w:=by
 have hc:=fun w h=>l3At_any a cap xs k w h hl
 go_enter Tryz.func226,Tryz.ntmps226
 go_wp2_with fail
 refine (hc _ h).mono ?_
 rintro e w' ⟨r,rfl,⟨rfl,_,ev⟩ | ⟨j,rfl,hj,_,ev⟩,hw⟩
 ·replace hw:=hw.symm
  subst hw
  go_wp2
  go_ret
  rw [ev]
  exact ⟨rfl,rfl⟩
 ·replace hw:=hw.symm
  subst hw
  obtain ⟨b,off,rfl,hbs,hc0,hc1⟩:=h.at j hj
  have E:Hid (valI xs k=(xs.getD j itemNo).val):=ev
  clear hc0 ev hc
  generalize (xs.getD j itemNo).val=z at hc1 E
  go_wp2
  go_ret
  rw [E.out]
  exact ⟨rfl,rfl⟩

end Go.Proofs.YtjjoahhnkpjolaaGreatDoor
