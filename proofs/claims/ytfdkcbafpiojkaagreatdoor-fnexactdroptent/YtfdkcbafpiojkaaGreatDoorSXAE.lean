/- Texts joined, with what the law reaches alone. -/
import Derived.Test.YtfdkcbafpiojkaaGreatDoorSXAB
import Derived.Test.YtfdkcbafpiojkaaGreatDoorSXAD
import Derived.Maps.OwnSet
import Derived.Maps.Ext
import Derived.Lib.SlKeysI
import Derived.Test.YtfdkcbafpiojkaaGreatDoorSXAC
import Derived.Shelf.SlIterI.Nil
import Derived.Shelf.SortM.Plain
import Derived.Shelf.SortM.SortNone
import Derived.Test.YtfdkcbafpiojkaaGreatDoorProg
set_option linter.unusedVariables false
set_option linter.unusedSimpArgs false
namespace Go.Proofs.YtfdkcbafpiojkaaGreatDoor
open Go.RowKit
open Go.BigFrame
set_option maxRecDepth 100000
/-- The first of f 0, f 1 .. f (n - 1) that is not 0; else 0. -/
def firstNZ (f:Nat→Int):Nat→Int
 | 0=>0
 | n + 1=>if firstNZ f n=0 then f n else firstNZ f n

theorem firstNZ_none (f:Nat→Int):∀ n,(∀ j,j < n→f j=0)→firstNZ f n=0
 | 0,_=>rfl
 | n + 1,h=>by
  have:=firstNZ_none f n (fun j hj=>h j (by omega))
  simp only [firstNZ,this,if_true]
  exact h n (by omega)

theorem firstNZ_first (f:Nat→Int) (k:Nat) (h:∀ j,j < k→f j=0) (hne:f k≠0):∀ n,k < n→firstNZ f n=f k
 | 0,hk=>by omega
 | n + 1,hk=>by
  by_cases e:k=n
  ·subst e
   simp only [firstNZ,firstNZ_none f k h,if_true]
  ·have:=firstNZ_first f k h hne n (by omega)
   simp only [firstNZ,this,hne,if_false]

theorem firstNZ_zero (f:Nat→Int):∀ n,firstNZ f n=0→∀ j,j < n→f j=0
 | 0,_,j,hj=>by omega
 | n + 1,h,j,hj=>by
  simp only [firstNZ] at h
  by_cases e:firstNZ f n=0
  ·rw [if_pos e] at h
   by_cases ej:j=n
   ·subst ej;exact h
   ·exact firstNZ_zero f n e j (by omega)
  ·rw [if_neg e] at h;exact absurd h e

def prevK (xs:List ItemD) (k:Nat):Int:=if k=0 then 0 else (xs.getD (k - 1) itemNo).key

def itF (xs:List ItemD) (k:Nat):Int:=
 if inW (xs.getD k itemNo).key 1 20=false∨inW (xs.getD k itemNo).val (-20000) 20000=false then 3
 else if (xs.getD k itemNo).key≤prevK xs k then 1 else 0

def itemsF (xs:List ItemD):Int:=if 8 < xs.length then 2 else firstNZ (itF xs) xs.length

theorem itF_ways (xs:List ItemD) (k:Nat) :
  (inW (xs.getD k itemNo).key 1 20=false∧itF xs k=3)∨(inW (xs.getD k itemNo).key 1 20=true∧inW (xs.getD k itemNo).val (-20000) 20000=false∧itF xs k=3) ∨
  (inW (xs.getD k itemNo).key 1 20=true∧inW (xs.getD k itemNo).val (-20000) 20000=true∧(xs.getD k itemNo).key≤prevK xs k∧itF xs k=1) ∨
  (inW (xs.getD k itemNo).key 1 20=true∧inW (xs.getD k itemNo).val (-20000) 20000=true∧¬ (xs.getD k itemNo).key≤prevK xs k∧itF xs k=0):=by
 unfold itF
 generalize xs.getD k itemNo=x
 generalize prevK xs k=p
 cases h1:inW x.key 1 20 <;> cases h2:inW x.val (-20000) 20000 <;> by_cases h3:x.key≤p <;> simp [h3]

set_option maxHeartbeats 400000 in
theorem isItemValue_any (n:Int) (w:World) :
  Calls Tryz.prog 147 #[.int .i64 n] w fun e w' => e=.returned (.bool (inW n (-20000) 20000))∧w' = w:=by
 have hc:=fun w=>isWithin_any n (-20000) 20000 w
 generalize inW n (-20000) 20000=r at hc
 go_enter Tryz.func147,Tryz.ntmps147
 go_wp2_with (go_at_call 146;refine (hc _).mono ?_;rintro e w' ⟨rfl,rfl⟩)
 go_ret
 exact ⟨rfl,rfl⟩

set_option maxHeartbeats 1000000 in
theorem implItemsFault_any (a:Option Addr) (cap:Nat) (zs:List ItemD) (w:World) (h:ItemRow w a zs) (hl:zs.length≤1048576) :
  Calls Tryz.prog 82 #[.slice a zs.length cap] w fun e w' => e=.returned (.int .i64 (itemsF zs))∧Below w.heap.size w w' := by
 by_cases h8:8 < zs.length
 ·have E:itemsF zs=2:=if_pos h8
  rw [E]
  go_enter Tryz.func82,Tryz.ntmps82
  go_wp2
  go_ret
  exact ⟨rfl,Below.refl _ _⟩
 have E:itemsF zs=firstNZ (itF zs) zs.length:=if_neg h8
 rw [E]
 clear E
 go_enter Tryz.func82,Tryz.ntmps82
 go_wp2
 go_loopw [3,11] (fun l j wr=>∃ k:Nat,k≤zs.length∧j=.int .i64 k∧l=.int .i64 (prevK zs k)∧Below w.heap.size w wr∧Hid (∀ j,j < k→itF zs j=0)) (fun _ j _=>zs.length - (intOf j).toNat)
 case atStart=>exact ⟨0,Nat.zero_le _,rfl,rfl,Below.refl _ _,fun j hj=>absurd hj (Nat.not_lt_zero _)⟩
 case round=>
  obtain ⟨k,hk,rfl,rfl,hb,HA⟩:=hrel
  by_cases hlt:k < zs.length
  ·obtain ⟨b,off,rfl,hbs,hc0,hc1⟩:=(h.below hb).at k hlt
   have hsz:=hb.size
   have HK:Hid (prevK zs (k + 1)=(zs.getD k itemNo).key):=if_neg (Nat.succ_ne_zero k)
   rcases itF_ways zs k with ⟨h1,hF⟩ | ⟨h1,h2,hF⟩ | ⟨h1,h2,h3,hF⟩ | ⟨h1,h2,h3,hF⟩
   case inr.inr.inr=>
    have HB:Hid (∀ j,j < k + 1→itF zs j=0):=by
     intro j hj
     by_cases hjk:j=k
     ·subst hjk;exact hF
     ·exact HA.out j (by omega)
    clear HA hF
    generalize prevK zs k=p at h3
    generalize zs.getD k itemNo=z at hc0 hc1 h1 h2 h3 HK
    obtain ⟨z0,z1⟩:=z
    dsimp only at hc0 hc1 h1 h2 h3 HK
    go_wp2_with (first | (go_at_call 146;refine (isWithin_any _ _ _ _).mono ?_;rintro e w' ⟨rfl,rfl⟩) | (go_at_call 147;refine (isItemValue_any _ _).mono ?_;rintro e w' ⟨rfl,rfl⟩))
    go_roundw
    case rel=>exact ⟨k + 1,by omega,by go_num,by rw [HK.out],by go_grown,HB⟩
    case measure=>simp [intOf];omega
   all_goals
    have E:Hid (firstNZ (itF zs) zs.length=_):=firstNZ_first (itF zs) k HA.out (by rw [hF];decide) zs.length hlt
    rw [hF] at E
    clear HA hF HK
    generalize prevK zs k=p at *
    generalize zs.getD k itemNo=z at *
    obtain ⟨z0,z1⟩:=z
    dsimp only at *
    go_wp2_with (first | (go_at_call 146;refine (isWithin_any _ _ _ _).mono ?_;rintro e w' ⟨rfl,rfl⟩) | (go_at_call 147;refine (isItemValue_any _ _).mono ?_;rintro e w' ⟨rfl,rfl⟩))
    go_ret
    rw [E.out]
    exact ⟨rfl,by go_grown⟩
  ·have hkl:k=zs.length:=by omega
   subst hkl
   have E:Hid (firstNZ (itF zs) zs.length=0):=firstNZ_none _ _ HA.out
   clear HA
   go_wp2
   go_ret
   rw [E.out]
   exact ⟨rfl,hb⟩

end Go.Proofs.YtfdkcbafpiojkaaGreatDoor
namespace Go.Proofs.YtfdkcbafpiojkaaGreatDoor
open Go.RowKit Go.Maps
set_option maxRecDepth 100000
def hasI (xs:List ItemD) (k:Int):Bool:=xs.any (fun x=>x.key == k)

def valI (xs:List ItemD) (k:Int):Int:=match xs.find? (fun x=>x.key == k) with | some x=>x.val | none=>0

def insI (x:ItemD):List ItemD→List ItemD
 | []=>[x]
 | y :: r=>if x.key < y.key then x :: y :: r else y :: insI x r

def delI (xs:List ItemD) (k:Int):List ItemD:=xs.filter (fun y=>!(y.key == k))

def setI (xs:List ItemD) (x:ItemD):List ItemD:=insI x (delI xs x.key)

/-- Items that are right, however many. -/
structure Good (xs:List ItemD):Prop where
 rise:xs.Pairwise (fun a b=>a.key < b.key)
 key:∀ x∈xs,1≤x.key∧x.key≤20
 val:∀ x∈xs,-20000≤x.val∧x.val≤20000

theorem getD_mem {xs:List ItemD} {k:Nat} (h:k < xs.length):xs.getD k itemNo∈xs:=by simp [List.getD,h]

theorem good_of_F {xs:List ItemD} (h:itemsF xs=0):xs.length≤8∧Good xs:=by
 have h8:¬ 8 < xs.length:=by
  intro h8
  simp [itemsF,h8] at h
 have hz:=firstNZ_zero (itF xs) xs.length (by simpa [itemsF,h8] using h)
 have hw:∀ j,j < xs.length→(1≤(xs.getD j itemNo).key∧(xs.getD j itemNo).key≤20)∧(-20000≤(xs.getD j itemNo).val∧(xs.getD j itemNo).val≤20000)∧prevK xs j < (xs.getD j itemNo).key:=by
  intro j hj
  rcases itF_ways xs j with ⟨_,e⟩ | ⟨_,_,e⟩ | ⟨_,_,_,e⟩ | ⟨h1,h2,h3,e⟩
  ·rw [hz j hj] at e;simp at e
  ·rw [hz j hj] at e;simp at e
  ·rw [hz j hj] at e;simp at e
  ·simp [inW] at h1 h2
   exact ⟨by simpa using h1,by simpa using h2,by omega⟩
 have hmem:∀ x∈xs,∃ j,j < xs.length∧x=xs.getD j itemNo:=by
  intro x hx
  obtain ⟨j,hj,rfl⟩:=List.mem_iff_getElem.1 hx
  exact ⟨j,hj,by simp [List.getD,hj]⟩
 refine ⟨by omega,?_,?_,?_⟩
 ·have step:∀ j,j + 1 < xs.length→(xs.getD j itemNo).key < (xs.getD (j + 1) itemNo).key:=by
   intro j hj
   have:=(hw (j + 1) hj).2.2
   simpa [prevK] using this
  have far:∀ d j,j + d + 1 < xs.length→(xs.getD j itemNo).key < (xs.getD (j + d + 1) itemNo).key:=by
   intro d
   induction d with
   | zero=>intro j hj;exact step j hj
   | succ d ih=>
    intro j hj
    have h1:=ih j (by omega)
    have h2:=step (j + d + 1) (by omega)
    rw [show j + (d + 1) + 1=j + d + 1 + 1 by omega]
    omega
  rw [List.pairwise_iff_getElem]
  intro i j hi hj hij
  have:=far (j - i - 1) i (by omega)
  rw [show i + (j - i - 1) + 1=j by omega] at this
  simpa [List.getD,hi,hj] using this
 ·intro x hx
  obtain ⟨j,hj,rfl⟩:=hmem x hx
  exact (hw j hj).1
 ·intro x hx
  obtain ⟨j,hj,rfl⟩:=hmem x hx
  exact (hw j hj).2.1

theorem F_of_good {xs:List ItemD} (hl:xs.length≤8) (g:Good xs):itemsF xs=0:=by
 unfold itemsF
 rw [if_neg (by omega)]
 refine firstNZ_none _ _ ?_
 intro j hj
 have hm:=getD_mem hj
 have hk:=g.key _ hm
 have hv:=g.val _ hm
 have hp:prevK xs j < (xs.getD j itemNo).key:=by
  unfold prevK
  split
  ·omega
  ·have:=(List.pairwise_iff_getElem.1 g.rise) (j - 1) j (by omega) hj (by omega)
   simpa [List.getD,hj,show j - 1 < xs.length by omega] using this
 have hw:=itF_ways xs j
 generalize xs.getD j itemNo=x at hk hv hp hw
 rcases hw with ⟨h1,_⟩ | ⟨_,h2,_⟩ | ⟨_,_,h3,_⟩ | ⟨_,_,_,e⟩
 ·simp [inW] at h1;omega
 ·simp [inW] at h2;omega
 ·omega
 ·exact e

theorem mem_insI {x y:ItemD}:∀ {l:List ItemD},y∈insI x l↔y=x∨y∈l
 | []=>by simp [insI]
 | z :: r=>by
  simp only [insI]
  split
  ·simp
  ·simp only [List.mem_cons,mem_insI (l:=r)]
   constructor
   ·rintro (h | h | h) <;> simp [h]
   ·rintro (h | h | h) <;> simp [h]

theorem insI_rise {x:ItemD}:∀ {l:List ItemD},l.Pairwise (fun a b=>a.key < b.key)→(∀ y∈l,y.key≠x.key)→(insI x l).Pairwise (fun a b=>a.key < b.key)
 | [],_,_=>by simp [insI]
 | z :: r,h,hne=>by
  rw [List.pairwise_cons] at h
  simp only [insI]
  split
  ·rename_i hlt
   rw [List.pairwise_cons]
   refine ⟨?_,List.pairwise_cons.2 h⟩
   intro y hy
   rcases List.mem_cons.1 hy with rfl | hy
   ·exact hlt
   ·have:=h.1 y hy;omega
  ·rename_i hlt
   rw [List.pairwise_cons]
   refine ⟨?_,insI_rise h.2 (fun y hy=>hne y (by simp [hy]))⟩
   intro y hy
   rcases mem_insI.1 hy with rfl | hy
   ·have:=hne z (by simp);omega
   ·exact h.1 y hy

theorem mem_delI {xs:List ItemD} {k:Int} {y:ItemD}:y∈delI xs k↔y∈xs∧y.key≠k:=by simp [delI]

theorem Good.del {xs:List ItemD} (g:Good xs) (k:Int):Good (delI xs k):=
 ⟨g.rise.filter _,fun x hx=>g.key x (mem_delI.1 hx).1,fun x hx=>g.val x (mem_delI.1 hx).1⟩

theorem Good.set {xs:List ItemD} (g:Good xs) {x:ItemD} (hk:1≤x.key∧x.key≤20) (hv:-20000≤x.val∧x.val≤20000):Good (setI xs x):=by
 refine ⟨insI_rise (g.del x.key).rise (fun y hy=>(mem_delI.1 hy).2),?_,?_⟩
 ·intro y hy
  rcases mem_insI.1 hy with rfl | hy
  ·exact hk
  ·exact g.key y (mem_delI.1 hy).1
 ·intro y hy
  rcases mem_insI.1 hy with rfl | hy
  ·exact hv
  ·exact g.val y (mem_delI.1 hy).1

theorem Good.valI {xs:List ItemD} (g:Good xs) (k:Int):-20000≤valI xs k∧valI xs k≤20000:=by
 unfold Go.Proofs.YtfdkcbafpiojkaaGreatDoor.valI
 cases h:xs.find? (fun x=>x.key == k) with
 | none=>simp
 | some x=>exact g.val x (List.mem_of_find?_eq_some h)

/-- Items as the map that holds them reads. -/
def litI (x:ItemD):Lit × DataW Unit:=(.int .i64 x.key,.lit (.int .i64 x.val))

def shelfD (xs:List ItemD):DataW Unit:=.map (xs.map litI)

theorem sameKey_i64 (a b:Int):(Lit.int .i64 a).sameKey (.int .i64 b)=(a == b):=by
 simp [Lit.sameKey]
 rfl

theorem shelf_size (xs:List ItemD):Maps.size (shelfD xs)=xs.length:=by simp [shelfD,Maps.size_eq]

theorem shelf_has (xs:List ItemD) (k:Int):Maps.has (shelfD xs) (.int .i64 k)=hasI xs k:=by
 rw [shelfD,Maps.has_eq,List.any_map]
 unfold hasI
 congr 1
 funext x
 exact sameKey_i64 x.key k

theorem shelf_at (xs:List ItemD) (k:Int):(shelfD xs).atKey (.int .i64 k) (.lit (.int .i64 0))=.lit (.int .i64 (valI xs k)):=by
 unfold shelfD DataW.atKey valI
 dsimp only
 rw [List.find?_map]
 have e:((fun p:Lit × DataW Unit=>p.1.sameKey (.int .i64 k)) ∘ litI)=fun x:ItemD=>x.key == k:=by
  funext x
  exact sameKey_i64 x.key k
 rw [e]
 cases xs.find? (fun x=>x.key == k) <;> rfl

theorem insert_map (x:ItemD):∀ l:List ItemD,DataW.insert (litI x) (l.map litI)=(insI x l).map litI
 | []=>rfl
 | y :: r=>by
  simp only [List.map_cons,DataW.insert,insI]
  have e:(litI x).1.before (litI y).1=decide (x.key < y.key):=rfl
  rw [e]
  by_cases h:x.key < y.key
  ·simp [h]
  ·simp [h,insert_map x r]

theorem filter_litI (xs:List ItemD) (k:Int):(xs.map litI).filter (fun p=>!p.1.sameKey (.int .i64 k))=(delI xs k).map litI:=by
 rw [List.filter_map,delI]
 congr 1
 congr 1
 funext x
 exact congrArg (!·) (sameKey_i64 x.key k)

theorem shelf_put (xs:List ItemD) (k v:Int):(shelfD xs).put (.int .i64 k) (.lit (.int .i64 v))=shelfD (setI xs ⟨k,v⟩):=by
 unfold shelfD DataW.put
 dsimp only
 rw [filter_litI,show ((Lit.int .i64 k,DataW.lit (Lit.int .i64 v)):Lit × DataW Unit)=litI ⟨k,v⟩ from rfl,insert_map]
 rfl

theorem shelf_del (xs:List ItemD) (k:Int):(shelfD xs).del (.int .i64 k)=shelfD (delI xs k):=by
 unfold shelfD DataW.del
 dsimp only
 rw [filter_litI]

theorem shelf_keys (xs:List ItemD):intKeys (shelfD xs)=xs.map ItemD.key:=by
 simp only [shelfD,intKeys,List.map_map]
 rfl

theorem shelf_tidy {xs:List ItemD} (h:xs.Pairwise (fun a b=>a.key < b.key)):Maps.Tidy (shelfD xs):=by
 refine ⟨_,rfl,?_⟩
 rw [List.pairwise_map]
 refine h.imp ?_
 intro a b hab e
 simp only [litI,Lit.int.injEq,true_and] at e
 omega

theorem setI_length {xs:List ItemD} (g:Good xs) (x:ItemD):(setI xs x).length=if hasI xs x.key then xs.length else xs.length + 1:=by
 have:=Maps.size_put (k:=.int .i64 x.key) (shelf_tidy g.rise) (.lit (.int .i64 x.val))
 rw [shelf_put,shelf_size,shelf_has,shelf_size] at this
 exact this

theorem delI_length (xs:List ItemD) (k:Int):(delI xs k).length≤xs.length:=List.length_filter_le _ _

/-- What the model's setting comes to, element by element. -/
def setR (x:ItemD):Bool→List ItemD→List ItemD
 | d,[]=>if d then [] else [x]
 | d,y :: r=>(if !d && decide (x.key≤y.key) then [x] else []) ++ ((if y.key == x.key then [] else [y]) ++ setR x (d || decide (x.key≤y.key)) r)

theorem setR_true (x:ItemD):∀ l:List ItemD,setR x true l=delI l x.key
 | []=>rfl
 | y :: r=>by
  have ih:=setR_true x r
  unfold delI at ih ⊢
  simp only [setR,Bool.not_true,Bool.false_and,Bool.true_or,List.filter_cons,ih]
  cases h:(y.key == x.key) <;> simp

theorem insI_low {x:ItemD}:∀ {l:List ItemD},(∀ y∈l,x.key < y.key)→insI x l=x :: l
 | [],_=>rfl
 | y :: r,h=>by simp [insI,h y (by simp)]

theorem setR_false (x:ItemD):∀ {l:List ItemD},l.Pairwise (fun a b=>a.key < b.key)→setR x false l=setI l x
 | [],_=>rfl
 | y :: r,h=>by
  rw [List.pairwise_cons] at h
  have ih:=setR_false x h.2
  simp only [setR,Bool.not_false,Bool.true_and,Bool.false_or]
  by_cases h1:y.key=x.key
  ·have e:(y.key == x.key)=true:=by simp [h1]
   have e2:decide (x.key≤y.key)=true:=by simp [h1]
   rw [e,e2,setR_true]
   unfold setI
   have e3:delI (y :: r) x.key=delI r x.key:=by simp [delI,h1]
   rw [e3,insI_low (fun z hz=>by have:=h.1 z (mem_delI.1 hz).1;omega)]
   simp
  ·have e:(y.key == x.key)=false:=by simp [h1]
   have e3:delI (y :: r) x.key=y :: delI r x.key:=by simp [delI,h1]
   by_cases h2:x.key≤y.key
   ·have e2:decide (x.key≤y.key)=true:=by simp [h2]
    rw [e,e2,setR_true]
    unfold setI
    rw [e3]
    simp [insI,show x.key < y.key by omega]
   ·have e2:decide (x.key≤y.key)=false:=by simp [h2]
    rw [e,e2,ih]
    unfold setI
    rw [e3]
    simp [insI,show ¬ x.key < y.key by omega]

/-- A number laid at a key: the code. -/
def layC (xs:List ItemD) (k v:Int):Int:=if inW v (-20000) 20000=false then 3 else if hasI xs k=false∧8≤xs.length then 7 else 0

/-- An act done: the code, and what is there then. -/
def actC (xs:List ItemD) (a:ActD):Int:=
 if a.kind=1 then layC xs a.key a.val else if a.kind=2 then layC xs a.key (valI xs a.key + a.val)
 else if a.kind=3 then (if hasI xs a.key=true then 0 else 4) else (if hasI xs a.key=true∧valI xs a.key=a.val then 0 else 9)

def actN (xs:List ItemD) (a:ActD):List ItemD:=
 if a.kind=1 then setI xs ⟨a.key,a.val⟩ else if a.kind=2 then setI xs ⟨a.key,valI xs a.key + a.val⟩ else if a.kind=3 then delI xs a.key else xs

theorem actF_zero {a:ActD} (h:actF a=0):(1≤a.kind∧a.kind≤4)∧(1≤a.key∧a.key≤20)∧(-1000≤a.val∧a.val≤1000):=by
 obtain ⟨k,y,v⟩:=a
 rcases actF_ways k y v with ⟨_,e⟩ | ⟨_,_,_,e⟩ | ⟨h1,_,⟨_,e⟩ | ⟨_,_,e⟩ | ⟨h4,h5,_⟩⟩
 ·rw [h] at e;simp at e
 ·rw [h] at e;simp at e
 ·rw [h] at e;simp at e
 ·rw [h] at e;simp at e
 ·simp [inW] at h1 h4 h5
  exact ⟨h1,h4,h5⟩

theorem lay_good {xs:List ItemD} {k v:Int} (hl:xs.length≤8) (g:Good xs) (hk:1≤k∧k≤20) (h:layC xs k v=0):(setI xs ⟨k,v⟩).length≤8∧Good (setI xs ⟨k,v⟩):=by
 unfold layC at h
 split at h
 ·simp at h
 ·rename_i hv
  split at h
  ·simp at h
  ·rename_i hh
   simp [inW] at hv
   refine ⟨?_,g.set hk (by simpa using hv)⟩
   rw [setI_length g]
   dsimp only
   cases e:hasI xs k
   ·simp [e] at hh ⊢;omega
   ·simp;omega

theorem act_good {xs:List ItemD} {a:ActD} (hl:xs.length≤8) (g:Good xs) (ha:actF a=0) (h:actC xs a=0):(actN xs a).length≤8∧Good (actN xs a):=by
 obtain ⟨hk,hy,hv⟩:=actF_zero ha
 unfold actC at h
 unfold actN
 split
 ·rename_i e;rw [if_pos e] at h;exact lay_good hl g hy h
 ·rename_i e;rw [if_neg e] at h
  split
  ·rename_i e;rw [if_pos e] at h;exact lay_good hl g hy h
  ·split
   ·exact ⟨Nat.le_trans (delI_length _ _) hl,g.del _⟩
   ·exact ⟨hl,g⟩

/-- Acts done one by one, up to the first code. -/
def runA:List ItemD→List ActD→Int × List ItemD
 | xs,[]=>(0,xs)
 | xs,a :: r=>if actC xs a=0 then runA (actN xs a) r else (actC xs a,[])

theorem run_good:∀ {zs:List ActD} {xs:List ItemD},xs.length≤8→Good xs→(∀ a∈zs,actF a=0)→(runA xs zs).1=0→(runA xs zs).2.length≤8∧Good (runA xs zs).2
 | [],xs,hl,g,_,_=>⟨hl,g⟩
 | a :: r,xs,hl,g,ha,h=>by
  simp only [runA] at h ⊢
  by_cases e:actC xs a=0
  ·rw [if_pos e] at h ⊢
   obtain ⟨h1,h2⟩:=act_good hl g (ha a (by simp)) e
   exact run_good h1 h2 (fun b hb=>ha b (by simp [hb])) h
  ·rw [if_neg e] at h
   exact absurd h e

theorem acts_of_F {i s q:Int} {zs:List ActD} (h:txnF i s q zs=0):(1≤zs.length∧zs.length≤4)∧∀ a∈zs,actF a=0:=by
 rcases txnF_ways i s q zs with ⟨_,e⟩ | ⟨_,_,e⟩ | ⟨_,_,_,e⟩ | ⟨_,_,_,⟨_,e⟩ | ⟨_,e⟩ | ⟨h4,h5,e⟩⟩
 ·rw [h] at e;simp at e
 ·rw [h] at e;simp at e
 ·rw [h] at e;simp at e
 ·rw [h] at e;simp at e
 ·rw [h] at e;simp at e
 ·refine ⟨by omega,?_⟩
  rw [h] at e
  have:∀ l:List ActD,actsF l=0→∀ a∈l,actF a=0:=by
   intro l
   induction l with
   | nil=>simp
   | cons x r ih=>
    intro h0 a ha
    simp only [actsF] at h0
    by_cases hx:actF x=0
    ·rw [if_pos hx] at h0
     rcases List.mem_cons.1 ha with rfl | ha
     ·exact hx
     ·exact ih h0 a ha
    ·rw [if_neg hx] at h0;exact absurd h0 hx
  exact this zs e.symm

end Go.Proofs.YtfdkcbafpiojkaaGreatDoor
namespace Go.Proofs.YtfdkcbafpiojkaaGreatDoor
open Go.RowKit
set_option maxRecDepth 100000
end Go.Proofs.YtfdkcbafpiojkaaGreatDoor
namespace Go.Proofs.YtfdkcbafpiojkaaGreatDoor
open Go.RowKit
set_option maxRecDepth 100000
/-- v owns its row, which lies in blocks from lo up to hi. -/
def OwnS (e size lo hi:Nat) (w:World) (v:Value) (n:Nat) (xs:List Value):Prop:=w.ownsRow lo e size v n xs∧∀ g,v.ownBlock=some g→g < hi

theorem OwnS.of {e size lo n:Nat} {w:World} {v:Value} {xs:List Value} (o:w.ownsRow lo e size v n xs):OwnS e size lo w.heap.size w v n xs:=⟨o,fun g hg=>(o.lt g hg).2⟩

theorem OwnS.below {e size lo hi n:Nat} {w w' : World} {v:Value} {xs:List Value} (o:OwnS e size lo hi w v n xs) (hb:Below w.heap.size w w'):OwnS e size lo hi w' v n xs:=⟨own_below o.1 hb,o.2⟩

theorem OwnS.only {e size lo hi n lo' hi' : Nat} {w w' : World} {v:Value} {xs:List Value} (o:OwnS e size lo hi w v n xs) (h:Only lo' hi' w w') (hh:hi' ≤ lo):OwnS e size lo hi w' v n xs:=⟨own_only o.1 h hh,o.2⟩

theorem OwnS.lies {e size lo hi n c:Nat} {w:World} {a:Option Addr} {xs:List Value} (o:OwnS e size lo hi w (.slice a n c) n xs):Lies w a xs:=Lies.own o.1

theorem OwnS.wide {e size lo hi n lo' hi' : Nat} {w:World} {v:Value} {xs:List Value} (o:OwnS e size lo hi w v n xs) (h:lo' ≤ lo) (hh:hi≤hi'):OwnS e size lo' hi' w v n xs:=⟨own_base o.1 h,fun g hg=>Nat.lt_of_lt_of_le (o.2 g hg) hh⟩

theorem OwnS.grown {e size lo hi n:Nat} {w w' : World} {v:Value} {xs:List Value} (o:OwnS e size lo hi w v n xs) (hg:w.grownBy w' v.ownBlock):Only lo hi w w' := only_of_grown hg (fun g h=>⟨(o.1.lt g h).1,o.2 g h⟩)

/-- Another list's marking leaves it, where the two lie in two blocks. -/
theorem OwnS.beside {e size lo hi n:Nat} {w w' : World} {v v' : Value} {xs:List Value} (o:OwnS e size lo hi w v n xs) (hg:w.grownBy w' v'.ownBlock) (h:v.ownBlock=none∨v.ownBlock≠v'.ownBlock):OwnS e size lo hi w' v n xs:=⟨o.1.kept hg h,o.2⟩

-- 49

theorem OwnTxns.only {lo hi lo' hi' : Nat} {w w' : World} {v:Value} {ds:List TxnD} (h:OwnTxns lo hi w v ds) (ho:Only lo' hi' w w') (hh:hi' ≤ lo):OwnTxns lo hi w' v ds:=by
 obtain ⟨g,cap,ps,e,hg,hd,o,hp⟩:=h
 exact ⟨g,cap,ps,e,hg,hd,own_only o ho hh,fun p hm=>⟨own_only (hp p hm).1 ho hh,(hp p hm).2⟩⟩

end Go.Proofs.YtfdkcbafpiojkaaGreatDoor
namespace Go.Proofs.YtfdkcbafpiojkaaGreatDoor
open Go.RowKit Go.Maps Go.Sort Go.Shelf
def shKeys_ren:Go.Shelf.Ren:=⟨fun | 7=>154 | 10=>185 | n=>n,fun | 23=>143 | 26=>2 | 3=>2 | 28=>218 | 0=>0 | 27=>217 | 33=>210 | 4=>4 | n=>n,fun | n=>n⟩

theorem shKeys:Go.Proofs.SlLaysZI.n7 Tryz.prog shKeys_ren:={
 mixed:=by kernel_rfl,
 f7:=⟨Tryz.f154.name,by decide,Tryz.func154.trans (congrArg some (by kernel_rfl))⟩,
 f10:=⟨Tryz.f185.name,by decide,Tryz.func185.trans (congrArg some (by kernel_rfl))⟩,
 t0:=Tryz.underlying0,
 a0:=Tryz.isAgg0,
 z0:=Tryz.sizeOf0,
 v0:=Tryz.zeroValue0,
 t4:=Tryz.underlying4,
 a4:=Tryz.isAgg4,
 z4:=Tryz.sizeOf4,
 v4:=Tryz.zeroValue4,
 t23:=Tryz.underlying143,
 a23:=Tryz.isAgg143,
 z23:=Tryz.sizeOf143,
 v23:=Tryz.zeroValue143,
 t26:=Tryz.underlying2,
 a26:=Tryz.isAgg2,
 z26:=Tryz.sizeOf2,
 v26:=Tryz.zeroValue2,
 t27:=Tryz.underlying217,
 a27:=Tryz.isAgg217,
 z27:=Tryz.sizeOf217,
 v27:=Tryz.zeroValue217,
 t28:=Tryz.underlying218,
 a28:=Tryz.isAgg218,
 z28:=Tryz.sizeOf218,
 v28:=Tryz.zeroValue218,
 t33:=Tryz.underlying210,
 a33:=Tryz.isAgg210,
 z33:=Tryz.sizeOf210,
 v33:=Tryz.zeroValue210 }

def shSorted_ren:Go.Shelf.Ren:=⟨fun | 6=>153 | 8=>183 | 9=>184 | 11=>196 | 13=>198 | 12=>197 | 23=>209 | 24=>210 | 14=>200 | 15=>201 | 16=>202 | 17=>203 | 18=>204 | 19=>205 | 20=>206 | 21=>207 | 22=>208 | 25=>211 | 26=>212 | 27=>213 | 28=>214 | 29=>215 | 30=>216 | 31=>217 | n=>n,fun | 26=>2 | 28=>218 | 24=>73 | 0=>0 | 3=>3 | 37=>275 | 48=>286 | 50=>288 | 4=>4 | 40=>278 | 39=>277 | 45=>283 | 5=>5 | 9=>9 | 51=>289 | 55=>293 | 57=>295 | 58=>296 | 33=>210 | n=>n,fun | n=>n⟩

theorem shSorted:Go.Proofs.SlLaysZI.n6 Tryz.prog shSorted_ren:={
 mixed:=by kernel_rfl,
 f6:=⟨Tryz.f153.name,by decide,Tryz.func153.trans (congrArg some (by kernel_rfl))⟩,
 f8:=⟨Tryz.f183.name,by decide,Tryz.func183.trans (congrArg some (by kernel_rfl))⟩,
 f11:=⟨Tryz.f196.name,by decide,Tryz.func196.trans (congrArg some (by kernel_rfl))⟩,
 t0:=Tryz.underlying0,
 a0:=Tryz.isAgg0,
 z0:=Tryz.sizeOf0,
 v0:=Tryz.zeroValue0,
 t24:=Tryz.underlying73,
 a24:=Tryz.isAgg73,
 z24:=Tryz.sizeOf73,
 v24:=Tryz.zeroValue73,
 t26:=Tryz.underlying2,
 a26:=Tryz.isAgg2,
 z26:=Tryz.sizeOf2,
 v26:=Tryz.zeroValue2,
 t28:=Tryz.underlying218,
 a28:=Tryz.isAgg218,
 z28:=Tryz.sizeOf218,
 v28:=Tryz.zeroValue218,
 i26:=by kernel_rfl }

def shSort_ren:Go.Shelf.Ren:=⟨fun | 5=>184 | 8=>198 | 7=>197 | 19=>209 | 20=>210 | 10=>200 | 11=>201 | 12=>202 | 13=>203 | 14=>204 | 15=>205 | 16=>206 | 17=>207 | 18=>208 | 30=>211 | 31=>212 | 32=>213 | 33=>214 | 34=>215 | 35=>216 | 40=>217 | n=>n,fun | 23=>73 | 25=>2 | 3=>3 | 32=>275 | 22=>73 | 0=>0 | 44=>286 | 46=>288 | 4=>4 | 36=>278 | 35=>277 | 41=>283 | 5=>5 | 9=>9 | 53=>289 | 57=>293 | 63=>295 | 64=>296 | n=>n,fun | n=>n⟩

theorem shSort:Go.Proofs.SlLaysM.n5 Tryz.prog shSort_ren:={
 mixed:=by kernel_rfl,
 f5:=⟨Tryz.f184.name,by decide,Tryz.func184.trans (congrArg some (by kernel_rfl))⟩,
 f7:=⟨Tryz.f197.name,by decide,Tryz.func197.trans (congrArg some (by kernel_rfl))⟩,
 f8:=Tryz.func198.trans (congrArg some (by kernel_rfl)),
 f10:=⟨Tryz.f200.name,by decide,Tryz.func200.trans (congrArg some (by kernel_rfl))⟩,
 f11:=⟨Tryz.f201.name,by decide,Tryz.func201.trans (congrArg some (by kernel_rfl))⟩,
 f12:=⟨Tryz.f202.name,by decide,Tryz.func202.trans (congrArg some (by kernel_rfl))⟩,
 f13:=⟨Tryz.f203.name,by decide,Tryz.func203.trans (congrArg some (by kernel_rfl))⟩,
 f14:=⟨Tryz.f204.name,by decide,Tryz.func204.trans (congrArg some (by kernel_rfl))⟩,
 f15:=⟨Tryz.f205.name,by decide,Tryz.func205.trans (congrArg some (by kernel_rfl))⟩,
 f16:=⟨Tryz.f206.name,by decide,Tryz.func206.trans (congrArg some (by kernel_rfl))⟩,
 f17:=⟨Tryz.f207.name,by decide,Tryz.func207.trans (congrArg some (by kernel_rfl))⟩,
 f18:=⟨Tryz.f208.name,by decide,Tryz.func208.trans (congrArg some (by kernel_rfl))⟩,
 f19:=Tryz.func209.trans (congrArg some (by kernel_rfl)),
 f20:=Tryz.func210.trans (congrArg some (by kernel_rfl)),
 f30:=⟨Tryz.f211.name,by decide,Tryz.func211.trans (congrArg some (by kernel_rfl))⟩,
 f31:=Tryz.func212.trans (congrArg some (by kernel_rfl)),
 f32:=Tryz.func213.trans (congrArg some (by kernel_rfl)),
 f33:=⟨Tryz.f214.name,by decide,Tryz.func214.trans (congrArg some (by kernel_rfl))⟩,
 f34:=⟨Tryz.f215.name,by decide,Tryz.func215.trans (congrArg some (by kernel_rfl))⟩,
 f35:=⟨Tryz.f216.name,by decide,Tryz.func216.trans (congrArg some (by kernel_rfl))⟩,
 f40:=⟨Tryz.f217.name,by decide,Tryz.func217.trans (congrArg some (by kernel_rfl))⟩,
 t0:=Tryz.underlying0,
 a0:=Tryz.isAgg0,
 z0:=Tryz.sizeOf0,
 v0:=Tryz.zeroValue0,
 t3:=Tryz.underlying3,
 a3:=Tryz.isAgg3,
 z3:=Tryz.sizeOf3,
 v3:=Tryz.zeroValue3,
 t4:=Tryz.underlying4,
 a4:=Tryz.isAgg4,
 z4:=Tryz.sizeOf4,
 v4:=Tryz.zeroValue4,
 t5:=Tryz.underlying5,
 a5:=Tryz.isAgg5,
 z5:=Tryz.sizeOf5,
 v5:=Tryz.zeroValue5,
 t9:=Tryz.underlying9,
 a9:=Tryz.isAgg9,
 z9:=Tryz.sizeOf9,
 v9:=Tryz.zeroValue9,
 t22:=Tryz.underlying73,
 a22:=Tryz.isAgg73,
 z22:=Tryz.sizeOf73,
 v22:=Tryz.zeroValue73,
 t23:=Tryz.underlying73,
 a23:=Tryz.isAgg73,
 z23:=Tryz.sizeOf73,
 v23:=Tryz.zeroValue73,
 t25:=Tryz.underlying2,
 a25:=Tryz.isAgg2,
 z25:=Tryz.sizeOf2,
 v25:=Tryz.zeroValue2,
 t32:=Tryz.underlying275,
 a32:=Tryz.isAgg275,
 z32:=Tryz.sizeOf275,
 v32:=Tryz.zeroValue275,
 t35:=Tryz.underlying277,
 a35:=Tryz.isAgg277,
 z35:=Tryz.sizeOf277,
 v35:=Tryz.zeroValue277,
 t36:=Tryz.underlying278,
 a36:=Tryz.isAgg278,
 z36:=Tryz.sizeOf278,
 v36:=Tryz.zeroValue278,
 t41:=Tryz.underlying283,
 a41:=Tryz.isAgg283,
 z41:=Tryz.sizeOf283,
 v41:=Tryz.zeroValue283,
 t44:=Tryz.underlying286,
 a44:=Tryz.isAgg286,
 z44:=Tryz.sizeOf286,
 v44:=Tryz.zeroValue286,
 t46:=Tryz.underlying288,
 a46:=Tryz.isAgg288,
 z46:=Tryz.sizeOf288,
 v46:=Tryz.zeroValue288,
 t53:=Tryz.underlying289,
 a53:=Tryz.isAgg289,
 z53:=Tryz.sizeOf289,
 v53:=Tryz.zeroValue289,
 t57:=Tryz.underlying293,
 a57:=Tryz.isAgg293,
 z57:=Tryz.sizeOf293,
 v57:=Tryz.zeroValue293,
 t63:=Tryz.underlying295,
 a63:=Tryz.isAgg295,
 z63:=Tryz.sizeOf295,
 v63:=Tryz.zeroValue295,
 t64:=Tryz.underlying296,
 a64:=Tryz.isAgg296,
 z64:=Tryz.sizeOf296,
 v64:=Tryz.zeroValue296 }

end Go.Proofs.YtfdkcbafpiojkaaGreatDoor
namespace Go.Proofs.YtfdkcbafpiojkaaGreatDoor
open Go.RowKit Go.Maps Go.Sort Go.Shelf
set_option maxRecDepth 100000
/-- Block b is a map that reads as these items. -/
def ShelfAt (w:World) (b:Nat) (xs:List ItemD):Prop:=w.ownsMap (H:=Unit) Tryz.prog 2 (plainElem Tryz.prog 2) b xs.length (shelfD xs)

theorem lawI64:Keyed Tryz.prog 2:=int_keyed Tryz.underlying2

theorem zeroI64 (w:World):(zeroValue 2).run Tryz.prog w=.ok (.int .i64 0) w:=by kernel_rfl

theorem tighten {w:World} {b n:Nat} {xs:List ItemD} (h:w.ownsMap (H:=Unit) Tryz.prog 2 (plainElem Tryz.prog 2) b n (shelfD xs)):ShelfAt w b xs:=by
 obtain ⟨es,clock,hb,F,_,hD⟩:=h
 refine ⟨es,clock,hb,F,?_,hD⟩
 have e:=congrArg Maps.size hD
 rw [shelf_size,Maps.size_eq,length_sorted] at e
 simp at e
 omega

theorem ShelfAt.below {w w' : World} {b:Nat} {xs:List ItemD} (h:ShelfAt w b xs) (hb:Below w.heap.size w w'):ShelfAt w' b xs:=by
 have hlt:=h.lt
 obtain ⟨es,clock,hh,r⟩:=h
 exact ⟨es,clock,(hb.block b hlt).trans hh,r⟩

theorem wf64 {v:Int} (h:-9000000≤v∧v≤9000000):(Lit.int .i64 v).wf=true:=WalkArith.wf_i64 (by omega)

theorem keyI64 {k:Int} (h:-9000000≤k∧k≤9000000):keyOf Tryz.prog 2 (.int .i64 k)=some (.int .i64 k):=keyOf_int_mk Tryz.underlying2 (wf64 h)

theorem delI_none {l:List ItemD} {k:Int} (h:∀ y∈l,y.key≠k):delI l k=l:=by
 unfold delI
 rw [List.filter_eq_self]
 intro y hy
 simpa using h y hy

theorem insI_high {x:ItemD}:∀ {l:List ItemD},(∀ y∈l,y.key < x.key)→insI x l=l ++ [x]
 | [],_=>rfl
 | y :: r,h=>by
  have h1:=h y (by simp)
  have ih:=insI_high (l:=r) (fun z hz=>h z (by simp [hz]))
  simp [insI,show ¬ x.key < y.key by omega,ih]

theorem setI_take {zs:List ItemD} (g:Good zs) {k:Nat} (hk:k < zs.length):setI (zs.take k) (zs.getD k itemNo)=zs.take (k + 1):=by
 have hlow:∀ y∈zs.take k,y.key < (zs.getD k itemNo).key:=by
  intro y hy
  obtain ⟨j,hj,rfl⟩:=List.mem_iff_getElem.1 hy
  have hj' : j < k:=by simp at hj;omega
  have:=(List.pairwise_iff_getElem.1 g.rise) j k (by omega) hk hj'
  simpa [List.getD,hk] using this
 have e:zs.getD k itemNo=zs[k]:=by simp [List.getD,hk]
 unfold setI
 rw [delI_none (fun y hy=>by have:=hlow y hy;omega),insI_high hlow,List.take_succ_eq_append_getElem hk,e]

set_option maxHeartbeats 1000000 in
theorem shelfOf_any (a:Option Addr) (cap:Nat) (zs:List ItemD) (w:World) (h:ItemRow w a zs) (hl:zs.length≤8) (g:Good zs) :
  Calls Tryz.prog 87 #[.slice a zs.length cap] w fun e w' => e=.returned (.map (some w.heap.size))∧ShelfAt w' w.heap.size zs∧Below w.heap.size w w' := by
 have hmm:=@run_makeMap Tryz.prog
 have hm0:(w.alloc (.map #[] 0)).ownsMap (H:=Unit) Tryz.prog 2 (plainElem Tryz.prog 2) w.heap.size 0 (shelfD (zs.take 0)):=by
  rw [List.take_zero]
  exact World.ownsMap_made _ _ _ _
 go_enter Tryz.func87,Tryz.ntmps87
 go_wp2
 go_loopw [9] (fun i wr=>∃ k:Nat,k≤zs.length∧i=.int .i64 k∧wr.ownsMap (H:=Unit) Tryz.prog 2 (plainElem Tryz.prog 2) w.heap.size k (shelfD (zs.take k))∧Below w.heap.size w wr) (fun i _=>zs.length - (intOf i).toNat)
 case atStart=>exact ⟨0,Nat.zero_le _,rfl,hm0,(Below.refl _ _).alloc (Nat.le_refl _) _⟩
 case round=>
  obtain ⟨k,hk,rfl,hown,hb⟩:=hrel
  by_cases hlt:k < zs.length
  ·obtain ⟨b,off,rfl,hbs,hc0,hc1⟩:=(h.below hb).at k hlt
   have hsz:=hb.size
   have HS:Hid (setI (zs.take k) (zs.getD k itemNo)=zs.take (k + 1)):=setI_take g hlt
   have hgk:=g.key _ (getD_mem hlt)
   have hgv:=g.val _ (getD_mem hlt)
   generalize zs.getD k itemNo=z at hc0 hc1 HS hgk hgv
   obtain ⟨z0,z1⟩:=z
   dsimp only at hc0 hc1 hgk hgv
   have hkey:=keyI64 (k:=z0) (by omega)
   have hval:=plainElem_int (H:=Unit) Tryz.underlying2 (wf64 (v:=z1) (by omega))
   go_wp2_with (at_mapUpdate;refine wpList_mapUpdate_own _ rfl _ _ _ 143 rfl 2 2 lawI64 Tryz.underlying143 _ w.heap.size k _ rfl (hown.alloc _) (by unfold maxLen;omega) _ _ _ rfl rfl hkey _ [] hval ?_;intro w1 hown1 hgrow1)
   rw [shelf_put] at hown1
   have hb1:Below w.heap.size w w1:=(hb.alloc hsz _).grown hgrow1 (by simp;omega) (fun j hj=>by cases hj;exact Nat.le_refl _)
   clear hown hgrow1 hkey hval
   go_wp2
   go_roundw
   case rel=>exact ⟨k + 1,by omega,by go_num,by rw [← HS.out];exact hown1,hb1⟩
   case measure=>simp [intOf];omega
  ·have hkl:k=zs.length:=by omega
   subst hkl
   rw [List.take_length] at hown
   go_wp2
   go_ret
   exact ⟨rfl,hown,hb⟩

section
variable (w:World) {ops:Array Oper} {rest:List Oper} {o:Oper} {a:Act} {Q:Exit→Act→World→Prop}
/-- A key is asked for, and whether it is there. -/
theorem wpList_shelf_ok (hg:o.guard=none) (m x:Operand) (hop:o.op=Op.lookup 143 m x true) (b:Nat) (xs:List ItemD) (hm:a.eval m=.map (some b)) (h:ShelfAt w b xs) (k:Int) (hx:a.eval x=.int .i64 k) (hk:-9000000≤k∧k≤9000000)
  (hK:wpList Tryz.prog ops Q rest (a.put o.dst (.tuple #[.int .i64 (valI xs k),.bool (hasI xs k)])) w):wpList Tryz.prog ops Q (o :: rest) a w:=by
 refine wpList_lookup_own_ok_int w hg m x 143 hop 2 2 .i64 lawI64 Tryz.underlying143 Tryz.underlying2 (zeroI64 _) b xs.length _ hm h _ _ hx (keyI64 hk) ?_
 intro c hat _
 rw [shelf_at] at hat
 simp only [DataW.lit.injEq,Lit.int.injEq,true_and] at hat
 rw [shelf_has,← hat]
 exact hK

theorem wpList_shelf_at (hg:o.guard=none) (m x:Operand) (hop:o.op=Op.lookup 143 m x false) (b:Nat) (xs:List ItemD) (hm:a.eval m=.map (some b)) (h:ShelfAt w b xs) (k:Int) (hx:a.eval x=.int .i64 k) (hk:-9000000≤k∧k≤9000000)
  (hK:wpList Tryz.prog ops Q rest (a.put o.dst (.int .i64 (valI xs k))) w):wpList Tryz.prog ops Q (o :: rest) a w:=by
 refine wpList_lookup_own_int w hg m x 143 hop 2 2 .i64 lawI64 Tryz.underlying143 Tryz.underlying2 (zeroI64 _) b xs.length _ hm h _ _ hx (keyI64 hk) ?_
 intro c hat _
 rw [shelf_at] at hat
 simp only [DataW.lit.injEq,Lit.int.injEq,true_and] at hat
 rw [← hat]
 exact hK

end
theorem layC_ways (xs:List ItemD) (k v:Int) :
  (inW v (-20000) 20000=false∧layC xs k v=3)∨(inW v (-20000) 20000=true∧hasI xs k=true∧layC xs k v=0) ∨
  (inW v (-20000) 20000=true∧hasI xs k=false∧8≤xs.length∧layC xs k v=7)∨(inW v (-20000) 20000=true∧hasI xs k=false∧¬ 8≤xs.length∧layC xs k v=0):=by
 unfold layC
 cases h1:inW v (-20000) 20000 <;> cases h2:hasI xs k <;> by_cases h3:8≤xs.length <;> simp [h3]

set_option maxRecDepth 100000 in
set_option maxHeartbeats 1000000 in
theorem lay_any (b:Nat) (xs:List ItemD) (k v:Int) (w:World) (h:ShelfAt w b xs) (hl:xs.length≤8) (hk:1≤k∧k≤20) :
  Calls Tryz.prog 152 #[.map (some b),.int .i64 k,.int .i64 v] w fun e w' => e=.returned (.int .i64 (layC xs k v))∧(layC xs k v=0→ShelfAt w' b (setI xs ⟨k,v⟩))∧w.grownBy w' (some b):=by
 have hkey:=keyI64 (k:=k) (by omega)
 have hlen:∀ ty,(Builtin.len_ #[143] ty #[.map (some b)]).run Tryz.prog w=.ok (.int .i64 xs.length) w:=fun ty=>by
  have:=World.ownsMap.len h Tryz.underlying143 ty
  rw [shelf_size] at this
  exact this
 have hhas:=shelf_has xs k
 have hvc:=fun w=>isItemValue_any v w
 rcases layC_ways xs k v with ⟨h1,e⟩ | ⟨h1,h2,e⟩ | ⟨h1,h2,h3,e⟩ | ⟨h1,h2,h3,e⟩ <;> rw [e] <;> rw [h1] at hvc
 ·go_enter Tryz.func152,Tryz.ntmps152
  go_wp2_with (go_at_call 147;refine (hvc _).mono ?_;rintro e w' ⟨rfl,hw⟩;replace hw:=hw.symm;subst hw)
  go_ret
  exact ⟨rfl,fun h=>by simp at h,World.grownBy.refl _ _⟩
 ·have hval:=plainElem_int (H:=Unit) Tryz.underlying2 (wf64 (v:=v) (by simp [inW] at h1;omega))
  rw [h2] at hhas
  go_enter Tryz.func152,Tryz.ntmps152
  go_wp2_with (first | (go_at_call 147;refine (hvc _).mono ?_;rintro e w' ⟨rfl,hw⟩;replace hw:=hw.symm;subst hw) | (at_lookup;refine wpList_lookup_own_ok_int _ rfl _ _ 143 rfl 2 2 .i64 lawI64 Tryz.underlying143 Tryz.underlying2 (zeroI64 _) b xs.length _ rfl h _ _ rfl hkey ?_;rw [hhas];intro c hat hwc) | (at_mapUpdate;refine wpList_mapUpdate_own _ rfl _ _ _ 143 rfl 2 2 lawI64 Tryz.underlying143 _ b xs.length _ rfl h (by unfold maxLen;omega) _ _ _ rfl rfl hkey _ [] hval ?_;intro w1 hown1 hgrow1))
  go_ret
  rw [shelf_put] at hown1
  exact ⟨rfl,fun _=>tighten hown1,hgrow1⟩
 ·rw [h2] at hhas
  go_enter Tryz.func152,Tryz.ntmps152
  go_wp2_with (first | (go_at_call 147;refine (hvc _).mono ?_;rintro e w' ⟨rfl,hw⟩;replace hw:=hw.symm;subst hw) | (at_lookup;refine wpList_lookup_own_ok_int _ rfl _ _ 143 rfl 2 2 .i64 lawI64 Tryz.underlying143 Tryz.underlying2 (zeroI64 _) b xs.length _ rfl h _ _ rfl hkey ?_;rw [hhas];intro c hat hwc))
  go_ret
  exact ⟨rfl,fun h=>by simp at h,World.grownBy.refl _ _⟩
 ·have hval:=plainElem_int (H:=Unit) Tryz.underlying2 (wf64 (v:=v) (by simp [inW] at h1;omega))
  rw [h2] at hhas
  go_enter Tryz.func152,Tryz.ntmps152
  go_wp2_with (first | (go_at_call 147;refine (hvc _).mono ?_;rintro e w' ⟨rfl,hw⟩;replace hw:=hw.symm;subst hw) | (at_lookup;refine wpList_lookup_own_ok_int _ rfl _ _ 143 rfl 2 2 .i64 lawI64 Tryz.underlying143 Tryz.underlying2 (zeroI64 _) b xs.length _ rfl h _ _ rfl hkey ?_;rw [hhas];intro c hat hwc) | (at_mapUpdate;refine wpList_mapUpdate_own _ rfl _ _ _ 143 rfl 2 2 lawI64 Tryz.underlying143 _ b xs.length _ rfl h (by unfold maxLen;omega) _ _ _ rfl rfl hkey _ [] hval ?_;intro w1 hown1 hgrow1))
  go_ret
  rw [shelf_put] at hown1
  exact ⟨rfl,fun _=>tighten hown1,hgrow1⟩

theorem only_of_alloc {w w' : World} {b:Nat} {o:Obj} (h:(w.alloc o).grownBy w' (some b)):Only b (b + 1) w w' :=
 (Only.of_below ((Below.refl _ _).alloc (Nat.le_refl _) o)).trans (only_of_grown h (fun g hg=>by cases hg;omega))

set_option maxRecDepth 100000 in
set_option maxHeartbeats 1000000 in
theorem do_any (b:Nat) (xs:List ItemD) (k y v:Int) (w:World) (h:ShelfAt w b xs) (hl:xs.length≤8) (g:Good xs) (ha:actF ⟨k,y,v⟩=0) :
  Calls Tryz.prog 88 #[.map (some b),.agg #[.int .i64 k,.int .i64 y,.int .i64 v]] w fun e w' => e=.returned (.int .i64 (actC xs ⟨k,y,v⟩))∧(actC xs ⟨k,y,v⟩=0→ShelfAt w' b (actN xs ⟨k,y,v⟩))∧Only b (b + 1) w w' := by
 obtain ⟨hk,hy,hv⟩:=actF_zero ha
 dsimp only at hk hy hv
 have hgv:=g.valI y
 have h0:ShelfAt (w.alloc (.cells #[.int .i64 k,.int .i64 y,.int .i64 v] 146)) b xs:=h.below (by go_grown)
 have hO:Only b (b + 1) w (w.alloc (.cells #[.int .i64 k,.int .i64 y,.int .i64 v] 146)):=Only.of_below (by go_grown)
 have hlay:=fun v w h=>lay_any b xs y v w h hl hy
 have hlook:∀ (w:World) (_:ShelfAt w b xs) (ops:Array Oper) (rest:List Oper) (o:Oper) (a:Act) (Q:Exit→Act→World→Prop) (hg:o.guard=none) (m x:Operand) (hop:o.op=Op.lookup 143 m x true) (hm:a.eval m=.map (some b)) (hx:a.eval x=.int .i64 y) (hK:wpList Tryz.prog ops Q rest (a.put o.dst (.tuple #[.int .i64 (valI xs y),.bool (hasI xs y)])) w),wpList Tryz.prog ops Q (o :: rest) a w:=
  fun w h ops rest o a Q hg m x hop hm hx hK=>wpList_shelf_ok w hg m x hop b xs hm h y hx (by omega) hK
 rcases (show k=1∨k=2∨k=3∨k=4 by omega) with rfl | rfl | rfl | rfl
 ·have e1:actC xs ⟨1,y,v⟩=layC xs y v:=by simp [actC]
  have e2:actN xs ⟨1,y,v⟩=setI xs ⟨y,v⟩:=by simp [actN]
  rw [e1,e2]
  clear e1 e2
  generalize layC xs y=LC at hlay
  generalize setI xs=SI at hlay
  generalize valI xs y=c at hlook hgv
  generalize hasI xs y=t at hlook
  go_enter Tryz.func88,Tryz.ntmps88
  go_wp2_with (first | (at_lookup;refine hlook _ h0 _ _ _ _ _ rfl _ _ rfl rfl rfl ?_) | (go_at_call 152;refine (hlay _ _ h0).mono ?_;rintro e w' ⟨rfl,hS,hG⟩))
  go_ret
  exact ⟨rfl,hS,only_of_alloc hG⟩
 ·have e1:actC xs ⟨2,y,v⟩=layC xs y (valI xs y + v):=by simp [actC]
  have e2:actN xs ⟨2,y,v⟩=setI xs ⟨y,valI xs y + v⟩:=by simp [actN]
  rw [e1,e2]
  clear e1 e2
  generalize layC xs y=LC at hlay
  generalize setI xs=SI at hlay
  generalize valI xs y=c at hlook hgv
  generalize hasI xs y=t at hlook
  go_enter Tryz.func88,Tryz.ntmps88
  go_wp2_with (first | (at_lookup;refine hlook _ h0 _ _ _ _ _ rfl _ _ rfl rfl rfl ?_) | (go_at_call 152;refine (hlay _ _ h0).mono ?_;rintro e w' ⟨rfl,hS,hG⟩))
  go_ret
  exact ⟨rfl,hS,only_of_alloc hG⟩
 ·cases hh:hasI xs y
  ·have e1:actC xs ⟨3,y,v⟩=4:=by simp [actC,hh]
   rw [e1]
   rw [hh] at hlook
   clear e1
   generalize valI xs y=c at hlook hgv
   go_enter Tryz.func88,Tryz.ntmps88
   go_wp2_with (at_lookup;refine hlook _ h0 _ _ _ _ _ rfl _ _ rfl rfl rfl ?_)
   go_ret
   exact ⟨rfl,fun h=>by simp at h,hO⟩
  ·have e1:actC xs ⟨3,y,v⟩=0:=by simp [actC,hh]
   have e2:actN xs ⟨3,y,v⟩=delI xs y:=by simp [actN]
   have hkey:=keyI64 (k:=y) (by omega)
   rw [e1,e2]
   rw [hh] at hlook
   clear e1 e2
   generalize valI xs y=c at hlook hgv
   go_enter Tryz.func88,Tryz.ntmps88
   go_wp2_with (first | (at_lookup;refine hlook _ h0 _ _ _ _ _ rfl _ _ rfl rfl rfl ?_) | (at_delete;refine wpList_delete_own _ rfl _ _ 143 2 rfl 2 lawI64 Tryz.underlying143 _ b xs.length _ rfl h0 _ _ rfl hkey ?_;intro w1 hown1 hturn1))
   go_ret
   rw [shelf_del] at hown1
   exact ⟨rfl,fun _=>tighten hown1,only_of_alloc hturn1.grown⟩
 ·cases hh:hasI xs y
  ·have e1:actC xs ⟨4,y,v⟩=9:=by simp [actC,hh]
   rw [e1]
   rw [hh] at hlook
   clear e1
   generalize valI xs y=c at hlook hgv
   go_enter Tryz.func88,Tryz.ntmps88
   go_wp2_with (at_lookup;refine hlook _ h0 _ _ _ _ _ rfl _ _ rfl rfl rfl ?_)
   go_ret
   exact ⟨rfl,fun h=>by simp at h,hO⟩
  ·by_cases hc:valI xs y=v
   ·have e1:actC xs ⟨4,y,v⟩=0:=by simp [actC,hh,hc]
    have e2:actN xs ⟨4,y,v⟩=xs:=by simp [actN]
    have hne:(v != v)=false:=by simp
    rw [e1,e2]
    rw [hh,hc] at hlook
    clear e1 e2 hc hgv
    go_enter Tryz.func88,Tryz.ntmps88
    go_wp2_with (at_lookup;refine hlook _ h0 _ _ _ _ _ rfl _ _ rfl rfl rfl ?_)
    go_ret
    exact ⟨rfl,fun _=>h0,hO⟩
   ·have e1:actC xs ⟨4,y,v⟩=9:=by simp [actC,hh,hc]
    have hne:(valI xs y != v)=true:=by simpa using hc
    rw [e1]
    rw [hh] at hlook
    clear e1 hc
    generalize valI xs y=c at hlook hgv hne
    go_enter Tryz.func88,Tryz.ntmps88
    go_wp2_with (at_lookup;refine hlook _ h0 _ _ _ _ _ rfl _ _ rfl rfl rfl ?_)
    go_ret
    exact ⟨rfl,fun h=>by simp at h,hO⟩

end Go.Proofs.YtfdkcbafpiojkaaGreatDoor
