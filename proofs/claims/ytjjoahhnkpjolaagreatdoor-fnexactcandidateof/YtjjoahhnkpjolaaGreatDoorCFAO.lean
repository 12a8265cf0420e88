/- Texts joined, with what the laws reach alone. -/
import Derived.Test.YtjjoahhnkpjolaaGreatDoorCFAN
import Derived.Shelf.SlIterI.Nil
set_option linter.unusedVariables false
set_option linter.unusedSimpArgs false
namespace Go.Proofs.YtjjoahhnkpjolaaGreatDoor
open Go.RowKit
open Go.BigFrame
set_option maxRecDepth 100000
/-- The first of f 0, f 1 .. f (n - 1) that is not 0; else 0. -/
def firstNZ (f:Nat→Int):Nat→Int
 | 0=>0
 | n + 1=>if firstNZ f n=0 then f n else firstNZ f n

theorem firstNZ_none (f:Nat→Int):∀ n,(∀ j,j < n→f j=0)→firstNZ f n=0
 | 0,_=>rfl
 | n + 1,h=>by
  have:=firstNZ_none f n (fun j hj=>h j (by omega))
  simp only [firstNZ,this,if_true]
  exact h n (by omega)

theorem firstNZ_first (f:Nat→Int) (k:Nat) (h:∀ j,j < k→f j=0) (hne:f k≠0):∀ n,k < n→firstNZ f n=f k
 | 0,hk=>by omega
 | n + 1,hk=>by
  by_cases e:k=n
  ·subst e
   simp only [firstNZ,firstNZ_none f k h,if_true]
  ·have:=firstNZ_first f k h hne n (by omega)
   simp only [firstNZ,this,hne,if_false]

theorem firstNZ_zero (f:Nat→Int):∀ n,firstNZ f n=0→∀ j,j < n→f j=0
 | 0,_,j,hj=>by omega
 | n + 1,h,j,hj=>by
  simp only [firstNZ] at h
  by_cases e:firstNZ f n=0
  ·rw [if_pos e] at h
   by_cases ej:j=n
   ·subst ej;exact h
   ·exact firstNZ_zero f n e j (by omega)
  ·rw [if_neg e] at h;exact absurd h e

def prevK (xs:List ItemD) (k:Nat):Int:=if k=0 then 0 else (xs.getD (k - 1) itemNo).key

def itF (xs:List ItemD) (k:Nat):Int:=
 if inW (xs.getD k itemNo).key 1 20=false∨inW (xs.getD k itemNo).val (-20000) 20000=false then 3
 else if (xs.getD k itemNo).key≤prevK xs k then 1 else 0

def itemsF (xs:List ItemD):Int:=if 8 < xs.length then 2 else firstNZ (itF xs) xs.length

theorem itF_ways (xs:List ItemD) (k:Nat) :
  (inW (xs.getD k itemNo).key 1 20=false∧itF xs k=3)∨(inW (xs.getD k itemNo).key 1 20=true∧inW (xs.getD k itemNo).val (-20000) 20000=false∧itF xs k=3) ∨
  (inW (xs.getD k itemNo).key 1 20=true∧inW (xs.getD k itemNo).val (-20000) 20000=true∧(xs.getD k itemNo).key≤prevK xs k∧itF xs k=1) ∨
  (inW (xs.getD k itemNo).key 1 20=true∧inW (xs.getD k itemNo).val (-20000) 20000=true∧¬ (xs.getD k itemNo).key≤prevK xs k∧itF xs k=0):=by
 unfold itF
 generalize xs.getD k itemNo=x
 generalize prevK xs k=p
 cases h1:inW x.key 1 20 <;> cases h2:inW x.val (-20000) 20000 <;> by_cases h3:x.key≤p <;> simp [h3]

set_option maxHeartbeats 400000 in
theorem isItemValue_any (n:Int) (w:World) :
  Calls Tryz.prog 260 #[.int .i64 n] w fun e w' => e=.returned (.bool (inW n (-20000) 20000))∧w' = w:=by
 have hc:=fun w=>isWithin_any n (-20000) 20000 w
 generalize inW n (-20000) 20000=r at hc
 go_enter Tryz.func260,Tryz.ntmps260
 go_wp2_with (go_at_call 47;refine (hc _).mono ?_;rintro e w' ⟨rfl,rfl⟩)
 go_ret
 exact ⟨rfl,rfl⟩

set_option maxHeartbeats 1000000 in
theorem implItemsFault_any (a:Option Addr) (cap:Nat) (zs:List ItemD) (w:World) (h:ItemRow w a zs) (hl:zs.length≤1048576) :
  Calls Tryz.prog 236 #[.slice a zs.length cap] w fun e w' => e=.returned (.int .i64 (itemsF zs))∧Below w.heap.size w w' := by
 by_cases h8:8 < zs.length
 ·have E:itemsF zs=2:=if_pos h8
  rw [E]
  go_enter Tryz.func236,Tryz.ntmps236
  go_wp2
  go_ret
  exact ⟨rfl,Below.refl _ _⟩
 have E:itemsF zs=firstNZ (itF zs) zs.length:=if_neg h8
 rw [E]
 clear E
 go_enter Tryz.func236,Tryz.ntmps236
 go_wp2
 go_loopw [3,11] (fun l j wr=>∃ k:Nat,k≤zs.length∧j=.int .i64 k∧l=.int .i64 (prevK zs k)∧Below w.heap.size w wr∧Hid (∀ j,j < k→itF zs j=0)) (fun _ j _=>zs.length - (intOf j).toNat)
 case atStart=>exact ⟨0,Nat.zero_le _,rfl,rfl,Below.refl _ _,fun j hj=>absurd hj (Nat.not_lt_zero _)⟩
 case round=>
  obtain ⟨k,hk,rfl,rfl,hb,HA⟩:=hrel
  by_cases hlt:k < zs.length
  ·obtain ⟨b,off,rfl,hbs,hc0,hc1⟩:=(h.below hb).at k hlt
   have hsz:=hb.size
   have HK:Hid (prevK zs (k + 1)=(zs.getD k itemNo).key):=if_neg (Nat.succ_ne_zero k)
   rcases itF_ways zs k with ⟨h1,hF⟩ | ⟨h1,h2,hF⟩ | ⟨h1,h2,h3,hF⟩ | ⟨h1,h2,h3,hF⟩
   case inr.inr.inr=>
    have HB:Hid (∀ j,j < k + 1→itF zs j=0):=by
     intro j hj
     by_cases hjk:j=k
     ·subst hjk;exact hF
     ·exact HA.out j (by omega)
    clear HA hF
    generalize prevK zs k=p at h3
    generalize zs.getD k itemNo=z at hc0 hc1 h1 h2 h3 HK
    obtain ⟨z0,z1⟩:=z
    dsimp only at hc0 hc1 h1 h2 h3 HK
    go_wp2_with (first | (go_at_call 47;refine (isWithin_any _ _ _ _).mono ?_;rintro e w' ⟨rfl,rfl⟩) | (go_at_call 260;refine (isItemValue_any _ _).mono ?_;rintro e w' ⟨rfl,rfl⟩))
    go_roundw
    case rel=>exact ⟨k + 1,by omega,by go_num,by rw [HK.out],by go_grown,HB⟩
    case measure=>simp [intOf];omega
   all_goals
    have E:Hid (firstNZ (itF zs) zs.length=_):=firstNZ_first (itF zs) k HA.out (by rw [hF];decide) zs.length hlt
    rw [hF] at E
    clear HA hF HK
    generalize prevK zs k=p at *
    generalize zs.getD k itemNo=z at *
    obtain ⟨z0,z1⟩:=z
    dsimp only at *
    go_wp2_with (first | (go_at_call 47;refine (isWithin_any _ _ _ _).mono ?_;rintro e w' ⟨rfl,rfl⟩) | (go_at_call 260;refine (isItemValue_any _ _).mono ?_;rintro e w' ⟨rfl,rfl⟩))
    go_ret
    rw [E.out]
    exact ⟨rfl,by go_grown⟩
  ·have hkl:k=zs.length:=by omega
   subst hkl
   have E:Hid (firstNZ (itF zs) zs.length=0):=firstNZ_none _ _ HA.out
   clear HA
   go_wp2
   go_ret
   rw [E.out]
   exact ⟨rfl,hb⟩

end Go.Proofs.YtjjoahhnkpjolaaGreatDoor
namespace Go.Proofs.YtjjoahhnkpjolaaGreatDoor
open Go.RowKit
set_option maxRecDepth 100000
/-- v owns its row, which lies in blocks from lo up to hi. -/
def OwnS (e size lo hi:Nat) (w:World) (v:Value) (n:Nat) (xs:List Value):Prop:=w.ownsRow lo e size v n xs∧∀ g,v.ownBlock=some g→g < hi

theorem OwnS.of {e size lo n:Nat} {w:World} {v:Value} {xs:List Value} (o:w.ownsRow lo e size v n xs):OwnS e size lo w.heap.size w v n xs:=⟨o,fun g hg=>(o.lt g hg).2⟩

theorem OwnS.below {e size lo hi n:Nat} {w w' : World} {v:Value} {xs:List Value} (o:OwnS e size lo hi w v n xs) (hb:Below w.heap.size w w'):OwnS e size lo hi w' v n xs:=⟨own_below o.1 hb,o.2⟩

theorem OwnS.only {e size lo hi n lo' hi' : Nat} {w w' : World} {v:Value} {xs:List Value} (o:OwnS e size lo hi w v n xs) (h:Only lo' hi' w w') (hh:hi' ≤ lo):OwnS e size lo hi w' v n xs:=⟨own_only o.1 h hh,o.2⟩

theorem OwnS.lies {e size lo hi n c:Nat} {w:World} {a:Option Addr} {xs:List Value} (o:OwnS e size lo hi w (.slice a n c) n xs):Lies w a xs:=Lies.own o.1

theorem OwnS.wide {e size lo hi n lo' hi' : Nat} {w:World} {v:Value} {xs:List Value} (o:OwnS e size lo hi w v n xs) (h:lo' ≤ lo) (hh:hi≤hi'):OwnS e size lo' hi' w v n xs:=⟨own_base o.1 h,fun g hg=>Nat.lt_of_lt_of_le (o.2 g hg) hh⟩

theorem OwnS.grown {e size lo hi n:Nat} {w w' : World} {v:Value} {xs:List Value} (o:OwnS e size lo hi w v n xs) (hg:w.grownBy w' v.ownBlock):Only lo hi w w' := only_of_grown hg (fun g h=>⟨(o.1.lt g h).1,o.2 g h⟩)

/-- Another list's marking leaves it, where the two lie in two blocks. -/
theorem OwnS.beside {e size lo hi n:Nat} {w w' : World} {v v' : Value} {xs:List Value} (o:OwnS e size lo hi w v n xs) (hg:w.grownBy w' v'.ownBlock) (h:v.ownBlock=none∨v.ownBlock≠v'.ownBlock):OwnS e size lo hi w' v n xs:=⟨o.1.kept hg h,o.2⟩

-- 158

theorem OwnTxns.only {lo hi lo' hi' : Nat} {w w' : World} {v:Value} {ds:List TxnD} (h:OwnTxns lo hi w v ds) (ho:Only lo' hi' w w') (hh:hi' ≤ lo):OwnTxns lo hi w' v ds:=by
 obtain ⟨g,cap,ps,e,hg,hd,o,hp⟩:=h
 exact ⟨g,cap,ps,e,hg,hd,own_only o ho hh,fun p hm=>⟨own_only (hp p hm).1 ho hh,(hp p hm).2⟩⟩

end Go.Proofs.YtjjoahhnkpjolaaGreatDoor
namespace Go.Proofs.YtjjoahhnkpjolaaGreatDoor
open Go.RowKit Go.Maps Go.Sort Go.Shelf
def shKeys_ren:Go.Shelf.Ren:=⟨fun | 7=>263 | 10=>275 | n=>n,fun | 23=>301 | 26=>2 | 3=>2 | 28=>358 | 0=>0 | 27=>357 | 33=>243 | 4=>4 | n=>n,fun | n=>n⟩

theorem shKeys:Go.Proofs.SlLaysZI.n7 Tryz.prog shKeys_ren:={
 mixed:=by kernel_rfl,
 f7:=⟨Tryz.f263.name,by decide,Tryz.func263.trans (congrArg some (by kernel_rfl))⟩,
 f10:=⟨Tryz.f275.name,by decide,Tryz.func275.trans (congrArg some (by kernel_rfl))⟩,
 t0:=Tryz.underlying0,
 a0:=Tryz.isAgg0,
 z0:=Tryz.sizeOf0,
 v0:=Tryz.zeroValue0,
 t4:=Tryz.underlying4,
 a4:=Tryz.isAgg4,
 z4:=Tryz.sizeOf4,
 v4:=Tryz.zeroValue4,
 t23:=Tryz.underlying301,
 a23:=Tryz.isAgg301,
 z23:=Tryz.sizeOf301,
 v23:=Tryz.zeroValue301,
 t26:=Tryz.underlying2,
 a26:=Tryz.isAgg2,
 z26:=Tryz.sizeOf2,
 v26:=Tryz.zeroValue2,
 t27:=Tryz.underlying357,
 a27:=Tryz.isAgg357,
 z27:=Tryz.sizeOf357,
 v27:=Tryz.zeroValue357,
 t28:=Tryz.underlying358,
 a28:=Tryz.isAgg358,
 z28:=Tryz.sizeOf358,
 v28:=Tryz.zeroValue358,
 t33:=Tryz.underlying243,
 a33:=Tryz.isAgg243,
 z33:=Tryz.sizeOf243,
 v33:=Tryz.zeroValue243 }

def shSorted_ren:Go.Shelf.Ren:=⟨fun | 6=>262 | 8=>274 | 9=>202 | 11=>279 | 13=>230 | 12=>229 | 23=>252 | 24=>253 | 14=>243 | 15=>244 | 16=>245 | 17=>246 | 18=>247 | 19=>248 | 20=>249 | 21=>250 | 22=>251 | 25=>265 | 26=>266 | 27=>267 | 28=>268 | 29=>269 | 30=>270 | 31=>277 | n=>n,fun | 26=>2 | 28=>358 | 24=>75 | 0=>0 | 3=>3 | 37=>276 | 48=>346 | 50=>329 | 4=>4 | 40=>339 | 39=>338 | 45=>343 | 5=>5 | 9=>9 | 51=>360 | 55=>364 | 57=>370 | 58=>371 | 33=>243 | n=>n,fun | n=>n⟩

theorem shSorted:Go.Proofs.SlLaysZI.n6 Tryz.prog shSorted_ren:={
 mixed:=by kernel_rfl,
 f6:=⟨Tryz.f262.name,by decide,Tryz.func262.trans (congrArg some (by kernel_rfl))⟩,
 f8:=⟨Tryz.f274.name,by decide,Tryz.func274.trans (congrArg some (by kernel_rfl))⟩,
 f11:=⟨Tryz.f279.name,by decide,Tryz.func279.trans (congrArg some (by kernel_rfl))⟩,
 t0:=Tryz.underlying0,
 a0:=Tryz.isAgg0,
 z0:=Tryz.sizeOf0,
 v0:=Tryz.zeroValue0,
 t24:=Tryz.underlying75,
 a24:=Tryz.isAgg75,
 z24:=Tryz.sizeOf75,
 v24:=Tryz.zeroValue75,
 t26:=Tryz.underlying2,
 a26:=Tryz.isAgg2,
 z26:=Tryz.sizeOf2,
 v26:=Tryz.zeroValue2,
 t28:=Tryz.underlying358,
 a28:=Tryz.isAgg358,
 z28:=Tryz.sizeOf358,
 v28:=Tryz.zeroValue358,
 i26:=by kernel_rfl }

end Go.Proofs.YtjjoahhnkpjolaaGreatDoor
namespace Go.Proofs.YtjjoahhnkpjolaaGreatDoor
open Go.RowKit
set_option maxRecDepth 100000
/-- The worlds of which p is so. -/
structure KeepP (p:World→Prop) where
 val:World
 isP:p val

section
variable {P:Program} {ops:Array Oper} {Q:Exit→Act→World→Prop} {S:World→Prop} {st:Nat}
/-- Whatever order is picked from here on, and behind every operation S holds, or st has come up. -/
def wpAnyX (P:Program) (ops:Array Oper) (Q:Exit→Act→World→Prop) (S:World→Prop) (st:Nat):Nat→Array Bool→Act→World→Prop
 | 0,listed,a,w=>Region.ready .any ops listed=[]∧Q .normal a w
 | fuel + 1,listed,a,w=>
  (Region.ready .any ops listed=[]→Q .normal a w) ∧
  ∀ i∈Region.ready .any ops listed,wpOp P ops Q i (fun a' w' => ((listed.setIfInBounds i true).getD st true=true∨S w')∧wpAnyX P ops Q S st fuel (listed.setIfInBounds i true) a' w') a w

theorem wpAny_of_X:∀ (fuel:Nat) (listed:Array Bool) (a:Act) (w:World),wpAnyX P ops Q S st fuel listed a w→wpAny P .any ops Q fuel listed a w
 | 0,_,_,_,h=>h
 | fuel + 1,_,_,_,h=>⟨h.1,fun i hi=>wpOp_mono (fun a' w' h' => wpAny_of_X fuel _ a' w' h'.2) (h.2 i hi)⟩

/-- As OrdersHeld's 'wpAnyH_first': besides, st has not come up and waits for i. -/
theorem wpAnyX_first {i:Nat} {oi:Oper} {v:Value} (hi:ops[i]? = some oi) (hsel:∀ (j:Nat) (o:Oper) cs b,ops[j]? = some o→o.op≠.select cs b)
  (hQ:∀ c a w,Q (.panic c) (a.put oi.dst v) w→Q (.panic c) a w) (hist:i≠st) (hst:∀ o,ops[st]? = some o→∃ e∈o.after,Region.binds .any e=true∧e.on=i) :
  ∀ (fuel:Nat) (listed:Array Bool) (a:Act) (w:World),
   (∀ j oj,ops[j]? = some oj→j≠i→listed.getD j true=false→(∀ e∈oj.after,Region.binds .any e=true→e.on≠i)→oi.apart ops oj=true) →
   i∈Region.ready .any ops listed→YieldsIf P ops S oi v a→S w→listed.getD st true=false →
   wpAnyX P ops Q S st fuel (listed.setIfInBounds i true) (a.put oi.dst v) w→wpAnyX P ops Q S st (fuel + 1) listed a w:=by
 intro fuel
 induction fuel with
 | zero=>
  intro listed a w _ hr hy hS hl H
  refine ⟨fun h=>(by rw [h] at hr;cases hr),fun j hj=>?_⟩
  by_cases hji:j=i
  ·subst hji;exact hy.wpOp hi hS ⟨Or.inr hS,H⟩
  ·have:=ready_mono hj hji
   rw [H.1] at this
   cases this
 | succ fuel ih=>
  intro listed a w hfree hr hy hS hl H
  refine ⟨fun h=>(by rw [h] at hr;cases hr),fun j hj=>?_⟩
  by_cases hji:j=i
  ·subst hji;exact hy.wpOp hi hS ⟨Or.inr hS,H⟩
  ·have h1:=H.2 j (ready_mono hj hji)
   obtain ⟨hjun,oj,hoj,hall⟩:=mem_ready.1 hj
   have hnot:∀ e∈oj.after,Region.binds .any e=true→e.on≠i:=fun e he hb heq=>by
    have h1:=hall e he hb
    have h0:=(mem_ready.1 hr).1
    rw [heq] at h1
    rcases Nat.lt_or_ge i listed.size with h' | h'
    ·simp [h'] at h0 h1;rw [h0] at h1;cases h1
    ·simp [Array.getElem?_eq_none h'] at h1
   have hjst:j≠st:=by
    intro e
    subst e
    obtain ⟨e,he,hb,hon⟩:=hst oj hoj
    exact hnot e he hb hon
   have h2:=wpOp_putIf hoj (hfree j oj hoj hji hjun hnot) (fun cs b=>hsel i oi cs b hi) (fun cs b=>hsel j oj cs b hoj) hQ hy h1
   have hfree' : ∀ k ok,ops[k]? = some ok→k≠i→(listed.setIfInBounds j true).getD k true=false →
     (∀ e∈ok.after,Region.binds .any e=true→e.on≠i)→oi.apart ops ok=true:=fun k ok hk hki hun hno=>by
    refine hfree k ok hk hki ?_ hno
    by_cases hjk:j=k
    ·subst hjk;exact hjun
    ·rw [getD_set_ne true hjk] at hun;exact hun
   have hl' : (listed.setIfInBounds j true).getD st true=false:=by rw [getD_set_ne true hjst];exact hl
   refine wpOp_mono (fun a' w' h3=>?_) h2
   have hS' : S w' := by
    rcases h3.2.1 with h4 | h4
    ·rw [getD_set_ne true hjst,getD_set_ne true hist,hl] at h4
     cases h4
    ·exact h4
   refine ⟨Or.inr hS',ih (listed.setIfInBounds j true) a' w' hfree' (ready_mono hr (Ne.symm hji)) h3.1 hS' hl' ?_⟩
   rw [Array.setIfInBounds_comm _ _ hji]
   exact h3.2.2

/-- A post whose word on a panic does not look at the temporaries. -/
def PanTo (Q:Exit→Act→World→Prop) (R:List PanicEntry→World→Prop):Exit→Act→World→Prop
 | .panic c,a,w=>a.defers=[]∧R c w
 | e,a,w=>Q e a w

theorem put_defers_eq (a:Act) (d:Option Tmp) (v:Value):(a.put d v).defers=a.defers:=by cases d <;> rfl

theorem PanTo.put {R:List PanicEntry→World→Prop}:∀ c (a:Act) (d:Option Tmp) (v:Value) w,PanTo Q R (.panic c) (a.put d v) w→PanTo Q R (.panic c) a w:=fun c a d v w h=>⟨(put_defers_eq a d v) ▸ h.1,h.2⟩

variable {R:List PanicEntry→World→Prop}
theorem PanTo.imp (hR:∀ c a w,a.defers=[]→R c w→Q (.panic c) a w):∀ (e:Exit) (a:Act) (w:World),PanTo Q R e a w→Q e a w:=fun e a w h=>by
 cases e <;> first | exact h | exact hR _ _ _ h.1 h.2

theorem beginX {id:Nat} {a:Act} {w:World} (st:Nat) (hm:P.follows .mixedOrders=true) (hR:∀ c a w,a.defers=[]→R c w→Q (.panic c) a w)
  (h:wpAnyX P ops (PanTo Q R) S st ops.size (Array.replicate ops.size false) a w.drew):(Code.region id ops true).wp P Q a w:=
 Code.wp_mono (PanTo.imp hR) (wp_region_any hm (wpAny_of_X _ _ _ _ h))

def waitsB (ops:Array Oper) (st i:Nat):Bool:=match ops[st]? with
 | some o=>o.after.any (fun e=>Region.binds .any e && e.on == i)
 | none=>true

theorem waits_of {i:Nat} (h:waitsB ops st i=true):∀ o,ops[st]? = some o→∃ e∈o.after,Region.binds .any e=true∧e.on=i:=by
 intro o ho
 unfold waitsB at h
 rw [ho] at h
 obtain ⟨k,hk,_,_,hb⟩:=Array.any_iff_exists.1 h
 simp only [Bool.and_eq_true,beq_iff_eq] at hb
 exact ⟨o.after[k],Array.getElem_mem hk,hb⟩

def okSegX (ops:Array Oper) (st:Nat):List Nat→Array Bool→Bool
 | [],_=>true
 | i :: r,l=>Region.free .any ops l i && (Region.ready .any ops l).contains i && (i != st) && waitsB ops st i && !(l.getD st true) && okSegX ops st r (l.setIfInBounds i true)

theorem segX_sound (hs:Region.noSelect ops=true) :
  ∀ (idx:List Nat) (os:List Oper) (l:Array Bool) (a:Act) (w:World) (fuel:Nat),idx.map (ops[·]?)=os.map some→os.all (fun o=>plainB o.op)=true→okSegX ops st idx l=true→S w →
   wpQuiet P ops S (fun a' => wpAnyX P ops (PanTo Q R) S st fuel (upTo idx l) a' w) os a→wpAnyX P ops (PanTo Q R) S st (fuel + idx.length) l a w:=by
 intro idx
 induction idx with
 | nil=>
  intro os l a w fuel hos _ _ _ h
  cases os with
  | nil=>exact h
  | cons o os=>simp at hos
 | cons i r ih=>
  intro os l a w fuel hos hpl hok hS h
  cases os with
  | nil=>simp at hos
  | cons o os=>
   simp only [List.map_cons,List.cons.injEq] at hos
   simp only [List.all_cons,Bool.and_eq_true] at hpl
   simp only [okSegX,Bool.and_eq_true,bne_iff_ne,ne_eq,Bool.not_eq_true'] at hok
   obtain ⟨⟨⟨⟨⟨hf,hr⟩,hne⟩,hwt⟩,hl⟩,hok'⟩:=hok
   simp only [wpQuiet] at h
   by_cases hw:Region.wanted o (yielded ops a.tmps)=true
   ·rw [if_pos hw] at h
    obtain ⟨v,hv,hk⟩:=h
    refine wpAnyX_first (i:=i) (oi:=o) (v:=v) hos.1 (Region.noSelect_spec hs) (fun c a w h=>PanTo.put c a _ _ w h) hne (waits_of hwt) _ l a w (Region.free_spec hos.1 hf) (by simpa using hr) (Or.inl ⟨hw,fun u hu=>?_⟩) hS hl (ih os _ _ w fuel hos.2 hpl.2 hok' hS hk)
    have hq:=hv u hu
    unfold Oper.quietAt at hq
    cases hrun:(execOp a.eval o).run P u with
    | ok n u' =>
     obtain ⟨x,rfl⟩:=plain_value hpl.1 hrun
     rw [hrun] at hq
     obtain ⟨e1,e2⟩:=hq
     rw [e1,e2]
    | halt x u' =>
     rw [hrun] at hq
     exact hq.elim
   ·rw [if_neg hw] at h
    have hw' : Region.wanted o (yielded ops a.tmps)=false:=by simpa using hw
    exact wpAnyX_first (i:=i) (oi:=o) (v:=undef) hos.1 (Region.noSelect_spec hs) (fun c a w h=>PanTo.put c a _ _ w h) hne (waits_of hwt) _ l a w (Region.free_spec hos.1 hf) (by simpa using hr) (Or.inr ⟨hw',rfl⟩) hS hl (ih os _ _ w fuel hos.2 hpl.2 hok' hS h)

theorem segX (rs:List (Nat × Nat)) (fuel:Nat) {F:Nat} {l:Array Bool} {a:Act} {w:World} (hF:F=fuel + (idxR rs).length) (hs:Region.noSelect ops=true) (hm:(idxR rs).map (ops[·]?)=(pickR ops.toList rs).map some)
  (hp:(pickR ops.toList rs).all (fun o=>plainB o.op)=true) (hok:okSegX ops st (idxR rs) l=true) (hS:S w)
  (h:wpQuiet P ops S (fun a' => wpAnyX P ops (PanTo Q R) S st fuel (upTo (idxR rs) l) a' w) (pickR ops.toList rs) a):wpAnyX P ops (PanTo Q R) S st F l a w:=by
 subst hF
 exact segX_sound hs (idxR rs) _ l a w fuel hm hp hok hS h

/-- A call that alone may come up: it returns, or it panics. -/
theorem callX (i:Nat) (d:Option Tmp) (f:Nat) (args:Array Value) (fuel:Nat) {F:Nat} {l:Array Bool} {a:Act} {w:World} (hF:F=fuel + 1)
  (hd:(ops[i]?).map (·.dst)=some d) (hr:Region.ready .any ops l=[i]) (hw:(ops[i]?).map (fun o=>Region.wanted o (yielded ops a.tmps))=some true)
  (hrun:(ops[i]?).map (fun o=>(execOp a.eval o).run P w)=some (.ok (.enter f args) w))
  (hdf:a.defers=[]) (hc:Calls P f args w (fun e w' => (∃ v,e=.returned v∧S w' ∧ wpAnyX P ops (PanTo Q R) S st fuel (upTo [i] l) (a.put d v) w')∨∃ c,e=.panicked c∧R c w')):wpAnyX P ops (PanTo Q R) S st F l a w:=by
 subst hF
 cases ho:ops[i]? with
 | none=>rw [ho] at hd;simp at hd
 | some o=>
  rw [ho] at hd hw hrun
  simp only [Option.map_some,Option.some.injEq] at hd hw hrun
  subst hd
  refine ⟨fun h0=>(by rw [hr] at h0;cases h0),fun j hj=>?_⟩
  rw [hr] at hj
  simp only [List.mem_singleton] at hj
  subst hj
  unfold wpOp
  simp only [ho,hw,if_true]
  refine .inl ?_
  unfold Oper.wp
  rw [hrun]
  simp only [Oper.upon]
  refine hc.mono fun e w' he=>?_
  rcases he with ⟨v,rfl,h1,h2⟩ | ⟨c,rfl,h1⟩
  ·exact ⟨Or.inr h1,h2⟩
  ·exact ⟨hdf,h1⟩

def ThenX (Q:Exit→Act→World→Prop) (R:List PanicEntry→World→Prop) (K:Act→World→Prop):Exit→Act→World→Prop
 | .normal,a,w=>K a w
 | e,a,w=>PanTo Q R e a w

theorem ThenX.to {K:Act→World→Prop} {a:Act} {w:World} (h:K a w):ThenX Q R K .normal a w:=h

theorem oneX (i:Nat) (o:Oper) (fuel:Nat) {F:Nat} {l:Array Bool} {a:Act} {w:World} (hF:F=fuel + 1) (ho:ops[i]? = some o) (hr:Region.ready .any ops l=[i])
  (h:wpList P ops (ThenX Q R (fun a' w' => ((upTo [i] l).getD st true=true∨S w')∧wpAnyX P ops (PanTo Q R) S st fuel (upTo [i] l) a' w')) [o] a w):wpAnyX P ops (PanTo Q R) S st F l a w:=by
 subst hF
 refine ⟨fun h0=>(by rw [hr] at h0;cases h0),fun j hj=>?_⟩
 rw [hr] at hj
 simp only [List.mem_singleton] at hj
 subst hj
 unfold wpOp
 simp only [ho]
 simp only [wpList] at h
 split at h
 ·rename_i hw
  rw [if_pos hw]
  rcases h with h | ⟨h1,h2⟩
  ·left
   unfold Oper.wp at h ⊢
   revert h
   generalize (execOp a.eval o).run P w=r
   intro h
   unfold Oper.upon at h ⊢
   split at h
   ·exact h
   ·exact h
   ·exact h
   ·refine Calls.mono h fun e w' he=>?_
    cases e <;> exact he
   ·exact h
   ·exact h
   ·exact h
  ·exact Or.inr ⟨h1,h2⟩
 ·rename_i hw
  rw [if_neg hw]
  exact h

theorem endX {F:Nat} {l:Array Bool} {a:Act} {w:World} (hr:Region.ready .any ops l=[]) (h:Q .normal a w):wpAnyX P ops (PanTo Q R) S st F l a w:=by
 cases F with
 | zero=>exact ⟨hr,h⟩
 | succ F=>exact ⟨fun _=>h,by rw [hr];simp⟩

theorem sgX (rs:List (Nat × Nat)) (fuel:Nat) {F:Nat} {l:Array Bool} {a:Act} {w:World} (h5:(F,Region.noSelect ops,(idxR rs).map (ops[·]?),(pickR ops.toList rs).all (fun o=>plainB o.op),okSegX ops st (idxR rs) l)=(fuel + (idxR rs).length,true,(pickR ops.toList rs).map some,true,true)) (hS:S w)
  (h:wpQuiet P ops S (fun a' => wpAnyX P ops (PanTo Q R) S st fuel (upTo (idxR rs) l) a' w) (pickR ops.toList rs) a):wpAnyX P ops (PanTo Q R) S st F l a w:=by
 simp only [Prod.mk.injEq] at h5
 exact segX rs fuel h5.1 h5.2.1 h5.2.2.1 h5.2.2.2.1 h5.2.2.2.2 hS h

theorem clX (i:Nat) (d:Option Tmp) (f:Nat) (args:Array Value) (fuel:Nat) {F:Nat} {l:Array Bool} {a:Act} {w:World} (h5:(F,(ops[i]?).map (·.dst),Region.ready .any ops l,(ops[i]?).map (fun o=>Region.wanted o (yielded ops a.tmps)),(ops[i]?).map (fun o=>(execOp a.eval o).run P w))=(fuel + 1,some d,[i],some true,some (.ok (.enter f args) w)))
  (hdf:a.defers=[]) (hc:Calls P f args w (fun e w' => (∃ v,e=.returned v∧S w' ∧ wpAnyX P ops (PanTo Q R) S st fuel (upTo [i] l) (a.put d v) w')∨∃ c,e=.panicked c∧R c w')):wpAnyX P ops (PanTo Q R) S st F l a w:=by
 simp only [Prod.mk.injEq] at h5
 exact callX i d f args fuel h5.1 h5.2.1 h5.2.2.1 h5.2.2.2.1 h5.2.2.2.2 hdf hc

theorem onX (i:Nat) {o:Oper} (fuel:Nat) {F:Nat} {l:Array Bool} {a:Act} {w:World} (ho:ops[i]? = some o) (h2:(F,Region.ready .any ops l)=(fuel + 1,[i]))
  (h:wpList P ops (ThenX Q R (fun a' w' => ((upTo [i] l).getD st true=true∨S w')∧wpAnyX P ops (PanTo Q R) S st fuel (upTo [i] l) a' w')) [o] a w):wpAnyX P ops (PanTo Q R) S st F l a w:=by
 simp only [Prod.mk.injEq] at h2
 exact oneX i o fuel h2.1 ho h2.2 h

end
end Go.Proofs.YtjjoahhnkpjolaaGreatDoor
namespace Go.Proofs.YtjjoahhnkpjolaaGreatDoor
open Go.RowKit
open Go.BigFrame
set_option maxRecDepth 100000
def unF1 (x:UndoD):Int:=
 if inW x.key 1 20=false∨inW x.val (-20000) 20000=false then 3 else if x.was=false∧x.val≠0 then 1 else 0

end Go.Proofs.YtjjoahhnkpjolaaGreatDoor
namespace Go.Proofs.YtjjoahhnkpjolaaGreatDoor
open Go.RowKit
open Go.BigFrame
set_option maxRecDepth 100000
/-- A list of undos, and where it lies. -/
structure USP where
 d:List UndoD
 a:Option Addr
 cap:Nat

def USP.sl (p:USP):Value:=.slice p.a p.d.length p.cap

def usCells (ps:List USP):List Value:=ps.map USP.sl

def uspNo:USP:=⟨[],none,0⟩

theorem usCells_length (ps:List USP):(usCells ps).length=ps.length:=by simp [usCells]

theorem usCells_get (ps:List USP) (i:Nat) (h:i < ps.length):(usCells ps)[i]? = some (ps.getD i uspNo).sl:=by simp [usCells,List.getD,h]

/-- v is a slice that reads as these lists. -/
def UssAt (w:World) (v:Value) (ds:List (List UndoD)):Prop:=
 ∃ a cap ps,v=.slice a ds.length cap∧ps.map USP.d=ds∧Lies w a (usCells ps)∧∀ p∈ps,UndoRow w p.a p.d

theorem UssAt.below {w w' : World} {v:Value} {ds:List (List UndoD)} (h:UssAt w v ds) (hb:Below w.heap.size w w'):UssAt w' v ds:=by
 obtain ⟨a,cap,ps,e,hd,hL,hA⟩:=h
 exact ⟨a,cap,ps,e,hd,hL.below hb,fun p hp=>(hA p hp).below hb⟩

theorem UssAt.shape {w:World} {v:Value} {ds:List (List UndoD)} (h:UssAt w v ds):∃ a cap,v=.slice a ds.length cap:=by
 obtain ⟨a,cap,_,e,_⟩:=h
 exact ⟨a,cap,e⟩

theorem UssAt.at {w:World} {a:Option Addr} {n cap:Nat} {ds:List (List UndoD)} (h:UssAt w (.slice a n cap) ds) (i:Nat) (hi:i < ds.length) :
  ∃ b off aa cc,a=some ⟨b,off,none⟩∧b < w.heap.size∧w.cell? ⟨b,off + i,none⟩=some (.slice aa (ds.getD i []).length cc)∧UndoRow w aa (ds.getD i []):=by
 obtain ⟨a',cap',ps,e,hd,hL,hA⟩:=h
 simp only [Value.slice.injEq] at e
 obtain ⟨rfl,_,_⟩:=e
 have hl:ps.length=ds.length:=by rw [← hd];simp
 have h1:=usCells_get ps i (by omega)
 have hp:(ps.getD i uspNo).d=ds.getD i []:=by
  rw [← hd]
  simp [List.getD,show i < ps.length by omega]
 have hm:ps.getD i uspNo∈ps:=by simp [List.getD,show i < ps.length by omega]
 rcases hL with h | ⟨b,off,ha,hlt,hc⟩
 ·have:=usCells_length ps
  rw [h] at this
  simp at this
  omega
 ·have hAA:=hA _ hm
  rw [hp] at hAA
  refine ⟨b,off,(ps.getD i uspNo).a,(ps.getD i uspNo).cap,ha,hlt,?_,hAA⟩
  rw [hc _ _ h1]
  simp only [USP.sl,hp]

/-- v is a slice of lists, all of whose memory lies in blocks from lo up to hi, and is its own. -/
def OwnUss (lo hi:Nat) (w:World) (v:Value) (ds:List (List UndoD)):Prop:=
 ∃ g cap ps,v=.slice (some ⟨g,0,none⟩) ds.length cap∧g < hi∧ps.map USP.d=ds∧w.ownsRow lo 175 1 (.slice (some ⟨g,0,none⟩) ds.length cap) ds.length (usCells ps) ∧
  ∀ p∈ps,w.ownsRow lo 223 3 p.sl p.d.length (undoCells p.d)∧∀ k,p.sl.ownBlock=some k→k < hi∧k≠g

theorem OwnUss.row {lo hi:Nat} {w:World} {v:Value} {ds:List (List UndoD)} (h:OwnUss lo hi w v ds):UssAt w v ds:=by
 obtain ⟨g,cap,ps,e,_,hd,ho,hp⟩:=h
 exact ⟨_,cap,ps,e,hd,Lies.own ho,fun p hm=>Lies.own (hp p hm).1⟩

theorem OwnUss.below {lo hi:Nat} {w w' : World} {v:Value} {ds:List (List UndoD)} (h:OwnUss lo hi w v ds) (hb:Below w.heap.size w w'):OwnUss lo hi w' v ds:=by
 obtain ⟨g,cap,ps,e,hg,hd,ho,hp⟩:=h
 exact ⟨g,cap,ps,e,hg,hd,own_below ho hb,fun p hm=>⟨own_below (hp p hm).1 hb,(hp p hm).2⟩⟩

theorem OwnUss.only {lo hi lo' hi' : Nat} {w w' : World} {v:Value} {ds:List (List UndoD)} (h:OwnUss lo hi w v ds) (ho:Only lo' hi' w w') (hh:hi' ≤ lo):OwnUss lo hi w' v ds:=by
 obtain ⟨g,cap,ps,e,hg,hd,o,hp⟩:=h
 exact ⟨g,cap,ps,e,hg,hd,own_only o ho hh,fun p hm=>⟨own_only (hp p hm).1 ho hh,(hp p hm).2⟩⟩

end Go.Proofs.YtjjoahhnkpjolaaGreatDoor
namespace Go.Proofs.YtjjoahhnkpjolaaGreatDoor
open Go.RowKit
set_option maxRecDepth 100000
/-- No two of the three lie in one block. -/
structure Apart3 (s1 s2 s3:Value):Prop where
 a12:s1.ownBlock=none∨s1.ownBlock≠s2.ownBlock
 a13:s1.ownBlock=none∨s1.ownBlock≠s3.ownBlock
 a23:s2.ownBlock=none∨s2.ownBlock≠s3.ownBlock

theorem ne_swap {s t:Value} (h:s.ownBlock=none∨s.ownBlock≠t.ownBlock):t.ownBlock=none∨t.ownBlock≠s.ownBlock:=by
 rcases h with h | h
 ·cases ht:t.ownBlock with
  | none=>exact Or.inl rfl
  | some g=>right;rw [h];simp
 ·exact Or.inr (fun e=>h e.symm)

structure OwnA (lo hi:Nat) (w:World) (s1 s2 s3:Value) (cs vs:List Int) (ys:List ItemD):Prop where
 o1:OwnS 2 1 lo hi w s1 cs.length (cs.map (Value.int .i64))
 o2:OwnS 2 1 lo hi w s2 vs.length (vs.map (Value.int .i64))
 o3:OwnS 173 2 lo hi w s3 ys.length (itemCells ys)
 ap:Apart3 s1 s2 s3

/-- The three lists read so. -/
structure RowA (w:World) (a1 a2 a3:Option Addr) (cs vs:List Int) (ys:List ItemD):Prop where
 r1:Row .i64 w a1 cs
 r2:Row .i64 w a2 vs
 r3:ItemRow w a3 ys

theorem OwnA.below {lo hi:Nat} {w w' : World} {s1 s2 s3:Value} {cs vs:List Int} {ys:List ItemD} (h:OwnA lo hi w s1 s2 s3 cs vs ys) (hb:Below w.heap.size w w'):OwnA lo hi w' s1 s2 s3 cs vs ys:=⟨h.o1.below hb,h.o2.below hb,h.o3.below hb,h.ap⟩

theorem OwnA.only {lo hi lo' hi' : Nat} {w w' : World} {s1 s2 s3:Value} {cs vs:List Int} {ys:List ItemD} (h:OwnA lo hi w s1 s2 s3 cs vs ys) (ho:Only lo' hi' w w') (hh:hi' ≤ lo):OwnA lo hi w' s1 s2 s3 cs vs ys:=⟨h.o1.only ho hh,h.o2.only ho hh,h.o3.only ho hh,h.ap⟩

theorem OwnA.row {lo hi c1 c2 c3:Nat} {w:World} {a1 a2 a3:Option Addr} {cs vs:List Int} {ys:List ItemD} (h:OwnA lo hi w (.slice a1 cs.length c1) (.slice a2 vs.length c2) (.slice a3 ys.length c3) cs vs ys):RowA w a1 a2 a3 cs vs ys:=⟨Row.own h.o1.1,Row.own h.o2.1,Lies.own h.o3.1⟩

theorem RowA.below {w w' : World} {a1 a2 a3:Option Addr} {cs vs:List Int} {ys:List ItemD} (h:RowA w a1 a2 a3 cs vs ys) (hb:Below w.heap.size w w'):RowA w' a1 a2 a3 cs vs ys:=⟨h.r1.below hb,h.r2.below hb,h.r3.below hb⟩

/-- The three lists hold their marks. -/
structure MarkA (w:World) (a1 a2 a3:Option Addr) (n1 n2 n3:Nat):Prop where
 r1:Row .i64 w a1 (marks .i64 1 n1)
 r2:Row .i64 w a2 (marks .i64 (1 + (n1:Int)) n2)
 r3:ItemRow w a3 (itemMarks (1 + (n1:Int) + (n2:Int)) n3)

theorem MarkA.below {w w' : World} {a1 a2 a3:Option Addr} {n1 n2 n3:Nat} (h:MarkA w a1 a2 a3 n1 n2 n3) (hb:Below w.heap.size w w'):MarkA w' a1 a2 a3 n1 n2 n3:=⟨h.r1.below hb,h.r2.below hb,h.r3.below hb⟩

end Go.Proofs.YtjjoahhnkpjolaaGreatDoor
namespace Go.Proofs.YtjjoahhnkpjolaaGreatDoor
open Go.RowKit
set_option maxRecDepth 100000
structure OwnU (lo hi:Nat) (w:World) (s1 s2:Value) (us:List UndoD) (ys:List ItemD):Prop where
 o1:OwnS 223 3 lo hi w s1 us.length (undoCells us)
 o2:OwnS 173 2 lo hi w s2 ys.length (itemCells ys)
 ap:s1.ownBlock=none∨s1.ownBlock≠s2.ownBlock

/-- The two lists read so. -/
structure RowU (w:World) (a1 a2:Option Addr) (us:List UndoD) (ys:List ItemD):Prop where
 r1:UndoRow w a1 us
 r2:ItemRow w a2 ys

theorem OwnU.below {lo hi:Nat} {w w' : World} {s1 s2:Value} {us:List UndoD} {ys:List ItemD} (h:OwnU lo hi w s1 s2 us ys) (hb:Below w.heap.size w w'):OwnU lo hi w' s1 s2 us ys:=⟨h.o1.below hb,h.o2.below hb,h.ap⟩

theorem OwnU.only {lo hi lo' hi' : Nat} {w w' : World} {s1 s2:Value} {us:List UndoD} {ys:List ItemD} (h:OwnU lo hi w s1 s2 us ys) (ho:Only lo' hi' w w') (hh:hi' ≤ lo):OwnU lo hi w' s1 s2 us ys:=⟨h.o1.only ho hh,h.o2.only ho hh,h.ap⟩

theorem OwnU.row {lo hi c1 c2:Nat} {w:World} {a1 a2:Option Addr} {us:List UndoD} {ys:List ItemD} (h:OwnU lo hi w (.slice a1 us.length c1) (.slice a2 ys.length c2) us ys):RowU w a1 a2 us ys:=⟨Lies.own h.o1.1,Lies.own h.o2.1⟩

theorem RowU.below {w w' : World} {a1 a2:Option Addr} {us:List UndoD} {ys:List ItemD} (h:RowU w a1 a2 us ys) (hb:Below w.heap.size w w'):RowU w' a1 a2 us ys:=⟨h.r1.below hb,h.r2.below hb⟩

/-- The two lists hold their marks. -/
structure MarkU (w:World) (a1 a2:Option Addr) (n1 n2:Nat):Prop where
 r1:UndoRow w a1 (undoMarks 1 n1)
 r2:ItemRow w a2 (itemMarks (1 + ((n1 * 3:Nat):Int)) n2)

theorem MarkU.below {w w' : World} {a1 a2:Option Addr} {n1 n2:Nat} (h:MarkU w a1 a2 n1 n2) (hb:Below w.heap.size w w'):MarkU w' a1 a2 n1 n2:=⟨h.r1.below hb,h.r2.below hb⟩

end Go.Proofs.YtjjoahhnkpjolaaGreatDoor
namespace Go.Proofs.YtjjoahhnkpjolaaGreatDoor
open Go.RowKit
set_option maxRecDepth 100000
def instNo:InstE:=⟨false,[],[],[]⟩

/-- The fault of the instances, one by one. -/
def ordGo:List InstE→Int
 | []=>0
 | x :: r=>if insF x=0 then (if 0 < r.length∧outV x.dec=3 then 8 else ordGo r) else insF x

/-- The fault of an order. -/
def ordF (ds:List InstE):Int:=if ds.length < 1∨4 < ds.length then 2 else ordGo ds

def lastE (ds:List InstE):InstE:=ds.getD (ds.length - 1) instNo

/-- How many have an outcome. -/
def decN (ds:List InstE):Nat:=if outV (lastE ds).dec=3 then ds.length - 1 else ds.length

theorem drop_at (ds:List InstE) (k:Nat) (hk:k < ds.length):ds.drop k=ds.getD k instNo :: ds.drop (k + 1):=by
 rw [List.drop_eq_getElem_cons hk]
 simp [List.getD,hk]

theorem ordGo_bad (ds:List InstE) (k:Nat) (hk:k < ds.length) (h:insF (ds.getD k instNo)≠0):ordGo (ds.drop k)=insF (ds.getD k instNo):=by
 rw [drop_at ds k hk,ordGo,if_neg h]

theorem ordGo_open (ds:List InstE) (k:Nat) (hk:k + 1 < ds.length) (h:insF (ds.getD k instNo)=0) (h3:outV (ds.getD k instNo).dec=3):ordGo (ds.drop k)=8:=by
 rw [drop_at ds k (by omega),ordGo,if_pos h,if_pos ⟨by simp;omega,h3⟩]

theorem ordGo_next (ds:List InstE) (k:Nat) (hk:k < ds.length) (h:insF (ds.getD k instNo)=0) (h3:¬ (k + 1 < ds.length∧outV (ds.getD k instNo).dec=3)):ordGo (ds.drop k)=ordGo (ds.drop (k + 1)):=by
 rw [drop_at ds k hk,ordGo,if_pos h,if_neg]
 rintro ⟨h1,h2⟩
 exact h3 ⟨by simp at h1;omega,h2⟩

theorem ordGo_end (ds:List InstE) (k:Nat) (hk:ds.length≤k):ordGo (ds.drop k)=0:=by
 rw [List.drop_of_length_le hk]
 rfl

theorem ordGo_iff:∀ (ds:List InstE),ordGo ds=0↔∀ k,k < ds.length→insF (ds.getD k instNo)=0∧(k + 1 < ds.length→outV (ds.getD k instNo).dec≠3)
 | []=>by simp [ordGo]
 | x :: r=>by
  rw [ordGo]
  constructor
  ·intro h k hk
   by_cases h0:insF x=0
   ·rw [if_pos h0] at h
    by_cases h1:0 < r.length∧outV x.dec=3
    ·rw [if_pos h1] at h
     exact absurd h (by decide)
    ·rw [if_neg h1] at h
     cases k with
     | zero=>exact ⟨h0,fun hl h3=>h1 ⟨by simpa using hl,h3⟩⟩
     | succ k=>
      have:=(ordGo_iff r).1 h k (by simpa using hk)
      simp only [List.getD_cons_succ,List.length_cons]
      exact ⟨this.1,fun hl=>this.2 (by omega)⟩
   ·rw [if_neg h0] at h
    exact absurd h h0
  ·intro h
   have h0:=h 0 (by simp)
   have e0:insF x=0:=h0.1
   rw [if_pos e0,if_neg (fun e=>h0.2 (by simpa using e.1) e.2)]
   refine (ordGo_iff r).2 (fun k hk=>?_)
   have:=h (k + 1) (by simpa using hk)
   simp only [List.getD_cons_succ,List.length_cons] at this
   exact ⟨this.1,fun hl=>this.2 (by omega)⟩

theorem ord_iff (ds:List InstE):ordF ds=0↔(1≤ds.length∧ds.length≤4)∧∀ k,k < ds.length→insF (ds.getD k instNo)=0∧(k + 1 < ds.length→outV (ds.getD k instNo).dec≠3):=by
 unfold ordF
 by_cases h:ds.length < 1∨4 < ds.length
 ·rw [if_pos h]
  constructor
  ·intro h;exact absurd h (by decide)
  ·rintro ⟨h1,_⟩;omega
 ·rw [if_neg h,ordGo_iff]
  constructor
  ·intro h2;exact ⟨by omega,h2⟩
  ·rintro ⟨_,h2⟩;exact h2

theorem ord_mem {ds:List InstE} (h:ordF ds=0):∀ x∈ds,insF x=0:=by
 intro x hx
 obtain ⟨k,hk,rfl⟩:=List.getElem_of_mem hx
 have:=(((ord_iff ds).1 h).2 k hk).1
 simpa [List.getD,hk] using this

theorem decN_le (ds:List InstE):decN ds≤ds.length:=by
 unfold decN
 split <;> omega

/-- One stands for another. -/
def stF (a b:TxnD):Bool:=(a.id == b.id) || ((a.session == b.session) && (a.seq == b.seq))

def knw (acc:List TxnD) (t:TxnD):Bool:=acc.any (fun a=>stF a t)

/-- Each one once. -/
def onc:List TxnD→List TxnD→List TxnD
 | acc,[]=>acc
 | acc,t :: r=>onc (if knw acc t then acc else acc ++ [t]) r

/-- What is taken, in order. -/
def takF (ds:List InstE):List TxnD:=ds.flatMap (fun x=>if outV x.dec=1 then x.batch else [])

def defL (ds:List InstE) (n:Nat):List TxnD:=onc [] (takF (ds.take n))

theorem onc_append:∀ (xs ys acc:List TxnD),onc acc (xs ++ ys)=onc (onc acc xs) ys
 | [],_,_=>rfl
 | t :: r,ys,acc=>by
  simp only [List.cons_append,onc]
  exact onc_append r ys _

theorem onc_sub:∀ (xs acc:List TxnD),∀ t∈onc acc xs,t∈acc∨t∈xs
 | [],acc,t,h=>Or.inl h
 | x :: r,acc,t,h=>by
  simp only [onc] at h
  rcases onc_sub r _ t h with h | h
  ·split at h
   ·exact Or.inl h
   ·rcases List.mem_append.1 h with h | h
    ·exact Or.inl h
    ·simp only [List.mem_singleton] at h
     exact Or.inr (by rw [h];simp)
  ·exact Or.inr (List.mem_cons_of_mem _ h)

theorem onc_len (xs acc:List TxnD):(onc acc xs).length≤acc.length + xs.length:=by
 induction xs generalizing acc with
 | nil=>simp [onc]
 | cons t r ih=>
  simp only [onc,List.length_cons]
  have:=ih (if knw acc t then acc else acc ++ [t])
  split at this
  ·rename_i h;rw [if_pos h];omega
  ·rename_i h;rw [if_neg h];simp only [List.length_append,List.length_singleton] at this;omega

end Go.Proofs.YtjjoahhnkpjolaaGreatDoor
namespace Go.Proofs.YtjjoahhnkpjolaaGreatDoor
open Go.RowKit
open Go.BigFrame
set_option maxRecDepth 100000
theorem fieldI0 (c v:Int) (w:World):(Instr.field 42 (.agg #[.int .i64 c,.int .i64 v]) 0).run Tryz.prog w=.ok (.int .i64 c) w:=by kernel_rfl

theorem fieldI1 (c v:Int) (w:World):(Instr.field 42 (.agg #[.int .i64 c,.int .i64 v]) 1).run Tryz.prog w=.ok (.int .i64 v) w:=by kernel_rfl

theorem oc_eq (x:InstE):(ocC x == 0)=((insF x == 0) && (outV x.dec != 3)):=by
 unfold ocC
 by_cases h0:insF x=0
 ·rw [if_pos h0,h0]
  by_cases h3:outV x.dec=3
  ·rw [if_pos h3,h3];rfl
  ·rw [if_neg h3]
   have:(outV x.dec != 3)=true:=by simpa using h3
   rw [this];rfl
 ·rw [if_neg h0]
  have:(insF x == 0)=false:=by simpa using h0
  rw [this];rfl

theorem inst_at (ps:List InstQ) (k:Nat) (hk:k < ps.length):(ps.map InstQ.e).getD k instNo=InstQ.e ps[k]:=by simp [List.getD,hk]

theorem nmI_le (ps:List InstQ) (k:Nat) (hk:k < ps.length):InstQ.n ps[k]≤nmL InstQ.n ps:=nm_le InstQ.n ps k hk

theorem instP_at {w:World} {a:Option Addr} {n cap:Nat} {ps:List InstQ} (h:instK.At w (.slice a n cap) ps) (k:Nat) (hk:k < ps.length):∃ b off,a=some ⟨b,off,none⟩∧b < w.heap.size∧InstP w b (off + k * 4) ps[k]:=by
 obtain ⟨b,off,e,hb,hc,hrd⟩:=h.cell (by decide) k hk
 have hc' : ∀ j x,(instK.cells ps[k])[j]? = some x→w.cell? ⟨b,off + k * 4 + j,none⟩=some x:=hc
 exact ⟨b,off,e,hb,⟨hc' 0 (.bool ps[k].has) rfl,hc' 1 ps[k].vb rfl,hc' 2 ps[k].vr rfl,hc' 3 ps[k].vd rfl⟩,hrd⟩

set_option maxHeartbeats 2000000 in
theorem hasOutcome_any (p:InstQ) (w:World) (hG:Rul w) (h:instK.rd w p) (hl:p.n≤1048576) :
  Calls Tryz.prog 45 #[.agg #[.bool p.has,p.vb,p.vr,p.vd]] w fun e w' => e=.returned (.bool (ocC p.e == 0))∧Below w.heap.size w w' := by
 have hbo:=fun w hG h=>implOutcome_any p w hG h hl
 have hrb:=fun (w' : World) hb=>instK.rd_below (w' := w') h hb
 generalize ocC p.e=D at *
 generalize ocV p.e=E at *
 obtain ⟨has,vb,batch,vr,rounds,vd,dec⟩:=p
 obtain ⟨ba,bk,rfl⟩:∃ a c,vb=.slice a batch.length c:=h.1.shape
 obtain ⟨va,vk,rfl⟩:∃ a c,vr=.slice a rounds.length c:=h.2.1.shape
 obtain ⟨da,dk,rfl⟩:∃ a c,vd=.slice a dec.length c:=h.2.2.shape
 dsimp only at hbo hrb
 have hf0:=fieldI0 D E
 have hB:Below w.heap.size w (w.alloc (.cells #[.bool has,.slice ba batch.length bk,.slice va rounds.length vk,.slice da dec.length dk] 89)):=by go_grown
 go_enter Tryz.func45,Tryz.ntmps45
 go_wp2_with fail
 generalize w.alloc (.cells #[.bool has,.slice ba batch.length bk,.slice va rounds.length vk,.slice da dec.length dk] 89)=W at *
 refine (hbo W (hG.below hB) (hrb W hB)).mono ?_
 rintro e w1 ⟨rfl,hb1⟩
 replace hB:=hB.trans (hb1.mono hB.size)
 go_wp2
 go_ret
 exact ⟨rfl,hB⟩

set_option maxHeartbeats 4000000 in
theorem implOrderFault_any (v:Value) (ps:List InstQ) (w:World) (hG:Rul w) (h:instK.At w v ps) (hl:(ps.length + nmL InstQ.n ps)≤1048576) :
  Calls Tryz.prog 25 #[v] w fun e w' => e=.returned (.int .i64 (ordF (ps.map InstQ.e)))∧Below w.heap.size w w' := by
 obtain ⟨a,cap,rfl⟩:=h.shape
 generalize hE:ordF (ps.map InstQ.e)=E
 have HE:Hid (ordF (ps.map InstQ.e)=E):=hE
 clear hE
 by_cases hlen:ps.length < 1∨4 < ps.length
 ·have E1:Hid (E=2):=by
   have:=HE.out
   unfold ordF at this
   rw [if_pos (by simpa using hlen)] at this
   exact this.symm
  clear HE
  rcases hlen with hlen | hlen
  ·go_enter Tryz.func25,Tryz.ntmps25
   go_wp2
   go_ret
   exact ⟨by rw [E1.out];rfl,Below.refl _ _⟩
  ·have h1:¬ ps.length < 1:=by omega
   go_enter Tryz.func25,Tryz.ntmps25
   go_wp2
   go_ret
   exact ⟨by rw [E1.out];rfl,Below.refl _ _⟩
 ·have HG:Hid (E=ordGo (ps.map InstQ.e)):=by
   have:=HE.out
   unfold ordF at this
   rw [if_neg (by simpa using hlen)] at this
   exact this.symm
  have h1:¬ ps.length < 1:=by omega
  have h4:ps.length≤4:=by omega
  clear HE hlen
  go_enter Tryz.func25,Tryz.ntmps25
  go_wp2
  go_loopw [16] (fun i wr=>∃ k:Nat,k≤ps.length∧i=.int .i64 k∧Hid (E=ordGo ((ps.map InstQ.e).drop k))∧Below w.heap.size w wr) (fun i _=>ps.length - (intOf i).toNat)
  case atStart=>exact ⟨0,Nat.zero_le _,rfl,HG,Below.refl _ _⟩
  case round=>
   clear HG
   obtain ⟨k,hk,rfl,HG,hb⟩:=hrel
   by_cases hlt:k < ps.length
   ·have hat:=inst_at ps k hlt
    have HBAD:Hid (insF (InstQ.e ps[k])≠0→E=insF (InstQ.e ps[k])):=fun hx=>by
     rw [HG.out,ordGo_bad _ k (by simpa using hlt) (by rw [hat];exact hx),hat]
    have HOPN:Hid (k + 1 < ps.length→insF (InstQ.e ps[k])=0→outV (InstQ.e ps[k]).dec=3→E=8):=fun h1 h2 h3=>by
     rw [HG.out,ordGo_open _ k (by simpa using h1) (by rw [hat];exact h2) (by rw [hat];exact h3)]
    have HNXT:Hid (insF (InstQ.e ps[k])=0→¬ (k + 1 < ps.length∧outV (InstQ.e ps[k]).dec=3)→E=ordGo ((ps.map InstQ.e).drop (k + 1))):=fun h2 h3=>by
     rw [HG.out,ordGo_next _ k (by simpa using hlt) (by rw [hat];exact h2) (by rw [hat];simpa using h3)]
    have hn:InstQ.n ps[k]≤1048576:=by have:=nmI_le ps k hlt;omega
    have hif0:=implInstanceFault_any ps[k]
    have hho0:=hasOutcome_any ps[k]
    have hif:=fun w hG h=>hif0 w hG h hn
    have hho:=fun w hG h=>hho0 w hG h hn
    clear hif0 hho0
    have hoc:=oc_eq (InstQ.e ps[k])
    clear hat HG
    obtain ⟨b,off,rfl,hbs,hc,hrd⟩:=(h.below hb).cell (by decide) k hlt
    have hc' : ∀ j x,(instK.cells ps[k])[j]? = some x→wr.cell? ⟨b,off + k * 4 + j,none⟩=some x:=hc
    have c0:=hc' 0 (.bool ps[k].has) rfl
    have c1:=hc' 1 ps[k].vb rfl
    have c2:=hc' 2 ps[k].vr rfl
    have c3:=hc' 3 ps[k].vd rfl
    rw [Nat.add_zero] at c0
    clear hc hc'
    have hrb:=fun (w' : World) hb=>instK.rd_below (w' := w') hrd hb
    generalize ocC (InstQ.e ps[k])=OC at *
    generalize outV (InstQ.e ps[k]).dec=OV at *
    generalize insF (InstQ.e ps[k])=C at *
    generalize ps[k]=p at *
    obtain ⟨has,vb,batch,vr,rounds,vd,dec⟩:=p
    obtain ⟨ba,bk,rfl⟩:∃ a c,vb=.slice a batch.length c:=hrd.1.shape
    obtain ⟨va,vk,rfl⟩:∃ a c,vr=.slice a rounds.length c:=hrd.2.1.shape
    obtain ⟨da,dk,rfl⟩:∃ a c,vd=.slice a dec.length c:=hrd.2.2.shape
    dsimp only at c0 c1 c2 c3 hif hho hrb
    have hB1:Below wr.heap.size wr (wr.alloc (.cells #[.bool has,.slice ba batch.length bk,.slice va rounds.length vk,.slice da dec.length dk] 89)):=by go_grown
    have Bk:=Blk.new wr 89 #[.bool has,.slice ba batch.length bk,.slice va rounds.length vk,.slice da dec.length dk]
    have rd1:=hrb _ hB1
    go_wp2_with fail
    generalize wr.alloc (.cells #[.bool has,.slice ba batch.length bk,.slice va rounds.length vk,.slice da dec.length dk] 89)=W1 at *
    refine (hif W1 (hG.below (hb.trans (hB1.mono hb.size))) rd1).mono ?_
    rintro e w2 ⟨rfl,hb2⟩
    have rd2:=instK.rd_below rd1 hb2
    replace Bk:=Bk.below hb2
    replace hb:=(hb.trans (hB1.mono hb.size)).trans (hb2.mono (hb.trans (hB1.mono hb.size)).size)
    clear hB1 hb2 rd1 hif c0 c1 c2 c3 hrb
    by_cases hC:C=0
    ·subst hC
     by_cases hk1:k + 1 < ps.length
     ·have hk2:(k:Int) < (ps.length:Int) - 1:=by omega
      obtain ⟨p0,p1,p2,p3⟩:=Bk.cel4
      go_wp2_with fail
      refine (hho w2 (hG.below hb) rd2).mono ?_
      rintro e w3 ⟨rfl,hb3⟩
      replace hb:=hb.trans (hb3.mono hb.size)
      clear hb3 hho p0 p1 p2 p3 Bk rd2
      by_cases hO:OV=3
      ·have e1:(OC == 0)=false:=by rw [hoc,hO];rfl
       have E1:Hid (E=8):=HOPN.out hk1 (by simp) hO
       clear hoc HOPN HNXT HBAD
       go_wp2
       go_ret
       exact ⟨by rw [E1.out];rfl,hb⟩
      ·have e1:(OC == 0)=true:=by
        rw [hoc]
        have:(OV != 3)=true:=by simpa using hO
        rw [this];rfl
       have E1:Hid (E=ordGo ((ps.map InstQ.e).drop (k + 1))):=HNXT.out (by simp) (fun h=>hO h.2)
       clear hoc HOPN HNXT HBAD
       go_wp2
       go_roundw
       case rel=>exact ⟨k + 1,by omega,by go_num,E1.out,hb⟩
       case measure=>simp [intOf];omega
     ·have hk2:¬ (k:Int) < (ps.length:Int) - 1:=by omega
      have E1:Hid (E=ordGo ((ps.map InstQ.e).drop (k + 1))):=HNXT.out (by simp) (fun h=>hk1 h.1)
      clear hoc HOPN HNXT HBAD hho
      go_wp2
      go_roundw
      case rel=>exact ⟨k + 1,by omega,by go_num,E1.out,hb⟩
      case measure=>simp [intOf];omega
    ·have hC' : (C != 0)=true:=by simpa using hC
     have E1:Hid (E=C):=HBAD.out hC
     clear hoc HOPN HNXT HBAD hho
     go_wp2
     go_ret
     exact ⟨by rw [E1.out];rfl,hb⟩
   ·have E1:Hid (E=0):=by rw [HG.out];exact ordGo_end _ k (by simp;omega)
    clear HG
    go_wp2
    go_ret
    exact ⟨by rw [E1.out];rfl,hb⟩

set_option maxHeartbeats 4000000 in
theorem l7Fault_any (v:Value) (ps:List InstQ) (w:World) (h:instK.At w v ps) (hl:(ps.length + nmL InstQ.n ps)≤1048576) :
  Calls Tryz.prog 40 #[v] w fun e w' => e=.returned (.int .i64 (ordF (ps.map InstQ.e)))∧Below w.heap.size w w' := by
 obtain ⟨a,cap,rfl⟩:=h.shape
 generalize hE:ordF (ps.map InstQ.e)=E
 have HE:Hid (ordF (ps.map InstQ.e)=E):=hE
 clear hE
 by_cases hlen:ps.length < 1∨4 < ps.length
 ·have E1:Hid (E=2):=by
   have:=HE.out
   unfold ordF at this
   rw [if_pos (by simpa using hlen)] at this
   exact this.symm
  clear HE
  rcases hlen with hlen | hlen
  ·go_enter Tryz.func40,Tryz.ntmps40
   go_wp2
   go_ret
   exact ⟨by rw [E1.out];rfl,Below.refl _ _⟩
  ·have h1:¬ ps.length < 1:=by omega
   go_enter Tryz.func40,Tryz.ntmps40
   go_wp2
   go_ret
   exact ⟨by rw [E1.out];rfl,Below.refl _ _⟩
 ·have HG:Hid (E=ordGo (ps.map InstQ.e)):=by
   have:=HE.out
   unfold ordF at this
   rw [if_neg (by simpa using hlen)] at this
   exact this.symm
  have h1:¬ ps.length < 1:=by omega
  have h4:ps.length≤4:=by omega
  clear HE hlen
  go_enter Tryz.func40,Tryz.ntmps40
  go_wp2
  go_loopw [3] (fun i wr=>∃ k:Nat,k≤ps.length∧i=.int .i64 k∧Hid (E=ordGo ((ps.map InstQ.e).drop k))∧Below w.heap.size w wr) (fun i _=>ps.length - (intOf i).toNat)
  case atStart=>exact ⟨0,Nat.zero_le _,rfl,HG,Below.refl _ _⟩
  case round=>
   clear HG
   obtain ⟨k,hk,rfl,HG,hb⟩:=hrel
   by_cases hlt:k < ps.length
   ·have hat:=inst_at ps k hlt
    have HBAD:Hid (insF (InstQ.e ps[k])≠0→E=insF (InstQ.e ps[k])):=fun hx=>by
     rw [HG.out,ordGo_bad _ k (by simpa using hlt) (by rw [hat];exact hx),hat]
    have HOPN:Hid (k + 1 < ps.length→insF (InstQ.e ps[k])=0→outV (InstQ.e ps[k]).dec=3→E=8):=fun h1 h2 h3=>by
     rw [HG.out,ordGo_open _ k (by simpa using h1) (by rw [hat];exact h2) (by rw [hat];exact h3)]
    have HNXT:Hid (insF (InstQ.e ps[k])=0→¬ (k + 1 < ps.length∧outV (InstQ.e ps[k]).dec=3)→E=ordGo ((ps.map InstQ.e).drop (k + 1))):=fun h2 h3=>by
     rw [HG.out,ordGo_next _ k (by simpa using hlt) (by rw [hat];exact h2) (by rw [hat];simpa using h3)]
    obtain ⟨b,off,rfl,hbs,hP⟩:=instP_at (h.below hb) k hlt
    have hn:InstQ.n ps[k]≤1048576:=by have:=nmI_le ps k hlt;omega
    have hif0:=l6Fault_any b (off + k * 4) ps[k]
    have hho0:=l6Outcome_any b (off + k * 4) ps[k]
    have hif:=fun w hP=>hif0 w hP hn
    have hho:=fun w hP=>hho0 w hP hn
    clear hif0 hho0
    have ho2:outV (InstQ.e ps[k]).dec=outV ps[k].dec:=rfl
    rw [ho2] at HOPN HNXT
    clear hat HG ho2
    generalize outV ps[k].dec=OV at *
    generalize insF (InstQ.e ps[k])=C at *
    generalize ps[k]=p at *
    go_wp2_with fail
    refine (hif wr hP).mono ?_
    rintro e w2 ⟨rfl,hb2⟩
    replace hP:=hP.below hb2
    replace hb:=hb.trans (hb2.mono hb.size)
    clear hb2 hif
    by_cases hC:C=0
    ·subst hC
     by_cases hk1:k + 1 < ps.length
     ·have hk2:(k:Int) < (ps.length:Int) - 1:=by omega
      go_wp2_with fail
      refine (hho w2 hP).mono ?_
      rintro e w3 ⟨rfl,hw⟩
      replace hw:=hw.symm
      subst hw
      clear hho hP
      by_cases hO:OV=3
      ·have E1:Hid (E=8):=HOPN.out hk1 (by simp) hO
       have hO' : (OV == 3)=true:=by simpa using hO
       clear HOPN HNXT HBAD hO
       go_wp2
       go_ret
       exact ⟨by rw [E1.out];rfl,hb⟩
      ·have hO' : (OV == 3)=false:=by simpa using hO
       have E1:Hid (E=ordGo ((ps.map InstQ.e).drop (k + 1))):=HNXT.out (by simp) (fun h=>hO h.2)
       clear HOPN HNXT HBAD hO
       go_wp2
       go_roundw
       case rel=>exact ⟨k + 1,by omega,by go_num,E1.out,hb⟩
       case measure=>simp [intOf];omega
     ·have hk2:¬ (k:Int) < (ps.length:Int) - 1:=by omega
      have E1:Hid (E=ordGo ((ps.map InstQ.e).drop (k + 1))):=HNXT.out (by simp) (fun h=>hk1 h.1)
      clear HOPN HNXT HBAD hho
      go_wp2
      go_roundw
      case rel=>exact ⟨k + 1,by omega,by go_num,E1.out,hb⟩
      case measure=>simp [intOf];omega
    ·have hC' : (C != 0)=true:=by simpa using hC
     have E1:Hid (E=C):=HBAD.out hC
     clear HOPN HNXT HBAD hho
     go_wp2
     go_ret
     exact ⟨by rw [E1.out];rfl,hb⟩
   ·have E1:Hid (E=0):=by rw [HG.out];exact ordGo_end _ k (by simp;omega)
    clear HG
    go_wp2
    go_ret
    exact ⟨by rw [E1.out];rfl,hb⟩

end Go.Proofs.YtjjoahhnkpjolaaGreatDoor
