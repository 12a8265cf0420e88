/- Texts joined, with what the laws reach alone. -/
import Derived.Test.YtfdkcbafpiojkaaGreatDoorSGAB
import Derived.Shelf.SlIterI.Nil
import Derived.Shelf.SortM.Plain
import Derived.Shelf.SortM.SortNone
set_option linter.unusedVariables false
set_option linter.unusedSimpArgs false
namespace Go.Proofs.YtfdkcbafpiojkaaGreatDoor
open Go.RowKit
open Go.BigFrame
set_option maxRecDepth 100000
/-- The first of f 0, f 1 .. f (n - 1) that is not 0; else 0. -/
def firstNZ (f:Nat→Int):Nat→Int
 | 0=>0
 | n + 1=>if firstNZ f n=0 then f n else firstNZ f n

theorem firstNZ_none (f:Nat→Int):∀ n,(∀ j,j < n→f j=0)→firstNZ f n=0
 | 0,_=>rfl
 | n + 1,h=>by
  have:=firstNZ_none f n (fun j hj=>h j (by omega))
  simp only [firstNZ,this,if_true]
  exact h n (by omega)

theorem firstNZ_first (f:Nat→Int) (k:Nat) (h:∀ j,j < k→f j=0) (hne:f k≠0):∀ n,k < n→firstNZ f n=f k
 | 0,hk=>by omega
 | n + 1,hk=>by
  by_cases e:k=n
  ·subst e
   simp only [firstNZ,firstNZ_none f k h,if_true]
  ·have:=firstNZ_first f k h hne n (by omega)
   simp only [firstNZ,this,hne,if_false]

theorem firstNZ_zero (f:Nat→Int):∀ n,firstNZ f n=0→∀ j,j < n→f j=0
 | 0,_,j,hj=>by omega
 | n + 1,h,j,hj=>by
  simp only [firstNZ] at h
  by_cases e:firstNZ f n=0
  ·rw [if_pos e] at h
   by_cases ej:j=n
   ·subst ej;exact h
   ·exact firstNZ_zero f n e j (by omega)
  ·rw [if_neg e] at h;exact absurd h e

def prevK (xs:List ItemD) (k:Nat):Int:=if k=0 then 0 else (xs.getD (k - 1) itemNo).key

def itF (xs:List ItemD) (k:Nat):Int:=
 if inW (xs.getD k itemNo).key 1 20=false∨inW (xs.getD k itemNo).val (-20000) 20000=false then 3
 else if (xs.getD k itemNo).key≤prevK xs k then 1 else 0

def itemsF (xs:List ItemD):Int:=if 8 < xs.length then 2 else firstNZ (itF xs) xs.length

theorem itF_ways (xs:List ItemD) (k:Nat) :
  (inW (xs.getD k itemNo).key 1 20=false∧itF xs k=3)∨(inW (xs.getD k itemNo).key 1 20=true∧inW (xs.getD k itemNo).val (-20000) 20000=false∧itF xs k=3) ∨
  (inW (xs.getD k itemNo).key 1 20=true∧inW (xs.getD k itemNo).val (-20000) 20000=true∧(xs.getD k itemNo).key≤prevK xs k∧itF xs k=1) ∨
  (inW (xs.getD k itemNo).key 1 20=true∧inW (xs.getD k itemNo).val (-20000) 20000=true∧¬ (xs.getD k itemNo).key≤prevK xs k∧itF xs k=0):=by
 unfold itF
 generalize xs.getD k itemNo=x
 generalize prevK xs k=p
 cases h1:inW x.key 1 20 <;> cases h2:inW x.val (-20000) 20000 <;> by_cases h3:x.key≤p <;> simp [h3]

set_option maxHeartbeats 400000 in
theorem isItemValue_any (n:Int) (w:World) :
  Calls Tryz.prog 147 #[.int .i64 n] w fun e w' => e=.returned (.bool (inW n (-20000) 20000))∧w' = w:=by
 have hc:=fun w=>isWithin_any n (-20000) 20000 w
 generalize inW n (-20000) 20000=r at hc
 go_enter Tryz.func147,Tryz.ntmps147
 go_wp2_with (go_at_call 146;refine (hc _).mono ?_;rintro e w' ⟨rfl,rfl⟩)
 go_ret
 exact ⟨rfl,rfl⟩

set_option maxHeartbeats 1000000 in
theorem implItemsFault_any (a:Option Addr) (cap:Nat) (zs:List ItemD) (w:World) (h:ItemRow w a zs) (hl:zs.length≤1048576) :
  Calls Tryz.prog 82 #[.slice a zs.length cap] w fun e w' => e=.returned (.int .i64 (itemsF zs))∧Below w.heap.size w w' := by
 by_cases h8:8 < zs.length
 ·have E:itemsF zs=2:=if_pos h8
  rw [E]
  go_enter Tryz.func82,Tryz.ntmps82
  go_wp2
  go_ret
  exact ⟨rfl,Below.refl _ _⟩
 have E:itemsF zs=firstNZ (itF zs) zs.length:=if_neg h8
 rw [E]
 clear E
 go_enter Tryz.func82,Tryz.ntmps82
 go_wp2
 go_loopw [3,11] (fun l j wr=>∃ k:Nat,k≤zs.length∧j=.int .i64 k∧l=.int .i64 (prevK zs k)∧Below w.heap.size w wr∧Hid (∀ j,j < k→itF zs j=0)) (fun _ j _=>zs.length - (intOf j).toNat)
 case atStart=>exact ⟨0,Nat.zero_le _,rfl,rfl,Below.refl _ _,fun j hj=>absurd hj (Nat.not_lt_zero _)⟩
 case round=>
  obtain ⟨k,hk,rfl,rfl,hb,HA⟩:=hrel
  by_cases hlt:k < zs.length
  ·obtain ⟨b,off,rfl,hbs,hc0,hc1⟩:=(h.below hb).at k hlt
   have hsz:=hb.size
   have HK:Hid (prevK zs (k + 1)=(zs.getD k itemNo).key):=if_neg (Nat.succ_ne_zero k)
   rcases itF_ways zs k with ⟨h1,hF⟩ | ⟨h1,h2,hF⟩ | ⟨h1,h2,h3,hF⟩ | ⟨h1,h2,h3,hF⟩
   case inr.inr.inr=>
    have HB:Hid (∀ j,j < k + 1→itF zs j=0):=by
     intro j hj
     by_cases hjk:j=k
     ·subst hjk;exact hF
     ·exact HA.out j (by omega)
    clear HA hF
    generalize prevK zs k=p at h3
    generalize zs.getD k itemNo=z at hc0 hc1 h1 h2 h3 HK
    obtain ⟨z0,z1⟩:=z
    dsimp only at hc0 hc1 h1 h2 h3 HK
    go_wp2_with (first | (go_at_call 146;refine (isWithin_any _ _ _ _).mono ?_;rintro e w' ⟨rfl,rfl⟩) | (go_at_call 147;refine (isItemValue_any _ _).mono ?_;rintro e w' ⟨rfl,rfl⟩))
    go_roundw
    case rel=>exact ⟨k + 1,by omega,by go_num,by rw [HK.out],by go_grown,HB⟩
    case measure=>simp [intOf];omega
   all_goals
    have E:Hid (firstNZ (itF zs) zs.length=_):=firstNZ_first (itF zs) k HA.out (by rw [hF];decide) zs.length hlt
    rw [hF] at E
    clear HA hF HK
    generalize prevK zs k=p at *
    generalize zs.getD k itemNo=z at *
    obtain ⟨z0,z1⟩:=z
    dsimp only at *
    go_wp2_with (first | (go_at_call 146;refine (isWithin_any _ _ _ _).mono ?_;rintro e w' ⟨rfl,rfl⟩) | (go_at_call 147;refine (isItemValue_any _ _).mono ?_;rintro e w' ⟨rfl,rfl⟩))
    go_ret
    rw [E.out]
    exact ⟨rfl,by go_grown⟩
  ·have hkl:k=zs.length:=by omega
   subst hkl
   have E:Hid (firstNZ (itF zs) zs.length=0):=firstNZ_none _ _ HA.out
   clear HA
   go_wp2
   go_ret
   rw [E.out]
   exact ⟨rfl,hb⟩

end Go.Proofs.YtfdkcbafpiojkaaGreatDoor
namespace Go.Proofs.YtfdkcbafpiojkaaGreatDoor
open Go.RowKit
set_option maxRecDepth 100000
/-- v owns its row, which lies in blocks from lo up to hi. -/
def OwnS (e size lo hi:Nat) (w:World) (v:Value) (n:Nat) (xs:List Value):Prop:=w.ownsRow lo e size v n xs∧∀ g,v.ownBlock=some g→g < hi

theorem OwnS.of {e size lo n:Nat} {w:World} {v:Value} {xs:List Value} (o:w.ownsRow lo e size v n xs):OwnS e size lo w.heap.size w v n xs:=⟨o,fun g hg=>(o.lt g hg).2⟩

theorem OwnS.below {e size lo hi n:Nat} {w w' : World} {v:Value} {xs:List Value} (o:OwnS e size lo hi w v n xs) (hb:Below w.heap.size w w'):OwnS e size lo hi w' v n xs:=⟨own_below o.1 hb,o.2⟩

theorem OwnS.only {e size lo hi n lo' hi' : Nat} {w w' : World} {v:Value} {xs:List Value} (o:OwnS e size lo hi w v n xs) (h:Only lo' hi' w w') (hh:hi' ≤ lo):OwnS e size lo hi w' v n xs:=⟨own_only o.1 h hh,o.2⟩

theorem OwnS.lies {e size lo hi n c:Nat} {w:World} {a:Option Addr} {xs:List Value} (o:OwnS e size lo hi w (.slice a n c) n xs):Lies w a xs:=Lies.own o.1

theorem OwnS.wide {e size lo hi n lo' hi' : Nat} {w:World} {v:Value} {xs:List Value} (o:OwnS e size lo hi w v n xs) (h:lo' ≤ lo) (hh:hi≤hi'):OwnS e size lo' hi' w v n xs:=⟨own_base o.1 h,fun g hg=>Nat.lt_of_lt_of_le (o.2 g hg) hh⟩

theorem OwnS.grown {e size lo hi n:Nat} {w w' : World} {v:Value} {xs:List Value} (o:OwnS e size lo hi w v n xs) (hg:w.grownBy w' v.ownBlock):Only lo hi w w' := only_of_grown hg (fun g h=>⟨(o.1.lt g h).1,o.2 g h⟩)

/-- Another list's marking leaves it, where the two lie in two blocks. -/
theorem OwnS.beside {e size lo hi n:Nat} {w w' : World} {v v' : Value} {xs:List Value} (o:OwnS e size lo hi w v n xs) (hg:w.grownBy w' v'.ownBlock) (h:v.ownBlock=none∨v.ownBlock≠v'.ownBlock):OwnS e size lo hi w' v n xs:=⟨o.1.kept hg h,o.2⟩

-- 49

theorem OwnTxns.only {lo hi lo' hi' : Nat} {w w' : World} {v:Value} {ds:List TxnD} (h:OwnTxns lo hi w v ds) (ho:Only lo' hi' w w') (hh:hi' ≤ lo):OwnTxns lo hi w' v ds:=by
 obtain ⟨g,cap,ps,e,hg,hd,o,hp⟩:=h
 exact ⟨g,cap,ps,e,hg,hd,own_only o ho hh,fun p hm=>⟨own_only (hp p hm).1 ho hh,(hp p hm).2⟩⟩

end Go.Proofs.YtfdkcbafpiojkaaGreatDoor
namespace Go.Proofs.YtfdkcbafpiojkaaGreatDoor
open Go.RowKit Go.Maps Go.Sort Go.Shelf
def shKeys_ren:Go.Shelf.Ren:=⟨fun | 7=>154 | 10=>185 | n=>n,fun | 23=>143 | 26=>2 | 3=>2 | 28=>218 | 0=>0 | 27=>217 | 33=>210 | 4=>4 | n=>n,fun | n=>n⟩

theorem shKeys:Go.Proofs.SlLaysZI.n7 Tryz.prog shKeys_ren:={
 mixed:=by kernel_rfl,
 f7:=⟨Tryz.f154.name,by decide,Tryz.func154.trans (congrArg some (by kernel_rfl))⟩,
 f10:=⟨Tryz.f185.name,by decide,Tryz.func185.trans (congrArg some (by kernel_rfl))⟩,
 t0:=Tryz.underlying0,
 a0:=Tryz.isAgg0,
 z0:=Tryz.sizeOf0,
 v0:=Tryz.zeroValue0,
 t4:=Tryz.underlying4,
 a4:=Tryz.isAgg4,
 z4:=Tryz.sizeOf4,
 v4:=Tryz.zeroValue4,
 t23:=Tryz.underlying143,
 a23:=Tryz.isAgg143,
 z23:=Tryz.sizeOf143,
 v23:=Tryz.zeroValue143,
 t26:=Tryz.underlying2,
 a26:=Tryz.isAgg2,
 z26:=Tryz.sizeOf2,
 v26:=Tryz.zeroValue2,
 t27:=Tryz.underlying217,
 a27:=Tryz.isAgg217,
 z27:=Tryz.sizeOf217,
 v27:=Tryz.zeroValue217,
 t28:=Tryz.underlying218,
 a28:=Tryz.isAgg218,
 z28:=Tryz.sizeOf218,
 v28:=Tryz.zeroValue218,
 t33:=Tryz.underlying210,
 a33:=Tryz.isAgg210,
 z33:=Tryz.sizeOf210,
 v33:=Tryz.zeroValue210 }

def shSorted_ren:Go.Shelf.Ren:=⟨fun | 6=>153 | 8=>183 | 9=>184 | 11=>196 | 13=>198 | 12=>197 | 23=>209 | 24=>210 | 14=>200 | 15=>201 | 16=>202 | 17=>203 | 18=>204 | 19=>205 | 20=>206 | 21=>207 | 22=>208 | 25=>211 | 26=>212 | 27=>213 | 28=>214 | 29=>215 | 30=>216 | 31=>217 | n=>n,fun | 26=>2 | 28=>218 | 24=>73 | 0=>0 | 3=>3 | 37=>275 | 48=>286 | 50=>288 | 4=>4 | 40=>278 | 39=>277 | 45=>283 | 5=>5 | 9=>9 | 51=>289 | 55=>293 | 57=>295 | 58=>296 | 33=>210 | n=>n,fun | n=>n⟩

theorem shSorted:Go.Proofs.SlLaysZI.n6 Tryz.prog shSorted_ren:={
 mixed:=by kernel_rfl,
 f6:=⟨Tryz.f153.name,by decide,Tryz.func153.trans (congrArg some (by kernel_rfl))⟩,
 f8:=⟨Tryz.f183.name,by decide,Tryz.func183.trans (congrArg some (by kernel_rfl))⟩,
 f11:=⟨Tryz.f196.name,by decide,Tryz.func196.trans (congrArg some (by kernel_rfl))⟩,
 t0:=Tryz.underlying0,
 a0:=Tryz.isAgg0,
 z0:=Tryz.sizeOf0,
 v0:=Tryz.zeroValue0,
 t24:=Tryz.underlying73,
 a24:=Tryz.isAgg73,
 z24:=Tryz.sizeOf73,
 v24:=Tryz.zeroValue73,
 t26:=Tryz.underlying2,
 a26:=Tryz.isAgg2,
 z26:=Tryz.sizeOf2,
 v26:=Tryz.zeroValue2,
 t28:=Tryz.underlying218,
 a28:=Tryz.isAgg218,
 z28:=Tryz.sizeOf218,
 v28:=Tryz.zeroValue218,
 i26:=by kernel_rfl }

def shSort_ren:Go.Shelf.Ren:=⟨fun | 5=>184 | 8=>198 | 7=>197 | 19=>209 | 20=>210 | 10=>200 | 11=>201 | 12=>202 | 13=>203 | 14=>204 | 15=>205 | 16=>206 | 17=>207 | 18=>208 | 30=>211 | 31=>212 | 32=>213 | 33=>214 | 34=>215 | 35=>216 | 40=>217 | n=>n,fun | 23=>73 | 25=>2 | 3=>3 | 32=>275 | 22=>73 | 0=>0 | 44=>286 | 46=>288 | 4=>4 | 36=>278 | 35=>277 | 41=>283 | 5=>5 | 9=>9 | 53=>289 | 57=>293 | 63=>295 | 64=>296 | n=>n,fun | n=>n⟩

theorem shSort:Go.Proofs.SlLaysM.n5 Tryz.prog shSort_ren:={
 mixed:=by kernel_rfl,
 f5:=⟨Tryz.f184.name,by decide,Tryz.func184.trans (congrArg some (by kernel_rfl))⟩,
 f7:=⟨Tryz.f197.name,by decide,Tryz.func197.trans (congrArg some (by kernel_rfl))⟩,
 f8:=Tryz.func198.trans (congrArg some (by kernel_rfl)),
 f10:=⟨Tryz.f200.name,by decide,Tryz.func200.trans (congrArg some (by kernel_rfl))⟩,
 f11:=⟨Tryz.f201.name,by decide,Tryz.func201.trans (congrArg some (by kernel_rfl))⟩,
 f12:=⟨Tryz.f202.name,by decide,Tryz.func202.trans (congrArg some (by kernel_rfl))⟩,
 f13:=⟨Tryz.f203.name,by decide,Tryz.func203.trans (congrArg some (by kernel_rfl))⟩,
 f14:=⟨Tryz.f204.name,by decide,Tryz.func204.trans (congrArg some (by kernel_rfl))⟩,
 f15:=⟨Tryz.f205.name,by decide,Tryz.func205.trans (congrArg some (by kernel_rfl))⟩,
 f16:=⟨Tryz.f206.name,by decide,Tryz.func206.trans (congrArg some (by kernel_rfl))⟩,
 f17:=⟨Tryz.f207.name,by decide,Tryz.func207.trans (congrArg some (by kernel_rfl))⟩,
 f18:=⟨Tryz.f208.name,by decide,Tryz.func208.trans (congrArg some (by kernel_rfl))⟩,
 f19:=Tryz.func209.trans (congrArg some (by kernel_rfl)),
 f20:=Tryz.func210.trans (congrArg some (by kernel_rfl)),
 f30:=⟨Tryz.f211.name,by decide,Tryz.func211.trans (congrArg some (by kernel_rfl))⟩,
 f31:=Tryz.func212.trans (congrArg some (by kernel_rfl)),
 f32:=Tryz.func213.trans (congrArg some (by kernel_rfl)),
 f33:=⟨Tryz.f214.name,by decide,Tryz.func214.trans (congrArg some (by kernel_rfl))⟩,
 f34:=⟨Tryz.f215.name,by decide,Tryz.func215.trans (congrArg some (by kernel_rfl))⟩,
 f35:=⟨Tryz.f216.name,by decide,Tryz.func216.trans (congrArg some (by kernel_rfl))⟩,
 f40:=⟨Tryz.f217.name,by decide,Tryz.func217.trans (congrArg some (by kernel_rfl))⟩,
 t0:=Tryz.underlying0,
 a0:=Tryz.isAgg0,
 z0:=Tryz.sizeOf0,
 v0:=Tryz.zeroValue0,
 t3:=Tryz.underlying3,
 a3:=Tryz.isAgg3,
 z3:=Tryz.sizeOf3,
 v3:=Tryz.zeroValue3,
 t4:=Tryz.underlying4,
 a4:=Tryz.isAgg4,
 z4:=Tryz.sizeOf4,
 v4:=Tryz.zeroValue4,
 t5:=Tryz.underlying5,
 a5:=Tryz.isAgg5,
 z5:=Tryz.sizeOf5,
 v5:=Tryz.zeroValue5,
 t9:=Tryz.underlying9,
 a9:=Tryz.isAgg9,
 z9:=Tryz.sizeOf9,
 v9:=Tryz.zeroValue9,
 t22:=Tryz.underlying73,
 a22:=Tryz.isAgg73,
 z22:=Tryz.sizeOf73,
 v22:=Tryz.zeroValue73,
 t23:=Tryz.underlying73,
 a23:=Tryz.isAgg73,
 z23:=Tryz.sizeOf73,
 v23:=Tryz.zeroValue73,
 t25:=Tryz.underlying2,
 a25:=Tryz.isAgg2,
 z25:=Tryz.sizeOf2,
 v25:=Tryz.zeroValue2,
 t32:=Tryz.underlying275,
 a32:=Tryz.isAgg275,
 z32:=Tryz.sizeOf275,
 v32:=Tryz.zeroValue275,
 t35:=Tryz.underlying277,
 a35:=Tryz.isAgg277,
 z35:=Tryz.sizeOf277,
 v35:=Tryz.zeroValue277,
 t36:=Tryz.underlying278,
 a36:=Tryz.isAgg278,
 z36:=Tryz.sizeOf278,
 v36:=Tryz.zeroValue278,
 t41:=Tryz.underlying283,
 a41:=Tryz.isAgg283,
 z41:=Tryz.sizeOf283,
 v41:=Tryz.zeroValue283,
 t44:=Tryz.underlying286,
 a44:=Tryz.isAgg286,
 z44:=Tryz.sizeOf286,
 v44:=Tryz.zeroValue286,
 t46:=Tryz.underlying288,
 a46:=Tryz.isAgg288,
 z46:=Tryz.sizeOf288,
 v46:=Tryz.zeroValue288,
 t53:=Tryz.underlying289,
 a53:=Tryz.isAgg289,
 z53:=Tryz.sizeOf289,
 v53:=Tryz.zeroValue289,
 t57:=Tryz.underlying293,
 a57:=Tryz.isAgg293,
 z57:=Tryz.sizeOf293,
 v57:=Tryz.zeroValue293,
 t63:=Tryz.underlying295,
 a63:=Tryz.isAgg295,
 z63:=Tryz.sizeOf295,
 v63:=Tryz.zeroValue295,
 t64:=Tryz.underlying296,
 a64:=Tryz.isAgg296,
 z64:=Tryz.sizeOf296,
 v64:=Tryz.zeroValue296 }

end Go.Proofs.YtfdkcbafpiojkaaGreatDoor
namespace Go.Proofs.YtfdkcbafpiojkaaGreatDoor
open Go.RowKit
set_option maxRecDepth 100000
section
variable {P:Program} {ops:Array Oper} {Q:Exit→Act→World→Prop} {S:World→Prop}
theorem quiet_at (i:Nat) (d:Option Tmp) (v:Value) (fuel:Nat) {F:Nat} {l:Array Bool} {a:Act} {w:World} (hF:F=fuel + 1) (hs:Region.noSelect ops=true)
  (hd:(ops[i]?).map (·.dst)=some d) (hok:okSeg ops [i] l=true) (hw:(ops[i]?).map (fun o=>Region.wanted o (yielded ops a.tmps))=some true)
  (hrun:∀ u,S u→(ops[i]?).map (fun o=>(execOp a.eval o).run P u)=some (.ok (.value v) u)) (hS:S w)
  (h:wpAnyH P .any ops (NoPanic Q) S fuel (upTo [i] l) (a.put d v) w):wpAnyH P .any ops (NoPanic Q) S F l a w:=by
 subst hF
 cases ho:ops[i]? with
 | none=>rw [ho] at hd;simp at hd
 | some o=>
  rw [ho] at hd hw hrun
  simp only [Option.map_some,Option.some.injEq] at hd hw hrun
  subst hd
  simp only [okSeg,Bool.and_eq_true,Bool.and_true] at hok
  exact wpAnyH_take (i:=i) (oi:=o) (v:=v) ho hs hok.1 hok.2 (fun c a w=>noPanic_put c a _ _ w) (Or.inl ⟨hw,fun u hu=>hrun u hu⟩) hS h

/-- One operation, walked as a list of one. -/
theorem op_one {K:Act→World→Prop} (i:Nat) (o:Oper) {a:Act} {w:World} (ho:ops[i]? = some o) (h:wpList P ops (ThenGo Q K) [o] a w):wpOp P ops (NoPanic Q) i K a w:=by
 unfold wpOp
 simp only [ho]
 simp only [wpList] at h
 split at h
 ·rename_i hw
  rw [if_pos hw]
  rcases h with h | ⟨h1,h2⟩
  ·left
   unfold Oper.wp at h ⊢
   revert h
   generalize (execOp a.eval o).run P w=r
   intro h
   unfold Oper.upon at h ⊢
   split at h
   ·exact h
   ·exact h
   ·exact h
   ·refine Calls.mono h fun e w' he=>?_
    cases e <;> exact he
   ·exact h
   ·exact h
   ·exact h
  ·exact Or.inr ⟨h1,h2⟩
 ·rename_i hw
  rw [if_neg hw]
  exact h

/-- One call, by its contract. -/
theorem op_call {K:Act→World→Prop} (i:Nat) (d:Option Tmp) (f:Nat) (args:Array Value) {a:Act} {w:World}
  (hd:(ops[i]?).map (·.dst)=some d) (hw:(ops[i]?).map (fun o=>Region.wanted o (yielded ops a.tmps))=some true)
  (hrun:(ops[i]?).map (fun o=>(execOp a.eval o).run P w)=some (.ok (.enter f args) w))
  (hc:Calls P f args w (fun e w' => ∃ v,e=.returned v∧K (a.put d v) w')):wpOp P ops (NoPanic Q) i K a w:=by
 cases ho:ops[i]? with
 | none=>rw [ho] at hd;simp at hd
 | some o=>
  rw [ho] at hd hw hrun
  simp only [Option.map_some,Option.some.injEq] at hd hw hrun
  subst hd
  unfold wpOp
  simp only [ho,hw,if_true]
  refine .inl ?_
  unfold Oper.wp
  rw [hrun]
  simp only [Oper.upon]
  refine hc.mono fun e w' he=>?_
  obtain ⟨v,rfl,h1⟩:=he
  exact h1

/-- Two may come up: each of them first. -/
theorem two_at (i j:Nat) (fuel:Nat) {F:Nat} {l:Array Bool} {a:Act} {w:World} (hF:F=fuel + 1) (hr:Region.ready .any ops l=[i,j])
  (hi:wpOp P ops (NoPanic Q) i (fun a' w' => S w' ∧ wpAnyH P .any ops (NoPanic Q) S fuel (upTo [i] l) a' w') a w)
  (hj:wpOp P ops (NoPanic Q) j (fun a' w' => S w' ∧ wpAnyH P .any ops (NoPanic Q) S fuel (upTo [j] l) a' w') a w):wpAnyH P .any ops (NoPanic Q) S F l a w:=by
 subst hF
 refine wpAnyH_all hr (by simp) (fun k hk=>?_)
 simp only [List.mem_cons,List.not_mem_nil,or_false] at hk
 rcases hk with rfl | rfl
 ·exact hi
 ·exact hj

end
end Go.Proofs.YtfdkcbafpiojkaaGreatDoor
namespace Go.Proofs.YtfdkcbafpiojkaaGreatDoor
open Go.RowKit
set_option maxRecDepth 100000
/-- The worlds of which p is so. -/
structure KeepP (p:World→Prop) where
 val:World
 isP:p val

section
variable {P:Program} {ops:Array Oper} {Q:Exit→Act→World→Prop} {S:World→Prop} {st:Nat}
/-- Whatever order is picked from here on, and behind every operation S holds, or st has come up. -/
def wpAnyX (P:Program) (ops:Array Oper) (Q:Exit→Act→World→Prop) (S:World→Prop) (st:Nat):Nat→Array Bool→Act→World→Prop
 | 0,listed,a,w=>Region.ready .any ops listed=[]∧Q .normal a w
 | fuel + 1,listed,a,w=>
  (Region.ready .any ops listed=[]→Q .normal a w) ∧
  ∀ i∈Region.ready .any ops listed,wpOp P ops Q i (fun a' w' => ((listed.setIfInBounds i true).getD st true=true∨S w')∧wpAnyX P ops Q S st fuel (listed.setIfInBounds i true) a' w') a w

theorem wpAny_of_X:∀ (fuel:Nat) (listed:Array Bool) (a:Act) (w:World),wpAnyX P ops Q S st fuel listed a w→wpAny P .any ops Q fuel listed a w
 | 0,_,_,_,h=>h
 | fuel + 1,_,_,_,h=>⟨h.1,fun i hi=>wpOp_mono (fun a' w' h' => wpAny_of_X fuel _ a' w' h'.2) (h.2 i hi)⟩

/-- As OrdersHeld's 'wpAnyH_first': besides, st has not come up and waits for i. -/
theorem wpAnyX_first {i:Nat} {oi:Oper} {v:Value} (hi:ops[i]? = some oi) (hsel:∀ (j:Nat) (o:Oper) cs b,ops[j]? = some o→o.op≠.select cs b)
  (hQ:∀ c a w,Q (.panic c) (a.put oi.dst v) w→Q (.panic c) a w) (hist:i≠st) (hst:∀ o,ops[st]? = some o→∃ e∈o.after,Region.binds .any e=true∧e.on=i) :
  ∀ (fuel:Nat) (listed:Array Bool) (a:Act) (w:World),
   (∀ j oj,ops[j]? = some oj→j≠i→listed.getD j true=false→(∀ e∈oj.after,Region.binds .any e=true→e.on≠i)→oi.apart ops oj=true) →
   i∈Region.ready .any ops listed→YieldsIf P ops S oi v a→S w→listed.getD st true=false →
   wpAnyX P ops Q S st fuel (listed.setIfInBounds i true) (a.put oi.dst v) w→wpAnyX P ops Q S st (fuel + 1) listed a w:=by
 intro fuel
 induction fuel with
 | zero=>
  intro listed a w _ hr hy hS hl H
  refine ⟨fun h=>(by rw [h] at hr;cases hr),fun j hj=>?_⟩
  by_cases hji:j=i
  ·subst hji;exact hy.wpOp hi hS ⟨Or.inr hS,H⟩
  ·have:=ready_mono hj hji
   rw [H.1] at this
   cases this
 | succ fuel ih=>
  intro listed a w hfree hr hy hS hl H
  refine ⟨fun h=>(by rw [h] at hr;cases hr),fun j hj=>?_⟩
  by_cases hji:j=i
  ·subst hji;exact hy.wpOp hi hS ⟨Or.inr hS,H⟩
  ·have h1:=H.2 j (ready_mono hj hji)
   obtain ⟨hjun,oj,hoj,hall⟩:=mem_ready.1 hj
   have hnot:∀ e∈oj.after,Region.binds .any e=true→e.on≠i:=fun e he hb heq=>by
    have h1:=hall e he hb
    have h0:=(mem_ready.1 hr).1
    rw [heq] at h1
    rcases Nat.lt_or_ge i listed.size with h' | h'
    ·simp [h'] at h0 h1;rw [h0] at h1;cases h1
    ·simp [Array.getElem?_eq_none h'] at h1
   have hjst:j≠st:=by
    intro e
    subst e
    obtain ⟨e,he,hb,hon⟩:=hst oj hoj
    exact hnot e he hb hon
   have h2:=wpOp_putIf hoj (hfree j oj hoj hji hjun hnot) (fun cs b=>hsel i oi cs b hi) (fun cs b=>hsel j oj cs b hoj) hQ hy h1
   have hfree' : ∀ k ok,ops[k]? = some ok→k≠i→(listed.setIfInBounds j true).getD k true=false →
     (∀ e∈ok.after,Region.binds .any e=true→e.on≠i)→oi.apart ops ok=true:=fun k ok hk hki hun hno=>by
    refine hfree k ok hk hki ?_ hno
    by_cases hjk:j=k
    ·subst hjk;exact hjun
    ·rw [getD_set_ne true hjk] at hun;exact hun
   have hl' : (listed.setIfInBounds j true).getD st true=false:=by rw [getD_set_ne true hjst];exact hl
   refine wpOp_mono (fun a' w' h3=>?_) h2
   have hS' : S w' := by
    rcases h3.2.1 with h4 | h4
    ·rw [getD_set_ne true hjst,getD_set_ne true hist,hl] at h4
     cases h4
    ·exact h4
   refine ⟨Or.inr hS',ih (listed.setIfInBounds j true) a' w' hfree' (ready_mono hr (Ne.symm hji)) h3.1 hS' hl' ?_⟩
   rw [Array.setIfInBounds_comm _ _ hji]
   exact h3.2.2

/-- A post whose word on a panic does not look at the temporaries. -/
def PanTo (Q:Exit→Act→World→Prop) (R:List PanicEntry→World→Prop):Exit→Act→World→Prop
 | .panic c,a,w=>a.defers=[]∧R c w
 | e,a,w=>Q e a w

theorem put_defers_eq (a:Act) (d:Option Tmp) (v:Value):(a.put d v).defers=a.defers:=by cases d <;> rfl

theorem PanTo.put {R:List PanicEntry→World→Prop}:∀ c (a:Act) (d:Option Tmp) (v:Value) w,PanTo Q R (.panic c) (a.put d v) w→PanTo Q R (.panic c) a w:=fun c a d v w h=>⟨(put_defers_eq a d v) ▸ h.1,h.2⟩

variable {R:List PanicEntry→World→Prop}
theorem PanTo.imp (hR:∀ c a w,a.defers=[]→R c w→Q (.panic c) a w):∀ (e:Exit) (a:Act) (w:World),PanTo Q R e a w→Q e a w:=fun e a w h=>by
 cases e <;> first | exact h | exact hR _ _ _ h.1 h.2

theorem beginX {id:Nat} {a:Act} {w:World} (st:Nat) (hm:P.follows .mixedOrders=true) (hR:∀ c a w,a.defers=[]→R c w→Q (.panic c) a w)
  (h:wpAnyX P ops (PanTo Q R) S st ops.size (Array.replicate ops.size false) a w.drew):(Code.region id ops true).wp P Q a w:=
 Code.wp_mono (PanTo.imp hR) (wp_region_any hm (wpAny_of_X _ _ _ _ h))

def waitsB (ops:Array Oper) (st i:Nat):Bool:=match ops[st]? with
 | some o=>o.after.any (fun e=>Region.binds .any e && e.on == i)
 | none=>true

theorem waits_of {i:Nat} (h:waitsB ops st i=true):∀ o,ops[st]? = some o→∃ e∈o.after,Region.binds .any e=true∧e.on=i:=by
 intro o ho
 unfold waitsB at h
 rw [ho] at h
 obtain ⟨k,hk,_,_,hb⟩:=Array.any_iff_exists.1 h
 simp only [Bool.and_eq_true,beq_iff_eq] at hb
 exact ⟨o.after[k],Array.getElem_mem hk,hb⟩

def okSegX (ops:Array Oper) (st:Nat):List Nat→Array Bool→Bool
 | [],_=>true
 | i :: r,l=>Region.free .any ops l i && (Region.ready .any ops l).contains i && (i != st) && waitsB ops st i && !(l.getD st true) && okSegX ops st r (l.setIfInBounds i true)

theorem segX_sound (hs:Region.noSelect ops=true) :
  ∀ (idx:List Nat) (os:List Oper) (l:Array Bool) (a:Act) (w:World) (fuel:Nat),idx.map (ops[·]?)=os.map some→os.all (fun o=>plainB o.op)=true→okSegX ops st idx l=true→S w →
   wpQuiet P ops S (fun a' => wpAnyX P ops (PanTo Q R) S st fuel (upTo idx l) a' w) os a→wpAnyX P ops (PanTo Q R) S st (fuel + idx.length) l a w:=by
 intro idx
 induction idx with
 | nil=>
  intro os l a w fuel hos _ _ _ h
  cases os with
  | nil=>exact h
  | cons o os=>simp at hos
 | cons i r ih=>
  intro os l a w fuel hos hpl hok hS h
  cases os with
  | nil=>simp at hos
  | cons o os=>
   simp only [List.map_cons,List.cons.injEq] at hos
   simp only [List.all_cons,Bool.and_eq_true] at hpl
   simp only [okSegX,Bool.and_eq_true,bne_iff_ne,ne_eq,Bool.not_eq_true'] at hok
   obtain ⟨⟨⟨⟨⟨hf,hr⟩,hne⟩,hwt⟩,hl⟩,hok'⟩:=hok
   simp only [wpQuiet] at h
   by_cases hw:Region.wanted o (yielded ops a.tmps)=true
   ·rw [if_pos hw] at h
    obtain ⟨v,hv,hk⟩:=h
    refine wpAnyX_first (i:=i) (oi:=o) (v:=v) hos.1 (Region.noSelect_spec hs) (fun c a w h=>PanTo.put c a _ _ w h) hne (waits_of hwt) _ l a w (Region.free_spec hos.1 hf) (by simpa using hr) (Or.inl ⟨hw,fun u hu=>?_⟩) hS hl (ih os _ _ w fuel hos.2 hpl.2 hok' hS hk)
    have hq:=hv u hu
    unfold Oper.quietAt at hq
    cases hrun:(execOp a.eval o).run P u with
    | ok n u' =>
     obtain ⟨x,rfl⟩:=plain_value hpl.1 hrun
     rw [hrun] at hq
     obtain ⟨e1,e2⟩:=hq
     rw [e1,e2]
    | halt x u' =>
     rw [hrun] at hq
     exact hq.elim
   ·rw [if_neg hw] at h
    have hw' : Region.wanted o (yielded ops a.tmps)=false:=by simpa using hw
    exact wpAnyX_first (i:=i) (oi:=o) (v:=undef) hos.1 (Region.noSelect_spec hs) (fun c a w h=>PanTo.put c a _ _ w h) hne (waits_of hwt) _ l a w (Region.free_spec hos.1 hf) (by simpa using hr) (Or.inr ⟨hw',rfl⟩) hS hl (ih os _ _ w fuel hos.2 hpl.2 hok' hS h)

theorem segX (rs:List (Nat × Nat)) (fuel:Nat) {F:Nat} {l:Array Bool} {a:Act} {w:World} (hF:F=fuel + (idxR rs).length) (hs:Region.noSelect ops=true) (hm:(idxR rs).map (ops[·]?)=(pickR ops.toList rs).map some)
  (hp:(pickR ops.toList rs).all (fun o=>plainB o.op)=true) (hok:okSegX ops st (idxR rs) l=true) (hS:S w)
  (h:wpQuiet P ops S (fun a' => wpAnyX P ops (PanTo Q R) S st fuel (upTo (idxR rs) l) a' w) (pickR ops.toList rs) a):wpAnyX P ops (PanTo Q R) S st F l a w:=by
 subst hF
 exact segX_sound hs (idxR rs) _ l a w fuel hm hp hok hS h

/-- A call that alone may come up: it returns, or it panics. -/
theorem callX (i:Nat) (d:Option Tmp) (f:Nat) (args:Array Value) (fuel:Nat) {F:Nat} {l:Array Bool} {a:Act} {w:World} (hF:F=fuel + 1)
  (hd:(ops[i]?).map (·.dst)=some d) (hr:Region.ready .any ops l=[i]) (hw:(ops[i]?).map (fun o=>Region.wanted o (yielded ops a.tmps))=some true)
  (hrun:(ops[i]?).map (fun o=>(execOp a.eval o).run P w)=some (.ok (.enter f args) w))
  (hdf:a.defers=[]) (hc:Calls P f args w (fun e w' => (∃ v,e=.returned v∧S w' ∧ wpAnyX P ops (PanTo Q R) S st fuel (upTo [i] l) (a.put d v) w')∨∃ c,e=.panicked c∧R c w')):wpAnyX P ops (PanTo Q R) S st F l a w:=by
 subst hF
 cases ho:ops[i]? with
 | none=>rw [ho] at hd;simp at hd
 | some o=>
  rw [ho] at hd hw hrun
  simp only [Option.map_some,Option.some.injEq] at hd hw hrun
  subst hd
  refine ⟨fun h0=>(by rw [hr] at h0;cases h0),fun j hj=>?_⟩
  rw [hr] at hj
  simp only [List.mem_singleton] at hj
  subst hj
  unfold wpOp
  simp only [ho,hw,if_true]
  refine .inl ?_
  unfold Oper.wp
  rw [hrun]
  simp only [Oper.upon]
  refine hc.mono fun e w' he=>?_
  rcases he with ⟨v,rfl,h1,h2⟩ | ⟨c,rfl,h1⟩
  ·exact ⟨Or.inr h1,h2⟩
  ·exact ⟨hdf,h1⟩

def ThenX (Q:Exit→Act→World→Prop) (R:List PanicEntry→World→Prop) (K:Act→World→Prop):Exit→Act→World→Prop
 | .normal,a,w=>K a w
 | e,a,w=>PanTo Q R e a w

theorem ThenX.to {K:Act→World→Prop} {a:Act} {w:World} (h:K a w):ThenX Q R K .normal a w:=h

theorem oneX (i:Nat) (o:Oper) (fuel:Nat) {F:Nat} {l:Array Bool} {a:Act} {w:World} (hF:F=fuel + 1) (ho:ops[i]? = some o) (hr:Region.ready .any ops l=[i])
  (h:wpList P ops (ThenX Q R (fun a' w' => ((upTo [i] l).getD st true=true∨S w')∧wpAnyX P ops (PanTo Q R) S st fuel (upTo [i] l) a' w')) [o] a w):wpAnyX P ops (PanTo Q R) S st F l a w:=by
 subst hF
 refine ⟨fun h0=>(by rw [hr] at h0;cases h0),fun j hj=>?_⟩
 rw [hr] at hj
 simp only [List.mem_singleton] at hj
 subst hj
 unfold wpOp
 simp only [ho]
 simp only [wpList] at h
 split at h
 ·rename_i hw
  rw [if_pos hw]
  rcases h with h | ⟨h1,h2⟩
  ·left
   unfold Oper.wp at h ⊢
   revert h
   generalize (execOp a.eval o).run P w=r
   intro h
   unfold Oper.upon at h ⊢
   split at h
   ·exact h
   ·exact h
   ·exact h
   ·refine Calls.mono h fun e w' he=>?_
    cases e <;> exact he
   ·exact h
   ·exact h
   ·exact h
  ·exact Or.inr ⟨h1,h2⟩
 ·rename_i hw
  rw [if_neg hw]
  exact h

theorem endX {F:Nat} {l:Array Bool} {a:Act} {w:World} (hr:Region.ready .any ops l=[]) (h:Q .normal a w):wpAnyX P ops (PanTo Q R) S st F l a w:=by
 cases F with
 | zero=>exact ⟨hr,h⟩
 | succ F=>exact ⟨fun _=>h,by rw [hr];simp⟩

end
end Go.Proofs.YtfdkcbafpiojkaaGreatDoor
namespace Go.Proofs.YtfdkcbafpiojkaaGreatDoor
open Go.RowKit
open Go.BigFrame
set_option maxRecDepth 100000
def unF1 (x:UndoD):Int:=
 if inW x.key 1 20=false∨inW x.val (-20000) 20000=false then 3 else if x.was=false∧x.val≠0 then 1 else 0

end Go.Proofs.YtfdkcbafpiojkaaGreatDoor
namespace Go.Proofs.YtfdkcbafpiojkaaGreatDoor
open Go.RowKit
open Go.BigFrame
set_option maxRecDepth 100000
/-- A list of undos, and where it lies. -/
structure USP where
 d:List UndoD
 a:Option Addr
 cap:Nat

def USP.sl (p:USP):Value:=.slice p.a p.d.length p.cap

def usCells (ps:List USP):List Value:=ps.map USP.sl

def uspNo:USP:=⟨[],none,0⟩

theorem usCells_length (ps:List USP):(usCells ps).length=ps.length:=by simp [usCells]

theorem usCells_get (ps:List USP) (i:Nat) (h:i < ps.length):(usCells ps)[i]? = some (ps.getD i uspNo).sl:=by simp [usCells,List.getD,h]

/-- v is a slice that reads as these lists. -/
def UssAt (w:World) (v:Value) (ds:List (List UndoD)):Prop:=
 ∃ a cap ps,v=.slice a ds.length cap∧ps.map USP.d=ds∧Lies w a (usCells ps)∧∀ p∈ps,UndoRow w p.a p.d

theorem UssAt.below {w w' : World} {v:Value} {ds:List (List UndoD)} (h:UssAt w v ds) (hb:Below w.heap.size w w'):UssAt w' v ds:=by
 obtain ⟨a,cap,ps,e,hd,hL,hA⟩:=h
 exact ⟨a,cap,ps,e,hd,hL.below hb,fun p hp=>(hA p hp).below hb⟩

theorem UssAt.shape {w:World} {v:Value} {ds:List (List UndoD)} (h:UssAt w v ds):∃ a cap,v=.slice a ds.length cap:=by
 obtain ⟨a,cap,_,e,_⟩:=h
 exact ⟨a,cap,e⟩

theorem UssAt.at {w:World} {a:Option Addr} {n cap:Nat} {ds:List (List UndoD)} (h:UssAt w (.slice a n cap) ds) (i:Nat) (hi:i < ds.length) :
  ∃ b off aa cc,a=some ⟨b,off,none⟩∧b < w.heap.size∧w.cell? ⟨b,off + i,none⟩=some (.slice aa (ds.getD i []).length cc)∧UndoRow w aa (ds.getD i []):=by
 obtain ⟨a',cap',ps,e,hd,hL,hA⟩:=h
 simp only [Value.slice.injEq] at e
 obtain ⟨rfl,_,_⟩:=e
 have hl:ps.length=ds.length:=by rw [← hd];simp
 have h1:=usCells_get ps i (by omega)
 have hp:(ps.getD i uspNo).d=ds.getD i []:=by
  rw [← hd]
  simp [List.getD,show i < ps.length by omega]
 have hm:ps.getD i uspNo∈ps:=by simp [List.getD,show i < ps.length by omega]
 rcases hL with h | ⟨b,off,ha,hlt,hc⟩
 ·have:=usCells_length ps
  rw [h] at this
  simp at this
  omega
 ·have hAA:=hA _ hm
  rw [hp] at hAA
  refine ⟨b,off,(ps.getD i uspNo).a,(ps.getD i uspNo).cap,ha,hlt,?_,hAA⟩
  rw [hc _ _ h1]
  simp only [USP.sl,hp]

/-- v is a slice of lists, all of whose memory lies in blocks from lo up to hi, and is its own. -/
def OwnUss (lo hi:Nat) (w:World) (v:Value) (ds:List (List UndoD)):Prop:=
 ∃ g cap ps,v=.slice (some ⟨g,0,none⟩) ds.length cap∧g < hi∧ps.map USP.d=ds∧w.ownsRow lo 118 1 (.slice (some ⟨g,0,none⟩) ds.length cap) ds.length (usCells ps) ∧
  ∀ p∈ps,w.ownsRow lo 185 3 p.sl p.d.length (undoCells p.d)∧∀ k,p.sl.ownBlock=some k→k < hi∧k≠g

theorem OwnUss.row {lo hi:Nat} {w:World} {v:Value} {ds:List (List UndoD)} (h:OwnUss lo hi w v ds):UssAt w v ds:=by
 obtain ⟨g,cap,ps,e,_,hd,ho,hp⟩:=h
 exact ⟨_,cap,ps,e,hd,Lies.own ho,fun p hm=>Lies.own (hp p hm).1⟩

theorem OwnUss.below {lo hi:Nat} {w w' : World} {v:Value} {ds:List (List UndoD)} (h:OwnUss lo hi w v ds) (hb:Below w.heap.size w w'):OwnUss lo hi w' v ds:=by
 obtain ⟨g,cap,ps,e,hg,hd,ho,hp⟩:=h
 exact ⟨g,cap,ps,e,hg,hd,own_below ho hb,fun p hm=>⟨own_below (hp p hm).1 hb,(hp p hm).2⟩⟩

theorem OwnUss.only {lo hi lo' hi' : Nat} {w w' : World} {v:Value} {ds:List (List UndoD)} (h:OwnUss lo hi w v ds) (ho:Only lo' hi' w w') (hh:hi' ≤ lo):OwnUss lo hi w' v ds:=by
 obtain ⟨g,cap,ps,e,hg,hd,o,hp⟩:=h
 exact ⟨g,cap,ps,e,hg,hd,own_only o ho hh,fun p hm=>⟨own_only (hp p hm).1 ho hh,(hp p hm).2⟩⟩

theorem infoUndos:(Tryz.prog.info? 118).map (fun i=>(i.zero,i.size,i.bytes))=some (some (.slice none 0 0),1,24):=by kernel_rfl

end Go.Proofs.YtfdkcbafpiojkaaGreatDoor
namespace Go.Proofs.YtfdkcbafpiojkaaGreatDoor
open Go.RowKit
set_option maxRecDepth 100000
/-- No two of the three lie in one block. -/
structure Apart3 (s1 s2 s3:Value):Prop where
 a12:s1.ownBlock=none∨s1.ownBlock≠s2.ownBlock
 a13:s1.ownBlock=none∨s1.ownBlock≠s3.ownBlock
 a23:s2.ownBlock=none∨s2.ownBlock≠s3.ownBlock

theorem ne_swap {s t:Value} (h:s.ownBlock=none∨s.ownBlock≠t.ownBlock):t.ownBlock=none∨t.ownBlock≠s.ownBlock:=by
 rcases h with h | h
 ·cases ht:t.ownBlock with
  | none=>exact Or.inl rfl
  | some g=>right;rw [h];simp
 ·exact Or.inr (fun e=>h e.symm)

structure OwnA (lo hi:Nat) (w:World) (s1 s2 s3:Value) (cs vs:List Int) (ys:List ItemD):Prop where
 o1:OwnS 2 1 lo hi w s1 cs.length (cs.map (Value.int .i64))
 o2:OwnS 2 1 lo hi w s2 vs.length (vs.map (Value.int .i64))
 o3:OwnS 134 2 lo hi w s3 ys.length (itemCells ys)
 ap:Apart3 s1 s2 s3

/-- The three lists read so. -/
structure RowA (w:World) (a1 a2 a3:Option Addr) (cs vs:List Int) (ys:List ItemD):Prop where
 r1:Row .i64 w a1 cs
 r2:Row .i64 w a2 vs
 r3:ItemRow w a3 ys

theorem OwnA.below {lo hi:Nat} {w w' : World} {s1 s2 s3:Value} {cs vs:List Int} {ys:List ItemD} (h:OwnA lo hi w s1 s2 s3 cs vs ys) (hb:Below w.heap.size w w'):OwnA lo hi w' s1 s2 s3 cs vs ys:=⟨h.o1.below hb,h.o2.below hb,h.o3.below hb,h.ap⟩

theorem OwnA.only {lo hi lo' hi' : Nat} {w w' : World} {s1 s2 s3:Value} {cs vs:List Int} {ys:List ItemD} (h:OwnA lo hi w s1 s2 s3 cs vs ys) (ho:Only lo' hi' w w') (hh:hi' ≤ lo):OwnA lo hi w' s1 s2 s3 cs vs ys:=⟨h.o1.only ho hh,h.o2.only ho hh,h.o3.only ho hh,h.ap⟩

theorem OwnA.row {lo hi c1 c2 c3:Nat} {w:World} {a1 a2 a3:Option Addr} {cs vs:List Int} {ys:List ItemD} (h:OwnA lo hi w (.slice a1 cs.length c1) (.slice a2 vs.length c2) (.slice a3 ys.length c3) cs vs ys):RowA w a1 a2 a3 cs vs ys:=⟨Row.own h.o1.1,Row.own h.o2.1,Lies.own h.o3.1⟩

theorem RowA.below {w w' : World} {a1 a2 a3:Option Addr} {cs vs:List Int} {ys:List ItemD} (h:RowA w a1 a2 a3 cs vs ys) (hb:Below w.heap.size w w'):RowA w' a1 a2 a3 cs vs ys:=⟨h.r1.below hb,h.r2.below hb,h.r3.below hb⟩

/-- The three lists hold their marks. -/
structure MarkA (w:World) (a1 a2 a3:Option Addr) (n1 n2 n3:Nat):Prop where
 r1:Row .i64 w a1 (marks .i64 1 n1)
 r2:Row .i64 w a2 (marks .i64 (1 + (n1:Int)) n2)
 r3:ItemRow w a3 (itemMarks (1 + (n1:Int) + (n2:Int)) n3)

theorem MarkA.below {w w' : World} {a1 a2 a3:Option Addr} {n1 n2 n3:Nat} (h:MarkA w a1 a2 a3 n1 n2 n3) (hb:Below w.heap.size w w'):MarkA w' a1 a2 a3 n1 n2 n3:=⟨h.r1.below hb,h.r2.below hb,h.r3.below hb⟩

end Go.Proofs.YtfdkcbafpiojkaaGreatDoor
namespace Go.Proofs.YtfdkcbafpiojkaaGreatDoor
open Go.RowKit
set_option maxRecDepth 100000
structure OwnU (lo hi:Nat) (w:World) (s1 s2:Value) (us:List UndoD) (ys:List ItemD):Prop where
 o1:OwnS 185 3 lo hi w s1 us.length (undoCells us)
 o2:OwnS 134 2 lo hi w s2 ys.length (itemCells ys)
 ap:s1.ownBlock=none∨s1.ownBlock≠s2.ownBlock

/-- The two lists read so. -/
structure RowU (w:World) (a1 a2:Option Addr) (us:List UndoD) (ys:List ItemD):Prop where
 r1:UndoRow w a1 us
 r2:ItemRow w a2 ys

theorem OwnU.below {lo hi:Nat} {w w' : World} {s1 s2:Value} {us:List UndoD} {ys:List ItemD} (h:OwnU lo hi w s1 s2 us ys) (hb:Below w.heap.size w w'):OwnU lo hi w' s1 s2 us ys:=⟨h.o1.below hb,h.o2.below hb,h.ap⟩

theorem OwnU.only {lo hi lo' hi' : Nat} {w w' : World} {s1 s2:Value} {us:List UndoD} {ys:List ItemD} (h:OwnU lo hi w s1 s2 us ys) (ho:Only lo' hi' w w') (hh:hi' ≤ lo):OwnU lo hi w' s1 s2 us ys:=⟨h.o1.only ho hh,h.o2.only ho hh,h.ap⟩

theorem OwnU.row {lo hi c1 c2:Nat} {w:World} {a1 a2:Option Addr} {us:List UndoD} {ys:List ItemD} (h:OwnU lo hi w (.slice a1 us.length c1) (.slice a2 ys.length c2) us ys):RowU w a1 a2 us ys:=⟨Lies.own h.o1.1,Lies.own h.o2.1⟩

theorem RowU.below {w w' : World} {a1 a2:Option Addr} {us:List UndoD} {ys:List ItemD} (h:RowU w a1 a2 us ys) (hb:Below w.heap.size w w'):RowU w' a1 a2 us ys:=⟨h.r1.below hb,h.r2.below hb⟩

/-- The two lists hold their marks. -/
structure MarkU (w:World) (a1 a2:Option Addr) (n1 n2:Nat):Prop where
 r1:UndoRow w a1 (undoMarks 1 n1)
 r2:ItemRow w a2 (itemMarks (1 + ((n1 * 3:Nat):Int)) n2)

theorem MarkU.below {w w' : World} {a1 a2:Option Addr} {n1 n2:Nat} (h:MarkU w a1 a2 n1 n2) (hb:Below w.heap.size w w'):MarkU w' a1 a2 n1 n2:=⟨h.r1.below hb,h.r2.below hb⟩

end Go.Proofs.YtfdkcbafpiojkaaGreatDoor
namespace Go.Proofs.YtfdkcbafpiojkaaGreatDoor
open Go.RowKit
set_option maxRecDepth 100000
def putAll:Act→List (Option Tmp)→List Value→Act
 | a,d :: ds,v :: vs=>putAll (a.put d v) ds vs
 | a,_,_=>a

section
variable {P:Program} {ops:Array Oper} {Q:Exit→Act→World→Prop}
theorem region_vals {id:Nat} {a:Act} {w:World} (ds:List (Option Tmp)) (R:List Value→World→Prop)
  (hreg:(Code.region id ops true).wp P (fun e a' w' => e=.normal∧∃ vs,R vs w' ∧ a' = putAll a ds vs) a w) (himp:∀ vs w',R vs w' → Q .normal (putAll a ds vs) w'):(Code.region id ops true).wp P Q a w:=by
 refine Code.wp_mono ?_ hreg
 rintro e a' w' ⟨rfl,vs,hR,rfl⟩
 exact himp vs w' hR

end
end Go.Proofs.YtfdkcbafpiojkaaGreatDoor
namespace Go.Proofs.YtfdkcbafpiojkaaGreatDoor
open Go.RowKit
open Go.BigFrame
set_option maxRecDepth 100000
theorem inW_true {n lo hi:Int}:inW n lo hi=true↔lo≤n∧n≤hi:=by simp [inW]

theorem actsF_all {zs:List ActD} (h:actsF zs=0):∀ z∈zs,actF z=0:=by
 induction zs with
 | nil=>simp
 | cons x r ih=>
  simp only [actsF] at h
  split at h
  ·rename_i hx
   intro z hz
   rcases List.mem_cons.1 hz with rfl | hz
   ·exact hx
   ·exact ih h z hz
  ·rename_i hx;exact absurd h hx

theorem txnF_zero {i s q:Int} {zs:List ActD} (h:txnF i s q zs=0):(1≤i∧i≤200)∧(1≤s∧s≤9)∧(1≤q∧q≤99)∧(1≤zs.length∧zs.length≤4)∧∀ z∈zs,actF z=0:=by
 unfold txnF at h
 split at h
 ·simp at h
 ·rename_i h1
  split at h
  ·simp at h
  ·rename_i h2
   simp only [not_or,Bool.not_eq_false,inW_true] at h1
   exact ⟨h1.1,h1.2.1,h1.2.2,by omega,actsF_all h⟩

theorem Box4.cells {w:World} {b o:Nat} {x0 x1 x2 x3:Value} (h:Box4 w b o x0 x1 x2 x3):b < w.heap.size:=World.block_lt_of_cell? w ⟨b,o,none⟩ h.c0

end Go.Proofs.YtfdkcbafpiojkaaGreatDoor
namespace Go.Proofs.YtfdkcbafpiojkaaGreatDoor
open Go.RowKit
open Go.BigFrame
set_option maxRecDepth 100000
/-- A box of two cells that may be written. -/
structure Box2 (w:World) (b:Nat) (x y:Value):Prop where
 lt:b < w.heap.size
 c0:w.cell? ⟨b,0,none⟩=some x
 c1:w.cell? ⟨b,1,none⟩=some y
 f0:w.frozen? ⟨b,0,none⟩=false
 f1:w.frozen? ⟨b,1,none⟩=false

theorem Box2.below {w w' : World} {b:Nat} {x y:Value} (h:Box2 w b x y) (hb:Below w.heap.size w w'):Box2 w' b x y:=
 ⟨Nat.lt_of_lt_of_le h.lt hb.size,by rw [hb.cell (p:=⟨b,0,none⟩) h.lt];exact h.c0,by rw [hb.cell (p:=⟨b,1,none⟩) h.lt];exact h.c1,by rw [hb.frozen (p:=⟨b,0,none⟩) h.lt];exact h.f0,by rw [hb.frozen (p:=⟨b,1,none⟩) h.lt];exact h.f1⟩

end Go.Proofs.YtfdkcbafpiojkaaGreatDoor
namespace Go.Proofs.YtfdkcbafpiojkaaGreatDoor
open Go.RowKit
open Go.BigFrame
set_option maxRecDepth 100000
def TxnD.F (d:TxnD):Int:=txnF d.id d.session d.seq d.acts

def allF:List TxnD→Int
 | []=>0
 | d :: r=>if d.F=0 then allF r else d.F

def idsC (ds:List TxnD):Int:=if 60 < ds.length then 2 else allF ds

theorem TxnsAt.box {w:World} {b off i:Nat} {z:TxnD} {aa:Option Addr} {cc:Nat} (h0:w.cell? ⟨b,off + i * 4,none⟩=some (.int .i64 z.id)) (h1:w.cell? ⟨b,off + i * 4 + 1,none⟩=some (.int .i64 z.session)) (h2:w.cell? ⟨b,off + i * 4 + 2,none⟩=some (.int .i64 z.seq))
  (h3:w.cell? ⟨b,off + i * 4 + 3,none⟩=some (.slice aa z.acts.length cc)):Box4 w b (off + i * 4) (.int .i64 z.id) (.int .i64 z.session) (.int .i64 z.seq) (.slice aa z.acts.length cc):=⟨h0,h1,h2,h3⟩

end Go.Proofs.YtfdkcbafpiojkaaGreatDoor
