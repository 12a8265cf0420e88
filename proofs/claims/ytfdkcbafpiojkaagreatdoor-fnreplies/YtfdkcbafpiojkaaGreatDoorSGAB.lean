/- Texts joined, with what the laws reach alone. -/
import Derived.Test.YtfdkcbafpiojkaaGreatDoorSGAA
import Derived.Lib.SmallJoins
import Derived.Maps.AppendAt
set_option linter.unusedVariables false
set_option linter.unusedSimpArgs false
namespace Go.Proofs.YtfdkcbafpiojkaaGreatDoor
open Go.RowKit
set_option maxRecDepth 100000
def inW (n lo hi:Int):Bool:=decide (lo≤n) && decide (n≤hi)

def actF (x:ActD):Int:=
 if (inW x.kind 1 4=false)∨((x.kind == 3)=true∧(x.val != 0)=true) then 1
 else if inW x.key 1 20=false∨inW x.val (-1000) 1000=false then 3 else 0

def actsF:List ActD→Int
 | []=>0
 | x :: r=>if actF x=0 then actsF r else actF x

def txnF (i s q:Int) (zs:List ActD):Int:=
 if inW i 1 200=false∨inW s 1 9=false∨inW q 1 99=false then 3
 else if zs.length < 1∨4 < zs.length then 2 else actsF zs

theorem actsF_first (zs:List ActD):∀ k,(∀ j,j < k→actF (zs.getD j actNo)=0)→k < zs.length→actF (zs.getD k actNo)≠0→actsF zs=actF (zs.getD k actNo):=by
 induction zs with
 | nil=>intro k _ h;simp at h
 | cons x r ih=>
  intro k h0 hk hne
  cases k with
  | zero=>simp [List.getD] at hne ⊢;simp [actsF,hne]
  | succ k=>
   have hx:actF x=0:=by simpa [List.getD] using h0 0 (by omega)
   have:=ih k (fun j hj=>by simpa [List.getD] using h0 (j + 1) (by omega)) (by simpa using hk) (by simpa [List.getD] using hne)
   simp only [actsF,hx,if_true]
   rw [this]
   simp [List.getD]

theorem actsF_none (zs:List ActD) (h:∀ j,j < zs.length→actF (zs.getD j actNo)=0):actsF zs=0:=by
 induction zs with
 | nil=>rfl
 | cons x r ih=>
  have hx:actF x=0:=by simpa [List.getD] using h 0 (by simp)
  simp only [actsF,hx,if_true]
  exact ih (fun j hj=>by simpa [List.getD] using h (j + 1) (by simpa using hj))

set_option maxHeartbeats 1000000 in
theorem isWithin_any (n lo hi:Int) (w:World) :
    Calls Tryz.prog 146 #[.int .i64 n,.int .i64 lo,.int .i64 hi] w fun e w' => e=.returned (.bool (inW n lo hi))∧w' = w:=by
  unfold inW
  cases h1:decide (lo≤n) <;> cases h2:decide (n≤hi) <;> simp only [decide_eq_true_eq,decide_eq_false_iff_not] at h1 h2 <;>
  (go_enter Tryz.func146,Tryz.ntmps146
   go_wp2
   go_ret
   exact ⟨rfl,rfl⟩)

set_option maxHeartbeats 1000000 in
theorem l1InW_any (n lo hi:Int) (w:World) :
    Calls Tryz.prog 168 #[.int .i64 n,.int .i64 lo,.int .i64 hi] w fun e w' => e=.returned (.bool (inW n lo hi))∧w' = w:=by
  unfold inW
  cases h1:decide (lo≤n) <;> cases h2:decide (n≤hi) <;> simp only [decide_eq_true_eq,decide_eq_false_iff_not] at h1 h2 <;>
  (go_enter Tryz.func168,Tryz.ntmps168
   go_wp2
   go_ret
   exact ⟨rfl,rfl⟩)

/-- The ways through an act's tests. -/
theorem actF_ways (k y v:Int) :
  (inW k 1 4=false∧actF ⟨k,y,v⟩=1)∨(inW k 1 4=true∧(k == 3)=true∧(v != 0)=true∧actF ⟨k,y,v⟩=1) ∨
  (inW k 1 4=true∧(((k == 3)=true∧(v != 0)=false)∨(k == 3)=false) ∧
   ((inW y 1 20=false∧actF ⟨k,y,v⟩=3)∨(inW y 1 20=true∧inW v (-1000) 1000=false∧actF ⟨k,y,v⟩=3)∨(inW y 1 20=true∧inW v (-1000) 1000=true∧actF ⟨k,y,v⟩=0))):=by
 unfold actF
 cases h1:inW k 1 4 <;> cases h2:(k == 3) <;> cases h3:(v != 0) <;> cases h4:inW y 1 20 <;> cases h5:inW v (-1000) 1000 <;> simp [h1,h2,h3,h4,h5]

set_option maxHeartbeats 400000 in
theorem actFault_any (k y v:Int) (w:World) :
    Calls Tryz.prog 151 #[.agg #[.int .i64 k,.int .i64 y,.int .i64 v]] w fun e w' => e=.returned (.int .i64 (actF ⟨k,y,v⟩))∧Below w.heap.size w w' := by
  rcases actF_ways k y v with ⟨h1,h⟩ | ⟨h1,h2,h3,h⟩ | ⟨h1,⟨h2,h3⟩ | h2,⟨h4,h⟩ | ⟨h4,h5,h⟩ | ⟨h4,h5,h⟩⟩ <;> rw [h] <;> clear h <;>
  (go_enter Tryz.func151,Tryz.ntmps151
   go_wp2_with (go_at_call 146;refine (isWithin_any _ _ _ _).mono ?_;rintro e w' ⟨rfl,rfl⟩)
   go_ret
   exact ⟨rfl,by go_grown⟩)

set_option maxHeartbeats 400000 in
theorem l2Act_any (b o:Nat) (k y v:Int) (w:World) (h0:w.cell? ⟨b,o,none⟩=some (.int .i64 k)) (h1:w.cell? ⟨b,o + 1,none⟩=some (.int .i64 y)) (h2:w.cell? ⟨b,o + 2,none⟩=some (.int .i64 v)) :
    Calls Tryz.prog 169 #[.pointer (some ⟨b,o,none⟩)] w fun e w' => e=.returned (.int .i64 (actF ⟨k,y,v⟩))∧w' = w:=by
  rcases actF_ways k y v with ⟨h1,h⟩ | ⟨h1,h2,h3,h⟩ | ⟨h1,⟨h2,h3⟩ | h2,⟨h4,h⟩ | ⟨h4,h5,h⟩ | ⟨h4,h5,h⟩⟩ <;> rw [h] <;> clear h <;>
  (go_enter Tryz.func169,Tryz.ntmps169
   go_wp2_with (go_at_call 168;refine (l1InW_any _ _ _ _).mono ?_;rintro e w' ⟨rfl,rfl⟩)
   go_ret
   exact ⟨rfl,rfl⟩)

end Go.Proofs.YtfdkcbafpiojkaaGreatDoor
namespace Go.Proofs.YtfdkcbafpiojkaaGreatDoor
open Go.RowKit
set_option maxRecDepth 100000
/-- The ways through a transaction's first tests. -/
theorem txnF_ways (i s q:Int) (zs:List ActD) :
  (inW i 1 200=false∧txnF i s q zs=3)∨(inW i 1 200=true∧inW s 1 9=false∧txnF i s q zs=3)∨(inW i 1 200=true∧inW s 1 9=true∧inW q 1 99=false∧txnF i s q zs=3) ∨
  (inW i 1 200=true∧inW s 1 9=true∧inW q 1 99=true∧((zs.length < 1∧txnF i s q zs=2)∨(4 < zs.length∧txnF i s q zs=2)∨(¬ zs.length < 1∧¬ 4 < zs.length∧txnF i s q zs=actsF zs))):=by
 unfold txnF
 cases h1:inW i 1 200 <;> cases h2:inW s 1 9 <;> cases h3:inW q 1 99 <;> simp only [Bool.false_eq_true,Bool.true_eq_false,reduceCtorEq,if_true,if_false,false_or,or_false,true_or,or_true,false_and,true_and,and_true,and_false]
 by_cases h4:zs.length < 1 <;> by_cases h5:4 < zs.length <;> simp only [h4,h5,if_true,if_false,or_true,true_or,or_false,false_or,not_true_eq_false,not_false_eq_true,false_and,true_and,and_self]

set_option maxHeartbeats 400000 in
theorem txnFault_any (i s q:Int) (a:Option Addr) (cap:Nat) (zs:List ActD) (w:World) (h:ActRow w a zs) (hl:zs.length≤1048576) :
    Calls Tryz.prog 86 #[.agg #[.int .i64 i,.int .i64 s,.int .i64 q,.slice a zs.length cap]] w fun e w' => e=.returned (.int .i64 (txnF i s q zs))∧Below w.heap.size w w' := by
  rcases txnF_ways i s q zs with ⟨h1,h⟩ | ⟨h1,h2,h⟩ | ⟨h1,h2,h3,h⟩ | ⟨h1,h2,h3,⟨h4,h⟩ | ⟨h4,h⟩ | ⟨h4,h5,hf⟩⟩
  all_goals try
    (rw [h];clear h
     go_enter Tryz.func86,Tryz.ntmps86
     go_wp2_with (go_at_call 146;refine (isWithin_any _ _ _ _).mono ?_;rintro e w' ⟨rfl,rfl⟩)
     go_ret
     exact ⟨rfl,by go_grown⟩)
  rw [hf]
  clear hf
  go_enter Tryz.func86,Tryz.ntmps86
  go_wp2_with (go_at_call 146;refine (isWithin_any _ _ _ _).mono ?_;rintro e w' ⟨rfl,rfl⟩)
  go_loopw [35] (fun j wr=>∃ k:Nat,k≤zs.length∧j=.int .i64 k∧Below w.heap.size w wr∧Hid (∀ j,j < k→actF (zs.getD j actNo)=0)) (fun j _=>zs.length - (intOf j).toNat)
  case atStart=>exact ⟨0,Nat.zero_le _,rfl,by go_grown,fun j hj=>absurd hj (Nat.not_lt_zero _)⟩
  case round=>
    obtain ⟨k,hk,rfl,hb,HA⟩:=hrel
    by_cases hlt:k < zs.length
    · obtain ⟨b,off,rfl,hbs,hc0,hc1,hc2⟩:=(h.below hb).at k hlt
      have hsz:=hb.size
      by_cases hF:actF (zs.getD k actNo)=0
      · have HB:Hid (∀ j,j < k + 1→actF (zs.getD j actNo)=0):=by
          intro j hj
          by_cases hjk:j=k
          · subst hjk;exact hF
          · exact HA.out j (by omega)
        have hcall:=actFault_any (zs.getD k actNo).kind (zs.getD k actNo).key (zs.getD k actNo).val
        rw [show actF ⟨(zs.getD k actNo).kind,(zs.getD k actNo).key,(zs.getD k actNo).val⟩=0 from hF] at hcall
        clear HA hF
        generalize zs.getD k actNo=z at hc0 hc1 hc2 hcall
        go_wp2_with (go_at_call 151;refine (hcall _).mono ?_;rintro e w' ⟨rfl,hb2⟩)
        go_roundw
        case rel=>exact ⟨k + 1,by omega,by go_num,below_from (by go_grown) hb2,HB⟩
        case measure=>simp [intOf];omega
      · have E:Hid (actsF zs=actF (zs.getD k actNo)):=actsF_first zs k HA.out hlt hF
        have hcall:=actFault_any (zs.getD k actNo).kind (zs.getD k actNo).key (zs.getD k actNo).val
        have hne:(actF (zs.getD k actNo) != 0)=true:=by simpa using hF
        change ∀ w,Calls _ _ _ w fun e w' => e=.returned (.int .i64 (actF (zs.getD k actNo)))∧_ at hcall
        clear HA hF
        generalize actF (zs.getD k actNo)=r at hcall E hne
        generalize zs.getD k actNo=z at hc0 hc1 hc2 hcall
        go_wp2_with (go_at_call 151;refine (hcall _).mono ?_;rintro e w' ⟨rfl,hb2⟩)
        go_ret
        rw [E.out]
        exact ⟨rfl,below_from (by go_grown) hb2⟩
    · have hkl:k=zs.length:=by omega
      subst hkl
      have E:Hid (actsF zs=0):=actsF_none zs HA.out
      clear HA
      go_wp2
      go_ret
      rw [E.out]
      exact ⟨rfl,hb⟩

/-- A transaction in a box of four cells. -/
structure Box4 (w:World) (b o:Nat) (x0 x1 x2 x3:Value):Prop where
 c0:w.cell? ⟨b,o,none⟩=some x0
 c1:w.cell? ⟨b,o + 1,none⟩=some x1
 c2:w.cell? ⟨b,o + 2,none⟩=some x2
 c3:w.cell? ⟨b,o + 3,none⟩=some x3

theorem Box4.below {w w' : World} {b o:Nat} {x0 x1 x2 x3:Value} (h:Box4 w b o x0 x1 x2 x3) (hb:Below w.heap.size w w'):Box4 w' b o x0 x1 x2 x3:=by
 have hlt:b < w.heap.size:=World.block_lt_of_cell? w ⟨b,o,none⟩ h.c0
 exact ⟨by rw [hb.cell (p:=⟨b,o,none⟩) hlt];exact h.c0,by rw [hb.cell (p:=⟨b,o + 1,none⟩) hlt];exact h.c1,by rw [hb.cell (p:=⟨b,o + 2,none⟩) hlt];exact h.c2,by rw [hb.cell (p:=⟨b,o + 3,none⟩) hlt];exact h.c3⟩

set_option maxHeartbeats 400000 in
theorem l2Fault_any (b o:Nat) (i s q:Int) (a:Option Addr) (cap:Nat) (zs:List ActD) (w:World) (hB:Box4 w b o (.int .i64 i) (.int .i64 s) (.int .i64 q) (.slice a zs.length cap)) (h:ActRow w a zs) (hl:zs.length≤1048576) :
    Calls Tryz.prog 128 #[.pointer (some ⟨b,o,none⟩)] w fun e w' => e=.returned (.int .i64 (txnF i s q zs))∧w' = w:=by
  obtain ⟨b0,b1,b2,b3⟩:=hB
  rcases txnF_ways i s q zs with ⟨h1,h⟩ | ⟨h1,h2,h⟩ | ⟨h1,h2,h3,h⟩ | ⟨h1,h2,h3,⟨h4,h⟩ | ⟨h4,h⟩ | ⟨h4,h5,hf⟩⟩
  all_goals try
    (rw [h];clear h
     go_enter Tryz.func128,Tryz.ntmps128
     go_wp2_with (go_at_call 168;refine (l1InW_any _ _ _ _).mono ?_;rintro e w' ⟨rfl,rfl⟩)
     go_ret
     exact ⟨rfl,rfl⟩)
  rw [hf]
  clear hf
  go_enter Tryz.func128,Tryz.ntmps128
  go_wp2_with (go_at_call 168;refine (l1InW_any _ _ _ _).mono ?_;rintro e w' ⟨rfl,rfl⟩)
  clear b0 b1 b2
  go_loop [3] (fun j=>∃ k:Nat,k≤zs.length∧j=.int .i64 k∧Hid (∀ j,j < k→actF (zs.getD j actNo)=0)) (fun j=>zs.length - (intOf j).toNat)
  case atStart=>exact ⟨0,Nat.zero_le _,rfl,fun j hj=>absurd hj (Nat.not_lt_zero _)⟩
  case round=>
    obtain ⟨k,hk,rfl,HA⟩:=hrel
    by_cases hlt:k < zs.length
    · obtain ⟨b',off,rfl,hbs,hc0,hc1,hc2⟩:=h.at k hlt
      by_cases hF:actF (zs.getD k actNo)=0
      · have HB:Hid (∀ j,j < k + 1→actF (zs.getD j actNo)=0):=by
          intro j hj
          by_cases hjk:j=k
          · subst hjk;exact hF
          · exact HA.out j (by omega)
        have hcall:=l2Act_any b' (off + k * 3) (zs.getD k actNo).kind (zs.getD k actNo).key (zs.getD k actNo).val _ hc0 hc1 hc2
        rw [show actF ⟨(zs.getD k actNo).kind,(zs.getD k actNo).key,(zs.getD k actNo).val⟩=0 from hF] at hcall
        clear HA hF hc0 hc1 hc2
        go_wp2_with (go_at_call 169;refine hcall.mono ?_;rintro e w' ⟨rfl,rfl⟩)
        go_round
        case rel=>exact ⟨k + 1,by omega,by go_num,HB⟩
        case measure=>simp [intOf];omega
      · have E:Hid (actsF zs=actF (zs.getD k actNo)):=actsF_first zs k HA.out hlt hF
        have hcall:=l2Act_any b' (off + k * 3) (zs.getD k actNo).kind (zs.getD k actNo).key (zs.getD k actNo).val _ hc0 hc1 hc2
        have hne:(actF (zs.getD k actNo) != 0)=true:=by simpa using hF
        change Calls _ _ _ _ fun e w' => e=.returned (.int .i64 (actF (zs.getD k actNo)))∧_ at hcall
        clear HA hF hc0 hc1 hc2
        generalize actF (zs.getD k actNo)=r at hcall E hne
        go_wp2_with (go_at_call 169;refine hcall.mono ?_;rintro e w' ⟨rfl,rfl⟩)
        go_ret
        rw [E.out]
        exact ⟨rfl,rfl⟩
    · have hkl:k=zs.length:=by omega
      subst hkl
      have E:Hid (actsF zs=0):=actsF_none zs HA.out
      clear HA
      go_wp2
      go_ret
      rw [E.out]
      exact ⟨rfl,rfl⟩

theorem box4_new (w:World) (x0 x1 x2 x3:Value) (t:TypeId):Box4 (w.alloc (.cells #[x0,x1,x2,x3] t)) w.heap.size 0 x0 x1 x2 x3:=⟨by simp,by simp,by simp,by simp⟩

theorem Box4.zero {w:World} {b:Nat} {x0 x1 x2 x3:Value} (h:Box4 w b 0 x0 x1 x2 x3):w.cell? ⟨b,0,none⟩=some x0∧w.cell? ⟨b,1,none⟩=some x1∧w.cell? ⟨b,2,none⟩=some x2∧w.cell? ⟨b,3,none⟩=some x3:=
 ⟨h.c0,by simpa using h.c1,by simpa using h.c2,by simpa using h.c3⟩

theorem Box4.lat {w:World} {b:Nat} {x0 x1 x2 x3:Value} (h:Box4 w b 0 x0 x1 x2 x3):(∀ u:Lat w,u.val.cell? ⟨b,0,none⟩=some x0)∧(∀ u:Lat w,u.val.cell? ⟨b,1,none⟩=some x1)∧(∀ u:Lat w,u.val.cell? ⟨b,2,none⟩=some x2)∧(∀ u:Lat w,u.val.cell? ⟨b,3,none⟩=some x3):=
 ⟨lat_cell h.zero.1,lat_cell h.zero.2.1,lat_cell h.zero.2.2.1,lat_cell h.zero.2.2.2⟩

end Go.Proofs.YtfdkcbafpiojkaaGreatDoor
namespace Go.Proofs.YtfdkcbafpiojkaaGreatDoor
open Go.RowKit
set_option maxRecDepth 100000
/-- Block b holds just these cells. -/
def Blk (w:World) (b:Nat) (t:TypeId) (cs:Array Value):Prop:=w.heap[b]? = some (.cells cs t (0,0))

theorem Blk.lt {w:World} {b:Nat} {t:TypeId} {cs:Array Value} (h:Blk w b t cs):b < w.heap.size:=(Array.getElem?_eq_some_iff.1 h).1

theorem Blk.new (w:World) (t:TypeId) (cs:Array Value):Blk (w.alloc (.cells cs t)) w.heap.size t cs:=by
 show (w.heap.push _)[w.heap.size]? = _
 simp

theorem Blk.below {w w' : World} {b:Nat} {t:TypeId} {cs:Array Value} (h:Blk w b t cs) (hb:Below w.heap.size w w'):Blk w' b t cs:=(hb.block b h.lt).trans h

theorem Blk.grown {w w' : World} {b:Nat} {t:TypeId} {cs:Array Value} {row:Option Nat} (h:Blk w b t cs) (hg:w.grownBy w' row) (hne:some b≠row):Blk w' b t cs:=(hg.block b h.lt hne).trans h

theorem Blk.cell {w:World} {b:Nat} {t:TypeId} {cs:Array Value} (h:Blk w b t cs) (j:Nat) (x:Value) (hx:cs[j]? = some x):w.cell? ⟨b,j,none⟩=some x:=by
 unfold Blk at h
 simp [World.cell?,h,hx]

theorem Blk.frozen {w:World} {b:Nat} {t:TypeId} {cs:Array Value} (h:Blk w b t cs) (j:Nat):w.frozen? ⟨b,j,none⟩=false:=by
 unfold Blk at h
 simp [World.frozen?,h]

theorem Blk.lat {w:World} {b:Nat} {t:TypeId} {cs:Array Value} (h:Blk w b t cs) (j:Nat) (x:Value) (hx:cs[j]? = some x):∀ u:Lat w,u.val.cell? ⟨b,j,none⟩=some x:=lat_cell (h.cell j x hx)

/-- Only blocks from lo up to hi have turned, of those that were there. -/
structure Only (lo hi:Nat) (w w' : World):Prop where
 os:w'.os=w.os
 tape:w'.tape=w.tape
 output:w'.output=w.output
 size:w.heap.size≤w'.heap.size
 block:∀ k,k < w.heap.size→(k < lo∨hi≤k)→w'.heap[k]? = w.heap[k]?

theorem only_of_grown {w w' : World} {row:Option Nat} {lo hi:Nat} (hg:w.grownBy w' row) (h:∀ g,row=some g→lo≤g∧g < hi):Only lo hi w w' :=
 ⟨hg.os,hg.tape,hg.output,hg.size,fun k hk hc=>hg.block k hk (fun e=>by have:=h k e.symm;omega)⟩

theorem Only.refl (lo hi:Nat) (w:World):Only lo hi w w:=⟨rfl,rfl,rfl,Nat.le_refl _,fun _ _ _=>rfl⟩

theorem Only.trans {lo hi:Nat} {a b c:World} (h:Only lo hi a b) (k:Only lo hi b c):Only lo hi a c:=
 ⟨k.os.trans h.os,k.tape.trans h.tape,k.output.trans h.output,Nat.le_trans h.size k.size,fun i hi hc=>(k.block i (Nat.lt_of_lt_of_le hi h.size) hc).trans (h.block i hi hc)⟩

theorem Only.of_below {lo hi:Nat} {w w' : World} (h:Below w.heap.size w w'):Only lo hi w w' := ⟨h.os,h.tape,h.output,h.size,fun k hk _=>h.block k hk⟩

theorem below_only {B lo hi:Nat} {a w w' : World} (h:Below B a w) (ho:Only lo hi w w') (hB:B≤lo) (hs:B≤w.heap.size):Below B a w' :=
 ⟨ho.os.trans h.os,ho.tape.trans h.tape,ho.output.trans h.output,Nat.le_trans h.size ho.size,fun k hk=>(ho.block k (by omega) (Or.inl (by omega))).trans (h.block k hk)⟩

theorem own_only {w w' : World} {lo hi base e size n:Nat} {v:Value} {xs:List Value} (h:w.ownsRow base e size v n xs) (ho:Only lo hi w w') (hb:hi≤base):w'.ownsRow base e size v n xs:=by
 refine ⟨h.1,?_⟩
 rcases h.2 with h2 | ⟨g,cap,cur,hv,hg,hh,r⟩
 ·exact Or.inl h2
 ·exact Or.inr ⟨g,cap,cur,hv,hg,by rw [ho.block g (Array.getElem?_eq_some_iff.1 hh).1 (Or.inr (by omega))];exact hh,r⟩

theorem own_apart3 {w w' : World} {base base' e e' n n' s s' : Nat} {v v' : Value} {xs xs' : List Value} (h:w.ownsRow base e s v n xs) (h' : w'.ownsRow base' e' s' v' n' xs') (hb:w.heap.size≤base'):v.ownBlock=none∨v.ownBlock≠v'.ownBlock:=by
 cases hv:v.ownBlock with
 | none=>exact Or.inl rfl
 | some g=>
  right
  intro e
  have h1:=(h.lt g hv).2
  have h2:=(h'.lt g e.symm).1
  omega

theorem own_apart3' {w w' : World} {base base' e e' n n' s s' : Nat} {v v' : Value} {xs xs' : List Value} (h:w.ownsRow base e s v n xs) (h' : w'.ownsRow base' e' s' v' n' xs') (hb:w.heap.size≤base'):v'.ownBlock=none∨v'.ownBlock≠v.ownBlock:=by
 rcases own_apart3 h h' hb with e | e
 ·cases hv:v'.ownBlock with
  | none=>exact Or.inl rfl
  | some g=>right;rw [e];simp
 ·exact Or.inr (fun k=>e k.symm)

theorem own_not3 {w:World} {base e n b s:Nat} {v:Value} {xs:List Value} (h:w.ownsRow base e s v n xs) (hb:b < base∨w.heap.size≤b):some b≠v.ownBlock:=by
 intro e
 have h1:=h.lt b e.symm
 omega

end Go.Proofs.YtfdkcbafpiojkaaGreatDoor
namespace Go.Proofs.YtfdkcbafpiojkaaGreatDoor
open Go.RowKit
open Go.BigFrame
set_option maxRecDepth 100000
structure TxnD where
 id:Int
 session:Int
 seq:Int
 acts:List ActD

def txnNo:TxnD:=⟨0,0,0,[]⟩

/-- A transaction, and where its acts lie. -/
structure TxnP where
 d:TxnD
 a:Option Addr
 cap:Nat

def TxnP.sl (p:TxnP):Value:=.slice p.a p.d.acts.length p.cap

def TxnP.cells (p:TxnP):List Value:=[.int .i64 p.d.id,.int .i64 p.d.session,.int .i64 p.d.seq,p.sl]

def txnCells (ps:List TxnP):List Value:=ps.flatMap TxnP.cells

def txnPNo:TxnP:=⟨txnNo,none,0⟩

theorem txnCells_length (ps:List TxnP):(txnCells ps).length=ps.length * 4:=by
 induction ps with
 | nil=>rfl
 | cons x xs ih=>simp only [txnCells,List.flatMap_cons,List.length_append,List.length_cons] at ih ⊢;rw [ih];simp [TxnP.cells];omega

theorem txnCells_get (ps:List TxnP):∀ (i:Nat),i < ps.length→(txnCells ps)[i * 4]? = some (.int .i64 (ps.getD i txnPNo).d.id)∧(txnCells ps)[i * 4 + 1]? = some (.int .i64 (ps.getD i txnPNo).d.session)∧(txnCells ps)[i * 4 + 2]? = some (.int .i64 (ps.getD i txnPNo).d.seq)∧(txnCells ps)[i * 4 + 3]? = some (ps.getD i txnPNo).sl:=by
 induction ps with
 | nil=>intro i h;simp at h
 | cons x xs ih=>
  intro i h
  cases i with
  | zero=>simp [txnCells,TxnP.cells]
  | succ i=>
   have e:txnCells (x :: xs)=x.cells ++ txnCells xs:=rfl
   have hl:x.cells.length=4:=rfl
   obtain ⟨h1,h2,h3,h4⟩:=ih i (by simpa using h)
   rw [e,List.getElem?_append_right (by omega),List.getElem?_append_right (by omega),List.getElem?_append_right (by omega),List.getElem?_append_right (by omega),hl,show (i + 1) * 4 - 4=i * 4 by omega,show (i + 1) * 4 + 1 - 4=i * 4 + 1 by omega,show (i + 1) * 4 + 2 - 4=i * 4 + 2 by omega,show (i + 1) * 4 + 3 - 4=i * 4 + 3 by omega]
   simpa [List.getD] using ⟨h1,h2,h3,h4⟩

/-- v is a slice that reads as these transactions. -/
def TxnsAt (w:World) (v:Value) (ds:List TxnD):Prop:=
 ∃ a cap ps,v=.slice a ds.length cap∧ps.map TxnP.d=ds∧Lies w a (txnCells ps)∧∀ p∈ps,ActRow w p.a p.d.acts

theorem TxnsAt.below {w w' : World} {v:Value} {ds:List TxnD} (h:TxnsAt w v ds) (hb:Below w.heap.size w w'):TxnsAt w' v ds:=by
 obtain ⟨a,cap,ps,e,hd,hL,hA⟩:=h
 exact ⟨a,cap,ps,e,hd,hL.below hb,fun p hp=>(hA p hp).below hb⟩

theorem TxnsAt.shape {w:World} {v:Value} {ds:List TxnD} (h:TxnsAt w v ds):∃ a cap,v=.slice a ds.length cap:=by
 obtain ⟨a,cap,_,e,_⟩:=h
 exact ⟨a,cap,e⟩

theorem TxnsAt.at {w:World} {a:Option Addr} {n cap:Nat} {ds:List TxnD} (h:TxnsAt w (.slice a n cap) ds) (i:Nat) (hi:i < ds.length) :
  ∃ b off aa cc,a=some ⟨b,off,none⟩∧b < w.heap.size∧w.cell? ⟨b,off + i * 4,none⟩=some (.int .i64 (ds.getD i txnNo).id)∧w.cell? ⟨b,off + i * 4 + 1,none⟩=some (.int .i64 (ds.getD i txnNo).session)∧w.cell? ⟨b,off + i * 4 + 2,none⟩=some (.int .i64 (ds.getD i txnNo).seq) ∧
   w.cell? ⟨b,off + i * 4 + 3,none⟩=some (.slice aa (ds.getD i txnNo).acts.length cc)∧ActRow w aa (ds.getD i txnNo).acts:=by
 obtain ⟨a',cap',ps,e,hd,hL,hA⟩:=h
 simp only [Value.slice.injEq] at e
 obtain ⟨rfl,_,_⟩:=e
 have hl:ps.length=ds.length:=by rw [← hd];simp
 obtain ⟨h1,h2,h3,h4⟩:=txnCells_get ps i (by omega)
 have hp:(ps.getD i txnPNo).d=ds.getD i txnNo:=by
  rw [← hd]
  simp [List.getD,show i < ps.length by omega]
 have hm:ps.getD i txnPNo∈ps:=by simp [List.getD,show i < ps.length by omega]
 rcases hL with h | ⟨b,off,ha,hlt,hc⟩
 ·have:=txnCells_length ps
  rw [h] at this
  simp at this
  omega
 ·have hAA:=hA _ hm
  rw [hp] at hAA h1 h2 h3
  refine ⟨b,off,(ps.getD i txnPNo).a,(ps.getD i txnPNo).cap,ha,hlt,hc _ _ h1,by rw [Nat.add_assoc];exact hc _ _ h2,by rw [Nat.add_assoc];exact hc _ _ h3,?_,hAA⟩
  rw [Nat.add_assoc,hc _ _ h4]
  simp only [TxnP.sl,hp]

/-- v is a slice of transactions, all of whose memory lies in blocks from lo up to hi, and is its own. -/
def OwnTxns (lo hi:Nat) (w:World) (v:Value) (ds:List TxnD):Prop:=
 ∃ g cap ps,v=.slice (some ⟨g,0,none⟩) ds.length cap∧g < hi∧ps.map TxnP.d=ds∧w.ownsRow lo 49 4 (.slice (some ⟨g,0,none⟩) ds.length cap) ds.length (txnCells ps) ∧
  ∀ p∈ps,w.ownsRow lo 146 3 p.sl p.d.acts.length (actCells p.d.acts)∧∀ k,p.sl.ownBlock=some k→k < hi∧k≠g

-- 49

theorem OwnTxns.row {lo hi:Nat} {w:World} {v:Value} {ds:List TxnD} (h:OwnTxns lo hi w v ds):TxnsAt w v ds:=by
 obtain ⟨g,cap,ps,e,_,hd,ho,hp⟩:=h
 exact ⟨_,cap,ps,e,hd,Lies.own ho,fun p hm=>Lies.own (hp p hm).1⟩

-- 49

theorem OwnTxns.below {lo hi:Nat} {w w' : World} {v:Value} {ds:List TxnD} (h:OwnTxns lo hi w v ds) (hb:Below w.heap.size w w'):OwnTxns lo hi w' v ds:=by
 obtain ⟨g,cap,ps,e,hg,hd,ho,hp⟩:=h
 exact ⟨g,cap,ps,e,hg,hd,own_below ho hb,fun p hm=>⟨own_below (hp p hm).1 hb,(hp p hm).2⟩⟩

def sumA (ds:List TxnD):Nat:=(ds.map (fun d=>d.acts.length)).sum

theorem mem_le_sumA {ds:List TxnD} {d:TxnD} (h:d∈ds):d.acts.length≤sumA ds:=by
 induction ds with
 | nil=>simp at h
 | cons x r ih=>
  simp only [sumA,List.map_cons,List.sum_cons] at ih ⊢
  rcases List.mem_cons.1 h with rfl | h
  ·omega
  ·have:=ih h;omega

theorem infoTxn:(Tryz.prog.info? 49).map (fun i=>(i.zero,i.size,i.bytes))=some (some (.agg #[.int .i64 0,.int .i64 0,.int .i64 0,.slice none 0 0]),4,48):=by kernel_rfl

theorem own_set_other {w:World} {base e n s g j:Nat} {v u:Value} {xs:List Value} (h:w.ownsRow base e s v n xs) (hne:∀ k,v.ownBlock=some k→k≠g):(w.setCell ⟨g,j,none⟩ u).ownsRow base e s v n xs:=by
 refine ⟨h.1,?_⟩
 rcases h.2 with h2 | ⟨g',cap,cur,hv,hg,hh,r⟩
 ·exact Or.inl h2
 ·exact Or.inr ⟨g',cap,cur,hv,hg,by rw [Below.heap_setCell _ _ _ _ (by have:=hne g' (by rw [hv];rfl);omega)];exact hh,r⟩

end Go.Proofs.YtfdkcbafpiojkaaGreatDoor
namespace Go.Proofs.YtfdkcbafpiojkaaGreatDoor
open Go.RowKit
set_option maxRecDepth 100000
/-- Acts. -/
def actK:Kind ActD where
 ty:=146
 size:=3
 cells:=ActD.cells
 own _ _:=True
 rd _ _:=True
 foot _:=[]
 len _:=rfl
 own_rd _:=trivial
 own_out _ _ _:=trivial
 own_lt _ k hk:=by simp at hk
 rd_below _ _:=trivial

/-- A transaction where it lies. -/
structure TxnQ where
 i:Int
 s:Int
 q:Int
 va:Value
 acts:List ActD

def txnK:Kind TxnQ where
 ty:=49
 size:=4
 cells p:=[.int .i64 p.i,.int .i64 p.s,.int .i64 p.q,p.va]
 own w p:=actK.Own w p.va p.acts
 rd w p:=actK.At w p.va p.acts
 foot p:=actK.fp p.va p.acts
 len _:=rfl
 own_rd h:=h.at
 own_out h ho hd:=h.out ho hd
 own_lt h:=h.lt
 rd_below h hb:=h.below hb

/-- What a transaction tells, without where it lies. -/
def TxnQ.e (p:TxnQ):TxnD:=⟨p.i,p.s,p.q,p.acts⟩

/-- How much there is. -/
def TxnD.n (d:TxnD):Nat:=d.acts.length

end Go.Proofs.YtfdkcbafpiojkaaGreatDoor
namespace Go.Proofs.YtfdkcbafpiojkaaGreatDoor
open Go.RowKit
open Go.BigFrame
set_option maxRecDepth 100000
theorem actK_at {w:World} {a:Option Addr} {n cap:Nat} {zs:List ActD} (h:actK.At w (.slice a n cap) zs):n=zs.length∧ActRow w a zs:=by
 obtain ⟨a',c,e,hl,_⟩:=h
 simp only [Value.slice.injEq] at e
 obtain ⟨rfl,rfl,_⟩:=e
 exact ⟨rfl,hl⟩

theorem actK_fp (v:Value) (zs:List ActD):actK.fp v zs=blk v:=by
 have:zs.flatMap actK.foot=[]:=by rw [List.flatMap_eq_nil_iff];intro _ _;rfl
 simp [Kind.fp,this]

theorem blk_nodup (v:Value):(blk v).Nodup:=by unfold blk;cases v.ownBlock <;> simp

theorem own_zero {w:World} {base e s n:Nat} {v:Value} {xs:List Value} (h:w.ownsRow base e s v n xs):w.ownsRow 0 e s v n xs∧∀ k∈blk v,base≤k:=⟨own_base h (Nat.zero_le _),fun k hk=>(h.lt k (by simpa [blk] using hk)).1⟩

end Go.Proofs.YtfdkcbafpiojkaaGreatDoor
namespace Go.Proofs.YtfdkcbafpiojkaaGreatDoor
open Go.RowKit
open Go.BigFrame
set_option maxRecDepth 100000
theorem nm_le {P:Type} (nm:P→Nat) (ps:List P) (k:Nat) (h:k < ps.length):nm ps[k]≤nmL nm ps:=by
 have h1:=nmL_succ nm ps k h
 have h2:=nmL_le nm ps (k + 1)
 omega

def TxnQ.n (p:TxnQ):Nat:=p.acts.length

def TxnQ.wf (p:TxnQ):Prop:=p.acts.length≤9223372036854775807

end Go.Proofs.YtfdkcbafpiojkaaGreatDoor
namespace Go.Proofs.YtfdkcbafpiojkaaGreatDoor
open Go.RowKit
open Go.BigFrame
set_option maxRecDepth 100000
structure ItemD where
 key:Int
 val:Int
deriving DecidableEq

def itemNo:ItemD:=⟨0,0⟩

def ItemD.cells (x:ItemD):List Value:=[.int .i64 x.key,.int .i64 x.val]

def itemCells (xs:List ItemD):List Value:=xs.flatMap ItemD.cells

def ItemRow (w:World) (a:Option Addr) (xs:List ItemD):Prop:=Lies w a (itemCells xs)

theorem itemCells_length (xs:List ItemD):(itemCells xs).length=xs.length * 2:=by
 induction xs with
 | nil=>rfl
 | cons x xs ih=>simp only [itemCells,List.flatMap_cons,List.length_append,List.length_cons] at ih ⊢;rw [ih];simp [ItemD.cells];omega

theorem itemCells_get (xs:List ItemD):∀ (i:Nat),i < xs.length→(itemCells xs)[i * 2]? = some (.int .i64 (xs.getD i itemNo).key)∧(itemCells xs)[i * 2 + 1]? = some (.int .i64 (xs.getD i itemNo).val):=by
 induction xs with
 | nil=>intro i h;simp at h
 | cons x xs ih=>
  intro i h
  cases i with
  | zero=>simp [itemCells,ItemD.cells]
  | succ i=>
   have e:itemCells (x :: xs)=x.cells ++ itemCells xs:=rfl
   have hl:x.cells.length=2:=rfl
   obtain ⟨h1,h2⟩:=ih i (by simpa using h)
   rw [e,List.getElem?_append_right (by omega),List.getElem?_append_right (by omega),hl,show (i + 1) * 2 - 2=i * 2 by omega,show (i + 1) * 2 + 1 - 2=i * 2 + 1 by omega]
   simpa [List.getD] using ⟨h1,h2⟩

theorem ItemRow.below {w w' : World} {a:Option Addr} {xs:List ItemD} (h:ItemRow w a xs) (hb:Below w.heap.size w w'):ItemRow w' a xs:=Lies.below h hb

theorem ItemRow.at {w:World} {a:Option Addr} {xs:List ItemD} (h:ItemRow w a xs) (i:Nat) (hi:i < xs.length) :
  ∃ b off,a=some ⟨b,off,none⟩∧b < w.heap.size∧w.cell? ⟨b,off + i * 2,none⟩=some (.int .i64 (xs.getD i itemNo).key)∧w.cell? ⟨b,off + i * 2 + 1,none⟩=some (.int .i64 (xs.getD i itemNo).val):=by
 obtain ⟨h1,h2⟩:=itemCells_get xs i hi
 rcases h with h | ⟨b,off,ha,hlt,hc⟩
 ·have:=itemCells_length xs
  rw [h] at this
  simp at this
  omega
 ·exact ⟨b,off,ha,hlt,hc _ _ h1,by rw [Nat.add_assoc];exact hc _ _ h2⟩

theorem infoItem:(Tryz.prog.info? 134).map (fun i=>(i.zero,i.size,i.bytes))=some (some (.agg #[.int .i64 0,.int .i64 0]),2,16):=by kernel_rfl

/-- Marks, 2 cells an element. -/
def itemMarks (c:Int) (n:Nat):List ItemD:=(List.range n).map fun (i:Nat)=>⟨c + ((i * 2:Nat):Int),c + ((i * 2 + 1:Nat):Int)⟩

end Go.Proofs.YtfdkcbafpiojkaaGreatDoor
namespace Go.Proofs.YtfdkcbafpiojkaaGreatDoor
open Go.RowKit
open Go.BigFrame
set_option maxRecDepth 100000
structure UndoD where
 key:Int
 was:Bool
 val:Int
deriving DecidableEq

def undoNo:UndoD:=⟨0,false,0⟩

def UndoD.cells (x:UndoD):List Value:=[.int .i64 x.key,.bool x.was,.int .i64 x.val]

def undoCells (xs:List UndoD):List Value:=xs.flatMap UndoD.cells

def UndoRow (w:World) (a:Option Addr) (xs:List UndoD):Prop:=Lies w a (undoCells xs)

theorem undoCells_length (xs:List UndoD):(undoCells xs).length=xs.length * 3:=by
 induction xs with
 | nil=>rfl
 | cons x xs ih=>simp only [undoCells,List.flatMap_cons,List.length_append,List.length_cons] at ih ⊢;rw [ih];simp [UndoD.cells];omega

theorem undoCells_get (xs:List UndoD):∀ (i:Nat),i < xs.length→(undoCells xs)[i * 3]? = some (.int .i64 (xs.getD i undoNo).key)∧(undoCells xs)[i * 3 + 1]? = some (.bool (xs.getD i undoNo).was)∧(undoCells xs)[i * 3 + 2]? = some (.int .i64 (xs.getD i undoNo).val):=by
 induction xs with
 | nil=>intro i h;simp at h
 | cons x xs ih=>
  intro i h
  cases i with
  | zero=>simp [undoCells,UndoD.cells]
  | succ i=>
   have e:undoCells (x :: xs)=x.cells ++ undoCells xs:=rfl
   have hl:x.cells.length=3:=rfl
   obtain ⟨h1,h2,h3⟩:=ih i (by simpa using h)
   rw [e,List.getElem?_append_right (by omega),List.getElem?_append_right (by omega),List.getElem?_append_right (by omega),hl,show (i + 1) * 3 - 3=i * 3 by omega,show (i + 1) * 3 + 1 - 3=i * 3 + 1 by omega,show (i + 1) * 3 + 2 - 3=i * 3 + 2 by omega]
   simpa [List.getD] using ⟨h1,h2,h3⟩

theorem UndoRow.below {w w' : World} {a:Option Addr} {xs:List UndoD} (h:UndoRow w a xs) (hb:Below w.heap.size w w'):UndoRow w' a xs:=Lies.below h hb

theorem UndoRow.at {w:World} {a:Option Addr} {xs:List UndoD} (h:UndoRow w a xs) (i:Nat) (hi:i < xs.length) :
  ∃ b off,a=some ⟨b,off,none⟩∧b < w.heap.size∧w.cell? ⟨b,off + i * 3,none⟩=some (.int .i64 (xs.getD i undoNo).key)∧w.cell? ⟨b,off + i * 3 + 1,none⟩=some (.bool (xs.getD i undoNo).was)∧w.cell? ⟨b,off + i * 3 + 2,none⟩=some (.int .i64 (xs.getD i undoNo).val):=by
 obtain ⟨h1,h2,h3⟩:=undoCells_get xs i hi
 rcases h with h | ⟨b,off,ha,hlt,hc⟩
 ·have:=undoCells_length xs
  rw [h] at this
  simp at this
  omega
 ·exact ⟨b,off,ha,hlt,hc _ _ h1,by rw [Nat.add_assoc];exact hc _ _ h2,by rw [Nat.add_assoc];exact hc _ _ h3⟩

theorem infoUndo:(Tryz.prog.info? 185).map (fun i=>(i.zero,i.size,i.bytes))=some (some (.agg #[.int .i64 0,.bool false,.int .i64 0]),3,24):=by kernel_rfl

/-- Marks, 3 cells an element. -/
def undoMarks (c:Int) (n:Nat):List UndoD:=(List.range n).map fun (i:Nat)=>⟨c + ((i * 3:Nat):Int),((c + ((i * 3 + 1:Nat):Int)) % 3 == 0),c + ((i * 3 + 2:Nat):Int)⟩

end Go.Proofs.YtfdkcbafpiojkaaGreatDoor
namespace Go.Proofs.YtfdkcbafpiojkaaGreatDoor
open Go.RowKit
set_option maxRecDepth 100000
theorem Blk.set {w:World} {b:Nat} {t:TypeId} {cs:Array Value} (h:Blk w b t cs) (j:Nat) (x:Value):Blk (w.setCell ⟨b,j,none⟩ x) b t (cs.setIfInBounds j x):=Go.Joins.block_setCell (i:=j) (v:=x) h

theorem Blk.other {w:World} {b b' : Nat} {t:TypeId} {cs:Array Value} (h:Blk w b t cs) (hne:b≠b') (j:Nat) (x:Value):Blk (w.setCell ⟨b',j,none⟩ x) b t cs:=(Below.heap_setCell w ⟨b',j,none⟩ x b hne).trans h

end Go.Proofs.YtfdkcbafpiojkaaGreatDoor
namespace Go.Proofs.YtfdkcbafpiojkaaGreatDoor
open Go.RowKit
open Go.BigFrame
set_option maxRecDepth 100000
def itemK:Kind ItemD where
 ty:=134
 size:=2
 cells:=ItemD.cells
 own _ _:=True
 rd _ _:=True
 foot _:=[]
 len _:=rfl
 own_rd _:=trivial
 own_out _ _ _:=trivial
 own_lt _ k hk:=by simp at hk
 rd_below _ _:=trivial

theorem itemK_row (zs:List ItemD):itemK.row zs=itemCells zs:=rfl

theorem itemK_at {w:World} {a:Option Addr} {n cap:Nat} {zs:List ItemD} (h:itemK.At w (.slice a n cap) zs):n=zs.length∧ItemRow w a zs:=by
 obtain ⟨a',c,e,hl,_⟩:=h
 simp only [Value.slice.injEq] at e
 obtain ⟨rfl,rfl,_⟩:=e
 exact ⟨rfl,hl⟩

theorem itemK_fp (v:Value) (zs:List ItemD):itemK.fp v zs=blk v:=by
 have:zs.flatMap itemK.foot=[]:=by simp [show ∀ z,itemK.foot z=[] from fun _=>rfl]
 simp [Kind.fp,this]

def undoK:Kind UndoD where
 ty:=185
 size:=3
 cells:=UndoD.cells
 own _ _:=True
 rd _ _:=True
 foot _:=[]
 len _:=rfl
 own_rd _:=trivial
 own_out _ _ _:=trivial
 own_lt _ k hk:=by simp at hk
 rd_below _ _:=trivial

theorem undoK_row (zs:List UndoD):undoK.row zs=undoCells zs:=rfl

theorem undoK_at {w:World} {a:Option Addr} {n cap:Nat} {zs:List UndoD} (h:undoK.At w (.slice a n cap) zs):n=zs.length∧UndoRow w a zs:=by
 obtain ⟨a',c,e,hl,_⟩:=h
 simp only [Value.slice.injEq] at e
 obtain ⟨rfl,rfl,_⟩:=e
 exact ⟨rfl,hl⟩

theorem undoK_fp (v:Value) (zs:List UndoD):undoK.fp v zs=blk v:=by
 have:zs.flatMap undoK.foot=[]:=by simp [show ∀ z,undoK.foot z=[] from fun _=>rfl]
 simp [Kind.fp,this]

/-- A list of undos where it lies. -/
structure USQ where
 va:Value
 us:List UndoD

def ussK:Kind USQ where
 ty:=118
 size:=1
 cells p:=[p.va]
 own w p:=undoK.Own w p.va p.us
 rd w p:=undoK.At w p.va p.us
 foot p:=undoK.fp p.va p.us
 len _:=rfl
 own_rd h:=h.at
 own_out h ho hd:=h.out ho hd
 own_lt h:=h.lt
 rd_below h hb:=h.below hb

def USQ.e (p:USQ):List UndoD:=p.us

def USQ.n (p:USQ):Nat:=p.us.length

def USQ.wf (p:USQ):Prop:=p.us.length≤9223372036854775807

theorem infoUndos9:(Tryz.prog.info? 118).map (fun i=>(i.zero,i.size,i.bytes))=some (some (.slice none 0 0),1,24):=by kernel_rfl

end Go.Proofs.YtfdkcbafpiojkaaGreatDoor
namespace Go.Proofs.YtfdkcbafpiojkaaGreatDoor
open Go.RowKit
set_option maxRecDepth 100000
section
variable {P:Type} {K:Kind P} {w w' : World} {v v' : Value} {ps:List P} {p:P} {B:Nat}
theorem Kind.row_snoc (ps:List P) (p:P):K.row (ps ++ [p])=K.row ps ++ K.cells p:=by simp [Kind.row]

theorem Kind.Own.snoc (h:K.Own w v ps) (hnd:(K.fp v ps).Nodup) (hlo:∀ k∈K.fp v ps,B≤k) (hp:K.own w p) (hpn:(K.foot p).Nodup) (hpd:∀ k∈K.foot p,k ∉ K.fp v ps) (hplo:∀ k∈K.foot p,B≤k) (hB:B≤w.heap.size)
  (hrow:w'.ownsRow 0 K.ty K.size v' (ps.length + 1) (K.row ps ++ K.cells p)) (hg:w.grownBy w' v.ownBlock) (hat:v'.ownBlock=v.ownBlock∨v'.ownBlock=some w.heap.size) :
  K.Own w' v' (ps ++ [p])∧(K.fp v' (ps ++ [p])).Nodup∧(∀ k∈K.fp v' (ps ++ [p]),B≤k)∧Out (blk v) w w' := by
 have hO:Out (blk v) w w' := Out.of_grown hg
 have hnd2:=List.nodup_append.1 hnd
 have hlt:=h.lt
 have hplt:=K.own_lt hp
 have hfe:(ps ++ [p]).flatMap K.foot=ps.flatMap K.foot ++ K.foot p:=by simp
 refine ⟨⟨?_,?_⟩,?_,?_,hO⟩
 ·rw [List.length_append,List.length_singleton,Kind.row_snoc]
  exact hrow
 ·intro q hq
  rcases List.mem_append.1 hq with hq | hq
  ·exact K.own_out (h.2 q hq) hO (fun k hk hkb=>hnd2.2.2 k hkb k (List.mem_flatMap.2 ⟨q,hq,hk⟩) rfl)
  ·simp only [List.mem_singleton] at hq
   subst hq
   exact K.own_out hp hO (fun k hk hkb=>hpd k hk (by simp only [Kind.fp,List.mem_append];exact Or.inl hkb))
 ·unfold Kind.fp
  rw [hfe]
  have hrest:(ps.flatMap K.foot ++ K.foot p).Nodup:=List.nodup_append.2 ⟨hnd2.2.1,hpn,fun a ha b hb e=>hpd b hb (by simp only [Kind.fp,List.mem_append];exact Or.inr (e ▸ ha))⟩
  rcases hat with hat | hat
  ·have e:blk v' = blk v:=by unfold blk;rw [hat]
   rw [e]
   refine List.nodup_append.2 ⟨hnd2.1,hrest,fun a ha b hb e=>?_⟩
   subst e
   rcases List.mem_append.1 hb with hb | hb
   ·exact hnd2.2.2 a ha a hb rfl
   ·exact hpd a hb (by simp only [Kind.fp,List.mem_append];exact Or.inl ha)
  ·have e:blk v' = [w.heap.size]:=by unfold blk;rw [hat];rfl
   rw [e]
   refine List.nodup_append.2 ⟨by simp,hrest,fun a ha b hb e=>?_⟩
   simp only [List.mem_singleton] at ha
   subst e ha
   rcases List.mem_append.1 hb with hb | hb
   ·have:=hlt _ (show w.heap.size∈K.fp v ps by simp only [Kind.fp,List.mem_append];exact Or.inr hb)
    omega
   ·have:=hplt _ hb
    omega
 ·intro k hk
  unfold Kind.fp at hk
  rw [hfe] at hk
  rcases List.mem_append.1 hk with hk | hk
  ·rcases hat with hat | hat
   ·exact hlo k (by simp only [Kind.fp,List.mem_append];left;unfold blk at hk ⊢;rw [hat] at hk;exact hk)
   ·unfold blk at hk
    rw [hat] at hk
    simp only [Option.toList,List.mem_singleton] at hk
    omega
  ·rcases List.mem_append.1 hk with hk | hk
   ·exact hlo k (by simp only [Kind.fp,List.mem_append];exact Or.inr hk)
   ·exact hplo k hk

theorem Kind.own_nil (w:World):K.Own w (.slice none 0 0) ([]:List P)∧(K.fp (.slice none 0 0) ([]:List P))=[]:=⟨⟨World.ownsRow_nil _ _ _ _,fun p hp=>by simp at hp⟩,by simp [Kind.fp,blk,Value.ownBlock]⟩

end
end Go.Proofs.YtfdkcbafpiojkaaGreatDoor
namespace Go.Proofs.YtfdkcbafpiojkaaGreatDoor
open Go.RowKit
set_option maxRecDepth 100000
section
variable {P:Type} {K:Kind P} {w w' : World} {a:Option Addr} {n cap:Nat} {ps:List P}
theorem Kind.At.takeK (h:K.At w (.slice a n cap) ps) (m:Nat) (hm:m≤ps.length):K.At w (.slice a m cap) (ps.take m):=by
 obtain ⟨a',c,e,hl,hr⟩:=h
 simp only [Value.slice.injEq] at e
 obtain ⟨rfl,_,rfl⟩:=e
 refine ⟨a,cap,by rw [List.length_take,Nat.min_eq_left hm],?_,fun p hp=>hr p (List.mem_of_mem_take hp)⟩
 have er:K.row ps=K.row (ps.take m) ++ K.row (ps.drop m):=by
  unfold Kind.row
  rw [← List.flatMap_append,List.take_append_drop]
 rcases hl with h0 | ⟨b,off,ha,hlt,hc⟩
 ·left
  rw [er] at h0
  exact (List.append_eq_nil_iff.1 h0).1
 ·right
  refine ⟨b,off,ha,hlt,fun j x hx=>hc j x ?_⟩
  rw [er,List.getElem?_append_left (List.getElem?_eq_some_iff.1 hx).1]
  exact hx

theorem Kind.At.nilA (w:World) (a:Option Addr) (c' : Nat):K.At w (.slice a 0 c') ([]:List P):=⟨a,c',rfl,Or.inl rfl,fun p hp=>by simp at hp⟩

theorem Kind.At.dropS (h:K.At w (.slice a n cap) ps) (m:Nat) (hm:m≤ps.length) (hcap:ps.length≤cap) (c' : Nat):K.At w (.slice (if cap=m then a else a.map (·.add (m * K.size))) (ps.drop m).length c') (ps.drop m):=by
 by_cases hc:cap=m
 ·have hp:ps.drop m=[]:=List.drop_of_length_le (by omega)
  rw [if_pos hc,hp]
  exact Kind.At.nilA w a c'
 ·rw [if_neg hc]
  cases a with
  | none=>
   obtain ⟨a',c,e,hl,hr⟩:=h
   simp only [Value.slice.injEq] at e
   obtain ⟨rfl,_,rfl⟩:=e
   rcases hl with h0 | ⟨b',off',ha,_⟩
   ·refine ⟨none,c',rfl,Or.inl ?_,fun p hp=>hr p (List.mem_of_mem_drop hp)⟩
    have er:K.row ps=K.row (ps.take m) ++ K.row (ps.drop m):=by
     unfold Kind.row
     rw [← List.flatMap_append,List.take_append_drop]
    rw [er] at h0
    exact (List.append_eq_nil_iff.1 h0).2
   ·simp at ha
  | some x=>
   obtain ⟨a',c,e,hl,hr⟩:=h
   simp only [Value.slice.injEq] at e
   obtain ⟨rfl,_,rfl⟩:=e
   refine ⟨_,c',rfl,?_,fun p hp=>hr p (List.mem_of_mem_drop hp)⟩
   have er:K.row ps=K.row (ps.take m) ++ K.row (ps.drop m):=by
    unfold Kind.row
    rw [← List.flatMap_append,List.take_append_drop]
   have hlen:(K.row (ps.take m)).length=m * K.size:=by rw [Kind.row_length,List.length_take,Nat.min_eq_left hm]
   rcases hl with h0 | ⟨b',off',ha,hlt,hc⟩
   ·left
    rw [er] at h0
    exact (List.append_eq_nil_iff.1 h0).2
   ·right
    simp only [Option.some.injEq] at ha
    subst ha
    refine ⟨b',off' + m * K.size,by simp [Addr.add],hlt,fun j y hy=>?_⟩
    have h2:=hc (m * K.size + j) y (by rw [er,List.getElem?_append_right (by omega),hlen,show m * K.size + j - m * K.size=j by omega];exact hy)
    rw [← Nat.add_assoc] at h2
    exact h2

/-- A row of one's own whose elements are read elsewhere. -/
theorem Kind.at_of_row {v:Value} {base e:Nat} (h:w.ownsRow base e K.size v ps.length (K.row ps)) (hr:∀ p∈ps,K.rd w p):K.At w v ps:=by
 obtain ⟨a,c,rfl⟩:=own_shape h
 exact ⟨a,c,rfl,Lies.own h,hr⟩

end
theorem Blk.outs8 {w w' : World} {b:Nat} {t:TypeId} {cs:Array Value} {F:List Nat} (h:Blk w b t cs) (hU:Out F w w') (hF:b ∉ F):Blk w' b t cs:=(hU.block b h.lt hF).trans h

/-- What goes with a slice: how long it may be. -/
def CapOk:Value→Prop
 | .slice _ n c=>n≤c∧c≤maxLen
 | _=>False

end Go.Proofs.YtfdkcbafpiojkaaGreatDoor
