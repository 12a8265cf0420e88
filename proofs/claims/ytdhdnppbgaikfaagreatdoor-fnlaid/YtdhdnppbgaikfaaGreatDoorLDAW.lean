/- Texts joined, with what the laws reach alone. -/
import Derived.Test.YtdhdnppbgaikfaaGreatDoorLDAR
import Derived.Test.YtdhdnppbgaikfaaGreatDoorLDAQ
import Derived.RangeFuncBox
set_option linter.unusedVariables false
set_option linter.unusedSimpArgs false
namespace Go.Proofs.YtdhdnppbgaikfaaGreatDoor
open Go.RowKit
open Go.BigFrame
set_option maxRecDepth 100000
structure VoteD where
 kind:Int
 round:Int
 node:Int
 value:Int
deriving DecidableEq

def voteNo:VoteD:=⟨0,0,0,0⟩

def VoteD.cells (x:VoteD):List Value:=[.int .i64 x.kind,.int .i64 x.round,.int .i64 x.node,.int .i64 x.value]

def voteCells (xs:List VoteD):List Value:=xs.flatMap VoteD.cells

def VoteRow (w:World) (a:Option Addr) (xs:List VoteD):Prop:=Lies w a (voteCells xs)

theorem voteCells_length (xs:List VoteD):(voteCells xs).length=xs.length * 4:=by
 induction xs with
 | nil=>rfl
 | cons x xs ih=>simp only [voteCells,List.flatMap_cons,List.length_append,List.length_cons] at ih ⊢;rw [ih];simp [VoteD.cells];omega

theorem voteCells_append (xs ys:List VoteD):voteCells (xs ++ ys)=voteCells xs ++ voteCells ys:=by simp [voteCells]

theorem voteCells_one (x:VoteD):voteCells [x]=x.cells:=by simp [voteCells]

theorem voteCells_get (xs:List VoteD):∀ (i:Nat),i < xs.length→(voteCells xs)[i * 4]? = some (.int .i64 (xs.getD i voteNo).kind)∧(voteCells xs)[i * 4 + 1]? = some (.int .i64 (xs.getD i voteNo).round)∧(voteCells xs)[i * 4 + 2]? = some (.int .i64 (xs.getD i voteNo).node)∧(voteCells xs)[i * 4 + 3]? = some (.int .i64 (xs.getD i voteNo).value):=by
 induction xs with
 | nil=>intro i h;simp at h
 | cons x xs ih=>
  intro i h
  cases i with
  | zero=>simp [voteCells,VoteD.cells]
  | succ i=>
   have e:voteCells (x :: xs)=x.cells ++ voteCells xs:=rfl
   have hl:x.cells.length=4:=rfl
   obtain ⟨h1,h2,h3,h4⟩:=ih i (by simpa using h)
   rw [e,List.getElem?_append_right (by omega),List.getElem?_append_right (by omega),List.getElem?_append_right (by omega),List.getElem?_append_right (by omega),hl,show (i + 1) * 4 - 4=i * 4 by omega,show (i + 1) * 4 + 1 - 4=i * 4 + 1 by omega,show (i + 1) * 4 + 2 - 4=i * 4 + 2 by omega,show (i + 1) * 4 + 3 - 4=i * 4 + 3 by omega]
   simpa [List.getD] using ⟨h1,h2,h3,h4⟩

theorem VoteRow.below {w w' : World} {a:Option Addr} {xs:List VoteD} (h:VoteRow w a xs) (hb:Below w.heap.size w w'):VoteRow w' a xs:=Lies.below h hb

theorem VoteRow.at {w:World} {a:Option Addr} {xs:List VoteD} (h:VoteRow w a xs) (i:Nat) (hi:i < xs.length) :
  ∃ b off,a=some ⟨b,off,none⟩∧b < w.heap.size∧w.cell? ⟨b,off + i * 4,none⟩=some (.int .i64 (xs.getD i voteNo).kind)∧w.cell? ⟨b,off + i * 4 + 1,none⟩=some (.int .i64 (xs.getD i voteNo).round)∧w.cell? ⟨b,off + i * 4 + 2,none⟩=some (.int .i64 (xs.getD i voteNo).node)∧w.cell? ⟨b,off + i * 4 + 3,none⟩=some (.int .i64 (xs.getD i voteNo).value):=by
 obtain ⟨h1,h2,h3,h4⟩:=voteCells_get xs i hi
 rcases h with h | ⟨b,off,ha,hlt,hc⟩
 ·have:=voteCells_length xs
  rw [h] at this
  simp at this
  omega
 ·exact ⟨b,off,ha,hlt,hc _ _ h1,by rw [Nat.add_assoc];exact hc _ _ h2,by rw [Nat.add_assoc];exact hc _ _ h3,by rw [Nat.add_assoc];exact hc _ _ h4⟩

theorem infoVote:(Tryz.prog.info? 44).map (fun i=>(i.zero,i.size,i.bytes))=some (some (.agg #[.int .i64 0,.int .i64 0,.int .i64 0,.int .i64 0]),4,32):=by kernel_rfl

end Go.Proofs.YtdhdnppbgaikfaaGreatDoor
namespace Go.Proofs.YtdhdnppbgaikfaaGreatDoor
open Go.RowKit
set_option maxRecDepth 100000
def vtM (k:Int):Int:=if (k == 2)=true then 2 else 1

def voteF (x:VoteD):Int:=
 if (inW x.kind 1 3=false)∨((x.kind == 3)=true∧(x.round != 0)=true) then 1
 else if inW x.round 0 3=false∨inW x.node 0 2=false∨inW x.value 0 (vtM x.kind)=false then 3 else 0

/-- The ways through a vote's tests. -/
theorem voteF_ways (k r n v:Int) :
    (inW k 1 3=false∧voteF ⟨k,r,n,v⟩=1)∨(inW k 1 3=true∧(k == 3)=true∧(r != 0)=true∧voteF ⟨k,r,n,v⟩=1) ∨
    (inW k 1 3=true∧(((k == 3)=true∧(r != 0)=false)∨(k == 3)=false) ∧
      ((inW r 0 3=false∧voteF ⟨k,r,n,v⟩=3)∨(inW r 0 3=true∧inW n 0 2=false∧voteF ⟨k,r,n,v⟩=3)∨(inW r 0 3=true∧inW n 0 2=true∧inW v 0 (vtM k)=false∧voteF ⟨k,r,n,v⟩=3) ∨
       (inW r 0 3=true∧inW n 0 2=true∧inW v 0 (vtM k)=true∧voteF ⟨k,r,n,v⟩=0))):=by
  unfold voteF
  cases h1:inW k 1 3 <;> cases h2:(k == 3) <;> cases h3:(r != 0) <;> cases h4:inW r 0 3 <;> cases h5:inW n 0 2 <;> cases h6:inW v 0 (vtM k) <;> simp [h1,h2,h3,h4,h5,h6]

theorem below_dN {B:Nat} {a w:World} (h:Below B a w) (n:Nat):Below B a (w.drewN n):=⟨h.os,h.tape,h.output,h.size,h.block⟩

set_option maxHeartbeats 1000000 in
theorem mostOf_any (k:Int) (w:World) :
  Calls Tryz.prog 86 #[.int .i64 k] w fun e w' => e=.returned (.int .i64 (vtM k))∧w' = w:=by
 unfold vtM
 cases h:(k == 2)
 ·go_enter Tryz.func86,Tryz.ntmps86
  go_wp2
  go_ret
  exact ⟨by simp,rfl⟩
 ·go_enter Tryz.func86,Tryz.ntmps86
  go_wp2
  go_ret
  exact ⟨by simp,rfl⟩

set_option maxHeartbeats 400000 in
theorem voteFault_any (k r n v:Int) (w:World) :
    Calls Tryz.prog 53 #[.agg #[.int .i64 k,.int .i64 r,.int .i64 n,.int .i64 v]] w fun e w' => e=.returned (.int .i64 (voteF ⟨k,r,n,v⟩))∧Below w.heap.size w w' := by
  have hm:=fun w=>mostOf_any k w
  have hW:=voteF_ways k r n v
  generalize vtM k=M at hm hW
  rcases hW with ⟨h1,h⟩ | ⟨h1,h2,h3,h⟩ | ⟨h1,⟨h2,h3⟩ | h2,⟨h4,h⟩ | ⟨h4,h5,h⟩ | ⟨h4,h5,h6,h⟩ | ⟨h4,h5,h6,h⟩⟩ <;> rw [h] <;> clear h
  all_goals (go_enter Tryz.func53,Tryz.ntmps53)
  all_goals (go_wp2_with (go_at_call 85;refine (isWithin_any _ _ _ _).mono ?_;rintro e w' ⟨rfl,rfl⟩))
  iterate 2
    (go_ret
     exact ⟨rfl,by go_grown⟩)
  all_goals
    (go_quiet (first | (go_at_call 85;exact Calls.quiet_of_same (isWithin_any _ _ _ _)) | (go_at_call 86;exact Calls.quiet_of_same (hm _)))
     go_wp2
     go_ret
     exact ⟨rfl,below_dN (by go_grown) _⟩)

set_option maxHeartbeats 400000 in
theorem l10Node_any (n:Int) (w:World) :
  Calls Tryz.prog 66 #[.int .i64 n] w fun e w' => e=.returned (.bool (inW n 0 2))∧w' = w:=by
 go_enter Tryz.func66,Tryz.ntmps66
 go_wp2_with (go_at_call 65;refine (l1InW_any _ _ _ _).mono ?_;rintro e w' ⟨rfl,rfl⟩)
 go_ret
 exact ⟨rfl,rfl⟩

set_option maxHeartbeats 400000 in
theorem l10Fault_any (b o:Nat) (k r n v:Int) (w:World) (hB:Box4 w b o (.int .i64 k) (.int .i64 r) (.int .i64 n) (.int .i64 v)) :
    Calls Tryz.prog 29 #[.pointer (some ⟨b,o,none⟩)] w fun e w' => e=.returned (.int .i64 (voteF ⟨k,r,n,v⟩))∧w' = w:=by
  obtain ⟨b0,b1,b2,b3⟩:=hB
  have hW:=voteF_ways k r n v
  unfold vtM at hW
  cases h0:(k == 2) <;> simp only [h0,if_true,if_false,Bool.false_eq_true] at hW <;>
  (rcases hW with ⟨h1,h⟩ | ⟨h1,h2,h3,h⟩ | ⟨h1,⟨h2,h3⟩ | h2,⟨h4,h⟩ | ⟨h4,h5,h⟩ | ⟨h4,h5,h6,h⟩ | ⟨h4,h5,h6,h⟩⟩ <;> rw [h] <;> clear h <;>
  (go_enter Tryz.func29,Tryz.ntmps29
   go_wp2_with (first | (go_at_call 65;refine (l1InW_any _ _ _ _).mono ?_;rintro e w' ⟨rfl,rfl⟩) | (go_at_call 66;refine (l10Node_any _ _).mono ?_;rintro e w' ⟨rfl,rfl⟩))
   go_ret
   exact ⟨rfl,rfl⟩))

end Go.Proofs.YtdhdnppbgaikfaaGreatDoor
namespace Go.Proofs.YtdhdnppbgaikfaaGreatDoor
open Go.RowKit
open Go.BigFrame
set_option maxRecDepth 100000
theorem vtM_le (k:Int):vtM k=2∨vtM k=1:=by unfold vtM;split <;> simp

theorem inW_mk {n lo hi:Int} (h:lo≤n∧n≤hi):inW n lo hi=true:=by simp [inW,h.1,h.2]

theorem voteF_mk {k r n v:Int} (h1:1≤k∧k≤3) (h2:k=3→r=0) (h3:0≤r∧r≤3) (h4:0≤n∧n≤2) (h5:0≤v∧v≤1):voteF ⟨k,r,n,v⟩=0:=by
 have hv:v≤vtM k:=by rcases vtM_le k with e | e <;> omega
 unfold voteF
 dsimp only
 rw [inW_mk h1,inW_mk h3,inW_mk h4,inW_mk ⟨h5.1,hv⟩]
 by_cases hk:k=3
 ·have:=h2 hk
  subst this
  simp
 ·simp [hk]

set_option maxRecDepth 100000 in
set_option maxHeartbeats 400000 in
theorem l10Draw_any (B b T:Nat) (w:World) (hS:Src B w b T) (hT:T≤1000000) :
  Calls Tryz.prog 52 #[.pointer (some ⟨b,0,none⟩)] w fun e w' => ∃ k r n v:Int,e=.returned (.agg #[.int .i64 k,.int .i64 r,.int .i64 n,.int .i64 v])∧voteF ⟨k,r,n,v⟩=0∧Src B w' b (T + 4)∧w.grownBy w' (some b):=by
 have hlt:=hS.lt
 have B0:=Blk.new w 44 #[.int .i64 0,.int .i64 0,.int .i64 0,.int .i64 0]
 have hg:w.grownBy (w.alloc (.cells #[.int .i64 0,.int .i64 0,.int .i64 0,.int .i64 0] 44)) (some b):=World.grownBy_alloc w _ _
 replace hS:Src B (w.alloc (.cells #[.int .i64 0,.int .i64 0,.int .i64 0,.int .i64 0] 44)) b T:=hS.below (by go_grown)
 go_enter Tryz.func52,Tryz.ntmps52
 go_wp2_with fail
 have hs1:w.heap.size + 1=(w.alloc (.cells #[.int .i64 0,.int .i64 0,.int .i64 0,.int .i64 0] 44)).heap.size:=by simp
 generalize w.alloc (.cells #[.int .i64 0,.int .i64 0,.int .i64 0,.int .i64 0] 44)=W1 at B0 hg hS hs1
 replace hs1:w.heap.size < W1.heap.size:=by omega
 refine (next_any B b (T) 3 W1 hS (by omega) (by omega)).mono ?_
 rintro e w2 ⟨x,rfl,hr,hSn,hgn⟩
 have x1:=hr.1
 have x2:=hr.2.1 (by omega)
 replace B0:=B0.grown hgn (by simp;omega)
 replace hg:=hg.trans hgn
 replace hS:=hSn
 have hsz0:=hgn.size
 clear hgn hSn hr
 go_wp2_with fail
 refine (next_any B b (T + 1) 3 w2 hS (by omega) (by omega)).mono ?_
 rintro e w3 ⟨y,rfl,hr,hSn,hgn⟩
 have y1:=hr.1
 have y2:=hr.2.1 (by omega)
 replace B0:=B0.grown hgn (by simp;omega)
 replace hg:=hg.trans hgn
 replace hS:=hSn
 have hsz1:=hgn.size
 clear hgn hSn hr
 go_wp2_with fail
 refine (next_any B b (T + 1 + 1) 2 w3 hS (by omega) (by omega)).mono ?_
 rintro e w4 ⟨z,rfl,hr,hSn,hgn⟩
 have z1:=hr.1
 have z2:=hr.2.1 (by omega)
 replace B0:=B0.grown hgn (by simp;omega)
 replace hg:=hg.trans hgn
 replace hS:=hSn
 have hsz2:=hgn.size
 clear hgn hSn hr
 
 have hbA:Below w4.heap.size w4 (w4.alloc (.cells #[.int .i64 (1 + x),.int .i64 0,.int .i64 y,.int .i64 z] 44)):=by go_grown
 have B1:=Blk.new w4 44 #[.int .i64 (1 + x),.int .i64 0,.int .i64 y,.int .i64 z]
 have hlt4:=B0.lt
 have B0w:=B0
 have hSw:=hS
 have hgw:=hg
 replace B0:=B0.below hbA
 replace hS:=hS.below hbA
 have hsw:=hg.size
 replace hg:=grown_low hg (hbA.mono hsw)
 have q0:=B1.cell 0 _ rfl
 clear hbA
 by_cases hk:1 + x=3
 ·have hk' : (1 + x != 3)=false:=by simp [hk]
  have hF:voteF ⟨1 + x,0,y,z⟩=0:=voteF_mk (by omega) (by omega) (by omega) (by omega) (by omega)
  obtain ⟨p0,p1,p2,p3⟩:=B0w.cel4
  obtain ⟨f0,f1,f2,f3⟩:=B0w.frz4
  clear B0 B1 B0w hS hg hk q0
  have HF:Hid (voteF ⟨1 + x,0,y,z⟩=0):=hF
  clear hF
  go_wp2
  refine bodyPost_ret (v:=.agg #[.int .i64 (1 + x),.int .i64 0,.int .i64 y,.int .i64 z]) (by simp [results,Tryz.results52,go_sem,p0,p1,p2,p3,hlt4]) rfl ?_
  have hbE:∀ O,Below w.heap.size w4 (((((w4.setCell ⟨w.heap.size,0,none⟩ (.int .i64 (1 + x))).setCell ⟨w.heap.size,1,none⟩ (.int .i64 0)).setCell ⟨w.heap.size,2,none⟩ (.int .i64 y)).setCell ⟨w.heap.size,3,none⟩ (.int .i64 z)).alloc O):=fun O=>
   (((((Below.refl _ _).setCell (p:=⟨w.heap.size,0,none⟩) (Nat.le_refl _) _).setCell (p:=⟨w.heap.size,1,none⟩) (Nat.le_refl _) _).setCell (p:=⟨w.heap.size,2,none⟩) (Nat.le_refl _) _).setCell (p:=⟨w.heap.size,3,none⟩) (Nat.le_refl _) _).alloc (by simp [World.setCell];omega) O
  exact ⟨_,_,_,_,rfl,HF.out,(hSw.low (hbE _) hlt.2).mono (by omega),grown_low hgw (hbE _)⟩
 ·have hk' : (1 + x != 3)=true:=by simp [bne_iff_ne,hk]
  clear B0w hSw hgw
  go_wp2_with fail
  clear q0
  generalize hW5:w4.alloc (.cells #[.int .i64 (1 + x),.int .i64 0,.int .i64 y,.int .i64 z] 44)=W5 at *
  clear hW5
  refine (next_any B b (T + 1 + 1 + 1) 2 W5 hS (by omega) (by omega)).mono ?_
  rintro e w6 ⟨r,rfl,hr,hSn,hgn⟩
  have r1:=hr.1
  have r2:=hr.2.1 (by omega)
  replace B0:=B0.grown hgn (by simp;omega)
  replace B1:=B1.grown hgn (by simp;omega)
  replace hg:=hg.trans hgn
  replace hS:=hSn
  have hsz_w6:=hgn.size
  clear hgn hSn hr
  have HF:Hid (voteF ⟨1 + x,r,y,z⟩=0):=voteF_mk (by omega) (by omega) (by omega) (by omega) (by omega)
  have hsb:w4.heap.size < w6.heap.size:=B1.lt
  obtain ⟨q0,q1,q2,q3⟩:=B1.cel4
  have g1:=B1.frozen 1
  obtain ⟨p0,p1,p2,p3⟩:=B0.cel4
  obtain ⟨f0,f1,f2,f3⟩:=B0.frz4
  have hne0:w.heap.size≠w4.heap.size:=by omega
  clear B0 B1 hk
  go_wp2
  refine bodyPost_ret (v:=.agg #[.int .i64 (1 + x),.int .i64 r,.int .i64 y,.int .i64 z]) (by simp [results,Tryz.results52,go_sem,p0,p1,p2,p3]) rfl ?_
  have hbE:Below w.heap.size w6 (((((w6.setCell ⟨w4.heap.size,1,none⟩ (.int .i64 r)).setCell ⟨w.heap.size,0,none⟩ (.int .i64 (1 + x))).setCell ⟨w.heap.size,1,none⟩ (.int .i64 r)).setCell ⟨w.heap.size,2,none⟩ (.int .i64 y)).setCell ⟨w.heap.size,3,none⟩ (.int .i64 z)):=by
   exact (((((Below.refl _ _).setCell (p:=⟨w4.heap.size,1,none⟩) (show w.heap.size≤w4.heap.size by omega) _).setCell (p:=⟨w.heap.size,0,none⟩) (Nat.le_refl _) _).setCell (p:=⟨w.heap.size,1,none⟩) (Nat.le_refl _) _).setCell (p:=⟨w.heap.size,2,none⟩) (Nat.le_refl _) _).setCell (p:=⟨w.heap.size,3,none⟩) (Nat.le_refl _) _
  exact ⟨_,_,_,_,rfl,HF.out,(hS.low hbE hlt.2).mono (by omega),grown_low hg hbE⟩

set_option maxRecDepth 100000 in
set_option maxHeartbeats 400000 in
theorem l10Bent_any (B b T:Nat) (w:World) (hS:Src B w b T) (hT:T≤1000000) :
  Calls Tryz.prog 23 #[.pointer (some ⟨b,0,none⟩)] w fun e w' => ∃ k r n v:Int,e=.returned (.agg #[.int .i64 k,.int .i64 r,.int .i64 n,.int .i64 v])∧Src B w' b (T + 6)∧w.grownBy w' (some b):=by
 have hlt:=hS.lt
 have B0:=Blk.new w 44 #[.int .i64 0,.int .i64 0,.int .i64 0,.int .i64 0]
 have hg:w.grownBy (w.alloc (.cells #[.int .i64 0,.int .i64 0,.int .i64 0,.int .i64 0] 44)) (some b):=World.grownBy_alloc w _ _
 replace hS:Src B (w.alloc (.cells #[.int .i64 0,.int .i64 0,.int .i64 0,.int .i64 0] 44)) b T:=hS.below (by go_grown)
 go_enter Tryz.func23,Tryz.ntmps23
 go_wp2_with fail
 have hs1:w.heap.size + 1=(w.alloc (.cells #[.int .i64 0,.int .i64 0,.int .i64 0,.int .i64 0] 44)).heap.size:=by simp
 generalize w.alloc (.cells #[.int .i64 0,.int .i64 0,.int .i64 0,.int .i64 0] 44)=W1 at B0 hg hS hs1
 replace hs1:w.heap.size < W1.heap.size:=by omega
 refine (l10Draw_any B b T W1 hS (by omega)).mono ?_
 rintro e w2 ⟨k,r,n,v,rfl,_,hSn,hgn⟩
 replace B0:=B0.grown hgn (by simp;omega)
 replace hg:=hg.trans hgn
 replace hS:=hSn
 have hsz0:=hgn.size
 clear hgn hSn
 have hbA:Below w2.heap.size w2 (w2.alloc (.cells #[.int .i64 k,.int .i64 r,.int .i64 n,.int .i64 v] 44)):=by go_grown
 have B1:=Blk.new w2 44 #[.int .i64 k,.int .i64 r,.int .i64 n,.int .i64 v]
 replace B0:=B0.below hbA
 replace hS:=hS.below hbA
 have hsw:=hg.size
 replace hg:=grown_low hg (hbA.mono hsw)
 clear hbA
 go_wp2_with fail
 have hs3:w2.heap.size + 1=(w2.alloc (.cells #[.int .i64 k,.int .i64 r,.int .i64 n,.int .i64 v] 44)).heap.size:=by simp
 generalize w2.alloc (.cells #[.int .i64 k,.int .i64 r,.int .i64 n,.int .i64 v] 44)=W3 at *
 replace hs3:w2.heap.size < W3.heap.size:=by omega
 refine (next_any B b (T + 4) 8 W3 hS (by omega) (by omega)).mono ?_
 rintro e w4 ⟨c,rfl,hr,hSn,hgn⟩
 replace B0:=B0.grown hgn (by simp;omega)
 replace B1:=B1.grown hgn (by simp;omega)
 replace hg:=hg.trans hgn
 replace hS:=hSn
 have hsz4:=hgn.size
 clear hgn hSn hr
 by_cases h0:c=0
 ·subst h0
  go_wp2_with fail
  have hltp:=hS.lt
  have hbA:Below w4.heap.size w4 (w4.alloc (.cells #[.int .i64 0,.int .i64 3,.int .i64 4] 2)):=by go_grown
  replace B0:=B0.below hbA
  replace B1:=B1.below hbA
  replace hg:=hg.trans (World.grownBy_alloc w4 (.cells #[.int .i64 0,.int .i64 3,.int .i64 4] 2) (some b))
  refine (pick_any B b (T + 4 + 1) w4.heap.size _ [0,3,4] _ (hS.below (by go_grown)) (by omega) (World.ownsRow_lit w4 _ 3 (Nat.le_refl _) (by decide) rfl) (by simp) (by simp) (by simp [Value.ownBlock];omega)).mono ?_
  rintro e w6 ⟨z,rfl,hmem,hSn,hgn⟩
  replace B0:=B0.grown hgn (by simp;omega)
  replace B1:=B1.grown hgn (by simp;omega)
  replace hg:=hg.trans hgn
  replace hS:=hSn
  clear hgn hSn hmem hbA
  have hsb:w2.heap.size < w6.heap.size:=B1.lt
  obtain ⟨q0,q1,q2,q3⟩:=B1.cel4
  obtain ⟨g0,g1,g2,g3⟩:=B1.frz4
  obtain ⟨p0,p1,p2,p3⟩:=B0.cel4
  obtain ⟨f0,f1,f2,f3⟩:=B0.frz4
  have hne0:w.heap.size≠w2.heap.size:=by omega
  clear B0 B1
  go_wp2
  refine bodyPost_ret (v:=.agg #[.int .i64 z,.int .i64 r,.int .i64 n,.int .i64 v]) (by simp [results,Tryz.results23,go_sem,p0,p1,p2,p3]) rfl ?_
  refine ⟨z,r,n,v,rfl,(hS.low (N:=w.heap.size) ?_ hlt.2).mono (by omega),grown_low hg ?_⟩
  ·repeat' (refine Below.setCell ?_ (by dsimp only;omega) _)
   exact Below.refl _ _
  ·repeat' (refine Below.setCell ?_ (by dsimp only;omega) _)
   exact Below.refl _ _
 ·have e0:(c == 0)=false:=by simpa using h0
  clear h0
  by_cases h1:c=1
  ·subst h1
   clear e0
   go_wp2_with fail
   have hltp:=hS.lt
   have hbA:Below w4.heap.size w4 (w4.alloc (.cells #[.int .i64 3,.int .i64 4,.int .i64 (-1)] 2)):=by go_grown
   replace B0:=B0.below hbA
   replace B1:=B1.below hbA
   replace hg:=hg.trans (World.grownBy_alloc w4 (.cells #[.int .i64 3,.int .i64 4,.int .i64 (-1)] 2) (some b))
   refine (pick_any B b (T + 4 + 1) w4.heap.size _ [3,4,-1] _ (hS.below (by go_grown)) (by omega) (World.ownsRow_lit w4 _ 3 (Nat.le_refl _) (by decide) rfl) (by simp) (by simp) (by simp [Value.ownBlock];omega)).mono ?_
   rintro e w6 ⟨z,rfl,hmem,hSn,hgn⟩
   replace B0:=B0.grown hgn (by simp;omega)
   replace B1:=B1.grown hgn (by simp;omega)
   replace hg:=hg.trans hgn
   replace hS:=hSn
   clear hgn hSn hmem hbA
   have hsb:w2.heap.size < w6.heap.size:=B1.lt
   obtain ⟨q0,q1,q2,q3⟩:=B1.cel4
   obtain ⟨g0,g1,g2,g3⟩:=B1.frz4
   obtain ⟨p0,p1,p2,p3⟩:=B0.cel4
   obtain ⟨f0,f1,f2,f3⟩:=B0.frz4
   have hne0:w.heap.size≠w2.heap.size:=by omega
   clear B0 B1
   go_wp2
   refine bodyPost_ret (v:=.agg #[.int .i64 k,.int .i64 z,.int .i64 n,.int .i64 v]) (by simp [results,Tryz.results23,go_sem,p0,p1,p2,p3]) rfl ?_
   refine ⟨k,z,n,v,rfl,(hS.low (N:=w.heap.size) ?_ hlt.2).mono (by omega),grown_low hg ?_⟩
   ·repeat' (refine Below.setCell ?_ (by dsimp only;omega) _)
    exact Below.refl _ _
   ·repeat' (refine Below.setCell ?_ (by dsimp only;omega) _)
    exact Below.refl _ _
  ·have e1:(c == 1)=false:=by simpa using h1
   clear h1
   by_cases h2:c=2
   ·subst h2
    clear e0
    clear e1
    go_wp2_with fail
    have hltp:=hS.lt
    have hbA:Below w4.heap.size w4 (w4.alloc (.cells #[.int .i64 2,.int .i64 3,.int .i64 (-1)] 2)):=by go_grown
    replace B0:=B0.below hbA
    replace B1:=B1.below hbA
    replace hg:=hg.trans (World.grownBy_alloc w4 (.cells #[.int .i64 2,.int .i64 3,.int .i64 (-1)] 2) (some b))
    refine (pick_any B b (T + 4 + 1) w4.heap.size _ [2,3,-1] _ (hS.below (by go_grown)) (by omega) (World.ownsRow_lit w4 _ 3 (Nat.le_refl _) (by decide) rfl) (by simp) (by simp) (by simp [Value.ownBlock];omega)).mono ?_
    rintro e w6 ⟨z,rfl,hmem,hSn,hgn⟩
    replace B0:=B0.grown hgn (by simp;omega)
    replace B1:=B1.grown hgn (by simp;omega)
    replace hg:=hg.trans hgn
    replace hS:=hSn
    clear hgn hSn hmem hbA
    have hsb:w2.heap.size < w6.heap.size:=B1.lt
    obtain ⟨q0,q1,q2,q3⟩:=B1.cel4
    obtain ⟨g0,g1,g2,g3⟩:=B1.frz4
    obtain ⟨p0,p1,p2,p3⟩:=B0.cel4
    obtain ⟨f0,f1,f2,f3⟩:=B0.frz4
    have hne0:w.heap.size≠w2.heap.size:=by omega
    clear B0 B1
    go_wp2
    refine bodyPost_ret (v:=.agg #[.int .i64 k,.int .i64 r,.int .i64 n,.int .i64 z]) (by simp [results,Tryz.results23,go_sem,p0,p1,p2,p3]) rfl ?_
    refine ⟨k,r,n,z,rfl,(hS.low (N:=w.heap.size) ?_ hlt.2).mono (by omega),grown_low hg ?_⟩
    ·repeat' (refine Below.setCell ?_ (by dsimp only;omega) _)
     exact Below.refl _ _
    ·repeat' (refine Below.setCell ?_ (by dsimp only;omega) _)
     exact Below.refl _ _
   ·have e2:(c == 2)=false:=by simpa using h2
    clear h2
    have hsb:w2.heap.size < w4.heap.size:=B1.lt
    obtain ⟨q0,q1,q2,q3⟩:=B1.cel4
    obtain ⟨g0,g1,g2,g3⟩:=B1.frz4
    obtain ⟨p0,p1,p2,p3⟩:=B0.cel4
    obtain ⟨f0,f1,f2,f3⟩:=B0.frz4
    have hne0:w.heap.size≠w2.heap.size:=by omega
    clear B0 B1
    go_wp2
    refine bodyPost_ret (v:=.agg #[.int .i64 k,.int .i64 r,.int .i64 n,.int .i64 v]) (by simp [results,Tryz.results23,go_sem,p0,p1,p2,p3]) rfl ?_
    refine ⟨k,r,n,v,rfl,(hS.low (N:=w.heap.size) ?_ hlt.2).mono (by omega),grown_low hg ?_⟩
    ·repeat' (refine Below.setCell ?_ (by dsimp only;omega) _)
     exact Below.refl _ _
    ·repeat' (refine Below.setCell ?_ (by dsimp only;omega) _)
     exact Below.refl _ _

end Go.Proofs.YtdhdnppbgaikfaaGreatDoor
namespace Go.Proofs.YtdhdnppbgaikfaaGreatDoor
open Go.RowKit
set_option maxRecDepth 100000
/-- The votes of a row, from node i on. -/
def rvF (kind round:Int):Nat→List Int→List VoteD
 | _,[]=>[]
 | i,v :: r=>(if v=3 then [] else [⟨kind,round,(i:Int),v⟩]) ++ rvF kind round (i + 1) r

/-- The votes of rounds, from round k on. -/
def vtR:Nat→List RoundE→List VoteD
 | _,[]=>[]
 | k,r :: t=>rvF 1 (k:Int) 0 r.rep ++ (rvF 2 (k:Int) 0 r.pro ++ vtR (k + 1) t)

def vtI (x:InstE):List VoteD:=vtR 0 x.rounds ++ rvF 3 0 0 x.dec

def voL (x:InstE):List VoteD:=if insF x=0 then vtI x else []

theorem rvF_app (kind round:Int) (a b:List Int):∀ i,rvF kind round i (a ++ b)=rvF kind round i a ++ rvF kind round (i + a.length) b:=by
 induction a with
 | nil=>intro i;rfl
 | cons v r ih=>
  intro i
  simp only [List.cons_append,rvF,ih,List.length_cons,List.append_assoc]
  rw [show i + 1 + r.length=i + (r.length + 1) by omega]

theorem rvF_take (kind round:Int) (vs:List Int) (k:Nat) (hk:k < vs.length):rvF kind round 0 (vs.take (k + 1))=rvF kind round 0 (vs.take k) ++ (if vs.getD k 0=3 then [] else [⟨kind,round,(k:Int),vs.getD k 0⟩]):=by
 have e:vs.take (k + 1)=vs.take k ++ [vs.getD k 0]:=by
  rw [List.take_succ_eq_append_getElem hk]
  simp [List.getD,hk]
 rw [e,rvF_app,List.length_take,Nat.min_eq_left (by omega)]
 simp [rvF]

theorem rvF_len (kind round:Int) (vs:List Int):∀ i,(rvF kind round i vs).length≤vs.length:=by
 induction vs with
 | nil=>intro i;simp [rvF]
 | cons v r ih=>
  intro i
  have:=ih (i + 1)
  simp only [rvF,List.length_append,List.length_cons]
  split <;> simp <;> omega

theorem vtR_app (a b:List RoundE):∀ k,vtR k (a ++ b)=vtR k a ++ vtR (k + a.length) b:=by
 induction a with
 | nil=>intro k;rfl
 | cons r t ih=>
  intro k
  simp only [List.cons_append,vtR,ih,List.length_cons,List.append_assoc]
  rw [show k + 1 + t.length=k + (t.length + 1) by omega]

theorem vtR_take (rs:List RoundE) (k:Nat) (hk:k < rs.length):vtR 0 (rs.take (k + 1))=vtR 0 (rs.take k) ++ (rvF 1 (k:Int) 0 (rs.getD k rnd0).rep ++ rvF 2 (k:Int) 0 (rs.getD k rnd0).pro):=by
 have e:rs.take (k + 1)=rs.take k ++ [rs.getD k rnd0]:=by
  rw [List.take_succ_eq_append_getElem hk]
  simp [List.getD,hk]
 rw [e,vtR_app,List.length_take,Nat.min_eq_left (by omega)]
 simp [vtR]

theorem vtR_len {rs:List RoundE} (h:Wel rs):∀ k,(vtR k rs).length≤6 * rs.length:=by
 induction rs with
 | nil=>intro k;simp [vtR]
 | cons r t ih=>
  intro k
  have h1:=ih (fun x hx=>h x (List.mem_cons_of_mem _ hx)) (k + 1)
  have h2:=h r (by simp)
  have h3:=rvF_len 1 (k:Int) r.rep 0
  have h4:=rvF_len 2 (k:Int) r.pro 0
  simp only [vtR,List.length_append,List.length_cons]
  omega

theorem voL_len (x:InstE):(voL x).length≤27:=by
 unfold voL
 split
 ·rename_i h
  obtain ⟨⟨a1,a2⟩,b,c,_,_⟩:=shp_zero (ins_shp h)
  have h1:=vtR_len (wel_of b) 0
  have h2:=rvF_len 3 0 x.dec 0
  have h3:=vf_len c
  unfold vtI
  rw [List.length_append]
  omega
 ·simp
where
 ins_shp {x:InstE} (h:insF x=0):shpF x=0:=by
  unfold insF at h
  split at h
  ·assumption
  ·rename_i hn;exact absurd h hn

/-- What lies where the vote would lie; the vote laid there. -/
def curV (rs:List RoundE) (dec:List Int) (v:VoteD):Int:=if v.kind=1 then repA rs v.round.toNat v.node.toNat else if v.kind=2 then proA rs v.round.toNat v.node.toNat else dec.getD v.node.toNat 0

def putR (rs:List RoundE) (v:VoteD):List RoundE:=if v.kind=1 then rstR rs v.round.toNat v.node.toNat v.value else if v.kind=2 then rstP rs v.round.toNat v.node.toNat v.value else rs

def putD (dec:List Int) (v:VoteD):List Int:=if v.kind=1 then dec else if v.kind=2 then dec else dec.set v.node.toNat v.value

def lay1 (rs:List RoundE) (dec:List Int) (v:VoteD):Int:=if voteF v=0 then (if curV (reaR rs v.round.toNat) dec v=3∨curV (reaR rs v.round.toNat) dec v=v.value then 0 else 6) else voteF v

def layL:List RoundE→List Int→List VoteD→Int × List RoundE × List Int
 | rs,dec,[]=>(0,rs,dec)
 | rs,dec,v :: t=>if lay1 rs dec v=0 then layL (putR (reaR rs v.round.toNat) v) (putD dec v) t else (lay1 rs dec v,rs,dec)

def layE (x:InstE) (L:List VoteD):InstE:=⟨x.has,x.batch,(layL x.rounds x.dec L).2.1,(layL x.rounds x.dec L).2.2⟩

def lvC (x:InstE) (L:List VoteD):Int:=if insF x=0 then (if 40 < L.length then 2 else if (layL x.rounds x.dec L).1=0 then insF (layE x L) else (layL x.rounds x.dec L).1) else insF x

def lvI (x:InstE) (L:List VoteD):InstE:=if lvC x L=0 then layE x L else ine0

theorem layL_app (a b:List VoteD):∀ rs dec,(layL rs dec a).1=0→layL rs dec (a ++ b)=layL (layL rs dec a).2.1 (layL rs dec a).2.2 b:=by
 induction a with
 | nil=>intro rs dec _;rfl
 | cons v t ih=>
  intro rs dec h
  simp only [List.cons_append,layL] at h ⊢
  split at h
  ·rename_i h0
   rw [if_pos h0,if_pos h0]
   exact ih _ _ h
  ·rename_i h0
   exact absurd h h0

theorem layL_bad (a b:List VoteD):∀ rs dec,(layL rs dec a).1≠0→layL rs dec (a ++ b)=layL rs dec a:=by
 induction a with
 | nil=>intro rs dec h;exact absurd rfl h
 | cons v t ih=>
  intro rs dec h
  simp only [List.cons_append,layL] at h ⊢
  split at h
  ·rename_i h0
   rw [if_pos h0,if_pos h0]
   exact ih _ _ h
  ·rename_i h0
   rw [if_neg h0,if_neg h0]

theorem layL_one (rs:List RoundE) (dec:List Int) (v:VoteD):layL rs dec [v]=if lay1 rs dec v=0 then (0,putR (reaR rs v.round.toNat) v,putD dec v) else (lay1 rs dec v,rs,dec):=rfl

/-- One vote more. -/
theorem layL_take {rs:List RoundE} {dec:List Int} {L:List VoteD} (k:Nat) (hk:k < L.length) (h:(layL rs dec (L.take k)).1=0) :
  layL rs dec (L.take (k + 1))=if lay1 (layL rs dec (L.take k)).2.1 (layL rs dec (L.take k)).2.2 (L.getD k voteNo)=0 then (0,putR (reaR (layL rs dec (L.take k)).2.1 (L.getD k voteNo).round.toNat) (L.getD k voteNo),putD (layL rs dec (L.take k)).2.2 (L.getD k voteNo)) else (lay1 (layL rs dec (L.take k)).2.1 (layL rs dec (L.take k)).2.2 (L.getD k voteNo),(layL rs dec (L.take k)).2.1,(layL rs dec (L.take k)).2.2):=by
 have e:L.take (k + 1)=L.take k ++ [L.getD k voteNo]:=by
  rw [List.take_succ_eq_append_getElem hk]
  simp [List.getD,hk]
 rw [e,layL_app _ _ _ _ h,layL_one]

theorem layL_stop {rs:List RoundE} {dec:List Int} {L:List VoteD} (k:Nat) (h:(layL rs dec (L.take k)).1≠0):layL rs dec L=layL rs dec (L.take k):=by
 have:=layL_bad (L.take k) (L.drop k) rs dec h
 rwa [List.take_append_drop] at this

theorem voteF_zero {v:VoteD} (h:voteF v=0):(1≤v.kind∧v.kind≤3)∧(v.kind=3→v.round=0)∧(0≤v.round∧v.round≤3)∧(0≤v.node∧v.node≤2)∧(0≤v.value∧v.value≤2)∧(v.kind≠2→v.value≤1):=by
 obtain ⟨k,r,n,x⟩:=v
 rcases voteF_ways k r n x with ⟨_,e⟩ | ⟨_,_,_,e⟩ | ⟨h1,h2,h3⟩
 ·rw [e] at h;exact absurd h (by decide)
 ·rw [e] at h;exact absurd h (by decide)
 ·rcases h3 with ⟨_,e⟩ | ⟨_,_,e⟩ | ⟨_,_,_,e⟩ | ⟨h4,h5,h6,_⟩
  ·rw [e] at h;exact absurd h (by decide)
  ·rw [e] at h;exact absurd h (by decide)
  ·rw [e] at h;exact absurd h (by decide)
  ·simp only [inW,Bool.and_eq_true,decide_eq_true_eq] at h1 h4 h5 h6
   have hm:vtM k=2∧k=2∨vtM k=1∧k≠2:=by
    unfold vtM
    by_cases hk:k=2
    ·exact Or.inl ⟨by simp [hk],hk⟩
    ·exact Or.inr ⟨by simp [hk],hk⟩
   refine ⟨h1,fun e=>?_,h4,h5,?_,?_⟩
   ·have e' : k=3:=e
    rcases h2 with ⟨_,h2⟩ | h2
    ·simpa using h2
    ·exact absurd e' (by simpa using h2)
   ·show 0≤x∧x≤2
    rcases hm with ⟨e,_⟩ | ⟨e,_⟩ <;> rw [e] at h6 <;> exact ⟨h6.1,by omega⟩
   ·show k≠2→x≤1
    intro hk
    rcases hm with ⟨_,e⟩ | ⟨e,_⟩
    ·exact absurd e hk
    ·rw [e] at h6;exact h6.2

theorem reaR_wel {rs:List RoundE} (h:Wel rs) (r:Nat):Wel (reaR rs r):=fun x hx=>by
 unfold reaR at hx
 rcases List.mem_append.1 hx with hx | hx
 ·exact h x hx
 ·rw [(List.mem_replicate.1 hx).2]
  exact ⟨rfl,rfl⟩

theorem reaR_lt (rs:List RoundE) (r:Nat):r < (reaR rs r).length:=by
 unfold reaR
 rw [List.length_append,List.length_replicate]
 omega

theorem reaR_le {rs:List RoundE} (r:Nat) (h4:rs.length≤4) (hr:r < 4):(reaR rs r).length≤4:=by
 unfold reaR
 rw [List.length_append,List.length_replicate]
 omega

theorem putR_wel {rs:List RoundE} (h:Wel rs) (v:VoteD) (hr:v.round.toNat < rs.length):Wel (putR rs v):=by
 unfold putR
 split
 ·exact wel_rstR h _ _ hr _
 ·split
  ·exact wel_rstP h _ _ hr _
  ·exact h

theorem putR_len (rs:List RoundE) (v:VoteD):(putR rs v).length=rs.length:=by
 unfold putR
 split
 ·exact rstR_length _ _ _ _
 ·split
  ·exact rstP_length _ _ _ _
  ·rfl

theorem putD_len (dec:List Int) (v:VoteD):(putD dec v).length=dec.length:=by
 unfold putD
 split
 ·rfl
 ·split
  ·rfl
  ·simp

/-- The form of the rows stays. -/
structure Frm (rs:List RoundE) (dec:List Int):Prop where
 w:Wel rs
 l:1≤rs.length
 h4:rs.length≤4
 d:dec.length=3

theorem Frm.lay {rs:List RoundE} {dec:List Int} (h:Frm rs dec) {v:VoteD} (hv:voteF v=0):Frm (putR (reaR rs v.round.toNat) v) (putD dec v):=by
 obtain ⟨_,_,h3,_⟩:=voteF_zero hv
 have hr:v.round.toNat < 4:=by omega
 have hlt:=reaR_lt rs v.round.toNat
 refine ⟨putR_wel (reaR_wel h.w _) v hlt,?_,?_,by rw [putD_len];exact h.d⟩
 ·rw [putR_len];omega
 ·rw [putR_len];exact reaR_le _ h.h4 hr

theorem lay1_zero {rs:List RoundE} {dec:List Int} {v:VoteD} (h:lay1 rs dec v=0):voteF v=0:=by
 unfold lay1 at h
 split at h
 ·assumption
 ·rename_i hn;exact absurd h hn

theorem Frm.all {rs:List RoundE} {dec:List Int} (h:Frm rs dec) (L:List VoteD):Frm (layL rs dec L).2.1 (layL rs dec L).2.2:=by
 induction L generalizing rs dec with
 | nil=>exact h
 | cons v t ih=>
  simp only [layL]
  split
  ·rename_i h0
   exact ih (h.lay (lay1_zero h0))
  ·exact h

theorem frm_of {x:InstE} (h:insF x=0):Frm x.rounds x.dec:=by
 obtain ⟨⟨a1,a2⟩,b,c,_,_⟩:=shp_zero (voL_len.ins_shp h)
 exact ⟨wel_of b,a1,a2,vf_len c⟩

end Go.Proofs.YtdhdnppbgaikfaaGreatDoor
namespace Go.Proofs.YtdhdnppbgaikfaaGreatDoor
open Go.RowKit
open Go.BigFrame
set_option maxRecDepth 100000
theorem voteCells_one' (xs:List VoteD):∀ u∈voteCells xs,u.oneCell' = true:=by
 intro u hu
 obtain ⟨x,_,hx⟩:=List.mem_flatMap.1 hu
 simp only [VoteD.cells,List.mem_cons,List.not_mem_nil,or_false] at hx
 rcases hx with rfl | rfl | rfl | rfl <;> rfl

set_option maxHeartbeats 4000000 in
theorem l10Row_any (kind round:Int) (v:Value) (vs:List Int) (w:World) (h:intK.At w v vs) (hl:vs.length≤1000) :
  Calls Tryz.prog 51 #[.int .i64 kind,.int .i64 round,v] w fun e w' => ∃ v',e=.returned v' ∧ w'.ownsRow w.heap.size 44 4 v' (rvF kind round 0 vs).length (voteCells (rvF kind round 0 vs))∧(∃ a c,v' = .slice (some a) (rvF kind round 0 vs).length c)∧Below w.heap.size w w' := by
 obtain ⟨i0,hi,hz0,hz1,hz2⟩:=info_parts infoVote
 obtain ⟨va,vc,rfl⟩:=h.shape
 have hb0:Below w.heap.size w (w.alloc (.cells #[] 44)):=by go_grown
 have ho0:=World.ownsRow_lit (e:=44) (size:=4) w #[] 0 (Nat.le_refl _) (by decide) rfl
 go_enter Tryz.func51,Tryz.ntmps51
 go_wp2
 generalize w.alloc (.cells #[] 44)=W0 at *
 go_loopw [7,8] (fun o j wr=>∃ (k:Nat) (a:Addr) (c:Nat),k≤vs.length∧j=.int .i64 k∧o=.slice (some a) (rvF kind round 0 (vs.take k)).length c∧wr.ownsRow w.heap.size 44 4 o (rvF kind round 0 (vs.take k)).length (voteCells (rvF kind round 0 (vs.take k)))∧Below w.heap.size w wr) (fun _ j _=>vs.length - (intOf j).toNat)
 case atStart=>exact ⟨0,_,_,Nat.zero_le _,rfl,rfl,ho0,hb0⟩
 case round=>
  obtain ⟨k,a,c,hk,rfl,rfl,ho,hb⟩:=hrel
  clear ho0 hb0
  by_cases hlt:k < vs.length
  ·obtain ⟨bb,off,rfl,hbs,hc,_⟩:=(h.below hb).cell (by decide) k hlt
   have c0:wr.cell? ⟨bb,off + k * 1 + 0,none⟩=some (.int .i64 vs[k]):=hc 0 _ rfl
   rw [Nat.mul_one,Nat.add_zero] at c0
   have HT:=rvF_take kind round vs k hlt
   have eg:vs.getD k 0=vs[k]:=by simp [List.getD,hlt]
   rw [eg] at HT
   have hlen:=rvF_len kind round (vs.take k) 0
   rw [List.length_take] at hlen
   generalize vs[k]=z at *
   generalize hG2:rvF kind round 0 (vs.take (k + 1))=R2 at *
   have HG2:Hid (rvF kind round 0 (vs.take (k + 1))=R2):=hG2
   clear hG2
   generalize rvF kind round 0 (vs.take k)=R1 at *
   have hki:(k:Int) < (vs.length:Int):=by omega
   have hR1:R1.length≤1000:=by omega
   clear hc eg
   by_cases h3:z=3
   ·have e3:(z != 3)=false:=by rw [h3];rfl
    rw [if_pos h3,List.append_nil] at HT
    subst HT
    clear h3
    go_wp2
    go_roundw
    case rel=>exact ⟨k + 1,a,c,by omega,by go_num,by rw [HG2.out],by rw [HG2.out];exact ho,hb⟩
    case measure=>simp [intOf];omega
   ·have e3:(z != 3)=true:=by simpa using h3
    rw [if_neg h3] at HT
    have HR:Hid (R2=R1 ++ [⟨kind,round,(k:Int),z⟩]):=HT
    clear HT h3
    have hba:Below wr.heap.size wr (wr.alloc (.cells #[.int .i64 kind,.int .i64 round,.int .i64 (k:Int),.int .i64 z] 44)):=by go_grown
    go_wp2_with (at_builtin;refine wpList_append_own_at _ rfl _ _ 30 rfl w.heap.size 44 i0 (.agg #[.int .i64 0,.int .i64 0,.int .i64 0,.int .i64 0]) 4 32 Tryz.underlying30 hi hz0 hz1 hz2 rfl (by decide) _ R1.length (voteCells R1) rfl (own_below ho hba) ⟨wr.heap.size,0,none⟩ 1 1 [.int .i64 kind,.int .i64 round,.int .i64 (k:Int),.int .i64 z] rfl rfl ?c1 ?c2 ?c3 ?c4 ?c5 ?_)
    case c1=>intro j u hj;match j,hj with | 0,hj=>simp at hj;subst hj;simp [Addr.add] | 1,hj=>simp at hj;subst hj;simp [Addr.add] | 2,hj=>simp at hj;subst hj;simp [Addr.add] | 3,hj=>simp at hj;subst hj;simp [Addr.add]
    case c2=>intro u hu;simp at hu;rcases hu with rfl | rfl | rfl | rfl <;> rfl
    case c3=>unfold maxLen;omega
    case c4=>omega
    case c5=>have:=hb.size;simp;omega
    intro v' w5 hown hgrow hnil hat
    obtain ⟨g',cap',rfl⟩:=ownsRow_succ hown
    have hrow:w5.ownsRow w.heap.size 44 4 (.slice (some ⟨g',0,none⟩) (R1.length + 1) cap') R2.length (voteCells R2):=by
     rw [HR.out,List.length_append,voteCells_append,voteCells_one]
     exact hown
    have hR2:R2.length=R1.length + 1:=by rw [HR.out];simp
    have hb5:Below w.heap.size w w5:=(hb.trans (hba.mono hb.size)).grown hgrow (by have:=hb.size;simp;omega) (fun j hj=>by
     have:=(own_below ho hba).lt j hj
     omega)
    have HF:Hid (_∧_):=And.intro hrow hR2
    clear hown hgrow hnil hat hrow hR2 ho hb hba
    go_wp2
    go_roundw
    case rel=>exact ⟨k + 1,⟨g',0,none⟩,cap',by omega,by go_num,by rw [HG2.out,HF.out.2],by rw [HG2.out];exact HF.out.1,hb5⟩
    case measure=>simp [intOf];omega
  ·have hkl:k=vs.length:=by omega
   subst hkl
   rw [List.take_length] at *
   have hki:¬ (vs.length:Int) < (vs.length:Int):=by omega
   go_wp2
   go_ret
   exact ⟨_,rfl,ho,⟨a,c,rfl⟩,hb⟩

end Go.Proofs.YtdhdnppbgaikfaaGreatDoor
namespace Go.Proofs.YtdhdnppbgaikfaaGreatDoor
open Go.RowKit
open Go.BigFrame
set_option maxRecDepth 100000
theorem own_cells {w:World} {base e size n c:Nat} {ad:Addr} {xs:List Value} (h:w.ownsRow base e size (.slice (some ad) n c) n xs):∀ j u,xs[j]? = some u→w.cell? (ad.add j)=some u:=by
 rcases Lies.own h with h0 | ⟨b,off,ha,_,hc⟩
 ·subst h0
  intro j u hj
  simp at hj
 ·simp only [Option.some.injEq] at ha
  subst ha
  intro j u hj
  rw [Addr.add_lit]
  exact hc j u hj

theorem own_row {w:World} {base e size n:Nat} {v:Value} {xs:List Value} (h:w.ownsRow base e size v n xs) (g:Nat) (cs:Array Value) (hg:g < base):(w.setRow g cs).ownsRow base e size v n xs:=
 own_outs h (out_row w g cs) (fun k hk hk' => by
  have h1:v.ownBlock=some k:=by simpa [blk] using hk
  have:=(h.lt k h1).1
  simp at hk'
  omega)

set_option maxRecDepth 100000 in
set_option maxHeartbeats 8000000 in
theorem l10Votes_any (b o:Nat) (p:InstQ) (w:World) (hP:InstP w b o p) (hF:Frm p.e.rounds p.e.dec) :
  Calls Tryz.prog 21 #[.pointer (some ⟨b,o,none⟩)] w fun e w' => ∃ a c,e=.returned (.slice a (vtI p.e).length c)∧w'.ownsRow w.heap.size 44 4 (.slice a (vtI p.e).length c) (vtI p.e).length (voteCells (vtI p.e))∧Below w.heap.size w w' := by
 obtain ⟨i0,hi,hz0,hz1,hz2⟩:=info_parts infoVote
 have hb0:Below w.heap.size w (w.alloc (.cells #[] 44)):=by go_grown
 have ho0:=World.ownsRow_lit (e:=44) (size:=4) w #[] 0 (Nat.le_refl _) (by decide) rfl
 obtain ⟨has,vb,batch,vr,rounds,vd,dec⟩:=p
 obtain ⟨ra,rk,rfl⟩:∃ a c,vr=.slice a rounds.length c:=hP.rounds.shape
 obtain ⟨da,dk,rfl⟩:∃ a c,vd=.slice a dec.length c:=hP.dec.shape
 replace hF:Frm (rounds.map RoundQ.e) dec:=hF
 have HI:Hid (vtI (InstQ.e ⟨has,vb,batch,.slice ra rounds.length rk,rounds,.slice da dec.length dk,dec⟩)=vtR 0 (rounds.map RoundQ.e) ++ rvF 3 0 0 dec):=(rfl:_=_)
 generalize vtI (InstQ.e ⟨has,vb,batch,.slice ra rounds.length rk,rounds,.slice da dec.length dk,dec⟩)=VI at *
 have HRL:Hid ((rounds.map RoundQ.e).length=rounds.length):=List.length_map _
 have h4:rounds.length≤4:=by have:=hF.h4;have:=HRL.out;omega
 have hd3:dec.length≤3:=Nat.le_of_eq hF.d
 have HW:Hid (Wel (rounds.map RoundQ.e)):=hF.w
 clear hF
 go_enter Tryz.func21,Tryz.ntmps21
 go_wp2
 generalize w.alloc (.cells #[] 44)=W0 at *
 go_loopw [3,4] (fun o j wr=>∃ (k:Nat) (a:Option Addr) (c:Nat) (R:List VoteD),k≤rounds.length∧j=.int .i64 k∧Hid (R=vtR 0 ((rounds.map RoundQ.e).take k))∧R.length≤6 * k∧o=.slice a R.length c∧wr.ownsRow w.heap.size 44 4 (.slice a R.length c) R.length (voteCells R)∧Below w.heap.size w wr) (fun _ j _=>rounds.length - (intOf j).toNat)
 case atStart=>exact ⟨0,_,_,[],Nat.zero_le _,rfl,(rfl:_=_),Nat.zero_le _,rfl,ho0,hb0⟩
 case round=>
  obtain ⟨k,a,c,R,hk,rfl,HR,hRl,rfl,ho,hb⟩:=hrel
  clear ho0 hb0
  have HBx:Hid (∀ W,Below w.heap.size w W→Box4 W b o (.bool has) vb (.slice ra rounds.length rk) (.slice da dec.length dk)):=fun W h=>(hP.below h).box
  by_cases hlt:k < rounds.length
  ·obtain ⟨rb,ro,rfl,hbs,hc,hrd⟩:=hP.rounds.cell (by decide) k hlt
   have hc' : ∀ j x,(roundK.cells rounds[k])[j]? = some x→w.cell? ⟨rb,ro + k * 2 + j,none⟩=some x:=hc
   have r0:=hc' 0 (rounds[k].vr) rfl
   have r1:=hc' 1 (rounds[k].vp) rfl
   have hA1:intK.At w rounds[k].vr rounds[k].rep:=hrd.1
   have hA2:intK.At w rounds[k].vp rounds[k].pro:=hrd.2
   have hT:=vtR_take (rounds.map RoundQ.e) k (by have:=HRL.out;omega)
   rw [rnd_at rounds k hlt] at hT
   have hL:=HW.out rounds[k].e (List.mem_map.2 ⟨_,List.getElem_mem hlt,rfl⟩)
   have hL1:rounds[k].rep.length≤3:=Nat.le_of_eq hL.1
   have hL2:rounds[k].pro.length≤3:=Nat.le_of_eq hL.2
   have HT:Hid (vtR 0 ((rounds.map RoundQ.e).take (k + 1))=R ++ (rvF 1 (k:Int) 0 rounds[k].rep ++ rvF 2 (k:Int) 0 rounds[k].pro)):=by rw [HR.out];exact hT
   clear hT hL HR hc hc' hrd HW HI
   generalize rounds[k].vr=v1 at *
   generalize rounds[k].vp=v2 at *
   generalize rounds[k].rep=z1 at *
   generalize rounds[k].pro=z2 at *
   have hk1:=fun w h=>l10Row_any 1 (k:Int) v1 z1 w h (by omega)
   have hk2:=fun w h=>l10Row_any 2 (k:Int) v2 z2 w h (by omega)
   have hs1:(rvF 1 (k:Int) 0 z1).length≤3:=by have:=rvF_len 1 (k:Int) z1 0;omega
   have hs2:(rvF 2 (k:Int) 0 z2).length≤3:=by have:=rvF_len 2 (k:Int) z2 0;omega
   generalize rvF 1 (k:Int) 0 z1=S1 at *
   generalize rvF 2 (k:Int) 0 z2=S2 at *
   have hki:(k:Int) < (rounds.length:Int):=by omega
   obtain ⟨c0,c1,c2,c3⟩:=HBx.out _ hb
   have q0:=(hb.cell (p:=⟨rb,ro + k * 2 + 0,none⟩) hbs).trans r0
   rw [Nat.add_zero] at q0
   go_wp2_with fail
   clear c0 c1 c2 c3 q0
   refine (hk1 _ (hA1.below hb)).mono ?_
   rintro e w2 ⟨_,rfl,o2,⟨a2,c2,rfl⟩,hb2⟩
   have ho2:=own_below ho hb2
   replace hb:=hb.trans (hb2.mono hb.size)
   clear hb2 ho hk1
   go_wp2_with (at_builtin;refine wpList_append_own_at _ rfl _ _ 30 rfl w.heap.size 44 i0 (.agg #[.int .i64 0,.int .i64 0,.int .i64 0,.int .i64 0]) 4 32 Tryz.underlying30 hi hz0 hz1 hz2 rfl (by decide) _ R.length (voteCells R) rfl ho2 a2 S1.length c2 (voteCells S1) rfl (voteCells_length S1) (own_cells o2) (voteCells_one' S1) ?c3 ?c4 ?c5 ?_)
   case c3=>unfold maxLen;omega
   case c4=>omega
   case c5=>have:=hb.size;omega
   intro v' w3 hown hgrow hnil hat
   obtain ⟨a3,c3,rfl⟩:=own_shape hown
   replace hb:Below w.heap.size w w3:=hb.grown hgrow (by have:=hb.size;omega) (fun j hj=>by
    have:=(ho2).lt j hj
    omega)
   have hRl1:(R ++ S1).length≤6 * k + 3:=by rw [List.length_append];omega
   replace ho:w3.ownsRow w.heap.size 44 4 (.slice a3 (R ++ S1).length c3) (R ++ S1).length (voteCells (R ++ S1)):=by
    rw [List.length_append,voteCells_append]
    exact hown
   obtain ⟨R2,hRN⟩:∃ RN,RN=R ++ S1:=⟨_,rfl⟩
   rw [← List.length_append,← hRN]
   rw [← hRN] at ho hRl1
   have HR2:Hid (R2=R ++ S1):=hRN
   clear hown hgrow hnil hat o2 hRN
   clear ho2
   obtain ⟨c0,c1,c2,c3⟩:=HBx.out _ hb
   have q1:=(hb.cell (p:=⟨rb,ro + k * 2 + 1,none⟩) hbs).trans r1
   go_wp2_with fail
   clear c0 c1 c2 c3 q1
   refine (hk2 _ (hA2.below hb)).mono ?_
   rintro e w4 ⟨_,rfl,o4,⟨a4,c4,rfl⟩,hb2⟩
   have ho4:=own_below ho hb2
   replace hb:=hb.trans (hb2.mono hb.size)
   clear hb2 ho hk2
   go_wp2_with (at_builtin;refine wpList_append_own_at _ rfl _ _ 30 rfl w.heap.size 44 i0 (.agg #[.int .i64 0,.int .i64 0,.int .i64 0,.int .i64 0]) 4 32 Tryz.underlying30 hi hz0 hz1 hz2 rfl (by decide) _ R2.length (voteCells R2) rfl ho4 a4 S2.length c4 (voteCells S2) rfl (voteCells_length S2) (own_cells o4) (voteCells_one' S2) ?c3 ?c4 ?c5 ?_)
   case c3=>unfold maxLen;omega
   case c4=>omega
   case c5=>have:=hb.size;omega
   intro v' w5 hown hgrow hnil hat
   obtain ⟨a5,c5,rfl⟩:=own_shape hown
   replace hb:Below w.heap.size w w5:=hb.grown hgrow (by have:=hb.size;omega) (fun j hj=>by
    have:=(ho4).lt j hj
    omega)
   have hRl2:(R2 ++ S2).length≤6 * k + 6:=by rw [List.length_append];omega
   replace ho:w5.ownsRow w.heap.size 44 4 (.slice a5 (R2 ++ S2).length c5) (R2 ++ S2).length (voteCells (R2 ++ S2)):=by
    rw [List.length_append,voteCells_append]
    exact hown
   obtain ⟨R3,hRN⟩:∃ RN,RN=R2 ++ S2:=⟨_,rfl⟩
   rw [← List.length_append,← hRN]
   rw [← hRN] at ho hRl2
   have HR3:Hid (R3=R2 ++ S2):=hRN
   clear hown hgrow hnil hat o4 hRN
   clear ho4
   go_wp2
   go_roundw
   case rel=>exact ⟨k + 1,_,_,R3,by omega,by go_num,by rw [HR3.out,HR2.out,List.append_assoc];exact HT.out.symm,by omega,rfl,ho,hb⟩
   case measure=>simp [intOf];omega
  ·have hkl:k=rounds.length:=by omega
   subst hkl
   have hki:¬ (rounds.length:Int) < (rounds.length:Int):=by omega
   have HV:Hid (VI=R ++ rvF 3 0 0 dec):=by rw [HR.out,← HRL.out,List.take_length];exact HI.out
   clear HR HI HW
   have hk3:=fun w h=>l10Row_any 3 0 (.slice da dec.length dk) dec w h (by omega)
   have hs3:(rvF 3 0 0 dec).length≤3:=by have:=rvF_len 3 0 dec 0;omega
   have hD:intK.At w (.slice da dec.length dk) dec:=hP.dec
   generalize rvF 3 0 0 dec=S3 at *
   obtain ⟨c0,c1,c2,c3⟩:=HBx.out _ hb
   go_wp2_with fail
   clear c0 c1 c2 c3
   refine (hk3 _ (hD.below hb)).mono ?_
   rintro e w2 ⟨_,rfl,o2,⟨a2,c2,rfl⟩,hb2⟩
   have ho2:=own_below ho hb2
   replace hb:=hb.trans (hb2.mono hb.size)
   clear hb2 ho hk3
   go_wp2_with (at_builtin;refine wpList_append_own_at _ rfl _ _ 30 rfl w.heap.size 44 i0 (.agg #[.int .i64 0,.int .i64 0,.int .i64 0,.int .i64 0]) 4 32 Tryz.underlying30 hi hz0 hz1 hz2 rfl (by decide) _ R.length (voteCells R) rfl ho2 a2 S3.length c2 (voteCells S3) rfl (voteCells_length S3) (own_cells o2) (voteCells_one' S3) ?c3 ?c4 ?c5 ?_)
   case c3=>unfold maxLen;omega
   case c4=>omega
   case c5=>have:=hb.size;omega
   intro v' w3 hown hgrow hnil hat
   obtain ⟨a3,c3,rfl⟩:=own_shape hown
   replace hb:Below w.heap.size w w3:=hb.grown hgrow (by have:=hb.size;omega) (fun j hj=>by
    have:=(ho2).lt j hj
    omega)
   have hRl1:(R ++ S3).length≤6 * rounds.length + 3:=by rw [List.length_append];omega
   replace ho:w3.ownsRow w.heap.size 44 4 (.slice a3 (R ++ S3).length c3) (R ++ S3).length (voteCells (R ++ S3)):=by
    rw [List.length_append,voteCells_append]
    exact hown
   obtain ⟨R2,hRN⟩:∃ RN,RN=R ++ S3:=⟨_,rfl⟩
   rw [← List.length_append,← hRN]
   rw [← hRN] at ho hRl1
   have HR2:Hid (R2=R ++ S3):=hRN
   clear hown hgrow hnil hat o2 hRN
   clear ho2
   go_wp2
   go_ret
   have eV:=HV.out.trans HR2.out.symm
   subst eV
   exact ⟨_,_,rfl,ho,hb⟩

set_option maxRecDepth 100000 in
set_option maxHeartbeats 4000000 in
theorem specVotesOf_any (p:InstQ) (w:World) (h:instK.rd w p) (hl:p.n≤1048576) :
  Calls Tryz.prog 12 #[.agg #[.bool p.has,p.vb,p.vr,p.vd]] w fun e w' => ∃ a c,e=.returned (.agg #[.int .i64 (insF p.e),.slice a (voL p.e).length c])∧w'.ownsRow w.heap.size 44 4 (.slice a (voL p.e).length c) (voL p.e).length (voteCells (voL p.e))∧Below w.heap.size w w' := by
 have hB:Below w.heap.size w ((w.alloc (.cells #[.bool p.has,p.vb,p.vr,p.vd] 28)).alloc (.cells #[.int .i64 0,.slice none 0 0] 32)):=by go_grown
 have Rb:=Blk.new (w.alloc (.cells #[.bool p.has,p.vb,p.vr,p.vd] 28)) 32 #[.int .i64 0,.slice none 0 0]
 rw [World.size_alloc] at Rb
 have hP:InstP ((w.alloc (.cells #[.bool p.has,p.vb,p.vr,p.vd] 28)).alloc (.cells #[.int .i64 0,.slice none 0 0] 32)) w.heap.size 0 p:=⟨(box4_new w _ _ _ _ 28).below (by go_grown),instK.rd_below h hB⟩
 have hws:w.heap.size + 2≤((w.alloc (.cells #[.bool p.has,p.vb,p.vr,p.vd] 28)).alloc (.cells #[.int .i64 0,.slice none 0 0] 32)).heap.size:=by simp
 have hf1:=l6Fault_any w.heap.size 0 p _ hP hl
 have hvo:=fun (h0:insF p.e=0) W hP=>l10Votes_any w.heap.size 0 p W hP (frm_of h0)
 have HV:Hid ((insF p.e=0→voL p.e=vtI p.e)∧(insF p.e≠0→voL p.e=[])):=⟨fun h=>if_pos h,fun h=>if_neg h⟩
 generalize voL p.e=VL at *
 generalize vtI p.e=VI at *
 generalize insF p.e=C at *
 go_enter Tryz.func12,Tryz.ntmps12
 go_wp2_with fail
 generalize ((w.alloc (.cells #[.bool p.has,p.vb,p.vr,p.vd] 28)).alloc (.cells #[.int .i64 0,.slice none 0 0] 32))=W at *
 refine hf1.mono ?_
 rintro e w1 ⟨rfl,hb1⟩
 replace hB:=hB.trans (hb1.mono hB.size)
 replace Rb:=Rb.below hb1
 have hP1:=hP.below hb1
 have hws1:w.heap.size + 2≤w1.heap.size:=by have:=hb1.size;omega
 clear hf1 hb1 hP
 by_cases h0:C=0
 ·subst h0
  have hV:=HV.out.1 rfl
  subst hV
  clear HV
  go_wp2_with fail
  refine (hvo (by trivial) w1 hP1).mono ?_
  rintro e w2 ⟨a2,c2,rfl,o2,hb2⟩
  replace hB:=hB.trans (hb2.mono hB.size)
  replace Rb:=Rb.below hb2
  clear hvo hb2
  have Rr:=Rb.row #[.int .i64 0,.slice a2 VL.length c2]
  have hBr:=below_row hB (g:=w.heap.size + 1) (by omega) #[.int .i64 0,.slice a2 VL.length c2]
  have hor:(w2.setRow (w.heap.size + 1) #[.int .i64 0,.slice a2 VL.length c2]).ownsRow w.heap.size 44 4 (.slice a2 VL.length c2) VL.length (voteCells VL):=own_base (own_row o2 (w.heap.size + 1) _ (by omega)) (by omega)
  have hsr:(Tryz.prog.info? 32).map (·.size)=some (#[.int .i64 0,.slice a2 VL.length c2]:Array Value).size:=by kernel_rfl
  go_wp2_with (first | (refine st_row (by kernel_rfl) 32 _ _ rfl _ #[.int .i64 0,.slice a2 VL.length c2] rfl rfl 32 _ Rb hsr rfl (by simp [Value.oneCell']) ?_))
  obtain ⟨q0,q1⟩:=Rr.cel2
  exact bodyPost_ret (v:=.agg #[.int .i64 0,.slice a2 VL.length c2]) (by simp [results,Tryz.results12,go_sem,q0,q1]) rfl ⟨_,_,rfl,hor,hBr⟩
 ·have hV:=HV.out.2 h0
  subst hV
  have h0' : (C != 0)=true:=by simpa using h0
  clear HV hvo h0
  have Rr:=Rb.row #[.int .i64 C,.slice none 0 0]
  have hBr:=below_row hB (g:=w.heap.size + 1) (by omega) #[.int .i64 C,.slice none 0 0]
  have hsr:(Tryz.prog.info? 32).map (·.size)=some (#[.int .i64 C,.slice none 0 0]:Array Value).size:=by kernel_rfl
  go_wp2_with (first | (refine st_row (by kernel_rfl) 32 _ _ rfl _ #[.int .i64 C,.slice none 0 0] rfl rfl 32 _ Rb hsr rfl (by simp [Value.oneCell']) ?_))
  obtain ⟨q0,q1⟩:=Rr.cel2
  exact bodyPost_ret (v:=.agg #[.int .i64 C,.slice none 0 0]) (by simp [results,Tryz.results12,go_sem,q0,q1]) rfl ⟨_,_,rfl,World.ownsRow_nil _ _ _ _,hBr⟩

end Go.Proofs.YtdhdnppbgaikfaaGreatDoor
