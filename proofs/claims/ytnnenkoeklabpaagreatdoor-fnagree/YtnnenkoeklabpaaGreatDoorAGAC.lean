/- Texts joined, with what the laws reach alone. -/
import Derived.Test.YtnnenkoeklabpaaGreatDoorAGAB
import Derived.Shelf.SortM.Plain
import Derived.Shelf.SortM.SortNone
import Derived.Shelf.SlicesG.In.CompactI
import Derived.Sort.EveryDepth
set_option linter.unusedVariables false
set_option linter.unusedSimpArgs false
namespace Go.Proofs.YtnnenkoeklabpaaGreatDoor
open Go.RowKit
set_option maxRecDepth 100000
/-- The fault of a batch. -/
def batF (ds:List TxnD):Int:=if ds.length < 1∨4 < ds.length then 2 else if allF ds=0 then (if (ds.map TxnD.id).Nodup then 0 else 6) else allF ds

/-- The fault of the rounds, one by one. -/
def rndsF:List RoundE→Int
 | []=>0
 | r :: rs=>if vf r.rep 1=0 then (if vf r.pro 2=0 then rndsF rs else vf r.pro 2) else vf r.rep 1

/-- The fault of the form. -/
def shpF (x:InstE):Int:=
 if x.has=false∧0 < x.batch.length then 1 else
 if x.has=true∧batF x.batch≠0 then batF x.batch else
 if x.rounds.length < 1∨4 < x.rounds.length then 2 else
 if rndsF x.rounds=0 then vf x.dec 1 else rndsF x.rounds

def rnd0:RoundE:=⟨[],[]⟩

def repA (rs:List RoundE) (r n:Nat):Int:=(rs.getD r rnd0).rep.getD n 0

def proA (rs:List RoundE) (r n:Nat):Int:=(rs.getD r rnd0).pro.getD n 0

/-- May it have proposed so? -/
def proR (rs:List RoundE) (r n:Nat):Bool:=(proA rs r n == 3) || ((repA rs r n != 3) && mayP (rs.getD r rnd0).rep (proA rs r n))

/-- May it have reported so (behind the first round)? -/
def befR (rs:List RoundE) (r n:Nat):Bool:=(proA rs (r - 1) n != 3) && mayR (rs.getD (r - 1) rnd0).pro (repA rs r n)

/-- The program's way. -/
def repI (has:Bool) (rs:List RoundE) (r n:Nat):Bool:=if repA rs r n=1∧has=false then false else if repA rs r n=3∨r=0 then true else befR rs r n

/-- The model's way. -/
def sayM (has:Bool) (rs:List RoundE) (r n:Nat):Bool:=proR rs r n && (if r=0∨repA rs r n=3 then true else befR rs r n && (has || (repA rs r n == 0) || decide (0 < cnt 7 (rs.getD (r - 1) rnd0).pro 1)))

/-- A quorum proposed v. -/
def agr (rs:List RoundE) (v:Int):Bool:=rs.any (fun r=>decide (2≤cnt 7 r.pro v))

def endR (rs:List RoundE) (v:Int):Bool:=(v == 3) || agr rs v

def allI (has:Bool) (rs:List RoundE) (r:Nat):Bool:=(repI has rs r 0 && proR rs r 0) && (repI has rs r 1 && proR rs r 1) && (repI has rs r 2 && proR rs r 2)

def allM (has:Bool) (rs:List RoundE) (r:Nat):Bool:=sayM has rs r 0 && sayM has rs r 1 && sayM has rs r 2

def endA (rs:List RoundE) (dec:List Int):Bool:=endR rs (dec.getD 0 0) && endR rs (dec.getD 1 0) && endR rs (dec.getD 2 0)

def rgtI (x:InstE):Bool:=(List.range x.rounds.length).all (allI x.has x.rounds) && endA x.rounds x.dec

def rgtM (x:InstE):Bool:=(x.has || !decide (0 < cnt 7 (x.rounds.getD 0 rnd0).rep 1)) && (List.range x.rounds.length).all (allM x.has x.rounds) && endA x.rounds x.dec

/-- The fault of an instance. -/
def insF (x:InstE):Int:=if shpF x=0 then (if rgtI x then 0 else 10) else shpF x

theorem cnt7 (zs:List Int) (v:Int):cnt 7 zs v=sum3 (zs.getD 0 0 == v) (zs.getD 1 0 == v) (zs.getD 2 0 == v):=by
 unfold cnt
 rw [bit7.1,bit7.2.1,bit7.2.2]
 simp only [Bool.true_and]

theorem pop_vot3 (p q r:Bool):pop3 (vot3 p q r)=sum3 p q r:=by cases p <;> cases q <;> cases r <;> decide +kernel

theorem pop_vot (zs:List Int) (v:Int):pop3 (vot zs v)=cnt 7 zs v:=by
 rw [cnt7]
 exact pop_vot3 _ _ _

theorem sum3_pos (p q r:Bool):(0 < sum3 p q r)↔(p=true∨q=true∨r=true):=by cases p <;> cases q <;> cases r <;> decide

theorem cnt7_pos (zs:List Int) (v:Int):(0 < cnt 7 zs v)↔∃ n,n < 3∧zs.getD n 0=v:=by
 rw [cnt7,sum3_pos]
 simp only [beq_iff_eq]
 constructor
 ·rintro (h | h | h)
  ·exact ⟨0,by omega,h⟩
  ·exact ⟨1,by omega,h⟩
  ·exact ⟨2,by omega,h⟩
 ·rintro ⟨n,hn,h⟩
  have:n=0∨n=1∨n=2:=by omega
  rcases this with rfl | rfl | rfl
  ·exact Or.inl h
  ·exact Or.inr (Or.inl h)
  ·exact Or.inr (Or.inr h)

theorem has_one4:∀ x∈v4,∀ y∈v4,∀ z∈v4,mayP [x,y,z] 1=true→x=1∨y=1∨z=1:=by decide +kernel

/-- Where 1 may be proposed somebody reported 1. -/
theorem mayP_has1 {zs:List Int} (h:mayP zs 1=true):∃ n,n < 3∧zs.getD n 0=1:=by
 by_cases h0:vf zs 1=0
 ·obtain ⟨x,hx,y,hy,z,hz,rfl⟩:=vf_three (Or.inl rfl) h0
  rcases has_one4 x hx y hy z hz h with h | h | h
  ·exact ⟨0,by omega,h⟩
  ·exact ⟨1,by omega,h⟩
  ·exact ⟨2,by omega,h⟩
 ·have:mayP zs 1=false:=any_none _ (fun k=>by
   have hc:(pfC zs k == 0)=false:=by
    rw [beq_eq_false_iff_ne]
    intro e
    exact h0 (pf_zero e).1
   simp only [pB,hc,Bool.false_and]) 8
  rw [this] at h
  exact absurd h (by decide)

theorem rndsF_at {rs:List RoundE} (h:rndsF rs=0) (r:Nat) (hr:r < rs.length):vf (rs.getD r rnd0).rep 1=0∧vf (rs.getD r rnd0).pro 2=0:=by
 induction rs generalizing r with
 | nil=>simp at hr
 | cons q t ih=>
  unfold rndsF at h
  by_cases h1:vf q.rep 1=0
  ·rw [if_pos h1] at h
   by_cases h2:vf q.pro 2=0
   ·rw [if_pos h2] at h
    cases r with
    | zero=>exact ⟨h1,h2⟩
    | succ r=>exact ih h r (by simpa using hr)
   ·rw [if_neg h2] at h
    exact absurd h h2
  ·rw [if_neg h1] at h
   exact absurd h h1

theorem vf_vote {zs:List Int} {most:Int} (h:vf zs most=0) (n:Nat) (hn:n < 3):vOk most (zs.getD n 0)=true:=by
 have hl:=vf_len h
 unfold vf at h
 rw [if_pos hl] at h
 have ha:zs.all (vOk most)=true:=by
  by_cases hx:zs.all (vOk most)=true
  ·exact hx
  ·rw [if_neg hx] at h
   simp at h
 have hg:zs.getD n 0=zs[n]:=by simp [List.getD,show n < zs.length by omega]
 rw [hg]
 exact List.all_eq_true.1 ha _ (List.getElem_mem _)

theorem vOk1 {x:Int} (h:vOk 1 x=true):x=0∨x=1∨x=3:=by
 unfold vOk inB at h
 rw [Bool.or_eq_true,decide_eq_true_eq,beq_iff_eq] at h
 omega

theorem allI_iff (has:Bool) (rs:List RoundE) (r:Nat):allI has rs r=true↔∀ n,n < 3→repI has rs r n=true∧proR rs r n=true:=by
 unfold allI
 simp only [Bool.and_eq_true]
 constructor
 ·rintro ⟨⟨h0,h1⟩,h2⟩ n hn
  have:n=0∨n=1∨n=2:=by omega
  rcases this with rfl | rfl | rfl
  ·exact h0
  ·exact h1
  ·exact h2
 ·intro h
  exact ⟨⟨h 0 (by omega),h 1 (by omega)⟩,h 2 (by omega)⟩

theorem allM_iff (has:Bool) (rs:List RoundE) (r:Nat):allM has rs r=true↔∀ n,n < 3→sayM has rs r n=true:=by
 unfold allM
 simp only [Bool.and_eq_true]
 constructor
 ·rintro ⟨⟨h0,h1⟩,h2⟩ n hn
  have:n=0∨n=1∨n=2:=by omega
  rcases this with rfl | rfl | rfl
  ·exact h0
  ·exact h1
  ·exact h2
 ·intro h
  exact ⟨⟨h 0 (by omega),h 1 (by omega)⟩,h 2 (by omega)⟩

/-- Without a batch nobody reported 1. -/
theorem no_one {rs:List RoundE} (h0:¬ 0 < cnt 7 (rs.getD 0 rnd0).rep 1) (hM:∀ r,r < rs.length→∀ n,n < 3→sayM false rs r n=true):∀ r,r < rs.length→∀ n,n < 3→repA rs r n≠1:=by
 intro r
 induction r with
 | zero=>
  intro _ n hn e
  exact h0 ((cnt7_pos _ _).2 ⟨n,hn,e⟩)
 | succ r ih=>
  intro hr n hn e
  have h:=hM (r + 1) hr n hn
  unfold sayM at h
  rw [Bool.and_eq_true] at h
  have h2:=h.2
  rw [if_neg (by rw [e];omega),Bool.and_eq_true] at h2
  have h3:=h2.2
  rw [e] at h3
  simp only [Bool.false_or,Nat.add_sub_cancel] at h3
  have h4:0 < cnt 7 (rs.getD r rnd0).pro 1:=by simpa using h3
  obtain ⟨m,hm,hp⟩:=(cnt7_pos _ _).1 h4
  have h5:=hM r (by omega) m hm
  unfold sayM at h5
  rw [Bool.and_eq_true] at h5
  have h6:=h5.1
  unfold proR at h6
  have hp' : proA rs r m=1:=hp
  rw [hp'] at h6
  simp only [Bool.or_eq_true,Bool.and_eq_true] at h6
  rcases h6 with h6 | h6
  ·exact absurd h6 (by decide)
  ·obtain ⟨k,hk,hk1⟩:=mayP_has1 h6.2
   exact ih (by omega) k hk hk1

/-- Both ways tell the same. -/
theorem rgt_same {x:InstE} (hr:rndsF x.rounds=0) (hl:0 < x.rounds.length):rgtM x=rgtI x:=by
 unfold rgtM rgtI
 rw [Bool.eq_iff_iff]
 simp only [Bool.and_eq_true,List.all_eq_true,List.mem_range,allI_iff,allM_iff]
 cases hh:x.has with
 | true=>
  simp only [Bool.true_or,true_and]
  refine and_congr_left (fun _=>?_)
  refine forall_congr' (fun r=>forall_congr' (fun hr' => forall_congr' (fun n=>forall_congr' (fun hn=>?_))))
  unfold sayM repI
  rw [if_neg (show ¬ (repA x.rounds r n=1∧true=false) by simp)]
  simp only [Bool.true_or,Bool.and_true,Bool.and_eq_true]
  by_cases hc:repA x.rounds r n=3∨r=0
  ·rw [if_pos hc,if_pos hc.symm]
   exact and_comm
  ·rw [if_neg hc,if_neg (fun e=>hc e.symm)]
   exact and_comm
 | false=>
  simp only [Bool.false_or]
  constructor
  ·rintro ⟨⟨h0,hM⟩,hE⟩
   have h0' : ¬ 0 < cnt 7 (x.rounds.getD 0 rnd0).rep 1:=by simpa using h0
   have hno:=no_one h0' hM
   refine ⟨fun r hr' n hn=>?_,hE⟩
   have h:=hM r hr' n hn
   unfold sayM at h
   rw [Bool.and_eq_true] at h
   refine ⟨?_,h.1⟩
   unfold repI
   rw [if_neg (fun e=>hno r hr' n hn e.1)]
   have h2:=h.2
   by_cases hc:repA x.rounds r n=3∨r=0
   ·rw [if_pos hc]
   ·rw [if_neg hc]
    rw [if_neg (fun e=>hc e.symm),Bool.and_eq_true] at h2
    exact h2.1
  ·rintro ⟨hI,hE⟩
   have hno:∀ r,r < x.rounds.length→∀ n,n < 3→repA x.rounds r n≠1:=by
    intro r hr' n hn e
    have h:=(hI r hr' n hn).1
    unfold repI at h
    rw [if_pos ⟨e,rfl⟩] at h
    exact absurd h (by decide)
   refine ⟨⟨?_,fun r hr' n hn=>?_⟩,hE⟩
   ·have:¬ 0 < cnt 7 (x.rounds.getD 0 rnd0).rep 1:=by
     intro h
     obtain ⟨n,hn,e⟩:=(cnt7_pos _ _).1 h
     exact hno 0 hl n hn e
    simpa using this
   ·obtain ⟨h1,h2⟩:=hI r hr' n hn
    unfold sayM
    rw [Bool.and_eq_true]
    refine ⟨h2,?_⟩
    unfold repI at h1
    rw [if_neg (fun e=>hno r hr' n hn e.1)] at h1
    by_cases hc:repA x.rounds r n=3∨r=0
    ·rw [if_pos hc.symm]
    ·rw [if_neg hc] at h1
     rw [if_neg (fun e=>hc e.symm),Bool.and_eq_true]
     refine ⟨h1,?_⟩
     have hv:=vOk1 (vf_vote (rndsF_at hr r hr').1 n hn)
     have h0:repA x.rounds r n=0:=by
      rcases hv with h | h | h
      ·exact h
      ·exact absurd h (hno r hr' n hn)
      ·exact absurd (Or.inl h) hc
     rw [h0]
     simp

end Go.Proofs.YtnnenkoeklabpaaGreatDoor
namespace Go.Proofs.YtnnenkoeklabpaaGreatDoor
open Go.RowKit
open Go.BigFrame
set_option maxRecDepth 100000
theorem intK_row (zs:List Int):intK.row zs=zs.map (Value.int .i64):=by
 induction zs with
 | nil=>rfl
 | cons z r ih=>
  simp only [Kind.row,List.flatMap_cons,List.map_cons] at ih ⊢
  rw [ih]
  rfl

theorem row_of_lies {w:World} {a:Option Addr} {zs:List Int} (h:Lies w a (zs.map (Value.int .i64))):Row .i64 w a zs:=by
 intro i hi
 rcases h with h | ⟨b,off,ha,hlt,hc⟩
 ·have:=congrArg List.length h
  rw [List.length_map,List.length_nil] at this
  omega
 ·exact ⟨b,off,ha,hlt,hc i _ (by simp [List.getD,hi])⟩

theorem lies_of_row {w:World} {a:Option Addr} {zs:List Int} (h:Row .i64 w a zs):Lies w a (zs.map (Value.int .i64)):=by
 by_cases h0:zs=[]
 ·left;simp [h0]
 ·obtain ⟨b,off,ha,hlt,_⟩:=h 0 (List.length_pos_iff.2 h0)
  right
  refine ⟨b,off,ha,hlt,fun i x hx=>?_⟩
  have hi:i < zs.length:=by
   have:=(List.getElem?_eq_some_iff.1 hx).1
   simpa using this
  obtain ⟨b',off',ha',_,hc⟩:=h i hi
  rw [ha] at ha'
  simp only [Option.some.injEq,Addr.mk.injEq,and_true] at ha'
  obtain ⟨rfl,rfl⟩:=ha'
  rw [hc]
  simp [hi] at hx
  rw [← hx]
  simp [List.getD,hi]

theorem intK_at {w:World} {a:Option Addr} {n cap:Nat} {zs:List Int} (h:intK.At w (.slice a n cap) zs):n=zs.length∧Row .i64 w a zs:=by
 obtain ⟨a',c,e,hl,_⟩:=h
 simp only [Value.slice.injEq] at e
 obtain ⟨rfl,rfl,_⟩:=e
 rw [intK_row] at hl
 exact ⟨rfl,row_of_lies hl⟩

theorem actK_at {w:World} {a:Option Addr} {n cap:Nat} {zs:List ActD} (h:actK.At w (.slice a n cap) zs):n=zs.length∧ActRow w a zs:=by
 obtain ⟨a',c,e,hl,_⟩:=h
 simp only [Value.slice.injEq] at e
 obtain ⟨rfl,rfl,_⟩:=e
 exact ⟨rfl,hl⟩

theorem intK_fp (v:Value) (zs:List Int):intK.fp v zs=blk v:=by
 have:zs.flatMap intK.foot=[]:=by rw [List.flatMap_eq_nil_iff];intro _ _;rfl
 simp [Kind.fp,this]

theorem actK_fp (v:Value) (zs:List ActD):actK.fp v zs=blk v:=by
 have:zs.flatMap actK.foot=[]:=by rw [List.flatMap_eq_nil_iff];intro _ _;rfl
 simp [Kind.fp,this]

theorem blk_nodup (v:Value):(blk v).Nodup:=by unfold blk;cases v.ownBlock <;> simp

theorem own_zero {w:World} {base e s n:Nat} {v:Value} {xs:List Value} (h:w.ownsRow base e s v n xs):w.ownsRow 0 e s v n xs∧∀ k∈blk v,base≤k:=⟨own_base h (Nat.zero_le _),fun k hk=>(h.lt k (by simpa [blk] using hk)).1⟩

end Go.Proofs.YtnnenkoeklabpaaGreatDoor
namespace Go.Proofs.YtnnenkoeklabpaaGreatDoor
open Go.RowKit
open Go.BigFrame
set_option maxRecDepth 100000
theorem nm_le {P:Type} (nm:P→Nat) (ps:List P) (k:Nat) (h:k < ps.length):nm ps[k]≤nmL nm ps:=by
 have h1:=nmL_succ nm ps k h
 have h2:=nmL_le nm ps (k + 1)
 omega

def TxnQ.n (p:TxnQ):Nat:=p.acts.length

def TxnQ.wf (p:TxnQ):Prop:=p.acts.length≤9223372036854775807

end Go.Proofs.YtnnenkoeklabpaaGreatDoor
namespace Go.Proofs.YtnnenkoeklabpaaGreatDoor
open Go.RowKit
open Go.BigFrame
set_option maxRecDepth 100000
def RoundQ.n (p:RoundQ):Nat:=p.rep.length + p.pro.length

def RoundQ.wf (p:RoundQ):Prop:=p.rep.length≤9223372036854775807∧p.pro.length≤9223372036854775807

theorem infoRound:(Tryz.prog.info? 51).map (fun i=>(i.zero,i.size,i.bytes))=some (some (.agg #[.slice none 0 0,.slice none 0 0]),2,48):=by kernel_rfl

end Go.Proofs.YtnnenkoeklabpaaGreatDoor
namespace Go.Proofs.YtnnenkoeklabpaaGreatDoor
open Go.RowKit
open Go.BigFrame
set_option maxRecDepth 100000
end Go.Proofs.YtnnenkoeklabpaaGreatDoor
namespace Go.Proofs.YtnnenkoeklabpaaGreatDoor
open Go.RowKit
open Go.BigFrame
set_option maxRecDepth 100000
def InstQ.n (p:InstQ):Nat:=(p.batch.length + nmL TxnQ.n p.batch) + (p.rounds.length + nmL RoundQ.n p.rounds) + p.dec.length

def InstQ.wf (p:InstQ):Prop:=(p.batch.length≤9223372036854775807∧∀ q∈p.batch,TxnQ.wf q)∧(p.rounds.length≤9223372036854775807∧∀ q∈p.rounds,RoundQ.wf q)∧p.dec.length≤9223372036854775807

end Go.Proofs.YtnnenkoeklabpaaGreatDoor
namespace Go.Proofs.YtnnenkoeklabpaaGreatDoor
open Go.RowKit
open Go.BigFrame
set_option maxRecDepth 100000
def slA:Value→Option Addr
 | .slice a _ _=>a
 | _=>none

def slK:Value→Nat
 | .slice _ _ k=>k
 | _=>0

def TxnQ.p (q:TxnQ):TxnP:=⟨q.e,slA q.va,slK q.va⟩

theorem TxnQ.p_cells {w:World} {q:TxnQ} (h:actK.At w q.va q.acts):q.p.cells=txnK.cells q:=by
 obtain ⟨a,c,e⟩:=h.shape
 show [_,_,_,_]=[_,_,_,_]
 simp only [TxnP.sl,TxnQ.p,TxnQ.e,e,slA,slK]

/-- What is read by kinds is read as a list of transactions. -/
theorem txnsAt_of {w:World} {v:Value} {ps:List TxnQ} (h:txnK.At w v ps):TxnsAt w v (ps.map TxnQ.e):=by
 obtain ⟨a,cap,e,hL,hr⟩:=h
 refine ⟨a,cap,ps.map TxnQ.p,by rw [List.length_map];exact e,by simp only [List.map_map];rfl,?_,?_⟩
 ·have e2:txnCells (ps.map TxnQ.p)=txnK.row ps:=by
   clear hL e
   induction ps with
   | nil=>rfl
   | cons q r ih=>
    have h1:q.p.cells=txnK.cells q:=TxnQ.p_cells (hr q (by simp))
    have h2:=ih (fun p hp=>hr p (List.mem_cons_of_mem _ hp))
    show q.p.cells ++ txnCells (r.map TxnQ.p)=txnK.cells q ++ txnK.row r
    rw [h1,h2]
  rw [e2]
  exact hL
 ·intro p hp
  obtain ⟨q,hq,rfl⟩:=List.mem_map.1 hp
  have h1:actK.At w q.va q.acts:=hr q hq
  obtain ⟨a',c',e',hl',_⟩:=h1
  show ActRow w (slA q.va) q.acts
  rw [e']
  exact hl'

theorem sumA_of (ps:List TxnQ):sumA (ps.map TxnQ.e)=nmL TxnQ.n ps:=by
 simp only [sumA,nmL,List.map_map]
 rfl

theorem idxN_lt (L:List Int) (x:Int):idxN L x < L.length↔x∈L:=by
 induction L with
 | nil=>simp [idxN]
 | cons y r ih=>
  by_cases h:y=x
  ·simp [idxN,h]
  ·have:¬ x=y:=fun e=>h e.symm
   simp [idxN,h,this,ih]

theorem idxI_in {L:List Int} {x:Int} (h:x∈L):0≤idxI L x:=by
 unfold idxI
 rw [if_pos ((idxN_lt L x).2 h)]
 omega

theorem idxI_out {L:List Int} {x:Int} (h:x ∉ L):idxI L x=-1:=by
 unfold idxI
 rw [if_neg (fun e=>h ((idxN_lt L x).1 e))]

theorem nodup_take {L:List Int} {k:Nat} (h:(L.take k).Nodup) (hk:k < L.length) (hx:L.getD k 0 ∉ L.take k):(L.take (k + 1)).Nodup:=by
 have e:L.getD k 0=L[k]:=by simp [List.getD,hk]
 rw [e] at hx
 rw [List.take_succ_eq_append_getElem hk,List.nodup_append]
 refine ⟨h,by simp,fun a ha b hb e=>?_⟩
 simp only [List.mem_singleton] at hb
 subst hb e
 exact hx ha

theorem not_nodup {L:List Int} {k:Nat} (hk:k < L.length) (hx:L.getD k 0∈L.take k):¬ L.Nodup:=by
 intro h
 have e:L.getD k 0=L[k]:=by simp [List.getD,hk]
 rw [e] at hx
 have h2:(L.take (k + 1)).Nodup:=List.Sublist.nodup (List.take_sublist _ _) h
 rw [List.take_succ_eq_append_getElem hk,List.nodup_append] at h2
 exact h2.2.2 _ hx _ (by simp) rfl

theorem Row.take6 {k:IntKind} {w:World} {a:Option Addr} {zs:List Int} (h:Row k w a zs) (j:Nat):Row k w a (zs.take j):=by
 intro i hi
 have hi2:i < j∧i < zs.length:=by rw [List.length_take] at hi;omega
 obtain ⟨b,off,ha,hlt,hc⟩:=h i hi2.2
 refine ⟨b,off,ha,hlt,?_⟩
 rw [hc]
 simp [List.getD,List.getElem?_take,hi2.1]

theorem own_cap6 {w:World} {base e s n c:Nat} {a:Option Addr} {xs:List Value} (h:w.ownsRow base e s (.slice a n c) n xs):n≤c:=by
 rcases h.2 with ⟨he,hn⟩ | ⟨g,cap,cur,he,_,_,hc,_⟩
 ·omega
 ·simp only [Value.slice.injEq,true_and] at he
  omega

theorem sl_hi (b off n c k:Nat) (hk:k≤c) (w:World):(Instr.sliceAt 26 (.slice (some ⟨b,off,none⟩) n c) none (some (.int .i64 (k:Int))) none).run Tryz.prog w=.ok (.slice (some ⟨b,off,none⟩) k c) w:=by
 have hel:Tryz.prog.elem 26=2:=by kernel_rfl
 have hun:Tryz.prog.underlying 26=some (.slice (Tryz.prog.elem 26)):=by kernel_rfl
 have hsz:(sizeOf (Tryz.prog.elem 26)).run Tryz.prog w=.ok 1 w:=by rw [hel];kernel_rfl
 rw [run_sliceAt_slice (h:=hun),run_slice_h (ht:=hun) (kh:=.i64) (h:=(k:Int)) (h0:=by omega) (h2:=by omega),hsz]
 simp only [Result.andThen,sliced,Int.toNat_natCast]
 split
 ·rename_i h
  simp
 ·simp only [Option.map_some,Addr.add_lit,Nat.zero_mul,Nat.add_zero,Nat.sub_zero]

theorem batF_many {ds:List TxnD} (h:ds.length < 1∨4 < ds.length):batF ds=2:=if_pos h

theorem batF_few {ds:List TxnD} (h:¬ (ds.length < 1∨4 < ds.length)):batF ds=if allF ds=0 then (if (ds.map TxnD.id).Nodup then 0 else 6) else allF ds:=if_neg h

set_option maxHeartbeats 4000000 in
theorem l6Batch_any (v:Value) (ds:List TxnD) (w:World) (h:TxnsAt w v ds) (hl:ds.length + sumA ds≤1048576) :
  Calls Tryz.prog 44 #[v] w fun e w' => e=.returned (.int .i64 (batF ds))∧Below w.heap.size w w' := by
 obtain ⟨a,cap,rfl⟩:=h.shape
 by_cases hlo:ds.length < 1
 ·rw [batF_many (Or.inl hlo)]
  go_enter Tryz.func44,Tryz.ntmps44
  go_wp2
  go_ret
  exact ⟨rfl,Below.refl _ _⟩
 ·by_cases hhi:4 < ds.length
  ·rw [batF_many (Or.inr hhi)]
   go_enter Tryz.func44,Tryz.ntmps44
   go_wp2
   go_ret
   exact ⟨rfl,Below.refl _ _⟩
  ·have HB:Hid (batF ds=if allF ds=0 then (if (ds.map TxnD.id).Nodup then 0 else 6) else allF ds):=batF_few (by omega)
   generalize batF ds=E at HB ⊢
   have hlo' : 1≤ds.length:=by omega
   have hhi' : ds.length≤4:=by omega
   clear hlo hhi
   go_enter Tryz.func44,Tryz.ntmps44
   go_wp2
   go_loop [3] (fun j=>∃ k:Nat,k≤ds.length∧j=.int .i64 k∧Hid (∀ j,j < k→(ds.getD j txnNo).F=0)) (fun j=>ds.length - (intOf j).toNat)
   case atStart=>exact ⟨0,Nat.zero_le _,rfl,fun j hj=>absurd hj (Nat.not_lt_zero _)⟩
   case round=>
    obtain ⟨k,hk,rfl,HA⟩:=hrel
    by_cases hlt:k < ds.length
    ·obtain ⟨b,off,aa,cc,rfl,hbs,hc0,hc1,hc2,hc3,hA⟩:=h.at k hlt
     have hzl:(ds.getD k txnNo).acts.length≤sumA ds:=mem_le_sumA (by simp [List.getD,hlt])
     have hcall:=l2Fault_any b (off + k * 4) _ _ _ aa cc _ w (TxnsAt.box hc0 hc1 hc2 hc3) hA (by omega)
     change Calls _ _ _ _ fun e w' => e=.returned (.int .i64 ((ds.getD k txnNo).F))∧_ at hcall
     clear hc0 hc1 hc2 hc3 hA
     by_cases hF:(ds.getD k txnNo).F=0
     ·have HB2:Hid (∀ j,j < k + 1→(ds.getD j txnNo).F=0):=by
       intro j hj
       by_cases hjk:j=k
       ·subst hjk;exact hF
       ·exact HA.out j (by omega)
      rw [hF] at hcall
      clear HA hF
      go_wp2_with (go_at_call 67;refine hcall.mono ?_;rintro e w' ⟨rfl,rfl⟩)
      go_round
      case rel=>exact ⟨k + 1,by omega,by go_num,HB2⟩
      case measure=>simp [intOf];omega
     ·have E2:Hid (E=(ds.getD k txnNo).F):=by
       have e1:=allF_first ds k HA.out hlt hF
       have e2:=HB.out
       rw [e1,if_neg hF] at e2
       exact e2
      have hne:((ds.getD k txnNo).F != 0)=true:=by simpa using hF
      clear HA hF HB
      generalize (ds.getD k txnNo).F=r at hcall E2 hne
      go_wp2_with (go_at_call 67;refine hcall.mono ?_;rintro e w' ⟨rfl,rfl⟩)
      go_ret
      rw [E2.out]
      exact ⟨rfl,Below.refl _ _⟩
    ·have hkl:k=ds.length:=by omega
     subst hkl
     have E3:Hid (E=if (ds.map TxnD.id).Nodup then 0 else 6):=by
      have e2:=HB.out
      rw [if_pos (allF_none ds HA.out)] at e2
      exact e2
     clear HA HB
     have hids:=l2Ids_any _ ds w h (by omega)
     go_wp2_with fail
     refine hids.mono ?_
     rintro e w1 ⟨ib,ic,rfl,ho,hb1⟩
     have hR:=Row.own ho
     have hcap:=own_cap6 ho
     have hln:(ds.map TxnD.id).length≤4:=by simpa using hhi'
     clear hids ho
     generalize ds.map TxnD.id=L at *
     go_wp2
     go_loopw [6] (fun j wr=>∃ k:Nat,k≤L.length∧j=.int .i64 k∧Hid ((L.take k).Nodup)∧Below w1.heap.size w1 wr) (fun j _=>L.length - (intOf j).toNat)
     case atStart=>exact ⟨0,Nat.zero_le _,rfl,show List.Nodup _ by simp,Below.refl _ _⟩
     case round=>
      obtain ⟨k,hk,rfl,HA,hb⟩:=hrel
      by_cases hlt:k < L.length
      ·obtain ⟨b,off,rfl,hbs,hc⟩:=(hR.below hb) k hlt
       have hTk:(L.take k).length=k:=by simp;omega
       have hT:=(hR.below hb).take6 k
       have HY:Hid (L.getD k 0∈L.take k→E=6):=fun hx=>by rw [E3.out,if_neg (not_nodup hlt hx)]
       have HN:Hid (L.getD k 0 ∉ L.take k→(L.take (k + 1)).Nodup):=fun hx=>nodup_take HA.out hlt hx
       have hfind:=fun w h=>l1Find_any (some ⟨b,off,none⟩) ic (L.take k) (L.getD k 0) w h (by omega)
       rw [hTk] at hfind
       clear HA hTk
       have hI:L.getD k 0∈L.take k∨L.getD k 0 ∉ L.take k:=Classical.em _
       have HI:Hid ((L.getD k 0∈L.take k∧0≤idxI (L.take k) (L.getD k 0))∨(L.getD k 0 ∉ L.take k∧idxI (L.take k) (L.getD k 0)=-1)):=hI.elim (fun h=>Or.inl ⟨h,idxI_in h⟩) (fun h=>Or.inr ⟨h,idxI_out h⟩)
       clear hI
       generalize L.getD k 0=z at *
       generalize idxI (L.take k) z=q at *
       have k0:=lat_cell hc
       clear hc
       have hW:Below wr.heap.size wr wr.drew:=(Below.refl _ _).drew
       have hne:Nonempty (Lat wr):=⟨⟨wr,Below.refl _ _⟩⟩
       have hkL:(k:Int)≤(ic:Int):=by omega
       go_wp2_with fail
       refine text_begin (S:=fun w' => ∃ u:Lat wr,w' = u.val) (by kernel_rfl) ?_
       refine sgr [(0,2)] 7 (by kernel_rfl) ⟨⟨_,hW⟩,rfl⟩ ?_
       simp only [pkE]
       repeat go_big_quiet_step (fail)
       refine wpQuiet_nil ?_
       have hsl:=sl_hi b off L.length ic k (by omega)
       refine qta 2 (some 38) (.slice (some ⟨b,off,none⟩) k ic) 6 (by kernel_rfl) (fun u _=>?_) ⟨⟨_,hW⟩,rfl⟩ ?_
       ·show some (((Instr.sliceAt 26 (.slice (some ⟨b,off,none⟩) L.length ic) none (some (.int .i64 (k:Int))) none) >>= fun x=>pure (Next.value x):Sem Next).run Tryz.prog u)=_
        rw [Sem.run_bind,hsl u]
        rfl
       clear hsl
       simp only [Act.put,pjE]
       refine sgr [(3,4)] 2 (by kernel_rfl) ⟨⟨_,hW⟩,rfl⟩ ?_
       simp only [pkE]
       repeat go_big_quiet_step (fail)
       refine wpQuiet_nil ?_
       refine cla 7 (some 43) 69 #[.slice (some ⟨b,off,none⟩) k ic,.int .i64 z] 1 (by kernel_rfl) ?_
       refine (hfind _ (hT.below hW)).mono ?_
       rintro e w2 ⟨rfl,hw2⟩
       replace hw2:=hw2.symm
       subst hw2
       refine ⟨_,rfl,⟨⟨_,hW⟩,rfl⟩,?_⟩
       simp only [Act.put,pjE]
       refine sgr [(8,1)] 0 (by kernel_rfl) ⟨⟨_,hW⟩,rfl⟩ ?_
       simp only [pkE]
       repeat go_big_quiet_step (fail)
       refine wpQuiet_nil ?_
       refine text_end (by kernel_rfl) ?_
       replace hb:=hb.trans (hW.mono hb.size)
       clear k0 hW hne hfind hT hkL
       generalize wr.drew=wd at *
       by_cases hq:0≤q
       ·have E5:Hid (E=6):=by
         rcases HI.out with h | h
         ·exact HY.out h.1
         ·omega
        clear HI HY HN E3
        go_wp2
        go_ret
        exact ⟨by rw [E5.out];rfl,hb1.trans (hb.mono hb1.size)⟩
       ·have R:Hid ((L.take (k + 1)).Nodup):=by
         rcases HI.out with h | h
         ·omega
         ·exact HN.out h.1
        clear HI HY HN
        go_wp2
        go_roundw
        case rel=>exact ⟨k + 1,by omega,by go_num,R,hb⟩
        case measure=>simp [intOf];omega
      ·have hkl:k=L.length:=by omega
       subst hkl
       rw [List.take_length] at HA
       have E4:Hid (E=0):=by
        have:=E3.out
        rw [if_pos HA.out] at this
        exact this
       clear HA E3
       go_wp2
       go_ret
       exact ⟨by rw [E4.out];rfl,hb1.trans (hb.mono hb1.size)⟩

end Go.Proofs.YtnnenkoeklabpaaGreatDoor
namespace Go.Proofs.YtnnenkoeklabpaaGreatDoor
open Go.RowKit Go.Sort Go.Shelf
set_option maxRecDepth 100000
def shSort_ren:Go.Shelf.Ren:=⟨fun | 5=>57 | 8=>81 | 7=>80 | 19=>102 | 20=>103 | 10=>93 | 11=>94 | 12=>95 | 13=>96 | 14=>97 | 15=>98 | 16=>99 | 17=>100 | 18=>101 | 30=>108 | 31=>109 | 32=>110 | 33=>111 | 34=>112 | 35=>113 | 40=>117 | n=>n,fun | 23=>26 | 25=>2 | 3=>3 | 32=>106 | 22=>26 | 0=>0 | 44=>132 | 46=>118 | 4=>4 | 36=>125 | 35=>124 | 41=>129 | 5=>5 | 9=>9 | 53=>139 | 57=>143 | 63=>147 | 64=>148 | n=>n,fun | n=>n⟩

theorem shSort:Go.Proofs.SlLaysM.n5 Tryz.prog shSort_ren:={
 mixed:=by kernel_rfl,
 f5:=⟨Tryz.f57.name,by decide,Tryz.func57.trans (congrArg some (by kernel_rfl))⟩,
 f7:=⟨Tryz.f80.name,by decide,Tryz.func80.trans (congrArg some (by kernel_rfl))⟩,
 f8:=Tryz.func81.trans (congrArg some (by kernel_rfl)),
 f10:=⟨Tryz.f93.name,by decide,Tryz.func93.trans (congrArg some (by kernel_rfl))⟩,
 f11:=⟨Tryz.f94.name,by decide,Tryz.func94.trans (congrArg some (by kernel_rfl))⟩,
 f12:=⟨Tryz.f95.name,by decide,Tryz.func95.trans (congrArg some (by kernel_rfl))⟩,
 f13:=⟨Tryz.f96.name,by decide,Tryz.func96.trans (congrArg some (by kernel_rfl))⟩,
 f14:=⟨Tryz.f97.name,by decide,Tryz.func97.trans (congrArg some (by kernel_rfl))⟩,
 f15:=⟨Tryz.f98.name,by decide,Tryz.func98.trans (congrArg some (by kernel_rfl))⟩,
 f16:=⟨Tryz.f99.name,by decide,Tryz.func99.trans (congrArg some (by kernel_rfl))⟩,
 f17:=⟨Tryz.f100.name,by decide,Tryz.func100.trans (congrArg some (by kernel_rfl))⟩,
 f18:=⟨Tryz.f101.name,by decide,Tryz.func101.trans (congrArg some (by kernel_rfl))⟩,
 f19:=Tryz.func102.trans (congrArg some (by kernel_rfl)),
 f20:=Tryz.func103.trans (congrArg some (by kernel_rfl)),
 f30:=⟨Tryz.f108.name,by decide,Tryz.func108.trans (congrArg some (by kernel_rfl))⟩,
 f31:=Tryz.func109.trans (congrArg some (by kernel_rfl)),
 f32:=Tryz.func110.trans (congrArg some (by kernel_rfl)),
 f33:=⟨Tryz.f111.name,by decide,Tryz.func111.trans (congrArg some (by kernel_rfl))⟩,
 f34:=⟨Tryz.f112.name,by decide,Tryz.func112.trans (congrArg some (by kernel_rfl))⟩,
 f35:=⟨Tryz.f113.name,by decide,Tryz.func113.trans (congrArg some (by kernel_rfl))⟩,
 f40:=⟨Tryz.f117.name,by decide,Tryz.func117.trans (congrArg some (by kernel_rfl))⟩,
 t0:=Tryz.underlying0,
 a0:=Tryz.isAgg0,
 z0:=Tryz.sizeOf0,
 v0:=Tryz.zeroValue0,
 t3:=Tryz.underlying3,
 a3:=Tryz.isAgg3,
 z3:=Tryz.sizeOf3,
 v3:=Tryz.zeroValue3,
 t4:=Tryz.underlying4,
 a4:=Tryz.isAgg4,
 z4:=Tryz.sizeOf4,
 v4:=Tryz.zeroValue4,
 t5:=Tryz.underlying5,
 a5:=Tryz.isAgg5,
 z5:=Tryz.sizeOf5,
 v5:=Tryz.zeroValue5,
 t9:=Tryz.underlying9,
 a9:=Tryz.isAgg9,
 z9:=Tryz.sizeOf9,
 v9:=Tryz.zeroValue9,
 t22:=Tryz.underlying26,
 a22:=Tryz.isAgg26,
 z22:=Tryz.sizeOf26,
 v22:=Tryz.zeroValue26,
 t23:=Tryz.underlying26,
 a23:=Tryz.isAgg26,
 z23:=Tryz.sizeOf26,
 v23:=Tryz.zeroValue26,
 t25:=Tryz.underlying2,
 a25:=Tryz.isAgg2,
 z25:=Tryz.sizeOf2,
 v25:=Tryz.zeroValue2,
 t32:=Tryz.underlying106,
 a32:=Tryz.isAgg106,
 z32:=Tryz.sizeOf106,
 v32:=Tryz.zeroValue106,
 t35:=Tryz.underlying124,
 a35:=Tryz.isAgg124,
 z35:=Tryz.sizeOf124,
 v35:=Tryz.zeroValue124,
 t36:=Tryz.underlying125,
 a36:=Tryz.isAgg125,
 z36:=Tryz.sizeOf125,
 v36:=Tryz.zeroValue125,
 t41:=Tryz.underlying129,
 a41:=Tryz.isAgg129,
 z41:=Tryz.sizeOf129,
 v41:=Tryz.zeroValue129,
 t44:=Tryz.underlying132,
 a44:=Tryz.isAgg132,
 z44:=Tryz.sizeOf132,
 v44:=Tryz.zeroValue132,
 t46:=Tryz.underlying118,
 a46:=Tryz.isAgg118,
 z46:=Tryz.sizeOf118,
 v46:=Tryz.zeroValue118,
 t53:=Tryz.underlying139,
 a53:=Tryz.isAgg139,
 z53:=Tryz.sizeOf139,
 v53:=Tryz.zeroValue139,
 t57:=Tryz.underlying143,
 a57:=Tryz.isAgg143,
 z57:=Tryz.sizeOf143,
 v57:=Tryz.zeroValue143,
 t63:=Tryz.underlying147,
 a63:=Tryz.isAgg147,
 z63:=Tryz.sizeOf147,
 v63:=Tryz.zeroValue147,
 t64:=Tryz.underlying148,
 a64:=Tryz.isAgg148,
 z64:=Tryz.sizeOf148,
 v64:=Tryz.zeroValue148 }

def shComp_ren:Go.Shelf.Ren:=⟨fun | 43=>58 | n=>n,fun | 22=>26 | 23=>2 | 3=>3 | 4=>4 | 0=>0 | n=>n,fun | n=>n⟩

theorem shComp:Go.Proofs.SlLaysN.n43 Tryz.prog shComp_ren:={
 mixed:=by kernel_rfl,
 f43:=⟨Tryz.f58.name,by decide,Tryz.func58.trans (congrArg some (by kernel_rfl))⟩,
 t0:=Tryz.underlying0,
 a0:=Tryz.isAgg0,
 z0:=Tryz.sizeOf0,
 v0:=Tryz.zeroValue0,
 t3:=Tryz.underlying3,
 a3:=Tryz.isAgg3,
 z3:=Tryz.sizeOf3,
 v3:=Tryz.zeroValue3,
 t4:=Tryz.underlying4,
 a4:=Tryz.isAgg4,
 z4:=Tryz.sizeOf4,
 v4:=Tryz.zeroValue4,
 t22:=Tryz.underlying26,
 a22:=Tryz.isAgg26,
 z22:=Tryz.sizeOf26,
 v22:=Tryz.zeroValue26,
 t23:=Tryz.underlying2,
 a23:=Tryz.isAgg2,
 z23:=Tryz.sizeOf2,
 v23:=Tryz.zeroValue2,
 i23:=by kernel_rfl }

end Go.Proofs.YtnnenkoeklabpaaGreatDoor
namespace Go.Proofs.YtnnenkoeklabpaaGreatDoor
open Go.RowKit
open Go.BigFrame
open Go.Sort
set_option maxRecDepth 100000
theorem sorted_nodup:∀ (L:List Int),L.Pairwise (· ≤ ·)→(∀ j,j + 1 < L.length→L.getD (j + 1) 0≠L.getD j 0)→L.Nodup
 | [],_,_=>List.nodup_nil
 | [a],_,_=>by simp
 | a :: b :: t,hs,hadj=>by
  rw [List.pairwise_cons] at hs
  have hab:a≠b:=fun e=>hadj 0 (by simp) (by simpa using e.symm)
  have ih:=sorted_nodup (b :: t) hs.2 (fun j hj=>by simpa using hadj (j + 1) (by simpa using hj))
  rw [List.nodup_cons]
  refine ⟨fun hm=>?_,ih⟩
  have h1:=hs.1 b (by simp)
  rcases List.mem_cons.1 hm with h | h
  ·exact hab h
  ·have h2:=(List.pairwise_cons.1 hs.2).1 a h
   omega

theorem getB (L:List Int) (j:Nat):L.toArray[j]! = L.getD j 0:=by
 rw [List.getElem!_toArray]
 by_cases h:j < L.length
 ·rw [getElem!_pos L j h];simp [List.getD,h]
 ·rw [getElem!_neg L j h];simp [List.getD,List.getElem?_eq_none (show L.length≤j by omega)]

/-- Of equal neighbours one stays: nothing goes just where none stands twice. -/
theorem compact_len (L:List Int) (hs:L.Pairwise (· ≤ ·)):(L.Nodup→(Lib.compact L).length=L.length)∧(¬ L.Nodup→(Lib.compact L).length < L.length):=by
 constructor
 ·intro h
  rw [Lib.compact_all]
  intro j hj
  unfold Lib.keeps
  rw [decide_eq_true_eq,getB,getB]
  by_cases h0:j=0
  ·exact Or.inl h0
  ·right
   intro e
   have e1:L.getD j 0=L[j]:=by simp [List.getD,hj]
   have e2:L.getD (j - 1) 0=L[j - 1]'(by omega):=by simp [List.getD,show j - 1 < L.length by omega]
   rw [e1,e2] at e
   exact List.pairwise_iff_getElem.1 h (j - 1) j (by omega) hj (by omega) e.symm
 ·intro h
  have hex:∃ j,j + 1 < L.length∧L.getD (j + 1) 0=L.getD j 0:=by
   apply Classical.byContradiction
   intro hn
   exact h (sorted_nodup L hs (fun j hj e=>hn ⟨j,hj,e⟩))
  obtain ⟨j,hj,e⟩:=hex
  unfold Lib.compact Lib.compactUpTo
  rw [List.length_map]
  have:=(List.length_filter_lt_length_iff_exists (p:=Lib.keeps L.toArray) (l:=List.range L.length)).2 ⟨j + 1,List.mem_range.2 hj,by
   unfold Lib.keeps
   rw [decide_eq_true_eq,getB,getB]
   rintro (h | h)
   ·omega
   ·exact h (by simpa using e)⟩
  rwa [List.length_range] at this

/-- A row that is written over in place. -/
theorem own_put {w w' : World} {base g n cap q:Nat} {zs ys:List Int} {os:Array Obj} (h:w.ownsRow base 2 1 (.slice (some ⟨g,0,none⟩) n cap) n (zs.map (Value.int .i64))) (hl:ys.length=n)
  (hw:w' = grow (putRow (Value.int .i64) (Sort.ahead w q) g 0 ys.toArray) os):w'.ownsRow base 2 1 (.slice (some ⟨g,0,none⟩) n cap) n (ys.map (Value.int .i64))∧Out [g] w w' := by
 rcases h.2 with ⟨he,hn⟩ | ⟨g',cap',cur,he,hb,hh,h1,h2,h3,h4⟩
 ·simp at he
 ·simp only [Value.slice.injEq,Option.some.injEq,Addr.mk.injEq,and_true,true_and] at he
  obtain ⟨rfl,rfl⟩:=he
  have hlt:g < w.heap.size:=(Array.getElem?_eq_some_iff.1 hh).1
  have hsz:(putRow (Value.int .i64) (Sort.ahead w q) g 0 ys.toArray).heap.size=w.heap.size:=by simp
  have hblk:∀ k,k < w.heap.size→w'.heap[k]? = (putRow (Value.int .i64) (Sort.ahead w q) g 0 ys.toArray).heap[k]? := fun k hk=>by
   rw [hw]
   exact Array.getElem?_append_left (by rw [hsz];exact hk)
  have hg:w'.heap[g]? = some (.cells (putCells (Value.int .i64) 0 ys.toArray cur) 2 (0,0)):=by
   rw [hblk g hlt]
   show (w.heap.modify g _)[g]? = _
   rw [Array.getElem?_modify,if_pos rfl,hh]
   rfl
  have hcs:(putCells (Value.int .i64) 0 ys.toArray cur).size=cur.size:=by simp [putCells]
  refine ⟨⟨by simp [hl],Or.inr ⟨g,cap,_,rfl,hb,hg,h1,h2,by rw [hcs];exact h3,?_⟩⟩,?_⟩
  ·apply List.ext_getElem?
   intro j
   by_cases hj:j < n
   ·rw [List.getElem?_take,if_pos (by omega),Array.getElem?_toList]
    simp only [putCells,Array.getElem?_mapIdx]
    rw [Array.getElem?_eq_getElem (by omega),Option.map_some,if_pos ⟨Nat.zero_le _,by rw [List.size_toArray];omega⟩]
    simp only [Nat.sub_zero]
    rw [getB,List.getElem?_map,List.getElem?_eq_getElem (by omega)]
    simp [List.getD,show j < ys.length by omega]
   ·rw [List.getElem?_eq_none (by simp;omega),List.getElem?_eq_none (by simp;omega)]
  ·refine ⟨by rw [hw];rfl,by rw [hw];rfl,by rw [hw];rfl,?_,fun k hk hn=>?_⟩
   ·rw [hw]
    show w.heap.size≤(_ ++ os).size
    rw [Array.size_append,hsz]
    omega
   ·rw [hblk k hk]
    show (w.heap.modify g _)[k]? = _
    rw [Array.getElem?_modify,if_neg (fun e=>hn (by simp [e]))]

theorem holds_own {w:World} {base g n cap:Nat} {zs:List Int} (h:w.ownsRow base 2 1 (.slice (some ⟨g,0,none⟩) n cap) n (zs.map (Value.int .i64))):Holds (Value.int .i64) w g 0 zs.toArray∧g < w.heap.size∧n≤cap:=by
 have hl:zs.length=n:=by have:=h.1;simpa using this
 refine ⟨fun j hj=>?_,?_,own_cap6 h⟩
 ·rw [List.size_toArray] at hj
  refine ⟨?_,h.frozenAt _⟩
  rw [Nat.zero_add,h.cellAt j (by omega),getB]
  simp [List.getD,hj]
 ·exact (h.lt g rfl).2

theorem sort6_any (g cap base:Nat) (zs:List Int) (w:World) (h:w.ownsRow base 2 1 (.slice (some ⟨g,0,none⟩) zs.length cap) zs.length (zs.map (Value.int .i64))) (hl:zs.length≤60) :
  Calls Tryz.prog 57 #[.slice (some ⟨g,0,none⟩) zs.length cap] w fun e w' => e=.returned (.tuple #[])∧∃ ys:List Int,ys.Perm zs∧ys.Pairwise (· ≤ ·)∧w'.ownsRow base 2 1 (.slice (some ⟨g,0,none⟩) zs.length cap) zs.length (ys.map (Value.int .i64))∧Out [g] w w' := by
 obtain ⟨hH,hlt,hc⟩:=holds_own h
 refine (AnyM.slices_Sort_int shSort g 0 cap zs w hH hlt (by omega)).mono ?_
 rintro e w' ⟨rfl,q,os,hw⟩
 obtain ⟨o,u⟩:=own_put h (by rw [List.length_mergeSort]) hw
 refine ⟨rfl,_,List.mergeSort_perm _ _,?_,o,u⟩
 have:=List.pairwise_mergeSort (le:=fun (x y:Int)=>decide (x≤y)) (fun a b c h1 h2=>by simp only [decide_eq_true_eq] at *;omega) (fun a b=>by simp only [Bool.or_eq_true,decide_eq_true_eq];omega) zs
 exact this.imp (fun h=>by simpa using h)

theorem compact6_any (g cap base:Nat) (zs:List Int) (w:World) (h:w.ownsRow base 2 1 (.slice (some ⟨g,0,none⟩) zs.length cap) zs.length (zs.map (Value.int .i64))) (hl:zs.length≤60) :
  Calls Tryz.prog 58 #[.slice (some ⟨g,0,none⟩) zs.length cap] w fun e w' => e=.returned (.slice (some ⟨g,0,none⟩) (Lib.compact zs).length cap)∧Out [g] w w' := by
 obtain ⟨hH,hlt,hc⟩:=holds_own h
 refine (calls_of_every_depth fun D=>AnySG.slices_Compact_int_in shComp D g 0 cap zs w hH (by omega) hc).mono ?_
 rintro e w' ⟨rfl,q,hw⟩
 have hle:(Lib.compact zs).length≤zs.length:=by
  unfold Lib.compact Lib.compactUpTo
  rw [List.length_map]
  exact Nat.le_trans (List.length_filter_le _ _) (by simp)
 exact ⟨rfl,(own_put (ys:=Lib.compact zs ++ List.replicate (zs.length - (Lib.compact zs).length) 0) (os:=#[]) h (by simp only [List.length_append,List.length_replicate];omega) (by rw [hw,grow_empty])).2⟩

set_option maxHeartbeats 2000000 in
theorem batchFault_any (v:Value) (ds:List TxnD) (w:World) (h:TxnsAt w v ds) (hl:ds.length + sumA ds≤1048576) :
  Calls Tryz.prog 38 #[v] w fun e w' => e=.returned (.int .i64 (batF ds))∧Below w.heap.size w w' := by
 have hid:=implIdsOf_any v ds w h hl
 obtain ⟨a,cap,rfl⟩:=h.shape
 by_cases hlo:ds.length < 1
 ·rw [batF_many (Or.inl hlo)]
  clear hid
  go_enter Tryz.func38,Tryz.ntmps38
  go_wp2
  go_ret
  exact ⟨rfl,Below.refl _ _⟩
 ·by_cases hhi:4 < ds.length
  ·rw [batF_many (Or.inr hhi)]
   clear hid
   go_enter Tryz.func38,Tryz.ntmps38
   go_wp2
   go_ret
   exact ⟨rfl,Below.refl _ _⟩
  ·have HB:Hid (batF ds=if allF ds=0 then (if (ds.map TxnD.id).Nodup then 0 else 6) else allF ds):=batF_few (by omega)
   generalize batF ds=E at HB ⊢
   have hC:idsC ds=allF ds:=if_neg (by omega)
   have hlo' : 1≤ds.length:=by omega
   have hhi' : ds.length≤4:=by omega
   clear hlo hhi
   rw [hC] at hid
   have hR:allF ds=0→idsR ds=ds.map TxnD.id:=fun h0=>by
    unfold idsR
    rw [if_pos (by rw [hC];exact h0)]
   have hRl:(idsR ds).length≤4:=Nat.le_trans (idsR_le ds) hhi'
   have HID:Hid (allF ds=0→(idsR ds).length=ds.length∧(E=if (idsR ds).Nodup then 0 else 6)):=fun h0=>by
    rw [hR h0]
    refine ⟨by simp,?_⟩
    have:=HB.out
    rw [if_pos h0] at this
    exact this
   have HNE:Hid (allF ds≠0→E=allF ds):=fun h0=>by
    have:=HB.out
    rw [if_neg h0] at this
    exact this
   clear HB hR hC
   generalize idsR ds=L at *
   generalize allF ds=C at *
   go_enter Tryz.func38,Tryz.ntmps38
   go_wp2_with fail
   refine hid.mono ?_
   rintro e w1 ⟨b,c,rfl,ho,hb1⟩
   clear hid
   have B:=Blk.new w1 96 #[.int .i64 C,.slice b L.length c]
   have hb2:=hb1.alloc hb1.size (.cells #[.int .i64 C,.slice b L.length c] 96)
   by_cases h0:C=0
   ·subst h0
    obtain ⟨hLn,hE⟩:=HID.out rfl
    have HE:Hid (E=if L.Nodup then 0 else 6):=hE
    have HL:Hid (L.length=ds.length):=hLn
    have ho2:=own_below ho ((Below.refl w1.heap.size w1).alloc (Nat.le_refl _) (.cells #[.int .i64 0,.slice b L.length c] 96))
    obtain ⟨g,hg⟩:∃ g,b=some ⟨g,0,none⟩:=by
     rcases ho.2 with ⟨_,hn⟩ | ⟨g,_,_,he,_⟩
     ·omega
     ·simp only [Value.slice.injEq] at he
      exact ⟨g,he.1⟩
    subst hg
    have hgl:=ho.lt g rfl
    have hst:=sort6_any g c _ L _ ho2 (by omega)
    clear HID HNE hE hLn ho ho2
    go_wp2_with fail
    generalize w1.alloc (.cells #[.int .i64 0,.slice (some ⟨g,0,none⟩) L.length c] 96)=W at *
    refine hst.mono ?_
    rintro e w3 ⟨rfl,ys,hperm,hsort,o3,u3⟩
    have hyl:ys.length=L.length:=hperm.length_eq
    have HC:Hid (((Lib.compact ys).length < L.length→E=6)∧(¬ (Lib.compact ys).length < L.length→E=0)):=by
     obtain ⟨c1,c2⟩:=compact_len ys hsort
     have hnd:=hperm.nodup_iff
     refine ⟨fun hx=>?_,fun hx=>?_⟩
     ·have hn:¬ ys.Nodup:=fun hn=>by have:=c1 hn;omega
      rw [HE.out,if_neg (fun e=>hn (hnd.2 e))]
     ·have hn:ys.Nodup:=Classical.byContradiction (fun hn=>hx (by have:=c2 hn;omega))
      rw [HE.out,if_pos (hnd.1 hn)]
    have hcp:=compact6_any g c _ ys w3 (by rw [hyl];exact o3) (by omega)
    rw [hyl] at hcp
    have hne:w1.heap.size≠g:=by omega
    have B3:Blk w3 w1.heap.size 96 #[.int .i64 0,.slice (some ⟨g,0,none⟩) L.length c]:=(u3.block _ B.lt (by simp only [List.mem_singleton];exact hne)).trans B
    have hb3:Below w.heap.size w w3:=Out.keep hb2 u3 hb2.size (fun k hk=>by simp only [List.mem_singleton] at hk;omega)
    have p1:=B3.cell 1 _ rfl
    generalize (Lib.compact ys).length=m at *
    clear hst HE o3 u3 B hperm hsort hyl hb1 hb2
    go_wp2_with fail
    refine hcp.mono ?_
    rintro e w4 ⟨rfl,u4⟩
    have hb4:Below w.heap.size w w4:=Out.keep hb3 u4 hb3.size (fun k hk=>by simp only [List.mem_singleton] at hk;omega)
    clear hcp u4 B3 hb3 p1
    have hLd:=HL.out
    by_cases hm:m < ds.length
    ·have E2:Hid (E=6):=HC.out.1 (by omega)
     clear HC
     go_wp2
     go_ret
     exact ⟨by rw [E2.out];rfl,hb4⟩
    ·have E2:Hid (E=0):=HC.out.2 (by omega)
     clear HC
     go_wp2
     go_ret
     exact ⟨by rw [E2.out];rfl,hb4⟩
   ·have E2:Hid (E=C):=HNE.out h0
    have h0' : (C != 0)=true:=by simpa using h0
    clear HID HNE h0 ho
    go_wp2
    go_ret
    exact ⟨by rw [E2.out];rfl,hb2⟩

end Go.Proofs.YtnnenkoeklabpaaGreatDoor
namespace Go.Proofs.YtnnenkoeklabpaaGreatDoor
open Go.RowKit
open Go.BigFrame
set_option maxRecDepth 100000
/-- A pointer to an instance. -/
structure InstP (w:World) (b o:Nat) (p:InstQ):Prop where
 box:Box4 w b o (.bool p.has) p.vb p.vr p.vd
 rd:instK.rd w p

theorem InstP.below {w w' : World} {b o:Nat} {p:InstQ} (h:InstP w b o p) (hb:Below w.heap.size w w'):InstP w' b o p:=⟨h.box.below hb,instK.rd_below h.rd hb⟩

theorem InstP.batch {w:World} {b o:Nat} {p:InstQ} (h:InstP w b o p):txnK.At w p.vb p.batch:=h.rd.1

theorem InstP.rounds {w:World} {b o:Nat} {p:InstQ} (h:InstP w b o p):roundK.At w p.vr p.rounds:=h.rd.2.1

theorem InstP.dec {w:World} {b o:Nat} {p:InstQ} (h:InstP w b o p):intK.At w p.vd p.dec:=h.rd.2.2

theorem rnd_at (rs:List RoundQ) (r:Nat) (hr:r < rs.length):(rs.map RoundQ.e).getD r rnd0=RoundQ.e rs[r]:=by simp [List.getD,hr]

theorem nmR_le (rs:List RoundQ) (r:Nat) (hr:r < rs.length):rs[r].rep.length + rs[r].pro.length≤nmL RoundQ.n rs:=nm_le RoundQ.n rs r hr

theorem rndsF_first (ds:List RoundE):∀ k,(∀ j,j < k→vf (ds.getD j rnd0).rep 1=0∧vf (ds.getD j rnd0).pro 2=0)→k < ds.length→(vf (ds.getD k rnd0).rep 1≠0→rndsF ds=vf (ds.getD k rnd0).rep 1)∧(vf (ds.getD k rnd0).rep 1=0→vf (ds.getD k rnd0).pro 2≠0→rndsF ds=vf (ds.getD k rnd0).pro 2):=by
 induction ds with
 | nil=>intro k _ h;simp at h
 | cons x r ih=>
  intro k h0 hk
  cases k with
  | zero=>
   simp only [List.getD_cons_zero]
   unfold rndsF
   exact ⟨fun h=>by rw [if_neg h],fun h h2=>by rw [if_pos h,if_neg h2]⟩
  | succ k=>
   have hx:=h0 0 (by omega)
   simp only [List.getD_cons_zero] at hx
   have:=ih k (fun j hj=>by simpa using h0 (j + 1) (by omega)) (by simpa using hk)
   simp only [List.getD_cons_succ]
   rw [show rndsF (x :: r)=rndsF r by rw [rndsF,if_pos hx.1,if_pos hx.2]]
   exact this

theorem rndsF_none (ds:List RoundE) (h:∀ j,j < ds.length→vf (ds.getD j rnd0).rep 1=0∧vf (ds.getD j rnd0).pro 2=0):rndsF ds=0:=by
 induction ds with
 | nil=>rfl
 | cons x r ih=>
  have hx:=h 0 (by simp)
  simp only [List.getD_cons_zero] at hx
  rw [rndsF,if_pos hx.1,if_pos hx.2]
  exact ih (fun j hj=>by simpa using h (j + 1) (by simpa using hj))

set_option maxHeartbeats 4000000 in
theorem l6Shape_any (b o:Nat) (p:InstQ) (w:World) (hP:InstP w b o p) (hl:p.n≤1048576) :
  Calls Tryz.prog 31 #[.pointer (some ⟨b,o,none⟩)] w fun e w' => e=.returned (.int .i64 (shpF p.e))∧Below w.heap.size w w' := by
 have hB:Below w.heap.size w w:=Below.refl _ _
 obtain ⟨has,vb,batch,vr,rounds,vd,dec⟩:=p
 dsimp only [InstQ.n] at hl
 have HE:Hid (shpF (InstQ.e ⟨has,vb,batch,vr,rounds,vd,dec⟩)=if has=false∧0 < (batch.map TxnQ.e).length then 1 else
  if has=true∧batF (batch.map TxnQ.e)≠0 then batF (batch.map TxnQ.e) else
  if (rounds.map RoundQ.e).length < 1∨4 < (rounds.map RoundQ.e).length then 2 else
  if rndsF (rounds.map RoundQ.e)=0 then vf dec 1 else rndsF (rounds.map RoundQ.e)):=by
  exact (rfl:shpF _=_)
 generalize shpF (InstQ.e ⟨has,vb,batch,vr,rounds,vd,dec⟩)=E at HE ⊢
 have hv:=l6Batch_any vb (batch.map TxnQ.e) w (txnsAt_of hP.batch) (by rw [List.length_map,sumA_of];omega)
 have hsb:∃ a c,vb=.slice a batch.length c:=hP.batch.shape
 have hsr:∃ a c,vr=.slice a rounds.length c:=hP.rounds.shape
 have hsd:∃ a c,vd=.slice a dec.length c:=hP.dec.shape
 obtain ⟨ba,bk,rfl⟩:=hsb
 obtain ⟨va,vk,rfl⟩:=hsr
 cases has with
 | false=>
  by_cases h0:0 < batch.length
  ·have E1:Hid (E=1):=by rw [HE.out,if_pos ⟨rfl,by simpa using h0⟩];rfl
   obtain ⟨c0,c1,c2,c3⟩:=hP.box
   dsimp only at c0 c1 c2 c3
   clear HE hv
   go_enter Tryz.func31,Tryz.ntmps31
   go_wp2
   go_ret
   exact ⟨by rw [E1.out];rfl,hB⟩
  ·have HS:Hid (E=if (rounds.map RoundQ.e).length < 1∨4 < (rounds.map RoundQ.e).length then 2 else if rndsF (rounds.map RoundQ.e)=0 then vf dec 1 else rndsF (rounds.map RoundQ.e)):=by
    have:=HE.out
    rw [if_neg (fun h=>h0 (by simpa using h.2)),if_neg (by simp)] at this
    exact this
   clear HE
   obtain ⟨c0,c1,c2,c3⟩:=hP.box
   dsimp only at c0 c1 c2 c3
   have h0' : ¬ (0:Int) < batch.length:=by omega
   go_enter Tryz.func31,Tryz.ntmps31
   clear c0 c1 c2 c3
   by_cases hr1:rounds.length < 1
   ·have E2:Hid (E=2):=by rw [HS.out,if_pos (Or.inl (by simpa using hr1))];rfl
    obtain ⟨c0,c1,c2,c3⟩:=hP.box
    dsimp only at c0 c1 c2 c3
    clear HS hv
    go_wp2
    go_ret
    exact ⟨by rw [E2.out];rfl,hB⟩
   ·by_cases hr4:4 < rounds.length
    ·have E2:Hid (E=2):=by rw [HS.out,if_pos (Or.inr (by simpa using hr4))];rfl
     obtain ⟨c0,c1,c2,c3⟩:=hP.box
     dsimp only at c0 c1 c2 c3
     clear HS hv
     go_wp2
     go_ret
     exact ⟨by rw [E2.out];rfl,hB⟩
    ·have HS2:Hid (E=if rndsF (rounds.map RoundQ.e)=0 then vf dec 1 else rndsF (rounds.map RoundQ.e)):=by
      have:=HS.out
      rw [if_neg (by simp only [List.length_map];omega)] at this
      exact this
     have hr1' : ¬ (rounds.length:Int) < 1:=by omega
     have hr4' : ¬ (4:Int) < rounds.length:=by omega
     clear HS hr1 hr4
     obtain ⟨c0,c1,c2,c3⟩:=hP.box
     dsimp only at c0 c1 c2 c3
     go_wp2
     clear c0 c1 c2 c3
     go_loopw [4] (fun j wr=>∃ k:Nat,k≤rounds.length∧j=.int .i64 k∧Hid (∀ j,j < k→vf ((rounds.map RoundQ.e).getD j rnd0).rep 1=0∧vf ((rounds.map RoundQ.e).getD j rnd0).pro 2=0)∧Below w.heap.size w wr) (fun j _=>rounds.length - (intOf j).toNat)
     case atStart=>exact ⟨0,Nat.zero_le _,rfl,fun j hj=>absurd hj (Nat.not_lt_zero _),Below.refl _ _⟩
     case round=>
      obtain ⟨k,hk,rfl,HA,hb⟩:=hrel
      have hPr:=hP.below hb
      have hBr:=hB.trans (hb.mono hB.size)
      obtain ⟨c0,c1,c2,c3⟩:=hPr.box
      dsimp only at c0 c1 c2 c3
      by_cases hlt:k < rounds.length
      ·obtain ⟨rb,ro,rfl,hbs,hc,hrd⟩:=hPr.rounds.cell (by decide) k hlt
       have hc' : ∀ j x,(roundK.cells rounds[k])[j]? = some x→wr.cell? ⟨rb,ro + k * 2 + j,none⟩=some x:=hc
       have r0:=hc' 0 (rounds[k].vr) rfl
       have r1:=hc' 1 (rounds[k].vp) rfl
       have hnm:=nmR_le rounds k hlt
       have hfst:=rndsF_first (rounds.map RoundQ.e) k HA.out (by simpa using hlt)
       rw [rnd_at rounds k hlt] at hfst
       dsimp only [RoundQ.e] at hfst
       have HF1:Hid (vf rounds[k].rep 1≠0→E=vf rounds[k].rep 1):=fun h=>by rw [HS2.out,hfst.1 h,if_neg h]
       have HF2:Hid (vf rounds[k].rep 1=0→vf rounds[k].pro 2≠0→E=vf rounds[k].pro 2):=fun h h2=>by rw [HS2.out,hfst.2 h h2,if_neg h2]
       have HN:Hid (vf rounds[k].rep 1=0→vf rounds[k].pro 2=0→∀ j,j < k + 1→vf ((rounds.map RoundQ.e).getD j rnd0).rep 1=0∧vf ((rounds.map RoundQ.e).getD j rnd0).pro 2=0):=by
        intro h1 h2 j hj
        by_cases hjk:j=k
        ·subst hjk
         rw [rnd_at rounds j hlt]
         exact ⟨h1,h2⟩
        ·exact HA.out j (by omega)
       clear HA hfst hc hc'
       generalize rounds[k]=q at *
       obtain ⟨qv,qr,qw,qp⟩:=q
       obtain ⟨rA,rP⟩:intK.At wr qv qr∧intK.At wr qw qp:=hrd
       dsimp only at *
       obtain ⟨ra,rk,rfl⟩:=rA.shape
       obtain ⟨pa,pk,rfl⟩:=rP.shape
       have hv1:=l5Votes_any ra rk qr 1 wr (intK_at rA).2 (by omega)
       rw [Nat.add_zero] at r0
       go_wp2_with fail
       refine hv1.mono ?_
       rintro e w2 ⟨rfl,hb2⟩
       have hPr2:=hPr.below hb2
       have hBr2:=hBr.trans (hb2.mono hBr.size)
       have hrb:=World.block_lt_of_cell? wr _ r1
       replace r1:=(hb2.cell (p:=⟨rb,ro + k * 2 + 1,none⟩) hrb).trans r1
       replace hb:=hb.trans (hb2.mono hb.size)
       have hv2:=l5Votes_any pa pk qp 2 w2 (intK_at (rP.below hb2)).2 (by omega)
       clear hv1 c0 c1 c2 c3 r0 hb2 hPr hBr rA rP
       obtain ⟨c0,c1,c2,c3⟩:=hPr2.box
       dsimp only at c0 c1 c2 c3
       by_cases h1:vf qr 1=0
       ·have HF:Hid (vf qp 2≠0→E=vf qp 2):=HF2.out h1
        have HM:Hid (vf qp 2=0→_):=HN.out h1
        rw [h1]
        clear HF1 HF2 HN h1
        go_wp2_with fail
        refine hv2.mono ?_
        rintro e w3 ⟨rfl,hb3⟩
        replace hb:=hb.trans (hb3.mono hb.size)
        replace hBr2:=hBr2.trans (hb3.mono hBr2.size)
        clear hv2 c0 c1 c2 c3 r1 hb3 hPr2
        by_cases h2:vf qp 2=0
        ·have R:=HM.out h2
         have HR:Hid _:=R
         rw [h2]
         clear HF HM R h2
         go_wp2
         go_roundw
         case rel=>exact ⟨k + 1,by omega,by go_num,HR.out,hb⟩
         case measure=>simp [intOf];omega
        ·have E2:Hid (E=vf qp 2):=HF.out h2
         have h2' : (vf qp 2 != 0)=true:=by simpa using h2
         clear HF HM h2
         generalize vf qp 2=r at *
         go_wp2
         go_ret
         exact ⟨by rw [E2.out];rfl,hBr2⟩
       ·have E2:Hid (E=vf qr 1):=HF1.out h1
        have h1' : (vf qr 1 != 0)=true:=by simpa using h1
        clear HF1 HF2 HN h1 hv2
        generalize vf qr 1=r at *
        go_wp2
        go_ret
        exact ⟨by rw [E2.out];rfl,hBr2⟩
      ·have hkl:k=rounds.length:=by omega
       subst hkl
       have E2:Hid (E=vf dec 1):=by
        have:=HS2.out
        rw [if_pos (rndsF_none _ (by simpa using HA.out))] at this
        exact this
       have hdec:intK.At wr vd dec:=hPr.dec
       obtain ⟨da,dk,rfl⟩:=hdec.shape
       have hv1:=l5Votes_any da dk dec 1 wr (intK_at hdec).2 (by omega)
       clear HA HS2 hdec
       go_wp2_with fail
       refine hv1.mono ?_
       rintro e w2 ⟨rfl,hb2⟩
       replace hBr:=hBr.trans (hb2.mono hBr.size)
       generalize vf dec 1=r at *
       clear hv1 c0 c1 c2 c3 hb2 hPr
       go_wp2
       go_ret
       exact ⟨by rw [E2.out];rfl,hBr⟩
 | true=>
  obtain ⟨c0,c1,c2,c3⟩:=hP.box
  dsimp only at c0 c1 c2 c3
  go_enter Tryz.func31,Tryz.ntmps31
  go_wp2_with fail
  refine hv.mono ?_
  rintro e w1 ⟨rfl,hb1⟩
  replace hP:=hP.below hb1
  replace hB:=hB.trans (hb1.mono hB.size)
  clear hv hb1 c0 c1 c2 c3
  by_cases h1:batF (batch.map TxnQ.e)=0
  ·have HS:Hid (E=if (rounds.map RoundQ.e).length < 1∨4 < (rounds.map RoundQ.e).length then 2 else if rndsF (rounds.map RoundQ.e)=0 then vf dec 1 else rndsF (rounds.map RoundQ.e)):=by
    have:=HE.out
    rw [if_neg (by simp),if_neg (fun h=>h.2 h1)] at this
    exact this
   rw [h1]
   clear HE h1
   have hv:=True.intro
   by_cases hr1:rounds.length < 1
   ·have E2:Hid (E=2):=by rw [HS.out,if_pos (Or.inl (by simpa using hr1))];rfl
    obtain ⟨c0,c1,c2,c3⟩:=hP.box
    dsimp only at c0 c1 c2 c3
    clear HS hv
    go_wp2
    go_ret
    exact ⟨by rw [E2.out];rfl,hB⟩
   ·by_cases hr4:4 < rounds.length
    ·have E2:Hid (E=2):=by rw [HS.out,if_pos (Or.inr (by simpa using hr4))];rfl
     obtain ⟨c0,c1,c2,c3⟩:=hP.box
     dsimp only at c0 c1 c2 c3
     clear HS hv
     go_wp2
     go_ret
     exact ⟨by rw [E2.out];rfl,hB⟩
    ·have HS2:Hid (E=if rndsF (rounds.map RoundQ.e)=0 then vf dec 1 else rndsF (rounds.map RoundQ.e)):=by
      have:=HS.out
      rw [if_neg (by simp only [List.length_map];omega)] at this
      exact this
     have hr1' : ¬ (rounds.length:Int) < 1:=by omega
     have hr4' : ¬ (4:Int) < rounds.length:=by omega
     clear HS hr1 hr4
     obtain ⟨c0,c1,c2,c3⟩:=hP.box
     dsimp only at c0 c1 c2 c3
     go_wp2
     clear c0 c1 c2 c3
     go_loopw [4] (fun j wr=>∃ k:Nat,k≤rounds.length∧j=.int .i64 k∧Hid (∀ j,j < k→vf ((rounds.map RoundQ.e).getD j rnd0).rep 1=0∧vf ((rounds.map RoundQ.e).getD j rnd0).pro 2=0)∧Below w1.heap.size w1 wr) (fun j _=>rounds.length - (intOf j).toNat)
     case atStart=>exact ⟨0,Nat.zero_le _,rfl,fun j hj=>absurd hj (Nat.not_lt_zero _),Below.refl _ _⟩
     case round=>
      obtain ⟨k,hk,rfl,HA,hb⟩:=hrel
      have hPr:=hP.below hb
      have hBr:=hB.trans (hb.mono hB.size)
      obtain ⟨c0,c1,c2,c3⟩:=hPr.box
      dsimp only at c0 c1 c2 c3
      by_cases hlt:k < rounds.length
      ·obtain ⟨rb,ro,rfl,hbs,hc,hrd⟩:=hPr.rounds.cell (by decide) k hlt
       have hc' : ∀ j x,(roundK.cells rounds[k])[j]? = some x→wr.cell? ⟨rb,ro + k * 2 + j,none⟩=some x:=hc
       have r0:=hc' 0 (rounds[k].vr) rfl
       have r1:=hc' 1 (rounds[k].vp) rfl
       have hnm:=nmR_le rounds k hlt
       have hfst:=rndsF_first (rounds.map RoundQ.e) k HA.out (by simpa using hlt)
       rw [rnd_at rounds k hlt] at hfst
       dsimp only [RoundQ.e] at hfst
       have HF1:Hid (vf rounds[k].rep 1≠0→E=vf rounds[k].rep 1):=fun h=>by rw [HS2.out,hfst.1 h,if_neg h]
       have HF2:Hid (vf rounds[k].rep 1=0→vf rounds[k].pro 2≠0→E=vf rounds[k].pro 2):=fun h h2=>by rw [HS2.out,hfst.2 h h2,if_neg h2]
       have HN:Hid (vf rounds[k].rep 1=0→vf rounds[k].pro 2=0→∀ j,j < k + 1→vf ((rounds.map RoundQ.e).getD j rnd0).rep 1=0∧vf ((rounds.map RoundQ.e).getD j rnd0).pro 2=0):=by
        intro h1 h2 j hj
        by_cases hjk:j=k
        ·subst hjk
         rw [rnd_at rounds j hlt]
         exact ⟨h1,h2⟩
        ·exact HA.out j (by omega)
       clear HA hfst hc hc'
       generalize rounds[k]=q at *
       obtain ⟨qv,qr,qw,qp⟩:=q
       obtain ⟨rA,rP⟩:intK.At wr qv qr∧intK.At wr qw qp:=hrd
       dsimp only at *
       obtain ⟨ra,rk,rfl⟩:=rA.shape
       obtain ⟨pa,pk,rfl⟩:=rP.shape
       have hv1:=l5Votes_any ra rk qr 1 wr (intK_at rA).2 (by omega)
       rw [Nat.add_zero] at r0
       go_wp2_with fail
       refine hv1.mono ?_
       rintro e w2 ⟨rfl,hb2⟩
       have hPr2:=hPr.below hb2
       have hBr2:=hBr.trans (hb2.mono hBr.size)
       have hrb:=World.block_lt_of_cell? wr _ r1
       replace r1:=(hb2.cell (p:=⟨rb,ro + k * 2 + 1,none⟩) hrb).trans r1
       replace hb:=hb.trans (hb2.mono hb.size)
       have hv2:=l5Votes_any pa pk qp 2 w2 (intK_at (rP.below hb2)).2 (by omega)
       clear hv1 c0 c1 c2 c3 r0 hb2 hPr hBr rA rP
       obtain ⟨c0,c1,c2,c3⟩:=hPr2.box
       dsimp only at c0 c1 c2 c3
       by_cases h1:vf qr 1=0
       ·have HF:Hid (vf qp 2≠0→E=vf qp 2):=HF2.out h1
        have HM:Hid (vf qp 2=0→_):=HN.out h1
        rw [h1]
        clear HF1 HF2 HN h1
        go_wp2_with fail
        refine hv2.mono ?_
        rintro e w3 ⟨rfl,hb3⟩
        replace hb:=hb.trans (hb3.mono hb.size)
        replace hBr2:=hBr2.trans (hb3.mono hBr2.size)
        clear hv2 c0 c1 c2 c3 r1 hb3 hPr2
        by_cases h2:vf qp 2=0
        ·have R:=HM.out h2
         have HR:Hid _:=R
         rw [h2]
         clear HF HM R h2
         go_wp2
         go_roundw
         case rel=>exact ⟨k + 1,by omega,by go_num,HR.out,hb⟩
         case measure=>simp [intOf];omega
        ·have E2:Hid (E=vf qp 2):=HF.out h2
         have h2' : (vf qp 2 != 0)=true:=by simpa using h2
         clear HF HM h2
         generalize vf qp 2=r at *
         go_wp2
         go_ret
         exact ⟨by rw [E2.out];rfl,hBr2⟩
       ·have E2:Hid (E=vf qr 1):=HF1.out h1
        have h1' : (vf qr 1 != 0)=true:=by simpa using h1
        clear HF1 HF2 HN h1 hv2
        generalize vf qr 1=r at *
        go_wp2
        go_ret
        exact ⟨by rw [E2.out];rfl,hBr2⟩
      ·have hkl:k=rounds.length:=by omega
       subst hkl
       have E2:Hid (E=vf dec 1):=by
        have:=HS2.out
        rw [if_pos (rndsF_none _ (by simpa using HA.out))] at this
        exact this
       have hdec:intK.At wr vd dec:=hPr.dec
       obtain ⟨da,dk,rfl⟩:=hdec.shape
       have hv1:=l5Votes_any da dk dec 1 wr (intK_at hdec).2 (by omega)
       clear HA HS2 hdec
       go_wp2_with fail
       refine hv1.mono ?_
       rintro e w2 ⟨rfl,hb2⟩
       replace hBr:=hBr.trans (hb2.mono hBr.size)
       generalize vf dec 1=r at *
       clear hv1 c0 c1 c2 c3 hb2 hPr
       go_wp2
       go_ret
       exact ⟨by rw [E2.out];rfl,hBr⟩
  ·have E1:Hid (E=batF (batch.map TxnQ.e)):=by
    have:=HE.out
    rw [if_neg (by simp),if_pos ⟨by simp,h1⟩] at this
    exact this
   have h1' : (batF (batch.map TxnQ.e) != 0)=true:=by simpa using h1
   clear HE h1
   generalize batF (batch.map TxnQ.e)=r at *
   go_wp2
   go_ret
   exact ⟨by rw [E1.out];rfl,hB⟩

end Go.Proofs.YtnnenkoeklabpaaGreatDoor
namespace Go.Proofs.YtnnenkoeklabpaaGreatDoor
open Go.RowKit
open Go.BigFrame
set_option maxRecDepth 100000
set_option maxHeartbeats 4000000 in
theorem formFault_any (p:InstQ) (w:World) (h:instK.rd w p) (hl:p.n≤1048576) :
  Calls Tryz.prog 25 #[.agg #[.bool p.has,p.vb,p.vr,p.vd]] w fun e w' => e=.returned (.int .i64 (shpF p.e))∧Below w.heap.size w w' := by
 obtain ⟨has,vb,batch,vr,rounds,vd,dec⟩:=p
 dsimp only [InstQ.n] at hl
 have HE:Hid (shpF (InstQ.e ⟨has,vb,batch,vr,rounds,vd,dec⟩)=if has=false∧0 < (batch.map TxnQ.e).length then 1 else
  if has=true∧batF (batch.map TxnQ.e)≠0 then batF (batch.map TxnQ.e) else
  if (rounds.map RoundQ.e).length < 1∨4 < (rounds.map RoundQ.e).length then 2 else
  if rndsF (rounds.map RoundQ.e)=0 then vf dec 1 else rndsF (rounds.map RoundQ.e)):=by
  exact (rfl:shpF _=_)
 generalize shpF (InstQ.e ⟨has,vb,batch,vr,rounds,vd,dec⟩)=E at HE ⊢
 obtain ⟨hT,hR,hD⟩:txnK.At w vb batch∧roundK.At w vr rounds∧intK.At w vd dec:=h
 obtain ⟨ba,bk,rfl⟩:=hT.shape
 obtain ⟨va,vk,rfl⟩:=hR.shape
 obtain ⟨da,dk,rfl⟩:=hD.shape
 have hv:=fun w h=>batchFault_any (.slice ba batch.length bk) (batch.map TxnQ.e) w h (by rw [List.length_map,sumA_of];omega)
 have hB:Below w.heap.size w (w.alloc (.cells #[.bool has,.slice ba batch.length bk,.slice va rounds.length vk,.slice da dec.length dk] 28)):=by go_grown
 have Bx:=Blk.new w 28 #[.bool has,.slice ba batch.length bk,.slice va rounds.length vk,.slice da dec.length dk]
 replace hT:=hT.below hB
 replace hR:=hR.below hB
 replace hD:=hD.below hB
 cases has with
 | false=>
  by_cases h0:0 < batch.length
  ·have E1:Hid (E=1):=by rw [HE.out,if_pos ⟨rfl,by simpa using h0⟩];rfl
   clear HE hv
   go_enter Tryz.func25,Tryz.ntmps25
   go_wp2
   go_ret
   exact ⟨by rw [E1.out];rfl,hB⟩
  ·have HS:Hid (E=if (rounds.map RoundQ.e).length < 1∨4 < (rounds.map RoundQ.e).length then 2 else if rndsF (rounds.map RoundQ.e)=0 then vf dec 1 else rndsF (rounds.map RoundQ.e)):=by
    have:=HE.out
    rw [if_neg (fun h=>h0 (by simpa using h.2)),if_neg (by simp)] at this
    exact this
   clear HE hv
   have h0' : ¬ (0:Int) < batch.length:=by omega
   go_enter Tryz.func25,Tryz.ntmps25
   by_cases hr1:rounds.length < 1
   ·have E2:Hid (E=2):=by rw [HS.out,if_pos (Or.inl (by simpa using hr1))];rfl
    clear HS
    go_wp2
    go_ret
    exact ⟨by rw [E2.out];rfl,hB⟩
   ·by_cases hr4:4 < rounds.length
    ·have E2:Hid (E=2):=by rw [HS.out,if_pos (Or.inr (by simpa using hr4))];rfl
     clear HS
     go_wp2
     go_ret
     exact ⟨by rw [E2.out];rfl,hB⟩
    ·have HS2:Hid (E=if rndsF (rounds.map RoundQ.e)=0 then vf dec 1 else rndsF (rounds.map RoundQ.e)):=by
      have:=HS.out
      rw [if_neg (by simp only [List.length_map];omega)] at this
      exact this
     have hr1' : ¬ (rounds.length:Int) < 1:=by omega
     have hr4' : ¬ (4:Int) < rounds.length:=by omega
     clear HS hr1 hr4
     go_wp2
     generalize (w.alloc (.cells #[.bool false,.slice ba batch.length bk,.slice va rounds.length vk,.slice da dec.length dk] 28))=W at *
     go_loopw [38] (fun j wr=>∃ k:Nat,k≤rounds.length∧j=.int .i64 k∧Hid (∀ j,j < k→vf ((rounds.map RoundQ.e).getD j rnd0).rep 1=0∧vf ((rounds.map RoundQ.e).getD j rnd0).pro 2=0)∧Below W.heap.size W wr) (fun j _=>rounds.length - (intOf j).toNat)
     case atStart=>exact ⟨0,Nat.zero_le _,rfl,fun j hj=>absurd hj (Nat.not_lt_zero _),Below.refl _ _⟩
     case round=>
      obtain ⟨k,hk,rfl,HA,hb⟩:=hrel
      have hBr:=hB.trans (hb.mono hB.size)
      by_cases hlt:k < rounds.length
      ·obtain ⟨rb,ro,rfl,hbs,hc,hrd⟩:=(hR.below hb).cell (by decide) k hlt
       have hc' : ∀ j x,(roundK.cells rounds[k])[j]? = some x→wr.cell? ⟨rb,ro + k * 2 + j,none⟩=some x:=hc
       have r0:=hc' 0 (rounds[k].vr) rfl
       have r1:=hc' 1 (rounds[k].vp) rfl
       have hnm:=nmR_le rounds k hlt
       have hfst:=rndsF_first (rounds.map RoundQ.e) k HA.out (by simpa using hlt)
       rw [rnd_at rounds k hlt] at hfst
       dsimp only [RoundQ.e] at hfst
       have HF1:Hid (vf rounds[k].rep 1≠0→E=vf rounds[k].rep 1):=fun h=>by rw [HS2.out,hfst.1 h,if_neg h]
       have HF2:Hid (vf rounds[k].rep 1=0→vf rounds[k].pro 2≠0→E=vf rounds[k].pro 2):=fun h h2=>by rw [HS2.out,hfst.2 h h2,if_neg h2]
       have HN:Hid (vf rounds[k].rep 1=0→vf rounds[k].pro 2=0→∀ j,j < k + 1→vf ((rounds.map RoundQ.e).getD j rnd0).rep 1=0∧vf ((rounds.map RoundQ.e).getD j rnd0).pro 2=0):=by
        intro h1 h2 j hj
        by_cases hjk:j=k
        ·subst hjk
         rw [rnd_at rounds j hlt]
         exact ⟨h1,h2⟩
        ·exact HA.out j (by omega)
       clear HA hfst hc hc'
       generalize rounds[k]=q at *
       obtain ⟨qv,qr,qw,qp⟩:=q
       obtain ⟨rA,rP⟩:intK.At wr qv qr∧intK.At wr qw qp:=hrd
       dsimp only at *
       obtain ⟨ra,rk,rfl⟩:=rA.shape
       obtain ⟨pa,pk,rfl⟩:=rP.shape
       have hbn:Below wr.heap.size wr (wr.alloc (.cells #[.slice ra qr.length rk,.slice pa qp.length pk] 51)):=by go_grown
       have hBn:=hb.alloc hb.size (.cells #[.slice ra qr.length rk,.slice pa qp.length pk] 51)
       have hBr:=hBr.alloc hBr.size (.cells #[.slice ra qr.length rk,.slice pa qp.length pk] 51)
       have Bx:=Blk.new wr 51 #[.slice ra qr.length rk,.slice pa qp.length pk]
       have hv1:=votesFault_any ra rk qr 1 _ (intK_at (rA.below hbn)).2 (by omega)
       have hv2:=votesFault_any pa pk qp 2 _ (intK_at (rP.below hbn)).2 (by omega)
       rw [vfa1] at hv1
       rw [vfa2] at hv2
       rw [Nat.add_zero] at r0
       clear rA rP hbn
       go_wp2_with fail
       generalize wr.alloc (.cells #[.slice ra qr.length rk,.slice pa qp.length pk] 51)=X at *
       refine hv1.mono ?_
       rintro e w2 ⟨rfl,hw⟩
       replace hw:=hw.symm
       subst hw
       clear hv1 r0 r1
       by_cases h1:vf qr 1=0
       ·have HF:Hid (vf qp 2≠0→E=vf qp 2):=HF2.out h1
        have HM:Hid (vf qp 2=0→_):=HN.out h1
        rw [h1]
        clear HF1 HF2 HN h1
        have p1:=Bx.cell 1 _ rfl
        go_wp2_with fail
        refine hv2.mono ?_
        rintro e w2 ⟨rfl,hw⟩
        replace hw:=hw.symm
        subst hw
        clear hv2 p1 Bx
        by_cases h2:vf qp 2=0
        ·have R:=HM.out h2
         have HR:Hid _:=R
         rw [h2]
         clear HF HM R h2
         go_wp2
         go_roundw
         case rel=>exact ⟨k + 1,by omega,by go_num,HR.out,hBn⟩
         case measure=>simp [intOf];omega
        ·have E2:Hid (E=vf qp 2):=HF.out h2
         have h2' : (vf qp 2 != 0)=true:=by simpa using h2
         clear HF HM h2
         generalize vf qp 2=r at *
         go_wp2
         go_ret
         exact ⟨by rw [E2.out];rfl,hBr⟩
       ·have E2:Hid (E=vf qr 1):=HF1.out h1
        have h1' : (vf qr 1 != 0)=true:=by simpa using h1
        clear HF1 HF2 HN h1 hv2
        generalize vf qr 1=r at *
        go_wp2
        go_ret
        exact ⟨by rw [E2.out];rfl,hBr⟩
      ·have hkl:k=rounds.length:=by omega
       subst hkl
       have E2:Hid (E=vf dec 1):=by
        have:=HS2.out
        rw [if_pos (rndsF_none _ (by simpa using HA.out))] at this
        exact this
       have Br:=Bx.below hb
       have c3:=Br.cell 3 _ rfl
       have hv1:=votesFault_any da dk dec 1 wr (intK_at (hD.below hb)).2 (by omega)
       rw [vfa1] at hv1
       clear HA HS2
       go_wp2_with fail
       refine hv1.mono ?_
       rintro e w2 ⟨rfl,hw⟩
       replace hw:=hw.symm
       subst hw
       generalize vf dec 1=r at *
       clear hv1 c3
       go_wp2
       go_ret
       exact ⟨by rw [E2.out];rfl,hBr⟩
 | true=>
  go_enter Tryz.func25,Tryz.ntmps25
  go_wp2_with fail
  generalize w.alloc (.cells #[.bool true,.slice ba batch.length bk,.slice va rounds.length vk,.slice da dec.length dk] 28)=W at *
  refine (hv W (txnsAt_of hT)).mono ?_
  rintro e w1 ⟨rfl,hb1⟩
  replace hR:=hR.below hb1
  replace hD:=hD.below hb1
  replace Bx:=Bx.below hb1
  replace hB:=hB.trans (hb1.mono hB.size)
  clear hv hb1 hT
  by_cases h1:batF (batch.map TxnQ.e)=0
  ·have HS:Hid (E=if (rounds.map RoundQ.e).length < 1∨4 < (rounds.map RoundQ.e).length then 2 else if rndsF (rounds.map RoundQ.e)=0 then vf dec 1 else rndsF (rounds.map RoundQ.e)):=by
    have:=HE.out
    rw [if_neg (by simp),if_neg (fun h=>h.2 h1)] at this
    exact this
   rw [h1]
   clear HE h1
   by_cases hr1:rounds.length < 1
   ·have E2:Hid (E=2):=by rw [HS.out,if_pos (Or.inl (by simpa using hr1))];rfl
    clear HS
    obtain ⟨c0,c1,c2⟩:=Bx.cel3
    go_wp2
    go_ret
    exact ⟨by rw [E2.out];rfl,hB⟩
   ·by_cases hr4:4 < rounds.length
    ·have E2:Hid (E=2):=by rw [HS.out,if_pos (Or.inr (by simpa using hr4))];rfl
     clear HS
     obtain ⟨c0,c1,c2⟩:=Bx.cel3
     go_wp2
     go_ret
     exact ⟨by rw [E2.out];rfl,hB⟩
    ·have HS2:Hid (E=if rndsF (rounds.map RoundQ.e)=0 then vf dec 1 else rndsF (rounds.map RoundQ.e)):=by
      have:=HS.out
      rw [if_neg (by simp only [List.length_map];omega)] at this
      exact this
     have hr1' : ¬ (rounds.length:Int) < 1:=by omega
     have hr4' : ¬ (4:Int) < rounds.length:=by omega
     clear HS hr1 hr4
     obtain ⟨c0,c1,c2⟩:=Bx.cel3
     go_wp2
     clear c0 c1 c2
     go_loopw [38] (fun j wr=>∃ k:Nat,k≤rounds.length∧j=.int .i64 k∧Hid (∀ j,j < k→vf ((rounds.map RoundQ.e).getD j rnd0).rep 1=0∧vf ((rounds.map RoundQ.e).getD j rnd0).pro 2=0)∧Below w1.heap.size w1 wr) (fun j _=>rounds.length - (intOf j).toNat)
     case atStart=>exact ⟨0,Nat.zero_le _,rfl,fun j hj=>absurd hj (Nat.not_lt_zero _),Below.refl _ _⟩
     case round=>
      obtain ⟨k,hk,rfl,HA,hb⟩:=hrel
      have hBr:=hB.trans (hb.mono hB.size)
      by_cases hlt:k < rounds.length
      ·obtain ⟨rb,ro,rfl,hbs,hc,hrd⟩:=(hR.below hb).cell (by decide) k hlt
       have hc' : ∀ j x,(roundK.cells rounds[k])[j]? = some x→wr.cell? ⟨rb,ro + k * 2 + j,none⟩=some x:=hc
       have r0:=hc' 0 (rounds[k].vr) rfl
       have r1:=hc' 1 (rounds[k].vp) rfl
       have hnm:=nmR_le rounds k hlt
       have hfst:=rndsF_first (rounds.map RoundQ.e) k HA.out (by simpa using hlt)
       rw [rnd_at rounds k hlt] at hfst
       dsimp only [RoundQ.e] at hfst
       have HF1:Hid (vf rounds[k].rep 1≠0→E=vf rounds[k].rep 1):=fun h=>by rw [HS2.out,hfst.1 h,if_neg h]
       have HF2:Hid (vf rounds[k].rep 1=0→vf rounds[k].pro 2≠0→E=vf rounds[k].pro 2):=fun h h2=>by rw [HS2.out,hfst.2 h h2,if_neg h2]
       have HN:Hid (vf rounds[k].rep 1=0→vf rounds[k].pro 2=0→∀ j,j < k + 1→vf ((rounds.map RoundQ.e).getD j rnd0).rep 1=0∧vf ((rounds.map RoundQ.e).getD j rnd0).pro 2=0):=by
        intro h1 h2 j hj
        by_cases hjk:j=k
        ·subst hjk
         rw [rnd_at rounds j hlt]
         exact ⟨h1,h2⟩
        ·exact HA.out j (by omega)
       clear HA hfst hc hc'
       generalize rounds[k]=q at *
       obtain ⟨qv,qr,qw,qp⟩:=q
       obtain ⟨rA,rP⟩:intK.At wr qv qr∧intK.At wr qw qp:=hrd
       dsimp only at *
       obtain ⟨ra,rk,rfl⟩:=rA.shape
       obtain ⟨pa,pk,rfl⟩:=rP.shape
       have hbn:Below wr.heap.size wr (wr.alloc (.cells #[.slice ra qr.length rk,.slice pa qp.length pk] 51)):=by go_grown
       have hBn:=hb.alloc hb.size (.cells #[.slice ra qr.length rk,.slice pa qp.length pk] 51)
       have hBr:=hBr.alloc hBr.size (.cells #[.slice ra qr.length rk,.slice pa qp.length pk] 51)
       have Bx:=Blk.new wr 51 #[.slice ra qr.length rk,.slice pa qp.length pk]
       have hv1:=votesFault_any ra rk qr 1 _ (intK_at (rA.below hbn)).2 (by omega)
       have hv2:=votesFault_any pa pk qp 2 _ (intK_at (rP.below hbn)).2 (by omega)
       rw [vfa1] at hv1
       rw [vfa2] at hv2
       rw [Nat.add_zero] at r0
       clear rA rP hbn
       go_wp2_with fail
       generalize wr.alloc (.cells #[.slice ra qr.length rk,.slice pa qp.length pk] 51)=X at *
       refine hv1.mono ?_
       rintro e w2 ⟨rfl,hw⟩
       replace hw:=hw.symm
       subst hw
       clear hv1 r0 r1
       by_cases h1:vf qr 1=0
       ·have HF:Hid (vf qp 2≠0→E=vf qp 2):=HF2.out h1
        have HM:Hid (vf qp 2=0→_):=HN.out h1
        rw [h1]
        clear HF1 HF2 HN h1
        have p1:=Bx.cell 1 _ rfl
        go_wp2_with fail
        refine hv2.mono ?_
        rintro e w2 ⟨rfl,hw⟩
        replace hw:=hw.symm
        subst hw
        clear hv2 p1 Bx
        by_cases h2:vf qp 2=0
        ·have R:=HM.out h2
         have HR:Hid _:=R
         rw [h2]
         clear HF HM R h2
         go_wp2
         go_roundw
         case rel=>exact ⟨k + 1,by omega,by go_num,HR.out,hBn⟩
         case measure=>simp [intOf];omega
        ·have E2:Hid (E=vf qp 2):=HF.out h2
         have h2' : (vf qp 2 != 0)=true:=by simpa using h2
         clear HF HM h2
         generalize vf qp 2=r at *
         go_wp2
         go_ret
         exact ⟨by rw [E2.out];rfl,hBr⟩
       ·have E2:Hid (E=vf qr 1):=HF1.out h1
        have h1' : (vf qr 1 != 0)=true:=by simpa using h1
        clear HF1 HF2 HN h1 hv2
        generalize vf qr 1=r at *
        go_wp2
        go_ret
        exact ⟨by rw [E2.out];rfl,hBr⟩
      ·have hkl:k=rounds.length:=by omega
       subst hkl
       have E2:Hid (E=vf dec 1):=by
        have:=HS2.out
        rw [if_pos (rndsF_none _ (by simpa using HA.out))] at this
        exact this
       have Br:=Bx.below hb
       have c3:=Br.cell 3 _ rfl
       have hv1:=votesFault_any da dk dec 1 wr (intK_at (hD.below hb)).2 (by omega)
       rw [vfa1] at hv1
       clear HA HS2
       go_wp2_with fail
       refine hv1.mono ?_
       rintro e w2 ⟨rfl,hw⟩
       replace hw:=hw.symm
       subst hw
       generalize vf dec 1=r at *
       clear hv1 c3
       go_wp2
       go_ret
       exact ⟨by rw [E2.out];rfl,hBr⟩
  ·have E1:Hid (E=batF (batch.map TxnQ.e)):=by
    have:=HE.out
    rw [if_neg (by simp),if_pos ⟨by simp,h1⟩] at this
    exact this
   have h1' : (batF (batch.map TxnQ.e) != 0)=true:=by simpa using h1
   clear HE h1
   generalize batF (batch.map TxnQ.e)=r at *
   go_wp2
   go_ret
   exact ⟨by rw [E1.out];rfl,hB⟩

end Go.Proofs.YtnnenkoeklabpaaGreatDoor
