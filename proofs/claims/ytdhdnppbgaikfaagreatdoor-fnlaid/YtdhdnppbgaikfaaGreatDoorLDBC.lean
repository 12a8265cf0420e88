/- Texts joined, with what the laws reach alone. -/
import Derived.Test.YtdhdnppbgaikfaaGreatDoorLDBB
set_option linter.unusedVariables false
set_option linter.unusedSimpArgs false
namespace Go.Proofs.YtdhdnppbgaikfaaGreatDoor
open Go.RowKit
open Go.BigFrame
set_option maxRecDepth 100000
def sameA (x y:ActD):Bool:=(x.kind == y.kind) && ((x.key == y.key) && (x.val == y.val))

def sameAs:List ActD→List ActD→Bool
 | [],[]=>true
 | x :: r,y :: s=>sameA x y && sameAs r s
 | _,_=>false

def sameT (x y:TxnD):Bool:=(x.id == y.id) && (x.session == y.session) && (x.seq == y.seq) && sameAs x.acts y.acts

def sameTs:List TxnD→List TxnD→Bool
 | [],[]=>true
 | x :: r,y :: s=>sameT x y && sameTs r s
 | _,_=>false

/-- A comparison of two lists, place by place. -/
theorem same_len {α:Type} {f:α→α→Bool} {g:List α→List α→Bool} (h0:g [] []=true) (h1:∀ x r y s,g (x :: r) (y :: s)=(f x y && g r s)) (h2:∀ x r,g (x :: r) []=false) (h3:∀ y s,g [] (y :: s)=false) :
  ∀ a b,a.length≠b.length→g a b=false:=by
 intro a
 induction a with
 | nil=>intro b h;cases b with | nil=>simp at h | cons y s=>exact h3 y s
 | cons x r ih=>intro b h;cases b with | nil=>exact h2 x r | cons y s=>rw [h1,ih s (by simpa using h)];simp

theorem same_bad {α:Type} {f:α→α→Bool} {g:List α→List α→Bool} (d:α) (h1:∀ x r y s,g (x :: r) (y :: s)=(f x y && g r s)) :
  ∀ a b k,a.length=b.length→k < a.length→f (a.getD k d) (b.getD k d)=false→g a b=false:=by
 intro a
 induction a with
 | nil=>intro b k _ h;simp at h
 | cons x r ih=>
  intro b k hl hk hf
  cases b with
  | nil=>simp at hl
  | cons y s=>
   rw [h1]
   cases k with
   | zero=>simp [List.getD] at hf;simp [hf]
   | succ k=>rw [ih s k (by simpa using hl) (by simpa using hk) (by simpa [List.getD] using hf)];simp

theorem same_all {α:Type} {f:α→α→Bool} {g:List α→List α→Bool} (d:α) (h0:g [] []=true) (h1:∀ x r y s,g (x :: r) (y :: s)=(f x y && g r s)) :
  ∀ a b,a.length=b.length→(∀ k,k < a.length→f (a.getD k d) (b.getD k d)=true)→g a b=true:=by
 intro a
 induction a with
 | nil=>intro b hl _;cases b with | nil=>exact h0 | cons y s=>simp at hl
 | cons x r ih=>
  intro b hl hf
  cases b with
  | nil=>simp at hl
  | cons y s=>
   rw [h1,ih s (by simpa using hl) (fun k hk=>by simpa [List.getD] using hf (k + 1) (by simpa using hk))]
   have:=hf 0 (by simp)
   simp [List.getD] at this
   simp [this]

theorem eqAct_run (x0 x1 x2 y0 y1 y2:Int) (w:World):(binOp .neq 131 (.agg #[.int .i64 x0,.int .i64 x1,.int .i64 x2]) (.agg #[.int .i64 y0,.int .i64 y1,.int .i64 y2])).run Tryz.prog w=.ok (.bool (!sameA ⟨x0,x1,x2⟩ ⟨y0,y1,y2⟩)) w:=by
 rw [run_neq_struct,run_equalIn_struct (P:=Tryz.prog) w 9999 131 _ _ (by kernel_rfl) (by kernel_rfl)]
 have c1:Tryz.prog.cellsOf 2=1:=by kernel_rfl
 cases h0:(x0 == y0) <;> cases h1:(x1 == y1) <;> cases h2:(x2 == y2) <;> simp [Program.fieldsOf,Tryz.underlying131,Op.eqFields,go_sem,Tryz.underlying2,h0,h1,h2,sameA,c1]

set_option maxRecDepth 100000 in
set_option maxHeartbeats 2000000 in
theorem equalA_any (a a' : Option Addr) (cap cap' : Nat) (xs ys:List ActD) (w:World) (h:ActRow w a xs) (h' : ActRow w a' ys) (hl:xs.length≤1048576) (hl' : ys.length≤1048576) :
  Calls Tryz.prog 94 #[.slice a xs.length cap,.slice a' ys.length cap'] w fun e w' => e=.returned (.bool (sameAs xs ys))∧Below w.heap.size w w' := by
 by_cases hlen:xs.length=ys.length
 case neg=>
  have E:sameAs xs ys=false:=same_len (f:=sameA) rfl (fun _ _ _ _=>rfl) (fun _ _=>rfl) (fun _ _=>rfl) xs ys hlen
  rw [E]
  have hd:((xs.length:Int) != (ys.length:Int))=true:=by simp;omega
  go_enter Tryz.func94,Tryz.ntmps94
  go_wp2
  go_ret
  exact ⟨rfl,Below.refl _ _⟩
 case pos=>
  have hd:((xs.length:Int) != (ys.length:Int))=false:=by simp [hlen]
  have HL:Hid (xs.length=ys.length):=hlen
  clear hlen
  go_enter Tryz.func94,Tryz.ntmps94
  go_wp2
  go_loopw [13] (fun i wr=>∃ k m:Nat,k≤xs.length∧i=.int .i64 k∧wr=w.drewN m∧Hid (∀ j,j < k→sameA (xs.getD j actNo) (ys.getD j actNo)=true)) (fun i _=>xs.length - (intOf i).toNat)
  case atStart=>exact ⟨0,0,Nat.zero_le _,rfl,rfl,fun j hj=>absurd hj (Nat.not_lt_zero _)⟩
  case round=>
   obtain ⟨k,m,hk,rfl,rfl,HA⟩:=hrel
   by_cases hlt:k < xs.length
   ·have hlt' : k < ys.length:=by have:=HL.out;omega
    obtain ⟨b,off,rfl,hbs,hc0,hc1,hc2⟩:=h.at k hlt
    obtain ⟨b',off',rfl,hbs',hd0,hd1,hd2⟩:=h'.at k hlt'
    cases hs:sameA (xs.getD k actNo) (ys.getD k actNo)
    case false=>
     have E:Hid (sameAs xs ys=false):=same_bad (f:=sameA) actNo (fun _ _ _ _=>rfl) xs ys k HL.out hlt hs
     have hr:=eqAct_run (xs.getD k actNo).kind (xs.getD k actNo).key (xs.getD k actNo).val (ys.getD k actNo).kind (ys.getD k actNo).key (ys.getD k actNo).val
     rw [show sameA ⟨(xs.getD k actNo).kind,(xs.getD k actNo).key,(xs.getD k actNo).val⟩ ⟨(ys.getD k actNo).kind,(ys.getD k actNo).key,(ys.getD k actNo).val⟩=false from hs,Bool.not_false] at hr
     clear HA hs
     generalize xs.getD k actNo=z at hc0 hc1 hc2 hr
     generalize ys.getD k actNo=z' at hd0 hd1 hd2 hr
     go_wp2
     go_quiet (fail)
     go_wp2
     go_ret
     rw [E.out]
     exact ⟨rfl,⟨rfl,rfl,rfl,Nat.le_refl _,fun _ _=>rfl⟩⟩
    case true=>
     have HB:Hid (∀ j,j < k + 1→sameA (xs.getD j actNo) (ys.getD j actNo)=true):=by
      intro j hj
      by_cases hjk:j=k
      ·subst hjk;exact hs
      ·exact HA.out j (by omega)
     have hr:=eqAct_run (xs.getD k actNo).kind (xs.getD k actNo).key (xs.getD k actNo).val (ys.getD k actNo).kind (ys.getD k actNo).key (ys.getD k actNo).val
     rw [show sameA ⟨(xs.getD k actNo).kind,(xs.getD k actNo).key,(xs.getD k actNo).val⟩ ⟨(ys.getD k actNo).kind,(ys.getD k actNo).key,(ys.getD k actNo).val⟩=true from hs,Bool.not_true] at hr
     clear HA hs
     generalize xs.getD k actNo=z at hc0 hc1 hc2 hr
     generalize ys.getD k actNo=z' at hd0 hd1 hd2 hr
     go_wp2
     go_quiet (fail)
     go_wp2
     go_roundw
     case rel=>exact ⟨k + 1,_,by omega,by go_num,rfl,HB⟩
     case measure=>simp [intOf];omega
   ·have E:Hid (sameAs xs ys=true):=same_all (f:=sameA) actNo rfl (fun _ _ _ _=>rfl) xs ys HL.out (fun j hj=>HA.out j (by omega))
    clear HA
    go_wp2
    go_ret
    rw [E.out]
    exact ⟨rfl,⟨rfl,rfl,rfl,Nat.le_refl _,fun _ _=>rfl⟩⟩

theorem sameT_ways (x y:TxnD):((x.id == y.id)=false∧sameT x y=false)∨((x.id == y.id)=true∧(x.session == y.session)=false∧sameT x y=false)∨((x.id == y.id)=true∧(x.session == y.session)=true∧(x.seq == y.seq)=false∧sameT x y=false) ∨
  ((x.id == y.id)=true∧(x.session == y.session)=true∧(x.seq == y.seq)=true∧sameT x y=sameAs x.acts y.acts):=by
 unfold sameT
 cases h1:(x.id == y.id) <;> cases h2:(x.session == y.session) <;> cases h3:(x.seq == y.seq) <;> simp

set_option maxRecDepth 100000 in
set_option maxHeartbeats 2000000 in
theorem isSameTxn_any (x y:TxnD) (a a' : Option Addr) (cap cap' : Nat) (w:World) (h:ActRow w a x.acts) (h' : ActRow w a' y.acts) (hl:x.acts.length≤1048576) (hl' : y.acts.length≤1048576) :
    Calls Tryz.prog 70 #[.agg #[.int .i64 x.id,.int .i64 x.session,.int .i64 x.seq,.slice a x.acts.length cap],.agg #[.int .i64 y.id,.int .i64 y.session,.int .i64 y.seq,.slice a' y.acts.length cap']] w fun e w' => e=.returned (.bool (sameT x y))∧Below w.heap.size w w' := by
  have hq:=fun w h h' => equalA_any a a' cap cap' x.acts y.acts w h h' hl hl'
  rcases sameT_ways x y with ⟨h1,e⟩ | ⟨h1,h2,e⟩ | ⟨h1,h2,h3,e⟩ | ⟨h1,h2,h3,e⟩ <;> rw [e] <;> clear e
  all_goals
    (generalize sameAs x.acts y.acts=r at hq
     obtain ⟨x0,x1,x2,xs⟩:=x
     obtain ⟨y0,y1,y2,ys⟩:=y
     dsimp only at *)
  all_goals
    (go_enter Tryz.func70,Tryz.ntmps70
     go_wp2_with (go_at_call 94;refine (hq _ (h.below (by go_grown)) (h'.below (by go_grown))).mono ?_;rintro e w' ⟨rfl,hb⟩)
     go_ret)
  · exact ⟨rfl,by go_grown⟩
  · exact ⟨rfl,by go_grown⟩
  · exact ⟨rfl,by go_grown⟩
  · exact ⟨rfl,below_from (by go_grown) hb⟩

end Go.Proofs.YtdhdnppbgaikfaaGreatDoor
namespace Go.Proofs.YtdhdnppbgaikfaaGreatDoor
open Go.RowKit
open Go.BigFrame
set_option maxRecDepth 100000
set_option maxRecDepth 100000 in
set_option maxHeartbeats 2000000 in
theorem equalFunc_any (v v' : Value) (xs ys:List TxnD) (w:World) (h:TxnsAt w v xs) (h' : TxnsAt w v' ys) (hl:xs.length + sumA xs≤1048576) (hl' : ys.length + sumA ys≤1048576) :
  Calls Tryz.prog 69 #[v,v',.func (.func 70) #[] #[]] w fun e w' => e=.returned (.bool (sameTs xs ys))∧Below w.heap.size w w' := by
 obtain ⟨a,cap,rfl⟩:=h.shape
 obtain ⟨a',cap',rfl⟩:=h'.shape
 by_cases hlen:xs.length=ys.length
 case neg=>
  have E:sameTs xs ys=false:=same_len (f:=sameT) rfl (fun _ _ _ _=>rfl) (fun _ _=>rfl) (fun _ _=>rfl) xs ys hlen
  rw [E]
  have hd:((xs.length:Int) != (ys.length:Int))=true:=by simp;omega
  go_enter Tryz.func69,Tryz.ntmps69
  go_wp2
  go_ret
  exact ⟨rfl,Below.refl _ _⟩
 case pos=>
  have hd:((xs.length:Int) != (ys.length:Int))=false:=by simp [hlen]
  have HL:Hid (xs.length=ys.length):=hlen
  clear hlen
  go_enter Tryz.func69,Tryz.ntmps69
  go_wp2
  go_loopw [17] (fun i wr=>∃ k:Nat,k≤xs.length∧i=.int .i64 k∧Below w.heap.size w wr∧Hid (∀ j,j < k→sameT (xs.getD j txnNo) (ys.getD j txnNo)=true)) (fun i _=>xs.length - (intOf i).toNat)
  case atStart=>exact ⟨0,Nat.zero_le _,rfl,Below.refl _ _,fun j hj=>absurd hj (Nat.not_lt_zero _)⟩
  case round=>
   obtain ⟨k,hk,rfl,hb,HA⟩:=hrel
   by_cases hlt:k < xs.length
   ·have hlt' : k < ys.length:=by have:=HL.out;omega
    obtain ⟨b,off,aa,cc,rfl,hbs,hc0,hc1,hc2,hc3,hA⟩:=(h.below hb).at k hlt
    obtain ⟨b',off',aa',cc',rfl,hbs',hd0,hd1,hd2,hd3,hA'⟩:=(h'.below hb).at k hlt'
    have hzl:(xs.getD k txnNo).acts.length≤sumA xs:=mem_le_sumA (by simp [List.getD,hlt])
    have hzl' : (ys.getD k txnNo).acts.length≤sumA ys:=mem_le_sumA (by simp [List.getD,hlt'])
    have hq:=fun w h h' => isSameTxn_any (xs.getD k txnNo) (ys.getD k txnNo) aa aa' cc cc' w h h' (by omega) (by omega)
    have hs5:=hb.size
    have hal:∀ (o:Obj) (j:Nat),(wr.alloc o).cell? ⟨b',j,none⟩=wr.cell? ⟨b',j,none⟩:=fun o j=>(show Below wr.heap.size wr (wr.alloc o) by go_grown).cell (p:=⟨b',j,none⟩) hbs'
    cases hs:sameT (xs.getD k txnNo) (ys.getD k txnNo)
    case false=>
     have E:Hid (sameTs xs ys=false):=same_bad (f:=sameT) txnNo (fun _ _ _ _=>rfl) xs ys k HL.out hlt hs
     rw [hs] at hq
     clear HA hs
     generalize xs.getD k txnNo=z at hc0 hc1 hc2 hc3 hA hq hzl
     generalize ys.getD k txnNo=z' at hd0 hd1 hd2 hd3 hA' hq hzl'
     obtain ⟨z0,z1,z2,zs⟩:=z
     obtain ⟨y0,y1,y2,us⟩:=z'
     dsimp only at hc0 hc1 hc2 hc3 hA hd0 hd1 hd2 hd3 hA' hq hzl hzl'
     go_wp2_with fail
     refine (hq _ (hA.below (by go_grown)) (hA'.below (by go_grown))).mono ?_
     rintro e w2 ⟨rfl,hb2⟩
     go_wp2
     go_ret
     rw [E.out]
     exact ⟨rfl,below_from (below_from hb (by go_grown)) hb2⟩
    case true=>
     have HB:Hid (∀ j,j < k + 1→sameT (xs.getD j txnNo) (ys.getD j txnNo)=true):=by
      intro j hj
      by_cases hjk:j=k
      ·subst hjk;exact hs
      ·exact HA.out j (by omega)
     rw [hs] at hq
     clear HA hs
     generalize xs.getD k txnNo=z at hc0 hc1 hc2 hc3 hA hq hzl
     generalize ys.getD k txnNo=z' at hd0 hd1 hd2 hd3 hA' hq hzl'
     obtain ⟨z0,z1,z2,zs⟩:=z
     obtain ⟨y0,y1,y2,us⟩:=z'
     dsimp only at hc0 hc1 hc2 hc3 hA hd0 hd1 hd2 hd3 hA' hq hzl hzl'
     go_wp2_with fail
     refine (hq _ (hA.below (by go_grown)) (hA'.below (by go_grown))).mono ?_
     rintro e w2 ⟨rfl,hb2⟩
     have hb3:=below_from (below_from hb (by go_grown)) hb2
     clear hb2 hal hc0 hc1 hc2 hc3 hd0 hd1 hd2 hd3 hA hA' hq
     go_wp2
     go_roundw
     case rel=>exact ⟨k + 1,by omega,by go_num,hb3,HB⟩
     case measure=>simp [intOf];omega
   ·have E:Hid (sameTs xs ys=true):=same_all (f:=sameT) txnNo rfl (fun _ _ _ _=>rfl) xs ys HL.out (fun j hj=>HA.out j (by omega))
    clear HA
    go_wp2
    go_ret
    rw [E.out]
    exact ⟨rfl,hb⟩

set_option maxRecDepth 100000 in
set_option maxHeartbeats 1000000 in
theorem implSameTxns_any (v v' : Value) (xs ys:List TxnD) (w:World) (h:TxnsAt w v xs) (h' : TxnsAt w v' ys) (hl:xs.length + sumA xs≤1048576) (hl' : ys.length + sumA ys≤1048576) :
  Calls Tryz.prog 31 #[v,v'] w fun e w' => e=.returned (.bool (sameTs xs ys))∧Below w.heap.size w w' := by
 have hq:=equalFunc_any v v' xs ys w h h' hl hl'
 generalize sameTs xs ys=r at hq
 go_enter Tryz.func31,Tryz.ntmps31
 go_wp2_with fail
 refine hq.mono ?_
 rintro e w2 ⟨rfl,hb⟩
 go_wp2
 go_ret
 exact ⟨rfl,hb⟩

end Go.Proofs.YtdhdnppbgaikfaaGreatDoor
namespace Go.Proofs.YtdhdnppbgaikfaaGreatDoor
open Go.RowKit
open Go.BigFrame
set_option maxRecDepth 100000
def slA' : Value→Option Addr
 | .slice a _ _=>a
 | _=>none

def slK' : Value→Nat
 | .slice _ _ k=>k
 | _=>0

def TxnQ.p' (q:TxnQ):TxnP:=⟨q.e,slA' q.va,slK' q.va⟩

theorem TxnQ.p_cells' {w:World} {q:TxnQ} (h:actK.At w q.va q.acts):q.p'.cells=txnK.cells q:=by
 obtain ⟨a,c,e⟩:=h.shape
 show [_,_,_,_]=[_,_,_,_]
 simp only [TxnP.sl,TxnQ.p',TxnQ.e,e,slA',slK']

theorem txnsAt_of' {w:World} {v:Value} {ps:List TxnQ} (h:txnK.At w v ps):TxnsAt w v (ps.map TxnQ.e):=by
 obtain ⟨a,cap,e,hL,hr⟩:=h
 refine ⟨a,cap,ps.map TxnQ.p',by rw [List.length_map];exact e,by simp only [List.map_map];rfl,?_,?_⟩
 ·have e2:txnCells (ps.map TxnQ.p')=txnK.row ps:=by
   clear hL e
   induction ps with
   | nil=>rfl
   | cons q r ih=>
    have h1:q.p'.cells=txnK.cells q:=TxnQ.p_cells' (hr q (by simp))
    have h2:=ih (fun p hp=>hr p (List.mem_cons_of_mem _ hp))
    show q.p'.cells ++ txnCells (r.map TxnQ.p')=txnK.cells q ++ txnK.row r
    rw [h1,h2]
  rw [e2]
  exact hL
 ·intro p hp
  obtain ⟨q,hq,rfl⟩:=List.mem_map.1 hp
  have h1:actK.At w q.va q.acts:=hr q hq
  obtain ⟨a',c',e',hl',_⟩:=h1
  show ActRow w (slA' q.va) q.acts
  rw [e']
  exact hl'

theorem sumA_of' (ps:List TxnQ):sumA (ps.map TxnQ.e)=nmL TxnQ.n ps:=by
 simp only [sumA,nmL,List.map_map]
 rfl

def sameZ (x y:Int):Bool:=x == y

def sameZs:List Int→List Int→Bool
 | [],[]=>true
 | x :: r,y :: s=>sameZ x y && sameZs r s
 | _,_=>false

def sameR (x y:RoundE):Bool:=sameZs x.rep y.rep && sameZs x.pro y.pro

def sameRs:List RoundE→List RoundE→Bool
 | [],[]=>true
 | x :: r,y :: s=>sameR x y && sameRs r s
 | _,_=>false

def sameI (x y:InstE):Bool:=(x.has == y.has) && sameTs x.batch y.batch && sameRs x.rounds y.rounds && sameZs x.dec y.dec

def rndNo:RoundE:=⟨[],[]⟩

theorem rnd_get (rs:List RoundQ) (r:Nat) (hr:r < rs.length):(rs.map RoundQ.e).getD r rndNo=RoundQ.e rs[r]:=by simp [List.getD,hr]

set_option maxHeartbeats 2000000 in
theorem equalZ_any (a a' : Option Addr) (cap cap' : Nat) (xs ys:List Int) (w:World) (h:Row .i64 w a xs) (h' : Row .i64 w a' ys) (hl:xs.length≤1048576) (hl' : ys.length≤1048576) :
  Calls Tryz.prog 34 #[.slice a xs.length cap,.slice a' ys.length cap'] w fun e w' => e=.returned (.bool (sameZs xs ys))∧Below w.heap.size w w' := by
 by_cases hlen:xs.length=ys.length
 case neg=>
  have E:sameZs xs ys=false:=same_len (f:=sameZ) rfl (fun _ _ _ _=>rfl) (fun _ _=>rfl) (fun _ _=>rfl) xs ys hlen
  rw [E]
  have hd:((xs.length:Int) != (ys.length:Int))=true:=by simp;omega
  go_enter Tryz.func34,Tryz.ntmps34
  go_wp2
  go_ret
  exact ⟨rfl,Below.refl _ _⟩
 case pos=>
  have hd:((xs.length:Int) != (ys.length:Int))=false:=by simp [hlen]
  have HL:Hid (xs.length=ys.length):=hlen
  clear hlen
  go_enter Tryz.func34,Tryz.ntmps34
  go_wp2
  go_loopw [13] (fun i wr=>∃ k m:Nat,k≤xs.length∧i=.int .i64 k∧wr=w.drewN m∧Hid (∀ j,j < k→sameZ (xs.getD j 0) (ys.getD j 0)=true)) (fun i _=>xs.length - (intOf i).toNat)
  case atStart=>exact ⟨0,0,Nat.zero_le _,rfl,rfl,fun j hj=>absurd hj (Nat.not_lt_zero _)⟩
  case round=>
   obtain ⟨k,m,hk,rfl,rfl,HA⟩:=hrel
   by_cases hlt:k < xs.length
   ·have hlt' : k < ys.length:=by have:=HL.out;omega
    obtain ⟨b,off,rfl,hbs,hc0⟩:=h k hlt
    obtain ⟨b',off',rfl,hbs',hd0⟩:=h' k hlt'
    cases hs:sameZ (xs.getD k 0) (ys.getD k 0)
    case false=>
     have E:Hid (sameZs xs ys=false):=same_bad (f:=sameZ) 0 (fun _ _ _ _=>rfl) xs ys k HL.out hlt hs
     have hr:(xs.getD k 0 != ys.getD k 0)=true:=by
      unfold sameZ at hs
      simpa using hs
     clear HA hs
     generalize xs.getD k 0=z at hc0 hr
     generalize ys.getD k 0=z' at hd0 hr
     go_wp2
     go_quiet (fail)
     go_wp2
     go_ret
     rw [E.out]
     exact ⟨rfl,⟨rfl,rfl,rfl,Nat.le_refl _,fun _ _=>rfl⟩⟩
    case true=>
     have HB:Hid (∀ j,j < k + 1→sameZ (xs.getD j 0) (ys.getD j 0)=true):=by
      intro j hj
      by_cases hjk:j=k
      ·subst hjk;exact hs
      ·exact HA.out j (by omega)
     have hr:(xs.getD k 0 != ys.getD k 0)=false:=by
      unfold sameZ at hs
      simpa using hs
     clear HA hs
     generalize xs.getD k 0=z at hc0 hr
     generalize ys.getD k 0=z' at hd0 hr
     go_wp2
     go_quiet (fail)
     go_wp2
     go_roundw
     case rel=>exact ⟨k + 1,_,by omega,by go_num,rfl,HB⟩
     case measure=>simp [intOf];omega
   ·have E:Hid (sameZs xs ys=true):=same_all (f:=sameZ) 0 rfl (fun _ _ _ _=>rfl) xs ys HL.out (fun j hj=>HA.out j (by omega))
    clear HA
    go_wp2
    go_ret
    rw [E.out]
    exact ⟨rfl,⟨rfl,rfl,rfl,Nat.le_refl _,fun _ _=>rfl⟩⟩

set_option maxHeartbeats 2000000 in
theorem isSameRound_any (p q:RoundQ) (w:World) (h:roundK.rd w p) (h' : roundK.rd w q) (hl:p.n≤1048576) (hl' : q.n≤1048576) :
  Calls Tryz.prog 33 #[.agg #[p.vr,p.vp],.agg #[q.vr,q.vp]] w fun e w' => e=.returned (.bool (sameR p.e q.e))∧Below w.heap.size w w' := by
 obtain ⟨pv,pr,pw,pp⟩:=p
 obtain ⟨qv,qr,qw,qp⟩:=q
 obtain ⟨h1,h2⟩:intK.At w pv pr∧intK.At w pw pp:=h
 obtain ⟨g1,g2⟩:intK.At w qv qr∧intK.At w qw qp:=h'
 dsimp only [RoundQ.n] at hl hl'
 obtain ⟨a1,k1,rfl⟩:=h1.shape
 obtain ⟨a2,k2,rfl⟩:=h2.shape
 obtain ⟨b1,m1,rfl⟩:=g1.shape
 obtain ⟨b2,m2,rfl⟩:=g2.shape
 have hB:Below w.heap.size w ((w.alloc (.cells #[.slice a1 pr.length k1,.slice a2 pp.length k2] 84)).alloc (.cells #[.slice b1 qr.length m1,.slice b2 qp.length m2] 84)):=by go_grown
 have B:=(Blk.new w 84 #[.slice a1 pr.length k1,.slice a2 pp.length k2]).below (w' := (w.alloc (.cells #[.slice a1 pr.length k1,.slice a2 pp.length k2] 84)).alloc (.cells #[.slice b1 qr.length m1,.slice b2 qp.length m2] 84)) (by go_grown)
 have C:=Blk.new (w.alloc (.cells #[.slice a1 pr.length k1,.slice a2 pp.length k2] 84)) 84 #[.slice b1 qr.length m1,.slice b2 qp.length m2]
 rw [World.size_alloc] at C
 have e1:=equalZ_any a1 b1 k1 m1 pr qr _ (intK_at (h1.below hB)).2 (intK_at (g1.below hB)).2 (by omega) (by omega)
 have e2:=fun w h h' => equalZ_any a2 b2 k2 m2 pp qp w h h' (by omega) (by omega)
 have HE:Hid (sameR (RoundQ.e ⟨.slice a1 pr.length k1,pr,.slice a2 pp.length k2,pp⟩) (RoundQ.e ⟨.slice b1 qr.length m1,qr,.slice b2 qp.length m2,qp⟩)=(sameZs pr qr && sameZs pp qp)):=(rfl:_=_)
 generalize sameR (RoundQ.e ⟨.slice a1 pr.length k1,pr,.slice a2 pp.length k2,pp⟩) (RoundQ.e ⟨.slice b1 qr.length m1,qr,.slice b2 qp.length m2,qp⟩)=E at HE ⊢
 generalize sameZs pr qr=X at *
 generalize sameZs pp qp=Y at *
 go_enter Tryz.func33,Tryz.ntmps33
 go_wp2_with fail
 generalize (w.alloc (.cells #[.slice a1 pr.length k1,.slice a2 pp.length k2] 84)).alloc (.cells #[.slice b1 qr.length m1,.slice b2 qp.length m2] 84)=W at *
 refine e1.mono ?_
 rintro e w1 ⟨rfl,hb⟩
 replace hB:=hB.trans (hb.mono hB.size)
 replace B:=B.below hb
 replace C:=C.below hb
 clear e1 hb
 cases X with
 | false=>
  have E1:Hid (E=false):=HE.out
  clear HE e2
  go_wp2
  go_ret
  exact ⟨by rw [E1.out];rfl,hB⟩
 | true=>
  have p1:=B.cell 1 _ rfl
  have q1:=C.cell 1 _ rfl
  have e3:=e2 w1 (intK_at (h2.below hB)).2 (intK_at (g2.below hB)).2
  clear e2
  go_wp2_with fail
  refine e3.mono ?_
  rintro e w2 ⟨rfl,hb⟩
  replace hB:=hB.trans (hb.mono hB.size)
  have E1:Hid (E=Y):=by rw [HE.out];exact (rfl:_=_)
  clear e3 hb HE p1 q1 B C
  go_wp2
  go_ret
  exact ⟨by rw [E1.out];rfl,hB⟩

set_option maxHeartbeats 4000000 in
theorem equalR_any (v v' : Value) (xs ys:List RoundQ) (w:World) (h:roundK.At w v xs) (h' : roundK.At w v' ys) (hl:xs.length + nmL RoundQ.n xs≤1048576) (hl' : ys.length + nmL RoundQ.n ys≤1048576) :
  Calls Tryz.prog 32 #[v,v',.func (.func 33) #[] #[]] w fun e w' => e=.returned (.bool (sameRs (xs.map RoundQ.e) (ys.map RoundQ.e)))∧Below w.heap.size w w' := by
 obtain ⟨a,cap,rfl⟩:=h.shape
 obtain ⟨a',cap',rfl⟩:=h'.shape
 by_cases hlen:xs.length=ys.length
 case neg=>
  have E:sameRs (xs.map RoundQ.e) (ys.map RoundQ.e)=false:=same_len (f:=sameR) rfl (fun _ _ _ _=>rfl) (fun _ _=>rfl) (fun _ _=>rfl) _ _ (by simpa using hlen)
  rw [E]
  have hd:((xs.length:Int) != (ys.length:Int))=true:=by simp;omega
  go_enter Tryz.func32,Tryz.ntmps32
  go_wp2
  go_ret
  exact ⟨rfl,Below.refl _ _⟩
 case pos=>
  have hd:((xs.length:Int) != (ys.length:Int))=false:=by simp [hlen]
  have HL:Hid (xs.length=ys.length):=hlen
  have HM:Hid ((xs.map RoundQ.e).length=(ys.map RoundQ.e).length):=show _=_ by simpa using hlen
  clear hlen
  generalize hE:sameRs (xs.map RoundQ.e) (ys.map RoundQ.e)=E
  have HE:Hid (sameRs (xs.map RoundQ.e) (ys.map RoundQ.e)=E):=hE
  clear hE
  go_enter Tryz.func32,Tryz.ntmps32
  go_wp2
  go_loopw [17] (fun i wr=>∃ k:Nat,k≤xs.length∧i=.int .i64 k∧Below w.heap.size w wr∧Hid (∀ j,j < k→sameR ((xs.map RoundQ.e).getD j rndNo) ((ys.map RoundQ.e).getD j rndNo)=true)) (fun i _=>xs.length - (intOf i).toNat)
  case atStart=>exact ⟨0,Nat.zero_le _,rfl,Below.refl _ _,fun j hj=>absurd hj (Nat.not_lt_zero _)⟩
  case round=>
   obtain ⟨k,hk,rfl,hb,HA⟩:=hrel
   by_cases hlt:k < xs.length
   ·have hlt' : k < ys.length:=by have:=HL.out;omega
    obtain ⟨b,off,rfl,hbs,hc,hrd⟩:=(h.below hb).cell (by decide) k hlt
    obtain ⟨b',off',rfl,hbs',hd2,hrd'⟩:=(h'.below hb).cell (by decide) k hlt'
    have hc' : ∀ j x,(roundK.cells xs[k])[j]? = some x→wr.cell? ⟨b,off + k * 2 + j,none⟩=some x:=hc
    have hd' : ∀ j x,(roundK.cells ys[k])[j]? = some x→wr.cell? ⟨b',off' + k * 2 + j,none⟩=some x:=hd2
    have c0:=hc' 0 (xs[k].vr) rfl
    have c1:=hc' 1 (xs[k].vp) rfl
    have d0:=hd' 0 (ys[k].vr) rfl
    have d1:=hd' 1 (ys[k].vp) rfl
    have n1:=nm_le RoundQ.n xs k hlt
    have n2:=nm_le RoundQ.n ys k hlt'
    have HY:Hid (sameR (RoundQ.e xs[k]) (RoundQ.e ys[k])=false→E=false):=fun hx=>by
     rw [← HE.out]
     exact same_bad (f:=sameR) rndNo (fun _ _ _ _=>rfl) _ _ k HM.out (by simpa using hlt) (by rw [rnd_get xs k hlt,rnd_get ys k hlt'];exact hx)
    have HN:Hid (sameR (RoundQ.e xs[k]) (RoundQ.e ys[k])=true→∀ j,j < k + 1→sameR ((xs.map RoundQ.e).getD j rndNo) ((ys.map RoundQ.e).getD j rndNo)=true):=fun hx j hj=>by
     by_cases hjk:j=k
     ·subst hjk
      rw [rnd_get xs j hlt,rnd_get ys j hlt']
      exact hx
     ·exact HA.out j (by omega)
    have hq0:=isSameRound_any xs[k] ys[k]
    have hq:=fun w f1 f2=>hq0 w f1 f2 (by omega) (by omega)
    clear hq0
    have hal:∀ (o:Obj) (j:Nat),(wr.alloc o).cell? ⟨b',j,none⟩=wr.cell? ⟨b',j,none⟩:=fun o j=>(show Below wr.heap.size wr (wr.alloc o) by go_grown).cell (p:=⟨b',j,none⟩) hbs'
    clear HA hc hc' hd2 hd'
    generalize xs[k]=p at *
    generalize ys[k]=q at *
    generalize sameR (RoundQ.e p) (RoundQ.e q)=X at *
    obtain ⟨pv,pr,pw,pp⟩:=p
    obtain ⟨qv,qr,qw,qp⟩:=q
    obtain ⟨a1,k1,rfl⟩:∃ a c,pv=.slice a pr.length c:=hrd.1.shape
    obtain ⟨a2,k2,rfl⟩:∃ a c,pw=.slice a pp.length c:=hrd.2.shape
    obtain ⟨b1,m1,rfl⟩:∃ a c,qv=.slice a qr.length c:=hrd'.1.shape
    obtain ⟨b2,m2,rfl⟩:∃ a c,qw=.slice a qp.length c:=hrd'.2.shape
    dsimp only at c0 c1 d0 d1 hq
    rw [Nat.add_zero] at c0 d0
    go_wp2_with fail
    refine (hq _ (roundK.rd_below hrd (by go_grown)) (roundK.rd_below hrd' (by go_grown))).mono ?_
    rintro e w2 ⟨rfl,hb2⟩
    have hb3:=below_from (below_from hb (by go_grown)) hb2
    clear hb2 hal c0 c1 d0 d1 hrd hrd' hq
    cases X with
    | false=>
     have E1:Hid (E=false):=HY.out rfl
     clear HY HN HE
     go_wp2
     go_ret
     exact ⟨by rw [E1.out];rfl,hb3⟩
    | true=>
     have R:=HN.out rfl
     have HR:Hid _:=R
     clear HY HN R
     go_wp2
     go_roundw
     case rel=>exact ⟨k + 1,by omega,by go_num,hb3,HR.out⟩
     case measure=>simp [intOf];omega
   ·have E1:Hid (E=true):=by rw [← HE.out];exact same_all (f:=sameR) rndNo rfl (fun _ _ _ _=>rfl) _ _ HM.out (fun j hj=>HA.out j (by simpa using (by simpa using hj:j < xs.length) |> fun h=>Nat.lt_of_lt_of_le h (by omega)))
    clear HA HE
    go_wp2
    go_ret
    exact ⟨by rw [E1.out];rfl,hb⟩

set_option maxHeartbeats 4000000 in
theorem implSameInst_any (p q:InstQ) (w:World) (h:instK.rd w p) (h' : instK.rd w q) (hl:p.n≤1048576) (hl' : q.n≤1048576) :
  Calls Tryz.prog 11 #[.agg #[.bool p.has,p.vb,p.vr,p.vd],.agg #[.bool q.has,q.vb,q.vr,q.vd]] w fun e w' => e=.returned (.bool (sameI p.e q.e))∧Below w.heap.size w w' := by
 obtain ⟨h1,vb,bt,vr,rs,vd,dc⟩:=p
 obtain ⟨h2,vb',bt',vr',rs',vd',dc'⟩:=q
 obtain ⟨hT,hR,hD⟩:txnK.At w vb bt∧roundK.At w vr rs∧intK.At w vd dc:=h
 obtain ⟨gT,gR,gD⟩:txnK.At w vb' bt' ∧ roundK.At w vr' rs' ∧ intK.At w vd' dc' := h'
 dsimp only [InstQ.n] at hl hl'
 obtain ⟨a1,k1,rfl⟩:=hT.shape
 obtain ⟨a2,k2,rfl⟩:=hR.shape
 obtain ⟨a3,k3,rfl⟩:=hD.shape
 obtain ⟨b1,m1,rfl⟩:=gT.shape
 obtain ⟨b2,m2,rfl⟩:=gR.shape
 obtain ⟨b3,m3,rfl⟩:=gD.shape
 have hB:Below w.heap.size w ((w.alloc (.cells #[.bool h1,.slice a1 bt.length k1,.slice a2 rs.length k2,.slice a3 dc.length k3] 28)).alloc (.cells #[.bool h2,.slice b1 bt'.length m1,.slice b2 rs'.length m2,.slice b3 dc'.length m3] 28)):=by go_grown
 have B:=(Blk.new w 28 #[.bool h1,.slice a1 bt.length k1,.slice a2 rs.length k2,.slice a3 dc.length k3]).below (w' := (w.alloc (.cells #[.bool h1,.slice a1 bt.length k1,.slice a2 rs.length k2,.slice a3 dc.length k3] 28)).alloc (.cells #[.bool h2,.slice b1 bt'.length m1,.slice b2 rs'.length m2,.slice b3 dc'.length m3] 28)) (by go_grown)
 have C:=Blk.new (w.alloc (.cells #[.bool h1,.slice a1 bt.length k1,.slice a2 rs.length k2,.slice a3 dc.length k3] 28)) 28 #[.bool h2,.slice b1 bt'.length m1,.slice b2 rs'.length m2,.slice b3 dc'.length m3]
 rw [World.size_alloc] at C
 have e1:=implSameTxns_any _ _ (bt.map TxnQ.e) (bt'.map TxnQ.e) _ (txnsAt_of' (hT.below hB)) (txnsAt_of' (gT.below hB)) (by rw [List.length_map,sumA_of'];omega) (by rw [List.length_map,sumA_of'];omega)
 have e2:=fun w h h' => equalR_any (.slice a2 rs.length k2) (.slice b2 rs'.length m2) rs rs' w h h' (by omega) (by omega)
 have e3:=fun w h h' => equalZ_any a3 b3 k3 m3 dc dc' w h h' (by omega) (by omega)
 generalize hE:sameI _ _=E
 have HE:Hid (E=((h1 == h2) && sameTs (bt.map TxnQ.e) (bt'.map TxnQ.e) && sameRs (rs.map RoundQ.e) (rs'.map RoundQ.e) && sameZs dc dc')):=hE.symm
 clear hE
 generalize sameTs (bt.map TxnQ.e) (bt'.map TxnQ.e)=X at *
 generalize sameRs (rs.map RoundQ.e) (rs'.map RoundQ.e)=Y at *
 generalize sameZs dc dc' = Z at *
 go_enter Tryz.func11,Tryz.ntmps11
 cases hh:(h1 == h2) with
 | false=>
  have E1:Hid (E=false):=by rw [HE.out,hh];rfl
  clear HE e1 e2 e3
  go_wp2
  go_ret
  exact ⟨by rw [E1.out];rfl,hB⟩
 | true=>
  rw [hh] at HE
  go_wp2_with fail
  generalize (w.alloc (.cells #[.bool h1,.slice a1 bt.length k1,.slice a2 rs.length k2,.slice a3 dc.length k3] 28)).alloc (.cells #[.bool h2,.slice b1 bt'.length m1,.slice b2 rs'.length m2,.slice b3 dc'.length m3] 28)=W at *
  refine e1.mono ?_
  rintro e w1 ⟨rfl,hb⟩
  replace hB:=hB.trans (hb.mono hB.size)
  replace B:=B.below hb
  replace C:=C.below hb
  clear e1 hb
  cases X with
  | false=>
   have E1:Hid (E=false):=by rw [HE.out];rfl
   clear HE e2 e3
   go_wp2
   go_ret
   exact ⟨by rw [E1.out];rfl,hB⟩
  | true=>
   have p2:=B.cell 2 _ rfl
   have q2:=C.cell 2 _ rfl
   have e4:=e2 w1 (hR.below hB) (gR.below hB)
   clear e2
   go_wp2_with fail
   refine e4.mono ?_
   rintro e w2 ⟨rfl,hb⟩
   replace hB:=hB.trans (hb.mono hB.size)
   replace B:=B.below hb
   replace C:=C.below hb
   clear e4 hb p2 q2
   cases Y with
   | false=>
    have E1:Hid (E=false):=by rw [HE.out];rfl
    clear HE e3
    go_wp2
    go_ret
    exact ⟨by rw [E1.out];rfl,hB⟩
   | true=>
    have p3:=B.cell 3 _ rfl
    have q3:=C.cell 3 _ rfl
    have e5:=e3 w2 (intK_at (hD.below hB)).2 (intK_at (gD.below hB)).2
    clear e3
    go_wp2_with fail
    refine e5.mono ?_
    rintro e w3 ⟨rfl,hb⟩
    replace hB:=hB.trans (hb.mono hB.size)
    have E1:Hid (E=Z):=by rw [HE.out];exact (rfl:_=_)
    clear e5 hb p3 q3 B C HE
    go_wp2
    go_ret
    exact ⟨by rw [E1.out];rfl,hB⟩

end Go.Proofs.YtdhdnppbgaikfaaGreatDoor
namespace Go.Proofs.YtdhdnppbgaikfaaGreatDoor
open Go.RowKit
open Go.BigFrame
set_option maxRecDepth 100000
def sameV (x y:VoteD):Bool:=(x.kind == y.kind) && ((x.round == y.round) && ((x.node == y.node) && (x.value == y.value)))

def sameVs:List VoteD→List VoteD→Bool
 | [],[]=>true
 | x :: r,y :: s=>sameV x y && sameVs r s
 | _,_=>false

theorem below_dN10 {B:Nat} {a w:World} (h:Below B a w) (n:Nat):Below B a (w.drewN n):=⟨h.os,h.tape,h.output,h.size,h.block⟩

theorem sameVs_refl (xs:List VoteD):sameVs xs xs=true:=by
 induction xs with
 | nil=>rfl
 | cons x r ih=>simp [sameVs,sameV,ih]

theorem eqVote_run (x0 x1 x2 x3 y0 y1 y2 y3:Int) (w:World):(binOp .neq 44 (.agg #[.int .i64 x0,.int .i64 x1,.int .i64 x2,.int .i64 x3]) (.agg #[.int .i64 y0,.int .i64 y1,.int .i64 y2,.int .i64 y3])).run Tryz.prog w=.ok (.bool (!sameV ⟨x0,x1,x2,x3⟩ ⟨y0,y1,y2,y3⟩)) w:=by
 rw [run_neq_struct,run_equalIn_struct (P:=Tryz.prog) w 9999 44 _ _ (by kernel_rfl) (by kernel_rfl)]
 have c1:Tryz.prog.cellsOf 2=1:=by kernel_rfl
 cases h0:(x0 == y0) <;> cases h1:(x1 == y1) <;> cases h2:(x2 == y2) <;> cases h3:(x3 == y3) <;> simp [Program.fieldsOf,Tryz.underlying44,Op.eqFields,go_sem,Tryz.underlying2,h0,h1,h2,h3,sameV,c1]

set_option maxHeartbeats 2000000 in
theorem equalV_any (a a' : Option Addr) (cap cap' : Nat) (xs ys:List VoteD) (w:World) (h:VoteRow w a xs) (h' : VoteRow w a' ys) (hl:xs.length≤1048576) (hl' : ys.length≤1048576) :
  Calls Tryz.prog 36 #[.slice a xs.length cap,.slice a' ys.length cap'] w fun e w' => e=.returned (.bool (sameVs xs ys))∧Below w.heap.size w w' := by
 by_cases hlen:xs.length=ys.length
 case neg=>
  have E:sameVs xs ys=false:=same_len (f:=sameV) rfl (fun _ _ _ _=>rfl) (fun _ _=>rfl) (fun _ _=>rfl) xs ys hlen
  rw [E]
  have hd:((xs.length:Int) != (ys.length:Int))=true:=by simp;omega
  go_enter Tryz.func36,Tryz.ntmps36
  go_wp2
  go_ret
  exact ⟨rfl,Below.refl _ _⟩
 case pos=>
  have hd:((xs.length:Int) != (ys.length:Int))=false:=by simp [hlen]
  have HL:Hid (xs.length=ys.length):=hlen
  clear hlen
  go_enter Tryz.func36,Tryz.ntmps36
  go_wp2
  go_loopw [13] (fun i wr=>∃ k m:Nat,k≤xs.length∧i=.int .i64 k∧wr=w.drewN m∧Hid (∀ j,j < k→sameV (xs.getD j voteNo) (ys.getD j voteNo)=true)) (fun i _=>xs.length - (intOf i).toNat)
  case atStart=>exact ⟨0,0,Nat.zero_le _,rfl,rfl,fun j hj=>absurd hj (Nat.not_lt_zero _)⟩
  case round=>
   obtain ⟨k,m,hk,rfl,rfl,HA⟩:=hrel
   by_cases hlt:k < xs.length
   ·have hlt' : k < ys.length:=by have:=HL.out;omega
    obtain ⟨b,off,rfl,hbs,hc0,hc1,hc2,hc3⟩:=h.at k hlt
    obtain ⟨b',off',rfl,hbs',hd0,hd1,hd2,hd3⟩:=h'.at k hlt'
    cases hs:sameV (xs.getD k voteNo) (ys.getD k voteNo)
    case false=>
     have E:Hid (sameVs xs ys=false):=same_bad (f:=sameV) voteNo (fun _ _ _ _=>rfl) xs ys k HL.out hlt hs
     have hr:=eqVote_run (xs.getD k voteNo).kind (xs.getD k voteNo).round (xs.getD k voteNo).node (xs.getD k voteNo).value (ys.getD k voteNo).kind (ys.getD k voteNo).round (ys.getD k voteNo).node (ys.getD k voteNo).value
     rw [show sameV ⟨(xs.getD k voteNo).kind,(xs.getD k voteNo).round,(xs.getD k voteNo).node,(xs.getD k voteNo).value⟩ ⟨(ys.getD k voteNo).kind,(ys.getD k voteNo).round,(ys.getD k voteNo).node,(ys.getD k voteNo).value⟩=false from hs,Bool.not_false] at hr
     clear HA hs
     generalize xs.getD k voteNo=z at hc0 hc1 hc2 hc3 hr
     generalize ys.getD k voteNo=z' at hd0 hd1 hd2 hd3 hr
     go_wp2
     go_quiet (fail)
     go_wp2
     go_ret
     rw [E.out]
     exact ⟨rfl,below_dN10 (below_dN10 (Below.refl _ _) _) _⟩
    case true=>
     have HB:Hid (∀ j,j < k + 1→sameV (xs.getD j voteNo) (ys.getD j voteNo)=true):=by
      intro j hj
      by_cases hjk:j=k
      ·subst hjk;exact hs
      ·exact HA.out j (by omega)
     have hr:=eqVote_run (xs.getD k voteNo).kind (xs.getD k voteNo).round (xs.getD k voteNo).node (xs.getD k voteNo).value (ys.getD k voteNo).kind (ys.getD k voteNo).round (ys.getD k voteNo).node (ys.getD k voteNo).value
     rw [show sameV ⟨(xs.getD k voteNo).kind,(xs.getD k voteNo).round,(xs.getD k voteNo).node,(xs.getD k voteNo).value⟩ ⟨(ys.getD k voteNo).kind,(ys.getD k voteNo).round,(ys.getD k voteNo).node,(ys.getD k voteNo).value⟩=true from hs,Bool.not_true] at hr
     clear HA hs
     generalize xs.getD k voteNo=z at hc0 hc1 hc2 hc3 hr
     generalize ys.getD k voteNo=z' at hd0 hd1 hd2 hd3 hr
     go_wp2
     go_quiet (fail)
     go_wp2
     go_roundw
     case rel=>exact ⟨k + 1,_,by omega,by go_num,rfl,HB⟩
     case measure=>simp [intOf];omega
   ·have E:Hid (sameVs xs ys=true):=same_all (f:=sameV) voteNo rfl (fun _ _ _ _=>rfl) xs ys HL.out (fun j hj=>HA.out j (by omega))
    clear HA
    go_wp2
    go_ret
    rw [E.out]
    exact ⟨rfl,below_dN10 (Below.refl _ _) _⟩

set_option maxHeartbeats 1000000 in
theorem implSameVotes_any (a a' : Option Addr) (cap cap' : Nat) (xs ys:List VoteD) (w:World) (h:VoteRow w a xs) (h' : VoteRow w a' ys) (hl:xs.length≤1048576) (hl' : ys.length≤1048576) :
  Calls Tryz.prog 14 #[.slice a xs.length cap,.slice a' ys.length cap'] w fun e w' => e=.returned (.bool (sameVs xs ys))∧Below w.heap.size w w' := by
 have hq:=fun w h h' => equalV_any a a' cap cap' xs ys w h h' hl hl'
 generalize sameVs xs ys=r at hq
 go_enter Tryz.func14,Tryz.ntmps14
 go_wp2_with fail
 refine (hq _ h h').mono ?_
 rintro e w' ⟨rfl,hb⟩
 go_wp2
 go_ret
 exact ⟨rfl,hb⟩

end Go.Proofs.YtdhdnppbgaikfaaGreatDoor
namespace Go.Proofs.YtdhdnppbgaikfaaGreatDoor
open Go.RowKit
set_option maxRecDepth 100000
section
variable {P:Program} {ops:Array Oper} {Q:Exit→Act→World→Prop} {S:World→Prop}
def CutQ (a:Act) (lo n:Nat) (v:Value) (R:World→Prop) (e:Exit) (a' : Act) (w' : World):Prop:=
 e=.normal∧a'.defers=a.defers∧a'.tmps.toList.take lo=a.tmps.toList.take lo∧a'.tmps.toList.drop (lo + n)=v :: a.tmps.toList.drop (lo + n + 1)∧lo + n≤a'.tmps.toList.length∧R w'

theorem CutQ.mk {a:Act} {lo n:Nat} {v:Value} {R:World→Prop} {a' : Act} {w' : World} (h1:a'.defers=a.defers) (h2:a'.tmps.toList.take lo=a.tmps.toList.take lo) (h3:a'.tmps.toList.drop (lo + n)=v :: a.tmps.toList.drop (lo + n + 1)) (h4:lo + n≤a'.tmps.toList.length) (h5:R w'):CutQ a lo n v R .normal a' w' := ⟨rfl,h1,h2,h3,h4,h5⟩

theorem region_cut {id:Nat} {a:Act} {w:World} (lo n:Nat) (v:Value) (R:World→Prop)
  (hreg:(Code.region id ops true).wp P (CutQ a lo n v R) a w)
  (himp:∀ mid w',mid.length=n→R w' → Q .normal { a with tmps:=(a.tmps.toList.take lo ++ (mid ++ v :: a.tmps.toList.drop (lo + n + 1))).toArray } w'):(Code.region id ops true).wp P Q a w:=by
 refine Code.wp_mono ?_ hreg
 rintro e a' w' ⟨rfl,h1,h2,h3,h4,h5⟩
 have key:=himp ((a'.tmps.toList.drop lo).take n) w' (by rw [List.length_take,List.length_drop];omega) h5
 have e1:a.tmps.toList.take lo ++ ((a'.tmps.toList.drop lo).take n ++ v :: a.tmps.toList.drop (lo + n + 1))=a'.tmps.toList:=by
  rw [← h2,← h3,← List.drop_drop,List.take_append_drop,List.take_append_drop]
 rw [e1] at key
 have e2:({ a with tmps:=a'.tmps.toList.toArray }:Act)=a' := by
  cases a'
  simp only at h1
  simp [h1]
 rw [e2] at key
 exact key

end
end Go.Proofs.YtdhdnppbgaikfaaGreatDoor
