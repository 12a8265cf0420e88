/- Texts joined, with what the laws reach alone. -/
import Derived.Test.YtfdkcbafpiojkaaGreatDoorSGAC
set_option linter.unusedVariables false
set_option linter.unusedSimpArgs false
namespace Go.Proofs.YtfdkcbafpiojkaaGreatDoor
open Go.RowKit
open Go.BigFrame
set_option maxRecDepth 100000
theorem idsC_few {ds:List TxnD} (h:idsC ds=0):ds.length≤60:=by
 unfold idsC at h
 split at h
 ·simp at h
 ·omega

end Go.Proofs.YtfdkcbafpiojkaaGreatDoor
namespace Go.Proofs.YtfdkcbafpiojkaaGreatDoor
open Go.RowKit
open Go.BigFrame
set_option maxRecDepth 100000
def stF (a b:TxnD):Bool:=(a.id == b.id) || ((a.session == b.session) && (a.seq == b.seq))

def knw (acc:List TxnD) (t:TxnD):Bool:=acc.any (fun a=>stF a t)

def txnNo' : TxnD:=⟨0,0,0,[]⟩

theorem txn_get (xs:List TxnQ) (k:Nat) (hk:k < xs.length):(xs.map TxnQ.e).getD k txnNo' = TxnQ.e xs[k]:=by simp [List.getD,hk]

theorem knw_yes {acc:List TxnD} {t:TxnD} (k:Nat) (hk:k < acc.length) (h:stF (acc.getD k txnNo') t=true):knw acc t=true:=by
 unfold knw
 rw [List.any_eq_true]
 exact ⟨acc[k],List.getElem_mem hk,by simpa [List.getD,hk] using h⟩

theorem knw_no {acc:List TxnD} {t:TxnD} (h:∀ j,j < acc.length→stF (acc.getD j txnNo') t=false):knw acc t=false:=by
 cases hc:knw acc t with
 | false=>rfl
 | true=>
  unfold knw at hc
  rw [List.any_eq_true] at hc
  obtain ⟨x,hx,hs⟩:=hc
  obtain ⟨j,hj,rfl⟩:=List.getElem_of_mem hx
  have:=h j hj
  have e:acc.getD j txnNo' = acc[j]:=by simp [List.getD,hj]
  rw [e,hs] at this
  exact absurd this (by decide)

set_option maxHeartbeats 4000000 in
theorem l7Known_any (v:Value) (acc:List TxnQ) (b o:Nat) (x:TxnD) (va:Value) (w:World) (h:txnK.At w v acc) (hB:Box4 w b o (.int .i64 x.id) (.int .i64 x.session) (.int .i64 x.seq) va) (hl:acc.length≤1048576) :
  Calls Tryz.prog 129 #[v,.pointer (some ⟨b,o,none⟩)] w fun e w' => e=.returned (.bool (knw (acc.map TxnQ.e) x))∧Below w.heap.size w w' := by
 obtain ⟨a,cap,rfl⟩:=h.shape
 obtain ⟨d0,d1,d2,d3⟩:=hB
 generalize hE:knw (acc.map TxnQ.e) x=E
 have HE:Hid (knw (acc.map TxnQ.e) x=E):=hE
 clear hE
 obtain ⟨xi,xs,xq,xa⟩:=x
 dsimp only at d0 d1 d2 d3
 go_enter Tryz.func129,Tryz.ntmps129
 go_wp2
 go_loopw [5] (fun j wr=>∃ k m:Nat,k≤acc.length∧j=.int .i64 k∧wr=w.drewN m∧Hid (∀ j,j < k→stF ((acc.map TxnQ.e).getD j txnNo') ⟨xi,xs,xq,xa⟩=false)) (fun j _=>acc.length - (intOf j).toNat)
 case atStart=>exact ⟨0,0,Nat.zero_le _,rfl,rfl,fun j hj=>absurd hj (Nat.not_lt_zero _)⟩
 case round=>
  obtain ⟨k,m,hk,rfl,rfl,HA⟩:=hrel
  by_cases hlt:k < acc.length
  ·obtain ⟨b',off,rfl,hbs,hc,hrd⟩:=h.cell (by decide) k hlt
   have hc' : ∀ j x,(txnK.cells acc[k])[j]? = some x→w.cell? ⟨b',off + k * 4 + j,none⟩=some x:=hc
   have c0:=hc' 0 (.int .i64 acc[k].i) rfl
   have c1:=hc' 1 (.int .i64 acc[k].s) rfl
   have c2:=hc' 2 (.int .i64 acc[k].q) rfl
   rw [Nat.add_zero] at c0
   have HY:Hid (stF (TxnQ.e acc[k]) ⟨xi,xs,xq,xa⟩=true→E=true):=fun hx=>by rw [← HE.out];exact knw_yes k (by simpa using hlt) (by rw [txn_get acc k hlt];exact hx)
   have HN:Hid (stF (TxnQ.e acc[k]) ⟨xi,xs,xq,xa⟩=false→∀ j,j < k + 1→stF ((acc.map TxnQ.e).getD j txnNo') ⟨xi,xs,xq,xa⟩=false):=fun hx j hj=>by
    by_cases hjm:j=k
    ·subst hjm
     rw [txn_get acc j hlt]
     exact hx
    ·exact HA.out j (by omega)
   clear HA hc hc' hrd
   generalize acc[k]=p at *
   obtain ⟨i,s,q,va',acts⟩:=p
   dsimp only [TxnQ.e,stF] at c0 c1 c2 HY HN
   have hlti:(k:Int) < (acc.length:Int):=by omega
   cases h1:(i == xi)
   ·cases h2:(s == xs)
    ·have HR:=HN.out (by rw [h1,h2];rfl)
     have HR' : Hid _:=HR
     clear HY HN HR
     go_wp2
     go_quiet (fail)
     go_wp2
     go_roundw
     case rel=>exact ⟨k + 1,_,by omega,by go_num,rfl,HR'.out⟩
     case measure=>simp [intOf];omega
    ·cases h3:(q == xq)
     ·have HR:=HN.out (by rw [h1,h2,h3];rfl)
      have HR' : Hid _:=HR
      clear HY HN HR
      go_wp2
      go_quiet (fail)
      go_wp2
      go_roundw
      case rel=>exact ⟨k + 1,_,by omega,by go_num,rfl,HR'.out⟩
      case measure=>simp [intOf];omega
     ·have E1:Hid (E=true):=HY.out (by rw [h1,h2,h3];rfl)
      clear HY HN
      go_wp2
      go_quiet (fail)
      go_wp2
      go_ret
      rw [E1.out]
      exact ⟨rfl,⟨rfl,rfl,rfl,Nat.le_refl _,fun _ _=>rfl⟩⟩
   ·have E1:Hid (E=true):=HY.out (by rw [h1];rfl)
    clear HY HN
    go_wp2
    go_quiet (fail)
    go_wp2
    go_ret
    rw [E1.out]
    exact ⟨rfl,⟨rfl,rfl,rfl,Nat.le_refl _,fun _ _=>rfl⟩⟩
  ·have E1:Hid (E=false):=by rw [← HE.out];exact knw_no (fun j hj=>HA.out j (by simp at hj;omega))
   have hlti:¬ (k:Int) < (acc.length:Int):=by omega
   clear HA HE
   go_wp2
   go_ret
   rw [E1.out]
   exact ⟨rfl,⟨rfl,rfl,rfl,Nat.le_refl _,fun _ _=>rfl⟩⟩

end Go.Proofs.YtfdkcbafpiojkaaGreatDoor
namespace Go.Proofs.YtfdkcbafpiojkaaGreatDoor
open Go.RowKit
open Go.BigFrame
set_option maxRecDepth 100000
set_option maxHeartbeats 1000000 in
theorem isStandingFor_any (i s q:Int) (a:Option Addr) (n c:Nat) (i' s' q' : Int) (a' : Option Addr) (n' c' : Nat) (xs ys:List ActD) (w:World) :
  Calls Tryz.prog 177 #[.agg #[.int .i64 i,.int .i64 s,.int .i64 q,.slice a n c],.agg #[.int .i64 i',.int .i64 s',.int .i64 q',.slice a' n' c']] w fun e w' => e=.returned (.bool (stF ⟨i,s,q,xs⟩ ⟨i',s',q',ys⟩))∧Below w.heap.size w w' := by
 unfold stF
 dsimp only
 cases h1:(i == i')
 ·cases h2:(s == s')
  ·go_enter Tryz.func177,Tryz.ntmps177
   go_wp2
   go_ret
   exact ⟨rfl,by go_grown⟩
  ·cases h3:(q == q')
   ·go_enter Tryz.func177,Tryz.ntmps177
    go_wp2
    go_ret
    exact ⟨rfl,by go_grown⟩
   ·go_enter Tryz.func177,Tryz.ntmps177
    go_wp2
    go_ret
    exact ⟨rfl,by go_grown⟩
 ·go_enter Tryz.func177,Tryz.ntmps177
  go_wp2
  go_ret
  exact ⟨rfl,by go_grown⟩

set_option maxHeartbeats 1000000 in
theorem hasOne_any (i s q:Int) (a:Option Addr) (n c:Nat) (xs:List ActD) (x:TxnD) (bx:Nat) (a' : Option Addr) (n' c' : Nat) (w:World) (hX:Blk w bx 49 #[.int .i64 x.id,.int .i64 x.session,.int .i64 x.seq,.slice a' n' c']) :
  Calls Tryz.prog 176 #[.agg #[.int .i64 i,.int .i64 s,.int .i64 q,.slice a n c],.pointer (some ⟨bx,0,none⟩)] w fun e w' => e=.returned (.bool (stF ⟨i,s,q,xs⟩ x))∧Below w.heap.size w w' := by
 obtain ⟨xi,xs',xq,xa⟩:=x
 have hB:Below w.heap.size w (w.alloc (.cells #[.int .i64 i,.int .i64 s,.int .i64 q,.slice a n c] 49)):=by go_grown
 have hX' := hX.below hB
 have hq:=fun w=>isStandingFor_any i s q a n c xi xs' xq a' n' c' xs xa w
 have x0:=hX'.cell 0 _ rfl
 have x1:=hX'.cell 1 _ rfl
 have x2:=hX'.cell 2 _ rfl
 have x3:=hX'.cell 3 _ rfl
 generalize stF ⟨i,s,q,xs⟩ ⟨xi,xs',xq,xa⟩=E at *
 go_enter Tryz.func176,Tryz.ntmps176
 go_wp2_with fail
 refine (hq _).mono ?_
 rintro e w2 ⟨rfl,hb2⟩
 replace hB:=hB.trans (hb2.mono hB.size)
 go_wp2
 go_ret
 exact ⟨rfl,hB⟩

set_option maxHeartbeats 2000000 in
theorem indexFuncT_any (v:Value) (ps:List TxnQ) (x:TxnD) (bx:Nat) (a' : Option Addr) (n' c' : Nat) (w:World) (h:txnK.At w v ps) (hX:Blk w bx 49 #[.int .i64 x.id,.int .i64 x.session,.int .i64 x.seq,.slice a' n' c']) (hl:ps.length≤1048576) :
  Calls Tryz.prog 179 #[v,.func (.func 176) #[] #[.pointer (some ⟨bx,0,none⟩)]] w fun e w' => ∃ r:Int,e=.returned (.int .i64 r)∧(knw (ps.map TxnQ.e) x=true→0≤r)∧(knw (ps.map TxnQ.e) x=false→r < 0)∧Below w.heap.size w w' := by
 obtain ⟨a,cap,rfl⟩:=h.shape
 generalize hE:knw (ps.map TxnQ.e) x=E
 have HE:Hid (knw (ps.map TxnQ.e) x=E):=hE
 clear hE
 go_enter Tryz.func179,Tryz.ntmps179
 go_wp2
 go_loopw [8] (fun j wr=>∃ k:Nat,k≤ps.length∧j=.int .i64 k∧Below w.heap.size w wr∧Hid (∀ j,j < k→stF ((ps.map TxnQ.e).getD j txnNo') x=false)) (fun j _=>ps.length - (intOf j).toNat)
 case atStart=>exact ⟨0,Nat.zero_le _,rfl,Below.refl _ _,fun j hj=>absurd hj (Nat.not_lt_zero _)⟩
 case round=>
  obtain ⟨k,hk,rfl,hb,HA⟩:=hrel
  by_cases hlt:k < ps.length
  ·obtain ⟨b',off,rfl,hbs,hc,hrd⟩:=(h.below hb).cell (by decide) k hlt
   have hc' : ∀ j x,(txnK.cells ps[k])[j]? = some x→wr.cell? ⟨b',off + k * 4 + j,none⟩=some x:=hc
   have c0:=hc' 0 (.int .i64 ps[k].i) rfl
   have c1:=hc' 1 (.int .i64 ps[k].s) rfl
   have c2:=hc' 2 (.int .i64 ps[k].q) rfl
   have c3:=hc' 3 (ps[k].va) rfl
   rw [Nat.add_zero] at c0
   have HY:Hid (stF (TxnQ.e ps[k]) x=true→E=true):=fun hx=>by rw [← HE.out];exact knw_yes k (by simpa using hlt) (by rw [txn_get ps k hlt];exact hx)
   have HN:Hid (stF (TxnQ.e ps[k]) x=false→∀ j,j < k + 1→stF ((ps.map TxnQ.e).getD j txnNo') x=false):=fun hx j hj=>by
    by_cases hjm:j=k
    ·subst hjm
     rw [txn_get ps j hlt]
     exact hx
    ·exact HA.out j (by omega)
   clear HA hc hc'
   generalize ps[k]=p at *
   obtain ⟨i,s,q,va',acts⟩:=p
   replace hrd:actK.At wr va' acts:=hrd
   obtain ⟨aa,ac,rfl⟩:=hrd.shape
   dsimp only [TxnQ.e] at c0 c1 c2 c3 HY HN
   have hq:=hasOne_any i s q aa acts.length ac acts x bx a' n' c' wr (hX.below hb)
   generalize stF ⟨i,s,q,acts⟩ x=S at *
   have hlti:(k:Int) < (ps.length:Int):=by omega
   go_wp2_with fail
   refine hq.mono ?_
   rintro e w2 ⟨rfl,hb2⟩
   replace hb:=hb.trans (hb2.mono hb.size)
   clear hq c0 c1 c2 c3 hb2 hrd hbs
   cases S with
   | true=>
    have E1:Hid (E=true):=HY.out rfl
    clear HY HN
    go_wp2
    go_ret
    refine ⟨_,rfl,fun _=>by omega,fun h0=>?_,hb⟩
    rw [E1.out] at h0
    exact absurd h0 (by decide)
   | false=>
    have HR' : Hid _:=HN.out rfl
    clear HY HN
    go_wp2
    go_roundw
    case rel=>exact ⟨k + 1,by omega,by go_num,hb,HR'.out⟩
    case measure=>simp [intOf];omega
  ·have E1:Hid (E=false):=by rw [← HE.out];exact knw_no (fun j hj=>HA.out j (by simp at hj;omega))
   have hlti:¬ (k:Int) < (ps.length:Int):=by omega
   clear HA HE
   go_wp2
   go_ret
   refine ⟨_,rfl,fun h0=>?_,fun _=>by omega,hb⟩
   rw [E1.out] at h0
   exact absurd h0 (by decide)

set_option maxHeartbeats 1000000 in
theorem containsFuncT_any (v:Value) (ps:List TxnQ) (x:TxnD) (bx:Nat) (a' : Option Addr) (n' c' : Nat) (w:World) (h:txnK.At w v ps) (hX:Blk w bx 49 #[.int .i64 x.id,.int .i64 x.session,.int .i64 x.seq,.slice a' n' c']) (hl:ps.length≤1048576) :
  Calls Tryz.prog 139 #[v,.func (.func 176) #[] #[.pointer (some ⟨bx,0,none⟩)]] w fun e w' => e=.returned (.bool (knw (ps.map TxnQ.e) x))∧Below w.heap.size w w' := by
 have hq:=indexFuncT_any v ps x bx a' n' c' w h hX hl
 obtain ⟨a,cap,rfl⟩:=h.shape
 generalize knw (ps.map TxnQ.e) x=E at *
 go_enter Tryz.func139,Tryz.ntmps139
 go_wp2_with fail
 refine hq.mono ?_
 rintro e w2 ⟨r,rfl,h1,h2,hb⟩
 cases E with
 | true=>
  have h0:0≤r:=h1 rfl
  clear h1 h2
  go_wp2
  go_ret
  exact ⟨by simp [h0],hb⟩
 | false=>
  have h0:¬ 0≤r:=by have:=h2 rfl;omega
  clear h1 h2
  go_wp2
  go_ret
  exact ⟨by simp [h0],hb⟩

set_option maxHeartbeats 1000000 in
theorem implHasTxn_any (v:Value) (ps:List TxnQ) (x:TxnD) (a' : Option Addr) (n' c' : Nat) (w:World) (h:txnK.At w v ps) (hl:ps.length≤1048576) :
  Calls Tryz.prog 134 #[v,.agg #[.int .i64 x.id,.int .i64 x.session,.int .i64 x.seq,.slice a' n' c']] w fun e w' => e=.returned (.bool (knw (ps.map TxnQ.e) x))∧Below w.heap.size w w' := by
 have hB:Below w.heap.size w (w.alloc (.cells #[.int .i64 x.id,.int .i64 x.session,.int .i64 x.seq,.slice a' n' c'] 49)):=by go_grown
 have hq:=containsFuncT_any v ps x w.heap.size a' n' c' _ (h.below hB) (Blk.new w 49 #[.int .i64 x.id,.int .i64 x.session,.int .i64 x.seq,.slice a' n' c']) hl
 have hmf:∀ (fn:Fn) (first cap:Array Value) (w:World),(Instr.makeFunc fn first cap).run Tryz.prog w=.ok (.func fn first cap) w:=fun _ _ _ _=>rfl
 obtain ⟨a,cap,rfl⟩:=h.shape
 generalize knw (ps.map TxnQ.e) x=E at *
 obtain ⟨xi,xs,xq,xa⟩:=x
 dsimp only at hB hq ⊢
 go_enter Tryz.func134,Tryz.ntmps134
 go_wp2_with fail
 refine hq.mono ?_
 rintro e w2 ⟨rfl,hb2⟩
 replace hB:=hB.trans (hb2.mono hB.size)
 clear hmf
 go_wp2
 go_ret
 exact ⟨rfl,hB⟩

end Go.Proofs.YtfdkcbafpiojkaaGreatDoor
namespace Go.Proofs.YtfdkcbafpiojkaaGreatDoor
open Go.RowKit
open Go.BigFrame
set_option maxRecDepth 100000
/-- The fault of the next one. -/
def stpF (acc:List TxnD) (t:TxnD):Int:=if t.F=0 then (if knw acc t then 6 else 0) else t.F

def lstGo:List TxnD→List TxnD→Int
 | _,[]=>0
 | acc,t :: r=>if stpF acc t=0 then lstGo (acc ++ [t]) r else stpF acc t

/-- The fault of a list. -/
def lstF (ds:List TxnD):Int:=if 40 < ds.length then 2 else lstGo [] ds

def lssF:List (List TxnD)→Int
 | []=>0
 | d :: r=>if lstF d=0 then lssF r else lstF d

theorem lstGo_at (ds:List TxnD) (k:Nat) (hk:k < ds.length):lstGo (ds.take k) (ds.drop k)=if stpF (ds.take k) ds[k]=0 then lstGo (ds.take (k + 1)) (ds.drop (k + 1)) else stpF (ds.take k) ds[k]:=by
 conv=>lhs;rw [List.drop_eq_getElem_cons hk]
 rw [lstGo,List.take_succ_eq_append_getElem hk]

theorem lstGo_end (ds:List TxnD) (k:Nat) (hk:ds.length≤k):lstGo (ds.take k) (ds.drop k)=0:=by
 rw [List.drop_of_length_le hk]
 rfl

theorem lssF_at (ls:List (List TxnD)) (k:Nat) (hk:k < ls.length):lssF (ls.drop k)=if lstF ls[k]=0 then lssF (ls.drop (k + 1)) else lstF ls[k]:=by
 rw [List.drop_eq_getElem_cons hk,lssF]

theorem Kind.At.rdm {P:Type} {K:Kind P} {w:World} {v:Value} {ps:List P} {p:P} (h:K.At w v ps) (hp:p∈ps):K.rd w p:=by
 obtain ⟨a,c,e,hl,hr⟩:=h
 exact hr p hp

theorem Blk.setOne {w:World} {b:Nat} {t:TypeId} {x y:Value} (h:Blk w b t #[x]):Blk (w.setCell ⟨b,0,none⟩ y) b t #[y]:=by
 have h1:w.heap[b]? = some (.cells #[x] t (0,0)):=h
 show (w.setCell ⟨b,0,none⟩ y).heap[b]? = some (.cells #[y] t (0,0))
 simp [World.setCell,Array.getElem?_modify,h1]

set_option maxRecDepth 100000 in
set_option maxHeartbeats 2000000 in
theorem faultStep_any (p:TxnQ) (qs:List TxnQ) (bx:Nat) (va:Value) (w:World) (hT:actK.At w p.va p.acts) (hl:p.acts.length≤1048576) (hv:Blk w bx 28 #[va]) (ho:w.ownsRow (bx + 1) 49 4 va qs.length (txnK.row qs)) (hrd:∀ q∈qs,txnK.rd w q) (hq:qs.length≤40) :
  Calls Tryz.prog 199 #[.agg #[.int .i64 p.i,.int .i64 p.s,.int .i64 p.q,p.va],.pointer (some ⟨bx,0,none⟩)] w fun e w' => e=.returned (.int .i64 (stpF (qs.map TxnQ.e) (TxnQ.e p)))∧Below bx w w' ∧ (stpF (qs.map TxnQ.e) (TxnQ.e p)=0→∃ va',Blk w' bx 28 #[va']∧w'.ownsRow (bx + 1) 49 4 va' (qs ++ [p]).length (txnK.row (qs ++ [p]))):=by
 obtain ⟨i,s,q,pv,acts⟩:=p
 dsimp only at hT hl
 obtain ⟨aa,ac,rfl⟩:=hT.shape
 obtain ⟨sa,sc,rfl⟩:=own_shape ho
 obtain ⟨i0,hi,hz0,hz1,hz2⟩:=info_parts infoTxn
 have hbx:=hv.lt
 have hB:Below w.heap.size w (w.alloc (.cells #[.int .i64 i,.int .i64 s,.int .i64 q,.slice aa acts.length ac] 49)):=by go_grown
 have hX:=Blk.new w 49 #[.int .i64 i,.int .i64 s,.int .i64 q,.slice aa acts.length ac]
 have hfa:=txnFault_any i s q aa ac acts _ ((actK_at hT).2.below hB) hl
 replace hv:=hv.below hB
 replace ho:=own_below ho hB
 have hat:txnK.At (w.alloc (.cells #[.int .i64 i,.int .i64 s,.int .i64 q,.slice aa acts.length ac] 49)) (.slice sa qs.length sc) qs:=Kind.at_of_row ho (fun q hq=>txnK.rd_below (hrd q hq) hB)
 have HS:Hid (stpF (qs.map TxnQ.e) ⟨i,s,q,acts⟩=if txnF i s q acts=0 then (if knw (qs.map TxnQ.e) ⟨i,s,q,acts⟩ then 6 else 0) else txnF i s q acts):=rfl
 dsimp only [TxnQ.e]
 generalize stpF (qs.map TxnQ.e) ⟨i,s,q,acts⟩=S at *
 generalize txnF i s q acts=C at *
 clear hT hrd
 go_enter Tryz.func199,Tryz.ntmps199
 go_wp2_with fail
 have hBs:=hB.size
 have hwx:w.heap.size < (w.alloc (.cells #[.int .i64 i,.int .i64 s,.int .i64 q,.slice aa acts.length ac] 49)).heap.size:=by simp
 generalize w.heap.size=H at *
 generalize w.alloc (.cells #[.int .i64 i,.int .i64 s,.int .i64 q,.slice aa acts.length ac] 49)=W at *
 refine hfa.mono ?_
 rintro e w1 ⟨rfl,hb1⟩
 replace hv:=hv.below hb1
 replace ho:=own_below ho hb1
 replace hX:=hX.below hb1
 replace hat:=hat.below hb1
 replace hB:=hB.trans (hb1.mono hBs)
 by_cases hC:C=0
 ·subst hC
  rw [if_pos rfl] at HS
  have hh:=implHasTxn_any (.slice sa qs.length sc) qs ⟨i,s,q,acts⟩ aa acts.length ac w1 hat (by omega)
  dsimp only at hh
  have x0:=hX.cell 0 _ rfl
  have x1:=hX.cell 1 _ rfl
  have x2:=hX.cell 2 _ rfl
  have x3:=hX.cell 3 _ rfl
  have v0:=hv.cell 0 _ rfl
  generalize knw (qs.map TxnQ.e) ⟨i,s,q,acts⟩=Y at *
  clear hfa hat
  go_wp2_with fail
  refine hh.mono ?_
  rintro e w2 ⟨rfl,hb2⟩
  clear x0 x1 x2 x3 v0 hh
  replace hv:=hv.below hb2
  replace ho:=own_below ho hb2
  replace hX:=hX.below hb2
  have hs2:=hb2.size
  have hs1:=hb1.size
  replace hB:=hB.trans (hb2.mono (by omega))
  clear hb1 hb2
  cases Y with
  | true=>
   have HS2:Hid (S=6):=HS.out
   clear HS
   go_wp2
   go_ret
   rw [HS2.out]
   exact ⟨rfl,hB.mono (by omega),fun h0=>absurd h0 (by decide)⟩
  | false=>
   have HS2:Hid (S=0):=HS.out
   clear HS
   have x0:=hX.cell 0 _ rfl
   have x1:=hX.cell 1 _ rfl
   have x2:=hX.cell 2 _ rfl
   have x3:=hX.cell 3 _ rfl
   have v0:=hv.cell 0 _ rfl
   have hbA:Below w2.heap.size w2 (w2.alloc (.cells #[.int .i64 i,.int .i64 s,.int .i64 q,.slice aa acts.length ac] 49)):=by go_grown
   have hvA:=hv.below hbA
   have hoA:=own_below ho hbA
   have hBA:=hB.trans (hbA.mono (by omega))
   have hsA:=hbA.size
   clear hv ho hB hX
   go_wp2_with (at_builtin;refine wpList_append_own_at _ rfl _ _ 28 rfl (bx + 1) 49 i0 (.agg #[.int .i64 0,.int .i64 0,.int .i64 0,.slice none 0 0]) 4 48 Tryz.underlying28 hi hz0 hz1 hz2 rfl (by decide) _ qs.length (txnK.row qs) rfl hoA ⟨w2.heap.size,0,none⟩ 1 1 [.int .i64 i,.int .i64 s,.int .i64 q,.slice aa acts.length ac] rfl rfl ?c1 ?c2 ?c3 ?c4 ?c5 ?_)
   all_goals try (case c1=>intro j u hj;match j,hj with | 0,hj=>simp at hj;subst hj;simp [Addr.add] | 1,hj=>simp at hj;subst hj;simp [Addr.add] | 2,hj=>simp at hj;subst hj;simp [Addr.add] | 3,hj=>simp at hj;subst hj;simp [Addr.add])
   all_goals try (case c2=>intro u hu;simp at hu;rcases hu with rfl | rfl | rfl | rfl <;> rfl)
   all_goals try (case c3=>unfold maxLen;omega)
   all_goals try (case c4=>omega)
   all_goals try (case c5=>omega)
   intro v' w5 hown hgrow hnil hat5
   obtain ⟨a6,c6,rfl⟩:=own_shape hown
   have hv5:Blk w5 bx 28 #[.slice sa qs.length sc]:=hvA.grown hgrow (fun e=>by have:=(hoA.lt bx e.symm).1;omega)
   have hb5:Below bx w w5:=(hBA.mono (show bx≤_ by omega)).grown hgrow (by omega) (fun j hj=>by have:=(hoA.lt j hj).1;omega)
   have hrow:txnK.row (qs ++ [(⟨i,s,q,.slice aa acts.length ac,acts⟩:TxnQ)])=txnK.row qs ++ [.int .i64 i,.int .i64 s,.int .i64 q,.slice aa acts.length ac]:=by simp [Kind.row];rfl
   have f5:=hv5.frozen 0
   have c5:=hv5.cell 0 _ rfl
   have hb6:Below bx w (w5.setCell ⟨bx,0,none⟩ (.slice a6 (qs.length + 1) c6)):=Out.keep hb5 (Out.setCell w5 bx 0 _) (by have:=hv5.lt;omega) (fun k hk=>by simp at hk;omega)
   have hv6:Blk (w5.setCell ⟨bx,0,none⟩ (.slice a6 (qs.length + 1) c6)) bx 28 #[.slice a6 (qs.length + 1) c6]:=hv5.setOne
   have ho6:(w5.setCell ⟨bx,0,none⟩ (.slice a6 (qs.length + 1) c6)).ownsRow (bx + 1) 49 4 (.slice a6 (qs.length + 1) c6) (qs ++ [(⟨i,s,q,.slice aa acts.length ac,acts⟩:TxnQ)]).length (txnK.row (qs ++ [(⟨i,s,q,.slice aa acts.length ac,acts⟩:TxnQ)])):=by
    rw [hrow,List.length_append]
    refine own_outs hown (Out.setCell w5 bx 0 _) (fun k hk e=>?_)
    simp only [List.mem_singleton] at e
    subst e
    have:=(hown.lt k (by simpa [blk] using hk)).1
    omega
   clear hown hgrow hnil hat5 hrow hoA hvA hb5 hBA hv5 x0 x1 x2 x3 v0
   go_wp2
   go_ret
   rw [HS2.out]
   exact ⟨rfl,hb6,fun _=>⟨_,hv6,ho6⟩⟩
 ·rw [if_neg hC] at HS
  have HS2:Hid (S=C):=HS.out
  clear HS hfa hat
  have hs1:=hb1.size
  go_wp2
  go_ret
  rw [HS2.out]
  exact ⟨rfl,hB.mono (by omega),fun h0=>absurd h0 hC⟩

theorem faultWalk_any (w:World):Calls Tryz.prog 186 #[] w fun e w' => e=.returned (.func (.func 199) #[] #[.pointer (some ⟨w.heap.size,0,none⟩)])∧w' = w.alloc (.cells #[.slice none 0 0] 28):=by
 have hmf:∀ (fn:Fn) (first cap:Array Value) (w:World),(Instr.makeFunc fn first cap).run Tryz.prog w=.ok (.func fn first cap) w:=fun _ _ _ _=>rfl
 go_enter Tryz.func186,Tryz.ntmps186
 go_wp2
 go_ret
 exact ⟨rfl,rfl⟩

set_option maxRecDepth 100000 in
set_option maxHeartbeats 4000000 in
theorem listsFault_any (b cap:Nat) (ls:List (Value × List TxnQ)) (w:World) (hbs:b < w.heap.size) (hc:∀ (k:Nat) (hk:k < ls.length),w.cell? ⟨b,k,none⟩=some ls[k].1) (hA:∀ l∈ls,txnK.At w l.1 l.2) (hl:∀ l∈ls,l.2.length + nmL TxnQ.n l.2≤1048576) (h2:ls.length≤2) :
  Calls Tryz.prog 156 #[.slice (some ⟨b,0,none⟩) ls.length cap] w fun e w' => e=.returned (.int .i64 (lssF (ls.map (fun l=>l.2.map TxnQ.e))))∧Below w.heap.size w w' := by
 generalize hE:lssF (ls.map (fun l=>l.2.map TxnQ.e))=E
 have HE:Hid (lssF ((ls.map (fun l=>l.2.map TxnQ.e)).drop 0)=E):=hE
 clear hE
 go_enter Tryz.func156,Tryz.ntmps156
 go_wp2
 go_loopw [11] (fun j wr=>∃ k:Nat,k≤ls.length∧j=.int .i64 k∧Below w.heap.size w wr∧Hid (lssF ((ls.map (fun l=>l.2.map TxnQ.e)).drop k)=E)) (fun j _=>ls.length - (intOf j).toNat)
 case atStart=>exact ⟨0,Nat.zero_le _,rfl,Below.refl _ _,HE⟩
 case round=>
  clear HE
  obtain ⟨k,hk,rfl,hb,HE⟩:=hrel
  obtain ⟨U,rfl⟩:∃ U,U=wr:=⟨_,rfl⟩
  by_cases hlt:k < ls.length
  ·have HEk:Hid ((if lstF (ls[k].2.map TxnQ.e)=0 then lssF ((ls.map (fun l=>l.2.map TxnQ.e)).drop (k + 1)) else lstF (ls[k].2.map TxnQ.e))=E):=show _=_ by
    have:=HE.out
    rw [lssF_at _ k (by simpa using hlt)] at this
    simpa using this
   have hck:=(hb.cell (p:=⟨b,k,none⟩) hbs).trans (hc k hlt)
   have hAk:=(hA _ (List.getElem_mem hlt)).below hb
   have hlk:=hl _ (List.getElem_mem hlt)
   generalize ls[k]=l at *
   obtain ⟨v,ps⟩:=l
   dsimp only at hck hAk hlk HEk
   obtain ⟨a,cp,rfl⟩:=hAk.shape
   clear HE
   have hlti:(k:Int) < (ls.length:Int):=by omega
   by_cases h40:40 < ps.length
   ·have E1:Hid (E=2):=show _=_ by
     have:=HEk.out
     have e2:lstF (ps.map TxnQ.e)=2:=by unfold lstF;rw [List.length_map,if_pos h40]
     rw [e2] at this
     exact this.symm
    clear HEk
    have h40i:(40:Int) < (ps.length:Int):=by omega
    go_wp2
    go_ret
    rw [E1.out]
    exact ⟨rfl,hb⟩
   ·have h40i:¬ (40:Int) < (ps.length:Int):=by omega
    have HG0:Hid (lstGo (((ps.map TxnQ.e)).take 0) ((ps.map TxnQ.e).drop 0)=lstF (ps.map TxnQ.e)):=show _=_ by unfold lstF;rw [List.length_map,if_neg h40];rfl
    have hfw:=faultWalk_any U
    have hbY:Below U.heap.size U (U.alloc (.cells #[.slice none 0 0] 28)):=by go_grown
    have hv0:=Blk.new U 28 #[.slice none 0 0]
    have ho0:=World.ownsRow_nil (U.alloc (.cells #[.slice none 0 0] 28)) (U.heap.size + 1) 49 4
    have hws:=hb.size
    go_wp2_with fail
    clear hck
    refine hfw.mono ?_
    rintro e w2 ⟨rfl,rfl⟩
    clear hfw
    generalize hBX:U.heap.size=bx at *
    generalize hY:U.alloc (.cells #[.slice none 0 0] 28)=Y at *
    clear hY
    go_wp2
    go_loopw [21] (fun j wy=>∃ (m:Nat) (va:Value),m≤ps.length∧j=.int .i64 m∧Blk wy bx 28 #[va]∧wy.ownsRow (bx + 1) 49 4 va (ps.take m).length (txnK.row (ps.take m))∧Below bx U wy∧Hid (lstGo ((ps.map TxnQ.e).take m) ((ps.map TxnQ.e).drop m)=lstF (ps.map TxnQ.e))) (fun j _=>ps.length - (intOf j).toNat)
    case atStart=>exact ⟨0,_,Nat.zero_le _,rfl,hv0,ho0,hbY,HG0⟩
    case round=>
     clear hv0 ho0 hbY HG0
     obtain ⟨m,va,hm,rfl,hv,ho,hby,HG⟩:=hrel
     by_cases hltm:m < ps.length
     ·have HGm:Hid ((if stpF ((ps.map TxnQ.e).take m) (TxnQ.e ps[m])=0 then lstGo ((ps.map TxnQ.e).take (m + 1)) ((ps.map TxnQ.e).drop (m + 1)) else stpF ((ps.map TxnQ.e).take m) (TxnQ.e ps[m]))=lstF (ps.map TxnQ.e)):=show _=_ by
       have:=HG.out
       rw [lstGo_at _ m (by simpa using hltm)] at this
       simpa using this
      have hby0:Below U.heap.size U wr:=by rw [hBX];exact hby
      obtain ⟨b',off,rfl,hbs',hcm,hrd⟩:=(hAk.below hby0).cell (by decide) m hltm
      have hc' : ∀ j x,(txnK.cells ps[m])[j]? = some x→wr.cell? ⟨b',off + m * 4 + j,none⟩=some x:=hcm
      have c0:=hc' 0 (.int .i64 ps[m].i) rfl
      have c1:=hc' 1 (.int .i64 ps[m].s) rfl
      have c2:=hc' 2 (.int .i64 ps[m].q) rfl
      have c3:=hc' 3 (ps[m].va) rfl
      rw [Nat.add_zero] at c0
      have hzl:=nm_le TxnQ.n ps m hltm
      have htk:ps.take (m + 1)=ps.take m ++ [ps[m]]:=List.take_succ_eq_append_getElem hltm
      have hrdk:∀ q∈ps.take m,txnK.rd wr q:=fun q hq=>(hAk.below hby0).rdm (List.mem_of_mem_take hq)
      have hlk:(ps.take m).length≤40:=by rw [List.length_take];omega
      have hst:=faultStep_any ps[m] (ps.take m) bx va
      rw [List.map_take,← htk] at hst
      clear HG hcm hc' htk
      generalize hS:stpF ((ps.map TxnQ.e).take m) (TxnQ.e ps[m])=S at *
      clear hS
      generalize ps[m]=p at *
      obtain ⟨i,s,q,va',acts⟩:=p
      have hrd' : actK.At wr va' acts:=hrd
      replace hzl:acts.length≤nmL TxnQ.n ps:=hzl
      obtain ⟨aa,ac,rfl⟩:=hrd'.shape
      dsimp only at c0 c1 c2 c3 hst
      have hlti2:(m:Int) < (ps.length:Int):=by omega
      have hbA:Below wr.heap.size wr (wr.alloc (.cells #[.int .i64 i,.int .i64 s,.int .i64 q,.slice aa acts.length ac] 49)):=by go_grown
      have hq:=hst _ (hrd'.below hbA) (by omega) (hv.below hbA) (own_below ho hbA) (fun q hq=>txnK.rd_below (hrdk q hq) hbA) hlk
      have hbz:=hby.trans (hbA.mono (by have:=hv.lt;omega))
      clear hst hbA hv ho hrd' hrd hrdk hby hby0
      go_wp2_with fail
      clear c0 c1 c2 c3
      generalize wr.alloc (.cells #[.int .i64 i,.int .i64 s,.int .i64 q,.slice aa acts.length ac] 49)=Z at *
      refine hq.mono ?_
      rintro e w3 ⟨rfl,hb3,hI⟩
      replace hbz:=hbz.trans hb3
      clear hq hb3
      by_cases hS0:S=0
      ·subst hS0
       obtain ⟨va2,hv2,ho2⟩:=hI rfl
       clear hI
       have HG2:Hid (lstGo ((ps.map TxnQ.e).take (m + 1)) ((ps.map TxnQ.e).drop (m + 1))=lstF (ps.map TxnQ.e)):=show _=_ by
        have:=HGm.out
        rw [if_pos rfl] at this
        exact this
       clear HGm
       go_wp2
       go_roundw
       case rel=>exact ⟨m + 1,va2,by omega,by go_num,hv2,ho2,hbz,HG2⟩
       case measure=>simp [intOf];omega
      ·have E1:Hid (E=S):=show _=_ by
        have h3:=HGm.out
        rw [if_neg hS0] at h3
        have h4:=HEk.out
        rw [← h3,if_neg hS0] at h4
        exact h4.symm
       clear HGm HEk hI
       go_wp2
       go_ret
       rw [E1.out]
       exact ⟨rfl,hb.trans (hbz.mono hws)⟩
     ·have h0:lstF (ps.map TxnQ.e)=0:=by rw [← HG.out];exact lstGo_end _ _ (by simpa using Nat.le_of_not_lt hltm)
      have HE2:Hid (lssF ((ls.map (fun l=>l.2.map TxnQ.e)).drop (k + 1))=E):=show _=_ by
       have:=HEk.out
       rw [if_pos h0] at this
       exact this
      have hlti2:¬ (m:Int) < (ps.length:Int):=by omega
      have hbf:Below w.heap.size w wr:=hb.trans (hby.mono hws)
      clear HG HEk hv ho hby
      go_wp2
      go_roundw
      case rel=>exact ⟨k + 1,by omega,by go_num,hbf,HE2⟩
      case measure=>simp [intOf];omega
  ·have E1:Hid (E=0):=by
    show _=_
    rw [← HE.out,List.drop_of_length_le (by simpa using Nat.le_of_not_lt hlt)]
    rfl
   have hlti:¬ (k:Int) < (ls.length:Int):=by omega
   clear HE
   go_wp2
   go_ret
   rw [E1.out]
   exact ⟨rfl,hb⟩

set_option maxHeartbeats 1000000 in
theorem implListFault_any (v:Value) (ps:List TxnQ) (w:World) (h:txnK.At w v ps) (hl:ps.length + nmL TxnQ.n ps≤1048576) :
  Calls Tryz.prog 138 #[v] w fun e w' => e=.returned (.int .i64 (lstF (ps.map TxnQ.e)))∧Below w.heap.size w w' := by
 have hB:Below w.heap.size w (w.alloc (.cells #[v] 28)):=by go_grown
 have hX:=Blk.new w 28 #[v]
 have hq:=listsFault_any w.heap.size 1 [(v,ps)] (w.alloc (.cells #[v] 28)) hX.lt (fun k hk=>by
  have h0:k=0:=by simpa using hk
  subst h0
  exact hX.cell 0 _ rfl) (fun l hl=>by rw [List.mem_singleton.1 hl];exact h.below hB) (fun l hl=>by rw [List.mem_singleton.1 hl];assumption) (by simp)
 have e0:lssF ([(v,ps)].map (fun l:Value × List TxnQ=>l.2.map TxnQ.e))=lstF (ps.map TxnQ.e):=by
  show (if lstF (ps.map TxnQ.e)=0 then 0 else lstF (ps.map TxnQ.e))=_
  split
  ·rename_i h0;exact h0.symm
  ·rfl
 rw [e0] at hq
 clear e0
 generalize lstF (ps.map TxnQ.e)=E at *
 obtain ⟨a,cap,rfl⟩:=h.shape
 clear hX
 go_enter Tryz.func138,Tryz.ntmps138
 go_wp2_with fail
 refine Calls.mono (show Calls Tryz.prog _ #[.slice (some ⟨w.heap.size,0,none⟩) 1 1] _ _ from hq) ?_
 rintro e w2 ⟨rfl,hb⟩
 replace hB:=hB.trans (hb.mono hB.size)
 go_wp2
 go_ret
 exact ⟨rfl,hB⟩

set_option maxHeartbeats 4000000 in
theorem l8Fault_any (v:Value) (ps:List TxnQ) (w:World) (h:txnK.At w v ps) (hcp:CapOk v) (hl:ps.length + nmL TxnQ.n ps≤1048576) :
  Calls Tryz.prog 72 #[v] w fun e w' => e=.returned (.int .i64 (lstF (ps.map TxnQ.e)))∧Below w.heap.size w w' := by
 obtain ⟨a,cap,rfl⟩:=h.shape
 obtain ⟨hcp1,hcp2⟩:ps.length≤cap∧cap≤maxLen:=hcp
 by_cases h40:40 < ps.length
 ·have e2:lstF (ps.map TxnQ.e)=2:=by unfold lstF;rw [List.length_map,if_pos h40]
  rw [e2]
  have h40i:(40:Int) < (ps.length:Int):=by omega
  go_enter Tryz.func72,Tryz.ntmps72
  go_wp2
  go_ret
  exact ⟨rfl,Below.refl _ _⟩
 ·have h40i:¬ (40:Int) < (ps.length:Int):=by omega
  have e2:lstF (ps.map TxnQ.e)=lstGo ((ps.map TxnQ.e).take 0) ((ps.map TxnQ.e).drop 0):=by unfold lstF;rw [List.length_map,if_neg h40];rfl
  have HE:Hid (lstGo ((ps.map TxnQ.e).take 0) ((ps.map TxnQ.e).drop 0)=lstF (ps.map TxnQ.e)):=e2.symm
  clear e2
  generalize lstF (ps.map TxnQ.e)=E at *
  go_enter Tryz.func72,Tryz.ntmps72
  go_wp2
  go_loopw [3] (fun j wr=>∃ m:Nat,m≤ps.length∧j=.int .i64 m∧Below w.heap.size w wr∧Hid (lstGo ((ps.map TxnQ.e).take m) ((ps.map TxnQ.e).drop m)=E)) (fun j _=>ps.length - (intOf j).toNat)
  case atStart=>exact ⟨0,Nat.zero_le _,rfl,Below.refl _ _,HE⟩
  case round=>
   clear HE
   obtain ⟨m,hm,rfl,hb,HG⟩:=hrel
   by_cases hltm:m < ps.length
   ·have HGm:Hid ((if stpF ((ps.map TxnQ.e).take m) (TxnQ.e ps[m])=0 then lstGo ((ps.map TxnQ.e).take (m + 1)) ((ps.map TxnQ.e).drop (m + 1)) else stpF ((ps.map TxnQ.e).take m) (TxnQ.e ps[m]))=E):=show _=_ by
     have:=HG.out
     rw [lstGo_at _ m (by simpa using hltm)] at this
     simpa using this
    have hTk:=(h.below hb).takeK m hm
    obtain ⟨b,off,rfl,hbs,hcm,hrd⟩:=(h.below hb).cell (by decide) m hltm
    have hc' : ∀ j x,(txnK.cells ps[m])[j]? = some x→wr.cell? ⟨b,off + m * 4 + j,none⟩=some x:=hcm
    have c0:=hc' 0 (.int .i64 ps[m].i) rfl
    have c1:=hc' 1 (.int .i64 ps[m].s) rfl
    have c2:=hc' 2 (.int .i64 ps[m].q) rfl
    have c3:=hc' 3 (ps[m].va) rfl
    rw [Nat.add_zero] at c0
    have hzl:=nm_le TxnQ.n ps m hltm
    have hkn:=fun va w' => l7Known_any (.slice (some ⟨b,off,none⟩) m cap) (ps.take m) b (off + m * 4) (TxnQ.e ps[m]) va w'
    have hlk:(ps.take m).length≤1048576:=by rw [List.length_take];omega
    rw [List.map_take] at hkn
    have HS:Hid (stpF ((ps.map TxnQ.e).take m) (TxnQ.e ps[m])=if (TxnQ.e ps[m]).F=0 then (if knw ((ps.map TxnQ.e).take m) (TxnQ.e ps[m]) then 6 else 0) else (TxnQ.e ps[m]).F):=rfl
    clear HG hcm hc'
    generalize stpF ((ps.map TxnQ.e).take m) (TxnQ.e ps[m])=S at *
    generalize knw ((ps.map TxnQ.e).take m) (TxnQ.e ps[m])=Y at *
    generalize ps[m]=p at *
    obtain ⟨i,s,q,va',acts⟩:=p
    have hrd' : actK.At wr va' acts:=hrd
    replace hzl:acts.length≤nmL TxnQ.n ps:=hzl
    obtain ⟨aa,ac,rfl⟩:=hrd'.shape
    have e3:(TxnQ.e ⟨i,s,q,.slice aa acts.length ac,acts⟩).F=txnF i s q acts:=rfl
    rw [e3] at HS
    dsimp only [TxnQ.e] at c0 c1 c2 c3 hkn
    have hB4:Box4 wr b (off + m * 4) (.int .i64 i) (.int .i64 s) (.int .i64 q) (.slice aa acts.length ac):=⟨c0,c1,c2,c3⟩
    have hfa:=l2Fault_any b (off + m * 4) i s q aa ac acts wr hB4 (actK_at hrd').2 (by omega)
    have hlti2:(m:Int) < (ps.length:Int):=by omega
    generalize txnF i s q acts=C at *
    clear e3 c0 c1 c2 c3 hrd' hrd
    go_wp2_with fail
    refine hfa.mono ?_
    rintro e w2 ⟨rfl,hw2⟩
    replace hw2:=hw2.symm
    subst hw2
    by_cases hC:C=0
    ·subst hC
     rw [if_pos rfl] at HS
     have hW:Below wr.heap.size wr wr.drew:=(Below.refl _ _).drew
     have hnn:Nonempty (Lat wr):=⟨⟨wr,Below.refl _ _⟩⟩
     have hmc:m≤cap:=by omega
     have hm0:(0:Int)≤(m:Int):=by omega
     have hmc' : (m:Int)≤(cap:Int):=by omega
     clear hfa
     go_wp2_with fail
     refine text_begin (S:=fun w' => ∃ u:Lat wr,w' = u.val) (by kernel_rfl) ?_
     refine seg_range [(0,2),(3,3)] 2 (by kernel_rfl) (by kernel_rfl) (by kernel_rfl) (by kernel_rfl) (by kernel_rfl) ⟨⟨_,hW⟩,rfl⟩ ?_
     simp only [pickR,List.toList_toArray,List.flatMap_cons,List.flatMap_nil,List.drop_succ_cons,List.drop_zero,List.take_succ_cons,List.take_zero,List.cons_append,List.nil_append,List.append_nil]
     repeat go_big_quiet_step (fail)
     refine wpQuiet_nil ?_
     refine one_at 2 _ 1 (by kernel_rfl) rfl (by kernel_rfl) ?_
     go_wp2
     refine ThenGo.to ⟨⟨⟨_,hW⟩,rfl⟩,?_⟩
     refine call_at 6 (some 27) 129 #[.slice (some ⟨b,off,none⟩) m cap,.pointer (some ⟨b,off + m * 4,none⟩)] 0 (by kernel_rfl) (by kernel_rfl) (by kernel_rfl) (by kernel_rfl) (by kernel_rfl) ?_
     refine (hkn _ _ (hTk.below hW) (hB4.below hW) hlk).mono ?_
     rintro e w9 ⟨rfl,hb9⟩
     replace hW:=hW.trans (hb9.mono hW.size)
     clear hb9 hkn hB4 hTk
     refine ⟨_,rfl,⟨⟨_,hW⟩,rfl⟩,?_⟩
     simp only [Act.put,List.setIfInBounds_toArray,List.set_cons_zero,List.set_cons_succ]
     refine text_end (by kernel_rfl) ?_
     replace hb:=hb.trans (hW.mono hb.size)
     clear hW hnn
     cases Y with
     | true=>
      have E1:Hid (E=6):=show _=_ by
       have h3:=HGm.out
       have h4:S=6:=HS.out
       rw [h4] at h3
       exact h3.symm
      clear HGm HS
      go_wp2
      go_ret
      rw [E1.out]
      exact ⟨rfl,hb⟩
     | false=>
      have HG2:Hid (lstGo ((ps.map TxnQ.e).take (m + 1)) ((ps.map TxnQ.e).drop (m + 1))=E):=show _=_ by
       have h3:=HGm.out
       have h4:S=0:=HS.out
       rw [h4] at h3
       exact h3
      clear HGm HS
      go_wp2
      go_roundw
      case rel=>exact ⟨m + 1,by omega,by go_num,hb,HG2⟩
      case measure=>simp [intOf];omega
    ·rw [if_neg hC] at HS
     have E1:Hid (E=C):=show _=_ by
      have h3:=HGm.out
      have h4:S=C:=HS.out
      rw [h4,if_neg hC] at h3
      exact h3.symm
     clear HGm HS hkn hTk hB4 hfa
     go_wp2
     go_ret
     rw [E1.out]
     exact ⟨rfl,hb⟩
   ·have E1:Hid (E=0):=by
     show _=_
     rw [← HG.out]
     exact lstGo_end _ _ (by simpa using Nat.le_of_not_lt hltm)
    have hlti2:¬ (m:Int) < (ps.length:Int):=by omega
    clear HG
    go_wp2
    go_ret
    rw [E1.out]
    exact ⟨rfl,hb⟩

end Go.Proofs.YtfdkcbafpiojkaaGreatDoor
