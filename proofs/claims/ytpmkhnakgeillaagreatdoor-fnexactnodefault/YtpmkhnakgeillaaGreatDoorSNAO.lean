/- Texts joined, with what the laws reach alone. -/
import Derived.Test.YtpmkhnakgeillaaGreatDoorSNAN
set_option linter.unusedVariables false
set_option linter.unusedSimpArgs false
namespace Go.Proofs.YtpmkhnakgeillaaGreatDoor
open Go.RowKit
open Go.BigFrame
set_option maxRecDepth 100000
/-- The fault of the next one. -/
def stpF (acc:List TxnD) (t:TxnD):Int:=if t.F=0 then (if knw acc t then 6 else 0) else t.F

def lstGo:List TxnD→List TxnD→Int
 | _,[]=>0
 | acc,t :: r=>if stpF acc t=0 then lstGo (acc ++ [t]) r else stpF acc t

/-- The fault of a list. -/
def lstF (ds:List TxnD):Int:=if 40 < ds.length then 2 else lstGo [] ds

def lssF:List (List TxnD)→Int
 | []=>0
 | d :: r=>if lstF d=0 then lssF r else lstF d

theorem lstGo_at (ds:List TxnD) (k:Nat) (hk:k < ds.length):lstGo (ds.take k) (ds.drop k)=if stpF (ds.take k) ds[k]=0 then lstGo (ds.take (k + 1)) (ds.drop (k + 1)) else stpF (ds.take k) ds[k]:=by
 conv=>lhs;rw [List.drop_eq_getElem_cons hk]
 rw [lstGo,List.take_succ_eq_append_getElem hk]

theorem lstGo_end (ds:List TxnD) (k:Nat) (hk:ds.length≤k):lstGo (ds.take k) (ds.drop k)=0:=by
 rw [List.drop_of_length_le hk]
 rfl

theorem lssF_at (ls:List (List TxnD)) (k:Nat) (hk:k < ls.length):lssF (ls.drop k)=if lstF ls[k]=0 then lssF (ls.drop (k + 1)) else lstF ls[k]:=by
 rw [List.drop_eq_getElem_cons hk,lssF]

theorem Kind.At.rdm {P:Type} {K:Kind P} {w:World} {v:Value} {ps:List P} {p:P} (h:K.At w v ps) (hp:p∈ps):K.rd w p:=by
 obtain ⟨a,c,e,hl,hr⟩:=h
 exact hr p hp

theorem Blk.setOne {w:World} {b:Nat} {t:TypeId} {x y:Value} (h:Blk w b t #[x]):Blk (w.setCell ⟨b,0,none⟩ y) b t #[y]:=by
 have h1:w.heap[b]? = some (.cells #[x] t (0,0)):=h
 show (w.setCell ⟨b,0,none⟩ y).heap[b]? = some (.cells #[y] t (0,0))
 simp [World.setCell,Array.getElem?_modify,h1]

set_option maxRecDepth 100000 in
set_option maxHeartbeats 2000000 in
theorem faultStep_any (p:TxnQ) (qs:List TxnQ) (bx:Nat) (va:Value) (w:World) (hT:actK.At w p.va p.acts) (hl:p.acts.length≤1048576) (hv:Blk w bx 25 #[va]) (ho:w.ownsRow (bx + 1) 39 4 va qs.length (txnK.row qs)) (hrd:∀ q∈qs,txnK.rd w q) (hq:qs.length≤40) :
  Calls Tryz.prog 283 #[.agg #[.int .i64 p.i,.int .i64 p.s,.int .i64 p.q,p.va],.pointer (some ⟨bx,0,none⟩)] w fun e w' => e=.returned (.int .i64 (stpF (qs.map TxnQ.e) (TxnQ.e p)))∧Below bx w w' ∧ (stpF (qs.map TxnQ.e) (TxnQ.e p)=0→∃ va',Blk w' bx 25 #[va']∧w'.ownsRow (bx + 1) 39 4 va' (qs ++ [p]).length (txnK.row (qs ++ [p]))):=by
 obtain ⟨i,s,q,pv,acts⟩:=p
 dsimp only at hT hl
 obtain ⟨aa,ac,rfl⟩:=hT.shape
 obtain ⟨sa,sc,rfl⟩:=own_shape ho
 obtain ⟨i0,hi,hz0,hz1,hz2⟩:=info_parts infoTxn
 have hbx:=hv.lt
 have hB:Below w.heap.size w (w.alloc (.cells #[.int .i64 i,.int .i64 s,.int .i64 q,.slice aa acts.length ac] 39)):=by go_grown
 have hX:=Blk.new w 39 #[.int .i64 i,.int .i64 s,.int .i64 q,.slice aa acts.length ac]
 have hfa:=txnFault_any i s q aa ac acts _ ((actK_at hT).2.below hB) hl
 replace hv:=hv.below hB
 replace ho:=own_below ho hB
 have hat:txnK.At (w.alloc (.cells #[.int .i64 i,.int .i64 s,.int .i64 q,.slice aa acts.length ac] 39)) (.slice sa qs.length sc) qs:=Kind.at_of_row ho (fun q hq=>txnK.rd_below (hrd q hq) hB)
 have HS:Hid (stpF (qs.map TxnQ.e) ⟨i,s,q,acts⟩=if txnF i s q acts=0 then (if knw (qs.map TxnQ.e) ⟨i,s,q,acts⟩ then 6 else 0) else txnF i s q acts):=rfl
 dsimp only [TxnQ.e]
 generalize stpF (qs.map TxnQ.e) ⟨i,s,q,acts⟩=S at *
 generalize txnF i s q acts=C at *
 clear hT hrd
 go_enter Tryz.func283,Tryz.ntmps283
 go_wp2_with fail
 have hBs:=hB.size
 have hwx:w.heap.size < (w.alloc (.cells #[.int .i64 i,.int .i64 s,.int .i64 q,.slice aa acts.length ac] 39)).heap.size:=by simp
 generalize w.heap.size=H at *
 generalize w.alloc (.cells #[.int .i64 i,.int .i64 s,.int .i64 q,.slice aa acts.length ac] 39)=W at *
 refine hfa.mono ?_
 rintro e w1 ⟨rfl,hb1⟩
 replace hv:=hv.below hb1
 replace ho:=own_below ho hb1
 replace hX:=hX.below hb1
 replace hat:=hat.below hb1
 replace hB:=hB.trans (hb1.mono hBs)
 by_cases hC:C=0
 ·subst hC
  rw [if_pos rfl] at HS
  have hh:=implHasTxn_any (.slice sa qs.length sc) qs ⟨i,s,q,acts⟩ aa acts.length ac w1 hat (by omega)
  dsimp only at hh
  have x0:=hX.cell 0 _ rfl
  have x1:=hX.cell 1 _ rfl
  have x2:=hX.cell 2 _ rfl
  have x3:=hX.cell 3 _ rfl
  have v0:=hv.cell 0 _ rfl
  generalize knw (qs.map TxnQ.e) ⟨i,s,q,acts⟩=Y at *
  clear hfa hat
  go_wp2_with fail
  refine hh.mono ?_
  rintro e w2 ⟨rfl,hb2⟩
  clear x0 x1 x2 x3 v0 hh
  replace hv:=hv.below hb2
  replace ho:=own_below ho hb2
  replace hX:=hX.below hb2
  have hs2:=hb2.size
  have hs1:=hb1.size
  replace hB:=hB.trans (hb2.mono (by omega))
  clear hb1 hb2
  cases Y with
  | true=>
   have HS2:Hid (S=6):=HS.out
   clear HS
   go_wp2
   go_ret
   rw [HS2.out]
   exact ⟨rfl,hB.mono (by omega),fun h0=>absurd h0 (by decide)⟩
  | false=>
   have HS2:Hid (S=0):=HS.out
   clear HS
   have x0:=hX.cell 0 _ rfl
   have x1:=hX.cell 1 _ rfl
   have x2:=hX.cell 2 _ rfl
   have x3:=hX.cell 3 _ rfl
   have v0:=hv.cell 0 _ rfl
   have hbA:Below w2.heap.size w2 (w2.alloc (.cells #[.int .i64 i,.int .i64 s,.int .i64 q,.slice aa acts.length ac] 39)):=by go_grown
   have hvA:=hv.below hbA
   have hoA:=own_below ho hbA
   have hBA:=hB.trans (hbA.mono (by omega))
   have hsA:=hbA.size
   clear hv ho hB hX
   go_wp2_with (at_builtin;refine wpList_append_own_at _ rfl _ _ 25 rfl (bx + 1) 39 i0 (.agg #[.int .i64 0,.int .i64 0,.int .i64 0,.slice none 0 0]) 4 48 Tryz.underlying25 hi hz0 hz1 hz2 rfl (by decide) _ qs.length (txnK.row qs) rfl hoA ⟨w2.heap.size,0,none⟩ 1 1 [.int .i64 i,.int .i64 s,.int .i64 q,.slice aa acts.length ac] rfl rfl ?c1 ?c2 ?c3 ?c4 ?c5 ?_)
   all_goals try (case c1=>intro j u hj;match j,hj with | 0,hj=>simp at hj;subst hj;simp [Addr.add] | 1,hj=>simp at hj;subst hj;simp [Addr.add] | 2,hj=>simp at hj;subst hj;simp [Addr.add] | 3,hj=>simp at hj;subst hj;simp [Addr.add])
   all_goals try (case c2=>intro u hu;simp at hu;rcases hu with rfl | rfl | rfl | rfl <;> rfl)
   all_goals try (case c3=>unfold maxLen;omega)
   all_goals try (case c4=>omega)
   all_goals try (case c5=>omega)
   intro v' w5 hown hgrow hnil hat5
   obtain ⟨a6,c6,rfl⟩:=own_shape hown
   have hv5:Blk w5 bx 25 #[.slice sa qs.length sc]:=hvA.grown hgrow (fun e=>by have:=(hoA.lt bx e.symm).1;omega)
   have hb5:Below bx w w5:=(hBA.mono (show bx≤_ by omega)).grown hgrow (by omega) (fun j hj=>by have:=(hoA.lt j hj).1;omega)
   have hrow:txnK.row (qs ++ [(⟨i,s,q,.slice aa acts.length ac,acts⟩:TxnQ)])=txnK.row qs ++ [.int .i64 i,.int .i64 s,.int .i64 q,.slice aa acts.length ac]:=by simp [Kind.row];rfl
   have f5:=hv5.frozen 0
   have c5:=hv5.cell 0 _ rfl
   have hb6:Below bx w (w5.setCell ⟨bx,0,none⟩ (.slice a6 (qs.length + 1) c6)):=Out.keep hb5 (Out.setCell w5 bx 0 _) (by have:=hv5.lt;omega) (fun k hk=>by simp at hk;omega)
   have hv6:Blk (w5.setCell ⟨bx,0,none⟩ (.slice a6 (qs.length + 1) c6)) bx 25 #[.slice a6 (qs.length + 1) c6]:=hv5.setOne
   have ho6:(w5.setCell ⟨bx,0,none⟩ (.slice a6 (qs.length + 1) c6)).ownsRow (bx + 1) 39 4 (.slice a6 (qs.length + 1) c6) (qs ++ [(⟨i,s,q,.slice aa acts.length ac,acts⟩:TxnQ)]).length (txnK.row (qs ++ [(⟨i,s,q,.slice aa acts.length ac,acts⟩:TxnQ)])):=by
    rw [hrow,List.length_append]
    refine own_outs hown (Out.setCell w5 bx 0 _) (fun k hk e=>?_)
    simp only [List.mem_singleton] at e
    subst e
    have:=(hown.lt k (by simpa [blk] using hk)).1
    omega
   clear hown hgrow hnil hat5 hrow hoA hvA hb5 hBA hv5 x0 x1 x2 x3 v0
   go_wp2
   go_ret
   rw [HS2.out]
   exact ⟨rfl,hb6,fun _=>⟨_,hv6,ho6⟩⟩
 ·rw [if_neg hC] at HS
  have HS2:Hid (S=C):=HS.out
  clear HS hfa hat
  have hs1:=hb1.size
  go_wp2
  go_ret
  rw [HS2.out]
  exact ⟨rfl,hB.mono (by omega),fun h0=>absurd h0 hC⟩

theorem faultWalk_any (w:World):Calls Tryz.prog 269 #[] w fun e w' => e=.returned (.func (.func 283) #[] #[.pointer (some ⟨w.heap.size,0,none⟩)])∧w' = w.alloc (.cells #[.slice none 0 0] 25):=by
 have hmf:∀ (fn:Fn) (first cap:Array Value) (w:World),(Instr.makeFunc fn first cap).run Tryz.prog w=.ok (.func fn first cap) w:=fun _ _ _ _=>rfl
 go_enter Tryz.func269,Tryz.ntmps269
 go_wp2
 go_ret
 exact ⟨rfl,rfl⟩

set_option maxRecDepth 100000 in
set_option maxHeartbeats 4000000 in
theorem listsFault_any (b cap:Nat) (ls:List (Value × List TxnQ)) (w:World) (hbs:b < w.heap.size) (hc:∀ (k:Nat) (hk:k < ls.length),w.cell? ⟨b,k,none⟩=some ls[k].1) (hA:∀ l∈ls,txnK.At w l.1 l.2) (hl:∀ l∈ls,l.2.length + nmL TxnQ.n l.2≤1048576) (h2:ls.length≤2) :
  Calls Tryz.prog 231 #[.slice (some ⟨b,0,none⟩) ls.length cap] w fun e w' => e=.returned (.int .i64 (lssF (ls.map (fun l=>l.2.map TxnQ.e))))∧Below w.heap.size w w' := by
 generalize hE:lssF (ls.map (fun l=>l.2.map TxnQ.e))=E
 have HE:Hid (lssF ((ls.map (fun l=>l.2.map TxnQ.e)).drop 0)=E):=hE
 clear hE
 go_enter Tryz.func231,Tryz.ntmps231
 go_wp2
 go_loopw [11] (fun j wr=>∃ k:Nat,k≤ls.length∧j=.int .i64 k∧Below w.heap.size w wr∧Hid (lssF ((ls.map (fun l=>l.2.map TxnQ.e)).drop k)=E)) (fun j _=>ls.length - (intOf j).toNat)
 case atStart=>exact ⟨0,Nat.zero_le _,rfl,Below.refl _ _,HE⟩
 case round=>
  clear HE
  obtain ⟨k,hk,rfl,hb,HE⟩:=hrel
  obtain ⟨U,rfl⟩:∃ U,U=wr:=⟨_,rfl⟩
  by_cases hlt:k < ls.length
  ·have HEk:Hid ((if lstF (ls[k].2.map TxnQ.e)=0 then lssF ((ls.map (fun l=>l.2.map TxnQ.e)).drop (k + 1)) else lstF (ls[k].2.map TxnQ.e))=E):=show _=_ by
    have:=HE.out
    rw [lssF_at _ k (by simpa using hlt)] at this
    simpa using this
   have hck:=(hb.cell (p:=⟨b,k,none⟩) hbs).trans (hc k hlt)
   have hAk:=(hA _ (List.getElem_mem hlt)).below hb
   have hlk:=hl _ (List.getElem_mem hlt)
   generalize ls[k]=l at *
   obtain ⟨v,ps⟩:=l
   dsimp only at hck hAk hlk HEk
   obtain ⟨a,cp,rfl⟩:=hAk.shape
   clear HE
   have hlti:(k:Int) < (ls.length:Int):=by omega
   by_cases h40:40 < ps.length
   ·have E1:Hid (E=2):=show _=_ by
     have:=HEk.out
     have e2:lstF (ps.map TxnQ.e)=2:=by unfold lstF;rw [List.length_map,if_pos h40]
     rw [e2] at this
     exact this.symm
    clear HEk
    have h40i:(40:Int) < (ps.length:Int):=by omega
    go_wp2
    go_ret
    rw [E1.out]
    exact ⟨rfl,hb⟩
   ·have h40i:¬ (40:Int) < (ps.length:Int):=by omega
    have HG0:Hid (lstGo (((ps.map TxnQ.e)).take 0) ((ps.map TxnQ.e).drop 0)=lstF (ps.map TxnQ.e)):=show _=_ by unfold lstF;rw [List.length_map,if_neg h40];rfl
    have hfw:=faultWalk_any U
    have hbY:Below U.heap.size U (U.alloc (.cells #[.slice none 0 0] 25)):=by go_grown
    have hv0:=Blk.new U 25 #[.slice none 0 0]
    have ho0:=World.ownsRow_nil (U.alloc (.cells #[.slice none 0 0] 25)) (U.heap.size + 1) 39 4
    have hws:=hb.size
    go_wp2_with fail
    clear hck
    refine hfw.mono ?_
    rintro e w2 ⟨rfl,rfl⟩
    clear hfw
    generalize hBX:U.heap.size=bx at *
    generalize hY:U.alloc (.cells #[.slice none 0 0] 25)=Y at *
    clear hY
    go_wp2
    go_loopw [21] (fun j wy=>∃ (m:Nat) (va:Value),m≤ps.length∧j=.int .i64 m∧Blk wy bx 25 #[va]∧wy.ownsRow (bx + 1) 39 4 va (ps.take m).length (txnK.row (ps.take m))∧Below bx U wy∧Hid (lstGo ((ps.map TxnQ.e).take m) ((ps.map TxnQ.e).drop m)=lstF (ps.map TxnQ.e))) (fun j _=>ps.length - (intOf j).toNat)
    case atStart=>exact ⟨0,_,Nat.zero_le _,rfl,hv0,ho0,hbY,HG0⟩
    case round=>
     clear hv0 ho0 hbY HG0
     obtain ⟨m,va,hm,rfl,hv,ho,hby,HG⟩:=hrel
     by_cases hltm:m < ps.length
     ·have HGm:Hid ((if stpF ((ps.map TxnQ.e).take m) (TxnQ.e ps[m])=0 then lstGo ((ps.map TxnQ.e).take (m + 1)) ((ps.map TxnQ.e).drop (m + 1)) else stpF ((ps.map TxnQ.e).take m) (TxnQ.e ps[m]))=lstF (ps.map TxnQ.e)):=show _=_ by
       have:=HG.out
       rw [lstGo_at _ m (by simpa using hltm)] at this
       simpa using this
      have hby0:Below U.heap.size U wr:=by rw [hBX];exact hby
      obtain ⟨b',off,rfl,hbs',hcm,hrd⟩:=(hAk.below hby0).cell (by decide) m hltm
      have hc' : ∀ j x,(txnK.cells ps[m])[j]? = some x→wr.cell? ⟨b',off + m * 4 + j,none⟩=some x:=hcm
      have c0:=hc' 0 (.int .i64 ps[m].i) rfl
      have c1:=hc' 1 (.int .i64 ps[m].s) rfl
      have c2:=hc' 2 (.int .i64 ps[m].q) rfl
      have c3:=hc' 3 (ps[m].va) rfl
      rw [Nat.add_zero] at c0
      have hzl:=nm_le TxnQ.n ps m hltm
      have htk:ps.take (m + 1)=ps.take m ++ [ps[m]]:=List.take_succ_eq_append_getElem hltm
      have hrdk:∀ q∈ps.take m,txnK.rd wr q:=fun q hq=>(hAk.below hby0).rdm (List.mem_of_mem_take hq)
      have hlk:(ps.take m).length≤40:=by rw [List.length_take];omega
      have hst:=faultStep_any ps[m] (ps.take m) bx va
      rw [List.map_take,← htk] at hst
      clear HG hcm hc' htk
      generalize hS:stpF ((ps.map TxnQ.e).take m) (TxnQ.e ps[m])=S at *
      clear hS
      generalize ps[m]=p at *
      obtain ⟨i,s,q,va',acts⟩:=p
      have hrd' : actK.At wr va' acts:=hrd
      replace hzl:acts.length≤nmL TxnQ.n ps:=hzl
      obtain ⟨aa,ac,rfl⟩:=hrd'.shape
      dsimp only at c0 c1 c2 c3 hst
      have hlti2:(m:Int) < (ps.length:Int):=by omega
      have hbA:Below wr.heap.size wr (wr.alloc (.cells #[.int .i64 i,.int .i64 s,.int .i64 q,.slice aa acts.length ac] 39)):=by go_grown
      have hq:=hst _ (hrd'.below hbA) (by omega) (hv.below hbA) (own_below ho hbA) (fun q hq=>txnK.rd_below (hrdk q hq) hbA) hlk
      have hbz:=hby.trans (hbA.mono (by have:=hv.lt;omega))
      clear hst hbA hv ho hrd' hrd hrdk hby hby0
      go_wp2_with fail
      clear c0 c1 c2 c3
      generalize wr.alloc (.cells #[.int .i64 i,.int .i64 s,.int .i64 q,.slice aa acts.length ac] 39)=Z at *
      refine hq.mono ?_
      rintro e w3 ⟨rfl,hb3,hI⟩
      replace hbz:=hbz.trans hb3
      clear hq hb3
      by_cases hS0:S=0
      ·subst hS0
       obtain ⟨va2,hv2,ho2⟩:=hI rfl
       clear hI
       have HG2:Hid (lstGo ((ps.map TxnQ.e).take (m + 1)) ((ps.map TxnQ.e).drop (m + 1))=lstF (ps.map TxnQ.e)):=show _=_ by
        have:=HGm.out
        rw [if_pos rfl] at this
        exact this
       clear HGm
       go_wp2
       go_roundw
       case rel=>exact ⟨m + 1,va2,by omega,by go_num,hv2,ho2,hbz,HG2⟩
       case measure=>simp [intOf];omega
      ·have E1:Hid (E=S):=show _=_ by
        have h3:=HGm.out
        rw [if_neg hS0] at h3
        have h4:=HEk.out
        rw [← h3,if_neg hS0] at h4
        exact h4.symm
       clear HGm HEk hI
       go_wp2
       go_ret
       rw [E1.out]
       exact ⟨rfl,hb.trans (hbz.mono hws)⟩
     ·have h0:lstF (ps.map TxnQ.e)=0:=by rw [← HG.out];exact lstGo_end _ _ (by simpa using Nat.le_of_not_lt hltm)
      have HE2:Hid (lssF ((ls.map (fun l=>l.2.map TxnQ.e)).drop (k + 1))=E):=show _=_ by
       have:=HEk.out
       rw [if_pos h0] at this
       exact this
      have hlti2:¬ (m:Int) < (ps.length:Int):=by omega
      have hbf:Below w.heap.size w wr:=hb.trans (hby.mono hws)
      clear HG HEk hv ho hby
      go_wp2
      go_roundw
      case rel=>exact ⟨k + 1,by omega,by go_num,hbf,HE2⟩
      case measure=>simp [intOf];omega
  ·have E1:Hid (E=0):=by
    show _=_
    rw [← HE.out,List.drop_of_length_le (by simpa using Nat.le_of_not_lt hlt)]
    rfl
   have hlti:¬ (k:Int) < (ls.length:Int):=by omega
   clear HE
   go_wp2
   go_ret
   rw [E1.out]
   exact ⟨rfl,hb⟩

set_option maxHeartbeats 1000000 in
theorem implListFault_any (v:Value) (ps:List TxnQ) (w:World) (h:txnK.At w v ps) (hl:ps.length + nmL TxnQ.n ps≤1048576) :
  Calls Tryz.prog 178 #[v] w fun e w' => e=.returned (.int .i64 (lstF (ps.map TxnQ.e)))∧Below w.heap.size w w' := by
 have hB:Below w.heap.size w (w.alloc (.cells #[v] 25)):=by go_grown
 have hX:=Blk.new w 25 #[v]
 have hq:=listsFault_any w.heap.size 1 [(v,ps)] (w.alloc (.cells #[v] 25)) hX.lt (fun k hk=>by
  have h0:k=0:=by simpa using hk
  subst h0
  exact hX.cell 0 _ rfl) (fun l hl=>by rw [List.mem_singleton.1 hl];exact h.below hB) (fun l hl=>by rw [List.mem_singleton.1 hl];assumption) (by simp)
 have e0:lssF ([(v,ps)].map (fun l:Value × List TxnQ=>l.2.map TxnQ.e))=lstF (ps.map TxnQ.e):=by
  show (if lstF (ps.map TxnQ.e)=0 then 0 else lstF (ps.map TxnQ.e))=_
  split
  ·rename_i h0;exact h0.symm
  ·rfl
 rw [e0] at hq
 clear e0
 generalize lstF (ps.map TxnQ.e)=E at *
 obtain ⟨a,cap,rfl⟩:=h.shape
 clear hX
 go_enter Tryz.func178,Tryz.ntmps178
 go_wp2_with fail
 refine Calls.mono (show Calls Tryz.prog _ #[.slice (some ⟨w.heap.size,0,none⟩) 1 1] _ _ from hq) ?_
 rintro e w2 ⟨rfl,hb⟩
 replace hB:=hB.trans (hb.mono hB.size)
 go_wp2
 go_ret
 exact ⟨rfl,hB⟩

set_option maxHeartbeats 4000000 in
theorem l8Fault_any (v:Value) (ps:List TxnQ) (w:World) (h:txnK.At w v ps) (hcp:CapOk v) (hl:ps.length + nmL TxnQ.n ps≤1048576) :
  Calls Tryz.prog 169 #[v] w fun e w' => e=.returned (.int .i64 (lstF (ps.map TxnQ.e)))∧Below w.heap.size w w' := by
 obtain ⟨a,cap,rfl⟩:=h.shape
 obtain ⟨hcp1,hcp2⟩:ps.length≤cap∧cap≤maxLen:=hcp
 by_cases h40:40 < ps.length
 ·have e2:lstF (ps.map TxnQ.e)=2:=by unfold lstF;rw [List.length_map,if_pos h40]
  rw [e2]
  have h40i:(40:Int) < (ps.length:Int):=by omega
  go_enter Tryz.func169,Tryz.ntmps169
  go_wp2
  go_ret
  exact ⟨rfl,Below.refl _ _⟩
 ·have h40i:¬ (40:Int) < (ps.length:Int):=by omega
  have e2:lstF (ps.map TxnQ.e)=lstGo ((ps.map TxnQ.e).take 0) ((ps.map TxnQ.e).drop 0):=by unfold lstF;rw [List.length_map,if_neg h40];rfl
  have HE:Hid (lstGo ((ps.map TxnQ.e).take 0) ((ps.map TxnQ.e).drop 0)=lstF (ps.map TxnQ.e)):=e2.symm
  clear e2
  generalize lstF (ps.map TxnQ.e)=E at *
  go_enter Tryz.func169,Tryz.ntmps169
  go_wp2
  go_loopw [3] (fun j wr=>∃ m:Nat,m≤ps.length∧j=.int .i64 m∧Below w.heap.size w wr∧Hid (lstGo ((ps.map TxnQ.e).take m) ((ps.map TxnQ.e).drop m)=E)) (fun j _=>ps.length - (intOf j).toNat)
  case atStart=>exact ⟨0,Nat.zero_le _,rfl,Below.refl _ _,HE⟩
  case round=>
   clear HE
   obtain ⟨m,hm,rfl,hb,HG⟩:=hrel
   by_cases hltm:m < ps.length
   ·have HGm:Hid ((if stpF ((ps.map TxnQ.e).take m) (TxnQ.e ps[m])=0 then lstGo ((ps.map TxnQ.e).take (m + 1)) ((ps.map TxnQ.e).drop (m + 1)) else stpF ((ps.map TxnQ.e).take m) (TxnQ.e ps[m]))=E):=show _=_ by
     have:=HG.out
     rw [lstGo_at _ m (by simpa using hltm)] at this
     simpa using this
    have hTk:=(h.below hb).takeK m hm
    obtain ⟨b,off,rfl,hbs,hcm,hrd⟩:=(h.below hb).cell (by decide) m hltm
    have hc' : ∀ j x,(txnK.cells ps[m])[j]? = some x→wr.cell? ⟨b,off + m * 4 + j,none⟩=some x:=hcm
    have c0:=hc' 0 (.int .i64 ps[m].i) rfl
    have c1:=hc' 1 (.int .i64 ps[m].s) rfl
    have c2:=hc' 2 (.int .i64 ps[m].q) rfl
    have c3:=hc' 3 (ps[m].va) rfl
    rw [Nat.add_zero] at c0
    have hzl:=nm_le TxnQ.n ps m hltm
    have hkn:=fun va w' => l7Known_any (.slice (some ⟨b,off,none⟩) m cap) (ps.take m) b (off + m * 4) (TxnQ.e ps[m]) va w'
    have hlk:(ps.take m).length≤1048576:=by rw [List.length_take];omega
    rw [List.map_take] at hkn
    have HS:Hid (stpF ((ps.map TxnQ.e).take m) (TxnQ.e ps[m])=if (TxnQ.e ps[m]).F=0 then (if knw ((ps.map TxnQ.e).take m) (TxnQ.e ps[m]) then 6 else 0) else (TxnQ.e ps[m]).F):=rfl
    clear HG hcm hc'
    generalize stpF ((ps.map TxnQ.e).take m) (TxnQ.e ps[m])=S at *
    generalize knw ((ps.map TxnQ.e).take m) (TxnQ.e ps[m])=Y at *
    generalize ps[m]=p at *
    obtain ⟨i,s,q,va',acts⟩:=p
    have hrd' : actK.At wr va' acts:=hrd
    replace hzl:acts.length≤nmL TxnQ.n ps:=hzl
    obtain ⟨aa,ac,rfl⟩:=hrd'.shape
    have e3:(TxnQ.e ⟨i,s,q,.slice aa acts.length ac,acts⟩).F=txnF i s q acts:=rfl
    rw [e3] at HS
    dsimp only [TxnQ.e] at c0 c1 c2 c3 hkn
    have hB4:Box4 wr b (off + m * 4) (.int .i64 i) (.int .i64 s) (.int .i64 q) (.slice aa acts.length ac):=⟨c0,c1,c2,c3⟩
    have hfa:=l2Fault_any b (off + m * 4) i s q aa ac acts wr hB4 (actK_at hrd').2 (by omega)
    have hlti2:(m:Int) < (ps.length:Int):=by omega
    generalize txnF i s q acts=C at *
    clear e3 c0 c1 c2 c3 hrd' hrd
    go_wp2_with fail
    refine hfa.mono ?_
    rintro e w2 ⟨rfl,hw2⟩
    replace hw2:=hw2.symm
    subst hw2
    by_cases hC:C=0
    ·subst hC
     rw [if_pos rfl] at HS
     have hW:Below wr.heap.size wr wr.drew:=(Below.refl _ _).drew
     have hnn:Nonempty (Lat wr):=⟨⟨wr,Below.refl _ _⟩⟩
     have hmc:m≤cap:=by omega
     have hm0:(0:Int)≤(m:Int):=by omega
     have hmc' : (m:Int)≤(cap:Int):=by omega
     clear hfa
     go_wp2_with fail
     refine text_begin (S:=fun w' => ∃ u:Lat wr,w' = u.val) (by kernel_rfl) ?_
     refine seg_range [(0,2),(3,3)] 2 (by kernel_rfl) (by kernel_rfl) (by kernel_rfl) (by kernel_rfl) (by kernel_rfl) ⟨⟨_,hW⟩,rfl⟩ ?_
     simp only [pickR,List.toList_toArray,List.flatMap_cons,List.flatMap_nil,List.drop_succ_cons,List.drop_zero,List.take_succ_cons,List.take_zero,List.cons_append,List.nil_append,List.append_nil]
     repeat go_big_quiet_step (fail)
     refine wpQuiet_nil ?_
     refine one_at 2 _ 1 (by kernel_rfl) rfl (by kernel_rfl) ?_
     go_wp2
     refine ThenGo.to ⟨⟨⟨_,hW⟩,rfl⟩,?_⟩
     refine call_at 6 (some 27) 174 #[.slice (some ⟨b,off,none⟩) m cap,.pointer (some ⟨b,off + m * 4,none⟩)] 0 (by kernel_rfl) (by kernel_rfl) (by kernel_rfl) (by kernel_rfl) (by kernel_rfl) ?_
     refine (hkn _ _ (hTk.below hW) (hB4.below hW) hlk).mono ?_
     rintro e w9 ⟨rfl,hb9⟩
     replace hW:=hW.trans (hb9.mono hW.size)
     clear hb9 hkn hB4 hTk
     refine ⟨_,rfl,⟨⟨_,hW⟩,rfl⟩,?_⟩
     simp only [Act.put,List.setIfInBounds_toArray,List.set_cons_zero,List.set_cons_succ]
     refine text_end (by kernel_rfl) ?_
     replace hb:=hb.trans (hW.mono hb.size)
     clear hW hnn
     cases Y with
     | true=>
      have E1:Hid (E=6):=show _=_ by
       have h3:=HGm.out
       have h4:S=6:=HS.out
       rw [h4] at h3
       exact h3.symm
      clear HGm HS
      go_wp2
      go_ret
      rw [E1.out]
      exact ⟨rfl,hb⟩
     | false=>
      have HG2:Hid (lstGo ((ps.map TxnQ.e).take (m + 1)) ((ps.map TxnQ.e).drop (m + 1))=E):=show _=_ by
       have h3:=HGm.out
       have h4:S=0:=HS.out
       rw [h4] at h3
       exact h3
      clear HGm HS
      go_wp2
      go_roundw
      case rel=>exact ⟨m + 1,by omega,by go_num,hb,HG2⟩
      case measure=>simp [intOf];omega
    ·rw [if_neg hC] at HS
     have E1:Hid (E=C):=show _=_ by
      have h3:=HGm.out
      have h4:S=C:=HS.out
      rw [h4,if_neg hC] at h3
      exact h3.symm
     clear HGm HS hkn hTk hB4 hfa
     go_wp2
     go_ret
     rw [E1.out]
     exact ⟨rfl,hb⟩
   ·have E1:Hid (E=0):=by
     show _=_
     rw [← HG.out]
     exact lstGo_end _ _ (by simpa using Nat.le_of_not_lt hltm)
    have hlti2:¬ (m:Int) < (ps.length:Int):=by omega
    clear HG
    go_wp2
    go_ret
    rw [E1.out]
    exact ⟨rfl,hb⟩

end Go.Proofs.YtpmkhnakgeillaaGreatDoor
namespace Go.Proofs.YtpmkhnakgeillaaGreatDoor
open Go.RowKit
open Go.BigFrame
set_option maxRecDepth 100000
theorem szUs_k (p:USQ) (c:Int) (w:World) (h:ussK.rd w p) (hn:USQ.wf p) (h0:0≤c) (h1:c≤1048576) :
  Calls Tryz.prog 189 #[p.va,.int .i64 c] w fun e w' => ∃ r:Int,e=.returned (.int .i64 r)∧(¬ r < 0→(USQ.n p:Int) + r=c)∧Below w.heap.size w w' := szUndos_k p.va p.us c w h hn h0 h1

theorem eqUs_k (p p' : USQ) (w:World) (h:ussK.rd w p) (h' : ussK.rd w p') (he:p.e=p'.e) (hl:USQ.n p≤1048576) :
  Calls Tryz.prog 195 #[p.va,p'.va] w fun e w' => e=.returned (.bool true)∧Below w.heap.size w w' := by
 obtain ⟨va,us⟩:=p
 obtain ⟨va',us'⟩:=p'
 have he:us=us' := he
 subst he
 exact eqUndos_k va va' us w h h' hl

theorem toUs_k (p:USQ) (w:World) (h:ussK.rd w p) (hl:USQ.n p≤1048576) :
  Calls Tryz.prog 192 #[p.va] w fun e w' => ∃ p' : USQ,e=.returned p'.va∧p'.e=p.e∧ussK.own w' p' ∧ (ussK.foot p').Nodup∧(∀ k∈ussK.foot p',w.heap.size≤k)∧Below w.heap.size w w' := by
 refine (toUndos_k p.va p.us w h hl).mono ?_
 rintro e w' ⟨v',rfl,ho,hn,hg,hb⟩
 exact ⟨⟨v',p.us⟩,rfl,rfl,ho,hn,hg,hb⟩

set_option maxHeartbeats 1000000 in
theorem szUss_k (v:Value) (ps:List USQ) (c:Int) (w:World) (h:ussK.At w v ps) (hn:ps.length≤9223372036854775807) (hn1:∀ p∈ps,USQ.wf p) (h0:0≤c) (h1:c≤1048576) :
  Calls Tryz.prog 133 #[v,.int .i64 c] w fun e w' => ∃ r:Int,e=.returned (.int .i64 r)∧(¬ r < 0→((ps.length + nmL USQ.n ps:Nat):Int) + r=c)∧Below w.heap.size w w' := by
 obtain ⟨a,cap,rfl⟩:=h.shape
 by_cases hbig:c - ps.length < 0
 ·go_enter Tryz.func133,Tryz.ntmps133
  go_wp2
  go_ret
  exact ⟨_,rfl,fun h=>by omega,Below.refl _ _⟩
 ·go_enter Tryz.func133,Tryz.ntmps133
  go_wp2
  go_loopw [1,5] (fun l i wr=>∃ (k:Nat) (x:Int),k≤ps.length∧i=.int .i64 k∧l=.int .i64 x∧0≤x∧x≤1048576∧Hid (ps.length + nmL USQ.n (ps.take k) + x=c)∧Below w.heap.size w wr) (fun _ i _=>ps.length - (intOf i).toNat)
  case atStart=>exact ⟨0,c - ps.length,Nat.zero_le _,rfl,by go_num,by omega,by omega,show _=_ by simp [nmL];omega,Below.refl _ _⟩
  case round=>
   obtain ⟨k,x,hk,rfl,rfl,hx0,hx1,HS,hb⟩:=hrel
   by_cases hlt:k < ps.length
   ·obtain ⟨b,off,rfl,hbs,hc,hrd⟩:=(h.below hb).cell (by decide) k hlt
    have hc' : ∀ j x,(ussK.cells ps[k])[j]? = some x→wr.cell? ⟨b,off + k + j,none⟩=some x:=fun j x hx=>by have:=hc j x hx;rwa [show k * ussK.size=k from Nat.mul_one k] at this
    have c0:=hc' 0 (ps[k].va) rfl
    have hs:=nmL_succ USQ.n ps k hlt
    have HN:=hn1 _ (List.getElem_mem hlt)
    have HS' : Hid (∀ y:Int,(USQ.n ps[k]:Int) + y=x→ps.length + nmL USQ.n (ps.take (k + 1)) + y=c):=by
     intro y hy
     have:=HS.out
     omega
    clear HS hs hc hc'
    generalize ps[k]=p at *
    have hsz:=szUs_k p x wr hrd HN hx0 hx1
    generalize USQ.n p=m at *
    rw [Nat.add_zero] at c0
    go_wp2_with fail
    refine hsz.mono ?_
    rintro e w2 ⟨r,rfl,hr,hb2⟩
    replace hb:=hb.trans (hb2.mono hb.size)
    clear hb2 hsz c0
    by_cases hneg:r < 0
    ·go_wp2
     go_ret
     exact ⟨_,rfl,fun h=>by omega,hb⟩
    ·have hrx:=hr (by omega)
     have HR:Hid (ps.length + nmL USQ.n (ps.take (k + 1)) + r=c):=HS'.out r hrx
     have hr1:r≤1048576:=by omega
     clear HS' hr hrx
     go_wp2
     go_roundw
     case rel=>exact ⟨k + 1,r,by omega,by go_num,rfl,by omega,hr1,HR.out,hb⟩
     case measure=>simp [intOf];omega
   ·have hkl:k=ps.length:=by omega
    subst hkl
    rw [List.take_length] at HS
    go_wp2
    go_ret
    exact ⟨_,rfl,fun _=>by have:=HS.out;omega,hb⟩

set_option maxHeartbeats 2000000 in
theorem eqUss_k (v v' : Value) (ps qs:List USQ) (w:World) (h:ussK.At w v ps) (h' : ussK.At w v' qs) (he:ps.map USQ.e=qs.map USQ.e) (hl:(ps.length + nmL USQ.n ps)≤1048576) :
  Calls Tryz.prog 143 #[v,v'] w fun e w' => e=.returned (.bool true)∧Below w.heap.size w w' := by
 obtain ⟨a,cap,rfl⟩:=h.shape
 obtain ⟨a',cap',rfl⟩:=h'.shape
 have hlen:qs.length=ps.length:=by
  have:=congrArg List.length he
  simpa using this.symm
 rw [hlen] at h' ⊢
 have HL:Hid (qs.length=ps.length):=hlen
 clear hlen
 go_enter Tryz.func143,Tryz.ntmps143
 go_wp2
 go_loopw [5] (fun i wr=>∃ k:Nat,k≤ps.length∧i=.int .i64 k∧Below w.heap.size w wr) (fun i _=>ps.length - (intOf i).toNat)
 case atStart=>exact ⟨0,Nat.zero_le _,rfl,Below.refl _ _⟩
 case round=>
  obtain ⟨k,hk,rfl,hb⟩:=hrel
  by_cases hlt:k < ps.length
  ·have hlt' : k < qs.length:=by have:=HL.out;omega
   obtain ⟨b,off,rfl,hbs,hc,hrd⟩:=(h.below hb).cell (by decide) k hlt
   obtain ⟨b',off',rfl,hbs',hd,hrd'⟩:=(h'.below hb).cell (by decide) k hlt'
   have hc' : ∀ j x,(ussK.cells ps[k])[j]? = some x→wr.cell? ⟨b,off + k + j,none⟩=some x:=fun j x hx=>by have:=hc j x hx;rwa [show k * ussK.size=k from Nat.mul_one k] at this
   have hd' : ∀ j x,(ussK.cells qs[k])[j]? = some x→wr.cell? ⟨b',off' + k + j,none⟩=some x:=fun j x hx=>by have:=hd j x hx;rwa [show k * ussK.size=k from Nat.mul_one k] at this
   have c0:=hc' 0 (ps[k].va) rfl
   have d0:=hd' 0 (qs[k].va) rfl
   have hee:USQ.e ps[k]=USQ.e qs[k]:=by
    have:=congrArg (·[k]?) he
    simpa [hlt,hlt'] using this
   have hzl:=nm_le USQ.n ps k hlt
   clear hc hc' hd hd'
   generalize ps[k]=p at *
   generalize qs[k]=p' at *
   have hEQ:=fun w h1 h2=>eqUs_k p p' w h1 h2 hee (show USQ.n p≤1048576 by omega)
   clear hee hzl
   rw [Nat.add_zero] at c0 d0
   have k0:=lat_cell c0
   have l0:=lat_cell d0
   clear c0 d0
   have hW:Below wr.heap.size wr wr.drew:=(Below.refl _ _).drew
   have hne:Nonempty (Lat wr):=⟨⟨wr,Below.refl _ _⟩⟩
   go_wp2_with fail
   refine text_begin (S:=fun w' => ∃ u:Lat wr,w' = u.val) (by kernel_rfl) ?_
   refine seg_range [(0,8)] 2 (by kernel_rfl) (by kernel_rfl) (by kernel_rfl) (by kernel_rfl) (by kernel_rfl) ⟨⟨_,hW⟩,rfl⟩ ?_
   simp only [pickR,List.toList_toArray,List.flatMap_cons,List.flatMap_nil,List.drop_succ_cons,List.drop_zero,List.take_succ_cons,List.take_zero,List.cons_append,List.nil_append,List.append_nil]
   repeat go_big_quiet_step (fail)
   refine wpQuiet_nil ?_
   refine call_at 8 (some 25) 195 #[p.va,p'.va] 1 (by kernel_rfl) (by kernel_rfl) (by kernel_rfl) (by kernel_rfl) (by kernel_rfl) ?_
   refine (hEQ _ (ussK.rd_below hrd hW) (ussK.rd_below hrd' hW)).mono ?_
   rintro e w2 ⟨rfl,hb2⟩
   replace hW:=hW.trans (hb2.mono hW.size)
   clear hb2
   refine ⟨_,rfl,⟨⟨_,hW⟩,rfl⟩,?_⟩
   simp only [Act.put,List.setIfInBounds_toArray,List.set_cons_zero,List.set_cons_succ]
   refine seg_range [(9,1)] 0 (by kernel_rfl) (by kernel_rfl) (by kernel_rfl) (by kernel_rfl) (by kernel_rfl) ⟨⟨_,hW⟩,rfl⟩ ?_
   simp only [pickR,List.toList_toArray,List.flatMap_cons,List.flatMap_nil,List.drop_succ_cons,List.drop_zero,List.take_succ_cons,List.take_zero,List.cons_append,List.nil_append,List.append_nil]
   repeat go_big_quiet_step (fail)
   refine wpQuiet_nil ?_
   refine text_end (by kernel_rfl) ?_
   replace hb:=hb.trans (hW.mono hb.size)
   clear k0 l0 hW hne hrd hrd' hEQ
   go_wp2
   go_roundw
   case rel=>exact ⟨k + 1,by omega,by go_num,hb⟩
   case measure=>simp [intOf];omega
  ·go_wp2
   go_ret
   exact ⟨rfl,hb⟩

set_option maxHeartbeats 2000000 in
theorem toUss_k (v:Value) (ps:List USQ) (w:World) (h:ussK.At w v ps) (hl:(ps.length + nmL USQ.n ps)≤1048576) :
  Calls Tryz.prog 138 #[v] w fun e w' => ∃ v' qs,e=.returned v' ∧ qs.map USQ.e=ps.map USQ.e∧ussK.Own w' v' qs∧(ussK.fp v' qs).Nodup∧(∀ k∈ussK.fp v' qs,w.heap.size≤k)∧Below w.heap.size w w' := by
 obtain ⟨a,cap,rfl⟩:=h.shape
 obtain ⟨i0,hi,hz0,hz1,hz2⟩:=info_parts infoUndos9
 have hbytes:i0.bytes * ps.length≤281474976710656:=by rw [hz2];omega
 have hmax:ps.length≤maxLen:=by unfold maxLen;omega
 go_enter Tryz.func138,Tryz.ntmps138
 go_wp2_with (at_make;refine wpList_make_full _ rfl _ _ 27 rfl w.heap.size 161 i0 (.slice none 0 0) 1 Tryz.underlying27 hi hz0 hz1 _ _ _ _ ps.length rfl rfl rfl rfl hbytes hmax (Nat.le_refl _) ?_)
 intro w1 hown hgrow
 have hb1:Below w.heap.size w w1:=(Below.refl _ _).grown hgrow (Nat.le_refl _) (by simp)
 have hO:ussK.Own w1 (.slice (some ⟨w.heap.size,0,none⟩) ps.length ps.length) (List.replicate ps.length (⟨.slice none 0 0,[]⟩:USQ)):=by
  refine ⟨?_,fun p hp=>?_⟩
  ·rw [List.length_replicate,← made_row (⟨.slice none 0 0,[]⟩:USQ) _ (by decide)]
   rw [show ps.length * ussK.size=ps.length from Nat.mul_one _]
   exact own_base hown (Nat.zero_le _)
  ·rw [(List.mem_replicate.1 hp).2]
   exact ⟨World.ownsRow_nil _ _ _ _,fun p hp=>by simp at hp⟩
 have hF:ussK.fp (.slice (some ⟨w.heap.size,0,none⟩) ps.length ps.length) (List.replicate ps.length (⟨.slice none 0 0,[]⟩:USQ))=[w.heap.size]:=fp_new rfl
 have HN:Hid ((ussK.fp (.slice (some ⟨w.heap.size,0,none⟩) ps.length ps.length) (List.replicate ps.length (⟨.slice none 0 0,[]⟩:USQ))).Nodup):=by rw [hF];show List.Nodup _;simp
 have HG:Hid (∀ x∈ussK.fp (.slice (some ⟨w.heap.size,0,none⟩) ps.length ps.length) (List.replicate ps.length (⟨.slice none 0 0,[]⟩:USQ)),w.heap.size≤x):=by rw [hF];intro x hx;simp at hx;omega
 have HZ:Hid (∀ j (hj:j < (List.replicate ps.length (⟨.slice none 0 0,[]⟩:USQ)).length),0≤j→(List.replicate ps.length (⟨.slice none 0 0,[]⟩:USQ))[j]=(⟨.slice none 0 0,[]⟩:USQ)):=fun j hj _=>by simp
 have hql:(List.replicate ps.length (⟨.slice none 0 0,[]⟩:USQ)).length=ps.length:=by simp
 clear hown hgrow hF
 generalize List.replicate ps.length (⟨.slice none 0 0,[]⟩:USQ)=qs0 at *
 have HE:Hid ((qs0.take 0).map USQ.e=(ps.take 0).map USQ.e):=show _=_ by simp
 go_wp2
 go_loopw [4] (fun i wr=>∃ (k:Nat) (qs:List USQ),k≤ps.length∧i=.int .i64 k∧Hid (qs.length=ps.length)∧Hid ((qs.take k).map USQ.e=(ps.take k).map USQ.e)∧Hid (∀ j (hj:j < qs.length),k≤j→qs[j]=(⟨.slice none 0 0,[]⟩:USQ))∧ussK.Own wr (.slice (some ⟨w.heap.size,0,none⟩) ps.length ps.length) qs ∧
  Hid ((ussK.fp (.slice (some ⟨w.heap.size,0,none⟩) ps.length ps.length) qs).Nodup)∧Hid (∀ x∈ussK.fp (.slice (some ⟨w.heap.size,0,none⟩) ps.length ps.length) qs,w.heap.size≤x)∧Below w.heap.size w wr) (fun i _=>ps.length - (intOf i).toNat)
 case atStart=>exact ⟨0,qs0,Nat.zero_le _,rfl,hql,HE,HZ,hO,HN,HG,hb1⟩
 case round=>
  clear HE HZ hO HN HG hb1 hql
  obtain ⟨k,qs,hk,rfl,HQ,HE,HZ,hO,HN,HG,hb⟩:=hrel
  by_cases hlt:k < ps.length
  ·have hltq:k < qs.length:=by have:=HQ.out;omega
   have hzk:=HZ.out k hltq (Nat.le_refl _)
   obtain ⟨b,off,rfl,hbs,hc,hrd⟩:=(h.below hb).cell (by decide) k hlt
   have hc' : ∀ j x,(ussK.cells ps[k])[j]? = some x→wr.cell? ⟨b,off + k + j,none⟩=some x:=fun j x hx=>by have:=hc j x hx;rwa [show k * ussK.size=k from Nat.mul_one k] at this
   have c0:=hc' 0 (ps[k].va) rfl
   have hzl:=nm_le USQ.n ps k hlt
   have HPE:Hid (∀ p' : USQ,p'.e=USQ.e ps[k]→((qs.set k p').take (k + 1)).map USQ.e=(ps.take (k + 1)).map USQ.e):=by
    intro p' hp'
    have h1:=HE.out
    rw [List.take_succ_eq_append_getElem hlt,List.take_succ_eq_append_getElem (show k < (qs.set k p').length by simpa using hltq)]
    simp only [List.map_append,List.map_cons,List.map_nil,List.getElem_set_self,hp',List.take_set_of_le (Nat.le_refl k),h1]
   clear hc hc'
   generalize ps[k]=p at *
   have hto:=toUs_k p wr hrd (by omega)
   rw [Nat.add_zero] at c0
   go_wp2_with fail
   refine hto.mono ?_
   rintro e w2 ⟨p',rfl,hpe,hown',hnd',hlo',hb2⟩
   obtain ⟨x0,y0⟩:=p'
   have o0:undoK.Own w2 x0 y0:=hown'
   obtain ⟨a0,b0,rfl⟩:=o0.shape
   clear o0
   dsimp only
   generalize hP:(⟨.slice a0 y0.length b0,y0⟩:USQ)=p' at hpe hown' hnd' hlo'
   have hcp:ussK.cells p' = [.slice a0 y0.length b0]:=by rw [← hP];rfl
   have hO2:=hO.below hb2
   obtain ⟨e0,f0⟩:=hO2.cell k hltq 0 _ (by rw [hzk];rfl)
   have hkk:∀ j,k * ussK.size + j=k + j:=fun j=>by rw [show k * ussK.size=k from Nat.mul_one k]
   rw [hkk] at e0 f0
   rw [Nat.add_zero] at e0 f0
   have hrow0:=hO2.1
   have hQ:=HQ.out
   rw [hQ] at hrow0
   have hrow:=own_setFrom hrow0 (k) [.slice a0 y0.length b0]
   rw [← hcp] at hrow
   have hfp:∀ x∈ussK.fp (.slice (some ⟨w.heap.size,0,none⟩) ps.length ps.length) qs,x < wr.heap.size:=hO.lt
   have hg0:w.heap.size∈ussK.fp (.slice (some ⟨w.heap.size,0,none⟩) ps.length ps.length) qs:=by simp [Kind.fp,blk,Value.ownBlock]
   have hgl:w.heap.size < wr.heap.size:=hfp _ hg0
   have hNq:=HN.out
   have hdis:∀ x∈ussK.foot p',x ∉ ussK.fp (.slice (some ⟨w.heap.size,0,none⟩) ps.length ps.length) qs:=fun x hx hxx=>by have:=hlo' x hx;have:=hfp x hxx;omega
   have hput:ussK.Own (w2.setCell ⟨w.heap.size,k,none⟩ (.slice a0 y0.length b0)) (.slice (some ⟨w.heap.size,0,none⟩) ps.length ps.length) (qs.set k p'):=by
    refine Kind.Own.put hO2 k hltq p' ?_ (Out.setCell _ _ _ _) ?_ hown' ?_
    ·rw [hQ]
     rw [show k * ussK.size=k from Nat.mul_one k]
     rw [hcp] at hrow ⊢
     exact hrow
    ·intro q hq x hx hxe
     simp only [Kind.fp,blk,Value.ownBlock,Option.toList,List.cons_append,List.nil_append,List.nodup_cons] at hNq
     exact hNq.1 (List.mem_flatMap.2 ⟨q,hq,hxe ▸ hx⟩)
    ·intro x hx hxe
     have:=hlo' x hx
     omega
   have R:Hid (ussK.Own (w2.setCell ⟨w.heap.size,k,none⟩ (.slice a0 y0.length b0)) (.slice (some ⟨w.heap.size,0,none⟩) ps.length ps.length) (qs.set k p')∧Below w.heap.size w (w2.setCell ⟨w.heap.size,k,none⟩ (.slice a0 y0.length b0))):=by
    refine ⟨hput,?_⟩
    have hbb:=hb.trans (hb2.mono hb.size)
    exact (hbb.setCell (p:=⟨w.heap.size,k,none⟩) (Nat.le_refl _) _)
   have R1:Hid ((ussK.fp (.slice (some ⟨w.heap.size,0,none⟩) ps.length ps.length) (qs.set k p')).Nodup):=nodup_put hNq k hltq p' (by rw [hzk];rfl) hnd' hdis
   have R2:Hid (∀ x∈ussK.fp (.slice (some ⟨w.heap.size,0,none⟩) ps.length ps.length) (qs.set k p'),w.heap.size≤x):=by
    intro x hx
    simp only [Kind.fp,List.mem_append] at hx
    rcases hx with hx | hx
    ·exact HG.out x (by simp only [Kind.fp,List.mem_append];exact Or.inl hx)
    ·rcases mem_foot_set hltq hx with hx | hx
     ·exact HG.out x (by simp only [Kind.fp,List.mem_append];exact Or.inr hx)
     ·have:=hlo' x hx
      omega
   have R3:Hid (∀ j (hj:j < (qs.set k p').length),k + 1≤j→(qs.set k p')[j]=(⟨.slice none 0 0,[]⟩:USQ)):=fun j hj hkj=>by
    rw [List.getElem_set_ne (by omega)]
    exact HZ.out j (by simpa using hj) (by omega)
   have R4:Hid ((qs.set k p').length=ps.length):=by rw [List.length_set];exact HQ.out
   have R5:Hid (((qs.set k p').take (k + 1)).map USQ.e=(ps.take (k + 1)).map USQ.e):=HPE.out p' hpe
   clear hput hrow hrow0 hQ hO2 hO HN HG HZ HE HQ HPE hNq hdis hown' hnd' hlo' hfp hg0 hb hzk hrd hto hpe hkk hcp hP
   go_wp2
   go_roundw
   case rel=>exact ⟨k + 1,qs.set k p',by omega,by go_num,R4.out,R5.out,R3.out,R.out.1,R1.out,R2.out,R.out.2⟩
   case measure=>simp [intOf];omega
  ·have hkl:k=ps.length:=by omega
   subst hkl
   have hQ:=HQ.out
   have hE:=HE.out
   rw [List.take_length,List.take_of_length_le (by omega)] at hE
   clear HE HZ
   go_wp2
   go_ret
   exact ⟨_,qs,rfl,hE,hO,HN.out,HG.out,hb⟩

end Go.Proofs.YtpmkhnakgeillaaGreatDoor
