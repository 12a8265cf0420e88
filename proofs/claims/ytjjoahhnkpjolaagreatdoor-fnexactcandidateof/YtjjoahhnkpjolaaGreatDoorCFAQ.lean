/- Texts joined, with what the laws reach alone. -/
import Derived.Test.YtjjoahhnkpjolaaGreatDoorCFAP
set_option linter.unusedVariables false
set_option linter.unusedSimpArgs false
namespace Go.Proofs.YtjjoahhnkpjolaaGreatDoor
open Go.RowKit
open Go.BigFrame
set_option maxRecDepth 100000
/-- The fault of the next one. -/
def stpF (acc:List TxnD) (t:TxnD):Int:=if t.F=0 then (if knw acc t then 6 else 0) else t.F

def lstGo:List TxnD→List TxnD→Int
 | _,[]=>0
 | acc,t :: r=>if stpF acc t=0 then lstGo (acc ++ [t]) r else stpF acc t

/-- The fault of a list. -/
def lstF (ds:List TxnD):Int:=if 40 < ds.length then 2 else lstGo [] ds

def lssF:List (List TxnD)→Int
 | []=>0
 | d :: r=>if lstF d=0 then lssF r else lstF d

theorem lstGo_at (ds:List TxnD) (k:Nat) (hk:k < ds.length):lstGo (ds.take k) (ds.drop k)=if stpF (ds.take k) ds[k]=0 then lstGo (ds.take (k + 1)) (ds.drop (k + 1)) else stpF (ds.take k) ds[k]:=by
 conv=>lhs;rw [List.drop_eq_getElem_cons hk]
 rw [lstGo,List.take_succ_eq_append_getElem hk]

theorem lstGo_end (ds:List TxnD) (k:Nat) (hk:ds.length≤k):lstGo (ds.take k) (ds.drop k)=0:=by
 rw [List.drop_of_length_le hk]
 rfl

theorem lssF_at (ls:List (List TxnD)) (k:Nat) (hk:k < ls.length):lssF (ls.drop k)=if lstF ls[k]=0 then lssF (ls.drop (k + 1)) else lstF ls[k]:=by
 rw [List.drop_eq_getElem_cons hk,lssF]

theorem Kind.At.rdm {P:Type} {K:Kind P} {w:World} {v:Value} {ps:List P} {p:P} (h:K.At w v ps) (hp:p∈ps):K.rd w p:=by
 obtain ⟨a,c,e,hl,hr⟩:=h
 exact hr p hp

theorem Blk.setOne {w:World} {b:Nat} {t:TypeId} {x y:Value} (h:Blk w b t #[x]):Blk (w.setCell ⟨b,0,none⟩ y) b t #[y]:=by
 have h1:w.heap[b]? = some (.cells #[x] t (0,0)):=h
 show (w.setCell ⟨b,0,none⟩ y).heap[b]? = some (.cells #[y] t (0,0))
 simp [World.setCell,Array.getElem?_modify,h1]

set_option maxRecDepth 100000 in
set_option maxHeartbeats 2000000 in
theorem faultStep_any (p:TxnQ) (qs:List TxnQ) (bx:Nat) (va:Value) (w:World) (hT:actK.At w p.va p.acts) (hl:p.acts.length≤1048576) (hv:Blk w bx 52 #[va]) (ho:w.ownsRow (bx + 1) 158 4 va qs.length (txnK.row qs)) (hrd:∀ q∈qs,txnK.rd w q) (hq:qs.length≤40) :
  Calls Tryz.prog 234 #[.agg #[.int .i64 p.i,.int .i64 p.s,.int .i64 p.q,p.va],.pointer (some ⟨bx,0,none⟩)] w fun e w' => e=.returned (.int .i64 (stpF (qs.map TxnQ.e) (TxnQ.e p)))∧Below bx w w' ∧ (stpF (qs.map TxnQ.e) (TxnQ.e p)=0→∃ va',Blk w' bx 52 #[va']∧w'.ownsRow (bx + 1) 158 4 va' (qs ++ [p]).length (txnK.row (qs ++ [p]))):=by
 obtain ⟨i,s,q,pv,acts⟩:=p
 dsimp only at hT hl
 obtain ⟨aa,ac,rfl⟩:=hT.shape
 obtain ⟨sa,sc,rfl⟩:=own_shape ho
 obtain ⟨i0,hi,hz0,hz1,hz2⟩:=info_parts infoTxn
 have hbx:=hv.lt
 have hB:Below w.heap.size w (w.alloc (.cells #[.int .i64 i,.int .i64 s,.int .i64 q,.slice aa acts.length ac] 158)):=by go_grown
 have hX:=Blk.new w 158 #[.int .i64 i,.int .i64 s,.int .i64 q,.slice aa acts.length ac]
 have hfa:=txnFault_any i s q aa ac acts _ ((actK_at hT).2.below hB) hl
 replace hv:=hv.below hB
 replace ho:=own_below ho hB
 have hat:txnK.At (w.alloc (.cells #[.int .i64 i,.int .i64 s,.int .i64 q,.slice aa acts.length ac] 158)) (.slice sa qs.length sc) qs:=Kind.at_of_row ho (fun q hq=>txnK.rd_below (hrd q hq) hB)
 have HS:Hid (stpF (qs.map TxnQ.e) ⟨i,s,q,acts⟩=if txnF i s q acts=0 then (if knw (qs.map TxnQ.e) ⟨i,s,q,acts⟩ then 6 else 0) else txnF i s q acts):=rfl
 dsimp only [TxnQ.e]
 generalize stpF (qs.map TxnQ.e) ⟨i,s,q,acts⟩=S at *
 generalize txnF i s q acts=C at *
 clear hT hrd
 go_enter Tryz.func234,Tryz.ntmps234
 go_wp2_with fail
 have hBs:=hB.size
 have hwx:w.heap.size < (w.alloc (.cells #[.int .i64 i,.int .i64 s,.int .i64 q,.slice aa acts.length ac] 158)).heap.size:=by simp
 generalize w.heap.size=H at *
 generalize w.alloc (.cells #[.int .i64 i,.int .i64 s,.int .i64 q,.slice aa acts.length ac] 158)=W at *
 refine hfa.mono ?_
 rintro e w1 ⟨rfl,hb1⟩
 replace hv:=hv.below hb1
 replace ho:=own_below ho hb1
 replace hX:=hX.below hb1
 replace hat:=hat.below hb1
 replace hB:=hB.trans (hb1.mono hBs)
 by_cases hC:C=0
 ·subst hC
  rw [if_pos rfl] at HS
  have hh:=implHasTxn_any (.slice sa qs.length sc) qs ⟨i,s,q,acts⟩ aa acts.length ac w1 hat (by omega)
  dsimp only at hh
  obtain ⟨x0,x1,x2,x3⟩:=hX.cel4
  have v0:=hv.cell 0 _ rfl
  generalize knw (qs.map TxnQ.e) ⟨i,s,q,acts⟩=Y at *
  clear hfa hat
  go_wp2_with fail
  refine hh.mono ?_
  rintro e w2 ⟨rfl,hb2⟩
  clear x0 x1 x2 x3 v0 hh
  replace hv:=hv.below hb2
  replace ho:=own_below ho hb2
  replace hX:=hX.below hb2
  have hs2:=hb2.size
  have hs1:=hb1.size
  replace hB:=hB.trans (hb2.mono (by omega))
  clear hb1 hb2
  cases Y with
  | true=>
   have HS2:Hid (S=6):=HS.out
   clear HS
   go_wp2
   go_ret
   rw [HS2.out]
   exact ⟨rfl,hB.mono (by omega),fun h0=>absurd h0 (by decide)⟩
  | false=>
   have HS2:Hid (S=0):=HS.out
   clear HS
   obtain ⟨x0,x1,x2,x3⟩:=hX.cel4
   have v0:=hv.cell 0 _ rfl
   have hbA:Below w2.heap.size w2 (w2.alloc (.cells #[.int .i64 i,.int .i64 s,.int .i64 q,.slice aa acts.length ac] 158)):=by go_grown
   have hvA:=hv.below hbA
   have hoA:=own_below ho hbA
   have hBA:=hB.trans (hbA.mono (by omega))
   have hsA:=hbA.size
   clear hv ho hB hX
   go_wp2_with (at_builtin;refine wpList_append_own_at _ rfl _ _ 52 rfl (bx + 1) 158 i0 (.agg #[.int .i64 0,.int .i64 0,.int .i64 0,.slice none 0 0]) 4 48 Tryz.underlying52 hi hz0 hz1 hz2 rfl (by decide) _ qs.length (txnK.row qs) rfl hoA ⟨w2.heap.size,0,none⟩ 1 1 [.int .i64 i,.int .i64 s,.int .i64 q,.slice aa acts.length ac] rfl rfl ?c1 ?c2 ?c3 ?c4 ?c5 ?_)
   all_goals try (case c1=>intro j u hj;match j,hj with | 0,hj=>simp at hj;subst hj;simp [Addr.add] | 1,hj=>simp at hj;subst hj;simp [Addr.add] | 2,hj=>simp at hj;subst hj;simp [Addr.add] | 3,hj=>simp at hj;subst hj;simp [Addr.add])
   all_goals try (case c2=>intro u hu;simp at hu;rcases hu with rfl | rfl | rfl | rfl <;> rfl)
   all_goals try (case c3=>unfold maxLen;omega)
   all_goals try (case c4=>omega)
   all_goals try (case c5=>omega)
   intro v' w5 hown hgrow hnil hat5
   obtain ⟨a6,c6,rfl⟩:=own_shape hown
   have hv5:Blk w5 bx 52 #[.slice sa qs.length sc]:=hvA.grown hgrow (fun e=>by have:=(hoA.lt bx e.symm).1;omega)
   have hb5:Below bx w w5:=(hBA.mono (show bx≤_ by omega)).grown hgrow (by omega) (fun j hj=>by have:=(hoA.lt j hj).1;omega)
   have hrow:txnK.row (qs ++ [(⟨i,s,q,.slice aa acts.length ac,acts⟩:TxnQ)])=txnK.row qs ++ [.int .i64 i,.int .i64 s,.int .i64 q,.slice aa acts.length ac]:=by simp [Kind.row];rfl
   have f5:=hv5.frozen 0
   have c5:=hv5.cell 0 _ rfl
   have hb6:Below bx w (w5.setCell ⟨bx,0,none⟩ (.slice a6 (qs.length + 1) c6)):=Out.keep hb5 (Out.setCell w5 bx 0 _) (by have:=hv5.lt;omega) (fun k hk=>by simp at hk;omega)
   have hv6:Blk (w5.setCell ⟨bx,0,none⟩ (.slice a6 (qs.length + 1) c6)) bx 52 #[.slice a6 (qs.length + 1) c6]:=hv5.setOne
   have ho6:(w5.setCell ⟨bx,0,none⟩ (.slice a6 (qs.length + 1) c6)).ownsRow (bx + 1) 158 4 (.slice a6 (qs.length + 1) c6) (qs ++ [(⟨i,s,q,.slice aa acts.length ac,acts⟩:TxnQ)]).length (txnK.row (qs ++ [(⟨i,s,q,.slice aa acts.length ac,acts⟩:TxnQ)])):=by
    rw [hrow,List.length_append]
    refine own_outs hown (Out.setCell w5 bx 0 _) (fun k hk e=>?_)
    simp only [List.mem_singleton] at e
    subst e
    have:=(hown.lt k (by simpa [blk] using hk)).1
    omega
   clear hown hgrow hnil hat5 hrow hoA hvA hb5 hBA hv5 x0 x1 x2 x3 v0
   go_wp2
   go_ret
   rw [HS2.out]
   exact ⟨rfl,hb6,fun _=>⟨_,hv6,ho6⟩⟩
 ·rw [if_neg hC] at HS
  have HS2:Hid (S=C):=HS.out
  clear HS hfa hat
  have hs1:=hb1.size
  go_wp2
  go_ret
  rw [HS2.out]
  exact ⟨rfl,hB.mono (by omega),fun h0=>absurd h0 hC⟩

theorem faultWalk_any (w:World):Calls Tryz.prog 210 #[] w fun e w' => e=.returned (.func (.func 234) #[] #[.pointer (some ⟨w.heap.size,0,none⟩)])∧w' = w.alloc (.cells #[.slice none 0 0] 52):=by
 have hmf:∀ (fn:Fn) (first cap:Array Value) (w:World),(Instr.makeFunc fn first cap).run Tryz.prog w=.ok (.func fn first cap) w:=fun _ _ _ _=>rfl
 go_enter Tryz.func210,Tryz.ntmps210
 go_wp2
 go_ret
 exact ⟨rfl,rfl⟩

set_option maxRecDepth 100000 in
set_option maxHeartbeats 4000000 in
theorem listsFault_any (b cap:Nat) (ls:List (Value × List TxnQ)) (w:World) (hbs:b < w.heap.size) (hc:∀ (k:Nat) (hk:k < ls.length),w.cell? ⟨b,k,none⟩=some ls[k].1) (hA:∀ l∈ls,txnK.At w l.1 l.2) (hl:∀ l∈ls,l.2.length + nmL TxnQ.n l.2≤1048576) (h2:ls.length≤2) :
  Calls Tryz.prog 172 #[.slice (some ⟨b,0,none⟩) ls.length cap] w fun e w' => e=.returned (.int .i64 (lssF (ls.map (fun l=>l.2.map TxnQ.e))))∧Below w.heap.size w w' := by
 generalize hE:lssF (ls.map (fun l=>l.2.map TxnQ.e))=E
 have HE:Hid (lssF ((ls.map (fun l=>l.2.map TxnQ.e)).drop 0)=E):=hE
 clear hE
 go_enter Tryz.func172,Tryz.ntmps172
 go_wp2
 go_loopw [11] (fun j wr=>∃ k:Nat,k≤ls.length∧j=.int .i64 k∧Below w.heap.size w wr∧Hid (lssF ((ls.map (fun l=>l.2.map TxnQ.e)).drop k)=E)) (fun j _=>ls.length - (intOf j).toNat)
 case atStart=>exact ⟨0,Nat.zero_le _,rfl,Below.refl _ _,HE⟩
 case round=>
  clear HE
  obtain ⟨k,hk,rfl,hb,HE⟩:=hrel
  obtain ⟨U,rfl⟩:∃ U,U=wr:=⟨_,rfl⟩
  by_cases hlt:k < ls.length
  ·have HEk:Hid ((if lstF (ls[k].2.map TxnQ.e)=0 then lssF ((ls.map (fun l=>l.2.map TxnQ.e)).drop (k + 1)) else lstF (ls[k].2.map TxnQ.e))=E):=show _=_ by
    have:=HE.out
    rw [lssF_at _ k (by simpa using hlt)] at this
    simpa using this
   have hck:=(hb.cell (p:=⟨b,k,none⟩) hbs).trans (hc k hlt)
   have hAk:=(hA _ (List.getElem_mem hlt)).below hb
   have hlk:=hl _ (List.getElem_mem hlt)
   generalize ls[k]=l at *
   obtain ⟨v,ps⟩:=l
   dsimp only at hck hAk hlk HEk
   obtain ⟨a,cp,rfl⟩:=hAk.shape
   clear HE
   have hlti:(k:Int) < (ls.length:Int):=by omega
   by_cases h40:40 < ps.length
   ·have E1:Hid (E=2):=show _=_ by
     have:=HEk.out
     have e2:lstF (ps.map TxnQ.e)=2:=by unfold lstF;rw [List.length_map,if_pos h40]
     rw [e2] at this
     exact this.symm
    clear HEk
    have h40i:(40:Int) < (ps.length:Int):=by omega
    go_wp2
    go_ret
    rw [E1.out]
    exact ⟨rfl,hb⟩
   ·have h40i:¬ (40:Int) < (ps.length:Int):=by omega
    have HG0:Hid (lstGo (((ps.map TxnQ.e)).take 0) ((ps.map TxnQ.e).drop 0)=lstF (ps.map TxnQ.e)):=show _=_ by unfold lstF;rw [List.length_map,if_neg h40];rfl
    have hfw:=faultWalk_any U
    have hbY:Below U.heap.size U (U.alloc (.cells #[.slice none 0 0] 52)):=by go_grown
    have hv0:=Blk.new U 52 #[.slice none 0 0]
    have ho0:=World.ownsRow_nil (U.alloc (.cells #[.slice none 0 0] 52)) (U.heap.size + 1) 158 4
    have hws:=hb.size
    go_wp2_with fail
    clear hck
    refine hfw.mono ?_
    rintro e w2 ⟨rfl,rfl⟩
    clear hfw
    generalize hBX:U.heap.size=bx at *
    generalize hY:U.alloc (.cells #[.slice none 0 0] 52)=Y at *
    clear hY
    go_wp2
    go_loopw [21] (fun j wy=>∃ (m:Nat) (va:Value),m≤ps.length∧j=.int .i64 m∧Blk wy bx 52 #[va]∧wy.ownsRow (bx + 1) 158 4 va (ps.take m).length (txnK.row (ps.take m))∧Below bx U wy∧Hid (lstGo ((ps.map TxnQ.e).take m) ((ps.map TxnQ.e).drop m)=lstF (ps.map TxnQ.e))) (fun j _=>ps.length - (intOf j).toNat)
    case atStart=>exact ⟨0,_,Nat.zero_le _,rfl,hv0,ho0,hbY,HG0⟩
    case round=>
     clear hv0 ho0 hbY HG0
     obtain ⟨m,va,hm,rfl,hv,ho,hby,HG⟩:=hrel
     by_cases hltm:m < ps.length
     ·have HGm:Hid ((if stpF ((ps.map TxnQ.e).take m) (TxnQ.e ps[m])=0 then lstGo ((ps.map TxnQ.e).take (m + 1)) ((ps.map TxnQ.e).drop (m + 1)) else stpF ((ps.map TxnQ.e).take m) (TxnQ.e ps[m]))=lstF (ps.map TxnQ.e)):=show _=_ by
       have:=HG.out
       rw [lstGo_at _ m (by simpa using hltm)] at this
       simpa using this
      have hby0:Below U.heap.size U wr:=by rw [hBX];exact hby
      obtain ⟨b',off,rfl,hbs',hcm,hrd⟩:=(hAk.below hby0).cell (by decide) m hltm
      have hc' : ∀ j x,(txnK.cells ps[m])[j]? = some x→wr.cell? ⟨b',off + m * 4 + j,none⟩=some x:=hcm
      have c0:=hc' 0 (.int .i64 ps[m].i) rfl
      have c1:=hc' 1 (.int .i64 ps[m].s) rfl
      have c2:=hc' 2 (.int .i64 ps[m].q) rfl
      have c3:=hc' 3 (ps[m].va) rfl
      rw [Nat.add_zero] at c0
      have hzl:=nm_le TxnQ.n ps m hltm
      have htk:ps.take (m + 1)=ps.take m ++ [ps[m]]:=List.take_succ_eq_append_getElem hltm
      have hrdk:∀ q∈ps.take m,txnK.rd wr q:=fun q hq=>(hAk.below hby0).rdm (List.mem_of_mem_take hq)
      have hlk:(ps.take m).length≤40:=by rw [List.length_take];omega
      have hst:=faultStep_any ps[m] (ps.take m) bx va
      rw [List.map_take,← htk] at hst
      clear HG hcm hc' htk
      generalize hS:stpF ((ps.map TxnQ.e).take m) (TxnQ.e ps[m])=S at *
      clear hS
      generalize ps[m]=p at *
      obtain ⟨i,s,q,va',acts⟩:=p
      have hrd' : actK.At wr va' acts:=hrd
      replace hzl:acts.length≤nmL TxnQ.n ps:=hzl
      obtain ⟨aa,ac,rfl⟩:=hrd'.shape
      dsimp only at c0 c1 c2 c3 hst
      have hlti2:(m:Int) < (ps.length:Int):=by omega
      have hbA:Below wr.heap.size wr (wr.alloc (.cells #[.int .i64 i,.int .i64 s,.int .i64 q,.slice aa acts.length ac] 158)):=by go_grown
      have hq:=hst _ (hrd'.below hbA) (by omega) (hv.below hbA) (own_below ho hbA) (fun q hq=>txnK.rd_below (hrdk q hq) hbA) hlk
      have hbz:=hby.trans (hbA.mono (by have:=hv.lt;omega))
      clear hst hbA hv ho hrd' hrd hrdk hby hby0
      go_wp2_with fail
      clear c0 c1 c2 c3
      generalize wr.alloc (.cells #[.int .i64 i,.int .i64 s,.int .i64 q,.slice aa acts.length ac] 158)=Z at *
      refine hq.mono ?_
      rintro e w3 ⟨rfl,hb3,hI⟩
      replace hbz:=hbz.trans hb3
      clear hq hb3
      by_cases hS0:S=0
      ·subst hS0
       obtain ⟨va2,hv2,ho2⟩:=hI rfl
       clear hI
       have HG2:Hid (lstGo ((ps.map TxnQ.e).take (m + 1)) ((ps.map TxnQ.e).drop (m + 1))=lstF (ps.map TxnQ.e)):=show _=_ by
        have:=HGm.out
        rw [if_pos rfl] at this
        exact this
       clear HGm
       go_wp2
       go_roundw
       case rel=>exact ⟨m + 1,va2,by omega,by go_num,hv2,ho2,hbz,HG2⟩
       case measure=>simp [intOf];omega
      ·have E1:Hid (E=S):=show _=_ by
        have h3:=HGm.out
        rw [if_neg hS0] at h3
        have h4:=HEk.out
        rw [← h3,if_neg hS0] at h4
        exact h4.symm
       clear HGm HEk hI
       go_wp2
       go_ret
       rw [E1.out]
       exact ⟨rfl,hb.trans (hbz.mono hws)⟩
     ·have h0:lstF (ps.map TxnQ.e)=0:=by rw [← HG.out];exact lstGo_end _ _ (by simpa using Nat.le_of_not_lt hltm)
      have HE2:Hid (lssF ((ls.map (fun l=>l.2.map TxnQ.e)).drop (k + 1))=E):=show _=_ by
       have:=HEk.out
       rw [if_pos h0] at this
       exact this
      have hlti2:¬ (m:Int) < (ps.length:Int):=by omega
      have hbf:Below w.heap.size w wr:=hb.trans (hby.mono hws)
      clear HG HEk hv ho hby
      go_wp2
      go_roundw
      case rel=>exact ⟨k + 1,by omega,by go_num,hbf,HE2⟩
      case measure=>simp [intOf];omega
  ·have E1:Hid (E=0):=by
    show _=_
    rw [← HE.out,List.drop_of_length_le (by simpa using Nat.le_of_not_lt hlt)]
    rfl
   have hlti:¬ (k:Int) < (ls.length:Int):=by omega
   clear HE
   go_wp2
   go_ret
   rw [E1.out]
   exact ⟨rfl,hb⟩

set_option maxHeartbeats 1000000 in
theorem implListFault_any (v:Value) (ps:List TxnQ) (w:World) (h:txnK.At w v ps) (hl:ps.length + nmL TxnQ.n ps≤1048576) :
  Calls Tryz.prog 130 #[v] w fun e w' => e=.returned (.int .i64 (lstF (ps.map TxnQ.e)))∧Below w.heap.size w w' := by
 have hB:Below w.heap.size w (w.alloc (.cells #[v] 52)):=by go_grown
 have hX:=Blk.new w 52 #[v]
 have hq:=listsFault_any w.heap.size 1 [(v,ps)] (w.alloc (.cells #[v] 52)) hX.lt (fun k hk=>by
  have h0:k=0:=by simpa using hk
  subst h0
  exact hX.cell 0 _ rfl) (fun l hl=>by rw [List.mem_singleton.1 hl];exact h.below hB) (fun l hl=>by rw [List.mem_singleton.1 hl];assumption) (by simp)
 have e0:lssF ([(v,ps)].map (fun l:Value × List TxnQ=>l.2.map TxnQ.e))=lstF (ps.map TxnQ.e):=by
  show (if lstF (ps.map TxnQ.e)=0 then 0 else lstF (ps.map TxnQ.e))=_
  split
  ·rename_i h0;exact h0.symm
  ·rfl
 rw [e0] at hq
 clear e0
 generalize lstF (ps.map TxnQ.e)=E at *
 obtain ⟨a,cap,rfl⟩:=h.shape
 clear hX
 go_enter Tryz.func130,Tryz.ntmps130
 go_wp2_with fail
 refine Calls.mono (show Calls Tryz.prog _ #[.slice (some ⟨w.heap.size,0,none⟩) 1 1] _ _ from hq) ?_
 rintro e w2 ⟨rfl,hb⟩
 replace hB:=hB.trans (hb.mono hB.size)
 go_wp2
 go_ret
 exact ⟨rfl,hB⟩

set_option maxHeartbeats 4000000 in
theorem l8Fault_any (v:Value) (ps:List TxnQ) (w:World) (h:txnK.At w v ps) (hcp:CapOk v) (hl:ps.length + nmL TxnQ.n ps≤1048576) :
  Calls Tryz.prog 115 #[v] w fun e w' => e=.returned (.int .i64 (lstF (ps.map TxnQ.e)))∧Below w.heap.size w w' := by
 obtain ⟨a,cap,rfl⟩:=h.shape
 obtain ⟨hcp1,hcp2⟩:ps.length≤cap∧cap≤maxLen:=hcp
 by_cases h40:40 < ps.length
 ·have e2:lstF (ps.map TxnQ.e)=2:=by unfold lstF;rw [List.length_map,if_pos h40]
  rw [e2]
  have h40i:(40:Int) < (ps.length:Int):=by omega
  go_enter Tryz.func115,Tryz.ntmps115
  go_wp2
  go_ret
  exact ⟨rfl,Below.refl _ _⟩
 ·have h40i:¬ (40:Int) < (ps.length:Int):=by omega
  have e2:lstF (ps.map TxnQ.e)=lstGo ((ps.map TxnQ.e).take 0) ((ps.map TxnQ.e).drop 0):=by unfold lstF;rw [List.length_map,if_neg h40];rfl
  have HE:Hid (lstGo ((ps.map TxnQ.e).take 0) ((ps.map TxnQ.e).drop 0)=lstF (ps.map TxnQ.e)):=e2.symm
  clear e2
  generalize lstF (ps.map TxnQ.e)=E at *
  go_enter Tryz.func115,Tryz.ntmps115
  go_wp2
  go_loopw [3] (fun j wr=>∃ m:Nat,m≤ps.length∧j=.int .i64 m∧Below w.heap.size w wr∧Hid (lstGo ((ps.map TxnQ.e).take m) ((ps.map TxnQ.e).drop m)=E)) (fun j _=>ps.length - (intOf j).toNat)
  case atStart=>exact ⟨0,Nat.zero_le _,rfl,Below.refl _ _,HE⟩
  case round=>
   clear HE
   obtain ⟨m,hm,rfl,hb,HG⟩:=hrel
   by_cases hltm:m < ps.length
   ·have HGm:Hid ((if stpF ((ps.map TxnQ.e).take m) (TxnQ.e ps[m])=0 then lstGo ((ps.map TxnQ.e).take (m + 1)) ((ps.map TxnQ.e).drop (m + 1)) else stpF ((ps.map TxnQ.e).take m) (TxnQ.e ps[m]))=E):=show _=_ by
     have:=HG.out
     rw [lstGo_at _ m (by simpa using hltm)] at this
     simpa using this
    have hTk:=(h.below hb).takeK m hm
    obtain ⟨b,off,rfl,hbs,hcm,hrd⟩:=(h.below hb).cell (by decide) m hltm
    have hc' : ∀ j x,(txnK.cells ps[m])[j]? = some x→wr.cell? ⟨b,off + m * 4 + j,none⟩=some x:=hcm
    have c0:=hc' 0 (.int .i64 ps[m].i) rfl
    have c1:=hc' 1 (.int .i64 ps[m].s) rfl
    have c2:=hc' 2 (.int .i64 ps[m].q) rfl
    have c3:=hc' 3 (ps[m].va) rfl
    rw [Nat.add_zero] at c0
    have hzl:=nm_le TxnQ.n ps m hltm
    have hkn:=fun va w' => l7Known_any (.slice (some ⟨b,off,none⟩) m cap) (ps.take m) b (off + m * 4) (TxnQ.e ps[m]) va w'
    have hlk:(ps.take m).length≤1048576:=by rw [List.length_take];omega
    rw [List.map_take] at hkn
    have HS:Hid (stpF ((ps.map TxnQ.e).take m) (TxnQ.e ps[m])=if (TxnQ.e ps[m]).F=0 then (if knw ((ps.map TxnQ.e).take m) (TxnQ.e ps[m]) then 6 else 0) else (TxnQ.e ps[m]).F):=rfl
    clear HG hcm hc'
    generalize stpF ((ps.map TxnQ.e).take m) (TxnQ.e ps[m])=S at *
    generalize knw ((ps.map TxnQ.e).take m) (TxnQ.e ps[m])=Y at *
    generalize ps[m]=p at *
    obtain ⟨i,s,q,va',acts⟩:=p
    have hrd' : actK.At wr va' acts:=hrd
    replace hzl:acts.length≤nmL TxnQ.n ps:=hzl
    obtain ⟨aa,ac,rfl⟩:=hrd'.shape
    have e3:(TxnQ.e ⟨i,s,q,.slice aa acts.length ac,acts⟩).F=txnF i s q acts:=rfl
    rw [e3] at HS
    dsimp only [TxnQ.e] at c0 c1 c2 c3 hkn
    have hB4:Box4 wr b (off + m * 4) (.int .i64 i) (.int .i64 s) (.int .i64 q) (.slice aa acts.length ac):=⟨c0,c1,c2,c3⟩
    have hfa:=l2Fault_any b (off + m * 4) i s q aa ac acts wr hB4 (actK_at hrd').2 (by omega)
    have hlti2:(m:Int) < (ps.length:Int):=by omega
    generalize txnF i s q acts=C at *
    clear e3 c0 c1 c2 c3 hrd' hrd
    go_wp2_with fail
    refine hfa.mono ?_
    rintro e w2 ⟨rfl,hw2⟩
    replace hw2:=hw2.symm
    subst hw2
    by_cases hC:C=0
    ·subst hC
     rw [if_pos rfl] at HS
     have hW:Below wr.heap.size wr wr.drew:=(Below.refl _ _).drew
     have hnn:Nonempty (Lat wr):=⟨⟨wr,Below.refl _ _⟩⟩
     have hmc:m≤cap:=by omega
     have hm0:(0:Int)≤(m:Int):=by omega
     have hmc' : (m:Int)≤(cap:Int):=by omega
     clear hfa
     go_wp2_with fail
     refine text_begin (S:=fun w' => ∃ u:Lat wr,w' = u.val) (by kernel_rfl) ?_
     refine sgr [(0,2),(3,3)] 2 (by kernel_rfl) ⟨⟨_,hW⟩,rfl⟩ ?_
     simp only [pkE]
     repeat go_big_quiet_step (fail)
     refine wpQuiet_nil ?_
     refine ona 2 1 rfl (by kernel_rfl) ?_
     go_wp2
     refine ThenGo.to ⟨⟨⟨_,hW⟩,rfl⟩,?_⟩
     refine cla 6 (some 27) 121 #[.slice (some ⟨b,off,none⟩) m cap,.pointer (some ⟨b,off + m * 4,none⟩)] 0 (by kernel_rfl) ?_
     refine (hkn _ _ (hTk.below hW) (hB4.below hW) hlk).mono ?_
     rintro e w9 ⟨rfl,hb9⟩
     replace hW:=hW.trans (hb9.mono hW.size)
     clear hb9 hkn hB4 hTk
     refine ⟨_,rfl,⟨⟨_,hW⟩,rfl⟩,?_⟩
     simp only [Act.put,pjE]
     refine text_end (by kernel_rfl) ?_
     replace hb:=hb.trans (hW.mono hb.size)
     clear hW hnn
     cases Y with
     | true=>
      have E1:Hid (E=6):=show _=_ by
       have h3:=HGm.out
       have h4:S=6:=HS.out
       rw [h4] at h3
       exact h3.symm
      clear HGm HS
      go_wp2
      go_ret
      rw [E1.out]
      exact ⟨rfl,hb⟩
     | false=>
      have HG2:Hid (lstGo ((ps.map TxnQ.e).take (m + 1)) ((ps.map TxnQ.e).drop (m + 1))=E):=show _=_ by
       have h3:=HGm.out
       have h4:S=0:=HS.out
       rw [h4] at h3
       exact h3
      clear HGm HS
      go_wp2
      go_roundw
      case rel=>exact ⟨m + 1,by omega,by go_num,hb,HG2⟩
      case measure=>simp [intOf];omega
    ·rw [if_neg hC] at HS
     have E1:Hid (E=C):=show _=_ by
      have h3:=HGm.out
      have h4:S=C:=HS.out
      rw [h4,if_neg hC] at h3
      exact h3.symm
     clear HGm HS hkn hTk hB4 hfa
     go_wp2
     go_ret
     rw [E1.out]
     exact ⟨rfl,hb⟩
   ·have E1:Hid (E=0):=by
     show _=_
     rw [← HG.out]
     exact lstGo_end _ _ (by simpa using Nat.le_of_not_lt hltm)
    have hlti2:¬ (m:Int) < (ps.length:Int):=by omega
    clear HG
    go_wp2
    go_ret
    rw [E1.out]
    exact ⟨rfl,hb⟩

end Go.Proofs.YtjjoahhnkpjolaaGreatDoor
namespace Go.Proofs.YtjjoahhnkpjolaaGreatDoor
open Go.RowKit
open Go.BigFrame
set_option maxRecDepth 100000
def sameU (x y:UndoD):Bool:=(x.key == y.key) && ((x.was == y.was) && (x.val == y.val))

def sameUs:List UndoD→List UndoD→Bool
 | [],[]=>true
 | x :: r,y :: s=>sameU x y && sameUs r s
 | _,_=>false

/-- A comparison of two lists, place by place. -/
theorem same_lenUndo {α:Type} {f:α→α→Bool} {g:List α→List α→Bool} (h0:g [] []=true) (h1:∀ x r y s,g (x :: r) (y :: s)=(f x y && g r s)) (h2:∀ x r,g (x :: r) []=false) (h3:∀ y s,g [] (y :: s)=false) :
  ∀ a b,a.length≠b.length→g a b=false:=by
 intro a
 induction a with
 | nil=>intro b h;cases b with | nil=>simp at h | cons y s=>exact h3 y s
 | cons x r ih=>intro b h;cases b with | nil=>exact h2 x r | cons y s=>rw [h1,ih s (by simpa using h)];simp

theorem same_badUndo {α:Type} {f:α→α→Bool} {g:List α→List α→Bool} (d:α) (h1:∀ x r y s,g (x :: r) (y :: s)=(f x y && g r s)) :
  ∀ a b k,a.length=b.length→k < a.length→f (a.getD k d) (b.getD k d)=false→g a b=false:=by
 intro a
 induction a with
 | nil=>intro b k _ h;simp at h
 | cons x r ih=>
  intro b k hl hk hf
  cases b with
  | nil=>simp at hl
  | cons y s=>
   rw [h1]
   cases k with
   | zero=>simp [List.getD] at hf;simp [hf]
   | succ k=>rw [ih s k (by simpa using hl) (by simpa using hk) (by simpa [List.getD] using hf)];simp

theorem same_allUndo {α:Type} {f:α→α→Bool} {g:List α→List α→Bool} (d:α) (h0:g [] []=true) (h1:∀ x r y s,g (x :: r) (y :: s)=(f x y && g r s)) :
  ∀ a b,a.length=b.length→(∀ k,k < a.length→f (a.getD k d) (b.getD k d)=true)→g a b=true:=by
 intro a
 induction a with
 | nil=>intro b hl _;cases b with | nil=>exact h0 | cons y s=>simp at hl
 | cons x r ih=>
  intro b hl hf
  cases b with
  | nil=>simp at hl
  | cons y s=>
   rw [h1,ih s (by simpa using hl) (fun k hk=>by simpa [List.getD] using hf (k + 1) (by simpa using hk))]
   have:=hf 0 (by simp)
   simp [List.getD] at this
   simp [this]

theorem eqUndo_run (x0:Int) (x1:Bool) (x2 y0:Int) (y1:Bool) (y2:Int) (w:World):(binOp .neq 223 (.agg #[.int .i64 x0,.bool x1,.int .i64 x2]) (.agg #[.int .i64 y0,.bool y1,.int .i64 y2])).run Tryz.prog w=.ok (.bool (!sameU ⟨x0,x1,x2⟩ ⟨y0,y1,y2⟩)) w:=by
 rw [run_neq_struct,run_equalIn_struct (P:=Tryz.prog) w 9999 223 _ _ (by kernel_rfl) (by kernel_rfl)]
 have c1:Tryz.prog.cellsOf 2=1:=by kernel_rfl
 have c2:Tryz.prog.cellsOf 4=1:=by kernel_rfl
 cases h0:(x0 == y0) <;> cases h1:(x1 == y1) <;> cases h2:(x2 == y2) <;> simp [Program.fieldsOf,Tryz.underlying223,Op.eqFields,go_sem,Tryz.underlying2,Tryz.underlying4,h0,h1,h2,sameU,c1,c2]

set_option maxHeartbeats 2000000 in
theorem equalU_any (a a' : Option Addr) (cap cap' : Nat) (xs ys:List UndoD) (w:World) (h:UndoRow w a xs) (h' : UndoRow w a' ys) (hl:xs.length≤1048576) (hl' : ys.length≤1048576) :
  Calls Tryz.prog 215 #[.slice a xs.length cap,.slice a' ys.length cap'] w fun e w' => e=.returned (.bool (sameUs xs ys))∧Below w.heap.size w w' := by
 by_cases hlen:xs.length=ys.length
 case neg=>
  have E:sameUs xs ys=false:=same_lenUndo (f:=sameU) rfl (fun _ _ _ _=>rfl) (fun _ _=>rfl) (fun _ _=>rfl) xs ys hlen
  rw [E]
  have hd:((xs.length:Int) != (ys.length:Int))=true:=by simp;omega
  go_enter Tryz.func215,Tryz.ntmps215
  go_wp2
  go_ret
  exact ⟨rfl,Below.refl _ _⟩
 case pos=>
  have hd:((xs.length:Int) != (ys.length:Int))=false:=by simp [hlen]
  have HL:Hid (xs.length=ys.length):=hlen
  clear hlen
  go_enter Tryz.func215,Tryz.ntmps215
  go_wp2
  go_loopw [13] (fun i wr=>∃ k m:Nat,k≤xs.length∧i=.int .i64 k∧wr=w.drewN m∧Hid (∀ j,j < k→sameU (xs.getD j undoNo) (ys.getD j undoNo)=true)) (fun i _=>xs.length - (intOf i).toNat)
  case atStart=>exact ⟨0,0,Nat.zero_le _,rfl,rfl,fun j hj=>absurd hj (Nat.not_lt_zero _)⟩
  case round=>
   obtain ⟨k,m,hk,rfl,rfl,HA⟩:=hrel
   by_cases hlt:k < xs.length
   ·have hlt' : k < ys.length:=by have:=HL.out;omega
    obtain ⟨b,off,rfl,hbs,hc0,hc1,hc2⟩:=h.at k hlt
    obtain ⟨b',off',rfl,hbs',hd0,hd1,hd2⟩:=h'.at k hlt'
    cases hs:sameU (xs.getD k undoNo) (ys.getD k undoNo)
    case false=>
     have E:Hid (sameUs xs ys=false):=same_badUndo (f:=sameU) undoNo (fun _ _ _ _=>rfl) xs ys k HL.out hlt hs
     have hr:=eqUndo_run (xs.getD k undoNo).key (xs.getD k undoNo).was (xs.getD k undoNo).val (ys.getD k undoNo).key (ys.getD k undoNo).was (ys.getD k undoNo).val
     rw [show sameU ⟨(xs.getD k undoNo).key,(xs.getD k undoNo).was,(xs.getD k undoNo).val⟩ ⟨(ys.getD k undoNo).key,(ys.getD k undoNo).was,(ys.getD k undoNo).val⟩=false from hs,Bool.not_false] at hr
     clear HA hs
     generalize xs.getD k undoNo=z at hc0 hc1 hc2 hr
     generalize ys.getD k undoNo=z' at hd0 hd1 hd2 hr
     go_wp2
     go_quiet (fail)
     go_wp2
     go_ret
     rw [E.out]
     exact ⟨rfl,(Below.refl _ _).trans ⟨rfl,rfl,rfl,Nat.le_refl _,fun _ _=>rfl⟩⟩
    case true=>
     have HB:Hid (∀ j,j < k + 1→sameU (xs.getD j undoNo) (ys.getD j undoNo)=true):=by
      intro j hj
      by_cases hjk:j=k
      ·subst hjk;exact hs
      ·exact HA.out j (by omega)
     have hr:=eqUndo_run (xs.getD k undoNo).key (xs.getD k undoNo).was (xs.getD k undoNo).val (ys.getD k undoNo).key (ys.getD k undoNo).was (ys.getD k undoNo).val
     rw [show sameU ⟨(xs.getD k undoNo).key,(xs.getD k undoNo).was,(xs.getD k undoNo).val⟩ ⟨(ys.getD k undoNo).key,(ys.getD k undoNo).was,(ys.getD k undoNo).val⟩=true from hs,Bool.not_true] at hr
     clear HA hs
     generalize xs.getD k undoNo=z at hc0 hc1 hc2 hr
     generalize ys.getD k undoNo=z' at hd0 hd1 hd2 hr
     go_wp2
     go_quiet (fail)
     go_wp2
     go_roundw
     case rel=>exact ⟨k + 1,_,by omega,by go_num,rfl,HB⟩
     case measure=>simp [intOf];omega
   ·have E:Hid (sameUs xs ys=true):=same_allUndo (f:=sameU) undoNo rfl (fun _ _ _ _=>rfl) xs ys HL.out (fun j hj=>HA.out j (by omega))
    clear HA
    go_wp2
    go_ret
    rw [E.out]
    exact ⟨rfl,(Below.refl _ _).trans ⟨rfl,rfl,rfl,Nat.le_refl _,fun _ _=>rfl⟩⟩

set_option maxHeartbeats 2000000 in
theorem specSameUndo_any (a a' : Option Addr) (cap cap' : Nat) (xs ys:List UndoD) (w:World) (h:UndoRow w a xs) (h' : UndoRow w a' ys) (hl:xs.length≤1048576) (hl' : ys.length≤1048576) :
  Calls Tryz.prog 198 #[.slice a xs.length cap,.slice a' ys.length cap'] w fun e w' => e=.returned (.bool (sameUs xs ys))∧Below w.heap.size w w' := by
 by_cases hlen:xs.length=ys.length
 case neg=>
  have E:sameUs xs ys=false:=same_lenUndo (f:=sameU) rfl (fun _ _ _ _=>rfl) (fun _ _=>rfl) (fun _ _=>rfl) xs ys hlen
  rw [E]
  have hd:((xs.length:Int) != (ys.length:Int))=true:=by simp;omega
  go_enter Tryz.func198,Tryz.ntmps198
  go_wp2
  go_ret
  exact ⟨rfl,Below.refl _ _⟩
 case pos=>
  have hd:((xs.length:Int) != (ys.length:Int))=false:=by simp [hlen]
  have HL:Hid (xs.length=ys.length):=hlen
  clear hlen
  go_enter Tryz.func198,Tryz.ntmps198
  go_wp2
  go_loopw [5] (fun i wr=>∃ k m:Nat,k≤xs.length∧i=.int .i64 k∧wr=w.drewN m∧Hid (∀ j,j < k→sameU (xs.getD j undoNo) (ys.getD j undoNo)=true)) (fun i _=>xs.length - (intOf i).toNat)
  case atStart=>exact ⟨0,0,Nat.zero_le _,rfl,rfl,fun j hj=>absurd hj (Nat.not_lt_zero _)⟩
  case round=>
   obtain ⟨k,m,hk,rfl,rfl,HA⟩:=hrel
   by_cases hlt:k < xs.length
   ·have hlt' : k < ys.length:=by have:=HL.out;omega
    obtain ⟨b,off,rfl,hbs,hc0,hc1,hc2⟩:=h.at k hlt
    obtain ⟨b',off',rfl,hbs',hd0,hd1,hd2⟩:=h'.at k hlt'
    cases hs:sameU (xs.getD k undoNo) (ys.getD k undoNo)
    case false=>
     have E:Hid (sameUs xs ys=false):=same_badUndo (f:=sameU) undoNo (fun _ _ _ _=>rfl) xs ys k HL.out hlt hs
     have hr:=eqUndo_run (xs.getD k undoNo).key (xs.getD k undoNo).was (xs.getD k undoNo).val (ys.getD k undoNo).key (ys.getD k undoNo).was (ys.getD k undoNo).val
     rw [show sameU ⟨(xs.getD k undoNo).key,(xs.getD k undoNo).was,(xs.getD k undoNo).val⟩ ⟨(ys.getD k undoNo).key,(ys.getD k undoNo).was,(ys.getD k undoNo).val⟩=false from hs,Bool.not_false] at hr
     clear HA hs
     generalize xs.getD k undoNo=z at hc0 hc1 hc2 hr
     generalize ys.getD k undoNo=z' at hd0 hd1 hd2 hr
     go_wp2
     go_quiet (fail)
     go_wp2
     go_ret
     rw [E.out]
     exact ⟨rfl,(Below.refl _ _).trans ⟨rfl,rfl,rfl,Nat.le_refl _,fun _ _=>rfl⟩⟩
    case true=>
     have HB:Hid (∀ j,j < k + 1→sameU (xs.getD j undoNo) (ys.getD j undoNo)=true):=by
      intro j hj
      by_cases hjk:j=k
      ·subst hjk;exact hs
      ·exact HA.out j (by omega)
     have hr:=eqUndo_run (xs.getD k undoNo).key (xs.getD k undoNo).was (xs.getD k undoNo).val (ys.getD k undoNo).key (ys.getD k undoNo).was (ys.getD k undoNo).val
     rw [show sameU ⟨(xs.getD k undoNo).key,(xs.getD k undoNo).was,(xs.getD k undoNo).val⟩ ⟨(ys.getD k undoNo).key,(ys.getD k undoNo).was,(ys.getD k undoNo).val⟩=true from hs,Bool.not_true] at hr
     clear HA hs
     generalize xs.getD k undoNo=z at hc0 hc1 hc2 hr
     generalize ys.getD k undoNo=z' at hd0 hd1 hd2 hr
     go_wp2
     go_quiet (fail)
     go_wp2
     go_roundw
     case rel=>exact ⟨k + 1,_,by omega,by go_num,rfl,HB⟩
     case measure=>simp [intOf];omega
   ·have E:Hid (sameUs xs ys=true):=same_allUndo (f:=sameU) undoNo rfl (fun _ _ _ _=>rfl) xs ys HL.out (fun j hj=>HA.out j (by omega))
    clear HA
    go_wp2
    go_ret
    rw [E.out]
    exact ⟨rfl,(Below.refl _ _).trans ⟨rfl,rfl,rfl,Nat.le_refl _,fun _ _=>rfl⟩⟩

set_option maxHeartbeats 1000000 in
theorem implSameUndo_any (a a' : Option Addr) (cap cap' : Nat) (xs ys:List UndoD) (w:World) (h:UndoRow w a xs) (h' : UndoRow w a' ys) (hl:xs.length≤1048576) (hl' : ys.length≤1048576) :
  Calls Tryz.prog 179 #[.slice a xs.length cap,.slice a' ys.length cap'] w fun e w' => e=.returned (.bool (sameUs xs ys))∧Below w.heap.size w w' := by
 have hq:=fun w h h' => equalU_any a a' cap cap' xs ys w h h' hl hl'
 generalize sameUs xs ys=r at hq
 go_enter Tryz.func179,Tryz.ntmps179
 go_wp2_with fail
 refine (hq _ h h').mono ?_
 rintro e w' ⟨rfl,hb⟩
 go_wp2
 go_ret
 exact ⟨rfl,hb⟩

end Go.Proofs.YtjjoahhnkpjolaaGreatDoor
namespace Go.Proofs.YtjjoahhnkpjolaaGreatDoor
open Go.RowKit
open Go.BigFrame
set_option maxRecDepth 100000
def sameI (x y:ItemD):Bool:=(x.key == y.key) && (x.val == y.val)

def sameIs:List ItemD→List ItemD→Bool
 | [],[]=>true
 | x :: r,y :: s=>sameI x y && sameIs r s
 | _,_=>false

/-- A comparison of two lists, place by place. -/
theorem same_lenItem {α:Type} {f:α→α→Bool} {g:List α→List α→Bool} (h0:g [] []=true) (h1:∀ x r y s,g (x :: r) (y :: s)=(f x y && g r s)) (h2:∀ x r,g (x :: r) []=false) (h3:∀ y s,g [] (y :: s)=false) :
  ∀ a b,a.length≠b.length→g a b=false:=by
 intro a
 induction a with
 | nil=>intro b h;cases b with | nil=>simp at h | cons y s=>exact h3 y s
 | cons x r ih=>intro b h;cases b with | nil=>exact h2 x r | cons y s=>rw [h1,ih s (by simpa using h)];simp

theorem same_badItem {α:Type} {f:α→α→Bool} {g:List α→List α→Bool} (d:α) (h1:∀ x r y s,g (x :: r) (y :: s)=(f x y && g r s)) :
  ∀ a b k,a.length=b.length→k < a.length→f (a.getD k d) (b.getD k d)=false→g a b=false:=by
 intro a
 induction a with
 | nil=>intro b k _ h;simp at h
 | cons x r ih=>
  intro b k hl hk hf
  cases b with
  | nil=>simp at hl
  | cons y s=>
   rw [h1]
   cases k with
   | zero=>simp [List.getD] at hf;simp [hf]
   | succ k=>rw [ih s k (by simpa using hl) (by simpa using hk) (by simpa [List.getD] using hf)];simp

theorem same_allItem {α:Type} {f:α→α→Bool} {g:List α→List α→Bool} (d:α) (h0:g [] []=true) (h1:∀ x r y s,g (x :: r) (y :: s)=(f x y && g r s)) :
  ∀ a b,a.length=b.length→(∀ k,k < a.length→f (a.getD k d) (b.getD k d)=true)→g a b=true:=by
 intro a
 induction a with
 | nil=>intro b hl _;cases b with | nil=>exact h0 | cons y s=>simp at hl
 | cons x r ih=>
  intro b hl hf
  cases b with
  | nil=>simp at hl
  | cons y s=>
   rw [h1,ih s (by simpa using hl) (fun k hk=>by simpa [List.getD] using hf (k + 1) (by simpa using hk))]
   have:=hf 0 (by simp)
   simp [List.getD] at this
   simp [this]

theorem eqItem_run (x0 x1 y0 y1:Int) (w:World):(binOp .neq 173 (.agg #[.int .i64 x0,.int .i64 x1]) (.agg #[.int .i64 y0,.int .i64 y1])).run Tryz.prog w=.ok (.bool (!sameI ⟨x0,x1⟩ ⟨y0,y1⟩)) w:=by
 rw [run_neq_struct,run_equalIn_struct (P:=Tryz.prog) w 9999 173 _ _ (by kernel_rfl) (by kernel_rfl)]
 have c1:Tryz.prog.cellsOf 2=1:=by kernel_rfl
 cases h0:(x0 == y0) <;> cases h1:(x1 == y1) <;> simp [Program.fieldsOf,Tryz.underlying173,Op.eqFields,go_sem,Tryz.underlying2,h0,h1,sameI,c1]

set_option maxHeartbeats 2000000 in
theorem equalI_any (a a' : Option Addr) (cap cap' : Nat) (xs ys:List ItemD) (w:World) (h:ItemRow w a xs) (h' : ItemRow w a' ys) (hl:xs.length≤1048576) (hl' : ys.length≤1048576) :
  Calls Tryz.prog 214 #[.slice a xs.length cap,.slice a' ys.length cap'] w fun e w' => e=.returned (.bool (sameIs xs ys))∧Below w.heap.size w w' := by
 by_cases hlen:xs.length=ys.length
 case neg=>
  have E:sameIs xs ys=false:=same_lenItem (f:=sameI) rfl (fun _ _ _ _=>rfl) (fun _ _=>rfl) (fun _ _=>rfl) xs ys hlen
  rw [E]
  have hd:((xs.length:Int) != (ys.length:Int))=true:=by simp;omega
  go_enter Tryz.func214,Tryz.ntmps214
  go_wp2
  go_ret
  exact ⟨rfl,Below.refl _ _⟩
 case pos=>
  have hd:((xs.length:Int) != (ys.length:Int))=false:=by simp [hlen]
  have HL:Hid (xs.length=ys.length):=hlen
  clear hlen
  go_enter Tryz.func214,Tryz.ntmps214
  go_wp2
  go_loopw [13] (fun i wr=>∃ k m:Nat,k≤xs.length∧i=.int .i64 k∧wr=w.drewN m∧Hid (∀ j,j < k→sameI (xs.getD j itemNo) (ys.getD j itemNo)=true)) (fun i _=>xs.length - (intOf i).toNat)
  case atStart=>exact ⟨0,0,Nat.zero_le _,rfl,rfl,fun j hj=>absurd hj (Nat.not_lt_zero _)⟩
  case round=>
   obtain ⟨k,m,hk,rfl,rfl,HA⟩:=hrel
   by_cases hlt:k < xs.length
   ·have hlt' : k < ys.length:=by have:=HL.out;omega
    obtain ⟨b,off,rfl,hbs,hc0,hc1⟩:=h.at k hlt
    obtain ⟨b',off',rfl,hbs',hd0,hd1⟩:=h'.at k hlt'
    cases hs:sameI (xs.getD k itemNo) (ys.getD k itemNo)
    case false=>
     have E:Hid (sameIs xs ys=false):=same_badItem (f:=sameI) itemNo (fun _ _ _ _=>rfl) xs ys k HL.out hlt hs
     have hr:=eqItem_run (xs.getD k itemNo).key (xs.getD k itemNo).val (ys.getD k itemNo).key (ys.getD k itemNo).val
     rw [show sameI ⟨(xs.getD k itemNo).key,(xs.getD k itemNo).val⟩ ⟨(ys.getD k itemNo).key,(ys.getD k itemNo).val⟩=false from hs,Bool.not_false] at hr
     clear HA hs
     generalize xs.getD k itemNo=z at hc0 hc1 hr
     generalize ys.getD k itemNo=z' at hd0 hd1 hr
     go_wp2
     go_quiet (fail)
     go_wp2
     go_ret
     rw [E.out]
     exact ⟨rfl,(Below.refl _ _).trans ⟨rfl,rfl,rfl,Nat.le_refl _,fun _ _=>rfl⟩⟩
    case true=>
     have HB:Hid (∀ j,j < k + 1→sameI (xs.getD j itemNo) (ys.getD j itemNo)=true):=by
      intro j hj
      by_cases hjk:j=k
      ·subst hjk;exact hs
      ·exact HA.out j (by omega)
     have hr:=eqItem_run (xs.getD k itemNo).key (xs.getD k itemNo).val (ys.getD k itemNo).key (ys.getD k itemNo).val
     rw [show sameI ⟨(xs.getD k itemNo).key,(xs.getD k itemNo).val⟩ ⟨(ys.getD k itemNo).key,(ys.getD k itemNo).val⟩=true from hs,Bool.not_true] at hr
     clear HA hs
     generalize xs.getD k itemNo=z at hc0 hc1 hr
     generalize ys.getD k itemNo=z' at hd0 hd1 hr
     go_wp2
     go_quiet (fail)
     go_wp2
     go_roundw
     case rel=>exact ⟨k + 1,_,by omega,by go_num,rfl,HB⟩
     case measure=>simp [intOf];omega
   ·have E:Hid (sameIs xs ys=true):=same_allItem (f:=sameI) itemNo rfl (fun _ _ _ _=>rfl) xs ys HL.out (fun j hj=>HA.out j (by omega))
    clear HA
    go_wp2
    go_ret
    rw [E.out]
    exact ⟨rfl,(Below.refl _ _).trans ⟨rfl,rfl,rfl,Nat.le_refl _,fun _ _=>rfl⟩⟩

set_option maxHeartbeats 2000000 in
theorem specSameItems_any (a a' : Option Addr) (cap cap' : Nat) (xs ys:List ItemD) (w:World) (h:ItemRow w a xs) (h' : ItemRow w a' ys) (hl:xs.length≤1048576) (hl' : ys.length≤1048576) :
  Calls Tryz.prog 162 #[.slice a xs.length cap,.slice a' ys.length cap'] w fun e w' => e=.returned (.bool (sameIs xs ys))∧Below w.heap.size w w' := by
 by_cases hlen:xs.length=ys.length
 case neg=>
  have E:sameIs xs ys=false:=same_lenItem (f:=sameI) rfl (fun _ _ _ _=>rfl) (fun _ _=>rfl) (fun _ _=>rfl) xs ys hlen
  rw [E]
  have hd:((xs.length:Int) != (ys.length:Int))=true:=by simp;omega
  go_enter Tryz.func162,Tryz.ntmps162
  go_wp2
  go_ret
  exact ⟨rfl,Below.refl _ _⟩
 case pos=>
  have hd:((xs.length:Int) != (ys.length:Int))=false:=by simp [hlen]
  have HL:Hid (xs.length=ys.length):=hlen
  clear hlen
  go_enter Tryz.func162,Tryz.ntmps162
  go_wp2
  go_loopw [5] (fun i wr=>∃ k m:Nat,k≤xs.length∧i=.int .i64 k∧wr=w.drewN m∧Hid (∀ j,j < k→sameI (xs.getD j itemNo) (ys.getD j itemNo)=true)) (fun i _=>xs.length - (intOf i).toNat)
  case atStart=>exact ⟨0,0,Nat.zero_le _,rfl,rfl,fun j hj=>absurd hj (Nat.not_lt_zero _)⟩
  case round=>
   obtain ⟨k,m,hk,rfl,rfl,HA⟩:=hrel
   by_cases hlt:k < xs.length
   ·have hlt' : k < ys.length:=by have:=HL.out;omega
    obtain ⟨b,off,rfl,hbs,hc0,hc1⟩:=h.at k hlt
    obtain ⟨b',off',rfl,hbs',hd0,hd1⟩:=h'.at k hlt'
    cases hs:sameI (xs.getD k itemNo) (ys.getD k itemNo)
    case false=>
     have E:Hid (sameIs xs ys=false):=same_badItem (f:=sameI) itemNo (fun _ _ _ _=>rfl) xs ys k HL.out hlt hs
     have hr:=eqItem_run (xs.getD k itemNo).key (xs.getD k itemNo).val (ys.getD k itemNo).key (ys.getD k itemNo).val
     rw [show sameI ⟨(xs.getD k itemNo).key,(xs.getD k itemNo).val⟩ ⟨(ys.getD k itemNo).key,(ys.getD k itemNo).val⟩=false from hs,Bool.not_false] at hr
     clear HA hs
     generalize xs.getD k itemNo=z at hc0 hc1 hr
     generalize ys.getD k itemNo=z' at hd0 hd1 hr
     go_wp2
     go_quiet (fail)
     go_wp2
     go_ret
     rw [E.out]
     exact ⟨rfl,(Below.refl _ _).trans ⟨rfl,rfl,rfl,Nat.le_refl _,fun _ _=>rfl⟩⟩
    case true=>
     have HB:Hid (∀ j,j < k + 1→sameI (xs.getD j itemNo) (ys.getD j itemNo)=true):=by
      intro j hj
      by_cases hjk:j=k
      ·subst hjk;exact hs
      ·exact HA.out j (by omega)
     have hr:=eqItem_run (xs.getD k itemNo).key (xs.getD k itemNo).val (ys.getD k itemNo).key (ys.getD k itemNo).val
     rw [show sameI ⟨(xs.getD k itemNo).key,(xs.getD k itemNo).val⟩ ⟨(ys.getD k itemNo).key,(ys.getD k itemNo).val⟩=true from hs,Bool.not_true] at hr
     clear HA hs
     generalize xs.getD k itemNo=z at hc0 hc1 hr
     generalize ys.getD k itemNo=z' at hd0 hd1 hr
     go_wp2
     go_quiet (fail)
     go_wp2
     go_roundw
     case rel=>exact ⟨k + 1,_,by omega,by go_num,rfl,HB⟩
     case measure=>simp [intOf];omega
   ·have E:Hid (sameIs xs ys=true):=same_allItem (f:=sameI) itemNo rfl (fun _ _ _ _=>rfl) xs ys HL.out (fun j hj=>HA.out j (by omega))
    clear HA
    go_wp2
    go_ret
    rw [E.out]
    exact ⟨rfl,(Below.refl _ _).trans ⟨rfl,rfl,rfl,Nat.le_refl _,fun _ _=>rfl⟩⟩

set_option maxHeartbeats 1000000 in
theorem implSameItems_any (a a' : Option Addr) (cap cap' : Nat) (xs ys:List ItemD) (w:World) (h:ItemRow w a xs) (h' : ItemRow w a' ys) (hl:xs.length≤1048576) (hl' : ys.length≤1048576) :
  Calls Tryz.prog 177 #[.slice a xs.length cap,.slice a' ys.length cap'] w fun e w' => e=.returned (.bool (sameIs xs ys))∧Below w.heap.size w w' := by
 have hq:=fun w h h' => equalI_any a a' cap cap' xs ys w h h' hl hl'
 generalize sameIs xs ys=r at hq
 go_enter Tryz.func177,Tryz.ntmps177
 go_wp2_with fail
 refine (hq _ h h').mono ?_
 rintro e w' ⟨rfl,hb⟩
 go_wp2
 go_ret
 exact ⟨rfl,hb⟩

end Go.Proofs.YtjjoahhnkpjolaaGreatDoor
