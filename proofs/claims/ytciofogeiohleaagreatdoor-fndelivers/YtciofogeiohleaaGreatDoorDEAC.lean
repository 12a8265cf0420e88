/- Texts joined,with what the laws reach alone. -/
import Derived.Test.YtciofogeiohleaaGreatDoorDEAB
import Derived.Deep.Slices
import Derived.Deep.Strs
import Derived.ProofKit
import Derived.Test.YtciofogeiohleaaGreatDoorRows
import Derived.Lib.LaidU8
import Derived.OpenVars
import Derived.LaidMore
import Derived.Stop.LaidErr
import Derived.Stop.Joined
set_option linter.unusedVariables false
set_option linter.unusedSimpArgs false
set_option maxRecDepth 100000
set_option maxHeartbeats 4000000
namespace Go.Proofs.YtciofogeiohleaaGreatDoor
open Go.RowKit Go.BigFrame
def stpF(acc:List TxnD)(t:TxnD):Int:=if t.F=0 then(if knw acc t then 6 else 0)else t.F
def z1v:List TxnD→List TxnD→Int
 |_,[]=>0
 |acc,t::r=>if stpF acc t=0 then z1v (acc++[t]) r else stpF acc t
def lstF(ds:List TxnD):Int:=if 40<ds.length then 2 else z1v [] ds
def z6M:List (List TxnD)→Int
 |[]=>0
 |d::r=>if lstF d=0 then z6M r else lstF d
theorem z52(ds:List TxnD)(k:Nat)(hk:k<ds.length):z1v (ds.take k) (ds.drop k)=if stpF (ds.take k) ds[k]=0 then z1v (ds.take (k+1)) (ds.drop (k+1))else stpF (ds.take k) ds[k]:=by
 conv=>lhs;rw[List.drop_eq_getElem_cons hk]
 rw[z1v,List.take_succ_eq_append_getElem hk]
theorem z5g(ds:List TxnD)(k:Nat)(hk:ds.length≤k):z1v (ds.take k) (ds.drop k)=0:=by
 rw[List.drop_of_length_le hk];rfl
theorem z8o(ls:List (List TxnD))(k:Nat)(hk:k<ls.length):z6M (ls.drop k)=if lstF ls[k]=0 then z6M (ls.drop (k+1))else lstF ls[k]:=by
 rw[List.drop_eq_getElem_cons hk,z6M]
theorem Kind.At.rdm{P:Type}{K:Kind P}{w:World}{v:Value}{ps:List P}{p:P}(h:K.At w v ps)(hp:p∈ps):K.rd w p:=by
 obtain⟨a,c,e,hl,hr⟩:=h;exact hr p hp
theorem Blk.setOne{w:World}{b:Nat}{t:TypeId}{x y:Value}(h:Blk w b t #[x]):Blk (w.setCell ⟨b,0,none⟩ y) b t #[y]:=by
 have h1:w.heap[b]?=some (.cells #[x] t (0,0)):=h;show(w.setCell ⟨b,0,none⟩ y).heap[b]?=some (.cells #[y] t (0,0));simp[World.setCell,Array.getElem?_modify,h1]
theorem z4H(p:TxnQ)(qs:List TxnQ)(bx:Nat)(va:Value)(w:World)(hT:actK.At w p.va p.acts)(hl:p.acts.length≤1048576)(hv:Blk w bx 27 #[va])(ho:w.ownsRow (bx+1) 44 4 va qs.length (txnK.row qs))(U:∀q∈qs,txnK.rd w q)(hq:qs.length≤40):
  Calls Tryz.prog 161 #[.agg #[.int .i64 p.i,.int .i64 p.s,.int .i64 p.q,p.va],.pointer (some ⟨bx,0,none⟩)] w fun e w'=>e=.returned (.int .i64 (stpF (qs.map TxnQ.e) (TxnQ.e p)))∧Below bx w w'∧(stpF (qs.map TxnQ.e) (TxnQ.e p)=0→∃X,Blk w' bx 27 #[X]∧w'.ownsRow (bx+1) 44 4 X (qs++[p]).length (txnK.row (qs++[p]))):=by
 obtain⟨i,s,q,pv,c⟩:=p;dsimp only at hT hl;obtain⟨aa,ac,rfl⟩:=hT.shape;obtain⟨sa,sc,rfl⟩:=z0b ho;obtain⟨i0,hi,ag,ah,ai⟩:=info_parts z0O;have aj:=hv.lt;have hB:Below w.heap.size w (w.alloc (.cells #[.int .i64 i,.int .i64 s,.int .i64 q,.slice aa c.length ac] 44)):=by go_grown
 have hX:=Blk.new w 44 #[.int .i64 i,.int .i64 s,.int .i64 q,.slice aa c.length ac];have L:=z1O i s q aa ac c _ ((z0K hT).2.below hB) hl;replace hv:=hv.below hB;replace ho:=z0a ho hB;have A:txnK.At (w.alloc (.cells #[.int .i64 i,.int .i64 s,.int .i64 q,.slice aa c.length ac] 44)) (.slice sa qs.length sc) qs:=Kind.at_of_row ho (fun q hq=>txnK.rd_below (U q hq) hB);have HS:Hid (stpF (qs.map TxnQ.e) ⟨i,s,q,c⟩=if txnF i s q c=0 then(if knw (qs.map TxnQ.e) ⟨i,s,q,c⟩then 6 else 0)else txnF i s q c):=rfl;dsimp only[TxnQ.e];generalize stpF (qs.map TxnQ.e) ⟨i,s,q,c⟩=S at*;generalize txnF i s q c=C at*;clear hT U;go_enter Tryz.func161,Tryz.ntmps161
 go_wp2_with fail
 have Z:=hB.size;have am:w.heap.size<(w.alloc (.cells #[.int .i64 i,.int .i64 s,.int .i64 q,.slice aa c.length ac] 44)).heap.size:=by simp
 generalize w.heap.size=H at*;generalize w.alloc (.cells #[.int .i64 i,.int .i64 s,.int .i64 q,.slice aa c.length ac] 44)=W at*;refine L.mono ?_;rintro e w1 ⟨rfl,d⟩;replace hv:=hv.below d;replace ho:=z0a ho d;replace hX:=hX.below d;replace A:=A.below d;replace hB:=hB.trans (d.mono Z);by_cases hC:C=0
 ·subst hC;rw[if_pos rfl]at HS;have hh:=z1r (.slice sa qs.length sc) qs ⟨i,s,q,c⟩ aa c.length ac w1 A (by omega);dsimp only at hh;obtain⟨x0,x1,x2,x3⟩:=hX.cel4;have v0:=hv.cell 0 _ rfl;generalize knw (qs.map TxnQ.e) ⟨i,s,q,c⟩=Y at*;clear L A
  go_wp2_with fail
  refine hh.mono ?_;rintro e w2 ⟨rfl,y⟩;clear x0 x1 x2 x3 v0 hh;replace hv:=hv.below y;replace ho:=z0a ho y;replace hX:=hX.below y;have ak:=y.size;have ae:=d.size;replace hB:=hB.trans (y.mono (by omega));clear d y
  cases Y with
  |true=>
   have z:Hid (S=6):=HS.out;clear HS
   go_wp2
   go_ret;rw[z.out];exact⟨rfl,hB.mono (by omega),fun h0=>absurd h0 (by decide)⟩
  |false=>
   have z:Hid (S=0):=HS.out;clear HS;obtain⟨x0,x1,x2,x3⟩:=hX.cel4;have v0:=hv.cell 0 _ rfl;have E:Below w2.heap.size w2 (w2.alloc (.cells #[.int .i64 i,.int .i64 s,.int .i64 q,.slice aa c.length ac] 44)):=by go_grown
   have V:=hv.below E;have I:=z0a ho E;have M:=hB.trans (E.mono (by omega));have al:=E.size;clear hv ho hB hX
   go_wp2_with (at_builtin;refine wpList_append_own_at _ rfl _ _ 27 rfl (bx+1) 44 i0 (.agg #[.int .i64 0,.int .i64 0,.int .i64 0,.slice none 0 0]) 4 48 Tryz.underlying27 hi ag ah ai rfl (by decide) _ qs.length (txnK.row qs) rfl I ⟨w2.heap.size,0,none⟩ 1 1 [.int .i64 i,.int .i64 s,.int .i64 q,.slice aa c.length ac] rfl rfl ?c1 ?c2 ?c3 ?c4 ?c5 ?_)
   all_goals try(case c1=>intro j u hj;match j,hj with|0,hj=>simp at hj;subst hj;simp[Addr.add]|1,hj=>simp at hj;subst hj;simp[Addr.add]|2,hj=>simp at hj;subst hj;simp[Addr.add]|3,hj=>simp at hj;subst hj;simp[Addr.add])
   all_goals try(case c2=>intro u hu;simp at hu;rcases hu with rfl|rfl|rfl|rfl<;>rfl)
   all_goals try(case c3=>unfold maxLen;omega)
   all_goals try(case c4=>omega)
   all_goals try(case c5=>omega)
   intro v' w5 x h T N;obtain⟨a6,c6,rfl⟩:=z0b x;have D:Blk w5 bx 27 #[.slice sa qs.length sc]:=V.grown h (fun e=>by have:=(I.lt bx e.symm).1;omega);have O:Below bx w w5:=(M.mono (show bx≤_ by omega)).grown h (by omega) (fun j hj=>by have:=(I.lt j hj).1;omega);have J:txnK.row (qs++[(⟨i,s,q,.slice aa c.length ac,c⟩:TxnQ)])=txnK.row qs++[.int .i64 i,.int .i64 s,.int .i64 q,.slice aa c.length ac]:=by simp[Kind.row];rfl
   have f5:=D.frozen 0;have c5:=D.cell 0 _ rfl;have ab:Below bx w (w5.setCell ⟨bx,0,none⟩ (.slice a6 (qs.length+1) c6)):=Out.keep O (Out.setCell w5 bx 0 _) (by have:=D.lt;omega) (fun k hk=>by simp at hk;omega);have af:Blk (w5.setCell ⟨bx,0,none⟩ (.slice a6 (qs.length+1) c6)) bx 27 #[.slice a6 (qs.length+1) c6]:=D.setOne;have ad:(w5.setCell ⟨bx,0,none⟩ (.slice a6 (qs.length+1) c6)).ownsRow (bx+1) 44 4 (.slice a6 (qs.length+1) c6) (qs++[(⟨i,s,q,.slice aa c.length ac,c⟩:TxnQ)]).length (txnK.row (qs++[(⟨i,s,q,.slice aa c.length ac,c⟩:TxnQ)])):=by
    rw[J,List.length_append];refine z0J x (Out.setCell w5 bx 0 _) (fun k hk e=>?_);simp only[List.mem_singleton]at e;subst e;have:=(x.lt k (by simpa[blk]using hk)).1;omega
   clear x h T N J I V O M D x0 x1 x2 x3 v0
   go_wp2
   go_ret;rw[z.out];exact⟨rfl,ab,fun _=>⟨_,af,ad⟩⟩
 ·rw[if_neg hC]at HS;have z:Hid (S=C):=HS.out;clear HS L A;have ae:=d.size
  go_wp2
  go_ret;rw[z.out];exact⟨rfl,hB.mono (by omega),fun h0=>absurd h0 hC⟩
theorem z4I(w:World):Calls Tryz.prog 104 #[] w fun e w'=>e=.returned (.func (.func 161) #[] #[.pointer (some ⟨w.heap.size,0,none⟩)])∧w'=w.alloc (.cells #[.slice none 0 0] 27):=by
 have hmf:∀ (fn:Fn) (first cap:Array Value) (w:World),(Instr.makeFunc fn first cap).run Tryz.prog w=.ok (.func fn first cap) w:=fun _ _ _ _=>rfl
 go_enter Tryz.func104,Tryz.ntmps104
 go_wp2
 go_ret;exact⟨rfl,rfl⟩
theorem z2c(b cap:Nat)(ls:List (Value × List TxnQ))(w:World)(aw:b<w.heap.size)(hc:∀ (k:Nat) (hk:k<ls.length),w.cell? ⟨b,k,none⟩=some ls[k].1)(hA:∀l∈ls,txnK.At w l.1 l.2)(hl:∀l∈ls,l.2.length+nmL TxnQ.n l.2≤1048576)(h2:ls.length≤2):
  Calls Tryz.prog 57 #[.slice (some ⟨b,0,none⟩) ls.length cap] w fun e w'=>e=.returned (.int .i64 (z6M (ls.map (fun l=>l.2.map TxnQ.e))))∧Below w.heap.size w w':=by
 generalize hE:z6M (ls.map (fun l=>l.2.map TxnQ.e))=E;have HE:Hid (z6M ((ls.map (fun l=>l.2.map TxnQ.e)).drop 0)=E):=hE;clear hE;go_enter Tryz.func57,Tryz.ntmps57
 go_wp2
 go_loopw[11] (fun j wr=>∃k:Nat,k≤ls.length∧j=.int .i64 k∧Below w.heap.size w wr∧Hid (z6M ((ls.map (fun l=>l.2.map TxnQ.e)).drop k)=E)) (fun j _=>ls.length-(intOf j).toNat)
 case atStart=>exact⟨0,Nat.zero_le _,rfl,Below.refl _ _,HE⟩
 case round=>
  clear HE;obtain⟨k,hk,rfl,hb,HE⟩:=hrel;obtain⟨U,rfl⟩:∃U,U=wr:=⟨_,rfl⟩
  by_cases D:k<ls.length
  ·have d:Hid ((if lstF (ls[k].2.map TxnQ.e)=0 then z6M ((ls.map (fun l=>l.2.map TxnQ.e)).drop (k+1))else lstF (ls[k].2.map TxnQ.e))=E):=show _=_ by
    have:=HE.out;rw[z8o _ k (by simpa using D)]at this;simpa using this
   have ag:=(hb.cell (p:=⟨b,k,none⟩) aw).trans (hc k D);have L:=(hA _ (List.getElem_mem D)).below hb;have V:=hl _ (List.getElem_mem D);generalize ls[k]=l at*;obtain⟨v,ps⟩:=l;dsimp only at ag L V d;obtain⟨a,cp,rfl⟩:=L.shape;clear HE;have aj:(k:Int)<(ls.length:Int):=by omega
   by_cases ab:40<ps.length
   ·have E1:Hid (E=2):=show _=_ by
     have:=d.out;have e2:lstF (ps.map TxnQ.e)=2:=by unfold lstF;rw[List.length_map,if_pos ab]
     rw[e2]at this;exact this.symm
    clear d;have ad:(40:Int)<(ps.length:Int):=by omega
    go_wp2
    go_ret;rw[E1.out];exact⟨rfl,hb⟩
   ·have ad:¬(40:Int)<(ps.length:Int):=by omega
    have X:Hid (z1v (((ps.map TxnQ.e)).take 0) ((ps.map TxnQ.e).drop 0)=lstF (ps.map TxnQ.e)):=show _=_ by unfold lstF;rw[List.length_map,if_neg ab];rfl
    have ai:=z4I U;have af:Below U.heap.size U (U.alloc (.cells #[.slice none 0 0] 27)):=by go_grown
    have an:=Blk.new U 27 #[.slice none 0 0];have ak:=World.ownsRow_nil (U.alloc (.cells #[.slice none 0 0] 27)) (U.heap.size+1) 44 4;have ao:=hb.size
    go_wp2_with fail
    clear ag;refine ai.mono ?_;rintro e w2 ⟨rfl,rfl⟩;clear ai;generalize au:U.heap.size=bx at*;generalize hY:U.alloc (.cells #[.slice none 0 0] 27)=Y at*;clear hY
    go_wp2
    go_loopw[21] (fun j wy=>∃ (m:Nat) (va:Value),m≤ps.length∧j=.int .i64 m∧Blk wy bx 27 #[va]∧wy.ownsRow (bx+1) 44 4 va (ps.take m).length (txnK.row (ps.take m))∧Below bx U wy∧Hid (z1v ((ps.map TxnQ.e).take m) ((ps.map TxnQ.e).drop m)=lstF (ps.map TxnQ.e))) (fun j _=>ps.length-(intOf j).toNat)
    case atStart=>exact⟨0,_,Nat.zero_le _,rfl,an,ak,af,X⟩
    case round=>
     clear an ak af X;obtain⟨m,va,hm,rfl,hv,ho,z,HG⟩:=hrel;by_cases c:m<ps.length
     ·have J:Hid ((if stpF ((ps.map TxnQ.e).take m) (TxnQ.e ps[m])=0 then z1v ((ps.map TxnQ.e).take (m+1)) ((ps.map TxnQ.e).drop (m+1))else stpF ((ps.map TxnQ.e).take m) (TxnQ.e ps[m]))=lstF (ps.map TxnQ.e)):=show _=_ by
       have:=HG.out;rw[z52 _ m (by simpa using c)]at this;simpa using this
      have A:Below U.heap.size U wr:=by rw[au];exact z
      obtain⟨b',az,rfl,aC,ah,al⟩:=(L.below A).cell (by decide) m c;have C:∀j x,(txnK.cells ps[m])[j]?=some x→wr.cell? ⟨b',az+m*4+j,none⟩=some x:=ah;have c0:=C 0 (.int .i64 ps[m].i) rfl;have c1:=C 1 (.int .i64 ps[m].s) rfl;have c2:=C 2 (.int .i64 ps[m].q) rfl;have c3:=C 3 (ps[m].va) rfl;rw[Nat.add_zero]at c0;have ap:=z2t TxnQ.n ps m c;have am:ps.take (m+1)=ps.take m++[ps[m]]:=List.take_succ_eq_append_getElem c;have O:∀q∈ps.take m,txnK.rd wr q:=fun q hq=>(L.below A).rdm (List.mem_of_mem_take hq)
      have V:(ps.take m).length≤40:=by rw[List.length_take];omega
      have N:=z4H ps[m] (ps.take m) bx va;rw[List.map_take,←am]at N;clear HG ah C am;generalize hS:stpF ((ps.map TxnQ.e).take m) (TxnQ.e ps[m])=S at*;clear hS;generalize ps[m]=p at*;obtain⟨i,s,q,aA,h⟩:=p;have I:actK.At wr aA h:=al;replace ap:h.length≤nmL TxnQ.n ps:=ap;obtain⟨aa,ac,rfl⟩:=I.shape;dsimp only at c0 c1 c2 c3 N;have W:(m:Int)<(ps.length:Int):=by omega
      have y:Below wr.heap.size wr (wr.alloc (.cells #[.int .i64 i,.int .i64 s,.int .i64 q,.slice aa h.length ac] 44)):=by go_grown
      have hq:=N _ (I.below y) (by omega) (hv.below y) (z0a ho y) (fun q hq=>txnK.rd_below (O q hq) y) V;have M:=z.trans (y.mono (by have:=hv.lt;omega));clear N y hv ho I al O z A
      go_wp2_with fail
      clear c0 c1 c2 c3;generalize wr.alloc (.cells #[.int .i64 i,.int .i64 s,.int .i64 q,.slice aa h.length ac] 44)=Z at*;refine hq.mono ?_;rintro e w3 ⟨rfl,ae,hI⟩;replace M:=M.trans ae;clear hq ae;by_cases T:S=0
      ·subst T;obtain⟨aB,ay,ax⟩:=hI rfl;clear hI;have ar:Hid (z1v ((ps.map TxnQ.e).take (m+1)) ((ps.map TxnQ.e).drop (m+1))=lstF (ps.map TxnQ.e)):=show _=_ by
        have:=J.out;rw[if_pos rfl]at this;exact this
       clear J
       go_wp2
       go_roundw
       case rel=>exact⟨m+1,aB,by omega,by go_num,ay,ax,M,ar⟩
       case measure=>simp[intOf];omega
      ·have E1:Hid (E=S):=show _=_ by
        have h3:=J.out;rw[if_neg T]at h3;have h4:=d.out;rw[←h3,if_neg T]at h4;exact h4.symm
       clear J d hI
       go_wp2
       go_ret;rw[E1.out];exact⟨rfl,hb.trans (M.mono ao)⟩
     ·have h0:lstF (ps.map TxnQ.e)=0:=by rw[←HG.out];exact z5g _ _ (by simpa using Nat.le_of_not_lt c)
      have aq:Hid (z6M ((ls.map (fun l=>l.2.map TxnQ.e)).drop (k+1))=E):=show _=_ by
       have:=d.out;rw[if_pos h0]at this;exact this
      have W:¬(m:Int)<(ps.length:Int):=by omega
      have av:Below w.heap.size w wr:=hb.trans (z.mono ao);clear HG d hv ho z
      go_wp2
      go_roundw
      case rel=>exact⟨k+1,by omega,by go_num,av,aq⟩
      case measure=>simp[intOf];omega
  ·have E1:Hid (E=0):=by
    show _=_;rw[←HE.out,List.drop_of_length_le (by simpa using Nat.le_of_not_lt D)];rfl
   have aj:¬(k:Int)<(ls.length:Int):=by omega
   clear HE
   go_wp2
   go_ret;rw[E1.out];exact⟨rfl,hb⟩
theorem z1w(v:Value)(ps:List TxnQ)(w:World)(h:txnK.At w v ps)(hl:ps.length+nmL TxnQ.n ps≤1048576):
  Calls Tryz.prog 21 #[v] w fun e w'=>e=.returned (.int .i64 (lstF (ps.map TxnQ.e)))∧Below w.heap.size w w':=by
 have hB:Below w.heap.size w (w.alloc (.cells #[v] 27)):=by go_grown
 have hX:=Blk.new w 27 #[v];have hq:=z2c w.heap.size 1 [(v,ps)] (w.alloc (.cells #[v] 27)) hX.lt (fun k hk=>by
  have h0:k=0:=by simpa using hk
  subst h0;exact hX.cell 0 _ rfl) (fun l hl=>by rw [List.mem_singleton.1 hl];exact h.below hB) (fun l hl=>by rw [List.mem_singleton.1 hl];assumption) (by simp)
 have e0:z6M ([(v,ps)].map (fun l:Value × List TxnQ=>l.2.map TxnQ.e))=lstF (ps.map TxnQ.e):=by
  show(if lstF (ps.map TxnQ.e)=0 then 0 else lstF (ps.map TxnQ.e))=_;split
  ·rename_i h0;exact h0.symm
  ·rfl
 rw[e0]at hq;clear e0;generalize lstF (ps.map TxnQ.e)=E at*;obtain⟨a,cap,rfl⟩:=h.shape;clear hX;go_enter Tryz.func21,Tryz.ntmps21
 go_wp2_with fail
 refine Calls.mono (show Calls Tryz.prog _ #[.slice (some ⟨w.heap.size,0,none⟩) 1 1] _ _ from hq) ?_;rintro e w2 ⟨rfl,hb⟩;replace hB:=hB.trans (hb.mono hB.size)
 go_wp2
 go_ret;exact⟨rfl,hB⟩
def bthF(ds ds':List TxnD):Int:=if lstF ds=0 then lstF ds' else lstF ds
theorem z5h(v v':Value)(ps ps':List TxnQ)(w:World)(h:txnK.At w v ps)(h':txnK.At w v' ps')(hl:ps.length+nmL TxnQ.n ps≤1048576)(hl':ps'.length+nmL TxnQ.n ps'≤1048576):
  Calls Tryz.prog 57 #[.slice (some ⟨w.heap.size,0,none⟩) 2 2] (w.alloc (.cells #[v,v'] 27)) fun e w'=>e=.returned (.int .i64 (bthF (ps.map TxnQ.e) (ps'.map TxnQ.e)))∧Below w.heap.size w w':=by
 have hB:Below w.heap.size w (w.alloc (.cells #[v,v'] 27)):=by go_grown
 have hX:=Blk.new w 27 #[v,v'];have hq:=z2c w.heap.size 2 [(v,ps),(v',ps')] (w.alloc (.cells #[v,v'] 27)) hX.lt (fun k hk=>by
  match k,hk with
  |0,_=>exact hX.cell 0 _ rfl
  |1,_=>exact hX.cell 1 _ rfl) (fun l hl=>by
   simp only[List.mem_cons,List.not_mem_nil,or_false]at hl;rcases hl with rfl|rfl
   ·exact h.below hB
   ·exact h'.below hB) (fun l hl=>by
   simp only[List.mem_cons,List.not_mem_nil,or_false]at hl;rcases hl with rfl | rfl <;> assumption) (by simp)
 have e0:z6M ([(v,ps),(v',ps')].map (fun l:Value × List TxnQ=>l.2.map TxnQ.e))=bthF (ps.map TxnQ.e) (ps'.map TxnQ.e):=by
  show(if lstF (ps.map TxnQ.e)=0 then(if lstF (ps'.map TxnQ.e)=0 then 0 else lstF (ps'.map TxnQ.e))else lstF (ps.map TxnQ.e))=bthF _ _;unfold bthF;split
  ·split
   ·rename_i h0;exact h0.symm
   ·rfl
  ·rfl
 rw[e0]at hq;refine Calls.mono (show Calls Tryz.prog _ #[.slice (some ⟨w.heap.size,0,none⟩) 2 2] _ _ from hq) ?_;rintro e w2 ⟨rfl,hb⟩;exact⟨rfl,hB.trans (hb.mono hB.size)⟩
theorem z3z(v:Value)(ps:List TxnQ)(w:World)(h:txnK.At w v ps)(ad:z2k v)(hl:ps.length+nmL TxnQ.n ps≤1048576):
  Calls Tryz.prog 80 #[v] w fun e w'=>e=.returned (.int .i64 (lstF (ps.map TxnQ.e)))∧Below w.heap.size w w':=by
 obtain⟨a,cap,rfl⟩:=h.shape;obtain⟨ah,ai⟩:ps.length≤cap∧cap≤maxLen:=ad;by_cases T:40<ps.length
 ·have e2:lstF (ps.map TxnQ.e)=2:=by unfold lstF;rw[List.length_map,if_pos T]
  rw[e2];have U:(40:Int)<(ps.length:Int):=by omega
  go_enter Tryz.func80,Tryz.ntmps80
  go_wp2
  go_ret;exact⟨rfl,Below.refl _ _⟩
 ·have U:¬(40:Int)<(ps.length:Int):=by omega
  have e2:lstF (ps.map TxnQ.e)=z1v ((ps.map TxnQ.e).take 0) ((ps.map TxnQ.e).drop 0):=by unfold lstF;rw[List.length_map,if_neg T];rfl
  have HE:Hid (z1v ((ps.map TxnQ.e).take 0) ((ps.map TxnQ.e).drop 0)=lstF (ps.map TxnQ.e)):=e2.symm;clear e2;generalize lstF (ps.map TxnQ.e)=E at*;go_enter Tryz.func80,Tryz.ntmps80
  go_wp2
  go_loopw[3] (fun j wr=>∃m:Nat,m≤ps.length∧j=.int .i64 m∧Below w.heap.size w wr∧Hid (z1v ((ps.map TxnQ.e).take m) ((ps.map TxnQ.e).drop m)=E)) (fun j _=>ps.length-(intOf j).toNat)
  case atStart=>exact⟨0,Nat.zero_le _,rfl,Below.refl _ _,HE⟩
  case round=>
   clear HE;obtain⟨m,hm,rfl,hb,HG⟩:=hrel;by_cases y:m<ps.length
   ·have z:Hid ((if stpF ((ps.map TxnQ.e).take m) (TxnQ.e ps[m])=0 then z1v ((ps.map TxnQ.e).take (m+1)) ((ps.map TxnQ.e).drop (m+1))else stpF ((ps.map TxnQ.e).take m) (TxnQ.e ps[m]))=E):=show _=_ by
     have:=HG.out;rw[z52 _ m (by simpa using y)]at this;simpa using this
    have L:=(h.below hb).takeK m hm;obtain⟨b,d,rfl,ak,W,X⟩:=(h.below hb).cell (by decide) m y;have A:∀j x,(txnK.cells ps[m])[j]?=some x→wr.cell? ⟨b,d+m*4+j,none⟩=some x:=W;have c0:=A 0 (.int .i64 ps[m].i) rfl;have c1:=A 1 (.int .i64 ps[m].s) rfl;have c2:=A 2 (.int .i64 ps[m].q) rfl;have c3:=A 3 (ps[m].va) rfl;rw[Nat.add_zero]at c0;have Z:=z2t TxnQ.n ps m y;have D:=fun va w'=>z1j (.slice (some ⟨b,d,none⟩) m cap) (ps.take m) b (d+m*4) (TxnQ.e ps[m]) va w'
    have ae:(ps.take m).length≤1048576:=by rw[List.length_take];omega
    rw[List.map_take]at D;have HS:Hid (stpF ((ps.map TxnQ.e).take m) (TxnQ.e ps[m])=if(TxnQ.e ps[m]).F=0 then(if knw ((ps.map TxnQ.e).take m) (TxnQ.e ps[m])then 6 else 0)else(TxnQ.e ps[m]).F):=rfl;clear HG W A;generalize stpF ((ps.map TxnQ.e).take m) (TxnQ.e ps[m])=S at*;generalize knw ((ps.map TxnQ.e).take m) (TxnQ.e ps[m])=Y at*;generalize ps[m]=p at*;obtain⟨i,s,q,ag,c⟩:=p;have I:actK.At wr ag c:=X;replace Z:c.length≤nmL TxnQ.n ps:=Z;obtain⟨aa,ac,rfl⟩:=I.shape;have e3:(TxnQ.e ⟨i,s,q,.slice aa c.length ac,c⟩).F=txnF i s q c:=rfl;rw[e3]at HS;dsimp only[TxnQ.e]at c0 c1 c2 c3 D;have J:Box4 wr b (d+m*4) (.int .i64 i) (.int .i64 s) (.int .i64 q) (.slice aa c.length ac):=⟨c0,c1,c2,c3⟩
    have M:=z5K b (d+m*4) i s q aa ac c wr J (z0K I).2 (by omega);have N:(m:Int)<(ps.length:Int):=by omega
    generalize txnF i s q c=C at*;clear e3 c0 c1 c2 c3 I X
    go_wp2_with fail
    refine M.mono ?_;rintro e w2 ⟨rfl,O⟩;replace O:=O.symm;subst O;by_cases hC:C=0
    ·subst hC;rw[if_pos rfl]at HS;have hW:Below wr.heap.size wr wr.drew:=(Below.refl _ _).drew;have af:Nonempty (Lat wr):=⟨⟨wr,Below.refl _ _⟩⟩
     have am:m≤cap:=by omega
     have al:(0:Int)≤(m:Int):=by omega
     have aj:(m:Int)≤(cap:Int):=by omega
     clear M
     go_wp2_with fail
     refine z0h (S:=fun w'=>∃u:Lat wr,w'=u.val) (by kernel_rfl) ?_;refine sgr [(0,2),(3,3)] 2 (by kernel_rfl) ⟨⟨_,hW⟩,rfl⟩ ?_;simp only[pkE];repeat go_big_quiet_step (fail)
     refine wpQuiet_nil ?_;refine ona 2 1 rfl (by kernel_rfl) ?_
     go_wp2
     refine ThenGo.to ⟨⟨⟨_,hW⟩,rfl⟩,?_⟩;refine cla 6 (some 27) 103 #[.slice (some ⟨b,d,none⟩) m cap,.pointer (some ⟨b,d+m*4,none⟩)] 0 (by kernel_rfl) ?_;refine(D _ _ (L.below hW) (J.below hW) ae).mono ?_;rintro e w9 ⟨rfl,V⟩;replace hW:=hW.trans (V.mono hW.size);clear V D J L;refine⟨_,rfl,⟨⟨_,hW⟩,rfl⟩,?_⟩;simp only[Act.put,pjE];refine z0k (by kernel_rfl) ?_;replace hb:=hb.trans (hW.mono hb.size);clear hW af
     cases Y with
     |true=>
      have E1:Hid (E=6):=show _=_ by
       have h3:=z.out;have h4:S=6:=HS.out;rw[h4]at h3;exact h3.symm
      clear z HS
      go_wp2
      go_ret;rw[E1.out];exact⟨rfl,hb⟩
     |false=>
      have ab:Hid (z1v ((ps.map TxnQ.e).take (m+1)) ((ps.map TxnQ.e).drop (m+1))=E):=show _=_ by
       have h3:=z.out;have h4:S=0:=HS.out;rw[h4]at h3;exact h3
      clear z HS
      go_wp2
      go_roundw
      case rel=>exact⟨m+1,by omega,by go_num,hb,ab⟩
      case measure=>simp[intOf];omega
    ·rw[if_neg hC]at HS;have E1:Hid (E=C):=show _=_ by
      have h3:=z.out;have h4:S=C:=HS.out;rw[h4,if_neg hC]at h3;exact h3.symm
     clear z HS D L J M
     go_wp2
     go_ret;rw[E1.out];exact⟨rfl,hb⟩
   ·have E1:Hid (E=0):=by
     show _=_;rw[←HG.out];exact z5g _ _ (by simpa using Nat.le_of_not_lt y)
    have N:¬(m:Int)<(ps.length:Int):=by omega
    clear HG
    go_wp2
    go_ret;rw[E1.out];exact⟨rfl,hb⟩
structure RepQ where
 vd:Value
 done:List TxnQ
 vb:Value
 base:List ItemD
 vt:Value
 tent:List TxnQ
 vu:Value
 undos:List USQ
 vn:Value
 now:List ItemD
structure RepE where
 done:List TxnD
 base:List ItemD
 tent:List TxnD
 undos:List (List UndoD)
 now:List ItemD
def RepQ.e(p:RepQ):RepE:=⟨p.done.map TxnQ.e,p.base,p.tent.map TxnQ.e,p.undos.map USQ.e,p.now⟩
def repK:Kind RepQ where
 ty:=57
 size:=5
 cells p:=[p.vd,p.vb,p.vt,p.vu,p.vn]
 own w p:=txnK.Own w p.vd p.done∧itemK.Own w p.vb p.base∧txnK.Own w p.vt p.tent∧ussK.Own w p.vu p.undos∧itemK.Own w p.vn p.now
 rd w p:=txnK.At w p.vd p.done∧itemK.At w p.vb p.base∧txnK.At w p.vt p.tent∧ussK.At w p.vu p.undos∧itemK.At w p.vn p.now
 foot p:=txnK.fp p.vd p.done++(itemK.fp p.vb p.base++(txnK.fp p.vt p.tent++(ussK.fp p.vu p.undos++itemK.fp p.vn p.now)))
 len _:=rfl
 own_rd h:=⟨h.1.at,h.2.1.at,h.2.2.1.at,h.2.2.2.1.at,h.2.2.2.2.at⟩
 own_out h ho hd:=⟨h.1.out ho (fun k hk=>hd k (List.mem_append_left _ hk)),h.2.1.out ho (fun k hk=>hd k (List.mem_append_right _ (List.mem_append_left _ hk))),h.2.2.1.out ho (fun k hk=>hd k (List.mem_append_right _ (List.mem_append_right _ (List.mem_append_left _ hk)))),h.2.2.2.1.out ho (fun k hk=>hd k (List.mem_append_right _ (List.mem_append_right _ (List.mem_append_right _ (List.mem_append_left _ hk))))),h.2.2.2.2.out ho (fun k hk=>hd k (List.mem_append_right _ (List.mem_append_right _ (List.mem_append_right _ (List.mem_append_right _ hk)))))⟩
 own_lt h k hk:=by
  rcases List.mem_append.1 hk with hk|hk
  ·exact h.1.lt k hk
  rcases List.mem_append.1 hk with hk|hk
  ·exact h.2.1.lt k hk
  rcases List.mem_append.1 hk with hk|hk
  ·exact h.2.2.1.lt k hk
  rcases List.mem_append.1 hk with hk|hk
  ·exact h.2.2.2.1.lt k hk
  ·exact h.2.2.2.2.lt k hk
 rd_below h hb:=⟨h.1.below hb,h.2.1.below hb,h.2.2.1.below hb,h.2.2.2.1.below hb,h.2.2.2.2.below hb⟩
def RepQ.n(p:RepQ):Nat:=(p.done.length+nmL TxnQ.n p.done)+p.base.length+(p.tent.length+nmL TxnQ.n p.tent)+(p.undos.length+nmL USQ.n p.undos)+p.now.length
def RepQ.wf(p:RepQ):Prop:=(p.done.length≤9223372036854775807∧∀q∈p.done,TxnQ.wf q)∧p.base.length≤9223372036854775807∧(p.tent.length≤9223372036854775807∧∀q∈p.tent,TxnQ.wf q)∧(p.undos.length≤9223372036854775807∧∀q∈p.undos,USQ.wf q)∧p.now.length≤9223372036854775807
theorem z61{A B:List Nat}{m:Nat}(hA:∀k∈A,k<m)(hB:∀k∈B,m≤k):∀a∈A,∀b∈B,a≠b:=fun a ha b hb e=>by
 have:=hA a ha;have:=hB b hb;omega
def z1m(x y:UndoD):Bool:=(x.key==y.key) && ((x.was==y.was) && (x.val==y.val))
def sameUs:List UndoD→List UndoD→Bool
 |[],[]=>true
 |x::r,y::s=>z1m x y && sameUs r s
 |_,_=>false
theorem z2Z{α:Type}{f:α→α→Bool}{g:List α→List α→Bool}(h0:g [] []=true)(h1:∀x r y s,g (x::r) (y::s)=(f x y && g r s))(h2:∀x r,g (x::r) []=false)(h3:∀y s,g [] (y::s)=false):
  ∀a b,a.length≠b.length→g a b=false:=by
 intro a;induction a with
 |nil=>intro b h;cases b with|nil=>simp at h|cons y s=>exact h3 y s
 |cons x r ih=>intro b h;cases b with|nil=>exact h2 x r|cons y s=>rw[h1,ih s (by simpa using h)];simp
theorem z20{α:Type}{f:α→α→Bool}{g:List α→List α→Bool}(d:α)(h1:∀x r y s,g (x::r) (y::s)=(f x y && g r s)):
  ∀a b k,a.length=b.length→k<a.length→f (a.getD k d) (b.getD k d)=false→g a b=false:=by
 intro a;induction a with
 |nil=>intro b k _ h;simp at h
 |cons x r ih=>
  intro b k hl hk hf
  cases b with
  |nil=>simp at hl
  |cons y s=>
   rw[h1]
   cases k with
   |zero=>simp[List.getD]at hf;simp[hf]
   |succ k=>rw[ih s k (by simpa using hl) (by simpa using hk) (by simpa[List.getD]using hf)];simp
theorem z21{α:Type}{f:α→α→Bool}{g:List α→List α→Bool}(d:α)(h0:g [] []=true)(h1:∀x r y s,g (x::r) (y::s)=(f x y && g r s)):
  ∀a b,a.length=b.length→(∀k,k<a.length→f (a.getD k d) (b.getD k d)=true)→g a b=true:=by
 intro a;induction a with
 |nil=>intro b hl _;cases b with|nil=>exact h0|cons y s=>simp at hl
 |cons x r ih=>
  intro b hl hf
  cases b with
  |nil=>simp at hl
  |cons y s=>
   rw[h1,ih s (by simpa using hl) (fun k hk=>by simpa[List.getD]using hf (k+1) (by simpa using hk))];have:=hf 0 (by simp);simp[List.getD]at this;simp[this]
theorem z5N(xs:List UndoD):sameUs xs xs=true:=by
 induction xs with
 |nil=>rfl
 |cons x r ih=>simp[sameUs,z1m,ih]
theorem z1Z(x0:Int)(x1:Bool)(x2 y0:Int)(y1:Bool)(y2:Int)(w:World):(binOp .neq 208 (.agg #[.int .i64 x0,.bool x1,.int .i64 x2]) (.agg #[.int .i64 y0,.bool y1,.int .i64 y2])).run Tryz.prog w=.ok (.bool (!z1m ⟨x0,x1,x2⟩ ⟨y0,y1,y2⟩)) w:=by
 rw[run_neq_struct,run_equalIn_struct (P:=Tryz.prog) w 9999 208 _ _ (by kernel_rfl) (by kernel_rfl)];have c1:Tryz.prog.cellsOf 2=1:=by kernel_rfl
 have c2:Tryz.prog.cellsOf 4=1:=by kernel_rfl
 cases h0:(x0==y0)<;>cases h1:(x1==y1)<;>cases h2:(x2==y2)<;>simp[Program.fieldsOf,Tryz.underlying208,Op.eqFields,go_sem,Tryz.underlying2,Tryz.underlying4,h0,h1,h2,z1m,c1,c2]
theorem z6l(a a':Option Addr)(cap d:Nat)(xs ys:List UndoD)(w:World)(h:UndoRow w a xs)(h':UndoRow w a' ys)(hl:xs.length≤1048576)(U:ys.length≤1048576):
  Calls Tryz.prog 149 #[.slice a xs.length cap,.slice a' ys.length d] w fun e w'=>e=.returned (.bool (sameUs xs ys))∧Below w.heap.size w w':=by
 by_cases c:xs.length=ys.length
 case neg=>
  have E:sameUs xs ys=false:=z2Z (f:=z1m) rfl (fun _ _ _ _=>rfl) (fun _ _=>rfl) (fun _ _=>rfl) xs ys c;rw[E];have hd:((xs.length:Int) !=(ys.length:Int))=true:=by simp;omega
  go_enter Tryz.func149,Tryz.ntmps149
  go_wp2
  go_ret;exact⟨rfl,Below.refl _ _⟩
 case pos=>
  have hd:((xs.length:Int) !=(ys.length:Int))=false:=by simp[c]
  have HL:Hid (xs.length=ys.length):=c;clear c;go_enter Tryz.func149,Tryz.ntmps149
  go_wp2
  go_loopw[13] (fun i wr=>∃k m:Nat,k≤xs.length∧i=.int .i64 k∧wr=w.drewN m∧Hid (∀j,j<k→z1m (xs.getD j z0j) (ys.getD j z0j)=true)) (fun i _=>xs.length-(intOf i).toNat)
  case atStart=>exact⟨0,0,Nat.zero_le _,rfl,rfl,fun j hj=>absurd hj (Nat.not_lt_zero _)⟩
  case round=>
   obtain⟨k,m,hk,rfl,rfl,HA⟩:=hrel;by_cases J:k<xs.length
   ·have L:k<ys.length:=by have:=HL.out;omega
    obtain⟨b,V,rfl,T,x,y,A⟩:=h.at k J;obtain⟨b',O,rfl,N,C,D,I⟩:=h'.at k L
    cases hs:z1m (xs.getD k z0j) (ys.getD k z0j)
    case false=>
     have E:Hid (sameUs xs ys=false):=z20 (f:=z1m) z0j (fun _ _ _ _=>rfl) xs ys k HL.out J hs;have hr:=z1Z (xs.getD k z0j).key (xs.getD k z0j).was (xs.getD k z0j).val (ys.getD k z0j).key (ys.getD k z0j).was (ys.getD k z0j).val;rw[show z1m ⟨(xs.getD k z0j).key,(xs.getD k z0j).was,(xs.getD k z0j).val⟩ ⟨(ys.getD k z0j).key,(ys.getD k z0j).was,(ys.getD k z0j).val⟩=false from hs,Bool.not_false]at hr;clear HA hs;generalize xs.getD k z0j=z at x y A hr;generalize ys.getD k z0j=z' at C D I hr
     go_wp2
     go_quiet (fail)
     go_wp2
     go_ret;rw[E.out];exact⟨rfl,(Below.refl _ _).trans ⟨rfl,rfl,rfl,Nat.le_refl _,fun _ _=>rfl⟩⟩
    case true=>
     have HB:Hid (∀j,j<k+1→z1m (xs.getD j z0j) (ys.getD j z0j)=true):=by
      intro j hj;by_cases M:j=k
      ·subst M;exact hs
      ·exact HA.out j (by omega)
     have hr:=z1Z (xs.getD k z0j).key (xs.getD k z0j).was (xs.getD k z0j).val (ys.getD k z0j).key (ys.getD k z0j).was (ys.getD k z0j).val;rw[show z1m ⟨(xs.getD k z0j).key,(xs.getD k z0j).was,(xs.getD k z0j).val⟩ ⟨(ys.getD k z0j).key,(ys.getD k z0j).was,(ys.getD k z0j).val⟩=true from hs,Bool.not_true]at hr;clear HA hs;generalize xs.getD k z0j=z at x y A hr;generalize ys.getD k z0j=z' at C D I hr
     go_wp2
     go_quiet (fail)
     go_wp2
     go_roundw
     case rel=>exact⟨k+1,_,by omega,by go_num,rfl,HB⟩
     case measure=>simp[intOf];omega
   ·have E:Hid (sameUs xs ys=true):=z21 (f:=z1m) z0j rfl (fun _ _ _ _=>rfl) xs ys HL.out (fun j hj=>HA.out j (by omega));clear HA
    go_wp2
    go_ret;rw[E.out];exact⟨rfl,(Below.refl _ _).trans ⟨rfl,rfl,rfl,Nat.le_refl _,fun _ _=>rfl⟩⟩
theorem z3i(a a':Option Addr)(cap d:Nat)(xs ys:List UndoD)(w:World)(h:UndoRow w a xs)(h':UndoRow w a' ys)(hl:xs.length≤1048576)(U:ys.length≤1048576):
  Calls Tryz.prog 210 #[.slice a xs.length cap,.slice a' ys.length d] w fun e w'=>e=.returned (.bool (sameUs xs ys))∧Below w.heap.size w w':=by
 by_cases c:xs.length=ys.length
 case neg=>
  have E:sameUs xs ys=false:=z2Z (f:=z1m) rfl (fun _ _ _ _=>rfl) (fun _ _=>rfl) (fun _ _=>rfl) xs ys c;rw[E];have hd:((xs.length:Int) !=(ys.length:Int))=true:=by simp;omega
  go_enter Tryz.func210,Tryz.ntmps210
  go_wp2
  go_ret;exact⟨rfl,Below.refl _ _⟩
 case pos=>
  have hd:((xs.length:Int) !=(ys.length:Int))=false:=by simp[c]
  have HL:Hid (xs.length=ys.length):=c;clear c;go_enter Tryz.func210,Tryz.ntmps210
  go_wp2
  go_loopw[5] (fun i wr=>∃k m:Nat,k≤xs.length∧i=.int .i64 k∧wr=w.drewN m∧Hid (∀j,j<k→z1m (xs.getD j z0j) (ys.getD j z0j)=true)) (fun i _=>xs.length-(intOf i).toNat)
  case atStart=>exact⟨0,0,Nat.zero_le _,rfl,rfl,fun j hj=>absurd hj (Nat.not_lt_zero _)⟩
  case round=>
   obtain⟨k,m,hk,rfl,rfl,HA⟩:=hrel;by_cases J:k<xs.length
   ·have L:k<ys.length:=by have:=HL.out;omega
    obtain⟨b,V,rfl,T,x,y,A⟩:=h.at k J;obtain⟨b',O,rfl,N,C,D,I⟩:=h'.at k L
    cases hs:z1m (xs.getD k z0j) (ys.getD k z0j)
    case false=>
     have E:Hid (sameUs xs ys=false):=z20 (f:=z1m) z0j (fun _ _ _ _=>rfl) xs ys k HL.out J hs;have hr:=z1Z (xs.getD k z0j).key (xs.getD k z0j).was (xs.getD k z0j).val (ys.getD k z0j).key (ys.getD k z0j).was (ys.getD k z0j).val;rw[show z1m ⟨(xs.getD k z0j).key,(xs.getD k z0j).was,(xs.getD k z0j).val⟩ ⟨(ys.getD k z0j).key,(ys.getD k z0j).was,(ys.getD k z0j).val⟩=false from hs,Bool.not_false]at hr;clear HA hs;generalize xs.getD k z0j=z at x y A hr;generalize ys.getD k z0j=z' at C D I hr
     go_wp2
     go_quiet (fail)
     go_wp2
     go_ret;rw[E.out];exact⟨rfl,(Below.refl _ _).trans ⟨rfl,rfl,rfl,Nat.le_refl _,fun _ _=>rfl⟩⟩
    case true=>
     have HB:Hid (∀j,j<k+1→z1m (xs.getD j z0j) (ys.getD j z0j)=true):=by
      intro j hj;by_cases M:j=k
      ·subst M;exact hs
      ·exact HA.out j (by omega)
     have hr:=z1Z (xs.getD k z0j).key (xs.getD k z0j).was (xs.getD k z0j).val (ys.getD k z0j).key (ys.getD k z0j).was (ys.getD k z0j).val;rw[show z1m ⟨(xs.getD k z0j).key,(xs.getD k z0j).was,(xs.getD k z0j).val⟩ ⟨(ys.getD k z0j).key,(ys.getD k z0j).was,(ys.getD k z0j).val⟩=true from hs,Bool.not_true]at hr;clear HA hs;generalize xs.getD k z0j=z at x y A hr;generalize ys.getD k z0j=z' at C D I hr
     go_wp2
     go_quiet (fail)
     go_wp2
     go_roundw
     case rel=>exact⟨k+1,_,by omega,by go_num,rfl,HB⟩
     case measure=>simp[intOf];omega
   ·have E:Hid (sameUs xs ys=true):=z21 (f:=z1m) z0j rfl (fun _ _ _ _=>rfl) xs ys HL.out (fun j hj=>HA.out j (by omega));clear HA
    go_wp2
    go_ret;rw[E.out];exact⟨rfl,(Below.refl _ _).trans ⟨rfl,rfl,rfl,Nat.le_refl _,fun _ _=>rfl⟩⟩
theorem z3j(a a':Option Addr)(cap cap':Nat)(xs ys:List UndoD)(w:World)(h:UndoRow w a xs)(h':UndoRow w a' ys)(hl:xs.length≤1048576)(hl':ys.length≤1048576):
  Calls Tryz.prog 90 #[.slice a xs.length cap,.slice a' ys.length cap'] w fun e w'=>e=.returned (.bool (sameUs xs ys))∧Below w.heap.size w w':=by
 have hq:=fun w h h'=>z6l a a' cap cap' xs ys w h h' hl hl'
 generalize sameUs xs ys=r at hq;go_enter Tryz.func90,Tryz.ntmps90
 go_wp2_with fail
 refine(hq _ h h').mono ?_;rintro e w' ⟨rfl,hb⟩
 go_wp2
 go_ret;exact⟨rfl,hb⟩
def z1s(x y:ItemD):Bool:=(x.key==y.key) && (x.val==y.val)
def sameIs:List ItemD→List ItemD→Bool
 |[],[]=>true
 |x::r,y::s=>z1s x y && sameIs r s
 |_,_=>false
theorem z29{α:Type}{f:α→α→Bool}{g:List α→List α→Bool}(h0:g [] []=true)(h1:∀x r y s,g (x::r) (y::s)=(f x y && g r s))(h2:∀x r,g (x::r) []=false)(h3:∀y s,g [] (y::s)=false):
  ∀a b,a.length≠b.length→g a b=false:=by
 intro a;induction a with
 |nil=>intro b h;cases b with|nil=>simp at h|cons y s=>exact h3 y s
 |cons x r ih=>intro b h;cases b with|nil=>exact h2 x r|cons y s=>rw[h1,ih s (by simpa using h)];simp
theorem z3a{α:Type}{f:α→α→Bool}{g:List α→List α→Bool}(d:α)(h1:∀x r y s,g (x::r) (y::s)=(f x y && g r s)):
  ∀a b k,a.length=b.length→k<a.length→f (a.getD k d) (b.getD k d)=false→g a b=false:=by
 intro a;induction a with
 |nil=>intro b k _ h;simp at h
 |cons x r ih=>
  intro b k hl hk hf
  cases b with
  |nil=>simp at hl
  |cons y s=>
   rw[h1]
   cases k with
   |zero=>simp[List.getD]at hf;simp[hf]
   |succ k=>rw[ih s k (by simpa using hl) (by simpa using hk) (by simpa[List.getD]using hf)];simp
theorem z3b{α:Type}{f:α→α→Bool}{g:List α→List α→Bool}(d:α)(h0:g [] []=true)(h1:∀x r y s,g (x::r) (y::s)=(f x y && g r s)):
  ∀a b,a.length=b.length→(∀k,k<a.length→f (a.getD k d) (b.getD k d)=true)→g a b=true:=by
 intro a;induction a with
 |nil=>intro b hl _;cases b with|nil=>exact h0|cons y s=>simp at hl
 |cons x r ih=>
  intro b hl hf
  cases b with
  |nil=>simp at hl
  |cons y s=>
   rw[h1,ih s (by simpa using hl) (fun k hk=>by simpa[List.getD]using hf (k+1) (by simpa using hk))];have:=hf 0 (by simp);simp[List.getD]at this;simp[this]
theorem z2m(xs:List ItemD):sameIs xs xs=true:=by
 induction xs with
 |nil=>rfl
 |cons x r ih=>simp[sameIs,z1s,ih]
theorem z5i{xs ys:List ItemD}(h:sameIs xs ys=true):xs=ys:=by
 induction xs generalizing ys with
 |nil=>cases ys with|nil=>rfl|cons y s=>simp[sameIs]at h
 |cons x r ih=>
  cases ys with
  |nil=>simp[sameIs]at h
  |cons y s=>
   obtain⟨x0,x1⟩:=x;obtain⟨y0,y1⟩:=y;simp[sameIs,z1s]at h;rw[ih h.2,h.1.1,h.1.2]
theorem z10(x0 x1 y0 y1:Int)(w:World):(binOp .neq 135 (.agg #[.int .i64 x0,.int .i64 x1]) (.agg #[.int .i64 y0,.int .i64 y1])).run Tryz.prog w=.ok (.bool (!z1s ⟨x0,x1⟩ ⟨y0,y1⟩)) w:=by
 rw[run_neq_struct,run_equalIn_struct (P:=Tryz.prog) w 9999 135 _ _ (by kernel_rfl) (by kernel_rfl)];have c1:Tryz.prog.cellsOf 2=1:=by kernel_rfl
 cases h0:(x0==y0)<;>cases h1:(x1==y1)<;>simp[Program.fieldsOf,Tryz.underlying135,Op.eqFields,go_sem,Tryz.underlying2,h0,h1,z1s,c1]
theorem z6m(a a':Option Addr)(cap d:Nat)(xs ys:List ItemD)(w:World)(h:ItemRow w a xs)(h':ItemRow w a' ys)(hl:xs.length≤1048576)(O:ys.length≤1048576):
  Calls Tryz.prog 88 #[.slice a xs.length cap,.slice a' ys.length d] w fun e w'=>e=.returned (.bool (sameIs xs ys))∧Below w.heap.size w w':=by
 by_cases c:xs.length=ys.length
 case neg=>
  have E:sameIs xs ys=false:=z29 (f:=z1s) rfl (fun _ _ _ _=>rfl) (fun _ _=>rfl) (fun _ _=>rfl) xs ys c;rw[E];have hd:((xs.length:Int) !=(ys.length:Int))=true:=by simp;omega
  go_enter Tryz.func88,Tryz.ntmps88
  go_wp2
  go_ret;exact⟨rfl,Below.refl _ _⟩
 case pos=>
  have hd:((xs.length:Int) !=(ys.length:Int))=false:=by simp[c]
  have HL:Hid (xs.length=ys.length):=c;clear c;go_enter Tryz.func88,Tryz.ntmps88
  go_wp2
  go_loopw[13] (fun i wr=>∃k m:Nat,k≤xs.length∧i=.int .i64 k∧wr=w.drewN m∧Hid (∀j,j<k→z1s (xs.getD j z0c) (ys.getD j z0c)=true)) (fun i _=>xs.length-(intOf i).toNat)
  case atStart=>exact⟨0,0,Nat.zero_le _,rfl,rfl,fun j hj=>absurd hj (Nat.not_lt_zero _)⟩
  case round=>
   obtain⟨k,m,hk,rfl,rfl,HA⟩:=hrel;by_cases D:k<xs.length
   ·have I:k<ys.length:=by have:=HL.out;omega
    obtain⟨b,T,rfl,N,x,y⟩:=h.at k D;obtain⟨b',M,rfl,L,A,C⟩:=h'.at k I
    cases hs:z1s (xs.getD k z0c) (ys.getD k z0c)
    case false=>
     have E:Hid (sameIs xs ys=false):=z3a (f:=z1s) z0c (fun _ _ _ _=>rfl) xs ys k HL.out D hs;have hr:=z10 (xs.getD k z0c).key (xs.getD k z0c).val (ys.getD k z0c).key (ys.getD k z0c).val;rw[show z1s ⟨(xs.getD k z0c).key,(xs.getD k z0c).val⟩ ⟨(ys.getD k z0c).key,(ys.getD k z0c).val⟩=false from hs,Bool.not_false]at hr;clear HA hs;generalize xs.getD k z0c=z at x y hr;generalize ys.getD k z0c=z' at A C hr
     go_wp2
     go_quiet (fail)
     go_wp2
     go_ret;rw[E.out];exact⟨rfl,(Below.refl _ _).trans ⟨rfl,rfl,rfl,Nat.le_refl _,fun _ _=>rfl⟩⟩
    case true=>
     have HB:Hid (∀j,j<k+1→z1s (xs.getD j z0c) (ys.getD j z0c)=true):=by
      intro j hj;by_cases J:j=k
      ·subst J;exact hs
      ·exact HA.out j (by omega)
     have hr:=z10 (xs.getD k z0c).key (xs.getD k z0c).val (ys.getD k z0c).key (ys.getD k z0c).val;rw[show z1s ⟨(xs.getD k z0c).key,(xs.getD k z0c).val⟩ ⟨(ys.getD k z0c).key,(ys.getD k z0c).val⟩=true from hs,Bool.not_true]at hr;clear HA hs;generalize xs.getD k z0c=z at x y hr;generalize ys.getD k z0c=z' at A C hr
     go_wp2
     go_quiet (fail)
     go_wp2
     go_roundw
     case rel=>exact⟨k+1,_,by omega,by go_num,rfl,HB⟩
     case measure=>simp[intOf];omega
   ·have E:Hid (sameIs xs ys=true):=z3b (f:=z1s) z0c rfl (fun _ _ _ _=>rfl) xs ys HL.out (fun j hj=>HA.out j (by omega));clear HA
    go_wp2
    go_ret;rw[E.out];exact⟨rfl,(Below.refl _ _).trans ⟨rfl,rfl,rfl,Nat.le_refl _,fun _ _=>rfl⟩⟩
theorem z1x(a a':Option Addr)(cap d:Nat)(xs ys:List ItemD)(w:World)(h:ItemRow w a xs)(h':ItemRow w a' ys)(hl:xs.length≤1048576)(O:ys.length≤1048576):
  Calls Tryz.prog 187 #[.slice a xs.length cap,.slice a' ys.length d] w fun e w'=>e=.returned (.bool (sameIs xs ys))∧Below w.heap.size w w':=by
 by_cases c:xs.length=ys.length
 case neg=>
  have E:sameIs xs ys=false:=z29 (f:=z1s) rfl (fun _ _ _ _=>rfl) (fun _ _=>rfl) (fun _ _=>rfl) xs ys c;rw[E];have hd:((xs.length:Int) !=(ys.length:Int))=true:=by simp;omega
  go_enter Tryz.func187,Tryz.ntmps187
  go_wp2
  go_ret;exact⟨rfl,Below.refl _ _⟩
 case pos=>
  have hd:((xs.length:Int) !=(ys.length:Int))=false:=by simp[c]
  have HL:Hid (xs.length=ys.length):=c;clear c;go_enter Tryz.func187,Tryz.ntmps187
  go_wp2
  go_loopw[5] (fun i wr=>∃k m:Nat,k≤xs.length∧i=.int .i64 k∧wr=w.drewN m∧Hid (∀j,j<k→z1s (xs.getD j z0c) (ys.getD j z0c)=true)) (fun i _=>xs.length-(intOf i).toNat)
  case atStart=>exact⟨0,0,Nat.zero_le _,rfl,rfl,fun j hj=>absurd hj (Nat.not_lt_zero _)⟩
  case round=>
   obtain⟨k,m,hk,rfl,rfl,HA⟩:=hrel;by_cases D:k<xs.length
   ·have I:k<ys.length:=by have:=HL.out;omega
    obtain⟨b,T,rfl,N,x,y⟩:=h.at k D;obtain⟨b',M,rfl,L,A,C⟩:=h'.at k I
    cases hs:z1s (xs.getD k z0c) (ys.getD k z0c)
    case false=>
     have E:Hid (sameIs xs ys=false):=z3a (f:=z1s) z0c (fun _ _ _ _=>rfl) xs ys k HL.out D hs;have hr:=z10 (xs.getD k z0c).key (xs.getD k z0c).val (ys.getD k z0c).key (ys.getD k z0c).val;rw[show z1s ⟨(xs.getD k z0c).key,(xs.getD k z0c).val⟩ ⟨(ys.getD k z0c).key,(ys.getD k z0c).val⟩=false from hs,Bool.not_false]at hr;clear HA hs;generalize xs.getD k z0c=z at x y hr;generalize ys.getD k z0c=z' at A C hr
     go_wp2
     go_quiet (fail)
     go_wp2
     go_ret;rw[E.out];exact⟨rfl,(Below.refl _ _).trans ⟨rfl,rfl,rfl,Nat.le_refl _,fun _ _=>rfl⟩⟩
    case true=>
     have HB:Hid (∀j,j<k+1→z1s (xs.getD j z0c) (ys.getD j z0c)=true):=by
      intro j hj;by_cases J:j=k
      ·subst J;exact hs
      ·exact HA.out j (by omega)
     have hr:=z10 (xs.getD k z0c).key (xs.getD k z0c).val (ys.getD k z0c).key (ys.getD k z0c).val;rw[show z1s ⟨(xs.getD k z0c).key,(xs.getD k z0c).val⟩ ⟨(ys.getD k z0c).key,(ys.getD k z0c).val⟩=true from hs,Bool.not_true]at hr;clear HA hs;generalize xs.getD k z0c=z at x y hr;generalize ys.getD k z0c=z' at A C hr
     go_wp2
     go_quiet (fail)
     go_wp2
     go_roundw
     case rel=>exact⟨k+1,_,by omega,by go_num,rfl,HB⟩
     case measure=>simp[intOf];omega
   ·have E:Hid (sameIs xs ys=true):=z3b (f:=z1s) z0c rfl (fun _ _ _ _=>rfl) xs ys HL.out (fun j hj=>HA.out j (by omega));clear HA
    go_wp2
    go_ret;rw[E.out];exact⟨rfl,(Below.refl _ _).trans ⟨rfl,rfl,rfl,Nat.le_refl _,fun _ _=>rfl⟩⟩
theorem z06(a a':Option Addr)(cap cap':Nat)(xs ys:List ItemD)(w:World)(h:ItemRow w a xs)(h':ItemRow w a' ys)(hl:xs.length≤1048576)(hl':ys.length≤1048576):
  Calls Tryz.prog 33 #[.slice a xs.length cap,.slice a' ys.length cap'] w fun e w'=>e=.returned (.bool (sameIs xs ys))∧Below w.heap.size w w':=by
 have hq:=fun w h h'=>z6m a a' cap cap' xs ys w h h' hl hl'
 generalize sameIs xs ys=r at hq;go_enter Tryz.func33,Tryz.ntmps33
 go_wp2_with fail
 refine(hq _ h h').mono ?_;rintro e w' ⟨rfl,hb⟩
 go_wp2
 go_ret;exact⟨rfl,hb⟩
def z1f(x y:ActD):Bool:=(x.kind==y.kind) && ((x.key==y.key) && (x.val==y.val))
def sameAs:List ActD→List ActD→Bool
 |[],[]=>true
 |x::r,y::s=>z1f x y && sameAs r s
 |_,_=>false
def z0A(x y:TxnD):Bool:=(x.id==y.id) && (x.session==y.session) && (x.seq==y.seq) && sameAs x.acts y.acts
def sameTs:List TxnD→List TxnD→Bool
 |[],[]=>true
 |x::r,y::s=>z0A x y && sameTs r s
 |_,_=>false
theorem z11{α:Type}{f:α→α→Bool}{g:List α→List α→Bool}(h0:g [] []=true)(h1:∀x r y s,g (x::r) (y::s)=(f x y && g r s))(h2:∀x r,g (x::r) []=false)(h3:∀y s,g [] (y::s)=false):
  ∀a b,a.length≠b.length→g a b=false:=by
 intro a;induction a with
 |nil=>intro b h;cases b with|nil=>simp at h|cons y s=>exact h3 y s
 |cons x r ih=>intro b h;cases b with|nil=>exact h2 x r|cons y s=>rw[h1,ih s (by simpa using h)];simp
theorem z12{α:Type}{f:α→α→Bool}{g:List α→List α→Bool}(d:α)(h1:∀x r y s,g (x::r) (y::s)=(f x y && g r s)):
  ∀a b k,a.length=b.length→k<a.length→f (a.getD k d) (b.getD k d)=false→g a b=false:=by
 intro a;induction a with
 |nil=>intro b k _ h;simp at h
 |cons x r ih=>
  intro b k hl hk hf
  cases b with
  |nil=>simp at hl
  |cons y s=>
   rw[h1]
   cases k with
   |zero=>simp[List.getD]at hf;simp[hf]
   |succ k=>rw[ih s k (by simpa using hl) (by simpa using hk) (by simpa[List.getD]using hf)];simp
theorem z13{α:Type}{f:α→α→Bool}{g:List α→List α→Bool}(d:α)(h0:g [] []=true)(h1:∀x r y s,g (x::r) (y::s)=(f x y && g r s)):
  ∀a b,a.length=b.length→(∀k,k<a.length→f (a.getD k d) (b.getD k d)=true)→g a b=true:=by
 intro a;induction a with
 |nil=>intro b hl _;cases b with|nil=>exact h0|cons y s=>simp at hl
 |cons x r ih=>
  intro b hl hf
  cases b with
  |nil=>simp at hl
  |cons y s=>
   rw[h1,ih s (by simpa using hl) (fun k hk=>by simpa[List.getD]using hf (k+1) (by simpa using hk))];have:=hf 0 (by simp);simp[List.getD]at this;simp[this]
theorem z3A(x0 x1 x2 y0 y1 y2:Int)(w:World):(binOp .neq 163 (.agg #[.int .i64 x0,.int .i64 x1,.int .i64 x2]) (.agg #[.int .i64 y0,.int .i64 y1,.int .i64 y2])).run Tryz.prog w=.ok (.bool (!z1f ⟨x0,x1,x2⟩ ⟨y0,y1,y2⟩)) w:=by
 rw[run_neq_struct,run_equalIn_struct (P:=Tryz.prog) w 9999 163 _ _ (by kernel_rfl) (by kernel_rfl)];have c1:Tryz.prog.cellsOf 2=1:=by kernel_rfl
 cases h0:(x0==y0)<;>cases h1:(x1==y1)<;>cases h2:(x2==y2)<;>simp[Program.fieldsOf,Tryz.underlying163,Op.eqFields,go_sem,Tryz.underlying2,h0,h1,h2,z1f,c1]
theorem z6n(a a':Option Addr)(cap d:Nat)(xs ys:List ActD)(w:World)(h:ActRow w a xs)(h':ActRow w a' ys)(hl:xs.length≤1048576)(U:ys.length≤1048576):
  Calls Tryz.prog 101 #[.slice a xs.length cap,.slice a' ys.length d] w fun e w'=>e=.returned (.bool (sameAs xs ys))∧Below w.heap.size w w':=by
 by_cases c:xs.length=ys.length
 case neg=>
  have E:sameAs xs ys=false:=z11 (f:=z1f) rfl (fun _ _ _ _=>rfl) (fun _ _=>rfl) (fun _ _=>rfl) xs ys c;rw[E];have hd:((xs.length:Int) !=(ys.length:Int))=true:=by simp;omega
  go_enter Tryz.func101,Tryz.ntmps101
  go_wp2
  go_ret;exact⟨rfl,Below.refl _ _⟩
 case pos=>
  have hd:((xs.length:Int) !=(ys.length:Int))=false:=by simp[c]
  have HL:Hid (xs.length=ys.length):=c;clear c;go_enter Tryz.func101,Tryz.ntmps101
  go_wp2
  go_loopw[13] (fun i wr=>∃k m:Nat,k≤xs.length∧i=.int .i64 k∧wr=w.drewN m∧Hid (∀j,j<k→z1f (xs.getD j z0f) (ys.getD j z0f)=true)) (fun i _=>xs.length-(intOf i).toNat)
  case atStart=>exact⟨0,0,Nat.zero_le _,rfl,rfl,fun j hj=>absurd hj (Nat.not_lt_zero _)⟩
  case round=>
   obtain⟨k,m,hk,rfl,rfl,HA⟩:=hrel;by_cases J:k<xs.length
   ·have L:k<ys.length:=by have:=HL.out;omega
    obtain⟨b,V,rfl,T,x,y,A⟩:=h.at k J;obtain⟨b',O,rfl,N,C,D,I⟩:=h'.at k L
    cases hs:z1f (xs.getD k z0f) (ys.getD k z0f)
    case false=>
     have E:Hid (sameAs xs ys=false):=z12 (f:=z1f) z0f (fun _ _ _ _=>rfl) xs ys k HL.out J hs;have hr:=z3A (xs.getD k z0f).kind (xs.getD k z0f).key (xs.getD k z0f).val (ys.getD k z0f).kind (ys.getD k z0f).key (ys.getD k z0f).val;rw[show z1f ⟨(xs.getD k z0f).kind,(xs.getD k z0f).key,(xs.getD k z0f).val⟩ ⟨(ys.getD k z0f).kind,(ys.getD k z0f).key,(ys.getD k z0f).val⟩=false from hs,Bool.not_false]at hr;clear HA hs;generalize xs.getD k z0f=z at x y A hr;generalize ys.getD k z0f=z' at C D I hr
     go_wp2
     go_quiet (fail)
     go_wp2
     go_ret;rw[E.out];exact⟨rfl,⟨rfl,rfl,rfl,Nat.le_refl _,fun _ _=>rfl⟩⟩
    case true=>
     have HB:Hid (∀j,j<k+1→z1f (xs.getD j z0f) (ys.getD j z0f)=true):=by
      intro j hj;by_cases M:j=k
      ·subst M;exact hs
      ·exact HA.out j (by omega)
     have hr:=z3A (xs.getD k z0f).kind (xs.getD k z0f).key (xs.getD k z0f).val (ys.getD k z0f).kind (ys.getD k z0f).key (ys.getD k z0f).val;rw[show z1f ⟨(xs.getD k z0f).kind,(xs.getD k z0f).key,(xs.getD k z0f).val⟩ ⟨(ys.getD k z0f).kind,(ys.getD k z0f).key,(ys.getD k z0f).val⟩=true from hs,Bool.not_true]at hr;clear HA hs;generalize xs.getD k z0f=z at x y A hr;generalize ys.getD k z0f=z' at C D I hr
     go_wp2
     go_quiet (fail)
     go_wp2
     go_roundw
     case rel=>exact⟨k+1,_,by omega,by go_num,rfl,HB⟩
     case measure=>simp[intOf];omega
   ·have E:Hid (sameAs xs ys=true):=z13 (f:=z1f) z0f rfl (fun _ _ _ _=>rfl) xs ys HL.out (fun j hj=>HA.out j (by omega));clear HA
    go_wp2
    go_ret;rw[E.out];exact⟨rfl,⟨rfl,rfl,rfl,Nat.le_refl _,fun _ _=>rfl⟩⟩
theorem z2P(x y:TxnD):((x.id==y.id)=false∧z0A x y=false)∨((x.id==y.id)=true∧(x.session==y.session)=false∧z0A x y=false)∨((x.id==y.id)=true∧(x.session==y.session)=true∧(x.seq==y.seq)=false∧z0A x y=false)∨
  ((x.id==y.id)=true∧(x.session==y.session)=true∧(x.seq==y.seq)=true∧z0A x y=sameAs x.acts y.acts):=by
 unfold z0A
 cases h1:(x.id==y.id)<;>cases h2:(x.session==y.session)<;>cases h3:(x.seq==y.seq)<;>simp
theorem z2v(x y:TxnD)(a a':Option Addr)(cap cap':Nat)(w:World)(h:ActRow w a x.acts)(h':ActRow w a' y.acts)(hl:x.acts.length≤1048576)(hl':y.acts.length≤1048576):
    Calls Tryz.prog 53 #[.agg #[.int .i64 x.id,.int .i64 x.session,.int .i64 x.seq,.slice a x.acts.length cap],.agg #[.int .i64 y.id,.int .i64 y.session,.int .i64 y.seq,.slice a' y.acts.length cap']] w fun e w'=>e=.returned (.bool (z0A x y))∧Below w.heap.size w w':=by
  have hq:=fun w h h'=>z6n a a' cap cap' x.acts y.acts w h h' hl hl'
  rcases z2P x y with⟨h1,e⟩|⟨h1,h2,e⟩|⟨h1,h2,h3,e⟩|⟨h1,h2,h3,e⟩<;>rw[e]<;>clear e;all_goals
    (generalize sameAs x.acts y.acts=r at hq
     obtain⟨x0,x1,x2,xs⟩:=x;obtain⟨y0,y1,y2,ys⟩:=y;dsimp only at *)
  all_goals
    (go_enter Tryz.func53,Tryz.ntmps53
     go_wp2_with (go_at_call 101;refine(hq _ (h.below (by go_grown)) (h'.below (by go_grown))).mono ?_;rintro e w' ⟨rfl,hb⟩)
     go_ret)
  · exact⟨rfl,by go_grown⟩
  · exact⟨rfl,by go_grown⟩
  · exact⟨rfl,by go_grown⟩
  · exact⟨rfl,z0l (by go_grown) hb⟩
theorem z2w(v v':Value)(xs ys:List TxnD)(w:World)(h:TxnsAt w v xs)(h':TxnsAt w v' ys)(hl:xs.length+z49 xs≤1048576)(ag:ys.length+z49 ys≤1048576):
  Calls Tryz.prog 58 #[v,v',.func (.func 53) #[] #[]] w fun e w'=>e=.returned (.bool (sameTs xs ys))∧Below w.heap.size w w':=by
 obtain⟨a,cap,rfl⟩:=h.shape;obtain⟨a',ad,rfl⟩:=h'.shape;by_cases d:xs.length=ys.length
 case neg=>
  have E:sameTs xs ys=false:=z11 (f:=z0A) rfl (fun _ _ _ _=>rfl) (fun _ _=>rfl) (fun _ _=>rfl) xs ys d;rw[E];have hd:((xs.length:Int) !=(ys.length:Int))=true:=by simp;omega
  go_enter Tryz.func58,Tryz.ntmps58
  go_wp2
  go_ret;exact⟨rfl,Below.refl _ _⟩
 case pos=>
  have hd:((xs.length:Int) !=(ys.length:Int))=false:=by simp[d]
  have HL:Hid (xs.length=ys.length):=d;clear d;go_enter Tryz.func58,Tryz.ntmps58
  go_wp2
  go_loopw[17] (fun i wr=>∃k:Nat,k≤xs.length∧i=.int .i64 k∧Below w.heap.size w wr∧Hid (∀j,j<k→z0A (xs.getD j z0n) (ys.getD j z0n)=true)) (fun i _=>xs.length-(intOf i).toNat)
  case atStart=>exact⟨0,Nat.zero_le _,rfl,Below.refl _ _,fun j hj=>absurd hj (Nat.not_lt_zero _)⟩
  case round=>
   obtain⟨k,hk,rfl,hb,HA⟩:=hrel;by_cases U:k<xs.length
   ·have T:k<ys.length:=by have:=HL.out;omega
    obtain⟨b,ai,aa,cc,rfl,af,y,A,C,D,hA⟩:=(h.below hb).at k U;obtain⟨b',ae,W,X,rfl,V,I,J,L,M,c⟩:=(h'.below hb).at k T;have O:(xs.getD k z0n).acts.length≤z49 xs:=z05 (by simp[List.getD,U]);have x:(ys.getD k z0n).acts.length≤z49 ys:=z05 (by simp[List.getD,T]);have hq:=fun w h h'=>z2v (xs.getD k z0n) (ys.getD k z0n) aa W cc X w h h' (by omega) (by omega)
    have ah:=hb.size;have Y:∀ (o:Obj) (j:Nat),(wr.alloc o).cell? ⟨b',j,none⟩=wr.cell? ⟨b',j,none⟩:=fun o j=>(show Below wr.heap.size wr (wr.alloc o) by go_grown).cell (p:=⟨b',j,none⟩) V
    cases hs:z0A (xs.getD k z0n) (ys.getD k z0n)
    case false=>
     have E:Hid (sameTs xs ys=false):=z12 (f:=z0A) z0n (fun _ _ _ _=>rfl) xs ys k HL.out U hs;rw[hs]at hq;clear HA hs;generalize xs.getD k z0n=z at y A C D hA hq O;generalize ys.getD k z0n=z' at I J L M c hq x;obtain⟨z0,z1,z2,zs⟩:=z;obtain⟨y0,y1,y2,us⟩:=z';dsimp only at y A C D hA I J L M c hq O x
     go_wp2_with fail
     refine(hq _ (hA.below (by go_grown)) (c.below (by go_grown))).mono ?_;rintro e w2 ⟨rfl,N⟩
     go_wp2
     go_ret;rw[E.out];exact⟨rfl,z0l (z0l hb (by go_grown)) N⟩
    case true=>
     have HB:Hid (∀j,j<k+1→z0A (xs.getD j z0n) (ys.getD j z0n)=true):=by
      intro j hj;by_cases ab:j=k
      ·subst ab;exact hs
      ·exact HA.out j (by omega)
     rw[hs]at hq;clear HA hs;generalize xs.getD k z0n=z at y A C D hA hq O;generalize ys.getD k z0n=z' at I J L M c hq x;obtain⟨z0,z1,z2,zs⟩:=z;obtain⟨y0,y1,y2,us⟩:=z';dsimp only at y A C D hA I J L M c hq O x
     go_wp2_with fail
     refine(hq _ (hA.below (by go_grown)) (c.below (by go_grown))).mono ?_;rintro e w2 ⟨rfl,N⟩;have Z:=z0l (z0l hb (by go_grown)) N;clear N Y y A C D I J L M hA c hq
     go_wp2
     go_roundw
     case rel=>exact⟨k+1,by omega,by go_num,Z,HB⟩
     case measure=>simp[intOf];omega
   ·have E:Hid (sameTs xs ys=true):=z13 (f:=z0A) z0n rfl (fun _ _ _ _=>rfl) xs ys HL.out (fun j hj=>HA.out j (by omega));clear HA
    go_wp2
    go_ret;rw[E.out];exact⟨rfl,hb⟩
theorem z1b(v v':Value)(xs ys:List TxnD)(w:World)(h:TxnsAt w v xs)(h':TxnsAt w v' ys)(hl:xs.length+z49 xs≤1048576)(hl':ys.length+z49 ys≤1048576):
  Calls Tryz.prog 22 #[v,v'] w fun e w'=>e=.returned (.bool (sameTs xs ys))∧Below w.heap.size w w':=by
 have hq:=z2w v v' xs ys w h h' hl hl';generalize sameTs xs ys=r at hq;go_enter Tryz.func22,Tryz.ntmps22
 go_wp2_with fail
 refine hq.mono ?_;rintro e w2 ⟨rfl,hb⟩
 go_wp2
 go_ret;exact⟨rfl,hb⟩
theorem z5O(x y:TxnD):((x.id !=y.id)=true∧z0A x y=false)∨((x.id !=y.id)=false∧(x.session !=y.session)=true∧z0A x y=false)∨((x.id !=y.id)=false∧(x.session !=y.session)=false∧(x.seq !=y.seq)=true∧z0A x y=false)∨
  ((x.id !=y.id)=false∧(x.session !=y.session)=false∧(x.seq !=y.seq)=false∧((x.acts.length:Int) !=(y.acts.length:Int))=true∧z0A x y=false)∨
  ((x.id !=y.id)=false∧(x.session !=y.session)=false∧(x.seq !=y.seq)=false∧((x.acts.length:Int) !=(y.acts.length:Int))=false∧z0A x y=sameAs x.acts y.acts):=by
 by_cases hl:x.acts.length=y.acts.length
 ·rcases z2P x y with⟨h1,e⟩|⟨h1,h2,e⟩|⟨h1,h2,h3,e⟩|⟨h1,h2,h3,e⟩<;>simp[bne, *]
 ·have hs:sameAs x.acts y.acts=false:=z11 (f:=z1f) rfl (fun _ _ _ _=>rfl) (fun _ _=>rfl) (fun _ _=>rfl) _ _ hl;have hl2:¬((x.acts.length:Int)=(y.acts.length:Int)):=by omega
  rcases z2P x y with⟨h1,e⟩|⟨h1,h2,e⟩|⟨h1,h2,h3,e⟩|⟨h1,h2,h3,e⟩<;>simp[bne, *]
theorem z4o(x y:TxnD)(b o b' o':Nat)(a a':Option Addr)(cap d:Nat)(w:World)(hB:Box4 w b o (.int .i64 x.id) (.int .i64 x.session) (.int .i64 x.seq) (.slice a x.acts.length cap))(O:Box4 w b' o' (.int .i64 y.id) (.int .i64 y.session) (.int .i64 y.seq) (.slice a' y.acts.length d))
  (h:ActRow w a x.acts) (h':ActRow w a' y.acts) (hl:x.acts.length≤1048576) (Y:y.acts.length≤1048576):
  Calls Tryz.prog 160 #[.pointer (some ⟨b,o,none⟩),.pointer (some ⟨b',o',none⟩)] w fun e w'=>e=.returned (.bool (z0A x y))∧Below w.heap.size w w':=by
 obtain⟨c0,c1,c2,c3⟩:=hB;obtain⟨d0,d1,d2,d3⟩:=O;rcases z5O x y with⟨h1,e⟩|⟨h1,h2,e⟩|⟨h1,h2,h3,e⟩|⟨h1,h2,h3,h4,e⟩|⟨h1,h2,h3,h4,e⟩<;>rw[e]<;>clear e<;>obtain⟨x0,x1,x2,xs⟩:=x<;>obtain⟨y0,y1,y2,ys⟩:=y<;>dsimp only at*
 ·go_enter Tryz.func160,Tryz.ntmps160
  go_wp2_with fail
  go_quiet (fail)
  go_wp2
  go_ret;exact⟨rfl,⟨rfl,rfl,rfl,Nat.le_refl _,fun _ _=>rfl⟩⟩
 ·go_enter Tryz.func160,Tryz.ntmps160
  go_wp2_with fail
  go_quiet (fail)
  go_wp2
  go_ret;exact⟨rfl,⟨rfl,rfl,rfl,Nat.le_refl _,fun _ _=>rfl⟩⟩
 ·go_enter Tryz.func160,Tryz.ntmps160
  go_wp2_with fail
  go_quiet (fail)
  go_wp2
  go_ret;exact⟨rfl,⟨rfl,rfl,rfl,Nat.le_refl _,fun _ _=>rfl⟩⟩
 ·go_enter Tryz.func160,Tryz.ntmps160
  go_wp2_with fail
  go_quiet (fail)
  go_wp2
  go_ret;exact⟨rfl,⟨rfl,rfl,rfl,Nat.le_refl _,fun _ _=>rfl⟩⟩
 ·have c:xs.length=ys.length:=by simp at h4;omega
  have HL:Hid (xs.length=ys.length):=c;clear c;go_enter Tryz.func160,Tryz.ntmps160
  go_wp2_with fail
  go_quiet (fail)
  go_wp2
  go_loopw[5] (fun i wr=>∃k m:Nat,k≤xs.length∧i=.int .i64 k∧wr=w.drewN m∧Hid (∀j,j<k→z1f (xs.getD j z0f) (ys.getD j z0f)=true)) (fun i _=>xs.length-(intOf i).toNat)
  case atStart=>exact⟨0,_,Nat.zero_le _,rfl,rfl,fun j hj=>absurd hj (Nat.not_lt_zero _)⟩
  case round=>
   obtain⟨k,m,hk,rfl,rfl,HA⟩:=hrel;by_cases M:k<xs.length
   ·have N:k<ys.length:=by have:=HL.out;omega
    obtain⟨bb,Z,rfl,X,A,C,D⟩:=h.at k M;obtain⟨W,V,rfl,U,I,J,L⟩:=h'.at k N;have hr:=z3A (xs.getD k z0f).kind (xs.getD k z0f).key (xs.getD k z0f).val (ys.getD k z0f).kind (ys.getD k z0f).key (ys.getD k z0f).val
    cases hs:z1f (xs.getD k z0f) (ys.getD k z0f)
    case false=>
     have E:Hid (sameAs xs ys=false):=z12 (f:=z1f) z0f (fun _ _ _ _=>rfl) xs ys k HL.out M hs;rw[show z1f ⟨(xs.getD k z0f).kind,(xs.getD k z0f).key,(xs.getD k z0f).val⟩ ⟨(ys.getD k z0f).kind,(ys.getD k z0f).key,(ys.getD k z0f).val⟩=false from hs,Bool.not_false]at hr;clear HA hs;generalize xs.getD k z0f=z at A C D hr;generalize ys.getD k z0f=z' at I J L hr
     go_wp2
     go_quiet (fail)
     go_wp2
     go_ret;rw[E.out];exact⟨rfl,⟨rfl,rfl,rfl,Nat.le_refl _,fun _ _=>rfl⟩⟩
    case true=>
     have HB:Hid (∀j,j<k+1→z1f (xs.getD j z0f) (ys.getD j z0f)=true):=by
      intro j hj;by_cases T:j=k
      ·subst T;exact hs
      ·exact HA.out j (by omega)
     rw[show z1f ⟨(xs.getD k z0f).kind,(xs.getD k z0f).key,(xs.getD k z0f).val⟩ ⟨(ys.getD k z0f).kind,(ys.getD k z0f).key,(ys.getD k z0f).val⟩=true from hs,Bool.not_true]at hr;clear HA hs;generalize xs.getD k z0f=z at A C D hr;generalize ys.getD k z0f=z' at I J L hr
     go_wp2
     go_quiet (fail)
     go_wp2
     go_roundw
     case rel=>exact⟨k+1,_,by omega,by go_num,rfl,HB⟩
     case measure=>simp[intOf];omega
   ·have E:Hid (sameAs xs ys=true):=z13 (f:=z1f) z0f rfl (fun _ _ _ _=>rfl) xs ys HL.out (fun j hj=>HA.out j (by omega));clear HA
    go_wp2
    go_ret;rw[E.out];exact⟨rfl,⟨rfl,rfl,rfl,Nat.le_refl _,fun _ _=>rfl⟩⟩
theorem z1K(v v':Value)(xs ys:List TxnD)(w:World)(h:TxnsAt w v xs)(h':TxnsAt w v' ys)(hl:xs.length+z49 xs≤1048576)(ah:ys.length+z49 ys≤1048576):
  Calls Tryz.prog 102 #[v,v'] w fun e w'=>e=.returned (.bool (sameTs xs ys))∧Below w.heap.size w w':=by
 obtain⟨a,cap,rfl⟩:=h.shape;obtain⟨a',ae,rfl⟩:=h'.shape;by_cases c:xs.length=ys.length
 case neg=>
  have E:sameTs xs ys=false:=z11 (f:=z0A) rfl (fun _ _ _ _=>rfl) (fun _ _=>rfl) (fun _ _=>rfl) xs ys c;rw[E];have hd:((xs.length:Int) !=(ys.length:Int))=true:=by simp;omega
  go_enter Tryz.func102,Tryz.ntmps102
  go_wp2
  go_ret;exact⟨rfl,Below.refl _ _⟩
 case pos=>
  have hd:((xs.length:Int) !=(ys.length:Int))=false:=by simp[c]
  have HL:Hid (xs.length=ys.length):=c;clear c;go_enter Tryz.func102,Tryz.ntmps102
  go_wp2
  go_loopw[5] (fun i wr=>∃k:Nat,k≤xs.length∧i=.int .i64 k∧Below w.heap.size w wr∧Hid (∀j,j<k→z0A (xs.getD j z0n) (ys.getD j z0n)=true)) (fun i _=>xs.length-(intOf i).toNat)
  case atStart=>exact⟨0,Nat.zero_le _,rfl,Below.refl _ _,fun j hj=>absurd hj (Nat.not_lt_zero _)⟩
  case round=>
   obtain⟨k,hk,rfl,hb,HA⟩:=hrel;by_cases C:k<xs.length
   ·have z:k<ys.length:=by have:=HL.out;omega
    obtain⟨b,y,aa,cc,rfl,ag,M,N,O,T,hA⟩:=(h.below hb).at k C;obtain⟨b',d,Z,ab,rfl,af,U,V,W,X,I⟩:=(h'.below hb).at k z;have Y:(xs.getD k z0n).acts.length≤z49 xs:=z05 (by simp[List.getD,C]);have A:(ys.getD k z0n).acts.length≤z49 ys:=z05 (by simp[List.getD,z]);have J:Box4 wr b (y+k*4) _ _ _ _:=⟨M,N,O,T⟩
    have L:Box4 wr b' (d+k*4) _ _ _ _:=⟨U,V,W,X⟩
    have hq:=fun(w':World) (hW:Below wr.heap.size wr w')=>z4o (xs.getD k z0n) (ys.getD k z0n) b (y+k*4) b' (d+k*4) aa Z cc ab w' (J.below hW) (L.below hW) (hA.below hW) (I.below hW) (by omega) (by omega)
    clear J L hA I M N O T U V W X
    cases hs:z0A (xs.getD k z0n) (ys.getD k z0n)
    case false=>
     have E:Hid (sameTs xs ys=false):=z12 (f:=z0A) z0n (fun _ _ _ _=>rfl) xs ys k HL.out C hs;rw[hs]at hq;clear HA hs Y A;have hW:Below wr.heap.size wr wr.drew:=(Below.refl _ _).drew;have D:Nonempty (Lat wr):=⟨⟨wr,Below.refl _ _⟩⟩
     go_wp2_with fail
     refine z0h (S:=fun w'=>∃u:Lat wr,w'=u.val) (by kernel_rfl) ?_;refine sgr [(0,6)] 2 (by kernel_rfl) ⟨⟨_,hW⟩,rfl⟩ ?_;simp only[pkE];repeat go_big_quiet_step (fail)
     refine wpQuiet_nil ?_;refine cla 6 (some 23) 160 #[.pointer (some ⟨b,y+k*4,none⟩),.pointer (some ⟨b',d+k*4,none⟩)] 1 (by kernel_rfl) ?_;refine(hq _ hW).mono ?_;rintro e w2 ⟨rfl,x⟩;replace hW:=hW.trans (x.mono hW.size);clear x hq;refine⟨_,rfl,⟨⟨_,hW⟩,rfl⟩,?_⟩;simp only[Act.put,pjE];refine sgr [(7,1)] 0 (by kernel_rfl) ⟨⟨_,hW⟩,rfl⟩ ?_;simp only[pkE];repeat go_big_quiet_step (fail)
     refine wpQuiet_nil ?_;refine z0k (by kernel_rfl) ?_;replace hb:=hb.trans (hW.mono hb.size);clear hW D
     go_wp2
     go_ret;rw[E.out];exact⟨rfl,hb⟩
    case true=>
     have HB:Hid (∀j,j<k+1→z0A (xs.getD j z0n) (ys.getD j z0n)=true):=by
      intro j hj;by_cases ad:j=k
      ·subst ad;exact hs
      ·exact HA.out j (by omega)
     rw[hs]at hq;clear HA hs Y A;have hW:Below wr.heap.size wr wr.drew:=(Below.refl _ _).drew;have D:Nonempty (Lat wr):=⟨⟨wr,Below.refl _ _⟩⟩
     go_wp2_with fail
     refine z0h (S:=fun w'=>∃u:Lat wr,w'=u.val) (by kernel_rfl) ?_;refine sgr [(0,6)] 2 (by kernel_rfl) ⟨⟨_,hW⟩,rfl⟩ ?_;simp only[pkE];repeat go_big_quiet_step (fail)
     refine wpQuiet_nil ?_;refine cla 6 (some 23) 160 #[.pointer (some ⟨b,y+k*4,none⟩),.pointer (some ⟨b',d+k*4,none⟩)] 1 (by kernel_rfl) ?_;refine(hq _ hW).mono ?_;rintro e w2 ⟨rfl,x⟩;replace hW:=hW.trans (x.mono hW.size);clear x hq;refine⟨_,rfl,⟨⟨_,hW⟩,rfl⟩,?_⟩;simp only[Act.put,pjE];refine sgr [(7,1)] 0 (by kernel_rfl) ⟨⟨_,hW⟩,rfl⟩ ?_;simp only[pkE];repeat go_big_quiet_step (fail)
     refine wpQuiet_nil ?_;refine z0k (by kernel_rfl) ?_;replace hb:=hb.trans (hW.mono hb.size);clear hW D
     go_wp2
     go_roundw
     case rel=>exact⟨k+1,by omega,by go_num,hb,HB⟩
     case measure=>simp[intOf];omega
   ·have E:Hid (sameTs xs ys=true):=z13 (f:=z0A) z0n rfl (fun _ _ _ _=>rfl) xs ys HL.out (fun j hj=>HA.out j (by omega));clear HA
    go_wp2
    go_ret;rw[E.out];exact⟨rfl,hb⟩
def z9c:Value→Option Addr
 | .slice a _ _=>a
 |_=>none
def z9o:Value→Nat
 | .slice _ _ k=>k
 |_=>0
def TxnQ.p'(q:TxnQ):TxnP:=⟨q.e,z9c q.va,z9o q.va⟩
theorem TxnQ.p_cells'{w:World}{q:TxnQ}(h:actK.At w q.va q.acts):q.p'.cells=txnK.cells q:=by
 obtain⟨a,c,e⟩:=h.shape;show [_,_,_,_]=[_,_,_,_]
 simp only[TxnP.sl,TxnQ.p',TxnQ.e,e,z9c,z9o]
theorem z0z{w:World}{v:Value}{ps:List TxnQ}(h:txnK.At w v ps):TxnsAt w v (ps.map TxnQ.e):=by
 obtain⟨a,cap,e,hL,hr⟩:=h;refine⟨a,cap,ps.map TxnQ.p',by rw[List.length_map];exact e,by simp only[List.map_map];rfl,?_,?_⟩
 ·have e2:z0v (ps.map TxnQ.p')=txnK.row ps:=by
   clear hL e;induction ps with
   |nil=>rfl
   |cons q r ih=>
    have h1:q.p'.cells=txnK.cells q:=TxnQ.p_cells' (hr q (by simp));have h2:=ih (fun p hp=>hr p (List.mem_cons_of_mem _ hp));show q.p'.cells++z0v (r.map TxnQ.p')=txnK.cells q++txnK.row r;rw[h1,h2]
  rw[e2];exact hL
 ·intro p hp;obtain⟨q,hq,rfl⟩:=List.mem_map.1 hp;have h1:actK.At w q.va q.acts:=hr q hq;obtain⟨a',c',e',hl',_⟩:=h1;show ActRow w (z9c q.va) q.acts;rw[e'];exact hl'
theorem z0T(ps:List TxnQ):z49 (ps.map TxnQ.e)=nmL TxnQ.n ps:=by
 simp only[z49,nmL,List.map_map];rfl
def sameUss:List (List UndoD)→List (List UndoD)→Bool
 |[],[]=>true
 |x::r,y::s=>sameUs x y && sameUss r s
 |_,_=>false
theorem z1T(xs:List USQ)(k:Nat)(hk:k<xs.length):(xs.map USQ.e).getD k []=USQ.e xs[k]:=by simp[List.getD,hk]
theorem z4J{w:World}{b off k:Nat}{p:USQ}(h:∀j x,(ussK.cells p)[j]?=some x→w.cell? ⟨b,off+k*ussK.size+j,none⟩=some x):w.cell? ⟨b,off+k,none⟩=some p.va:=by
 have:=h 0 p.va rfl
 rwa [show off+k*ussK.size+0=off+k from by show off+k*1+0=off+k;omega]at this
theorem z5j(v v':Value)(xs ys:List USQ)(w:World)(h:ussK.At w v xs)(h':ussK.At w v' ys)(hl:xs.length+nmL USQ.n xs≤1048576)(O:ys.length+nmL USQ.n ys≤1048576):
  Calls Tryz.prog 89 #[v,v',.func (.func 90) #[] #[]] w fun e w'=>e=.returned (.bool (sameUss (xs.map USQ.e) (ys.map USQ.e)))∧Below w.heap.size w w':=by
 obtain⟨a,cap,rfl⟩:=h.shape;obtain⟨a',J,rfl⟩:=h'.shape;by_cases c:xs.length=ys.length
 case neg=>
  have E:sameUss (xs.map USQ.e) (ys.map USQ.e)=false:=z11 (f:=sameUs) rfl (fun _ _ _ _=>rfl) (fun _ _=>rfl) (fun _ _=>rfl) _ _ (by simpa using c);rw[E];have hd:((xs.length:Int) !=(ys.length:Int))=true:=by simp;omega
  go_enter Tryz.func89,Tryz.ntmps89
  go_wp2
  go_ret;exact⟨rfl,Below.refl _ _⟩
 case pos=>
  have hd:((xs.length:Int) !=(ys.length:Int))=false:=by simp[c]
  have HL:Hid (xs.length=ys.length):=c;have HM:Hid ((xs.map USQ.e).length=(ys.map USQ.e).length):=show _=_ by simpa using c
  clear c;generalize hE:sameUss (xs.map USQ.e) (ys.map USQ.e)=E;have HE:Hid (sameUss (xs.map USQ.e) (ys.map USQ.e)=E):=hE;clear hE;go_enter Tryz.func89,Tryz.ntmps89
  go_wp2
  go_loopw[17] (fun i wr=>∃k:Nat,k≤xs.length∧i=.int .i64 k∧Below w.heap.size w wr∧Hid (∀j,j<k→sameUs ((xs.map USQ.e).getD j []) ((ys.map USQ.e).getD j [])=true)) (fun i _=>xs.length-(intOf i).toNat)
  case atStart=>exact⟨0,Nat.zero_le _,rfl,Below.refl _ _,fun j hj=>absurd hj (Nat.not_lt_zero _)⟩
  case round=>
   obtain⟨k,hk,rfl,hb,HA⟩:=hrel;by_cases y:k<xs.length
   ·have x:k<ys.length:=by have:=HL.out;omega
    obtain⟨b,T,rfl,N,hc,z⟩:=(h.below hb).cell (by decide) k y;obtain⟨b',M,rfl,L,D,d⟩:=(h'.below hb).cell (by decide) k x;have c0:=z4J hc;have d0:=z4J D;have n1:=z2t USQ.n xs k y;have n2:=z2t USQ.n ys k x;have HY:Hid (sameUs (USQ.e xs[k]) (USQ.e ys[k])=false→E=false):=fun hx=>by
     rw[←HE.out];exact z12 (f:=sameUs) [] (fun _ _ _ _=>rfl) _ _ k HM.out (by simpa using y) (by rw[z1T xs k y,z1T ys k x];exact hx)
    have HN:Hid (sameUs (USQ.e xs[k]) (USQ.e ys[k])=true→∀j,j<k+1→sameUs ((xs.map USQ.e).getD j []) ((ys.map USQ.e).getD j [])=true):=fun hx j hj=>by
     by_cases I:j=k
     ·subst I;rw[z1T xs j y,z1T ys j x];exact hx
     ·exact HA.out j (by omega)
    clear HA hc D;generalize xs[k]=p at*;generalize ys[k]=q at*;obtain⟨pv,pu⟩:=p;obtain⟨qv,qu⟩:=q;replace z:undoK.At wr pv pu:=z;replace d:undoK.At wr qv qu:=d;replace n1:pu.length≤nmL USQ.n xs:=n1;replace n2:qu.length≤nmL USQ.n ys:=n2;dsimp only[USQ.e]at c0 d0 HY HN;obtain⟨a1,k1,rfl⟩:=z.shape;obtain⟨b1,m1,rfl⟩:=d.shape;have hq:=fun w f1 f2=>z3j a1 b1 k1 m1 pu qu w f1 f2 (by omega) (by omega)
    have g1:=(z3p z).2;have g2:=(z3p d).2;generalize sameUs pu qu=X at*;clear n1 n2 z d
    go_wp2_with fail
    refine(hq _ g1 g2).mono ?_;rintro e w2 ⟨rfl,A⟩;have C:=z0l hb A;clear A c0 d0 hq g1 g2
    cases X with
    |false=>
     have E1:Hid (E=false):=HY.out rfl;clear HY HN HE
     go_wp2
     go_ret;exact⟨by rw[E1.out];rfl,C⟩
    |true=>
     have R:=HN.out rfl;have HR:Hid _:=R;clear HY HN R
     go_wp2
     go_roundw
     case rel=>exact⟨k+1,by omega,by go_num,C,HR.out⟩
     case measure=>simp[intOf];omega
   ·have E1:Hid (E=true):=by rw[←HE.out];exact z13 (f:=sameUs) [] rfl (fun _ _ _ _=>rfl) _ _ HM.out (fun j hj=>HA.out j (by simpa using(by simpa using hj:j<xs.length)|>fun h=>Nat.lt_of_lt_of_le h (by omega)))
    clear HA HE
    go_wp2
    go_ret;exact⟨by rw[E1.out];rfl,hb⟩
theorem z3B(v v':Value)(xs ys:List USQ)(w:World)(h:ussK.At w v xs)(h':ussK.At w v' ys)(hl:xs.length+nmL USQ.n xs≤1048576)(U:ys.length+nmL USQ.n ys≤1048576):
  Calls Tryz.prog 188 #[v,v'] w fun e w'=>e=.returned (.bool (sameUss (xs.map USQ.e) (ys.map USQ.e)))∧Below w.heap.size w w':=by
 obtain⟨a,cap,rfl⟩:=h.shape;obtain⟨a',L,rfl⟩:=h'.shape;by_cases c:xs.length=ys.length
 case neg=>
  have E:sameUss (xs.map USQ.e) (ys.map USQ.e)=false:=z11 (f:=sameUs) rfl (fun _ _ _ _=>rfl) (fun _ _=>rfl) (fun _ _=>rfl) _ _ (by simpa using c);rw[E];have hd:((xs.length:Int) !=(ys.length:Int))=true:=by simp;omega
  go_enter Tryz.func188,Tryz.ntmps188
  go_wp2
  go_ret;exact⟨rfl,Below.refl _ _⟩
 case pos=>
  have hd:((xs.length:Int) !=(ys.length:Int))=false:=by simp[c]
  have HL:Hid (xs.length=ys.length):=c;have HM:Hid ((xs.map USQ.e).length=(ys.map USQ.e).length):=show _=_ by simpa using c
  clear c;generalize hE:sameUss (xs.map USQ.e) (ys.map USQ.e)=E;have HE:Hid (sameUss (xs.map USQ.e) (ys.map USQ.e)=E):=hE;clear hE;go_enter Tryz.func188,Tryz.ntmps188
  go_wp2
  go_loopw[5] (fun i wr=>∃k:Nat,k≤xs.length∧i=.int .i64 k∧Below w.heap.size w wr∧Hid (∀j,j<k→sameUs ((xs.map USQ.e).getD j []) ((ys.map USQ.e).getD j [])=true)) (fun i _=>xs.length-(intOf i).toNat)
  case atStart=>exact⟨0,Nat.zero_le _,rfl,Below.refl _ _,fun j hj=>absurd hj (Nat.not_lt_zero _)⟩
  case round=>
   obtain⟨k,hk,rfl,hb,HA⟩:=hrel;by_cases y:k<xs.length
   ·have x:k<ys.length:=by have:=HL.out;omega
    obtain⟨b,V,rfl,T,hc,z⟩:=(h.below hb).cell (by decide) k y;obtain⟨b',O,rfl,M,C,d⟩:=(h'.below hb).cell (by decide) k x;have c0:=z4J hc;have d0:=z4J C;have n1:=z2t USQ.n xs k y;have n2:=z2t USQ.n ys k x;have HY:Hid (sameUs (USQ.e xs[k]) (USQ.e ys[k])=false→E=false):=fun hx=>by
     rw[←HE.out];exact z12 (f:=sameUs) [] (fun _ _ _ _=>rfl) _ _ k HM.out (by simpa using y) (by rw[z1T xs k y,z1T ys k x];exact hx)
    have HN:Hid (sameUs (USQ.e xs[k]) (USQ.e ys[k])=true→∀j,j<k+1→sameUs ((xs.map USQ.e).getD j []) ((ys.map USQ.e).getD j [])=true):=fun hx j hj=>by
     by_cases D:j=k
     ·subst D;rw[z1T xs j y,z1T ys j x];exact hx
     ·exact HA.out j (by omega)
    clear HA hc C;generalize xs[k]=p at*;generalize ys[k]=q at*;obtain⟨pv,pu⟩:=p;obtain⟨qv,qu⟩:=q;replace z:undoK.At wr pv pu:=z;replace d:undoK.At wr qv qu:=d;replace n1:pu.length≤nmL USQ.n xs:=n1;replace n2:qu.length≤nmL USQ.n ys:=n2;dsimp only[USQ.e]at c0 d0 HY HN;obtain⟨a1,k1,rfl⟩:=z.shape;obtain⟨b1,m1,rfl⟩:=d.shape;have hq:=fun w f1 f2=>z3i a1 b1 k1 m1 pu qu w f1 f2 (by omega) (by omega)
    have g1:=(z3p z).2;have g2:=(z3p d).2;generalize sameUs pu qu=X at*;clear n1 n2 z d;have N:(k:Int)<(xs.length:Int):=by omega
    have I:(k:Int)<(ys.length:Int):=by omega
    replace c0:=z0q c0;replace d0:=z0q d0;have hW:Below wr.heap.size wr wr.drew:=(Below.refl _ _).drew;have J:Nonempty (Lat wr):=⟨⟨wr,Below.refl _ _⟩⟩
    go_wp2_with fail
    refine z0h (S:=fun w'=>∃u:Lat wr,w'=u.val) (by kernel_rfl) ?_;refine sgr [(0,8)] 2 (by kernel_rfl) ⟨⟨_,hW⟩,rfl⟩ ?_;simp only[pkE];repeat go_big_quiet_step (fail)
    refine wpQuiet_nil ?_;refine cla 8 (some 25) 210 #[.slice a1 pu.length k1,.slice b1 qu.length m1] 1 (by kernel_rfl) ?_;refine(hq _ (g1.below hW) (g2.below hW)).mono ?_;rintro e w9 ⟨rfl,A⟩;replace hW:=hW.trans (A.mono hW.size);clear A;refine⟨_,rfl,⟨⟨_,hW⟩,rfl⟩,?_⟩;simp only[Act.put,pjE];refine sgr [(9,1)] 0 (by kernel_rfl) ⟨⟨_,hW⟩,rfl⟩ ?_;simp only[pkE];repeat go_big_quiet_step (fail)
    refine wpQuiet_nil ?_;refine z0k (by kernel_rfl) ?_;replace hb:=hb.trans (hW.mono hb.size);clear hW J hq g1 g2 c0 d0
    cases X with
    |false=>
     have E1:Hid (E=false):=HY.out rfl;clear HY HN HE
     go_wp2
     go_ret;exact⟨by rw[E1.out];rfl,hb⟩
    |true=>
     have R:=HN.out rfl;have HR:Hid _:=R;clear HY HN R
     go_wp2
     go_roundw
     case rel=>exact⟨k+1,by omega,by go_num,hb,HR.out⟩
     case measure=>simp[intOf];omega
   ·have E1:Hid (E=true):=by rw[←HE.out];exact z13 (f:=sameUs) [] rfl (fun _ _ _ _=>rfl) _ _ HM.out (fun j hj=>HA.out j (by simpa using(by simpa using hj:j<xs.length)|>fun h=>Nat.lt_of_lt_of_le h (by omega)))
    clear HA HE
    go_wp2
    go_ret;exact⟨by rw[E1.out];rfl,hb⟩
def sameRep(x y:RepE):Bool:=sameTs x.done y.done && (sameIs x.base y.base && (sameTs x.tent y.tent && (sameUss x.undos y.undos && sameIs x.now y.now)))
theorem z1d(p q:RepQ)(w:World)(h:repK.rd w p)(h':repK.rd w q)(hl:p.n≤1048576)(d:q.n≤1048576):
  Calls Tryz.prog 34 #[.agg #[p.vd,p.vb,p.vt,p.vu,p.vn],.agg #[q.vd,q.vb,q.vt,q.vu,q.vn]] w fun e w'=>e=.returned (.bool (sameRep p.e q.e))∧Below w.heap.size w w':=by
 obtain⟨y,pd,x,pb,A,pt,C,pu,z,pn⟩:=p;obtain⟨p0,p5,rfl⟩:∃a c,y=.slice a pd.length c:=h.1.shape;obtain⟨p1,p6,rfl⟩:∃a c,x=.slice a pb.length c:=h.2.1.shape;obtain⟨p2,p7,rfl⟩:∃a c,A=.slice a pt.length c:=h.2.2.1.shape;obtain⟨p3,p8,rfl⟩:∃a c,C=.slice a pu.length c:=h.2.2.2.1.shape;obtain⟨p4,p9,rfl⟩:∃a c,z=.slice a pn.length c:=h.2.2.2.2.shape;obtain⟨I,qd,D,qb,L,qt,M,qu,J,qn⟩:=q;obtain⟨q0,q5,rfl⟩:∃a c,I=.slice a qd.length c:=h'.1.shape;obtain⟨q1,q6,rfl⟩:∃a c,D=.slice a qb.length c:=h'.2.1.shape;obtain⟨q2,q7,rfl⟩:∃a c,L=.slice a qt.length c:=h'.2.2.1.shape;obtain⟨q3,q8,rfl⟩:∃a c,M=.slice a qu.length c:=h'.2.2.2.1.shape;obtain⟨q4,q9,rfl⟩:∃a c,J=.slice a qn.length c:=h'.2.2.2.2.shape;dsimp only[RepQ.n]at hl d;have c0:=fun w h h'=>z1b (.slice p0 pd.length p5) (.slice q0 qd.length q5) (pd.map TxnQ.e) (qd.map TxnQ.e) w (z0z h) (z0z h') (by rw[List.length_map,z0T];omega) (by rw[List.length_map,z0T];omega)
 have c1:=fun w h h'=>z06 p1 q1 p6 q6 pb qb w h h' (by omega) (by omega)
 have c2:=fun w h h'=>z1b (.slice p2 pt.length p7) (.slice q2 qt.length q7) (pt.map TxnQ.e) (qt.map TxnQ.e) w (z0z h) (z0z h') (by rw[List.length_map,z0T];omega) (by rw[List.length_map,z0T];omega)
 have c3:=fun w h h'=>z5j (.slice p3 pu.length p8) (.slice q3 qu.length q8) pu qu w h h' (by omega) (by omega)
 have c4:=fun w h h'=>z06 p4 q4 p9 q9 pn qn w h h' (by omega) (by omega)
 obtain⟨r0,r1,r2,r3,r4⟩:txnK.At w (.slice p0 pd.length p5) pd∧itemK.At w (.slice p1 pb.length p6) pb∧txnK.At w (.slice p2 pt.length p7) pt∧ussK.At w (.slice p3 pu.length p8) pu∧itemK.At w (.slice p4 pn.length p9) pn:=h;obtain⟨s0,s1,s2,s3,s4⟩:txnK.At w (.slice q0 qd.length q5) qd∧itemK.At w (.slice q1 qb.length q6) qb∧txnK.At w (.slice q2 qt.length q7) qt∧ussK.At w (.slice q3 qu.length q8) qu∧itemK.At w (.slice q4 qn.length q9) qn:=h';replace r1:=(z07 r1).2;replace r4:=(z07 r4).2;replace s1:=(z07 s1).2;replace s4:=(z07 s4).2;have E:Hid (sameRep ⟨pd.map TxnQ.e,pb,pt.map TxnQ.e,pu.map USQ.e,pn⟩ ⟨qd.map TxnQ.e,qb,qt.map TxnQ.e,qu.map USQ.e,qn⟩=(sameTs (pd.map TxnQ.e) (qd.map TxnQ.e) && (sameIs pb qb && (sameTs (pt.map TxnQ.e) (qt.map TxnQ.e) && (sameUss (pu.map USQ.e) (qu.map USQ.e) && sameIs pn qn))))):=show _=_ from rfl
 dsimp only[RepQ.e];generalize sameTs (pd.map TxnQ.e) (qd.map TxnQ.e)=X0 at*;generalize sameIs pb qb=X1 at*;generalize sameTs (pt.map TxnQ.e) (qt.map TxnQ.e)=X2 at*;generalize sameUss (pu.map USQ.e) (qu.map USQ.e)=X3 at*;generalize sameIs pn qn=X4 at*;generalize sameRep ⟨pd.map TxnQ.e,pb,pt.map TxnQ.e,pu.map USQ.e,pn⟩ ⟨qd.map TxnQ.e,qb,qt.map TxnQ.e,qu.map USQ.e,qn⟩=S at*;have B:=(Blk.new w 57 #[.slice p0 pd.length p5,.slice p1 pb.length p6,.slice p2 pt.length p7,.slice p3 pu.length p8,.slice p4 pn.length p9]).below (w':=((w.alloc (.cells #[.slice p0 pd.length p5,.slice p1 pb.length p6,.slice p2 pt.length p7,.slice p3 pu.length p8,.slice p4 pn.length p9] 57)).alloc (.cells #[.slice q0 qd.length q5,.slice q1 qb.length q6,.slice q2 qt.length q7,.slice q3 qu.length q8,.slice q4 qn.length q9] 57))) (by go_grown);have B':=Blk.new (w.alloc (.cells #[.slice p0 pd.length p5,.slice p1 pb.length p6,.slice p2 pt.length p7,.slice p3 pu.length p8,.slice p4 pn.length p9] 57)) 57 #[.slice q0 qd.length q5,.slice q1 qb.length q6,.slice q2 qt.length q7,.slice q3 qu.length q8,.slice q4 qn.length q9];have hB:Below w.heap.size w ((w.alloc (.cells #[.slice p0 pd.length p5,.slice p1 pb.length p6,.slice p2 pt.length p7,.slice p3 pu.length p8,.slice p4 pn.length p9] 57)).alloc (.cells #[.slice q0 qd.length q5,.slice q1 qb.length q6,.slice q2 qt.length q7,.slice q3 qu.length q8,.slice q4 qn.length q9] 57)):=by go_grown
 rw[World.size_alloc]at B';go_enter Tryz.func34,Tryz.ntmps34;have f0:=B.cell 0 _ rfl;have g0:=B'.cell 0 _ rfl
 go_wp2_with fail
 clear f0 g0;generalize ((w.alloc (.cells #[.slice p0 pd.length p5,.slice p1 pb.length p6,.slice p2 pt.length p7,.slice p3 pu.length p8,.slice p4 pn.length p9] 57)).alloc (.cells #[.slice q0 qd.length q5,.slice q1 qb.length q6,.slice q2 qt.length q7,.slice q3 qu.length q8,.slice q4 qn.length q9] 57))=W at*;refine(c0 W (r0.below hB) (s0.below hB)).mono ?_;rintro e w0 ⟨rfl,hb⟩;replace B:=B.below hb;replace B':=B'.below hb;replace hB:=hB.trans (hb.mono hB.size);clear hb
 cases X0 with
 |false=>
  go_wp2
  go_ret;exact⟨by rw[E.out];rfl,hB⟩
 |true=>
  have f1:=B.cell 1 _ rfl;have g1:=B'.cell 1 _ rfl
  go_wp2_with fail
  clear f1 g1;refine(c1 w0 (r1.below hB) (s1.below hB)).mono ?_;rintro e w1 ⟨rfl,hb⟩;replace B:=B.below hb;replace B':=B'.below hb;replace hB:=hB.trans (hb.mono hB.size);clear hb
  cases X1 with
  |false=>
   go_wp2
   go_ret;exact⟨by rw[E.out];rfl,hB⟩
  |true=>
   have f2:=B.cell 2 _ rfl;have g2:=B'.cell 2 _ rfl
   go_wp2_with fail
   clear f2 g2;refine(c2 w1 (r2.below hB) (s2.below hB)).mono ?_;rintro e w2 ⟨rfl,hb⟩;replace B:=B.below hb;replace B':=B'.below hb;replace hB:=hB.trans (hb.mono hB.size);clear hb
   cases X2 with
   |false=>
    go_wp2
    go_ret;exact⟨by rw[E.out];rfl,hB⟩
   |true=>
    have f3:=B.cell 3 _ rfl;have g3:=B'.cell 3 _ rfl
    go_wp2_with fail
    clear f3 g3;refine(c3 w2 (r3.below hB) (s3.below hB)).mono ?_;rintro e w3 ⟨rfl,hb⟩;replace B:=B.below hb;replace B':=B'.below hb;replace hB:=hB.trans (hb.mono hB.size);clear hb
    cases X3 with
    |false=>
     go_wp2
     go_ret;exact⟨by rw[E.out];rfl,hB⟩
    |true=>
     have f4:=B.cell 4 _ rfl;have g4:=B'.cell 4 _ rfl
     go_wp2_with fail
     clear f4 g4;refine(c4 w3 (r4.below hB) (s4.below hB)).mono ?_;rintro e w4 ⟨rfl,hb⟩;replace B:=B.below hb;replace B':=B'.below hb;replace hB:=hB.trans (hb.mono hB.size);clear hb
     go_wp2
     go_ret;exact⟨by rw[E.out];rfl,hB⟩
theorem z6o(b b':Nat)(p q:RepQ)(w:World)(hP:Blk w b 57 #[p.vd,p.vb,p.vt,p.vu,p.vn])(hQ:Blk w b' 57 #[q.vd,q.vb,q.vt,q.vu,q.vn])(h:repK.rd w p)(h':repK.rd w q)(hl:p.n≤1048576)(x:q.n≤1048576):
  Calls Tryz.prog 141 #[.pointer (some ⟨b,0,none⟩),.pointer (some ⟨b',0,none⟩)] w fun e w'=>e=.returned (.bool (sameRep p.e q.e))∧Below w.heap.size w w':=by
 obtain⟨z,pd,y,pb,C,pt,D,pu,A,pn⟩:=p;obtain⟨p0,p5,rfl⟩:∃a c,z=.slice a pd.length c:=h.1.shape;obtain⟨p1,p6,rfl⟩:∃a c,y=.slice a pb.length c:=h.2.1.shape;obtain⟨p2,p7,rfl⟩:∃a c,C=.slice a pt.length c:=h.2.2.1.shape;obtain⟨p3,p8,rfl⟩:∃a c,D=.slice a pu.length c:=h.2.2.2.1.shape;obtain⟨p4,p9,rfl⟩:∃a c,A=.slice a pn.length c:=h.2.2.2.2.shape;obtain⟨J,qd,I,qb,M,qt,N,qu,L,qn⟩:=q;obtain⟨q0,q5,rfl⟩:∃a c,J=.slice a qd.length c:=h'.1.shape;obtain⟨q1,q6,rfl⟩:∃a c,I=.slice a qb.length c:=h'.2.1.shape;obtain⟨q2,q7,rfl⟩:∃a c,M=.slice a qt.length c:=h'.2.2.1.shape;obtain⟨q3,q8,rfl⟩:∃a c,N=.slice a qu.length c:=h'.2.2.2.1.shape;obtain⟨q4,q9,rfl⟩:∃a c,L=.slice a qn.length c:=h'.2.2.2.2.shape;dsimp only[RepQ.n]at hl x;have c0:=fun w h h'=>z1K (.slice p0 pd.length p5) (.slice q0 qd.length q5) (pd.map TxnQ.e) (qd.map TxnQ.e) w (z0z h) (z0z h') (by rw[List.length_map,z0T];omega) (by rw[List.length_map,z0T];omega)
 have c1:=fun w h h'=>z1x p1 q1 p6 q6 pb qb w h h' (by omega) (by omega)
 have c2:=fun w h h'=>z1K (.slice p2 pt.length p7) (.slice q2 qt.length q7) (pt.map TxnQ.e) (qt.map TxnQ.e) w (z0z h) (z0z h') (by rw[List.length_map,z0T];omega) (by rw[List.length_map,z0T];omega)
 have c3:=fun w h h'=>z3B (.slice p3 pu.length p8) (.slice q3 qu.length q8) pu qu w h h' (by omega) (by omega)
 have c4:=fun w h h'=>z1x p4 q4 p9 q9 pn qn w h h' (by omega) (by omega)
 obtain⟨r0,r1,r2,r3,r4⟩:txnK.At w (.slice p0 pd.length p5) pd∧itemK.At w (.slice p1 pb.length p6) pb∧txnK.At w (.slice p2 pt.length p7) pt∧ussK.At w (.slice p3 pu.length p8) pu∧itemK.At w (.slice p4 pn.length p9) pn:=h;obtain⟨s0,s1,s2,s3,s4⟩:txnK.At w (.slice q0 qd.length q5) qd∧itemK.At w (.slice q1 qb.length q6) qb∧txnK.At w (.slice q2 qt.length q7) qt∧ussK.At w (.slice q3 qu.length q8) qu∧itemK.At w (.slice q4 qn.length q9) qn:=h';replace r1:=(z07 r1).2;replace r4:=(z07 r4).2;replace s1:=(z07 s1).2;replace s4:=(z07 s4).2;have E:Hid (sameRep ⟨pd.map TxnQ.e,pb,pt.map TxnQ.e,pu.map USQ.e,pn⟩ ⟨qd.map TxnQ.e,qb,qt.map TxnQ.e,qu.map USQ.e,qn⟩=(sameTs (pd.map TxnQ.e) (qd.map TxnQ.e) && (sameIs pb qb && (sameTs (pt.map TxnQ.e) (qt.map TxnQ.e) && (sameUss (pu.map USQ.e) (qu.map USQ.e) && sameIs pn qn))))):=show _=_ from rfl
 dsimp only[RepQ.e];generalize sameTs (pd.map TxnQ.e) (qd.map TxnQ.e)=X0 at*;generalize sameIs pb qb=X1 at*;generalize sameTs (pt.map TxnQ.e) (qt.map TxnQ.e)=X2 at*;generalize sameUss (pu.map USQ.e) (qu.map USQ.e)=X3 at*;generalize sameIs pn qn=X4 at*;generalize sameRep ⟨pd.map TxnQ.e,pb,pt.map TxnQ.e,pu.map USQ.e,pn⟩ ⟨qd.map TxnQ.e,qb,qt.map TxnQ.e,qu.map USQ.e,qn⟩=S at*;have f0:=hP.lat 0 _ rfl;have g0:=hQ.lat 0 _ rfl;have f1:=hP.lat 1 _ rfl;have g1:=hQ.lat 1 _ rfl;have f2:=hP.lat 2 _ rfl;have g2:=hQ.lat 2 _ rfl;have f3:=hP.lat 3 _ rfl;have g3:=hQ.lat 3 _ rfl;have f4:=hP.lat 4 _ rfl;have g4:=hQ.lat 4 _ rfl;have hW:Below w.heap.size w w.drew:=(Below.refl _ _).drew;have O:Nonempty (Lat w):=⟨⟨w,Below.refl _ _⟩⟩
 go_enter Tryz.func141,Tryz.ntmps141
 go_wp2_with fail
 refine z0h (S:=fun w'=>∃u:Lat w,w'=u.val) (by kernel_rfl) ?_;refine sgr [(0,8)] 46 (by kernel_rfl) ⟨⟨_,hW⟩,rfl⟩ ?_;simp only[pkE];repeat go_big_quiet_step (fail)
 refine wpQuiet_nil ?_;refine cla 8 (some 13) 102 #[.slice p0 pd.length p5,.slice q0 qd.length q5] 45 (by kernel_rfl) ?_;refine(c0 _ (r0.below hW) (s0.below hW)).mono ?_;rintro e w9 ⟨rfl,d⟩;replace hW:=hW.trans (d.mono hW.size);clear d;refine⟨_,rfl,⟨⟨_,hW⟩,rfl⟩,?_⟩;simp only[Act.put,pjE]
 cases X0
 all_goals
  refine sgr [(9,9)] 36 (by kernel_rfl) ⟨⟨_,hW⟩,rfl⟩ ?_;simp only[pkE];repeat go_big_quiet_step (fail)
  refine wpQuiet_nil ?_
 focus
  refine ska 18 (some 23) 35 (by kernel_rfl) ⟨⟨_,hW⟩,rfl⟩ ?_;simp only[Act.put,pjE]
 rotate_left
 focus
  refine cla 18 (some 23) 102 #[.slice p2 pt.length p7,.slice q2 qt.length q7] 35 (by kernel_rfl) ?_;refine(c2 _ (r2.below hW) (s2.below hW)).mono ?_;rintro e w9 ⟨rfl,d⟩;replace hW:=hW.trans (d.mono hW.size);clear d;refine⟨_,rfl,⟨⟨_,hW⟩,rfl⟩,?_⟩;simp only[Act.put,pjE]
  cases X2
 rotate_right
 all_goals
  refine sgr [(19,10)] 25 (by kernel_rfl) ⟨⟨_,hW⟩,rfl⟩ ?_;simp only[pkE];repeat go_big_quiet_step (fail)
  refine wpQuiet_nil ?_
 iterate 2
  focus
   refine ska 29 (some 34) 24 (by kernel_rfl) ⟨⟨_,hW⟩,rfl⟩ ?_;simp only[Act.put,pjE]
  rotate_left
 focus
  refine cla 29 (some 34) 187 #[.slice p1 pb.length p6,.slice q1 qb.length q6] 24 (by kernel_rfl) ?_;refine(c1 _ (r1.below hW) (s1.below hW)).mono ?_;rintro e w9 ⟨rfl,d⟩;replace hW:=hW.trans (d.mono hW.size);clear d;refine⟨_,rfl,⟨⟨_,hW⟩,rfl⟩,?_⟩;simp only[Act.put,pjE]
  cases X1
 rotate_right 2
 all_goals
  refine sgr [(30,10)] 14 (by kernel_rfl) ⟨⟨_,hW⟩,rfl⟩ ?_;simp only[pkE];repeat go_big_quiet_step (fail)
  refine wpQuiet_nil ?_
 iterate 3
  focus
   refine ska 40 (some 45) 13 (by kernel_rfl) ⟨⟨_,hW⟩,rfl⟩ ?_;simp only[Act.put,pjE]
  rotate_left
 focus
  refine cla 40 (some 45) 187 #[.slice p4 pn.length p9,.slice q4 qn.length q9] 13 (by kernel_rfl) ?_;refine(c4 _ (r4.below hW) (s4.below hW)).mono ?_;rintro e w9 ⟨rfl,d⟩;replace hW:=hW.trans (d.mono hW.size);clear d;refine⟨_,rfl,⟨⟨_,hW⟩,rfl⟩,?_⟩;simp only[Act.put,pjE]
  cases X4
 rotate_right 3
 all_goals
  refine sgr [(41,10)] 3 (by kernel_rfl) ⟨⟨_,hW⟩,rfl⟩ ?_;simp only[pkE];repeat go_big_quiet_step (fail)
  refine wpQuiet_nil ?_
 iterate 4
  focus
   refine ska 51 (some 56) 2 (by kernel_rfl) ⟨⟨_,hW⟩,rfl⟩ ?_;simp only[Act.put,pjE]
  rotate_left
 focus
  refine cla 51 (some 56) 188 #[.slice p3 pu.length p8,.slice q3 qu.length q8] 2 (by kernel_rfl) ?_;refine(c3 _ (r3.below hW) (s3.below hW)).mono ?_;rintro e w9 ⟨rfl,d⟩;replace hW:=hW.trans (d.mono hW.size);clear d;refine⟨_,rfl,⟨⟨_,hW⟩,rfl⟩,?_⟩;simp only[Act.put,pjE]
 rotate_right 4
 all_goals
  refine sgr [(52,2)] 0 (by kernel_rfl) ⟨⟨_,hW⟩,rfl⟩ ?_;simp only[pkE];repeat go_big_quiet_step (fail)
  refine wpQuiet_nil ?_
 all_goals
  refine z0k (by kernel_rfl) ?_
  go_wp2
  go_ret;exact⟨by rw[E.out];simp,hW⟩
end Go.Proofs.YtciofogeiohleaaGreatDoor
