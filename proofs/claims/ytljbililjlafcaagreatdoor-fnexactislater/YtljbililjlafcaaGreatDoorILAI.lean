/- Texts joined,with what the laws reach alone. -/
import Derived.Test.YtljbililjlafcaaGreatDoorILAH
import Derived.Deep.Slices
import Derived.Deep.Strs
import Derived.ProofKit
import Derived.Test.YtljbililjlafcaaGreatDoorRows
import Derived.Lib.LaidU8
import Derived.OpenVars
import Derived.LaidMore
import Derived.Stop.LaidErr
import Derived.Stop.Joined
set_option linter.unusedVariables false
set_option linter.unusedSimpArgs false
set_option maxRecDepth 100000
set_option maxHeartbeats 4000000
namespace Go.Proofs.YtljbililjlafcaaGreatDoor
open Go.RowKit Go.BigFrame
def stpF(acc:List TxnD)(t:TxnD):Int:=if t.F=0 then(if knw acc t then 6 else 0)else t.F
def z1Z:List TxnD→List TxnD→Int
 |_,[]=>0
 |acc,t::r=>if stpF acc t=0 then z1Z (acc++[t]) r else stpF acc t
def lstF(ds:List TxnD):Int:=if 40<ds.length then 2 else z1Z [] ds
def q0H:List (List TxnD)→Int
 |[]=>0
 |d::r=>if lstF d=0 then q0H r else lstF d
theorem z8x(ds:List TxnD)(k:Nat)(hk:k<ds.length):z1Z (ds.take k) (ds.drop k)=if stpF (ds.take k) ds[k]=0 then z1Z (ds.take (k+1)) (ds.drop (k+1))else stpF (ds.take k) ds[k]:=by
 conv=>lhs;rw[List.drop_eq_getElem_cons hk]
 rw[z1Z,List.take_succ_eq_append_getElem hk]
theorem z62(ds:List TxnD)(k:Nat)(hk:ds.length≤k):z1Z (ds.take k) (ds.drop k)=0:=by
 rw[List.drop_of_length_le hk];rfl
theorem q3l(ls:List (List TxnD))(k:Nat)(hk:k<ls.length):q0H (ls.drop k)=if lstF ls[k]=0 then q0H (ls.drop (k+1))else lstF ls[k]:=by
 rw[List.drop_eq_getElem_cons hk,q0H]
theorem Kind.At.rdm{P:Type}{K:Kind P}{w:World}{v:Value}{ps:List P}{p:P}(h:K.At w v ps)(hp:p∈ps):K.rd w p:=by
 obtain⟨a,c,e,hl,hr⟩:=h;exact hr p hp
theorem Blk.setOne{w:World}{b:Nat}{t:TypeId}{x y:Value}(h:Blk w b t #[x]):Blk (w.setCell ⟨b,0,none⟩ y) b t #[y]:=by
 have h1:w.heap[b]?=some (.cells #[x] t (0,0)):=h;show(w.setCell ⟨b,0,none⟩ y).heap[b]?=some (.cells #[y] t (0,0));simp[World.setCell,Array.getElem?_modify,h1]
theorem z6c(p:TxnQ)(qs:List TxnQ)(bx:Nat)(va:Value)(w:World)(hT:actK.At w p.va p.acts)(hl:p.acts.length≤1048576)(hv:Blk w bx 40 #[va])(ho:w.ownsRow (bx+1) 82 4 va qs.length (txnK.row qs))(V:∀q∈qs,txnK.rd w q)(hq:qs.length≤40):
  Calls Tryz.prog 198 #[.agg #[.int .i64 p.i,.int .i64 p.s,.int .i64 p.q,p.va],.pointer (some ⟨bx,0,none⟩)] w fun e w'=>e=.returned (.int .i64 (stpF (qs.map TxnQ.e) (TxnQ.e p)))∧Below bx w w'∧(stpF (qs.map TxnQ.e) (TxnQ.e p)=0→∃Z,Blk w' bx 40 #[Z]∧w'.ownsRow (bx+1) 82 4 Z (qs++[p]).length (txnK.row (qs++[p]))):=by
 obtain⟨i,s,q,pv,c⟩:=p;dsimp only at hT hl;obtain⟨aa,ac,rfl⟩:=hT.shape;obtain⟨sa,sc,rfl⟩:=z0g ho;obtain⟨i0,hi,ah,ai,aj⟩:=info_parts z09;have ak:=hv.lt;have hB:Below w.heap.size w (w.alloc (.cells #[.int .i64 i,.int .i64 s,.int .i64 q,.slice aa c.length ac] 82)):=by go_grown
 have hX:=Blk.new w 82 #[.int .i64 i,.int .i64 s,.int .i64 q,.slice aa c.length ac];have M:=z11 i s q aa ac c _ ((z0O hT).2.below hB) hl;replace hv:=hv.below hB;replace ho:=z0d ho hB;have D:txnK.At (w.alloc (.cells #[.int .i64 i,.int .i64 s,.int .i64 q,.slice aa c.length ac] 82)) (.slice sa qs.length sc) qs:=Kind.at_of_row ho (fun q hq=>txnK.rd_below (V q hq) hB);have HS:Hid (stpF (qs.map TxnQ.e) ⟨i,s,q,c⟩=if txnF i s q c=0 then(if knw (qs.map TxnQ.e) ⟨i,s,q,c⟩then 6 else 0)else txnF i s q c):=rfl;dsimp only[TxnQ.e];generalize stpF (qs.map TxnQ.e) ⟨i,s,q,c⟩=S at*;generalize txnF i s q c=C at*;clear hT V;go_enter Tryz.func198,Tryz.ntmps198
 go_wp2_with fail
 have ab:=hB.size;have an:w.heap.size<(w.alloc (.cells #[.int .i64 i,.int .i64 s,.int .i64 q,.slice aa c.length ac] 82)).heap.size:=by simp
 generalize w.heap.size=H at*;generalize w.alloc (.cells #[.int .i64 i,.int .i64 s,.int .i64 q,.slice aa c.length ac] 82)=W at*;refine M.mono ?_;rintro e w1 ⟨rfl,d⟩;replace hv:=hv.below d;replace ho:=z0d ho d;replace hX:=hX.below d;replace D:=D.below d;replace hB:=hB.trans (d.mono ab);by_cases hC:C=0
 ·subst hC;rw[if_pos rfl]at HS;have hh:=z5f (.slice sa qs.length sc) qs ⟨i,s,q,c⟩ aa c.length ac w1 D (by omega);dsimp only at hh;obtain⟨x0,x1,x2,x3⟩:=hX.cel4;have v0:=hv.cell 0 _ rfl;generalize knw (qs.map TxnQ.e) ⟨i,s,q,c⟩=Y at*;clear M D
  go_wp2_with fail
  refine hh.mono ?_;rintro e w2 ⟨rfl,z⟩;clear x0 x1 x2 x3 v0 hh;replace hv:=hv.below z;replace ho:=z0d ho z;replace hX:=hX.below z;have al:=z.size;have af:=d.size;replace hB:=hB.trans (z.mono (by omega));clear d z
  cases Y with
  |true=>
   have A:Hid (S=6):=HS.out;clear HS
   go_wp2
   go_ret;rw[A.out];exact⟨rfl,hB.mono (by omega),fun h0=>absurd h0 (by decide)⟩
  |false=>
   have A:Hid (S=0):=HS.out;clear HS;obtain⟨x0,x1,x2,x3⟩:=hX.cel4;have v0:=hv.cell 0 _ rfl;have I:Below w2.heap.size w2 (w2.alloc (.cells #[.int .i64 i,.int .i64 s,.int .i64 q,.slice aa c.length ac] 82)):=by go_grown
   have X:=hv.below I;have J:=z0d ho I;have N:=hB.trans (I.mono (by omega));have am:=I.size;clear hv ho hB hX
   go_wp2_with (at_builtin;refine wpList_append_own_at _ rfl _ _ 40 rfl (bx+1) 82 i0 (.agg #[.int .i64 0,.int .i64 0,.int .i64 0,.slice none 0 0]) 4 48 Tryz.underlying40 hi ah ai aj rfl (by decide) _ qs.length (txnK.row qs) rfl J ⟨w2.heap.size,0,none⟩ 1 1 [.int .i64 i,.int .i64 s,.int .i64 q,.slice aa c.length ac] rfl rfl ?c1 ?c2 ?c3 ?c4 ?c5 ?_)
   all_goals try(case c1=>intro j u hj;match j,hj with|0,hj=>simp at hj;subst hj;simp[Addr.add]|1,hj=>simp at hj;subst hj;simp[Addr.add]|2,hj=>simp at hj;subst hj;simp[Addr.add]|3,hj=>simp at hj;subst hj;simp[Addr.add])
   all_goals try(case c2=>intro u hu;simp at hu;rcases hu with rfl|rfl|rfl|rfl<;>rfl)
   all_goals try(case c3=>unfold maxLen;omega)
   all_goals try(case c4=>omega)
   all_goals try(case c5=>omega)
   intro v' w5 y x U O;obtain⟨a6,c6,rfl⟩:=z0g y;have E:Blk w5 bx 40 #[.slice sa qs.length sc]:=X.grown x (fun e=>by have:=(J.lt bx e.symm).1;omega);have T:Below bx w w5:=(N.mono (show bx≤_ by omega)).grown x (by omega) (fun j hj=>by have:=(J.lt j hj).1;omega);have L:txnK.row (qs++[(⟨i,s,q,.slice aa c.length ac,c⟩:TxnQ)])=txnK.row qs++[.int .i64 i,.int .i64 s,.int .i64 q,.slice aa c.length ac]:=by simp[Kind.row];rfl
   have f5:=E.frozen 0;have c5:=E.cell 0 _ rfl;have ad:Below bx w (w5.setCell ⟨bx,0,none⟩ (.slice a6 (qs.length+1) c6)):=Out.keep T (Out.setCell w5 bx 0 _) (by have:=E.lt;omega) (fun k hk=>by simp at hk;omega);have ag:Blk (w5.setCell ⟨bx,0,none⟩ (.slice a6 (qs.length+1) c6)) bx 40 #[.slice a6 (qs.length+1) c6]:=E.setOne;have ae:(w5.setCell ⟨bx,0,none⟩ (.slice a6 (qs.length+1) c6)).ownsRow (bx+1) 82 4 (.slice a6 (qs.length+1) c6) (qs++[(⟨i,s,q,.slice aa c.length ac,c⟩:TxnQ)]).length (txnK.row (qs++[(⟨i,s,q,.slice aa c.length ac,c⟩:TxnQ)])):=by
    rw[L,List.length_append];refine z0L y (Out.setCell w5 bx 0 _) (fun k hk e=>?_);simp only[List.mem_singleton]at e;subst e;have:=(y.lt k (by simpa[blk]using hk)).1;omega
   clear y x U O L J X T N E x0 x1 x2 x3 v0
   go_wp2
   go_ret;rw[A.out];exact⟨rfl,ad,fun _=>⟨_,ag,ae⟩⟩
 ·rw[if_neg hC]at HS;have A:Hid (S=C):=HS.out;clear HS M D;have af:=d.size
  go_wp2
  go_ret;rw[A.out];exact⟨rfl,hB.mono (by omega),fun h0=>absurd h0 hC⟩
theorem z6d(w:World):Calls Tryz.prog 179 #[] w fun e w'=>e=.returned (.func (.func 198) #[] #[.pointer (some ⟨w.heap.size,0,none⟩)])∧w'=w.alloc (.cells #[.slice none 0 0] 40):=by
 have hmf:∀ (fn:Fn) (first cap:Array Value) (w:World),(Instr.makeFunc fn first cap).run Tryz.prog w=.ok (.func fn first cap) w:=fun _ _ _ _=>rfl
 go_enter Tryz.func179,Tryz.ntmps179
 go_wp2
 go_ret;exact⟨rfl,rfl⟩
theorem z5g(b cap:Nat)(ls:List (Value × List TxnQ))(w:World)(ax:b<w.heap.size)(hc:∀ (k:Nat) (hk:k<ls.length),w.cell? ⟨b,k,none⟩=some ls[k].1)(hA:∀l∈ls,txnK.At w l.1 l.2)(hl:∀l∈ls,l.2.length+nmL TxnQ.n l.2≤1048576)(h2:ls.length≤2):
  Calls Tryz.prog 144 #[.slice (some ⟨b,0,none⟩) ls.length cap] w fun e w'=>e=.returned (.int .i64 (q0H (ls.map (fun l=>l.2.map TxnQ.e))))∧Below w.heap.size w w':=by
 generalize hE:q0H (ls.map (fun l=>l.2.map TxnQ.e))=E;have HE:Hid (q0H ((ls.map (fun l=>l.2.map TxnQ.e)).drop 0)=E):=hE;clear hE;go_enter Tryz.func144,Tryz.ntmps144
 go_wp2
 go_loopw[11] (fun j wr=>∃k:Nat,k≤ls.length∧j=.int .i64 k∧Below w.heap.size w wr∧Hid (q0H ((ls.map (fun l=>l.2.map TxnQ.e)).drop k)=E)) (fun j _=>ls.length-(intOf j).toNat)
 case atStart=>exact⟨0,Nat.zero_le _,rfl,Below.refl _ _,HE⟩
 case round=>
  clear HE;obtain⟨k,hk,rfl,hb,HE⟩:=hrel;obtain⟨U,rfl⟩:∃U,U=wr:=⟨_,rfl⟩
  by_cases I:k<ls.length
  ·have d:Hid ((if lstF (ls[k].2.map TxnQ.e)=0 then q0H ((ls.map (fun l=>l.2.map TxnQ.e)).drop (k+1))else lstF (ls[k].2.map TxnQ.e))=E):=show _=_ by
    have:=HE.out;rw[q3l _ k (by simpa using I)]at this;simpa using this
   have ah:=(hb.cell (p:=⟨b,k,none⟩) ax).trans (hc k I);have M:=(hA _ (List.getElem_mem I)).below hb;have W:=hl _ (List.getElem_mem I);generalize ls[k]=l at*;obtain⟨v,ps⟩:=l;dsimp only at ah M W d;obtain⟨a,cp,rfl⟩:=M.shape;clear HE;have ak:(k:Int)<(ls.length:Int):=by omega
   by_cases ad:40<ps.length
   ·have E1:Hid (E=2):=show _=_ by
     have:=d.out;have e2:lstF (ps.map TxnQ.e)=2:=by unfold lstF;rw[List.length_map,if_pos ad]
     rw[e2]at this;exact this.symm
    clear d;have ae:(40:Int)<(ps.length:Int):=by omega
    go_wp2
    go_ret;rw[E1.out];exact⟨rfl,hb⟩
   ·have ae:¬(40:Int)<(ps.length:Int):=by omega
    have ab:Hid (z1Z (((ps.map TxnQ.e)).take 0) ((ps.map TxnQ.e).drop 0)=lstF (ps.map TxnQ.e)):=show _=_ by unfold lstF;rw[List.length_map,if_neg ad];rfl
    have aj:=z6d U;have ag:Below U.heap.size U (U.alloc (.cells #[.slice none 0 0] 40)):=by go_grown
    have ao:=Blk.new U 40 #[.slice none 0 0];have al:=World.ownsRow_nil (U.alloc (.cells #[.slice none 0 0] 40)) (U.heap.size+1) 82 4;have ap:=hb.size
    go_wp2_with fail
    clear ah;refine aj.mono ?_;rintro e w2 ⟨rfl,rfl⟩;clear aj;generalize av:U.heap.size=bx at*;generalize hY:U.alloc (.cells #[.slice none 0 0] 40)=Y at*;clear hY
    go_wp2
    go_loopw[21] (fun j wy=>∃ (m:Nat) (va:Value),m≤ps.length∧j=.int .i64 m∧Blk wy bx 40 #[va]∧wy.ownsRow (bx+1) 82 4 va (ps.take m).length (txnK.row (ps.take m))∧Below bx U wy∧Hid (z1Z ((ps.map TxnQ.e).take m) ((ps.map TxnQ.e).drop m)=lstF (ps.map TxnQ.e))) (fun j _=>ps.length-(intOf j).toNat)
    case atStart=>exact⟨0,_,Nat.zero_le _,rfl,ao,al,ag,ab⟩
    case round=>
     clear ao al ag ab;obtain⟨m,va,hm,rfl,hv,ho,A,HG⟩:=hrel;by_cases c:m<ps.length
     ·have L:Hid ((if stpF ((ps.map TxnQ.e).take m) (TxnQ.e ps[m])=0 then z1Z ((ps.map TxnQ.e).take (m+1)) ((ps.map TxnQ.e).drop (m+1))else stpF ((ps.map TxnQ.e).take m) (TxnQ.e ps[m]))=lstF (ps.map TxnQ.e)):=show _=_ by
       have:=HG.out;rw[z8x _ m (by simpa using c)]at this;simpa using this
      have C:Below U.heap.size U wr:=by rw[av];exact A
      obtain⟨b',aA,rfl,aD,ai,am⟩:=(M.below C).cell (by decide) m c;have D:∀j x,(txnK.cells ps[m])[j]?=some x→wr.cell? ⟨b',aA+m*4+j,none⟩=some x:=ai;have c0:=D 0 (.int .i64 ps[m].i) rfl;have c1:=D 1 (.int .i64 ps[m].s) rfl;have c2:=D 2 (.int .i64 ps[m].q) rfl;have c3:=D 3 (ps[m].va) rfl;rw[Nat.add_zero]at c0;have aq:=z0W TxnQ.n ps m c;have an:ps.take (m+1)=ps.take m++[ps[m]]:=List.take_succ_eq_append_getElem c;have T:∀q∈ps.take m,txnK.rd wr q:=fun q hq=>(M.below C).rdm (List.mem_of_mem_take hq)
      have W:(ps.take m).length≤40:=by rw[List.length_take];omega
      have O:=z6c ps[m] (ps.take m) bx va;rw[List.map_take,←an]at O;clear HG ai D an;generalize hS:stpF ((ps.map TxnQ.e).take m) (TxnQ.e ps[m])=S at*;clear hS;generalize ps[m]=p at*;obtain⟨i,s,q,aB,y⟩:=p;have J:actK.At wr aB y:=am;replace aq:y.length≤nmL TxnQ.n ps:=aq;obtain⟨aa,ac,rfl⟩:=J.shape;dsimp only at c0 c1 c2 c3 O;have X:(m:Int)<(ps.length:Int):=by omega
      have z:Below wr.heap.size wr (wr.alloc (.cells #[.int .i64 i,.int .i64 s,.int .i64 q,.slice aa y.length ac] 82)):=by go_grown
      have hq:=O _ (J.below z) (by omega) (hv.below z) (z0d ho z) (fun q hq=>txnK.rd_below (T q hq) z) W;have N:=A.trans (z.mono (by have:=hv.lt;omega));clear O z hv ho J am T A C
      go_wp2_with fail
      clear c0 c1 c2 c3;generalize wr.alloc (.cells #[.int .i64 i,.int .i64 s,.int .i64 q,.slice aa y.length ac] 82)=Z at*;refine hq.mono ?_;rintro e w3 ⟨rfl,af,hI⟩;replace N:=N.trans af;clear hq af;by_cases V:S=0
      ·subst V;obtain⟨aC,az,ay⟩:=hI rfl;clear hI;have au:Hid (z1Z ((ps.map TxnQ.e).take (m+1)) ((ps.map TxnQ.e).drop (m+1))=lstF (ps.map TxnQ.e)):=show _=_ by
        have:=L.out;rw[if_pos rfl]at this;exact this
       clear L
       go_wp2
       go_roundw
       case rel=>exact⟨m+1,aC,by omega,by go_num,az,ay,N,au⟩
       case measure=>simp[intOf];omega
      ·have E1:Hid (E=S):=show _=_ by
        have h3:=L.out;rw[if_neg V]at h3;have h4:=d.out;rw[←h3,if_neg V]at h4;exact h4.symm
       clear L d hI
       go_wp2
       go_ret;rw[E1.out];exact⟨rfl,hb.trans (N.mono ap)⟩
     ·have h0:lstF (ps.map TxnQ.e)=0:=by rw[←HG.out];exact z62 _ _ (by simpa using Nat.le_of_not_lt c)
      have ar:Hid (q0H ((ls.map (fun l=>l.2.map TxnQ.e)).drop (k+1))=E):=show _=_ by
       have:=d.out;rw[if_pos h0]at this;exact this
      have X:¬(m:Int)<(ps.length:Int):=by omega
      have aw:Below w.heap.size w wr:=hb.trans (A.mono ap);clear HG d hv ho A
      go_wp2
      go_roundw
      case rel=>exact⟨k+1,by omega,by go_num,aw,ar⟩
      case measure=>simp[intOf];omega
  ·have E1:Hid (E=0):=by
    show _=_;rw[←HE.out,List.drop_of_length_le (by simpa using Nat.le_of_not_lt I)];rfl
   have ak:¬(k:Int)<(ls.length:Int):=by omega
   clear HE
   go_wp2
   go_ret;rw[E1.out];exact⟨rfl,hb⟩
theorem z3p(v:Value)(ps:List TxnQ)(w:World)(h:txnK.At w v ps)(hl:ps.length+nmL TxnQ.n ps≤1048576):
  Calls Tryz.prog 119 #[v] w fun e w'=>e=.returned (.int .i64 (lstF (ps.map TxnQ.e)))∧Below w.heap.size w w':=by
 have hB:Below w.heap.size w (w.alloc (.cells #[v] 40)):=by go_grown
 have hX:=Blk.new w 40 #[v];have hq:=z5g w.heap.size 1 [(v,ps)] (w.alloc (.cells #[v] 40)) hX.lt (fun k hk=>by
  have h0:k=0:=by simpa using hk
  subst h0;exact hX.cell 0 _ rfl) (fun l hl=>by rw [List.mem_singleton.1 hl];exact h.below hB) (fun l hl=>by rw [List.mem_singleton.1 hl];assumption) (by simp)
 have e0:q0H ([(v,ps)].map (fun l:Value × List TxnQ=>l.2.map TxnQ.e))=lstF (ps.map TxnQ.e):=by
  show(if lstF (ps.map TxnQ.e)=0 then 0 else lstF (ps.map TxnQ.e))=_;split
  ·rename_i h0;exact h0.symm
  ·rfl
 rw[e0]at hq;clear e0;generalize lstF (ps.map TxnQ.e)=E at*;obtain⟨a,cap,rfl⟩:=h.shape;clear hX;go_enter Tryz.func119,Tryz.ntmps119
 go_wp2_with fail
 refine Calls.mono (show Calls Tryz.prog _ #[.slice (some ⟨w.heap.size,0,none⟩) 1 1] _ _ from hq) ?_;rintro e w2 ⟨rfl,hb⟩;replace hB:=hB.trans (hb.mono hB.size)
 go_wp2
 go_ret;exact⟨rfl,hB⟩
theorem z72(v:Value)(ps:List TxnQ)(w:World)(h:txnK.At w v ps)(ad:z51 v)(hl:ps.length+nmL TxnQ.n ps≤1048576):
  Calls Tryz.prog 83 #[v] w fun e w'=>e=.returned (.int .i64 (lstF (ps.map TxnQ.e)))∧Below w.heap.size w w':=by
 obtain⟨a,cap,rfl⟩:=h.shape;obtain⟨ah,ai⟩:ps.length≤cap∧cap≤maxLen:=ad;by_cases T:40<ps.length
 ·have e2:lstF (ps.map TxnQ.e)=2:=by unfold lstF;rw[List.length_map,if_pos T]
  rw[e2];have U:(40:Int)<(ps.length:Int):=by omega
  go_enter Tryz.func83,Tryz.ntmps83
  go_wp2
  go_ret;exact⟨rfl,Below.refl _ _⟩
 ·have U:¬(40:Int)<(ps.length:Int):=by omega
  have e2:lstF (ps.map TxnQ.e)=z1Z ((ps.map TxnQ.e).take 0) ((ps.map TxnQ.e).drop 0):=by unfold lstF;rw[List.length_map,if_neg T];rfl
  have HE:Hid (z1Z ((ps.map TxnQ.e).take 0) ((ps.map TxnQ.e).drop 0)=lstF (ps.map TxnQ.e)):=e2.symm;clear e2;generalize lstF (ps.map TxnQ.e)=E at*;go_enter Tryz.func83,Tryz.ntmps83
  go_wp2
  go_loopw[3] (fun j wr=>∃m:Nat,m≤ps.length∧j=.int .i64 m∧Below w.heap.size w wr∧Hid (z1Z ((ps.map TxnQ.e).take m) ((ps.map TxnQ.e).drop m)=E)) (fun j _=>ps.length-(intOf j).toNat)
  case atStart=>exact⟨0,Nat.zero_le _,rfl,Below.refl _ _,HE⟩
  case round=>
   clear HE;obtain⟨m,hm,rfl,hb,HG⟩:=hrel;by_cases y:m<ps.length
   ·have z:Hid ((if stpF ((ps.map TxnQ.e).take m) (TxnQ.e ps[m])=0 then z1Z ((ps.map TxnQ.e).take (m+1)) ((ps.map TxnQ.e).drop (m+1))else stpF ((ps.map TxnQ.e).take m) (TxnQ.e ps[m]))=E):=show _=_ by
     have:=HG.out;rw[z8x _ m (by simpa using y)]at this;simpa using this
    have L:=(h.below hb).takeK m hm;obtain⟨b,d,rfl,ak,W,X⟩:=(h.below hb).cell (by decide) m y;have A:∀j x,(txnK.cells ps[m])[j]?=some x→wr.cell? ⟨b,d+m*4+j,none⟩=some x:=W;have c0:=A 0 (.int .i64 ps[m].i) rfl;have c1:=A 1 (.int .i64 ps[m].s) rfl;have c2:=A 2 (.int .i64 ps[m].q) rfl;have c3:=A 3 (ps[m].va) rfl;rw[Nat.add_zero]at c0;have Z:=z0W TxnQ.n ps m y;have D:=fun va w'=>z4C (.slice (some ⟨b,d,none⟩) m cap) (ps.take m) b (d+m*4) (TxnQ.e ps[m]) va w'
    have ae:(ps.take m).length≤1048576:=by rw[List.length_take];omega
    rw[List.map_take]at D;have HS:Hid (stpF ((ps.map TxnQ.e).take m) (TxnQ.e ps[m])=if(TxnQ.e ps[m]).F=0 then(if knw ((ps.map TxnQ.e).take m) (TxnQ.e ps[m])then 6 else 0)else(TxnQ.e ps[m]).F):=rfl;clear HG W A;generalize stpF ((ps.map TxnQ.e).take m) (TxnQ.e ps[m])=S at*;generalize knw ((ps.map TxnQ.e).take m) (TxnQ.e ps[m])=Y at*;generalize ps[m]=p at*;obtain⟨i,s,q,ag,c⟩:=p;have I:actK.At wr ag c:=X;replace Z:c.length≤nmL TxnQ.n ps:=Z;obtain⟨aa,ac,rfl⟩:=I.shape;have e3:(TxnQ.e ⟨i,s,q,.slice aa c.length ac,c⟩).F=txnF i s q c:=rfl;rw[e3]at HS;dsimp only[TxnQ.e]at c0 c1 c2 c3 D;have J:Box4 wr b (d+m*4) (.int .i64 i) (.int .i64 s) (.int .i64 q) (.slice aa c.length ac):=⟨c0,c1,c2,c3⟩
    have M:=z4m b (d+m*4) i s q aa ac c wr J (z0O I).2 (by omega);have N:(m:Int)<(ps.length:Int):=by omega
    generalize txnF i s q c=C at*;clear e3 c0 c1 c2 c3 I X
    go_wp2_with fail
    refine M.mono ?_;rintro e w2 ⟨rfl,O⟩;replace O:=O.symm;subst O;by_cases hC:C=0
    ·subst hC;rw[if_pos rfl]at HS;have hW:Below wr.heap.size wr wr.drew:=(Below.refl _ _).drew;have af:Nonempty (Lat wr):=⟨⟨wr,Below.refl _ _⟩⟩
     have am:m≤cap:=by omega
     have al:(0:Int)≤(m:Int):=by omega
     have aj:(m:Int)≤(cap:Int):=by omega
     clear M
     go_wp2_with fail
     refine z0b (S:=fun w'=>∃u:Lat wr,w'=u.val) (by kernel_rfl) ?_;refine sgr [(0,2),(3,3)] 2 (by kernel_rfl) ⟨⟨_,hW⟩,rfl⟩ ?_;simp only[pkE];repeat go_big_quiet_step (fail)
     refine wpQuiet_nil ?_;refine ona 2 1 rfl (by kernel_rfl) ?_
     go_wp2
     refine ThenGo.to ⟨⟨⟨_,hW⟩,rfl⟩,?_⟩;refine cla 6 (some 27) 33 #[.slice (some ⟨b,d,none⟩) m cap,.pointer (some ⟨b,d+m*4,none⟩)] 0 (by kernel_rfl) ?_;refine(D _ _ (L.below hW) (J.below hW) ae).mono ?_;rintro e w9 ⟨rfl,V⟩;replace hW:=hW.trans (V.mono hW.size);clear V D J L;refine⟨_,rfl,⟨⟨_,hW⟩,rfl⟩,?_⟩;simp only[Act.put,pjE];refine z0f (by kernel_rfl) ?_;replace hb:=hb.trans (hW.mono hb.size);clear hW af
     cases Y with
     |true=>
      have E1:Hid (E=6):=show _=_ by
       have h3:=z.out;have h4:S=6:=HS.out;rw[h4]at h3;exact h3.symm
      clear z HS
      go_wp2
      go_ret;rw[E1.out];exact⟨rfl,hb⟩
     |false=>
      have ab:Hid (z1Z ((ps.map TxnQ.e).take (m+1)) ((ps.map TxnQ.e).drop (m+1))=E):=show _=_ by
       have h3:=z.out;have h4:S=0:=HS.out;rw[h4]at h3;exact h3
      clear z HS
      go_wp2
      go_roundw
      case rel=>exact⟨m+1,by omega,by go_num,hb,ab⟩
      case measure=>simp[intOf];omega
    ·rw[if_neg hC]at HS;have E1:Hid (E=C):=show _=_ by
      have h3:=z.out;have h4:S=C:=HS.out;rw[h4,if_neg hC]at h3;exact h3.symm
     clear z HS D L J M
     go_wp2
     go_ret;rw[E1.out];exact⟨rfl,hb⟩
   ·have E1:Hid (E=0):=by
     show _=_;rw[←HG.out];exact z62 _ _ (by simpa using Nat.le_of_not_lt y)
    have N:¬(m:Int)<(ps.length:Int):=by omega
    clear HG
    go_wp2
    go_ret;rw[E1.out];exact⟨rfl,hb⟩
def z1M(x y:UndoD):Bool:=(x.key==y.key) && ((x.was==y.was) && (x.val==y.val))
def sameUs:List UndoD→List UndoD→Bool
 |[],[]=>true
 |x::r,y::s=>z1M x y && sameUs r s
 |_,_=>false
theorem z3L{α:Type}{f:α→α→Bool}{g:List α→List α→Bool}(h0:g [] []=true)(h1:∀x r y s,g (x::r) (y::s)=(f x y && g r s))(h2:∀x r,g (x::r) []=false)(h3:∀y s,g [] (y::s)=false):
  ∀a b,a.length≠b.length→g a b=false:=by
 intro a;induction a with
 |nil=>intro b h;cases b with|nil=>simp at h|cons y s=>exact h3 y s
 |cons x r ih=>intro b h;cases b with|nil=>exact h2 x r|cons y s=>rw[h1,ih s (by simpa using h)];simp
theorem z3M{α:Type}{f:α→α→Bool}{g:List α→List α→Bool}(d:α)(h1:∀x r y s,g (x::r) (y::s)=(f x y && g r s)):
  ∀a b k,a.length=b.length→k<a.length→f (a.getD k d) (b.getD k d)=false→g a b=false:=by
 intro a;induction a with
 |nil=>intro b k _ h;simp at h
 |cons x r ih=>
  intro b k hl hk hf
  cases b with
  |nil=>simp at hl
  |cons y s=>
   rw[h1]
   cases k with
   |zero=>simp[List.getD]at hf;simp[hf]
   |succ k=>rw[ih s k (by simpa using hl) (by simpa using hk) (by simpa[List.getD]using hf)];simp
theorem z3N{α:Type}{f:α→α→Bool}{g:List α→List α→Bool}(d:α)(h0:g [] []=true)(h1:∀x r y s,g (x::r) (y::s)=(f x y && g r s)):
  ∀a b,a.length=b.length→(∀k,k<a.length→f (a.getD k d) (b.getD k d)=true)→g a b=true:=by
 intro a;induction a with
 |nil=>intro b hl _;cases b with|nil=>exact h0|cons y s=>simp at hl
 |cons x r ih=>
  intro b hl hf
  cases b with
  |nil=>simp at hl
  |cons y s=>
   rw[h1,ih s (by simpa using hl) (fun k hk=>by simpa[List.getD]using hf (k+1) (by simpa using hk))];have:=hf 0 (by simp);simp[List.getD]at this;simp[this]
theorem z2k(x0:Int)(x1:Bool)(x2 y0:Int)(y1:Bool)(y2:Int)(w:World):(binOp .neq 223 (.agg #[.int .i64 x0,.bool x1,.int .i64 x2]) (.agg #[.int .i64 y0,.bool y1,.int .i64 y2])).run Tryz.prog w=.ok (.bool (!z1M ⟨x0,x1,x2⟩ ⟨y0,y1,y2⟩)) w:=by
 rw[run_neq_struct,run_equalIn_struct (P:=Tryz.prog) w 9999 223 _ _ (by kernel_rfl) (by kernel_rfl)];have c1:Tryz.prog.cellsOf 2=1:=by kernel_rfl
 have c2:Tryz.prog.cellsOf 4=1:=by kernel_rfl
 cases h0:(x0==y0)<;>cases h1:(x1==y1)<;>cases h2:(x2==y2)<;>simp[Program.fieldsOf,Tryz.underlying223,Op.eqFields,go_sem,Tryz.underlying2,Tryz.underlying4,h0,h1,h2,z1M,c1,c2]
theorem z9i(a a':Option Addr)(cap d:Nat)(xs ys:List UndoD)(w:World)(h:UndoRow w a xs)(h':UndoRow w a' ys)(hl:xs.length≤1048576)(U:ys.length≤1048576):
  Calls Tryz.prog 184 #[.slice a xs.length cap,.slice a' ys.length d] w fun e w'=>e=.returned (.bool (sameUs xs ys))∧Below w.heap.size w w':=by
 by_cases c:xs.length=ys.length
 case neg=>
  have E:sameUs xs ys=false:=z3L (f:=z1M) rfl (fun _ _ _ _=>rfl) (fun _ _=>rfl) (fun _ _=>rfl) xs ys c;rw[E];have hd:((xs.length:Int) !=(ys.length:Int))=true:=by simp;omega
  go_enter Tryz.func184,Tryz.ntmps184
  go_wp2
  go_ret;exact⟨rfl,Below.refl _ _⟩
 case pos=>
  have hd:((xs.length:Int) !=(ys.length:Int))=false:=by simp[c]
  have HL:Hid (xs.length=ys.length):=c;clear c;go_enter Tryz.func184,Tryz.ntmps184
  go_wp2
  go_loopw[13] (fun i wr=>∃k m:Nat,k≤xs.length∧i=.int .i64 k∧wr=w.drewN m∧Hid (∀j,j<k→z1M (xs.getD j z0j) (ys.getD j z0j)=true)) (fun i _=>xs.length-(intOf i).toNat)
  case atStart=>exact⟨0,0,Nat.zero_le _,rfl,rfl,fun j hj=>absurd hj (Nat.not_lt_zero _)⟩
  case round=>
   obtain⟨k,m,hk,rfl,rfl,HA⟩:=hrel;by_cases J:k<xs.length
   ·have L:k<ys.length:=by have:=HL.out;omega
    obtain⟨b,V,rfl,T,x,y,A⟩:=h.at k J;obtain⟨b',O,rfl,N,C,D,I⟩:=h'.at k L
    cases hs:z1M (xs.getD k z0j) (ys.getD k z0j)
    case false=>
     have E:Hid (sameUs xs ys=false):=z3M (f:=z1M) z0j (fun _ _ _ _=>rfl) xs ys k HL.out J hs;have hr:=z2k (xs.getD k z0j).key (xs.getD k z0j).was (xs.getD k z0j).val (ys.getD k z0j).key (ys.getD k z0j).was (ys.getD k z0j).val;rw[show z1M ⟨(xs.getD k z0j).key,(xs.getD k z0j).was,(xs.getD k z0j).val⟩ ⟨(ys.getD k z0j).key,(ys.getD k z0j).was,(ys.getD k z0j).val⟩=false from hs,Bool.not_false]at hr;clear HA hs;generalize xs.getD k z0j=z at x y A hr;generalize ys.getD k z0j=z' at C D I hr
     go_wp2
     go_quiet (fail)
     go_wp2
     go_ret;rw[E.out];exact⟨rfl,(Below.refl _ _).trans ⟨rfl,rfl,rfl,Nat.le_refl _,fun _ _=>rfl⟩⟩
    case true=>
     have HB:Hid (∀j,j<k+1→z1M (xs.getD j z0j) (ys.getD j z0j)=true):=by
      intro j hj;by_cases M:j=k
      ·subst M;exact hs
      ·exact HA.out j (by omega)
     have hr:=z2k (xs.getD k z0j).key (xs.getD k z0j).was (xs.getD k z0j).val (ys.getD k z0j).key (ys.getD k z0j).was (ys.getD k z0j).val;rw[show z1M ⟨(xs.getD k z0j).key,(xs.getD k z0j).was,(xs.getD k z0j).val⟩ ⟨(ys.getD k z0j).key,(ys.getD k z0j).was,(ys.getD k z0j).val⟩=true from hs,Bool.not_true]at hr;clear HA hs;generalize xs.getD k z0j=z at x y A hr;generalize ys.getD k z0j=z' at C D I hr
     go_wp2
     go_quiet (fail)
     go_wp2
     go_roundw
     case rel=>exact⟨k+1,_,by omega,by go_num,rfl,HB⟩
     case measure=>simp[intOf];omega
   ·have E:Hid (sameUs xs ys=true):=z3N (f:=z1M) z0j rfl (fun _ _ _ _=>rfl) xs ys HL.out (fun j hj=>HA.out j (by omega));clear HA
    go_wp2
    go_ret;rw[E.out];exact⟨rfl,(Below.refl _ _).trans ⟨rfl,rfl,rfl,Nat.le_refl _,fun _ _=>rfl⟩⟩
theorem z3U(a a':Option Addr)(cap d:Nat)(xs ys:List UndoD)(w:World)(h:UndoRow w a xs)(h':UndoRow w a' ys)(hl:xs.length≤1048576)(U:ys.length≤1048576):
  Calls Tryz.prog 136 #[.slice a xs.length cap,.slice a' ys.length d] w fun e w'=>e=.returned (.bool (sameUs xs ys))∧Below w.heap.size w w':=by
 by_cases c:xs.length=ys.length
 case neg=>
  have E:sameUs xs ys=false:=z3L (f:=z1M) rfl (fun _ _ _ _=>rfl) (fun _ _=>rfl) (fun _ _=>rfl) xs ys c;rw[E];have hd:((xs.length:Int) !=(ys.length:Int))=true:=by simp;omega
  go_enter Tryz.func136,Tryz.ntmps136
  go_wp2
  go_ret;exact⟨rfl,Below.refl _ _⟩
 case pos=>
  have hd:((xs.length:Int) !=(ys.length:Int))=false:=by simp[c]
  have HL:Hid (xs.length=ys.length):=c;clear c;go_enter Tryz.func136,Tryz.ntmps136
  go_wp2
  go_loopw[5] (fun i wr=>∃k m:Nat,k≤xs.length∧i=.int .i64 k∧wr=w.drewN m∧Hid (∀j,j<k→z1M (xs.getD j z0j) (ys.getD j z0j)=true)) (fun i _=>xs.length-(intOf i).toNat)
  case atStart=>exact⟨0,0,Nat.zero_le _,rfl,rfl,fun j hj=>absurd hj (Nat.not_lt_zero _)⟩
  case round=>
   obtain⟨k,m,hk,rfl,rfl,HA⟩:=hrel;by_cases J:k<xs.length
   ·have L:k<ys.length:=by have:=HL.out;omega
    obtain⟨b,V,rfl,T,x,y,A⟩:=h.at k J;obtain⟨b',O,rfl,N,C,D,I⟩:=h'.at k L
    cases hs:z1M (xs.getD k z0j) (ys.getD k z0j)
    case false=>
     have E:Hid (sameUs xs ys=false):=z3M (f:=z1M) z0j (fun _ _ _ _=>rfl) xs ys k HL.out J hs;have hr:=z2k (xs.getD k z0j).key (xs.getD k z0j).was (xs.getD k z0j).val (ys.getD k z0j).key (ys.getD k z0j).was (ys.getD k z0j).val;rw[show z1M ⟨(xs.getD k z0j).key,(xs.getD k z0j).was,(xs.getD k z0j).val⟩ ⟨(ys.getD k z0j).key,(ys.getD k z0j).was,(ys.getD k z0j).val⟩=false from hs,Bool.not_false]at hr;clear HA hs;generalize xs.getD k z0j=z at x y A hr;generalize ys.getD k z0j=z' at C D I hr
     go_wp2
     go_quiet (fail)
     go_wp2
     go_ret;rw[E.out];exact⟨rfl,(Below.refl _ _).trans ⟨rfl,rfl,rfl,Nat.le_refl _,fun _ _=>rfl⟩⟩
    case true=>
     have HB:Hid (∀j,j<k+1→z1M (xs.getD j z0j) (ys.getD j z0j)=true):=by
      intro j hj;by_cases M:j=k
      ·subst M;exact hs
      ·exact HA.out j (by omega)
     have hr:=z2k (xs.getD k z0j).key (xs.getD k z0j).was (xs.getD k z0j).val (ys.getD k z0j).key (ys.getD k z0j).was (ys.getD k z0j).val;rw[show z1M ⟨(xs.getD k z0j).key,(xs.getD k z0j).was,(xs.getD k z0j).val⟩ ⟨(ys.getD k z0j).key,(ys.getD k z0j).was,(ys.getD k z0j).val⟩=true from hs,Bool.not_true]at hr;clear HA hs;generalize xs.getD k z0j=z at x y A hr;generalize ys.getD k z0j=z' at C D I hr
     go_wp2
     go_quiet (fail)
     go_wp2
     go_roundw
     case rel=>exact⟨k+1,_,by omega,by go_num,rfl,HB⟩
     case measure=>simp[intOf];omega
   ·have E:Hid (sameUs xs ys=true):=z3N (f:=z1M) z0j rfl (fun _ _ _ _=>rfl) xs ys HL.out (fun j hj=>HA.out j (by omega));clear HA
    go_wp2
    go_ret;rw[E.out];exact⟨rfl,(Below.refl _ _).trans ⟨rfl,rfl,rfl,Nat.le_refl _,fun _ _=>rfl⟩⟩
theorem z3V(a a':Option Addr)(cap cap':Nat)(xs ys:List UndoD)(w:World)(h:UndoRow w a xs)(h':UndoRow w a' ys)(hl:xs.length≤1048576)(hl':ys.length≤1048576):
  Calls Tryz.prog 151 #[.slice a xs.length cap,.slice a' ys.length cap'] w fun e w'=>e=.returned (.bool (sameUs xs ys))∧Below w.heap.size w w':=by
 have hq:=fun w h h'=>z9i a a' cap cap' xs ys w h h' hl hl'
 generalize sameUs xs ys=r at hq;go_enter Tryz.func151,Tryz.ntmps151
 go_wp2_with fail
 refine(hq _ h h').mono ?_;rintro e w' ⟨rfl,hb⟩
 go_wp2
 go_ret;exact⟨rfl,hb⟩
def z1N(x y:ItemD):Bool:=(x.key==y.key) && (x.val==y.val)
def sameIs:List ItemD→List ItemD→Bool
 |[],[]=>true
 |x::r,y::s=>z1N x y && sameIs r s
 |_,_=>false
theorem z3O{α:Type}{f:α→α→Bool}{g:List α→List α→Bool}(h0:g [] []=true)(h1:∀x r y s,g (x::r) (y::s)=(f x y && g r s))(h2:∀x r,g (x::r) []=false)(h3:∀y s,g [] (y::s)=false):
  ∀a b,a.length≠b.length→g a b=false:=by
 intro a;induction a with
 |nil=>intro b h;cases b with|nil=>simp at h|cons y s=>exact h3 y s
 |cons x r ih=>intro b h;cases b with|nil=>exact h2 x r|cons y s=>rw[h1,ih s (by simpa using h)];simp
theorem z3P{α:Type}{f:α→α→Bool}{g:List α→List α→Bool}(d:α)(h1:∀x r y s,g (x::r) (y::s)=(f x y && g r s)):
  ∀a b k,a.length=b.length→k<a.length→f (a.getD k d) (b.getD k d)=false→g a b=false:=by
 intro a;induction a with
 |nil=>intro b k _ h;simp at h
 |cons x r ih=>
  intro b k hl hk hf
  cases b with
  |nil=>simp at hl
  |cons y s=>
   rw[h1]
   cases k with
   |zero=>simp[List.getD]at hf;simp[hf]
   |succ k=>rw[ih s k (by simpa using hl) (by simpa using hk) (by simpa[List.getD]using hf)];simp
theorem z3Q{α:Type}{f:α→α→Bool}{g:List α→List α→Bool}(d:α)(h0:g [] []=true)(h1:∀x r y s,g (x::r) (y::s)=(f x y && g r s)):
  ∀a b,a.length=b.length→(∀k,k<a.length→f (a.getD k d) (b.getD k d)=true)→g a b=true:=by
 intro a;induction a with
 |nil=>intro b hl _;cases b with|nil=>exact h0|cons y s=>simp at hl
 |cons x r ih=>
  intro b hl hf
  cases b with
  |nil=>simp at hl
  |cons y s=>
   rw[h1,ih s (by simpa using hl) (fun k hk=>by simpa[List.getD]using hf (k+1) (by simpa using hk))];have:=hf 0 (by simp);simp[List.getD]at this;simp[this]
theorem z2l(x0 x1 y0 y1:Int)(w:World):(binOp .neq 187 (.agg #[.int .i64 x0,.int .i64 x1]) (.agg #[.int .i64 y0,.int .i64 y1])).run Tryz.prog w=.ok (.bool (!z1N ⟨x0,x1⟩ ⟨y0,y1⟩)) w:=by
 rw[run_neq_struct,run_equalIn_struct (P:=Tryz.prog) w 9999 187 _ _ (by kernel_rfl) (by kernel_rfl)];have c1:Tryz.prog.cellsOf 2=1:=by kernel_rfl
 cases h0:(x0==y0)<;>cases h1:(x1==y1)<;>simp[Program.fieldsOf,Tryz.underlying187,Op.eqFields,go_sem,Tryz.underlying2,h0,h1,z1N,c1]
theorem z9j(a a':Option Addr)(cap d:Nat)(xs ys:List ItemD)(w:World)(h:ItemRow w a xs)(h':ItemRow w a' ys)(hl:xs.length≤1048576)(O:ys.length≤1048576):
  Calls Tryz.prog 183 #[.slice a xs.length cap,.slice a' ys.length d] w fun e w'=>e=.returned (.bool (sameIs xs ys))∧Below w.heap.size w w':=by
 by_cases c:xs.length=ys.length
 case neg=>
  have E:sameIs xs ys=false:=z3O (f:=z1N) rfl (fun _ _ _ _=>rfl) (fun _ _=>rfl) (fun _ _=>rfl) xs ys c;rw[E];have hd:((xs.length:Int) !=(ys.length:Int))=true:=by simp;omega
  go_enter Tryz.func183,Tryz.ntmps183
  go_wp2
  go_ret;exact⟨rfl,Below.refl _ _⟩
 case pos=>
  have hd:((xs.length:Int) !=(ys.length:Int))=false:=by simp[c]
  have HL:Hid (xs.length=ys.length):=c;clear c;go_enter Tryz.func183,Tryz.ntmps183
  go_wp2
  go_loopw[13] (fun i wr=>∃k m:Nat,k≤xs.length∧i=.int .i64 k∧wr=w.drewN m∧Hid (∀j,j<k→z1N (xs.getD j z0c) (ys.getD j z0c)=true)) (fun i _=>xs.length-(intOf i).toNat)
  case atStart=>exact⟨0,0,Nat.zero_le _,rfl,rfl,fun j hj=>absurd hj (Nat.not_lt_zero _)⟩
  case round=>
   obtain⟨k,m,hk,rfl,rfl,HA⟩:=hrel;by_cases D:k<xs.length
   ·have I:k<ys.length:=by have:=HL.out;omega
    obtain⟨b,T,rfl,N,x,y⟩:=h.at k D;obtain⟨b',M,rfl,L,A,C⟩:=h'.at k I
    cases hs:z1N (xs.getD k z0c) (ys.getD k z0c)
    case false=>
     have E:Hid (sameIs xs ys=false):=z3P (f:=z1N) z0c (fun _ _ _ _=>rfl) xs ys k HL.out D hs;have hr:=z2l (xs.getD k z0c).key (xs.getD k z0c).val (ys.getD k z0c).key (ys.getD k z0c).val;rw[show z1N ⟨(xs.getD k z0c).key,(xs.getD k z0c).val⟩ ⟨(ys.getD k z0c).key,(ys.getD k z0c).val⟩=false from hs,Bool.not_false]at hr;clear HA hs;generalize xs.getD k z0c=z at x y hr;generalize ys.getD k z0c=z' at A C hr
     go_wp2
     go_quiet (fail)
     go_wp2
     go_ret;rw[E.out];exact⟨rfl,(Below.refl _ _).trans ⟨rfl,rfl,rfl,Nat.le_refl _,fun _ _=>rfl⟩⟩
    case true=>
     have HB:Hid (∀j,j<k+1→z1N (xs.getD j z0c) (ys.getD j z0c)=true):=by
      intro j hj;by_cases J:j=k
      ·subst J;exact hs
      ·exact HA.out j (by omega)
     have hr:=z2l (xs.getD k z0c).key (xs.getD k z0c).val (ys.getD k z0c).key (ys.getD k z0c).val;rw[show z1N ⟨(xs.getD k z0c).key,(xs.getD k z0c).val⟩ ⟨(ys.getD k z0c).key,(ys.getD k z0c).val⟩=true from hs,Bool.not_true]at hr;clear HA hs;generalize xs.getD k z0c=z at x y hr;generalize ys.getD k z0c=z' at A C hr
     go_wp2
     go_quiet (fail)
     go_wp2
     go_roundw
     case rel=>exact⟨k+1,_,by omega,by go_num,rfl,HB⟩
     case measure=>simp[intOf];omega
   ·have E:Hid (sameIs xs ys=true):=z3Q (f:=z1N) z0c rfl (fun _ _ _ _=>rfl) xs ys HL.out (fun j hj=>HA.out j (by omega));clear HA
    go_wp2
    go_ret;rw[E.out];exact⟨rfl,(Below.refl _ _).trans ⟨rfl,rfl,rfl,Nat.le_refl _,fun _ _=>rfl⟩⟩
theorem z1z(a a':Option Addr)(cap d:Nat)(xs ys:List ItemD)(w:World)(h:ItemRow w a xs)(h':ItemRow w a' ys)(hl:xs.length≤1048576)(O:ys.length≤1048576):
  Calls Tryz.prog 110 #[.slice a xs.length cap,.slice a' ys.length d] w fun e w'=>e=.returned (.bool (sameIs xs ys))∧Below w.heap.size w w':=by
 by_cases c:xs.length=ys.length
 case neg=>
  have E:sameIs xs ys=false:=z3O (f:=z1N) rfl (fun _ _ _ _=>rfl) (fun _ _=>rfl) (fun _ _=>rfl) xs ys c;rw[E];have hd:((xs.length:Int) !=(ys.length:Int))=true:=by simp;omega
  go_enter Tryz.func110,Tryz.ntmps110
  go_wp2
  go_ret;exact⟨rfl,Below.refl _ _⟩
 case pos=>
  have hd:((xs.length:Int) !=(ys.length:Int))=false:=by simp[c]
  have HL:Hid (xs.length=ys.length):=c;clear c;go_enter Tryz.func110,Tryz.ntmps110
  go_wp2
  go_loopw[5] (fun i wr=>∃k m:Nat,k≤xs.length∧i=.int .i64 k∧wr=w.drewN m∧Hid (∀j,j<k→z1N (xs.getD j z0c) (ys.getD j z0c)=true)) (fun i _=>xs.length-(intOf i).toNat)
  case atStart=>exact⟨0,0,Nat.zero_le _,rfl,rfl,fun j hj=>absurd hj (Nat.not_lt_zero _)⟩
  case round=>
   obtain⟨k,m,hk,rfl,rfl,HA⟩:=hrel;by_cases D:k<xs.length
   ·have I:k<ys.length:=by have:=HL.out;omega
    obtain⟨b,T,rfl,N,x,y⟩:=h.at k D;obtain⟨b',M,rfl,L,A,C⟩:=h'.at k I
    cases hs:z1N (xs.getD k z0c) (ys.getD k z0c)
    case false=>
     have E:Hid (sameIs xs ys=false):=z3P (f:=z1N) z0c (fun _ _ _ _=>rfl) xs ys k HL.out D hs;have hr:=z2l (xs.getD k z0c).key (xs.getD k z0c).val (ys.getD k z0c).key (ys.getD k z0c).val;rw[show z1N ⟨(xs.getD k z0c).key,(xs.getD k z0c).val⟩ ⟨(ys.getD k z0c).key,(ys.getD k z0c).val⟩=false from hs,Bool.not_false]at hr;clear HA hs;generalize xs.getD k z0c=z at x y hr;generalize ys.getD k z0c=z' at A C hr
     go_wp2
     go_quiet (fail)
     go_wp2
     go_ret;rw[E.out];exact⟨rfl,(Below.refl _ _).trans ⟨rfl,rfl,rfl,Nat.le_refl _,fun _ _=>rfl⟩⟩
    case true=>
     have HB:Hid (∀j,j<k+1→z1N (xs.getD j z0c) (ys.getD j z0c)=true):=by
      intro j hj;by_cases J:j=k
      ·subst J;exact hs
      ·exact HA.out j (by omega)
     have hr:=z2l (xs.getD k z0c).key (xs.getD k z0c).val (ys.getD k z0c).key (ys.getD k z0c).val;rw[show z1N ⟨(xs.getD k z0c).key,(xs.getD k z0c).val⟩ ⟨(ys.getD k z0c).key,(ys.getD k z0c).val⟩=true from hs,Bool.not_true]at hr;clear HA hs;generalize xs.getD k z0c=z at x y hr;generalize ys.getD k z0c=z' at A C hr
     go_wp2
     go_quiet (fail)
     go_wp2
     go_roundw
     case rel=>exact⟨k+1,_,by omega,by go_num,rfl,HB⟩
     case measure=>simp[intOf];omega
   ·have E:Hid (sameIs xs ys=true):=z3Q (f:=z1N) z0c rfl (fun _ _ _ _=>rfl) xs ys HL.out (fun j hj=>HA.out j (by omega));clear HA
    go_wp2
    go_ret;rw[E.out];exact⟨rfl,(Below.refl _ _).trans ⟨rfl,rfl,rfl,Nat.le_refl _,fun _ _=>rfl⟩⟩
theorem z1A(a a':Option Addr)(cap cap':Nat)(xs ys:List ItemD)(w:World)(h:ItemRow w a xs)(h':ItemRow w a' ys)(hl:xs.length≤1048576)(hl':ys.length≤1048576):
  Calls Tryz.prog 149 #[.slice a xs.length cap,.slice a' ys.length cap'] w fun e w'=>e=.returned (.bool (sameIs xs ys))∧Below w.heap.size w w':=by
 have hq:=fun w h h'=>z9j a a' cap cap' xs ys w h h' hl hl'
 generalize sameIs xs ys=r at hq;go_enter Tryz.func149,Tryz.ntmps149
 go_wp2_with fail
 refine(hq _ h h').mono ?_;rintro e w' ⟨rfl,hb⟩
 go_wp2
 go_ret;exact⟨rfl,hb⟩
section
open Go.Deep Go.ChangeShapes Go.WideShapes
theorem z9k{α:Type}{c:Nat}(css:List (List α))(hc:∀l∈css,l.length=c):∀ (j:Nat) (x:α),css.flatten[j]?=some x→∃i r,j=i*c+r∧r<c∧i<css.length∧(css.getD i [])[r]?=some x:=by
 induction css with
 |nil=>intro j x h;simp at h
 |cons l css ih=>
  intro j x h;have hl:l.length=c:=hc l (by simp);rw[List.flatten_cons]at h;by_cases hj:j<c
  ·rw[List.getElem?_append_left (by omega)]at h;exact⟨0,j,by omega,hj,by simp,by simpa[List.getD]using h⟩
  ·rw[List.getElem?_append_right (by omega),hl]at h;obtain⟨i,r,e1,e2,e3,e4⟩:=ih (fun l hl=>hc l (by simp[hl])) _ _ h;refine⟨i+1,r,?_,e2,by simpa using e3,by simpa[List.getD]using e4⟩;rw[Nat.add_mul];omega
section
variable {H:Type} {enc:TypeId × Value→H} {P:Program} {w:World} {base:Nat} {spare:Nat→Bool} {held:Bool}
theorem z8y{t e:TypeId}{c I:Nat}{cs:List Value}{x:DataW H × List MemPlace}(ht:P.underlying t=some (.slice e))(hc:P.cellsOf e=c)(L:0<c)(h:DataW.trod enc P w base spare held I t cs=some x):
  ∃ (a:Option Addr) (cap n:Nat) (A:List (List Value)),cs=[.slice a A.length cap]∧A.length≤9223372036854775807∧Lies w a A.flatten∧∀l∈A,l.length=c∧∃y,DataW.trod enc P w base spare held n e l=some y:=by
 rcases open_slice ht h with⟨rfl,_⟩|⟨a,d,cap,m,n,D,Pl,rfl,hb,hl,hm,U,rfl,hx⟩
 ·exact⟨none,0,0,[],rfl,by simp,Or.inl rfl,by simp⟩
 have T:d≤m:=by rw[U];split<;>omega
 rw[hc]at hx;obtain⟨f,hf⟩:=choose_lt (α:=List Value) (p:=fun i l=>w.cells? base (a.add (i*c)) c=some l∧DataW.trod enc P w base spare held n e l=some (D i,Pl i)) (fun i hi=>hx i (Nat.lt_of_lt_of_le hi T));have z:∀i,i<d→(f i).length=c:=fun i hi=>(World.cells?_some (hf i hi).1).2.1
 have J:∀l∈(List.range d).map f,l.length=c:=by
  intro l hl;obtain⟨i,hi,rfl⟩:=List.mem_map.1 hl;exact z i (List.mem_range.1 hi)
 refine⟨some a,cap,n,(List.range d).map f,by simp,?_,?_,?_⟩
 ·unfold maxLen at hm;simp;omega
 ·by_cases h0:d=0
  ·subst h0;exact Or.inl rfl
  ·right;have C:=(World.cells?_some (hf 0 (by omega)).1).2.2 0 L;obtain⟨v,hv⟩:∃v,(f 0)[0]?=some v:=⟨_,List.getElem?_eq_getElem (by rw[z 0 (by omega)];exact L)⟩
   rw[hv,add_add]at C;obtain⟨b,W,O⟩:=a;have E:O=none:=by simpa[Addr.add]using World.cell?_spot C
   subst E;refine⟨b,W,rfl,by simpa[Addr.add_lit]using World.block_lt_of_cell? w _ C,?_⟩;intro j x hj;obtain⟨i,r,rfl,hr,hi,V⟩:=z9k _ J j x hj;have M:i<d:=by simpa using hi
   have N:(f i)[r]?=some x:=by simpa[List.getD,M]using V
   have:=(World.cells?_some (hf i M).1).2.2 r hr;rw[add_add,Addr.add_lit,N]at this;exact this
 ·intro l hl;obtain⟨i,hi,rfl⟩:=List.mem_map.1 hl;exact⟨z i (List.mem_range.1 hi),_,(hf i (List.mem_range.1 hi)).2⟩
end
theorem q1Z{α β:Type}{p:β→α→Prop}{q:α→Prop}(f:β→α)(l:List α)(h:∀x∈l,∃b,x=f b):∃bs:List β,l=bs.map f:=by
 induction l with
 |nil=>exact⟨[],rfl⟩
 |cons x l ih=>
  obtain⟨bs,rfl⟩:=ih (fun x hx=>h x (by simp[hx]));obtain⟨b,rfl⟩:=h x (by simp);exact⟨b::bs,rfl⟩
section
variable {H:Type} {enc:TypeId × Value→H} {w:World} {base:Nat} {spare:Nat→Bool} {held:Bool}
theorem q10{fuel:Nat}{cs:List Value}{x:DataW H × List MemPlace}(h:DataW.trod enc Tryz.prog w base spare held fuel 221 cs=some x):∃z:ActD,cs=z.cells:=by
 obtain⟨y0,y1,y2,n,_,hl,h0,h1,h2⟩:=trod_struct3 Tryz.underlying221 h;rw[show Tryz.prog.cellsOf 221=3 by kernel_rfl]at hl;have e:Tryz.prog.cellsOf 2=1:=by kernel_rfl
 match cs,hl with
 |[c0,c1,c2],_=>
  simp only[e,List.drop_zero,List.drop_succ_cons,List.take_succ_cons,List.take_zero]at h0 h1 h2;obtain⟨k,e0,_⟩:=DataW.trod_int Tryz.underlying2 h0;obtain⟨y,e1,_⟩:=DataW.trod_int Tryz.underlying2 h1;obtain⟨v,e2,_⟩:=DataW.trod_int Tryz.underlying2 h2;simp only[List.cons.injEq,and_true]at e0 e1 e2;exact⟨⟨k,y,v⟩,by rw[e0,e1,e2];rfl⟩
theorem q0I{fuel:Nat}{cs:List Value}{x:DataW H × List MemPlace}(h:DataW.trod enc Tryz.prog w base spare held fuel 124 cs=some x):
  ∃ (a:Option Addr) (cap:Nat) (zs:List ActD),cs=[.slice a zs.length cap]∧zs.length≤9223372036854775807∧ActRow w a zs:=by
 obtain⟨a,cap,n,css,rfl,hl,hL,hc⟩:=z8y Tryz.underlying124 (show Tryz.prog.cellsOf 221=3 by kernel_rfl) (by omega) h;obtain⟨zs,rfl⟩:=q1Z (p:=fun _ _=>True) (q:=fun _=>True) ActD.cells css (fun l hl=>by obtain⟨_,y,hy⟩:=hc l hl;exact q10 hy);refine⟨a,cap,zs,by simp,by simpa using hl,?_⟩;rw[←List.flatMap_def]at hL;exact hL
theorem z6e{fuel:Nat}{cs:List Value}{x:DataW H × List MemPlace}(h:DataW.trod enc Tryz.prog w base spare held fuel 126 cs=some x):
  ∃ (i s q:Int) (a:Option Addr) (cap:Nat) (zs:List ActD),cs=[.int .i64 i,.int .i64 s,.int .i64 q,.slice a zs.length cap]∧zs.length≤9223372036854775807∧ActRow w a zs:=by
 obtain⟨y0,y1,y2,y3,n,_,hl,h0,h1,h2,h3⟩:=Go.Joins.trod_struct4 Tryz.underlying126 h;rw[show Tryz.prog.cellsOf 126=4 by kernel_rfl]at hl;have e:Tryz.prog.cellsOf 2=1:=by kernel_rfl
 have e':Tryz.prog.cellsOf 124=1:=by kernel_rfl
 match cs,hl with
 |[c0,c1,c2,c3],_=>
  simp only[e,e',List.drop_zero,List.drop_succ_cons,List.take_succ_cons,List.take_zero]at h0 h1 h2 h3;obtain⟨k,e0,_⟩:=DataW.trod_int Tryz.underlying2 h0;obtain⟨y,e1,_⟩:=DataW.trod_int Tryz.underlying2 h1;obtain⟨v,e2,_⟩:=DataW.trod_int Tryz.underlying2 h2;obtain⟨a,cap,zs,e3,hz,hA⟩:=q0I h3;simp only[List.cons.injEq,and_true]at e0 e1 e2 e3;exact⟨k,y,v,a,cap,zs,by rw[e0,e1,e2,e3],hz,hA⟩
end
section
variable {H:Type} {enc:TypeId × Value→H} {w:World} {base:Nat} {spare:Nat→Bool} {held:Bool}
theorem q0J{α β:Type}(f:β→α)(q:β→Prop)(l:List α)(h:∀x∈l,∃b,x=f b∧q b):∃bs:List β,l=bs.map f∧∀b∈bs,q b:=by
 induction l with
 |nil=>exact⟨[],rfl,by simp⟩
 |cons x l ih=>
  obtain⟨bs,rfl,hq⟩:=ih (fun x hx=>h x (by simp[hx]));obtain⟨b,rfl,hb⟩:=h x (by simp);exact⟨b::bs,rfl,by intro c hc;rcases List.mem_cons.1 hc with rfl|hc;exact hb;exact hq c hc⟩
end
section
variable {H:Type} {enc:TypeId × Value→H} {w:World} {base:Nat} {spare:Nat→Bool} {held:Bool}
theorem z1g{P:Type}(K:Kind P)(q:P→Prop){t e:TypeId}{fuel:Nat}{cs:List Value}{x:DataW H × List MemPlace}(ht:Tryz.prog.underlying t=some (.slice e))(hc:Tryz.prog.cellsOf e=K.size)(hc0:0<K.size)
  (hel:∀ (n:Nat) (l:List Value) y,DataW.trod enc Tryz.prog w base spare held n e l=some y→∃p:P,l=K.cells p∧K.rd w p∧q p) (h:DataW.trod enc Tryz.prog w base spare held fuel t cs=some x):
  ∃ (v:Value) (ps:List P),cs=[v]∧K.At w v ps∧ps.length≤9223372036854775807∧∀p∈ps,q p:=by
 obtain⟨a,cap,n,css,rfl,hl,hL,hcs⟩:=z8y ht hc hc0 h;obtain ⟨ps,rfl,hq⟩:=q0J K.cells (fun p=>K.rd w p∧q p) css (fun l hl=>by
  obtain⟨_,y,hy⟩:=hcs l hl;obtain⟨p,h1,h2,h3⟩:=hel n l y hy;exact ⟨p,h1,h2,h3⟩)
 rw[←List.flatMap_def]at hL;refine⟨.slice a (ps.map K.cells).length cap,ps,rfl,⟨a,cap,by rw[List.length_map],hL,fun p hp=>(hq p hp).1⟩,by simpa using hl,fun p hp=>(hq p hp).2⟩
theorem q11(n:Nat)(l:List Value)(y:DataW H × List MemPlace)(h:DataW.trod enc Tryz.prog w base spare held n 2 l=some y):∃p:Int,l=intK.cells p∧intK.rd w p∧True:=by
 obtain⟨k,e,_⟩:=DataW.trod_int Tryz.underlying2 h;exact⟨k,e,trivial,trivial⟩
theorem z3q{fuel:Nat}{cs:List Value}{x:DataW H × List MemPlace}(h:DataW.trod enc Tryz.prog w base spare held fuel 42 cs=some x):
  ∃ (v:Value) (zs:List Int),cs=[v]∧intK.At w v zs∧zs.length≤9223372036854775807:=by
 obtain⟨v,ps,h1,h2,h3,_⟩:=z1g intK (fun _=>True) Tryz.underlying42 (by kernel_rfl) (by decide) q11 h;exact⟨v,ps,h1,h2,h3⟩
theorem q0K(n:Nat)(l:List Value)(y:DataW H × List MemPlace)(h:DataW.trod enc Tryz.prog w base spare held n 126 l=some y):∃p:TxnQ,l=txnK.cells p∧txnK.rd w p∧TxnQ.wf p:=by
 obtain⟨i,s,q,a,cap,zs,e,hz,hA⟩:=z6e h;exact⟨⟨i,s,q,.slice a zs.length cap,zs⟩,e,q2Q hA,hz⟩
theorem z3r{fuel:Nat}{cs:List Value}{x:DataW H × List MemPlace}(h:DataW.trod enc Tryz.prog w base spare held fuel 57 cs=some x):
  ∃ (v:Value) (ps:List TxnQ),cs=[v]∧txnK.At w v ps∧ps.length≤9223372036854775807∧∀p∈ps,TxnQ.wf p:=
 z1g txnK TxnQ.wf Tryz.underlying57 (by kernel_rfl) (by decide) q0K h
theorem z73(n:Nat)(l:List Value)(y:DataW H × List MemPlace)(h:DataW.trod enc Tryz.prog w base spare held n 128 l=some y):∃p:RoundQ,l=roundK.cells p∧roundK.rd w p∧RoundQ.wf p:=by
 obtain⟨y0,y1,n,_,hl,h0,h1⟩:=trod_struct2 Tryz.underlying128 h;rw[show Tryz.prog.cellsOf 128=2 by kernel_rfl]at hl;have e:Tryz.prog.cellsOf 42=1:=by kernel_rfl
 match l,hl with
 |[c0,c1],_=>
  simp only[e,List.drop_zero,List.drop_succ_cons,List.take_succ_cons,List.take_zero]at h0 h1;obtain⟨v0,z0,e0,a0,l0⟩:=z3q h0;obtain⟨v1,z1,e1,a1,l1⟩:=z3q h1;simp only[List.cons.injEq,and_true]at e0 e1;exact⟨⟨v0,z0,v1,z1⟩,by rw[e0,e1];rfl,⟨a0,a1⟩,⟨l0,l1⟩⟩
theorem z65{fuel:Nat}{cs:List Value}{x:DataW H × List MemPlace}(h:DataW.trod enc Tryz.prog w base spare held fuel 58 cs=some x):
  ∃ (v:Value) (ps:List RoundQ),cs=[v]∧roundK.At w v ps∧ps.length≤9223372036854775807∧∀p∈ps,RoundQ.wf p:=
 z1g roundK RoundQ.wf Tryz.underlying58 (by kernel_rfl) (by decide) z73 h
theorem z5h{fuel:Nat}{cs:List Value}{x:DataW H × List MemPlace}(h:DataW.trod enc Tryz.prog w base spare held fuel 60 cs=some x):
  ∃p:InstQ,cs=[.bool p.has,p.vb,p.vr,p.vd]∧instK.rd w p∧p.wf:=by
 obtain⟨y0,y1,y2,y3,n,_,hl,h0,h1,h2,h3⟩:=Go.Joins.trod_struct4 Tryz.underlying60 h;rw[show Tryz.prog.cellsOf 60=4 by kernel_rfl]at hl;have e:Tryz.prog.cellsOf 4=1:=by kernel_rfl
 have e':Tryz.prog.cellsOf 57=1:=by kernel_rfl
 have e2:Tryz.prog.cellsOf 58=1:=by kernel_rfl
 have e3:Tryz.prog.cellsOf 42=1:=by kernel_rfl
 match cs,hl with
 |[c0,c1,c2,c3],_=>
  simp only[e,e',e2,e3,List.drop_zero,List.drop_succ_cons,List.take_succ_cons,List.take_zero]at h0 h1 h2 h3;obtain⟨k,e0,_⟩:=DataW.trod_bool Tryz.underlying4 h0;obtain⟨v1,z1,e1,a1,l1,w1⟩:=z3r h1;obtain⟨v2,z2,e2,a2,l2,w2⟩:=z65 h2;obtain⟨v3,z3,e3,a3,l3⟩:=z3q h3;simp only[List.cons.injEq,and_true]at e0 e1 e2 e3;exact⟨⟨k,v1,z1,v2,z2,v3,z3⟩,by rw[e0,e1,e2,e3],⟨a1,a2,a3⟩,⟨⟨l1,w1⟩,⟨l2,w2⟩,l3⟩⟩
end
end
section
open Go.ChangeShapes Go.WideShapes
theorem gRul : Tryz.prog.globalNamed "loop.example/g00631/impl.rules" = some 1 := by kernel_rfl
theorem tRul:(Tryz.prog.globals[1]?).map (·.type)=some 333:=by kernel_rfl
theorem q36:Tryz.prog.cellsOf 317=7:=by kernel_rfl
theorem cCh:Tryz.prog.cellsOf 210=4:=by kernel_rfl
theorem cI:Tryz.prog.cellsOf 2=1:=by kernel_rfl
theorem cB:Tryz.prog.cellsOf 4=1:=by kernel_rfl
section
variable {H:Type} {enc:TypeId × Value→H} {w:World} {base:Nat} {spare:Nat→Bool} {held:Bool}
theorem z66{fuel:Nat}{cs:List Value}{c v:Int}{d k:Bool}{q:List MemPlace}(h:DataW.trod enc Tryz.prog w base spare held fuel 210 cs=some (.agg [.lit (.int .i64 c),.lit (.bool d),.lit (.bool k),.lit (.int .i64 v)],q)):cs=[.int .i64 c,.bool d,.bool k,.int .i64 v]:=by
 obtain⟨y0,y1,y2,y3,n,hx,hl,h0,h1,h2,h3⟩:=Go.Joins.trod_struct4 Tryz.underlying210 h;rw[cCh]at hl;simp only[Prod.mk.injEq,DataW.agg.injEq,List.cons.injEq,and_true]at hx;obtain⟨⟨x0,x1,x2,x3⟩,_⟩:=hx
 match cs,hl with
 |[c0,c1,c2,c3],_=>
  simp only[cI,cB,List.drop_zero,List.drop_succ_cons,List.take_succ_cons,List.take_zero]at h0 h1 h2 h3;obtain⟨n0,e0,g0,_⟩:=DataW.trod_int Tryz.underlying2 h0;obtain⟨n1,e1,g1⟩:=DataW.trod_bool Tryz.underlying4 h1;obtain⟨n2,e2,g2⟩:=DataW.trod_bool Tryz.underlying4 h2;obtain⟨n3,e3,g3,_⟩:=DataW.trod_int Tryz.underlying2 h3;simp only[List.cons.injEq,and_true]at e0 e1 e2 e3;rw[g0]at x0;rw[g1]at x1;rw[g2]at x2;rw[g3]at x3;simp at x0 x1 x2 x3;rw[e0,e1,e2,e3,x0,x1,x2,x3]
theorem z1B{fuel:Nat}{cs:List Value}{z o p c v:Int}{d k:Bool}{q:List MemPlace}(h:DataW.trod enc Tryz.prog w base spare held fuel 317 cs=some (.agg [.lit (.int .i64 z),.lit (.int .i64 o),.lit (.int .i64 p),.agg [.lit (.int .i64 c),.lit (.bool d),.lit (.bool k),.lit (.int .i64 v)]],q)):
  cs=[.int .i64 z,.int .i64 o,.int .i64 p,.int .i64 c,.bool d,.bool k,.int .i64 v]:=by
 obtain⟨y0,y1,y2,y3,n,hx,hl,h0,h1,h2,h3⟩:=Go.Joins.trod_struct4 Tryz.underlying317 h;rw[q36]at hl;simp only[Prod.mk.injEq,DataW.agg.injEq,List.cons.injEq,and_true]at hx;obtain⟨⟨x0,x1,x2,x3⟩,_⟩:=hx
 match cs,hl with
 |[c0,c1,c2,c3,c4,c5,c6],_=>
  simp only[cI,cCh,List.drop_zero,List.drop_succ_cons,List.take_succ_cons,List.take_zero]at h0 h1 h2 h3;obtain⟨n0,e0,g0,_⟩:=DataW.trod_int Tryz.underlying2 h0;obtain⟨n1,e1,g1,_⟩:=DataW.trod_int Tryz.underlying2 h1;obtain⟨n2,e2,g2,_⟩:=DataW.trod_int Tryz.underlying2 h2;obtain⟨y30,y31⟩:=y3;dsimp only at x3;rw[←x3]at h3;have e3:=z66 h3;simp only[List.cons.injEq,and_true]at e0 e1 e2 e3;rw[g0]at x0;rw[g1]at x1;rw[g2]at x2;simp at x0 x1 x2;obtain⟨e3,e4,e5,e6⟩:=e3;rw[e0,e1,e2,e3,e4,e5,e6,x0,x1,x2]
end
end
def z1O(x y:ActD):Bool:=(x.kind==y.kind) && ((x.key==y.key) && (x.val==y.val))
def sameAs:List ActD→List ActD→Bool
 |[],[]=>true
 |x::r,y::s=>z1O x y && sameAs r s
 |_,_=>false
def z1i(x y:TxnD):Bool:=(x.id==y.id) && (x.session==y.session) && (x.seq==y.seq) && sameAs x.acts y.acts
def sameTs:List TxnD→List TxnD→Bool
 |[],[]=>true
 |x::r,y::s=>z1i x y && sameTs r s
 |_,_=>false
theorem z0X{α:Type}{f:α→α→Bool}{g:List α→List α→Bool}(h0:g [] []=true)(h1:∀x r y s,g (x::r) (y::s)=(f x y && g r s))(h2:∀x r,g (x::r) []=false)(h3:∀y s,g [] (y::s)=false):
  ∀a b,a.length≠b.length→g a b=false:=by
 intro a;induction a with
 |nil=>intro b h;cases b with|nil=>simp at h|cons y s=>exact h3 y s
 |cons x r ih=>intro b h;cases b with|nil=>exact h2 x r|cons y s=>rw[h1,ih s (by simpa using h)];simp
theorem z0Y{α:Type}{f:α→α→Bool}{g:List α→List α→Bool}(d:α)(h1:∀x r y s,g (x::r) (y::s)=(f x y && g r s)):
  ∀a b k,a.length=b.length→k<a.length→f (a.getD k d) (b.getD k d)=false→g a b=false:=by
 intro a;induction a with
 |nil=>intro b k _ h;simp at h
 |cons x r ih=>
  intro b k hl hk hf
  cases b with
  |nil=>simp at hl
  |cons y s=>
   rw[h1]
   cases k with
   |zero=>simp[List.getD]at hf;simp[hf]
   |succ k=>rw[ih s k (by simpa using hl) (by simpa using hk) (by simpa[List.getD]using hf)];simp
theorem z0Z{α:Type}{f:α→α→Bool}{g:List α→List α→Bool}(d:α)(h0:g [] []=true)(h1:∀x r y s,g (x::r) (y::s)=(f x y && g r s)):
  ∀a b,a.length=b.length→(∀k,k<a.length→f (a.getD k d) (b.getD k d)=true)→g a b=true:=by
 intro a;induction a with
 |nil=>intro b hl _;cases b with|nil=>exact h0|cons y s=>simp at hl
 |cons x r ih=>
  intro b hl hf
  cases b with
  |nil=>simp at hl
  |cons y s=>
   rw[h1,ih s (by simpa using hl) (fun k hk=>by simpa[List.getD]using hf (k+1) (by simpa using hk))];have:=hf 0 (by simp);simp[List.getD]at this;simp[this]
theorem z4E(x0 x1 x2 y0 y1 y2:Int)(w:World):(binOp .neq 118 (.agg #[.int .i64 x0,.int .i64 x1,.int .i64 x2]) (.agg #[.int .i64 y0,.int .i64 y1,.int .i64 y2])).run Tryz.prog w=.ok (.bool (!z1O ⟨x0,x1,x2⟩ ⟨y0,y1,y2⟩)) w:=by
 rw[run_neq_struct,run_equalIn_struct (P:=Tryz.prog) w 9999 118 _ _ (by kernel_rfl) (by kernel_rfl)];have c1:Tryz.prog.cellsOf 2=1:=by kernel_rfl
 cases h0:(x0==y0)<;>cases h1:(x1==y1)<;>cases h2:(x2==y2)<;>simp[Program.fieldsOf,Tryz.underlying118,Op.eqFields,go_sem,Tryz.underlying2,h0,h1,h2,z1O,c1]
theorem z9l(a a':Option Addr)(cap d:Nat)(xs ys:List ActD)(w:World)(h:ActRow w a xs)(h':ActRow w a' ys)(hl:xs.length≤1048576)(U:ys.length≤1048576):
  Calls Tryz.prog 67 #[.slice a xs.length cap,.slice a' ys.length d] w fun e w'=>e=.returned (.bool (sameAs xs ys))∧Below w.heap.size w w':=by
 by_cases c:xs.length=ys.length
 case neg=>
  have E:sameAs xs ys=false:=z0X (f:=z1O) rfl (fun _ _ _ _=>rfl) (fun _ _=>rfl) (fun _ _=>rfl) xs ys c;rw[E];have hd:((xs.length:Int) !=(ys.length:Int))=true:=by simp;omega
  go_enter Tryz.func67,Tryz.ntmps67
  go_wp2
  go_ret;exact⟨rfl,Below.refl _ _⟩
 case pos=>
  have hd:((xs.length:Int) !=(ys.length:Int))=false:=by simp[c]
  have HL:Hid (xs.length=ys.length):=c;clear c;go_enter Tryz.func67,Tryz.ntmps67
  go_wp2
  go_loopw[13] (fun i wr=>∃k m:Nat,k≤xs.length∧i=.int .i64 k∧wr=w.drewN m∧Hid (∀j,j<k→z1O (xs.getD j z0e) (ys.getD j z0e)=true)) (fun i _=>xs.length-(intOf i).toNat)
  case atStart=>exact⟨0,0,Nat.zero_le _,rfl,rfl,fun j hj=>absurd hj (Nat.not_lt_zero _)⟩
  case round=>
   obtain⟨k,m,hk,rfl,rfl,HA⟩:=hrel;by_cases J:k<xs.length
   ·have L:k<ys.length:=by have:=HL.out;omega
    obtain⟨b,V,rfl,T,x,y,A⟩:=h.at k J;obtain⟨b',O,rfl,N,C,D,I⟩:=h'.at k L
    cases hs:z1O (xs.getD k z0e) (ys.getD k z0e)
    case false=>
     have E:Hid (sameAs xs ys=false):=z0Y (f:=z1O) z0e (fun _ _ _ _=>rfl) xs ys k HL.out J hs;have hr:=z4E (xs.getD k z0e).kind (xs.getD k z0e).key (xs.getD k z0e).val (ys.getD k z0e).kind (ys.getD k z0e).key (ys.getD k z0e).val;rw[show z1O ⟨(xs.getD k z0e).kind,(xs.getD k z0e).key,(xs.getD k z0e).val⟩ ⟨(ys.getD k z0e).kind,(ys.getD k z0e).key,(ys.getD k z0e).val⟩=false from hs,Bool.not_false]at hr;clear HA hs;generalize xs.getD k z0e=z at x y A hr;generalize ys.getD k z0e=z' at C D I hr
     go_wp2
     go_quiet (fail)
     go_wp2
     go_ret;rw[E.out];exact⟨rfl,⟨rfl,rfl,rfl,Nat.le_refl _,fun _ _=>rfl⟩⟩
    case true=>
     have HB:Hid (∀j,j<k+1→z1O (xs.getD j z0e) (ys.getD j z0e)=true):=by
      intro j hj;by_cases M:j=k
      ·subst M;exact hs
      ·exact HA.out j (by omega)
     have hr:=z4E (xs.getD k z0e).kind (xs.getD k z0e).key (xs.getD k z0e).val (ys.getD k z0e).kind (ys.getD k z0e).key (ys.getD k z0e).val;rw[show z1O ⟨(xs.getD k z0e).kind,(xs.getD k z0e).key,(xs.getD k z0e).val⟩ ⟨(ys.getD k z0e).kind,(ys.getD k z0e).key,(ys.getD k z0e).val⟩=true from hs,Bool.not_true]at hr;clear HA hs;generalize xs.getD k z0e=z at x y A hr;generalize ys.getD k z0e=z' at C D I hr
     go_wp2
     go_quiet (fail)
     go_wp2
     go_roundw
     case rel=>exact⟨k+1,_,by omega,by go_num,rfl,HB⟩
     case measure=>simp[intOf];omega
   ·have E:Hid (sameAs xs ys=true):=z0Z (f:=z1O) z0e rfl (fun _ _ _ _=>rfl) xs ys HL.out (fun j hj=>HA.out j (by omega));clear HA
    go_wp2
    go_ret;rw[E.out];exact⟨rfl,⟨rfl,rfl,rfl,Nat.le_refl _,fun _ _=>rfl⟩⟩
theorem z3s(x y:TxnD):((x.id==y.id)=false∧z1i x y=false)∨((x.id==y.id)=true∧(x.session==y.session)=false∧z1i x y=false)∨((x.id==y.id)=true∧(x.session==y.session)=true∧(x.seq==y.seq)=false∧z1i x y=false)∨
  ((x.id==y.id)=true∧(x.session==y.session)=true∧(x.seq==y.seq)=true∧z1i x y=sameAs x.acts y.acts):=by
 unfold z1i
 cases h1:(x.id==y.id)<;>cases h2:(x.session==y.session)<;>cases h3:(x.seq==y.seq)<;>simp
theorem z6f(x y:TxnD)(a a':Option Addr)(cap cap':Nat)(w:World)(h:ActRow w a x.acts)(h':ActRow w a' y.acts)(hl:x.acts.length≤1048576)(hl':y.acts.length≤1048576):
    Calls Tryz.prog 44 #[.agg #[.int .i64 x.id,.int .i64 x.session,.int .i64 x.seq,.slice a x.acts.length cap],.agg #[.int .i64 y.id,.int .i64 y.session,.int .i64 y.seq,.slice a' y.acts.length cap']] w fun e w'=>e=.returned (.bool (z1i x y))∧Below w.heap.size w w':=by
  have hq:=fun w h h'=>z9l a a' cap cap' x.acts y.acts w h h' hl hl'
  rcases z3s x y with⟨h1,e⟩|⟨h1,h2,e⟩|⟨h1,h2,h3,e⟩|⟨h1,h2,h3,e⟩<;>rw[e]<;>clear e;all_goals
    (generalize sameAs x.acts y.acts=r at hq
     obtain⟨x0,x1,x2,xs⟩:=x;obtain⟨y0,y1,y2,ys⟩:=y;dsimp only at *)
  all_goals
    (go_enter Tryz.func44,Tryz.ntmps44
     go_wp2_with (go_at_call 67;refine(hq _ (h.below (by go_grown)) (h'.below (by go_grown))).mono ?_;rintro e w' ⟨rfl,hb⟩)
     go_ret)
  · exact⟨rfl,by go_grown⟩
  · exact⟨rfl,by go_grown⟩
  · exact⟨rfl,by go_grown⟩
  · exact⟨rfl,z0o (by go_grown) hb⟩
theorem z20(v v':Value)(xs ys:List TxnD)(w:World)(h:TxnsAt w v xs)(h':TxnsAt w v' ys)(hl:xs.length+z47 xs≤1048576)(ag:ys.length+z47 ys≤1048576):
  Calls Tryz.prog 66 #[v,v',.func (.func 44) #[] #[]] w fun e w'=>e=.returned (.bool (sameTs xs ys))∧Below w.heap.size w w':=by
 obtain⟨a,cap,rfl⟩:=h.shape;obtain⟨a',ad,rfl⟩:=h'.shape;by_cases d:xs.length=ys.length
 case neg=>
  have E:sameTs xs ys=false:=z0X (f:=z1i) rfl (fun _ _ _ _=>rfl) (fun _ _=>rfl) (fun _ _=>rfl) xs ys d;rw[E];have hd:((xs.length:Int) !=(ys.length:Int))=true:=by simp;omega
  go_enter Tryz.func66,Tryz.ntmps66
  go_wp2
  go_ret;exact⟨rfl,Below.refl _ _⟩
 case pos=>
  have hd:((xs.length:Int) !=(ys.length:Int))=false:=by simp[d]
  have HL:Hid (xs.length=ys.length):=d;clear d;go_enter Tryz.func66,Tryz.ntmps66
  go_wp2
  go_loopw[17] (fun i wr=>∃k:Nat,k≤xs.length∧i=.int .i64 k∧Below w.heap.size w wr∧Hid (∀j,j<k→z1i (xs.getD j z0l) (ys.getD j z0l)=true)) (fun i _=>xs.length-(intOf i).toNat)
  case atStart=>exact⟨0,Nat.zero_le _,rfl,Below.refl _ _,fun j hj=>absurd hj (Nat.not_lt_zero _)⟩
  case round=>
   obtain⟨k,hk,rfl,hb,HA⟩:=hrel;by_cases U:k<xs.length
   ·have T:k<ys.length:=by have:=HL.out;omega
    obtain⟨b,ai,aa,cc,rfl,af,y,A,C,D,hA⟩:=(h.below hb).at k U;obtain⟨b',ae,W,X,rfl,V,I,J,L,M,c⟩:=(h'.below hb).at k T;have O:(xs.getD k z0l).acts.length≤z47 xs:=z08 (by simp[List.getD,U]);have x:(ys.getD k z0l).acts.length≤z47 ys:=z08 (by simp[List.getD,T]);have hq:=fun w h h'=>z6f (xs.getD k z0l) (ys.getD k z0l) aa W cc X w h h' (by omega) (by omega)
    have ah:=hb.size;have Y:∀ (o:Obj) (j:Nat),(wr.alloc o).cell? ⟨b',j,none⟩=wr.cell? ⟨b',j,none⟩:=fun o j=>(show Below wr.heap.size wr (wr.alloc o) by go_grown).cell (p:=⟨b',j,none⟩) V
    cases hs:z1i (xs.getD k z0l) (ys.getD k z0l)
    case false=>
     have E:Hid (sameTs xs ys=false):=z0Y (f:=z1i) z0l (fun _ _ _ _=>rfl) xs ys k HL.out U hs;rw[hs]at hq;clear HA hs;generalize xs.getD k z0l=z at y A C D hA hq O;generalize ys.getD k z0l=z' at I J L M c hq x;obtain⟨z0,z1,z2,zs⟩:=z;obtain⟨y0,y1,y2,us⟩:=z';dsimp only at y A C D hA I J L M c hq O x
     go_wp2_with fail
     refine(hq _ (hA.below (by go_grown)) (c.below (by go_grown))).mono ?_;rintro e w2 ⟨rfl,N⟩
     go_wp2
     go_ret;rw[E.out];exact⟨rfl,z0o (z0o hb (by go_grown)) N⟩
    case true=>
     have HB:Hid (∀j,j<k+1→z1i (xs.getD j z0l) (ys.getD j z0l)=true):=by
      intro j hj;by_cases ab:j=k
      ·subst ab;exact hs
      ·exact HA.out j (by omega)
     rw[hs]at hq;clear HA hs;generalize xs.getD k z0l=z at y A C D hA hq O;generalize ys.getD k z0l=z' at I J L M c hq x;obtain⟨z0,z1,z2,zs⟩:=z;obtain⟨y0,y1,y2,us⟩:=z';dsimp only at y A C D hA I J L M c hq O x
     go_wp2_with fail
     refine(hq _ (hA.below (by go_grown)) (c.below (by go_grown))).mono ?_;rintro e w2 ⟨rfl,N⟩;have Z:=z0o (z0o hb (by go_grown)) N;clear N Y y A C D I J L M hA c hq
     go_wp2
     go_roundw
     case rel=>exact⟨k+1,by omega,by go_num,Z,HB⟩
     case measure=>simp[intOf];omega
   ·have E:Hid (sameTs xs ys=true):=z0Z (f:=z1i) z0l rfl (fun _ _ _ _=>rfl) xs ys HL.out (fun j hj=>HA.out j (by omega));clear HA
    go_wp2
    go_ret;rw[E.out];exact⟨rfl,hb⟩
theorem z00(v v':Value)(xs ys:List TxnD)(w:World)(h:TxnsAt w v xs)(h':TxnsAt w v' ys)(hl:xs.length+z47 xs≤1048576)(hl':ys.length+z47 ys≤1048576):
  Calls Tryz.prog 39 #[v,v'] w fun e w'=>e=.returned (.bool (sameTs xs ys))∧Below w.heap.size w w':=by
 have hq:=z20 v v' xs ys w h h' hl hl';generalize sameTs xs ys=r at hq;go_enter Tryz.func39,Tryz.ntmps39
 go_wp2_with fail
 refine hq.mono ?_;rintro e w2 ⟨rfl,hb⟩
 go_wp2
 go_ret;exact⟨rfl,hb⟩
theorem z74(x y:TxnD):((x.id !=y.id)=true∧z1i x y=false)∨((x.id !=y.id)=false∧(x.session !=y.session)=true∧z1i x y=false)∨((x.id !=y.id)=false∧(x.session !=y.session)=false∧(x.seq !=y.seq)=true∧z1i x y=false)∨
  ((x.id !=y.id)=false∧(x.session !=y.session)=false∧(x.seq !=y.seq)=false∧((x.acts.length:Int) !=(y.acts.length:Int))=true∧z1i x y=false)∨
  ((x.id !=y.id)=false∧(x.session !=y.session)=false∧(x.seq !=y.seq)=false∧((x.acts.length:Int) !=(y.acts.length:Int))=false∧z1i x y=sameAs x.acts y.acts):=by
 by_cases hl:x.acts.length=y.acts.length
 ·rcases z3s x y with⟨h1,e⟩|⟨h1,h2,e⟩|⟨h1,h2,h3,e⟩|⟨h1,h2,h3,e⟩<;>simp[bne, *]
 ·have hs:sameAs x.acts y.acts=false:=z0X (f:=z1O) rfl (fun _ _ _ _=>rfl) (fun _ _=>rfl) (fun _ _=>rfl) _ _ hl;have hl2:¬((x.acts.length:Int)=(y.acts.length:Int)):=by omega
  rcases z3s x y with⟨h1,e⟩|⟨h1,h2,e⟩|⟨h1,h2,h3,e⟩|⟨h1,h2,h3,e⟩<;>simp[bne, *]
theorem z9m(x y:TxnD)(b o b' o':Nat)(a a':Option Addr)(cap d:Nat)(w:World)(hB:Box4 w b o (.int .i64 x.id) (.int .i64 x.session) (.int .i64 x.seq) (.slice a x.acts.length cap))(O:Box4 w b' o' (.int .i64 y.id) (.int .i64 y.session) (.int .i64 y.seq) (.slice a' y.acts.length d))
  (h:ActRow w a x.acts) (h':ActRow w a' y.acts) (hl:x.acts.length≤1048576) (Y:y.acts.length≤1048576):
  Calls Tryz.prog 56 #[.pointer (some ⟨b,o,none⟩),.pointer (some ⟨b',o',none⟩)] w fun e w'=>e=.returned (.bool (z1i x y))∧Below w.heap.size w w':=by
 obtain⟨c0,c1,c2,c3⟩:=hB;obtain⟨d0,d1,d2,d3⟩:=O;rcases z74 x y with⟨h1,e⟩|⟨h1,h2,e⟩|⟨h1,h2,h3,e⟩|⟨h1,h2,h3,h4,e⟩|⟨h1,h2,h3,h4,e⟩<;>rw[e]<;>clear e<;>obtain⟨x0,x1,x2,xs⟩:=x<;>obtain⟨y0,y1,y2,ys⟩:=y<;>dsimp only at*
 ·go_enter Tryz.func56,Tryz.ntmps56
  go_wp2_with fail
  go_quiet (fail)
  go_wp2
  go_ret;exact⟨rfl,⟨rfl,rfl,rfl,Nat.le_refl _,fun _ _=>rfl⟩⟩
 ·go_enter Tryz.func56,Tryz.ntmps56
  go_wp2_with fail
  go_quiet (fail)
  go_wp2
  go_ret;exact⟨rfl,⟨rfl,rfl,rfl,Nat.le_refl _,fun _ _=>rfl⟩⟩
 ·go_enter Tryz.func56,Tryz.ntmps56
  go_wp2_with fail
  go_quiet (fail)
  go_wp2
  go_ret;exact⟨rfl,⟨rfl,rfl,rfl,Nat.le_refl _,fun _ _=>rfl⟩⟩
 ·go_enter Tryz.func56,Tryz.ntmps56
  go_wp2_with fail
  go_quiet (fail)
  go_wp2
  go_ret;exact⟨rfl,⟨rfl,rfl,rfl,Nat.le_refl _,fun _ _=>rfl⟩⟩
 ·have c:xs.length=ys.length:=by simp at h4;omega
  have HL:Hid (xs.length=ys.length):=c;clear c;go_enter Tryz.func56,Tryz.ntmps56
  go_wp2_with fail
  go_quiet (fail)
  go_wp2
  go_loopw[5] (fun i wr=>∃k m:Nat,k≤xs.length∧i=.int .i64 k∧wr=w.drewN m∧Hid (∀j,j<k→z1O (xs.getD j z0e) (ys.getD j z0e)=true)) (fun i _=>xs.length-(intOf i).toNat)
  case atStart=>exact⟨0,_,Nat.zero_le _,rfl,rfl,fun j hj=>absurd hj (Nat.not_lt_zero _)⟩
  case round=>
   obtain⟨k,m,hk,rfl,rfl,HA⟩:=hrel;by_cases M:k<xs.length
   ·have N:k<ys.length:=by have:=HL.out;omega
    obtain⟨bb,Z,rfl,X,A,C,D⟩:=h.at k M;obtain⟨W,V,rfl,U,I,J,L⟩:=h'.at k N;have hr:=z4E (xs.getD k z0e).kind (xs.getD k z0e).key (xs.getD k z0e).val (ys.getD k z0e).kind (ys.getD k z0e).key (ys.getD k z0e).val
    cases hs:z1O (xs.getD k z0e) (ys.getD k z0e)
    case false=>
     have E:Hid (sameAs xs ys=false):=z0Y (f:=z1O) z0e (fun _ _ _ _=>rfl) xs ys k HL.out M hs;rw[show z1O ⟨(xs.getD k z0e).kind,(xs.getD k z0e).key,(xs.getD k z0e).val⟩ ⟨(ys.getD k z0e).kind,(ys.getD k z0e).key,(ys.getD k z0e).val⟩=false from hs,Bool.not_false]at hr;clear HA hs;generalize xs.getD k z0e=z at A C D hr;generalize ys.getD k z0e=z' at I J L hr
     go_wp2
     go_quiet (fail)
     go_wp2
     go_ret;rw[E.out];exact⟨rfl,⟨rfl,rfl,rfl,Nat.le_refl _,fun _ _=>rfl⟩⟩
    case true=>
     have HB:Hid (∀j,j<k+1→z1O (xs.getD j z0e) (ys.getD j z0e)=true):=by
      intro j hj;by_cases T:j=k
      ·subst T;exact hs
      ·exact HA.out j (by omega)
     rw[show z1O ⟨(xs.getD k z0e).kind,(xs.getD k z0e).key,(xs.getD k z0e).val⟩ ⟨(ys.getD k z0e).kind,(ys.getD k z0e).key,(ys.getD k z0e).val⟩=true from hs,Bool.not_true]at hr;clear HA hs;generalize xs.getD k z0e=z at A C D hr;generalize ys.getD k z0e=z' at I J L hr
     go_wp2
     go_quiet (fail)
     go_wp2
     go_roundw
     case rel=>exact⟨k+1,_,by omega,by go_num,rfl,HB⟩
     case measure=>simp[intOf];omega
   ·have E:Hid (sameAs xs ys=true):=z0Z (f:=z1O) z0e rfl (fun _ _ _ _=>rfl) xs ys HL.out (fun j hj=>HA.out j (by omega));clear HA
    go_wp2
    go_ret;rw[E.out];exact⟨rfl,⟨rfl,rfl,rfl,Nat.le_refl _,fun _ _=>rfl⟩⟩
theorem z0N(v v':Value)(xs ys:List TxnD)(w:World)(h:TxnsAt w v xs)(h':TxnsAt w v' ys)(hl:xs.length+z47 xs≤1048576)(ah:ys.length+z47 ys≤1048576):
  Calls Tryz.prog 29 #[v,v'] w fun e w'=>e=.returned (.bool (sameTs xs ys))∧Below w.heap.size w w':=by
 obtain⟨a,cap,rfl⟩:=h.shape;obtain⟨a',ae,rfl⟩:=h'.shape;by_cases c:xs.length=ys.length
 case neg=>
  have E:sameTs xs ys=false:=z0X (f:=z1i) rfl (fun _ _ _ _=>rfl) (fun _ _=>rfl) (fun _ _=>rfl) xs ys c;rw[E];have hd:((xs.length:Int) !=(ys.length:Int))=true:=by simp;omega
  go_enter Tryz.func29,Tryz.ntmps29
  go_wp2
  go_ret;exact⟨rfl,Below.refl _ _⟩
 case pos=>
  have hd:((xs.length:Int) !=(ys.length:Int))=false:=by simp[c]
  have HL:Hid (xs.length=ys.length):=c;clear c;go_enter Tryz.func29,Tryz.ntmps29
  go_wp2
  go_loopw[5] (fun i wr=>∃k:Nat,k≤xs.length∧i=.int .i64 k∧Below w.heap.size w wr∧Hid (∀j,j<k→z1i (xs.getD j z0l) (ys.getD j z0l)=true)) (fun i _=>xs.length-(intOf i).toNat)
  case atStart=>exact⟨0,Nat.zero_le _,rfl,Below.refl _ _,fun j hj=>absurd hj (Nat.not_lt_zero _)⟩
  case round=>
   obtain⟨k,hk,rfl,hb,HA⟩:=hrel;by_cases C:k<xs.length
   ·have z:k<ys.length:=by have:=HL.out;omega
    obtain⟨b,y,aa,cc,rfl,ag,M,N,O,T,hA⟩:=(h.below hb).at k C;obtain⟨b',d,Z,ab,rfl,af,U,V,W,X,I⟩:=(h'.below hb).at k z;have Y:(xs.getD k z0l).acts.length≤z47 xs:=z08 (by simp[List.getD,C]);have A:(ys.getD k z0l).acts.length≤z47 ys:=z08 (by simp[List.getD,z]);have J:Box4 wr b (y+k*4) _ _ _ _:=⟨M,N,O,T⟩
    have L:Box4 wr b' (d+k*4) _ _ _ _:=⟨U,V,W,X⟩
    have hq:=fun(w':World) (hW:Below wr.heap.size wr w')=>z9m (xs.getD k z0l) (ys.getD k z0l) b (y+k*4) b' (d+k*4) aa Z cc ab w' (J.below hW) (L.below hW) (hA.below hW) (I.below hW) (by omega) (by omega)
    clear J L hA I M N O T U V W X
    cases hs:z1i (xs.getD k z0l) (ys.getD k z0l)
    case false=>
     have E:Hid (sameTs xs ys=false):=z0Y (f:=z1i) z0l (fun _ _ _ _=>rfl) xs ys k HL.out C hs;rw[hs]at hq;clear HA hs Y A;have hW:Below wr.heap.size wr wr.drew:=(Below.refl _ _).drew;have D:Nonempty (Lat wr):=⟨⟨wr,Below.refl _ _⟩⟩
     go_wp2_with fail
     refine z0b (S:=fun w'=>∃u:Lat wr,w'=u.val) (by kernel_rfl) ?_;refine sgr [(0,6)] 2 (by kernel_rfl) ⟨⟨_,hW⟩,rfl⟩ ?_;simp only[pkE];repeat go_big_quiet_step (fail)
     refine wpQuiet_nil ?_;refine cla 6 (some 23) 56 #[.pointer (some ⟨b,y+k*4,none⟩),.pointer (some ⟨b',d+k*4,none⟩)] 1 (by kernel_rfl) ?_;refine(hq _ hW).mono ?_;rintro e w2 ⟨rfl,x⟩;replace hW:=hW.trans (x.mono hW.size);clear x hq;refine⟨_,rfl,⟨⟨_,hW⟩,rfl⟩,?_⟩;simp only[Act.put,pjE];refine sgr [(7,1)] 0 (by kernel_rfl) ⟨⟨_,hW⟩,rfl⟩ ?_;simp only[pkE];repeat go_big_quiet_step (fail)
     refine wpQuiet_nil ?_;refine z0f (by kernel_rfl) ?_;replace hb:=hb.trans (hW.mono hb.size);clear hW D
     go_wp2
     go_ret;rw[E.out];exact⟨rfl,hb⟩
    case true=>
     have HB:Hid (∀j,j<k+1→z1i (xs.getD j z0l) (ys.getD j z0l)=true):=by
      intro j hj;by_cases ad:j=k
      ·subst ad;exact hs
      ·exact HA.out j (by omega)
     rw[hs]at hq;clear HA hs Y A;have hW:Below wr.heap.size wr wr.drew:=(Below.refl _ _).drew;have D:Nonempty (Lat wr):=⟨⟨wr,Below.refl _ _⟩⟩
     go_wp2_with fail
     refine z0b (S:=fun w'=>∃u:Lat wr,w'=u.val) (by kernel_rfl) ?_;refine sgr [(0,6)] 2 (by kernel_rfl) ⟨⟨_,hW⟩,rfl⟩ ?_;simp only[pkE];repeat go_big_quiet_step (fail)
     refine wpQuiet_nil ?_;refine cla 6 (some 23) 56 #[.pointer (some ⟨b,y+k*4,none⟩),.pointer (some ⟨b',d+k*4,none⟩)] 1 (by kernel_rfl) ?_;refine(hq _ hW).mono ?_;rintro e w2 ⟨rfl,x⟩;replace hW:=hW.trans (x.mono hW.size);clear x hq;refine⟨_,rfl,⟨⟨_,hW⟩,rfl⟩,?_⟩;simp only[Act.put,pjE];refine sgr [(7,1)] 0 (by kernel_rfl) ⟨⟨_,hW⟩,rfl⟩ ?_;simp only[pkE];repeat go_big_quiet_step (fail)
     refine wpQuiet_nil ?_;refine z0f (by kernel_rfl) ?_;replace hb:=hb.trans (hW.mono hb.size);clear hW D
     go_wp2
     go_roundw
     case rel=>exact⟨k+1,by omega,by go_num,hb,HB⟩
     case measure=>simp[intOf];omega
   ·have E:Hid (sameTs xs ys=true):=z0Z (f:=z1i) z0l rfl (fun _ _ _ _=>rfl) xs ys HL.out (fun j hj=>HA.out j (by omega));clear HA
    go_wp2
    go_ret;rw[E.out];exact⟨rfl,hb⟩
def q4G:Value→Option Addr
 | .slice a _ _=>a
 |_=>none
def q4P:Value→Nat
 | .slice _ _ k=>k
 |_=>0
def TxnQ.p'(q:TxnQ):TxnP:=⟨q.e,q4G q.va,q4P q.va⟩
theorem TxnQ.p_cells'{w:World}{q:TxnQ}(h:actK.At w q.va q.acts):q.p'.cells=txnK.cells q:=by
 obtain⟨a,c,e⟩:=h.shape;show [_,_,_,_]=[_,_,_,_]
 simp only[TxnP.sl,TxnQ.p',TxnQ.e,e,q4G,q4P]
theorem z0k{w:World}{v:Value}{ps:List TxnQ}(h:txnK.At w v ps):TxnsAt w v (ps.map TxnQ.e):=by
 obtain⟨a,cap,e,hL,hr⟩:=h;refine⟨a,cap,ps.map TxnQ.p',by rw[List.length_map];exact e,by simp only[List.map_map];rfl,?_,?_⟩
 ·have e2:z0M (ps.map TxnQ.p')=txnK.row ps:=by
   clear hL e;induction ps with
   |nil=>rfl
   |cons q r ih=>
    have h1:q.p'.cells=txnK.cells q:=TxnQ.p_cells' (hr q (by simp));have h2:=ih (fun p hp=>hr p (List.mem_cons_of_mem _ hp));show q.p'.cells++z0M (r.map TxnQ.p')=txnK.cells q++txnK.row r;rw[h1,h2]
  rw[e2];exact hL
 ·intro p hp;obtain⟨q,hq,rfl⟩:=List.mem_map.1 hp;have h1:actK.At w q.va q.acts:=hr q hq;obtain⟨a',c',e',hl',_⟩:=h1;show ActRow w (q4G q.va) q.acts;rw[e'];exact hl'
theorem z0u(ps:List TxnQ):z47 (ps.map TxnQ.e)=nmL TxnQ.n ps:=by
 simp only[z47,nmL,List.map_map];rfl
def sameUss:List (List UndoD)→List (List UndoD)→Bool
 |[],[]=>true
 |x::r,y::s=>sameUs x y && sameUss r s
 |_,_=>false
theorem z2c(xs:List USQ)(k:Nat)(hk:k<xs.length):(xs.map USQ.e).getD k []=USQ.e xs[k]:=by simp[List.getD,hk]
theorem z6g{w:World}{b off k:Nat}{p:USQ}(h:∀j x,(ussK.cells p)[j]?=some x→w.cell? ⟨b,off+k*ussK.size+j,none⟩=some x):w.cell? ⟨b,off+k,none⟩=some p.va:=by
 have:=h 0 p.va rfl
 rwa [show off+k*ussK.size+0=off+k from by show off+k*1+0=off+k;omega]at this
theorem z67(v v':Value)(xs ys:List USQ)(w:World)(h:ussK.At w v xs)(h':ussK.At w v' ys)(hl:xs.length+nmL USQ.n xs≤1048576)(O:ys.length+nmL USQ.n ys≤1048576):
  Calls Tryz.prog 150 #[v,v',.func (.func 151) #[] #[]] w fun e w'=>e=.returned (.bool (sameUss (xs.map USQ.e) (ys.map USQ.e)))∧Below w.heap.size w w':=by
 obtain⟨a,cap,rfl⟩:=h.shape;obtain⟨a',J,rfl⟩:=h'.shape;by_cases c:xs.length=ys.length
 case neg=>
  have E:sameUss (xs.map USQ.e) (ys.map USQ.e)=false:=z0X (f:=sameUs) rfl (fun _ _ _ _=>rfl) (fun _ _=>rfl) (fun _ _=>rfl) _ _ (by simpa using c);rw[E];have hd:((xs.length:Int) !=(ys.length:Int))=true:=by simp;omega
  go_enter Tryz.func150,Tryz.ntmps150
  go_wp2
  go_ret;exact⟨rfl,Below.refl _ _⟩
 case pos=>
  have hd:((xs.length:Int) !=(ys.length:Int))=false:=by simp[c]
  have HL:Hid (xs.length=ys.length):=c;have HM:Hid ((xs.map USQ.e).length=(ys.map USQ.e).length):=show _=_ by simpa using c
  clear c;generalize hE:sameUss (xs.map USQ.e) (ys.map USQ.e)=E;have HE:Hid (sameUss (xs.map USQ.e) (ys.map USQ.e)=E):=hE;clear hE;go_enter Tryz.func150,Tryz.ntmps150
  go_wp2
  go_loopw[17] (fun i wr=>∃k:Nat,k≤xs.length∧i=.int .i64 k∧Below w.heap.size w wr∧Hid (∀j,j<k→sameUs ((xs.map USQ.e).getD j []) ((ys.map USQ.e).getD j [])=true)) (fun i _=>xs.length-(intOf i).toNat)
  case atStart=>exact⟨0,Nat.zero_le _,rfl,Below.refl _ _,fun j hj=>absurd hj (Nat.not_lt_zero _)⟩
  case round=>
   obtain⟨k,hk,rfl,hb,HA⟩:=hrel;by_cases y:k<xs.length
   ·have x:k<ys.length:=by have:=HL.out;omega
    obtain⟨b,T,rfl,N,hc,z⟩:=(h.below hb).cell (by decide) k y;obtain⟨b',M,rfl,L,D,d⟩:=(h'.below hb).cell (by decide) k x;have c0:=z6g hc;have d0:=z6g D;have n1:=z0W USQ.n xs k y;have n2:=z0W USQ.n ys k x;have HY:Hid (sameUs (USQ.e xs[k]) (USQ.e ys[k])=false→E=false):=fun hx=>by
     rw[←HE.out];exact z0Y (f:=sameUs) [] (fun _ _ _ _=>rfl) _ _ k HM.out (by simpa using y) (by rw[z2c xs k y,z2c ys k x];exact hx)
    have HN:Hid (sameUs (USQ.e xs[k]) (USQ.e ys[k])=true→∀j,j<k+1→sameUs ((xs.map USQ.e).getD j []) ((ys.map USQ.e).getD j [])=true):=fun hx j hj=>by
     by_cases I:j=k
     ·subst I;rw[z2c xs j y,z2c ys j x];exact hx
     ·exact HA.out j (by omega)
    clear HA hc D;generalize xs[k]=p at*;generalize ys[k]=q at*;obtain⟨pv,pu⟩:=p;obtain⟨qv,qu⟩:=q;replace z:undoK.At wr pv pu:=z;replace d:undoK.At wr qv qu:=d;replace n1:pu.length≤nmL USQ.n xs:=n1;replace n2:qu.length≤nmL USQ.n ys:=n2;dsimp only[USQ.e]at c0 d0 HY HN;obtain⟨a1,k1,rfl⟩:=z.shape;obtain⟨b1,m1,rfl⟩:=d.shape;have hq:=fun w f1 f2=>z3V a1 b1 k1 m1 pu qu w f1 f2 (by omega) (by omega)
    have g1:=(z1I z).2;have g2:=(z1I d).2;generalize sameUs pu qu=X at*;clear n1 n2 z d
    go_wp2_with fail
    refine(hq _ g1 g2).mono ?_;rintro e w2 ⟨rfl,A⟩;have C:=z0o hb A;clear A c0 d0 hq g1 g2
    cases X with
    |false=>
     have E1:Hid (E=false):=HY.out rfl;clear HY HN HE
     go_wp2
     go_ret;exact⟨by rw[E1.out];rfl,C⟩
    |true=>
     have R:=HN.out rfl;have HR:Hid _:=R;clear HY HN R
     go_wp2
     go_roundw
     case rel=>exact⟨k+1,by omega,by go_num,C,HR.out⟩
     case measure=>simp[intOf];omega
   ·have E1:Hid (E=true):=by rw[←HE.out];exact z0Z (f:=sameUs) [] rfl (fun _ _ _ _=>rfl) _ _ HM.out (fun j hj=>HA.out j (by simpa using(by simpa using hj:j<xs.length)|>fun h=>Nat.lt_of_lt_of_le h (by omega)))
    clear HA HE
    go_wp2
    go_ret;exact⟨by rw[E1.out];rfl,hb⟩
theorem z4F(v v':Value)(xs ys:List USQ)(w:World)(h:ussK.At w v xs)(h':ussK.At w v' ys)(hl:xs.length+nmL USQ.n xs≤1048576)(U:ys.length+nmL USQ.n ys≤1048576):
  Calls Tryz.prog 111 #[v,v'] w fun e w'=>e=.returned (.bool (sameUss (xs.map USQ.e) (ys.map USQ.e)))∧Below w.heap.size w w':=by
 obtain⟨a,cap,rfl⟩:=h.shape;obtain⟨a',L,rfl⟩:=h'.shape;by_cases c:xs.length=ys.length
 case neg=>
  have E:sameUss (xs.map USQ.e) (ys.map USQ.e)=false:=z0X (f:=sameUs) rfl (fun _ _ _ _=>rfl) (fun _ _=>rfl) (fun _ _=>rfl) _ _ (by simpa using c);rw[E];have hd:((xs.length:Int) !=(ys.length:Int))=true:=by simp;omega
  go_enter Tryz.func111,Tryz.ntmps111
  go_wp2
  go_ret;exact⟨rfl,Below.refl _ _⟩
 case pos=>
  have hd:((xs.length:Int) !=(ys.length:Int))=false:=by simp[c]
  have HL:Hid (xs.length=ys.length):=c;have HM:Hid ((xs.map USQ.e).length=(ys.map USQ.e).length):=show _=_ by simpa using c
  clear c;generalize hE:sameUss (xs.map USQ.e) (ys.map USQ.e)=E;have HE:Hid (sameUss (xs.map USQ.e) (ys.map USQ.e)=E):=hE;clear hE;go_enter Tryz.func111,Tryz.ntmps111
  go_wp2
  go_loopw[5] (fun i wr=>∃k:Nat,k≤xs.length∧i=.int .i64 k∧Below w.heap.size w wr∧Hid (∀j,j<k→sameUs ((xs.map USQ.e).getD j []) ((ys.map USQ.e).getD j [])=true)) (fun i _=>xs.length-(intOf i).toNat)
  case atStart=>exact⟨0,Nat.zero_le _,rfl,Below.refl _ _,fun j hj=>absurd hj (Nat.not_lt_zero _)⟩
  case round=>
   obtain⟨k,hk,rfl,hb,HA⟩:=hrel;by_cases y:k<xs.length
   ·have x:k<ys.length:=by have:=HL.out;omega
    obtain⟨b,V,rfl,T,hc,z⟩:=(h.below hb).cell (by decide) k y;obtain⟨b',O,rfl,M,C,d⟩:=(h'.below hb).cell (by decide) k x;have c0:=z6g hc;have d0:=z6g C;have n1:=z0W USQ.n xs k y;have n2:=z0W USQ.n ys k x;have HY:Hid (sameUs (USQ.e xs[k]) (USQ.e ys[k])=false→E=false):=fun hx=>by
     rw[←HE.out];exact z0Y (f:=sameUs) [] (fun _ _ _ _=>rfl) _ _ k HM.out (by simpa using y) (by rw[z2c xs k y,z2c ys k x];exact hx)
    have HN:Hid (sameUs (USQ.e xs[k]) (USQ.e ys[k])=true→∀j,j<k+1→sameUs ((xs.map USQ.e).getD j []) ((ys.map USQ.e).getD j [])=true):=fun hx j hj=>by
     by_cases D:j=k
     ·subst D;rw[z2c xs j y,z2c ys j x];exact hx
     ·exact HA.out j (by omega)
    clear HA hc C;generalize xs[k]=p at*;generalize ys[k]=q at*;obtain⟨pv,pu⟩:=p;obtain⟨qv,qu⟩:=q;replace z:undoK.At wr pv pu:=z;replace d:undoK.At wr qv qu:=d;replace n1:pu.length≤nmL USQ.n xs:=n1;replace n2:qu.length≤nmL USQ.n ys:=n2;dsimp only[USQ.e]at c0 d0 HY HN;obtain⟨a1,k1,rfl⟩:=z.shape;obtain⟨b1,m1,rfl⟩:=d.shape;have hq:=fun w f1 f2=>z3U a1 b1 k1 m1 pu qu w f1 f2 (by omega) (by omega)
    have g1:=(z1I z).2;have g2:=(z1I d).2;generalize sameUs pu qu=X at*;clear n1 n2 z d;have N:(k:Int)<(xs.length:Int):=by omega
    have I:(k:Int)<(ys.length:Int):=by omega
    replace c0:=z0a c0;replace d0:=z0a d0;have hW:Below wr.heap.size wr wr.drew:=(Below.refl _ _).drew;have J:Nonempty (Lat wr):=⟨⟨wr,Below.refl _ _⟩⟩
    go_wp2_with fail
    refine z0b (S:=fun w'=>∃u:Lat wr,w'=u.val) (by kernel_rfl) ?_;refine sgr [(0,8)] 2 (by kernel_rfl) ⟨⟨_,hW⟩,rfl⟩ ?_;simp only[pkE];repeat go_big_quiet_step (fail)
    refine wpQuiet_nil ?_;refine cla 8 (some 25) 136 #[.slice a1 pu.length k1,.slice b1 qu.length m1] 1 (by kernel_rfl) ?_;refine(hq _ (g1.below hW) (g2.below hW)).mono ?_;rintro e w9 ⟨rfl,A⟩;replace hW:=hW.trans (A.mono hW.size);clear A;refine⟨_,rfl,⟨⟨_,hW⟩,rfl⟩,?_⟩;simp only[Act.put,pjE];refine sgr [(9,1)] 0 (by kernel_rfl) ⟨⟨_,hW⟩,rfl⟩ ?_;simp only[pkE];repeat go_big_quiet_step (fail)
    refine wpQuiet_nil ?_;refine z0f (by kernel_rfl) ?_;replace hb:=hb.trans (hW.mono hb.size);clear hW J hq g1 g2 c0 d0
    cases X with
    |false=>
     have E1:Hid (E=false):=HY.out rfl;clear HY HN HE
     go_wp2
     go_ret;exact⟨by rw[E1.out];rfl,hb⟩
    |true=>
     have R:=HN.out rfl;have HR:Hid _:=R;clear HY HN R
     go_wp2
     go_roundw
     case rel=>exact⟨k+1,by omega,by go_num,hb,HR.out⟩
     case measure=>simp[intOf];omega
   ·have E1:Hid (E=true):=by rw[←HE.out];exact z0Z (f:=sameUs) [] rfl (fun _ _ _ _=>rfl) _ _ HM.out (fun j hj=>HA.out j (by simpa using(by simpa using hj:j<xs.length)|>fun h=>Nat.lt_of_lt_of_le h (by omega)))
    clear HA HE
    go_wp2
    go_ret;exact⟨by rw[E1.out];rfl,hb⟩
end Go.Proofs.YtljbililjlafcaaGreatDoor
