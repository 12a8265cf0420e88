/- Texts joined,with what the laws reach alone. -/
import Derived.Test.YtfpponhjhbfbeaaGreatDoorSOBA
import Derived.Maps.Own
import Derived.Maps.Keyed
import Derived.Maps.Views
import Derived.DeepKeys4
import Derived.Maps.OwnSet
import Derived.WideKeyEntry
set_option linter.unusedVariables false
set_option linter.unusedSimpArgs false
set_option maxRecDepth 100000
set_option maxHeartbeats 8000000
namespace Go.Proofs.YtfpponhjhbfbeaaGreatDoor
open Go.RowKit Go.BigFrame
theorem z2Y(i s q:Int)(a:Option Addr)(n c:Nat)(i' s' q':Int)(a':Option Addr)(n' c':Nat)(xs ys:List ActD)(w:World):
  Calls Tryz.prog 144 #[.agg #[.int .i64 i,.int .i64 s,.int .i64 q,.slice a n c],.agg #[.int .i64 i',.int .i64 s',.int .i64 q',.slice a' n' c']] w fun e w'=>e=.returned (.bool (stF ⟨i,s,q,xs⟩ ⟨i',s',q',ys⟩))∧Below w.heap.size w w':=by
 unfold stF;dsimp only
 cases h1:(i==i')
 ·cases h2:(s==s')
  ·go_enter Tryz.func144,Tryz.ntmps144
   go_wp2
   go_ret;exact⟨rfl,by go_grown⟩
  ·cases h3:(q==q')
   ·go_enter Tryz.func144,Tryz.ntmps144
    go_wp2
    go_ret;exact⟨rfl,by go_grown⟩
   ·go_enter Tryz.func144,Tryz.ntmps144
    go_wp2
    go_ret;exact⟨rfl,by go_grown⟩
 ·go_enter Tryz.func144,Tryz.ntmps144
  go_wp2
  go_ret;exact⟨rfl,by go_grown⟩
theorem z67(i s q:Int)(a:Option Addr)(n c:Nat)(xs:List ActD)(x:TxnD)(bx:Nat)(a':Option Addr)(n' c':Nat)(w:World)(hX:Blk w bx 44 #[.int .i64 x.id,.int .i64 x.session,.int .i64 x.seq,.slice a' n' c']):
  Calls Tryz.prog 143 #[.agg #[.int .i64 i,.int .i64 s,.int .i64 q,.slice a n c],.pointer (some ⟨bx,0,none⟩)] w fun e w'=>e=.returned (.bool (stF ⟨i,s,q,xs⟩ x))∧Below w.heap.size w w':=by
 obtain⟨xi,xs',xq,xa⟩:=x;have hB:Below w.heap.size w (w.alloc (.cells #[.int .i64 i,.int .i64 s,.int .i64 q,.slice a n c] 44)):=by go_grown
 have hX':=hX.below hB;have hq:=fun w=>z2Y i s q a n c xi xs' xq a' n' c' xs xa w
 have x0:=hX'.cell 0 _ rfl;have x1:=hX'.cell 1 _ rfl;have x2:=hX'.cell 2 _ rfl;have x3:=hX'.cell 3 _ rfl;generalize stF ⟨i,s,q,xs⟩ ⟨xi,xs',xq,xa⟩=E at*;go_enter Tryz.func143,Tryz.ntmps143
 go_wp2_with fail
 refine(hq _).mono ?_;rintro e w2 ⟨rfl,hb2⟩;replace hB:=hB.trans (hb2.mono hB.size)
 go_wp2
 go_ret;exact⟨rfl,hB⟩
theorem z4g(v:Value)(ps:List TxnQ)(x:TxnD)(bx:Nat)(a':Option Addr)(n' c':Nat)(w:World)(h:txnK.At w v ps)(hX:Blk w bx 44 #[.int .i64 x.id,.int .i64 x.session,.int .i64 x.seq,.slice a' n' c'])(hl:ps.length≤1048576):
  Calls Tryz.prog 159 #[v,.func (.func 143) #[] #[.pointer (some ⟨bx,0,none⟩)]] w fun e w'=>∃r:Int,e=.returned (.int .i64 r)∧(knw (ps.map TxnQ.e) x=true→0≤r)∧(knw (ps.map TxnQ.e) x=false→r<0)∧Below w.heap.size w w':=by
 obtain⟨a,cap,rfl⟩:=h.shape;generalize hE:knw (ps.map TxnQ.e) x=E;have HE:Hid (knw (ps.map TxnQ.e) x=E):=hE;clear hE;go_enter Tryz.func159,Tryz.ntmps159
 go_wp2
 go_loopw[8] (fun j wr=>∃k:Nat,k≤ps.length∧j=.int .i64 k∧Below w.heap.size w wr∧Hid (∀j,j<k→stF ((ps.map TxnQ.e).getD j z2d) x=false)) (fun j _=>ps.length-(intOf j).toNat)
 case atStart=>exact⟨0,Nat.zero_le _,rfl,Below.refl _ _,fun j hj=>absurd hj (Nat.not_lt_zero _)⟩
 case round=>
  obtain⟨k,hk,rfl,hb,HA⟩:=hrel;by_cases hlt:k<ps.length
  ·obtain⟨b',off,rfl,hbs,hc,hrd⟩:=(h.below hb).cell (by decide) k hlt;have hc':∀j x,(txnK.cells ps[k])[j]?=some x→wr.cell? ⟨b',off+k*4+j,none⟩=some x:=hc;have c0:=hc' 0 (.int .i64 ps[k].i) rfl;have c1:=hc' 1 (.int .i64 ps[k].s) rfl;have c2:=hc' 2 (.int .i64 ps[k].q) rfl;have c3:=hc' 3 (ps[k].va) rfl;rw[Nat.add_zero]at c0;have HY:Hid (stF (TxnQ.e ps[k]) x=true→E=true):=fun hx=>by rw[←HE.out];exact z71 k (by simpa using hlt) (by rw[z2W ps k hlt];exact hx)
   have HN:Hid (stF (TxnQ.e ps[k]) x=false→∀j,j<k+1→stF ((ps.map TxnQ.e).getD j z2d) x=false):=fun hx j hj=>by
    by_cases hjm:j=k
    ·subst hjm;rw[z2W ps j hlt];exact hx
    ·exact HA.out j (by omega)
   clear HA hc hc';generalize ps[k]=p at*;obtain⟨i,s,q,va',acts⟩:=p;replace hrd:actK.At wr va' acts:=hrd;obtain⟨aa,ac,rfl⟩:=hrd.shape;dsimp only[TxnQ.e]at c0 c1 c2 c3 HY HN;have hq:=z67 i s q aa acts.length ac acts x bx a' n' c' wr (hX.below hb);generalize stF ⟨i,s,q,acts⟩ x=S at*;have hlti:(k:Int)<(ps.length:Int):=by omega
   go_wp2_with fail
   refine hq.mono ?_;rintro e w2 ⟨rfl,hb2⟩;replace hb:=hb.trans (hb2.mono hb.size);clear hq c0 c1 c2 c3 hb2 hrd hbs
   cases S with
   |true=>
    have E1:Hid (E=true):=HY.out rfl;clear HY HN
    go_wp2
    go_ret;refine⟨_,rfl,fun _=>by omega,fun h0=>?_,hb⟩;rw[E1.out]at h0;exact absurd h0 (by decide)
   |false=>
    have HR':Hid _:=HN.out rfl;clear HY HN
    go_wp2
    go_roundw
    case rel=>exact⟨k+1,by omega,by go_num,hb,HR'.out⟩
    case measure=>simp[intOf];omega
  ·have E1:Hid (E=false):=by rw[←HE.out];exact z81 (fun j hj=>HA.out j (by simp at hj;omega))
   have hlti:¬(k:Int)<(ps.length:Int):=by omega
   clear HA HE
   go_wp2
   go_ret;refine⟨_,rfl,fun h0=>?_,fun _=>by omega,hb⟩;rw[E1.out]at h0;exact absurd h0 (by decide)
theorem z2Z(v:Value)(ps:List TxnQ)(x:TxnD)(bx:Nat)(a':Option Addr)(n' c':Nat)(w:World)(h:txnK.At w v ps)(hX:Blk w bx 44 #[.int .i64 x.id,.int .i64 x.session,.int .i64 x.seq,.slice a' n' c'])(hl:ps.length≤1048576):
  Calls Tryz.prog 142 #[v,.func (.func 143) #[] #[.pointer (some ⟨bx,0,none⟩)]] w fun e w'=>e=.returned (.bool (knw (ps.map TxnQ.e) x))∧Below w.heap.size w w':=by
 have hq:=z4g v ps x bx a' n' c' w h hX hl;obtain⟨a,cap,rfl⟩:=h.shape;generalize knw (ps.map TxnQ.e) x=E at*;go_enter Tryz.func142,Tryz.ntmps142
 go_wp2_with fail
 refine hq.mono ?_;rintro e w2 ⟨r,rfl,h1,h2,hb⟩
 cases E with
 |true=>
  have h0:0≤r:=h1 rfl;clear h1 h2
  go_wp2
  go_ret;exact⟨by simp[h0],hb⟩
 |false=>
  have h0:¬0≤r:=by have:=h2 rfl;omega
  clear h1 h2
  go_wp2
  go_ret;exact⟨by simp[h0],hb⟩
theorem z4h(v:Value)(ps:List TxnQ)(x:TxnD)(a':Option Addr)(n' c':Nat)(w:World)(h:txnK.At w v ps)(hl:ps.length≤1048576):
  Calls Tryz.prog 121 #[v,.agg #[.int .i64 x.id,.int .i64 x.session,.int .i64 x.seq,.slice a' n' c']] w fun e w'=>e=.returned (.bool (knw (ps.map TxnQ.e) x))∧Below w.heap.size w w':=by
 have hB:Below w.heap.size w (w.alloc (.cells #[.int .i64 x.id,.int .i64 x.session,.int .i64 x.seq,.slice a' n' c'] 44)):=by go_grown
 have hq:=z2Z v ps x w.heap.size a' n' c' _ (h.below hB) (Blk.new w 44 #[.int .i64 x.id,.int .i64 x.session,.int .i64 x.seq,.slice a' n' c']) hl;have hmf:∀ (fn:Fn) (first cap:Array Value) (w:World),(Instr.makeFunc fn first cap).run Tryz.prog w=.ok (.func fn first cap) w:=fun _ _ _ _=>rfl
 obtain⟨a,cap,rfl⟩:=h.shape;generalize knw (ps.map TxnQ.e) x=E at*;obtain⟨xi,xs,xq,xa⟩:=x;dsimp only at hB hq⊢;go_enter Tryz.func121,Tryz.ntmps121
 go_wp2_with fail
 refine hq.mono ?_;rintro e w2 ⟨rfl,hb2⟩;replace hB:=hB.trans (hb2.mono hB.size);clear hmf
 go_wp2
 go_ret;exact⟨rfl,hB⟩
def stpF(acc:List TxnD)(t:TxnD):Int:=if t.F=0 then(if knw acc t then 6 else 0)else t.F
def z3n:List TxnD→List TxnD→Int
 |_,[]=>0
 |acc,t::r=>if stpF acc t=0 then z3n (acc++[t]) r else stpF acc t
def lstF(ds:List TxnD):Int:=if 40<ds.length then 2 else z3n [] ds
def z72:List (List TxnD)→Int
 |[]=>0
 |d::r=>if lstF d=0 then z72 r else lstF d
theorem z8Q(ds:List TxnD)(k:Nat)(hk:k<ds.length):z3n (ds.take k) (ds.drop k)=if stpF (ds.take k) ds[k]=0 then z3n (ds.take (k+1)) (ds.drop (k+1))else stpF (ds.take k) ds[k]:=by
 conv=>lhs;rw[List.drop_eq_getElem_cons hk]
 rw[z3n,List.take_succ_eq_append_getElem hk]
theorem z73(ds:List TxnD)(k:Nat)(hk:ds.length≤k):z3n (ds.take k) (ds.drop k)=0:=by
 rw[List.drop_of_length_le hk];rfl
theorem z9N(ls:List (List TxnD))(k:Nat)(hk:k<ls.length):z72 (ls.drop k)=if lstF ls[k]=0 then z72 (ls.drop (k+1))else lstF ls[k]:=by
 rw[List.drop_eq_getElem_cons hk,z72]
theorem Kind.At.rdm{P:Type}{K:Kind P}{w:World}{v:Value}{ps:List P}{p:P}(h:K.At w v ps)(hp:p∈ps):K.rd w p:=by
 obtain⟨a,c,e,hl,hr⟩:=h;exact hr p hp
theorem Blk.setOne{w:World}{b:Nat}{t:TypeId}{x y:Value}(h:Blk w b t #[x]):Blk (w.setCell ⟨b,0,none⟩ y) b t #[y]:=by
 have h1:w.heap[b]?=some (.cells #[x] t (0,0)):=h;show(w.setCell ⟨b,0,none⟩ y).heap[b]?=some (.cells #[y] t (0,0));simp[World.setCell,Array.getElem?_modify,h1]
theorem z4W(p:TxnQ)(qs:List TxnQ)(bx:Nat)(va:Value)(w:World)(hT:actK.At w p.va p.acts)(hl:p.acts.length≤1048576)(hv:Blk w bx 27 #[va])(ho:w.ownsRow (bx+1) 44 4 va qs.length (txnK.row qs))(hrd:∀q∈qs,txnK.rd w q)(hq:qs.length≤40):
  Calls Tryz.prog 119 #[.agg #[.int .i64 p.i,.int .i64 p.s,.int .i64 p.q,p.va],.pointer (some ⟨bx,0,none⟩)] w fun e w'=>e=.returned (.int .i64 (stpF (qs.map TxnQ.e) (TxnQ.e p)))∧Below bx w w'∧(stpF (qs.map TxnQ.e) (TxnQ.e p)=0→∃va',Blk w' bx 27 #[va']∧w'.ownsRow (bx+1) 44 4 va' (qs++[p]).length (txnK.row (qs++[p]))):=by
 obtain⟨i,s,q,pv,acts⟩:=p;dsimp only at hT hl;obtain⟨aa,ac,rfl⟩:=hT.shape;obtain⟨sa,sc,rfl⟩:=z0l ho;obtain⟨i0,hi,hz0,hz1,hz2⟩:=info_parts z1q;have hbx:=hv.lt;have hB:Below w.heap.size w (w.alloc (.cells #[.int .i64 i,.int .i64 s,.int .i64 q,.slice aa acts.length ac] 44)):=by go_grown
 have hX:=Blk.new w 44 #[.int .i64 i,.int .i64 s,.int .i64 q,.slice aa acts.length ac];have hfa:=z27 i s q aa ac acts _ ((z2g hT).2.below hB) hl;replace hv:=hv.below hB;replace ho:=z0j ho hB;have hat:txnK.At (w.alloc (.cells #[.int .i64 i,.int .i64 s,.int .i64 q,.slice aa acts.length ac] 44)) (.slice sa qs.length sc) qs:=Kind.at_of_row ho (fun q hq=>txnK.rd_below (hrd q hq) hB);have HS:Hid (stpF (qs.map TxnQ.e) ⟨i,s,q,acts⟩=if txnF i s q acts=0 then(if knw (qs.map TxnQ.e) ⟨i,s,q,acts⟩then 6 else 0)else txnF i s q acts):=rfl;dsimp only[TxnQ.e];generalize stpF (qs.map TxnQ.e) ⟨i,s,q,acts⟩=S at*;generalize txnF i s q acts=C at*;clear hT hrd;go_enter Tryz.func119,Tryz.ntmps119
 go_wp2_with fail
 have hBs:=hB.size;have hwx:w.heap.size<(w.alloc (.cells #[.int .i64 i,.int .i64 s,.int .i64 q,.slice aa acts.length ac] 44)).heap.size:=by simp
 generalize w.heap.size=H at*;generalize w.alloc (.cells #[.int .i64 i,.int .i64 s,.int .i64 q,.slice aa acts.length ac] 44)=W at*;refine hfa.mono ?_;rintro e w1 ⟨rfl,hb1⟩;replace hv:=hv.below hb1;replace ho:=z0j ho hb1;replace hX:=hX.below hb1;replace hat:=hat.below hb1;replace hB:=hB.trans (hb1.mono hBs);by_cases hC:C=0
 ·subst hC;rw[if_pos rfl]at HS;have hh:=z4h (.slice sa qs.length sc) qs ⟨i,s,q,acts⟩ aa acts.length ac w1 hat (by omega);dsimp only at hh;have x0:=hX.cell 0 _ rfl;have x1:=hX.cell 1 _ rfl;have x2:=hX.cell 2 _ rfl;have x3:=hX.cell 3 _ rfl;have v0:=hv.cell 0 _ rfl;generalize knw (qs.map TxnQ.e) ⟨i,s,q,acts⟩=Y at*;clear hfa hat
  go_wp2_with fail
  refine hh.mono ?_;rintro e w2 ⟨rfl,hb2⟩;clear x0 x1 x2 x3 v0 hh;replace hv:=hv.below hb2;replace ho:=z0j ho hb2;replace hX:=hX.below hb2;have hs2:=hb2.size;have hs1:=hb1.size;replace hB:=hB.trans (hb2.mono (by omega));clear hb1 hb2
  cases Y with
  |true=>
   have HS2:Hid (S=6):=HS.out;clear HS
   go_wp2
   go_ret;rw[HS2.out];exact⟨rfl,hB.mono (by omega),fun h0=>absurd h0 (by decide)⟩
  |false=>
   have HS2:Hid (S=0):=HS.out;clear HS;have x0:=hX.cell 0 _ rfl;have x1:=hX.cell 1 _ rfl;have x2:=hX.cell 2 _ rfl;have x3:=hX.cell 3 _ rfl;have v0:=hv.cell 0 _ rfl;have hbA:Below w2.heap.size w2 (w2.alloc (.cells #[.int .i64 i,.int .i64 s,.int .i64 q,.slice aa acts.length ac] 44)):=by go_grown
   have hvA:=hv.below hbA;have hoA:=z0j ho hbA;have hBA:=hB.trans (hbA.mono (by omega));have hsA:=hbA.size;clear hv ho hB hX
   go_wp2_with (at_builtin;refine wpList_append_own_at _ rfl _ _ 27 rfl (bx+1) 44 i0 (.agg #[.int .i64 0,.int .i64 0,.int .i64 0,.slice none 0 0]) 4 48 Tryz.underlying27 hi hz0 hz1 hz2 rfl (by decide) _ qs.length (txnK.row qs) rfl hoA ⟨w2.heap.size,0,none⟩ 1 1 [.int .i64 i,.int .i64 s,.int .i64 q,.slice aa acts.length ac] rfl rfl ?c1 ?c2 ?c3 ?c4 ?c5 ?_)
   all_goals try(case c1=>intro j u hj;match j,hj with|0,hj=>simp at hj;subst hj;simp[Addr.add]|1,hj=>simp at hj;subst hj;simp[Addr.add]|2,hj=>simp at hj;subst hj;simp[Addr.add]|3,hj=>simp at hj;subst hj;simp[Addr.add])
   all_goals try(case c2=>intro u hu;simp at hu;rcases hu with rfl|rfl|rfl|rfl<;>rfl)
   all_goals try(case c3=>unfold maxLen;omega)
   all_goals try(case c4=>omega)
   all_goals try(case c5=>omega)
   intro v' w5 hown hgrow hnil hat5;obtain⟨a6,c6,rfl⟩:=z0l hown;have hv5:Blk w5 bx 27 #[.slice sa qs.length sc]:=hvA.grown hgrow (fun e=>by have:=(hoA.lt bx e.symm).1;omega);have hb5:Below bx w w5:=(hBA.mono (show bx≤_ by omega)).grown hgrow (by omega) (fun j hj=>by have:=(hoA.lt j hj).1;omega);have hrow:txnK.row (qs++[(⟨i,s,q,.slice aa acts.length ac,acts⟩:TxnQ)])=txnK.row qs++[.int .i64 i,.int .i64 s,.int .i64 q,.slice aa acts.length ac]:=by simp[Kind.row];rfl
   have f5:=hv5.frozen 0;have c5:=hv5.cell 0 _ rfl;have hb6:Below bx w (w5.setCell ⟨bx,0,none⟩ (.slice a6 (qs.length+1) c6)):=Out.keep hb5 (Out.setCell w5 bx 0 _) (by have:=hv5.lt;omega) (fun k hk=>by simp at hk;omega);have hv6:Blk (w5.setCell ⟨bx,0,none⟩ (.slice a6 (qs.length+1) c6)) bx 27 #[.slice a6 (qs.length+1) c6]:=hv5.setOne;have ho6:(w5.setCell ⟨bx,0,none⟩ (.slice a6 (qs.length+1) c6)).ownsRow (bx+1) 44 4 (.slice a6 (qs.length+1) c6) (qs++[(⟨i,s,q,.slice aa acts.length ac,acts⟩:TxnQ)]).length (txnK.row (qs++[(⟨i,s,q,.slice aa acts.length ac,acts⟩:TxnQ)])):=by
    rw[hrow,List.length_append];refine z4C hown (Out.setCell w5 bx 0 _) (fun k hk e=>?_);simp only[List.mem_singleton]at e;subst e;have:=(hown.lt k (by simpa[blk]using hk)).1;omega
   clear hown hgrow hnil hat5 hrow hoA hvA hb5 hBA hv5 x0 x1 x2 x3 v0
   go_wp2
   go_ret;rw[HS2.out];exact⟨rfl,hb6,fun _=>⟨_,hv6,ho6⟩⟩
 ·rw[if_neg hC]at HS;have HS2:Hid (S=C):=HS.out;clear HS hfa hat;have hs1:=hb1.size
  go_wp2
  go_ret;rw[HS2.out];exact⟨rfl,hB.mono (by omega),fun h0=>absurd h0 hC⟩
theorem z4X(w:World):Calls Tryz.prog 83 #[] w fun e w'=>e=.returned (.func (.func 119) #[] #[.pointer (some ⟨w.heap.size,0,none⟩)])∧w'=w.alloc (.cells #[.slice none 0 0] 27):=by
 have hmf:∀ (fn:Fn) (first cap:Array Value) (w:World),(Instr.makeFunc fn first cap).run Tryz.prog w=.ok (.func fn first cap) w:=fun _ _ _ _=>rfl
 go_enter Tryz.func83,Tryz.ntmps83
 go_wp2
 go_ret;exact⟨rfl,rfl⟩
theorem z4i(b cap:Nat)(ls:List (Value × List TxnQ))(w:World)(hbs:b<w.heap.size)(hc:∀ (k:Nat) (hk:k<ls.length),w.cell? ⟨b,k,none⟩=some ls[k].1)(hA:∀l∈ls,txnK.At w l.1 l.2)(hl:∀l∈ls,l.2.length+nmL TxnQ.n l.2≤1048576)(h2:ls.length≤2):
  Calls Tryz.prog 50 #[.slice (some ⟨b,0,none⟩) ls.length cap] w fun e w'=>e=.returned (.int .i64 (z72 (ls.map (fun l=>l.2.map TxnQ.e))))∧Below w.heap.size w w':=by
 generalize hE:z72 (ls.map (fun l=>l.2.map TxnQ.e))=E;have HE:Hid (z72 ((ls.map (fun l=>l.2.map TxnQ.e)).drop 0)=E):=hE;clear hE;go_enter Tryz.func50,Tryz.ntmps50
 go_wp2
 go_loopw[11] (fun j wr=>∃k:Nat,k≤ls.length∧j=.int .i64 k∧Below w.heap.size w wr∧Hid (z72 ((ls.map (fun l=>l.2.map TxnQ.e)).drop k)=E)) (fun j _=>ls.length-(intOf j).toNat)
 case atStart=>exact⟨0,Nat.zero_le _,rfl,Below.refl _ _,HE⟩
 case round=>
  clear HE;obtain⟨k,hk,rfl,hb,HE⟩:=hrel;obtain⟨U,rfl⟩:∃U,U=wr:=⟨_,rfl⟩
  by_cases hlt:k<ls.length
  ·have HEk:Hid ((if lstF (ls[k].2.map TxnQ.e)=0 then z72 ((ls.map (fun l=>l.2.map TxnQ.e)).drop (k+1))else lstF (ls[k].2.map TxnQ.e))=E):=show _=_ by
    have:=HE.out;rw[z9N _ k (by simpa using hlt)]at this;simpa using this
   have hck:=(hb.cell (p:=⟨b,k,none⟩) hbs).trans (hc k hlt);have hAk:=(hA _ (List.getElem_mem hlt)).below hb;have hlk:=hl _ (List.getElem_mem hlt);generalize ls[k]=l at*;obtain⟨v,ps⟩:=l;dsimp only at hck hAk hlk HEk;obtain⟨a,cp,rfl⟩:=hAk.shape;clear HE;have hlti:(k:Int)<(ls.length:Int):=by omega
   by_cases h40:40<ps.length
   ·have E1:Hid (E=2):=show _=_ by
     have:=HEk.out;have e2:lstF (ps.map TxnQ.e)=2:=by unfold lstF;rw[List.length_map,if_pos h40]
     rw[e2]at this;exact this.symm
    clear HEk;have h40i:(40:Int)<(ps.length:Int):=by omega
    go_wp2
    go_ret;rw[E1.out];exact⟨rfl,hb⟩
   ·have h40i:¬(40:Int)<(ps.length:Int):=by omega
    have HG0:Hid (z3n (((ps.map TxnQ.e)).take 0) ((ps.map TxnQ.e).drop 0)=lstF (ps.map TxnQ.e)):=show _=_ by unfold lstF;rw[List.length_map,if_neg h40];rfl
    have hfw:=z4X U;have hbY:Below U.heap.size U (U.alloc (.cells #[.slice none 0 0] 27)):=by go_grown
    have hv0:=Blk.new U 27 #[.slice none 0 0];have ho0:=World.ownsRow_nil (U.alloc (.cells #[.slice none 0 0] 27)) (U.heap.size+1) 44 4;have hws:=hb.size
    go_wp2_with fail
    clear hck;refine hfw.mono ?_;rintro e w2 ⟨rfl,rfl⟩;clear hfw;generalize hBX:U.heap.size=bx at*;generalize hY:U.alloc (.cells #[.slice none 0 0] 27)=Y at*;clear hY
    go_wp2
    go_loopw[21] (fun j wy=>∃ (m:Nat) (va:Value),m≤ps.length∧j=.int .i64 m∧Blk wy bx 27 #[va]∧wy.ownsRow (bx+1) 44 4 va (ps.take m).length (txnK.row (ps.take m))∧Below bx U wy∧Hid (z3n ((ps.map TxnQ.e).take m) ((ps.map TxnQ.e).drop m)=lstF (ps.map TxnQ.e))) (fun j _=>ps.length-(intOf j).toNat)
    case atStart=>exact⟨0,_,Nat.zero_le _,rfl,hv0,ho0,hbY,HG0⟩
    case round=>
     clear hv0 ho0 hbY HG0;obtain⟨m,va,hm,rfl,hv,ho,hby,HG⟩:=hrel;by_cases hltm:m<ps.length
     ·have HGm:Hid ((if stpF ((ps.map TxnQ.e).take m) (TxnQ.e ps[m])=0 then z3n ((ps.map TxnQ.e).take (m+1)) ((ps.map TxnQ.e).drop (m+1))else stpF ((ps.map TxnQ.e).take m) (TxnQ.e ps[m]))=lstF (ps.map TxnQ.e)):=show _=_ by
       have:=HG.out;rw[z8Q _ m (by simpa using hltm)]at this;simpa using this
      have hby0:Below U.heap.size U wr:=by rw[hBX];exact hby
      obtain⟨b',off,rfl,hbs',hcm,hrd⟩:=(hAk.below hby0).cell (by decide) m hltm;have hc':∀j x,(txnK.cells ps[m])[j]?=some x→wr.cell? ⟨b',off+m*4+j,none⟩=some x:=hcm;have c0:=hc' 0 (.int .i64 ps[m].i) rfl;have c1:=hc' 1 (.int .i64 ps[m].s) rfl;have c2:=hc' 2 (.int .i64 ps[m].q) rfl;have c3:=hc' 3 (ps[m].va) rfl;rw[Nat.add_zero]at c0;have hzl:=z4b TxnQ.n ps m hltm;have htk:ps.take (m+1)=ps.take m++[ps[m]]:=List.take_succ_eq_append_getElem hltm;have hrdk:∀q∈ps.take m,txnK.rd wr q:=fun q hq=>(hAk.below hby0).rdm (List.mem_of_mem_take hq)
      have hlk:(ps.take m).length≤40:=by rw[List.length_take];omega
      have hst:=z4W ps[m] (ps.take m) bx va;rw[List.map_take,←htk]at hst;clear HG hcm hc' htk;generalize hS:stpF ((ps.map TxnQ.e).take m) (TxnQ.e ps[m])=S at*;clear hS;generalize ps[m]=p at*;obtain⟨i,s,q,va',acts⟩:=p;have hrd':actK.At wr va' acts:=hrd;replace hzl:acts.length≤nmL TxnQ.n ps:=hzl;obtain⟨aa,ac,rfl⟩:=hrd'.shape;dsimp only at c0 c1 c2 c3 hst;have hlti2:(m:Int)<(ps.length:Int):=by omega
      have hbA:Below wr.heap.size wr (wr.alloc (.cells #[.int .i64 i,.int .i64 s,.int .i64 q,.slice aa acts.length ac] 44)):=by go_grown
      have hq:=hst _ (hrd'.below hbA) (by omega) (hv.below hbA) (z0j ho hbA) (fun q hq=>txnK.rd_below (hrdk q hq) hbA) hlk;have hbz:=hby.trans (hbA.mono (by have:=hv.lt;omega));clear hst hbA hv ho hrd' hrd hrdk hby hby0
      go_wp2_with fail
      clear c0 c1 c2 c3;generalize wr.alloc (.cells #[.int .i64 i,.int .i64 s,.int .i64 q,.slice aa acts.length ac] 44)=Z at*;refine hq.mono ?_;rintro e w3 ⟨rfl,hb3,hI⟩;replace hbz:=hbz.trans hb3;clear hq hb3;by_cases hS0:S=0
      ·subst hS0;obtain⟨va2,hv2,ho2⟩:=hI rfl;clear hI;have HG2:Hid (z3n ((ps.map TxnQ.e).take (m+1)) ((ps.map TxnQ.e).drop (m+1))=lstF (ps.map TxnQ.e)):=show _=_ by
        have:=HGm.out;rw[if_pos rfl]at this;exact this
       clear HGm
       go_wp2
       go_roundw
       case rel=>exact⟨m+1,va2,by omega,by go_num,hv2,ho2,hbz,HG2⟩
       case measure=>simp[intOf];omega
      ·have E1:Hid (E=S):=show _=_ by
        have h3:=HGm.out;rw[if_neg hS0]at h3;have h4:=HEk.out;rw[←h3,if_neg hS0]at h4;exact h4.symm
       clear HGm HEk hI
       go_wp2
       go_ret;rw[E1.out];exact⟨rfl,hb.trans (hbz.mono hws)⟩
     ·have h0:lstF (ps.map TxnQ.e)=0:=by rw[←HG.out];exact z73 _ _ (by simpa using Nat.le_of_not_lt hltm)
      have HE2:Hid (z72 ((ls.map (fun l=>l.2.map TxnQ.e)).drop (k+1))=E):=show _=_ by
       have:=HEk.out;rw[if_pos h0]at this;exact this
      have hlti2:¬(m:Int)<(ps.length:Int):=by omega
      have hbf:Below w.heap.size w wr:=hb.trans (hby.mono hws);clear HG HEk hv ho hby
      go_wp2
      go_roundw
      case rel=>exact⟨k+1,by omega,by go_num,hbf,HE2⟩
      case measure=>simp[intOf];omega
  ·have E1:Hid (E=0):=by
    show _=_;rw[←HE.out,List.drop_of_length_le (by simpa using Nat.le_of_not_lt hlt)];rfl
   have hlti:¬(k:Int)<(ls.length:Int):=by omega
   clear HE
   go_wp2
   go_ret;rw[E1.out];exact⟨rfl,hb⟩
theorem z20(v:Value)(ps:List TxnQ)(w:World)(h:txnK.At w v ps)(hl:ps.length+nmL TxnQ.n ps≤1048576):
  Calls Tryz.prog 20 #[v] w fun e w'=>e=.returned (.int .i64 (lstF (ps.map TxnQ.e)))∧Below w.heap.size w w':=by
 have hB:Below w.heap.size w (w.alloc (.cells #[v] 27)):=by go_grown
 have hX:=Blk.new w 27 #[v];have hq:=z4i w.heap.size 1 [(v,ps)] (w.alloc (.cells #[v] 27)) hX.lt (fun k hk=>by
  have h0:k=0:=by simpa using hk
  subst h0;exact hX.cell 0 _ rfl) (fun l hl=>by rw [List.mem_singleton.1 hl];exact h.below hB) (fun l hl=>by rw [List.mem_singleton.1 hl];assumption) (by simp)
 have e0:z72 ([(v,ps)].map (fun l:Value × List TxnQ=>l.2.map TxnQ.e))=lstF (ps.map TxnQ.e):=by
  show(if lstF (ps.map TxnQ.e)=0 then 0 else lstF (ps.map TxnQ.e))=_;split
  ·rename_i h0;exact h0.symm
  ·rfl
 rw[e0]at hq;clear e0;generalize lstF (ps.map TxnQ.e)=E at*;obtain⟨a,cap,rfl⟩:=h.shape;clear hX;go_enter Tryz.func20,Tryz.ntmps20
 go_wp2_with fail
 refine Calls.mono (show Calls Tryz.prog _ #[.slice (some ⟨w.heap.size,0,none⟩) 1 1] _ _ from hq) ?_;rintro e w2 ⟨rfl,hb⟩;replace hB:=hB.trans (hb.mono hB.size)
 go_wp2
 go_ret;exact⟨rfl,hB⟩
theorem rgtb{x:InstE}(h:insF x=0):x.has=false→x.batch=[]:=by
 obtain⟨h0,_⟩:=z1d h;exact(z0V h0).2.2.2.1
theorem batp{p:InstQ}(h:insF (InstQ.e p)=0)(hh:p.has=true):0<p.batch.length:=by
 obtain⟨h0,_⟩:=z1d h;have:=(z0V h0).2.2.2.2 hh;unfold batF at this;by_cases hl:(InstQ.e p).batch.length<1∨4<(InstQ.e p).batch.length
 ·rw[if_pos hl]at this;exact absurd this (by decide)
 ·have h2:(InstQ.e p).batch.length=p.batch.length:=by show(p.batch.map TxnQ.e).length=_;simp
  omega
theorem z9O{ds:List InstE}(k:Nat)(hk:k<ds.length)(h0:insF (ds.getD k z0F)=0)(h:((ds.getD k z0F).has && (ocV (ds.getD k z0F)==1))=true):z2D (ds.take (k+1))=z2D (ds.take k)++(ds.getD k z0F).batch:=by
 rw[z31 ds k hk];rw[Bool.and_eq_true,beq_iff_eq]at h;have hv:=h.2;unfold ocV at hv;rw[if_pos h0]at hv;by_cases h3:outV (ds.getD k z0F).dec=3
 ·rw[if_pos h3]at hv;exact absurd hv (by decide)
 ·rw[if_neg h3]at hv;rw[if_pos hv]
theorem q0s{ds:List InstE}(k:Nat)(hk:k<ds.length)(h0:insF (ds.getD k z0F)=0)(h:((ds.getD k z0F).has && (ocV (ds.getD k z0F)==1))=false):z2D (ds.take (k+1))=z2D (ds.take k):=by
 rw[z31 ds k hk];rw[Bool.and_eq_false_iff]at h;have hb0:=(rgtb h0)
 rcases h with h|h
 ·rw[hb0 h];simp
 ·have hv:¬ocV (ds.getD k z0F)=1:=by simpa using h
  unfold ocV at hv;rw[if_pos h0]at hv;by_cases h3:outV (ds.getD k z0F).dec=3
  ·rw[if_neg (by rw[h3];decide)];simp
  ·rw[if_neg h3]at hv;rw[if_neg hv];simp
theorem z6d(v:Value)(ps:List InstQ)(w:World)(hG:Rul w)(h:instK.At w v ps)(hin:∀p∈ps,insF (InstQ.e p)=0)(h4:ps.length≤4)(hl:(ps.length+nmL InstQ.n ps)≤1048576):
  Calls Tryz.prog 38 #[v] w fun e w'=>∃ (v':Value) (qs:List TxnQ),e=.returned v'∧qs.map TxnQ.e=z2D (ps.map InstQ.e)∧qs.length≤16∧w'.ownsRow w.heap.size 44 4 v' qs.length (txnK.row qs)∧(∀q∈qs,txnK.rd w q)∧Below w.heap.size w w':=by
 obtain⟨a,cap,rfl⟩:=h.shape;obtain⟨i0,hi,hz0,hz1,hz2⟩:=info_parts z1q;have hn1:w.ownsRow w.heap.size 44 4 (.slice none 0 0) ([]:List TxnQ).length (txnK.row []):=World.ownsRow_nil _ _ _ _;have HE0:Hid (([]:List TxnQ).map TxnQ.e=z2D ((ps.map InstQ.e).take 0)):=by show _=_;simp[z2D]
 have HL0:Hid (([]:List TxnQ).length≤4*0):=by show _≤_;simp
 have HR0:Hid (∀q∈([]:List TxnQ),txnK.rd w q):=fun q hq=>by simp at hq
 go_enter Tryz.func38,Tryz.ntmps38
 go_wp2
 go_loopw[3,8] (fun v j wr=>∃ (k:Nat) (qs:List TxnQ),k≤ps.length∧j=.int .i64 k∧Hid (qs.map TxnQ.e=z2D ((ps.map InstQ.e).take k))∧Hid (qs.length≤4*k)∧wr.ownsRow w.heap.size 44 4 v qs.length (txnK.row qs)∧Hid (∀q∈qs,txnK.rd w q)∧Below w.heap.size w wr) (fun _ j _=>ps.length-(intOf j).toNat)
 case atStart=>exact⟨0,[],Nat.zero_le _,rfl,HE0,HL0,hn1,HR0,Below.refl _ _⟩
 case round=>
  clear HE0 HL0 hn1 HR0;obtain⟨k,qs,hk,rfl,HE,HL,hO,HR,hb⟩:=hrel;obtain⟨sa,sc,rfl⟩:=z0l hO;by_cases hlt:k<ps.length
  ·have h0:=hin _ (List.getElem_mem hlt);have hat:=z3Y ps k hlt;have HY:Hid ((ps[k].has && (ocV (InstQ.e ps[k])==1))=true→z2D ((ps.map InstQ.e).take (k+1))=qs.map TxnQ.e++ps[k].batch.map TxnQ.e):=fun hx=>by
    rw[HE.out];have:=z9O (ds:=ps.map InstQ.e) k (by simpa using hlt) (by rw[hat];exact h0) (by rw[hat];exact hx);rw[hat]at this;exact this
   have HN:Hid ((ps[k].has && (ocV (InstQ.e ps[k])==1))=false→z2D ((ps.map InstQ.e).take (k+1))=qs.map TxnQ.e):=fun hx=>by
    rw[HE.out];exact q0s (ds:=ps.map InstQ.e) k (by simpa using hlt) (by rw[hat];exact h0) (by rw[hat];exact hx)
   have hb4:=q04 h0;have HNE:Hid (ps[k].has=true→0<ps[k].batch.length):=fun hx=>batp h0 hx
   have hn:InstQ.n ps[k]≤1048576:=by have:=z4w ps k hlt;omega
   have hoc0:=z10 ps[k];have hoc:=fun w hG h=>hoc0 w hG h hn
   obtain⟨b,off,rfl,hbs,hc,hrd⟩:=h.cell (by decide) k hlt;have hc':∀j x,(instK.cells ps[k])[j]?=some x→w.cell? ⟨b,off+k*4+j,none⟩=some x:=hc;have c0:=z04 (hc' 0 (.bool ps[k].has) rfl) hb;have c1:=z04 (hc' 1 ps[k].vb rfl) hb;have c2:=z04 (hc' 2 ps[k].vr rfl) hb;have c3:=z04 (hc' 3 ps[k].vd rfl) hb;rw[Nat.add_zero]at c0;have hbs':b<wr.heap.size:=Nat.lt_of_lt_of_le hbs hb.size;clear hc hc' hoc0 h0 hat HE;generalize ocC (InstQ.e ps[k])=OC at*;generalize ocV (InstQ.e ps[k])=OV at*;generalize ps[k]=p at*;obtain⟨has,vb,batch,vr,rounds,vd,dec⟩:=p;have hT:txnK.At w vb batch:=hrd.1;obtain⟨ba,bk,rfl⟩:=hT.shape;obtain⟨va,vk,rfl⟩:∃a c,vr=.slice a rounds.length c:=hrd.2.1.shape;obtain⟨da,dk,rfl⟩:∃a c,vd=.slice a dec.length c:=hrd.2.2.shape;dsimp only at c0 c1 c2 c3 hoc HY HN hb4 HNE;have hbY:Below wr.heap.size wr (wr.alloc (.cells #[.bool has,.slice ba batch.length bk,.slice va rounds.length vk,.slice da dec.length dk] 49)):=by go_grown
   have Yb:=Blk.new wr 49 #[.bool has,.slice ba batch.length bk,.slice va rounds.length vk,.slice da dec.length dk];replace hO:=z0j hO hbY;replace hb:=hb.trans (hbY.mono hb.size);have hf1:=z9J OC OV;have HQL:Hid (qs.length≤16):=show _≤_ by have:=HL.out;omega
   cases has with
   |false=>
    have HR2:Hid (qs.map TxnQ.e=z2D ((ps.map InstQ.e).take (k+1))):=show _=_ by rw[HN.out rfl]
    have HL2:Hid (qs.length≤4*(k+1)):=show _≤_ by have:=HL.out;omega
    clear HY HN HNE HL hoc Yb
    go_wp2_with fail
    generalize wr.alloc (.cells #[.bool false,.slice ba batch.length bk,.slice va rounds.length vk,.slice da dec.length dk] 49)=Y at*
    go_wp2
    go_roundw
    case rel=>exact⟨k+1,qs,by omega,by go_num,HR2,HL2,hO,HR,hb⟩
    case measure=>simp[intOf];omega
   |true=>
    have rdY:=instK.rd_below (w':=wr.alloc (.cells #[.bool true,.slice ba batch.length bk,.slice va rounds.length vk,.slice da dec.length dk] 49)) hrd hb
    go_wp2_with fail
    generalize wr.alloc (.cells #[.bool true,.slice ba batch.length bk,.slice va rounds.length vk,.slice da dec.length dk] 49)=Y at*;clear c0 c1 c2 c3 hbY;refine(hoc Y (hG.below hb) rdY).mono ?_;rintro e w2 ⟨rfl,hb2⟩;replace hO:=z0j hO hb2;replace hb:=hb.trans (hb2.mono hb.size);replace Yb:=Yb.below hb2;clear hb2 hoc rdY
    cases hv:(OV==1)with
    |false=>
     have HR2:Hid (qs.map TxnQ.e=z2D ((ps.map InstQ.e).take (k+1))):=show _=_ by rw[HN.out (by rw[hv];rfl)]
     have HL2:Hid (qs.length≤4*(k+1)):=show _≤_ by have:=HL.out;omega
     clear HY HN HNE HL Yb
     go_wp2
     go_roundw
     case rel=>exact⟨k+1,qs,by omega,by go_num,HR2,HL2,hO,HR,hb⟩
     case measure=>simp[intOf];omega
    |true=>
     have HY2:=HY.out (by rw[hv];rfl);have hne:=HNE.out (by simp);have HR2:Hid ((qs++batch).map TxnQ.e=z2D ((ps.map InstQ.e).take (k+1))):=show _=_ by rw[HY2,List.map_append]
     have HL2:Hid ((qs++batch).length≤4*(k+1)):=show _≤_ by have:=HL.out;rw[List.length_append];omega
     have HRR:Hid (∀q∈qs++batch,txnK.rd w q):=fun q hq=>by
      rcases List.mem_append.1 hq with hq|hq
      ·exact HR.out q hq
      ·obtain⟨a9,c9,e9,hL9,hr9⟩:=hT;exact hr9 q hq
     have hT2:=hT.below hb;obtain⟨bb,bo,hba⟩:∃bb bo,ba=some ⟨bb,bo,none⟩:=by
      obtain⟨b9,o9,e9,_⟩:=hT2.cell (by decide) 0 hne;exact⟨b9,o9,e9⟩
     subst hba;have hsrc:∀j u,(txnK.row batch)[j]?=some u→w2.cell? ((⟨bb,bo,none⟩:Addr).add j)=some u:=fun j u hu=>by
      obtain⟨a9,c9,e9,hL9,hr9⟩:=hT2;simp only[Value.slice.injEq]at e9;obtain⟨rfl,_,rfl⟩:=e9;rcases hL9 with h9|⟨b9,o9,ea,_,hc9⟩
      ·rw[h9]at hu;simp at hu
      ·simp only[Option.some.injEq,Addr.mk.injEq,and_true]at ea;obtain⟨rfl,rfl⟩:=ea;rw[Addr.add_lit];exact hc9 j u hu
     have hone:∀u∈txnK.row batch,u.oneCell'=true:=fun u hu=>by
      obtain⟨q,hq,hu⟩:=List.mem_flatMap.1 hu;have hva:∃a c,q.va=.slice a q.acts.length c:=by
       obtain⟨a9,c9,e9,hL9,hr9⟩:=hT;have h9:actK.At w q.va q.acts:=hr9 q hq;exact h9.shape
      obtain⟨a9,c9,e9⟩:=hva;have hu2:u∈[Value.int .i64 q.i,.int .i64 q.s,.int .i64 q.q,q.va]:=hu;simp only[List.mem_cons,List.not_mem_nil,or_false]at hu2;rcases hu2 with rfl|rfl|rfl|rfl
      ·rfl
      ·rfl
      ·rfl
      ·rw[e9];rfl
     have hrl:(txnK.row batch).length=batch.length*4:=Kind.row_length batch;have y1:=Yb.cell 1 _ rfl;clear HY HN HNE HL HR HY2
     go_wp2_with (at_builtin;refine wpList_append_own_at _ rfl _ _ 27 rfl w.heap.size 44 i0 (.agg #[.int .i64 0,.int .i64 0,.int .i64 0,.slice none 0 0]) 4 48 Tryz.underlying27 hi hz0 hz1 hz2 rfl (by decide) _ qs.length (txnK.row qs) rfl hO ⟨bb,bo,none⟩ batch.length bk (txnK.row batch) rfl hrl hsrc hone ?c3 ?c4 ?c5 ?_)
     all_goals try(case c3=>have:=HQL.out;unfold maxLen;omega)
     all_goals try(case c4=>have:=HQL.out;omega)
     all_goals try(case c5=>exact hb.size)
     intro v' w5 hown hgrow hnil hat;have hrow:txnK.row (qs++batch)=txnK.row qs++txnK.row batch:=by simp[Kind.row]
     rw[←hrow,←List.length_append]at hown;have hb5:Below w.heap.size w w5:=hb.grown hgrow hb.size (fun j hj=>(hO.lt j hj).1);clear hnil hat hgrow hrow hO hsrc hone hrl y1 Yb hT2 hb
     go_wp2
     go_roundw
     case rel=>exact⟨k+1,_,by omega,by go_num,HR2,HL2,hown,HRR,hb5⟩
     case measure=>simp[intOf];omega
  ·have hkl:k=ps.length:=by omega
   subst hkl;have hE:=HE.out;rw[List.take_of_length_le (by simp)]at hE;have hL:=HL.out;clear HE
   go_wp2
   go_ret;first|exact⟨_,qs,rfl,hE,by omega,hO,HR.out,hb⟩|exact⟨_,rfl,qs,hE,by omega,hO,HR.out,hb⟩
section
open Go.Maps
theorem q0t:laidOutB Tryz.prog=true:=by kernel_rfl
theorem q0u:(126:TypeId)<Tryz.prog.types.size:=of_decide_eq_true (by kernel_rfl)
theorem z82:(match Tryz.prog.underlying 126 with|some (.array _ _)|some (.struct _)=>true|_=>false)=true:=by kernel_rfl
theorem lawNm:Keyed Tryz.prog 126:=Keyed.of_law (deep_law_laid q0t (m:=2) (by omega) q0u (by kernel_rfl) z82)
theorem q0v:Tryz.prog.keyType 126=true:=by kernel_rfl
theorem szP:∃m,Tryz.prog.types.size+1=m+2:=⟨_,rfl⟩
theorem q0w(i s q:Int)(hi:(Lit.int .i64 i).wf=true)(hs:(Lit.int .i64 s).wf=true)(hq:(Lit.int .i64 q).wf=true):∃l,keyOf Tryz.prog 126 (.agg #[.int .i64 i,.int .i64 s,.int .i64 q])=some l:=by
 obtain⟨m,hm⟩:=szP;have hc:Tryz.prog.cellsOf 126=3:=by kernel_rfl
 have hc1:Tryz.prog.cellsOf 2=1:=by kernel_rfl
 have hf:(Value.agg #[.int .i64 i,.int .i64 s,.int .i64 q]).formed Tryz.prog 126=true:=by
  simp[Value.formed,Tryz.underlying126,hc]
 unfold keyOf;rw[Tryz.underlying126];simp only[q0v,hf,Bool.and_self,if_true,hm];simp[Program.keyLits,Tryz.underlying126,Tryz.underlying2,hc,hc1,Value.cells,hi,hs,hq]
abbrev Nm:=Int × Int × Int
def nmV(x:Nm):Value:=.agg #[.int .i64 x.1,.int .i64 x.2.1,.int .i64 x.2.2]
def nmW(x:Nm):Prop:=(Lit.int .i64 x.1).wf=true∧(Lit.int .i64 x.2.1).wf=true∧(Lit.int .i64 x.2.2).wf=true
noncomputable def kyL (x:Nm):Lit:=(keyOf Tryz.prog 126 (nmV x)).getD (.bool false)
theorem z21{x:Nm}(h:nmW x):keyOf Tryz.prog 126 (nmV x)=some (kyL x):=by
 obtain⟨l,hl⟩:=q0w x.1 x.2.1 x.2.2 h.1 h.2.1 h.2.2;have e:keyOf Tryz.prog 126 (nmV x)=some l:=hl;unfold kyL;rw[e];rfl
theorem z9P{x y:Nm}(hx:nmW x)(hy:nmW y)(h:kyL x=kyL y):x=y:=by
 have e1:=z21 hx;have e2:=z21 hy;rw[←h]at e2;have e:=lawNm.inj e1 e2;obtain⟨a,b,c⟩:=x;obtain⟨a',b',c'⟩:=y;simp[nmV]at e;obtain⟨rfl,rfl,rfl⟩:=e;rfl
def Cnt{H:Type}(D:DataW H)(ns:List Nm):Prop:=IsMap D∧∀x,nmW x→D.atKey (kyL x) (.lit (.int .i64 0))=.lit (.int .i64 (ns.count x))
theorem Cnt.none{H:Type}:Cnt (H:=H) (.map []) []:=⟨⟨[],rfl⟩,fun x _=>rfl⟩
theorem Cnt.put{H:Type}{D:DataW H}{ns:List Nm}(h:Cnt D ns){x:Nm}(hx:nmW x):Cnt (D.put (kyL x) (.lit (.int .i64 ((ns.count x:Int)+1)))) (ns++[x]):=by
 refine⟨h.1.put _ _,fun y hy=>?_⟩;by_cases e:y=x
 ·subst e;rw[atKey_put_same h.1 (lawNm.key (z21 hx))];simp[List.count_append]
 ·rw[atKey_put_other (fun e1=>e (z9P hy hx e1)),h.2 y hy];have:[x].count y=0:=List.count_eq_zero.2 (by simpa using e);simp[List.count_append,this]
def nmA(t:TxnD):Nm:=(t.id,0,0)
def nmB(t:TxnD):Nm:=(0,t.session,t.seq)
def nms(acc:List TxnD):List Nm:=acc.flatMap (fun t=>[nmA t,nmB t])
theorem z8R(acc:List TxnD)(t:TxnD):nms (acc++[t])=nms acc++[nmA t]++[nmB t]:=by
 simp[nms]
theorem z74(acc:List TxnD):(nms acc).length=2*acc.length:=by
 induction acc with
 |nil=>rfl
 |cons a r ih=>
  have:nms (a::r)=nmA a::nmB a::nms r:=rfl;rw[this];simp only[List.length_cons,ih];omega
theorem z6e{acc:List TxnD}{t:TxnD}(ha:∀x∈acc,1≤x.id)(ht:1≤t.id):knw acc t=true↔0<(nms acc).count (nmA t)∨0<(nms acc).count (nmB t):=by
 rw[List.count_pos_iff,List.count_pos_iff];unfold knw nms stF;rw[List.any_eq_true];constructor
 ·rintro⟨x,hx,h⟩;simp only[Bool.or_eq_true,Bool.and_eq_true,beq_iff_eq]at h;rcases h with h|⟨h1,h2⟩
  ·exact Or.inl (List.mem_flatMap.2 ⟨x,hx,by simp[nmA,h]⟩)
  ·exact Or.inr (List.mem_flatMap.2 ⟨x,hx,by simp[nmB,h1,h2]⟩)
 ·rintro(h|h)
  ·obtain⟨x,hx,h⟩:=List.mem_flatMap.1 h;have hx1:=ha x hx;simp only[nmA,nmB,List.mem_cons,Prod.mk.injEq,List.not_mem_nil,or_false]at h;rcases h with h|h
   ·exact⟨x,hx,by simp[h.1]⟩
   ·omega
  ·obtain⟨x,hx,h⟩:=List.mem_flatMap.1 h;have hx1:=ha x hx;simp only[nmA,nmB,List.mem_cons,Prod.mk.injEq,List.not_mem_nil,or_false]at h;rcases h with h|h
   ·omega
   ·exact⟨x,hx,by simp[h.2.1,h.2.2]⟩
end
section
open Go.Maps Go.WideShapes Go.MapKept Go.ChangeMaps Go.ChangeShapes Go.WideElems
theorem z75{H:Type}{P:Program}{w:World}{t k e:TypeId}{R:Value→Option (DataW H × List MemPlace)}{b n:Nat}{D:DataW H}(h:w.ownsMap P k R b n D)(L:Go.WideMaps.KeyLaw P k)
  (ht:P.underlying t=some (.map k e)) {z:Value} (hz:∀u:World,(zeroValue e).run P u=.ok z u) {zd:DataW H} {zp:List MemPlace} (hzd:R z=some (zd,zp)) (hn:n<maxLen)
  {key:Value} {kl:Lit} (hkey:keyOf P k key=some kl):
  ∃ (v0:Value) (st:Nat) (w1:World) (D1:DataW H),(Instr.mapEntry t (.map (some b)) key).run P w=.ok (.tuple #[v0,goInt st]) w1∧w.mapTurned w1 b∧
   w1.ownsMap P k R b (n+1) D1∧D1.atKey kl zd=D.atKey kl zd∧
   ∀ (w2:World) (val:Value) (d:DataW H) (ps:List MemPlace),w2.heap[b]?=w1.heap[b]?→R val=some (d,ps)→
    ∃w3,(Instr.entryStore t (.map (some b)) (goInt st) val).run P w2=.ok () w3∧w3.ownsMap P k R b (n+1) (D.put kl d)∧w2.mapTurned w3 b:=by
 have K:Keyed P k:=Keyed.of_law L;have h0:=h;obtain⟨es,clock,hb,F,hs,hD⟩:=h;obtain⟨v0,st,es1,clock1,hr,hv,hst⟩:=entry_then_store L ht hz hb F hkey;have hsame:(setBlock w b (.map es1 clock1)).heap[b]?=some (.map es1 clock1):=heap_setBlock_same hb _;have hmid:∃D1,(setBlock w b (.map es1 clock1)).ownsMap P k R b (n+1) D1∧D1.atKey kl zd=D.atKey kl zd:=by
  rcases K.find w hkey es.toList F.keys with⟨h1,h2⟩|⟨j,e0,h1,h2,h3⟩
  ·obtain⟨w',hrun,hown,_⟩:=h0.store K ht hn hkey hzd;have e1:(Instr.mapEntry t (.map (some b)) key).run P w=.ok (.tuple #[z,goInt clock]) (setBlock w b (.map (es.push ⟨key,z,clock⟩) (clock+1))):=by
    simp[Instr.mapEntry,run_underlying ht,MapKept.run_getObj_map hb,K.check w false hkey,h1,hz,MapKept.run_setObj_map _ hb,Result.andThen,setBlock]
   have e2:(Instr.mapUpdate t (.map (some b)) key z).run P w=.ok () (setBlock w b (.map (es.push ⟨key,z,clock⟩) (clock+1))):=by
    simp[Instr.mapUpdate,run_underlying ht,MapKept.run_getObj_map hb,K.check w false hkey,h1,MapKept.run_setObj_map _ hb,Result.andThen,setBlock]
   rw[e1]at hr;rw[e2]at hrun;simp only[Result.ok.injEq,true_and]at hrun hr;rw[←hr.2,hrun];refine⟨_,hown,?_⟩;rw[atKey_put_same h0.isMap (K.key hkey)];have hw0:(zeroValue e).run P w=.ok z w:=hz w;rcases fit_look false K ht hw0 hb F hkey with⟨_,_,hat⟩|⟨e0,y,hm0,hk0,_⟩
   ·rw[hD,hat zd]
   ·exact absurd hk0 (h2 e0 hm0)
  ·have hj:es[j]?=some e0:=by simpa using h2
   have hss:es.modify j (fun e=>{e with key:=key})=es:=by
    apply Array.ext';rw[Array.toList_modify,modify_eq_set _ _ _ _ h2];have:({e0 with key:=key}:MapEntry)=e0:=by rw[←h3]
    rw[this];exact set_self _ _ _ h2
   have e1:(Instr.mapEntry t (.map (some b)) key).run P w=.ok (.tuple #[e0.val,goInt e0.born]) (setBlock w b (.map es clock)):=by
    simp[Instr.mapEntry,run_underlying ht,MapKept.run_getObj_map hb,K.check w false hkey,h1,hj,h3,L.stays w hkey,hss,MapKept.run_setObj_map _ hb,Result.andThen,setBlock]
   rw[e1]at hr;simp only[Result.ok.injEq]at hr;rw[←hr.2];exact⟨D,⟨es,clock,heap_setBlock_same hb _,F,by omega,hD⟩,rfl⟩
 obtain⟨D1,hown1,hat1⟩:=hmid;refine⟨v0,st,_,D1,hr,⟨es,clock,es1,clock1,hb,rfl⟩,hown1,hat1,fun w2 val d ps h2 hval=>?_⟩;have h2':=h2.trans hsame;obtain⟨es',clock',hrs,hru⟩:=hst w2 val h2';obtain⟨w',hrun,hown,_⟩:=h0.store K ht hn hkey hval;rw[hru]at hrun;simp only[Result.ok.injEq,true_and]at hrun;refine⟨_,hrs,?_,⟨es1,clock1,es',clock',h2',rfl⟩⟩;rw[←hrun]at hown;obtain⟨esx,cx,hbx,rest⟩:=hown;have e3:(setBlock w b (.map es' clock')).heap[b]?=(setBlock w2 b (.map es' clock')).heap[b]?:=by
  rw[heap_setBlock_same hb,heap_setBlock_same h2']
 exact⟨esx,cx,e3▸hbx,rest⟩
end
section
open Go.Maps
def Cts(w:World)(b:Nat)(ns:List Nm):Prop:=∃D:DataW Unit,w.ownsMap Tryz.prog 126 (plainElem Tryz.prog 2) b ns.length D∧Cnt D ns
theorem q0x:Go.WideMaps.KeyLaw Tryz.prog 126:=deep_law_laid q0t (m:=2) (by omega) q0u (by kernel_rfl) z82
theorem z76(u:World):(zeroValue 2).run Tryz.prog u=.ok (.int .i64 0) u:=by
 kernel_rfl
theorem Cts.made(w:World):Cts (w.alloc (.map #[] 0)) w.heap.size []:=⟨_,World.ownsMap_made w _ _ _,Cnt.none⟩
theorem Cts.lt{w:World}{b:Nat}{ns:List Nm}(h:Cts w b ns):b<w.heap.size:=by
 obtain⟨D,h,_⟩:=h;exact h.lt
theorem Cts.kept{w w':World}{b:Nat}{ns:List Nm}{row:Option Nat}(h:Cts w b ns)(hg:w.grownBy w' row)(hne:some b≠row):Cts w' b ns:=by
 obtain⟨D,h,hc⟩:=h;exact⟨D,h.kept hg hne,hc⟩
theorem Cts.look{w:World}{b:Nat}{ns:List Nm}(h:Cts w b ns){x:Nm}(hx:nmW x):(Instr.lookup 124 (.map (some b)) (nmV x) false).run Tryz.prog w=.ok (.int .i64 (ns.count x)) w:=by
 obtain⟨D,h,hc⟩:=h;obtain⟨c,hr,hat,_⟩:=h.lookup_int lawNm Tryz.underlying124 Tryz.underlying2 (z76 w) (z21 hx);rw[hc.2 x hx]at hat;simp only[DataW.lit.injEq,Lit.int.injEq,true_and]at hat;rw[hr,hat]
theorem Cts.inc{w:World}{b:Nat}{ns:List Nm}(h:Cts w b ns){x:Nm}(hx:nmW x)(hl:ns.length<1000):
  ∃ (v0:Value) (st:Nat) (w1 w3:World),(Instr.mapEntry 124 (.map (some b)) (nmV x)).run Tryz.prog w=.ok (.tuple #[v0,.int .i64 st]) w1∧
   (Instr.lookup 124 (.map (some b)) (nmV x) false).run Tryz.prog w1=.ok (.int .i64 (ns.count x)) w1∧
   (Instr.entryStore 124 (.map (some b)) (.int .i64 st) (.int .i64 ((ns.count x:Int)+1))).run Tryz.prog w1=.ok () w3∧w.mapTurned w1 b∧w.mapTurned w3 b∧Cts w3 b (ns++[x]):=by
 obtain⟨D,h,hc⟩:=h;have hle:ns.count x≤ns.length:=List.count_le_length;have w0:(Lit.int .i64 0).wf=true:=by decide
 have wc:(Lit.int .i64 ((ns.count x:Int)+1)).wf=true:=WalkArith.wf_i64 (by omega);obtain⟨v0,st,w1,D1,hr,ht1,ho1,hat1,hst⟩:=z75 h q0x Tryz.underlying124 z76 (plainElem_int Tryz.underlying2 w0) (by unfold maxLen;omega) (z21 hx);obtain⟨w3,hr3,ho3,ht3⟩:=hst w1 _ _ _ rfl (plainElem_int Tryz.underlying2 wc);obtain⟨c,hrl,hat,_⟩:=ho1.lookup_int lawNm Tryz.underlying124 Tryz.underlying2 (z76 w1) (z21 hx);rw[hat1,hc.2 x hx]at hat;simp only[DataW.lit.injEq,Lit.int.injEq,true_and]at hat;refine⟨v0,st,w1,w3,hr,by rw[hrl,hat],hr3,ht1,ht1.trans ht3,⟨_,?_,hc.put hx⟩⟩;rw[List.length_append];exact ho3
end
end Go.Proofs.YtfpponhjhbfbeaaGreatDoor
