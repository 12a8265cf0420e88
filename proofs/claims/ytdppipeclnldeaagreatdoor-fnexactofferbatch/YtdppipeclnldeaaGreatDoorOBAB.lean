import Derived.Test.YtdppipeclnldeaaGreatDoorOBAA
set_option linter.unusedVariables false
set_option linter.unusedSimpArgs false
set_option maxRecDepth 100000
namespace Go.Proofs.YtdppipeclnldeaaGreatDoor
open Go.RowKit Go.BigFrame
open List renaming mem_append_right->T,getElem_mem->U
open IntKind renaming i64->I
open Value renaming int->V,slice->S
structure Out (F:List Nat) (w w':World):Prop where
 os:w'.os=w.os
 tape:w'.tape=w.tape
 output:w'.output=w.output
 size:w.heap.size≤w'.heap.size
 block:∀k,k<w.heap.size→k∉F→w'.heap[k]?=w.heap[k]?
theorem Out.refl(F:List Nat)(w:World):Out F w w:=⟨rfl,rfl,rfl,Nat.le_refl _,fun _ _ _=>rfl⟩
theorem Out.trans{F:List Nat}{a b c:World}(h:Out F a b)(k:Out F b c):Out F a c:=
 ⟨k.os.trans h.os,k.tape.trans h.tape,k.output.trans h.output,Nat.le_trans h.size k.size,fun i hi hn=>(k.block i (Nat.lt_of_lt_of_le hi h.size) hn).trans (h.block i hi hn)⟩
theorem Out.mono{F G:List Nat}{w w':World}(h:Out F w w')(hF:∀k∈F,k∈G):Out G w w':=⟨h.os,h.tape,h.output,h.size,fun k hk hn=>h.block k hk (fun e=>hn (hF k e))⟩
theorem Out.of_below{F:List Nat}{w w':World}(h:Below w.heap.size w w'):Out F w w':=⟨h.os,h.tape,h.output,h.size,fun k hk _=>h.block k hk⟩
theorem Out.of_grown{w w':World}{row:Option Nat}(h:w.grownBy w' row):Out row.toList w w':=⟨h.os,h.tape,h.output,h.size,fun k hk hn=>h.block k hk (fun e=>hn (by rw[←e];simp))⟩
theorem Out.setCell(w:World)(g j:Nat)(u:Value):Out [g] w (w.setCell ⟨g,j,none⟩ u):=⟨rfl,rfl,rfl,by simp,fun k _ hn=>Below.heap_setCell w _ _ k (by simpa using hn)⟩
theorem Out.keep{B:Nat}{F:List Nat}{a w w':World}(h:Below B a w)(ho:Out F w w')(hB:B≤w.heap.size)(hF:∀k∈F,B≤k):Below B a w':=
 ⟨ho.os.trans h.os,ho.tape.trans h.tape,ho.output.trans h.output,Nat.le_trans h.size ho.size,fun k hk=>(ho.block k (by omega) (fun e=>by have:=hF k e;omega)).trans (h.block k hk)⟩
def blk(v:Value):List Nat:=v.ownBlock.toList
theorem z0X{w w':World}{base e s n:Nat}{v:Value}{xs:List Value}{F:List Nat}(h:w.ownsRow base e s v n xs)(ho:Out F w w')(hd:∀k∈blk v,k∉F):w'.ownsRow base e s v n xs:=by
 refine⟨h.1,?_⟩;rcases h.2 with h2|⟨g,cap,cur,hv,hg,hh,r⟩
 ·exact Or.inl h2
 ·refine Or.inr ⟨g,cap,cur,hv,hg,?_,r⟩;rw[ho.block g (Array.getElem?_eq_some_iff.1 hh).1 (hd g (by rw[hv];simp[blk,Value.ownBlock]))];exact hh
structure Kind (P:Type) where
 ty:Nat
 size:Nat
 cells:P→List Value
 own:World→P→Prop
 rd:World→P→Prop
 foot:P→List Nat
 len:∀p,(cells p).length=size
 own_rd:∀ {w p},own w p→rd w p
 own_out:∀ {w w' p F},own w p→Out F w w'→(∀k∈foot p,k∉F)→own w' p
 own_lt:∀ {w p},own w p→∀k∈foot p,k<w.heap.size
 rd_below:∀ {w w' p},rd w p→Below w.heap.size w w'→rd w' p
section
variable {P:Type} (K:Kind P)
def Kind.row(ps:List P):List Value:=ps.flatMap K.cells
def Kind.At(w:World)(v:Value)(ps:List P):Prop:=∃a cap,v=S a ps.length cap∧Lies w a (K.row ps)∧∀p∈ps,K.rd w p
def Kind.Own(w:World)(v:Value)(ps:List P):Prop:=w.ownsRow 0 K.ty K.size v ps.length (K.row ps)∧∀p∈ps,K.own w p
def Kind.fp(v:Value)(ps:List P):List Nat:=blk v++ps.flatMap K.foot
end
section
variable {P:Type} {K:Kind P} {w w':World} {v:Value} {ps:List P}
theorem Kind.row_length(ps:List P):(K.row ps).length=ps.length*K.size:=by
 induction ps with
 |nil=>simp[Kind.row]
 |cons p r ih=>
  simp only[Kind.row,List.flatMap_cons,List.length_append,K.len,List.length_cons]at ih⊢;rw[ih,Nat.add_mul];omega
theorem Kind.row_get(ps:List P)(i:Nat)(hi:i<ps.length)(j:Nat)(hj:j<K.size):(K.row ps)[i*K.size+j]?=(K.cells ps[i])[j]?:=by
 induction ps generalizing i with
 |nil=>simp at hi
 |cons p r ih=>
  simp only[Kind.row,List.flatMap_cons]
  cases i with
  |zero=>
   rw[List.getElem?_append_left (by rw[K.len];omega)];simp
  |succ i=>
   rw[List.getElem?_append_right (by rw[K.len,Nat.add_mul];omega),K.len];have:=ih i (by simpa using hi);simp only[Kind.row]at this;rw[show(i+1)*K.size+j-K.size=i*K.size+j by rw[Nat.add_mul];omega,this];simp
theorem Kind.Own.at(h:K.Own w v ps):K.At w v ps:=by
 obtain⟨a,c,rfl⟩:=z0f h.1;exact⟨a,c,rfl,Lies.own h.1,fun p hp=>K.own_rd (h.2 p hp)⟩
theorem Kind.At.below(h:K.At w v ps)(hb:Below w.heap.size w w'):K.At w' v ps:=by
 obtain⟨a,c,e,hl,hr⟩:=h;exact⟨a,c,e,hl.below hb,fun p hp=>K.rd_below (hr p hp) hb⟩
theorem Kind.At.shape(h:K.At w v ps):∃a cap,v=S a ps.length cap:=by
 obtain⟨a,c,e,_⟩:=h;exact⟨a,c,e⟩
theorem Kind.Own.shape(h:K.Own w v ps):∃a cap,v=S a ps.length cap:=z0f h.1
theorem Kind.Own.out{F:List Nat}(h:K.Own w v ps)(ho:Out F w w')(hd:∀k∈K.fp v ps,k∉F):K.Own w' v ps:=by
 refine⟨z0X h.1 ho (fun k hk=>hd k (by simp[Kind.fp,hk])),fun p hp=>K.own_out (h.2 p hp) ho (fun k hk=>hd k ?_)⟩;simp only[Kind.fp,List.mem_append,List.mem_flatMap];exact Or.inr ⟨p,hp,hk⟩
theorem Kind.Own.below(h:K.Own w v ps)(hb:Below w.heap.size w w'):K.Own w' v ps:=h.out (Out.of_below (F:=[]) hb) (fun _ _=>by simp)
theorem Kind.Own.lt(h:K.Own w v ps):∀k∈K.fp v ps,k<w.heap.size:=by
 intro k hk;simp only[Kind.fp,List.mem_append,List.mem_flatMap]at hk;rcases hk with hk|⟨p,hp,hk⟩
 ·exact(h.1.lt k (by simpa[blk]using hk)).2
 ·exact K.own_lt (h.2 p hp) k hk
theorem Kind.At.cell{a:Option Addr}{n cap:Nat}(h:K.At w (S a n cap) ps)(hs:0<K.size)(i:Nat)(hi:i<ps.length):
  ∃b off,a=some ⟨b,off,none⟩∧b<w.heap.size∧(∀j x,(K.cells ps[i])[j]?=some x→w.cell? ⟨b,off+i*K.size+j,none⟩=some x)∧K.rd w ps[i]:=by
 obtain⟨a',c,e,hl,hr⟩:=h;simp only[Value.slice.injEq]at e;obtain⟨rfl,_,_⟩:=e;rcases hl with h0|⟨b,off,ha,hlt,hc⟩
 ·have:=Kind.row_length (K:=K) ps;rw[h0]at this;simp only[List.length_nil]at this;have h1:1*K.size≤ps.length*K.size:=Nat.mul_le_mul_right _ (by omega);omega
 ·refine⟨b,off,ha,hlt,fun j x hx=>?_,hr _ (U hi)⟩;have hj:j<K.size:=by rw[←K.len ps[i]];exact(List.getElem?_eq_some_iff.1 hx).1
  rw[show off+i*K.size+j=off+(i*K.size+j) by omega];exact hc _ _ (by rw[Kind.row_get ps i hi j hj];exact hx)
theorem Kind.Own.blkOf{a:Option Addr}{n cap:Nat}(h:K.Own w (S a n cap) ps)(hn:0<ps.length):∃g,a=some ⟨g,0,none⟩:=by
 rcases h.1.2 with⟨he,h0⟩|⟨g,cap,cur,he,r⟩
 ·omega
 ·simp only[Value.slice.injEq]at he;exact⟨g,he.1⟩
theorem Kind.Own.cell{g n cap:Nat}(h:K.Own w (S (some ⟨g,0,none⟩) n cap) ps)(i:Nat)(hi:i<ps.length)(j:Nat)(x:Value)(hx:(K.cells ps[i])[j]?=some x):w.cell? ⟨g,i*K.size+j,none⟩=some x∧w.frozen? ⟨g,i*K.size+j,none⟩=false:=by
 obtain⟨a',c,e⟩:=h.shape;simp only[Value.slice.injEq]at e;obtain⟨_,rfl,_⟩:=e;have hj:j<K.size:=by rw[←K.len ps[i]];exact(List.getElem?_eq_some_iff.1 hx).1
 have hlt:i*K.size+j<ps.length*K.size:=by
  have:(i+1)*K.size≤ps.length*K.size:=Nat.mul_le_mul_right _ (by omega);rw[Nat.add_mul]at this;omega
 exact⟨by rw[h.1.cellAt _ hlt,Kind.row_get ps i hi j hj];exact hx,h.1.frozenAt _⟩
def z1k(xs:List Value)(o:Nat):List Value→List Value
 |[]=>xs
 |y::ys=>z1k (xs.set o y) (o+1) ys
theorem z12(xs:List Value)(o:Nat)(ys:List Value):(z1k xs o ys).length=xs.length:=by
 induction ys generalizing xs o with
 |nil=>rfl
 |cons y ys ih=>simp[z1k,ih]
theorem z3B(xs:List Value)(o:Nat)(ys:List Value)(j:Nat)(hj:j<xs.length):(z1k xs o ys)[j]?=if o≤j∧j<o+ys.length then ys[j-o]? else xs[j]?:=by
 induction ys generalizing xs o with
 |nil=>
  rw[if_neg (by simp only[List.length_nil];omega)];rfl
 |cons y ys ih=>
  rw[z1k,ih (xs.set o y) (o+1) (by simpa using hj)];by_cases h1:o+1≤j∧j<o+1+ys.length
  ·rw[if_pos h1,if_pos (by simp;omega),show j-o=(j-(o+1))+1 by omega];simp
  ·rw[if_neg h1,List.getElem?_set];by_cases h2:o=j
   ·subst h2;rw[if_pos rfl,if_pos hj,if_pos (by simp)];simp
   ·rw[if_neg h2,if_neg (by simp;omega)]
theorem Kind.row_put(ps:List P)(i:Nat)(hi:i<ps.length)(p:P):z1k (K.row ps) (i*K.size) (K.cells p)=K.row (ps.set i p):=by
 have hl:=Kind.row_length (K:=K) ps;have hl2:=Kind.row_length (K:=K) (ps.set i p);rw[List.length_set]at hl2;have hi2:(i+1)*K.size≤ps.length*K.size:=Nat.mul_le_mul_right _ (by omega);rw[Nat.add_mul,Nat.one_mul]at hi2;apply List.ext_getElem?;intro j;by_cases hj:j<ps.length*K.size
 ·rw[z3B _ _ _ _ (by omega),K.len];have hs:0<K.size:=by
   rcases Nat.eq_zero_or_pos K.size with h0|h0
   ·rw[h0]at hj;simp at hj
   ·exact h0
  have hd:=Nat.div_add_mod j K.size;have hm:=Nat.mod_lt j hs;have hq:j / K.size<ps.length:=Nat.div_lt_of_lt_mul (by rw[Nat.mul_comm];exact hj);have e:j=j / K.size*K.size+j % K.size:=by rw[Nat.mul_comm];exact hd.symm
  have e2:=Kind.row_get (K:=K) (ps.set i p) (j / K.size) (by simpa using hq) (j % K.size) hm;rw[←e]at e2;have e3:=Kind.row_get (K:=K) ps (j / K.size) hq (j % K.size) hm;rw[←e]at e3;rw[e2,e3];by_cases hk:j / K.size=i
  ·subst hk;rw[if_pos (by omega)];simp only[List.getElem_set_self]
   congr 1
   omega
  ·have hne:¬(i*K.size≤j∧j<i*K.size+K.size):=by
    rintro⟨h1,h2⟩;apply hk;exact Nat.div_eq_of_lt_le (by omega) (by rw[Nat.add_mul];omega)
   rw[if_neg hne,List.getElem_set_ne (Ne.symm hk)]
 ·rw[List.getElem?_eq_none (by rw[z12];omega),List.getElem?_eq_none (by omega)]
theorem Kind.row_store(ps:List P)(i:Nat)(hi:i<ps.length)(p:P)(j:Nat)(u:Value)(hc:K.cells p=(K.cells ps[i]).set j u)(hj:j<K.size):(K.row ps).set (i*K.size+j) u=K.row (ps.set i p):=by
 rw[←Kind.row_put ps i hi p,hc];have hl:=Kind.row_length (K:=K) ps;have hi2:(i+1)*K.size≤ps.length*K.size:=Nat.mul_le_mul_right _ (by omega);rw[Nat.add_mul,Nat.one_mul]at hi2;apply List.ext_getElem?;intro k;by_cases hk:k<ps.length*K.size
 ·rw[z3B _ _ _ _ (by omega),List.length_set,K.len,List.getElem?_set];by_cases h1:i*K.size+j=k
  ·subst h1;rw[if_pos rfl,if_pos (by omega),if_pos (by omega),List.getElem?_set,if_pos (by omega),if_pos (by rw[K.len];omega)]
  ·rw[if_neg h1];by_cases h2:i*K.size≤k∧k<i*K.size+K.size
   ·rw[if_pos h2,List.getElem?_set,if_neg (by omega)];have:=Kind.row_get (K:=K) ps i hi (k-i*K.size) (by omega);rw[show i*K.size+(k-i*K.size)=k by omega]at this;exact this
   ·rw[if_neg h2]
 ·rw[List.getElem?_eq_none (by simp;omega),List.getElem?_eq_none (by rw[z12];omega)]
theorem q3P(ps:List P)(i:Nat)(hi:i<ps.length)(p:P)(hf:K.foot p=K.foot ps[i]):(ps.set i p).flatMap K.foot=ps.flatMap K.foot:=by
 induction ps generalizing i with
 |nil=>simp at hi
 |cons q r ih=>
  cases i with
  |zero=>simp only[List.set_cons_zero,List.flatMap_cons,hf,List.getElem_cons_zero]
  |succ i=>simp only[List.set_cons_succ,List.flatMap_cons,ih i (by simpa using hi) (by simpa using hf)]
theorem Kind.fp_set(v:Value)(ps:List P)(i:Nat)(hi:i<ps.length)(p:P)(hf:K.foot p=K.foot ps[i]):K.fp v (ps.set i p)=K.fp v ps:=by
 simp only[Kind.fp,q3P ps i hi p hf]
theorem q06{ps:List P}(h:(ps.flatMap K.foot).Nodup)(i:Nat)(hi:i<ps.length)(j:Nat)(hj:j<ps.length)(hne:i≠j):∀k∈K.foot ps[j],k∉K.foot ps[i]:=by
 induction ps generalizing i j with
 |nil=>simp at hi
 |cons p r ih=>
  rw[List.flatMap_cons,List.nodup_append]at h;obtain⟨_,h2,h3⟩:=h;intro k hk hk2
  cases i with
  |zero=>
   cases j with
   |zero=>exact hne rfl
   |succ j=>
    simp only[List.getElem_cons_succ,List.getElem_cons_zero]at hk hk2;exact h3 k hk2 k (List.mem_flatMap.2 ⟨_,U (by simpa using hj),hk⟩) rfl
  |succ i=>
   cases j with
   |zero=>
    simp only[List.getElem_cons_succ,List.getElem_cons_zero]at hk hk2;exact h3 k hk k (List.mem_flatMap.2 ⟨_,U (by simpa using hi),hk2⟩) rfl
   |succ j=>
    simp only[List.getElem_cons_succ]at hk hk2;exact ih h2 i (by simpa using hi) j (by simpa using hj) (by omega) k hk hk2
theorem Kind.Own.store{g n cap:Nat}(h:K.Own w (S (some ⟨g,0,none⟩) n cap) ps)(hnd:(K.fp (S (some ⟨g,0,none⟩) n cap) ps).Nodup)(i:Nat)(hi:i<ps.length)(p:P)(j:Nat)(u:Value)(hj:j<K.size)
  (hc:K.cells p=(K.cells ps[i]).set j u) (hf:K.foot p=K.foot ps[i]) (hown:∀w',K.own w' ps[i]→K.own w' p):
  K.Own (w.setCell ⟨g,i*K.size+j,none⟩ u) (S (some ⟨g,0,none⟩) n cap) (ps.set i p)∧K.fp (S (some ⟨g,0,none⟩) n cap) (ps.set i p)=K.fp (S (some ⟨g,0,none⟩) n cap) ps:=by
 obtain⟨a',c,e⟩:=h.shape;simp only[Value.slice.injEq]at e;obtain⟨_,rfl,_⟩:=e;refine⟨⟨?_,?_⟩,Kind.fp_set _ ps i hi p hf⟩
 ·have h1:=(h.1.stored (i*K.size+j) u).1;rw[Kind.row_store ps i hi p j u hc hj]at h1;rw[List.length_set];exact h1
 ·have hg:∀q∈ps,∀k∈K.foot q,k∉[g]:=by
   intro q hq k hk;simp only[Kind.fp,blk,Value.ownBlock,Option.toList,List.cons_append,List.nil_append,List.nodup_cons]at hnd;simp only[List.mem_singleton];rintro rfl;exact hnd.1 (List.mem_flatMap.2 ⟨q,hq,hk⟩)
  have hall:∀q∈ps,K.own (w.setCell ⟨g,i*K.size+j,none⟩ u) q:=fun q hq=>K.own_out (h.2 q hq) (Out.setCell w g _ u) (hg q hq)
  intro q hq;rcases List.mem_or_eq_of_mem_set hq with hq|rfl
  ·exact hall q hq
  ·exact hown _ (hall _ (U hi))
theorem Kind.Own.turn(h:K.Own w v ps)(z:(K.fp v ps).Nodup)(i:Nat)(hi:i<ps.length)(p:P){F:List Nat}(ho:Out F w w')(hF:∀k∈F,k∈K.foot ps[i])
  (hc:K.cells p=K.cells ps[i]) (hf:K.foot p=K.foot ps[i]) (y:K.own w' p):K.Own w' v (ps.set i p)∧K.fp v (ps.set i p)=K.fp v ps:=by
 have c:=z;simp only[Kind.fp]at c;rw[List.nodup_append]at c;refine⟨⟨?_,?_⟩,Kind.fp_set _ ps i hi p hf⟩
 ·have e:K.row (ps.set i p)=K.row ps:=by
   rw[←Kind.row_put ps i hi p,hc,Kind.row_put ps i hi ps[i],List.set_getElem_self]
  rw[e,List.length_set];refine z0X h.1 ho (fun k hk x=>?_);exact c.2.2 k hk k (List.mem_flatMap.2 ⟨ps[i],U hi,hF k x⟩) rfl
 ·intro q hq;obtain⟨j,hj,rfl⟩:=List.getElem_of_mem hq;rw[List.length_set]at hj;by_cases d:i=j
  ·subst d;rw[List.getElem_set_self];exact y
  ·rw[List.getElem_set_ne d];exact K.own_out (h.2 _ (U hj)) ho (fun k hk x=>q06 c.2.1 i hi j hj d k hk (hF k x))
theorem Kind.Own.put{g n cap:Nat}(h:K.Own w (S (some ⟨g,0,none⟩) n cap) ps)(i:Nat)(hi:i<ps.length)(p:P)(hrow:w'.ownsRow 0 K.ty K.size (S (some ⟨g,0,none⟩) n cap) ps.length (z1k (K.row ps) (i*K.size) (K.cells p)))
  (ho:Out [g] w w') (hg:∀q∈ps,∀k∈K.foot q,k≠g) (hown:K.own w p) (hp:∀k∈K.foot p,k≠g):K.Own w' (S (some ⟨g,0,none⟩) n cap) (ps.set i p):=by
 rw[Kind.row_put ps i hi p]at hrow;refine⟨by rw[List.length_set];exact hrow,fun q hq=>?_⟩;rcases List.mem_or_eq_of_mem_set hq with hq|rfl
 ·exact K.own_out (h.2 q hq) ho (fun k hk=>by simpa using hg q hq k hk)
 ·exact K.own_out hown ho (fun k hk=>by simpa using hp k hk)
def mkL(mk:Int→P→P)(nm:P→Nat):Int→List P→List P
 |_,[]=>[]
 |c,p::r=>mk c p::mkL mk nm (c+nm p) r
def nmL(nm:P→Nat)(ps:List P):Nat:=(ps.map nm).sum
theorem z0U(mk:Int→P→P)(nm:P→Nat)(c:Int)(ps:List P):(mkL mk nm c ps).length=ps.length:=by
 induction ps generalizing c with
 |nil=>rfl
 |cons p r ih=>simp[mkL,ih]
theorem z0S(nm:P→Nat)(ps:List P)(k:Nat)(h:k<ps.length):nmL nm (ps.take (k+1))=nmL nm (ps.take k)+nm ps[k]:=by
 rw[List.take_succ_eq_append_getElem h];simp only[nmL,List.map_append,List.map_cons,List.map_nil,List.sum_append,List.sum_cons,List.sum_nil,Nat.add_zero]
theorem z2w(nm:P→Nat)(ps:List P)(k:Nat):nmL nm (ps.take k)≤nmL nm ps:=by
 have e:nmL nm ps=nmL nm (ps.take k)+nmL nm (ps.drop k):=by
  conv=>lhs;rw[←List.take_append_drop k ps]
  simp only[nmL,List.map_append,List.sum_append]
 omega
theorem z4n(mk:Int→P→P)(nm:P→Nat)(c:Int)(ps:List P)(k:Nat)(h:k<ps.length):(mkL mk nm c ps)[k]'(by rw[z0U];exact h)=mk (c+nmL nm (ps.take k)) ps[k]:=by
 induction ps generalizing c k with
 |nil=>simp at h
 |cons p r ih=>
  cases k with
  |zero=>simp[mkL,nmL]
  |succ k=>
   simp only[mkL,List.getElem_cons_succ,List.take_succ_cons];rw[ih (c+nm p) k (by simpa using h)]
   congr 1
   simp only[nmL,List.map_cons,List.sum_cons];omega
def half(mk:Int→P→P)(nm:P→Nat)(c:Int)(ps:List P)(k:Nat):List P:=(mkL mk nm c ps).take k++ps.drop k
theorem z2E(mk:Int→P→P)(nm:P→Nat)(c:Int)(ps:List P):half mk nm c ps 0=ps:=by simp[half]
theorem z3N(mk:Int→P→P)(nm:P→Nat)(c:Int)(ps:List P):half mk nm c ps ps.length=mkL mk nm c ps:=by
 have:=z0U mk nm c ps;simp[half,List.take_of_length_le (show(mkL mk nm c ps).length≤ps.length by omega)]
theorem z1y(mk:Int→P→P)(nm:P→Nat)(c:Int)(ps:List P)(k:Nat)(hk:k≤ps.length):(half mk nm c ps k).length=ps.length:=by
 have:=z0U mk nm c ps;simp[half];omega
theorem z3O(mk:Int→P→P)(nm:P→Nat)(c:Int)(ps:List P)(k:Nat)(hk:k<ps.length):(half mk nm c ps k)[k]'(by rw[z1y _ _ _ _ _ (by omega)];exact hk)=ps[k]:=by
 have:=z0U mk nm c ps;simp only[half];rw[List.getElem_append_right (by simp;omega)];simp only[List.length_take,this,List.getElem_drop]
 congr 1
 omega
theorem z3P(mk:Int→P→P)(nm:P→Nat)(c:Int)(ps:List P)(k:Nat)(hk:k<ps.length):(half mk nm c ps k).set k (mk (c+nmL nm (ps.take k)) ps[k])=half mk nm c ps (k+1):=by
 have hm:=z0U mk nm c ps;rw[←z4n mk nm c ps k hk];simp only[half];rw[List.set_append_right _ _ (by simp;omega),show k-((mkL mk nm c ps).take k).length=0 by simp;omega,List.drop_eq_getElem_cons hk,List.set_cons_zero,List.take_succ_eq_append_getElem (show k<(mkL mk nm c ps).length by omega),List.append_assoc];rfl
end
section
variable {P:Type} {K:Kind P} {w w':World} {v:Value} {ps:List P}
theorem z3Q(z:P)(n:Nat)(hs:0<K.size):(madeCells (K.cells z).toArray (n*K.size)).toList=K.row (List.replicate n z):=by
 have hl:=Kind.row_length (K:=K) (List.replicate n z);rw[List.length_replicate]at hl;apply List.ext_getElem?;intro j;by_cases hj:j<n*K.size
 ·have hm:=Nat.mod_lt j hs;have hq:j / K.size<n:=Nat.div_lt_of_lt_mul (by rw[Nat.mul_comm];exact hj);have e:j=j / K.size*K.size+j % K.size:=by rw[Nat.mul_comm];exact(Nat.div_add_mod j K.size).symm
  have e2:=Kind.row_get (K:=K) (List.replicate n z) (j / K.size) (by simpa using hq) (j % K.size) hm;rw[←e]at e2;rw[e2];have hz:(K.cells z).length=K.size:=K.len z;simp only[madeCells,Array.toList_map,Array.toList_range,List.getElem?_map,List.getElem?_range hj,Option.map_some,List.size_toArray,hz,List.getElem_replicate];rw[List.getElem!_toArray,List.getElem?_eq_getElem (by omega),getElem!_pos (K.cells z) (j % K.size) (by omega)]
 ·rw[List.getElem?_eq_none (by simp[size_madeCells];omega),List.getElem?_eq_none (by omega)]
theorem z8d{z:P}{n g cap:Nat}(hz:K.foot z=[]):K.fp (S (some ⟨g,0,none⟩) n cap) (List.replicate n z)=[g]:=by
 have:(List.replicate n z).flatMap K.foot=[]:=by
  rw[List.flatMap_eq_nil_iff];intro x hx;rw[(List.mem_replicate.1 hx).2,hz]
 simp[Kind.fp,blk,Value.ownBlock,this]
theorem z5y(ps:List P)(i:Nat)(hi:i<ps.length)(p:P):ps.set i p=ps.take i++p::ps.drop (i+1):=by
 rw[List.set_eq_take_append_cons_drop,if_pos hi]
theorem z1a{ps:List P}{i:Nat}(hi:i<ps.length){p:P}{k:Nat}(h:k∈(ps.set i p).flatMap K.foot):k∈ps.flatMap K.foot∨k∈K.foot p:=by
 obtain⟨q,hq,hk⟩:=List.mem_flatMap.1 h;rcases List.mem_or_eq_of_mem_set hq with hq|rfl
 ·exact Or.inl (List.mem_flatMap.2 ⟨q,hq,hk⟩)
 ·exact Or.inr hk
theorem z2F{ps:List P}(h:(K.fp v ps).Nodup)(i:Nat)(hi:i<ps.length)(p:P)(h0:K.foot ps[i]=[])(hp:(K.foot p).Nodup)(hd:∀k∈K.foot p,k∉K.fp v ps):(K.fp v (ps.set i p)).Nodup:=by
 have e:ps=ps.take i++ps[i]::ps.drop (i+1):=by
  conv=>lhs;rw[←List.take_append_drop i ps,List.drop_eq_getElem_cons hi]
 have hA:K.fp v ps=blk v++((ps.take i).flatMap K.foot++(ps.drop (i+1)).flatMap K.foot):=by
  conv=>lhs;rw[e]
  simp only[Kind.fp,List.flatMap_append,List.flatMap_cons,h0,List.nil_append]
 rw[hA]at h hd;simp only[Kind.fp];rw[z5y ps i hi p];simp only[List.flatMap_append,List.flatMap_cons];generalize blk v=A at*;generalize (ps.take i).flatMap K.foot=B at*;generalize (ps.drop (i+1)).flatMap K.foot=C at*;generalize K.foot p=D at*;simp only[List.nodup_append,List.mem_append]at h hd⊢;obtain⟨hA1,⟨hB1,hC1,hBC⟩,hABC⟩:=h;refine⟨hA1,⟨hB1,⟨hp,hC1,?_⟩,?_⟩,?_⟩
 ·rintro a ha b hb rfl;exact hd a ha (Or.inr (Or.inr hb))
 ·rintro a ha b (hb|hb) rfl
  ·exact hd a hb (Or.inr (Or.inl ha))
  ·exact hBC a ha a hb rfl
 ·rintro a ha b (hb|hb|hb) rfl
  ·exact hABC a ha a (Or.inl hb) rfl
  ·exact hd a hb (Or.inl ha)
  ·exact hABC a ha a (Or.inr hb) rfl
section
variable {g n cap k:Nat} {hs:List P} {p:P}
theorem Kind.Own.elem'(h:K.Own w v (hs.set k p))(hk:k<hs.length):K.own w p:=h.2 p (List.mem_set hk p)
theorem Kind.Own.cell'(h:K.Own w (S (some ⟨g,0,none⟩) n cap) (hs.set k p))(hk:k<hs.length)(j:Nat)(x:Value)(hx:(K.cells p)[j]?=some x):w.cell? ⟨g,k*K.size+j,none⟩=some x∧w.frozen? ⟨g,k*K.size+j,none⟩=false:=
 h.cell k (by simpa using hk) j x (by rw[List.getElem_set_self];exact hx)
theorem Kind.Own.store'(h:K.Own w (S (some ⟨g,0,none⟩) n cap) (hs.set k p))(hnd:(K.fp (S (some ⟨g,0,none⟩) n cap) (hs.set k p)).Nodup)(hk:k<hs.length)(p':P)(j:Nat)(u:Value)(hj:j<K.size)
  (hc:K.cells p'=(K.cells p).set j u) (hf:K.foot p'=K.foot p) (hown:∀w',K.own w' p→K.own w' p'):
  K.Own (w.setCell ⟨g,k*K.size+j,none⟩ u) (S (some ⟨g,0,none⟩) n cap) (hs.set k p')∧(K.fp (S (some ⟨g,0,none⟩) n cap) (hs.set k p')).Nodup:=by
 have hk':k<(hs.set k p).length:=by simpa using hk
 have e:(hs.set k p)[k]=p:=List.getElem_set_self (h:=hk');obtain⟨h1,h2⟩:=h.store hnd k hk' p' j u hj (by rw[e];exact hc) (by rw[e];exact hf) (by rw[e];exact hown);rw[List.set_set]at h1 h2;exact⟨h1,by rw[h2];exact hnd⟩
theorem Kind.Own.turn'(h:K.Own w v (hs.set k p))(hnd:(K.fp v (hs.set k p)).Nodup)(hk:k<hs.length)(p':P){F:List Nat}(ho:Out F w w')(hF:∀x∈F,x∈K.foot p)(hc:K.cells p'=K.cells p)(hf:K.foot p'=K.foot p)(hown:K.own w' p'):
  K.Own w' v (hs.set k p')∧(K.fp v (hs.set k p')).Nodup:=by
 have hk':k<(hs.set k p).length:=by simpa using hk
 have e:(hs.set k p)[k]=p:=List.getElem_set_self (h:=hk');obtain⟨h1,h2⟩:=h.turn hnd k hk' p' ho (by rw[e];exact hF) (by rw[e];exact hc) (by rw[e];exact hf) hown;rw[List.set_set]at h1 h2;exact⟨h1,by rw[h2];exact hnd⟩
end
theorem q0k{mk:Int→P→P}{nm:P→Nat}(hf:∀c p,K.foot (mk c p)=K.foot p)(c:Int)(ps:List P):(mkL mk nm c ps).flatMap K.foot=ps.flatMap K.foot:=by
 induction ps generalizing c with
 |nil=>rfl
 |cons p r ih=>simp only[mkL,List.flatMap_cons,hf,ih]
theorem q0l{mk:Int→P→P}{nm:P→Nat}(hf:∀c p,K.foot (mk c p)=K.foot p)(v:Value)(c:Int)(ps:List P):K.fp v (mkL mk nm c ps)=K.fp v ps:=by simp only[Kind.fp,q0k hf]
theorem z5z{mk:Int→P→P}{nm:P→Nat}(hf:∀c p,K.foot (mk c p)=K.foot p)(v:Value)(c:Int)(ps:List P)(k:Nat):K.fp v (half mk nm c ps k)=K.fp v ps:=by
 have h1:((mkL mk nm c ps).take k).flatMap K.foot=(ps.take k).flatMap K.foot:=by
  have e:(mkL mk nm c ps).take k=mkL mk nm c (ps.take k):=by
   induction ps generalizing c k with
   |nil=>simp[mkL]
   |cons p r ih=>
    cases k with
    |zero=>simp[mkL]
    |succ k=>simp only[mkL,List.take_succ_cons,ih]
  rw[e,q0k hf]
 simp only[Kind.fp,half,List.flatMap_append,h1];rw[←List.flatMap_append,List.take_append_drop]
end
theorem Out.set{F:List Nat}{w W:World}{b j:Nat}{u:Value}(h:Out F w W)(hb:b∈F):Out F w (W.setCell ⟨b,j,none⟩ u):=h.trans ((Out.setCell W b j u).mono (fun k hk=>by simp only[List.mem_singleton]at hk;rw[hk];exact hb))
theorem Out.call{F:List Nat}{w W W':World}(h:Out F w W)(hb:Below W.heap.size W W'):Out F w W':=h.trans (Out.of_below hb)
theorem Below.call{B:Nat}{w W W':World}(h:Below B w W)(hs:B≤W.heap.size)(hb:Below W.heap.size W W'):Below B w W':=h.trans (hb.mono hs)
theorem z1l{w:World}{base e s g n cap:Nat}{xs:List Value}(h:w.ownsRow base e s (S (some ⟨g,0,none⟩) n cap) n xs)(o:Nat)(ys:List Value):
  (ys.zipIdx.foldl (fun w (y:Value × Nat)=>w.setCell ⟨g,o+y.2,none⟩ y.1) w).ownsRow base e s (S (some ⟨g,0,none⟩) n cap) n (z1k xs o ys):=by
 suffices H:∀ (ys:List Value) (w:World) (xs:List Value) (d:Nat),w.ownsRow base e s (S (some ⟨g,0,none⟩) n cap) n xs→((ys.zipIdx d).foldl (fun w (y:Value × Nat)=>w.setCell ⟨g,o+y.2,none⟩ y.1) w).ownsRow base e s (S (some ⟨g,0,none⟩) n cap) n (z1k xs (o+d) ys)from H ys w xs 0 h
 intro ys;induction ys with
 |nil=>intro w xs d h;exact h
 |cons y ys ih=>
  intro w xs d h;have:=ih (w.setCell ⟨g,o+d,none⟩ y) (xs.set (o+d) y) (d+1) (h.stored (o+d) y).1;simpa[List.zipIdx_cons,z1k,Nat.add_assoc]using this
structure TxnD where
 id:Int
 session:Int
 seq:Int
 acts:List ActD
def z0n:TxnD:=⟨0,0,0,[]⟩
structure TxnP where
 d:TxnD
 a:Option Addr
 cap:Nat
def TxnP.sl(p:TxnP):Value:=S p.a p.d.acts.length p.cap
def TxnP.cells(p:TxnP):List Value:=[V I p.d.id,V I p.d.session,V I p.d.seq,p.sl]
def z0Y(ps:List TxnP):List Value:=ps.flatMap TxnP.cells
def z4M:TxnP:=⟨z0n,none,0⟩
theorem z5A(ps:List TxnP):(z0Y ps).length=ps.length*4:=by
 induction ps with
 |nil=>rfl
 |cons x xs ih=>simp only[z0Y,List.flatMap_cons,List.length_append,List.length_cons]at ih⊢;rw[ih];simp[TxnP.cells];omega
theorem z8e(ps:List TxnP):∀ (i:Nat),i<ps.length→(z0Y ps)[i*4]?=some (V I (ps.getD i z4M).d.id)∧(z0Y ps)[i*4+1]?=some (V I (ps.getD i z4M).d.session)∧(z0Y ps)[i*4+2]?=some (V I (ps.getD i z4M).d.seq)∧(z0Y ps)[i*4+3]?=some (ps.getD i z4M).sl:=by
 induction ps with
 |nil=>intro i h;simp at h
 |cons x xs ih=>
  intro i h
  cases i with
  |zero=>simp[z0Y,TxnP.cells]
  |succ i=>
   have e:z0Y (x::xs)=x.cells++z0Y xs:=rfl;have hl:x.cells.length=4:=rfl;obtain⟨h1,h2,h3,h4⟩:=ih i (by simpa using h);rw[e,List.getElem?_append_right (by omega),List.getElem?_append_right (by omega),List.getElem?_append_right (by omega),List.getElem?_append_right (by omega),hl,show(i+1)*4-4=i*4 by omega,show(i+1)*4+1-4=i*4+1 by omega,show(i+1)*4+2-4=i*4+2 by omega,show(i+1)*4+3-4=i*4+3 by omega];simpa[List.getD]using⟨h1,h2,h3,h4⟩
def TxnsAt(w:World)(v:Value)(ds:List TxnD):Prop:=
 ∃a cap ps,v=S a ds.length cap∧ps.map TxnP.d=ds∧Lies w a (z0Y ps)∧∀p∈ps,ActRow w p.a p.d.acts
theorem TxnsAt.below{w w':World}{v:Value}{ds:List TxnD}(h:TxnsAt w v ds)(hb:Below w.heap.size w w'):TxnsAt w' v ds:=by
 obtain⟨a,cap,ps,e,hd,hL,hA⟩:=h;exact⟨a,cap,ps,e,hd,hL.below hb,fun p hp=>(hA p hp).below hb⟩
theorem TxnsAt.shape{w:World}{v:Value}{ds:List TxnD}(h:TxnsAt w v ds):∃a cap,v=S a ds.length cap:=by
 obtain⟨a,cap,_,e,_⟩:=h;exact⟨a,cap,e⟩
theorem TxnsAt.at{w:World}{a:Option Addr}{n cap:Nat}{ds:List TxnD}(h:TxnsAt w (S a n cap) ds)(i:Nat)(hi:i<ds.length):
  ∃b off aa cc,a=some ⟨b,off,none⟩∧b<w.heap.size∧w.cell? ⟨b,off+i*4,none⟩=some (V I (ds.getD i z0n).id)∧w.cell? ⟨b,off+i*4+1,none⟩=some (V I (ds.getD i z0n).session)∧w.cell? ⟨b,off+i*4+2,none⟩=some (V I (ds.getD i z0n).seq)∧
   w.cell? ⟨b,off+i*4+3,none⟩=some (.slice aa (ds.getD i z0n).acts.length cc)∧ActRow w aa (ds.getD i z0n).acts:=by
 obtain⟨a',cap',ps,e,hd,hL,hA⟩:=h;simp only[Value.slice.injEq]at e;obtain⟨rfl,_,_⟩:=e;have hl:ps.length=ds.length:=by rw[←hd];simp
 obtain⟨h1,h2,h3,h4⟩:=z8e ps i (by omega);have hp:(ps.getD i z4M).d=ds.getD i z0n:=by
  rw[←hd];simp[List.getD,show i<ps.length by omega]
 have hm:ps.getD i z4M∈ps:=by simp[List.getD,show i<ps.length by omega]
 rcases hL with h|⟨b,off,ha,hlt,hc⟩
 ·have:=z5A ps;rw[h]at this;simp at this;omega
 ·have hAA:=hA _ hm;rw[hp]at hAA h1 h2 h3;refine⟨b,off,(ps.getD i z4M).a,(ps.getD i z4M).cap,ha,hlt,hc _ _ h1,by rw[Nat.add_assoc];exact hc _ _ h2,by rw[Nat.add_assoc];exact hc _ _ h3,?_,hAA⟩;rw[Nat.add_assoc,hc _ _ h4];simp only[TxnP.sl,hp]
def OwnTxns(lo hi:Nat)(w:World)(v:Value)(ds:List TxnD):Prop:=
 ∃g cap ps,v=S (some ⟨g,0,none⟩) ds.length cap∧g<hi∧ps.map TxnP.d=ds∧w.ownsRow lo 152 4 (S (some ⟨g,0,none⟩) ds.length cap) ds.length (z0Y ps)∧
  ∀p∈ps,w.ownsRow lo 209 3 p.sl p.d.acts.length (z0p p.d.acts)∧∀k,p.sl.ownBlock=some k→k<hi∧k≠g
theorem OwnTxns.row{lo hi:Nat}{w:World}{v:Value}{ds:List TxnD}(h:OwnTxns lo hi w v ds):TxnsAt w v ds:=by
 obtain⟨g,cap,ps,e,_,hd,ho,hp⟩:=h;exact⟨_,cap,ps,e,hd,Lies.own ho,fun p hm=>Lies.own (hp p hm).1⟩
theorem OwnTxns.below{lo hi:Nat}{w w':World}{v:Value}{ds:List TxnD}(h:OwnTxns lo hi w v ds)(hb:Below w.heap.size w w'):OwnTxns lo hi w' v ds:=by
 obtain⟨g,cap,ps,e,hg,hd,ho,hp⟩:=h;exact⟨g,cap,ps,e,hg,hd,z0d ho hb,fun p hm=>⟨z0d (hp p hm).1 hb,(hp p hm).2⟩⟩
def z6n(ds:List TxnD):Nat:=(ds.map (fun d=>d.acts.length)).sum
theorem z1z{ds:List TxnD}{d:TxnD}(h:d∈ds):d.acts.length≤z6n ds:=by
 induction ds with
 |nil=>simp at h
 |cons x r ih=>
  simp only[z6n,List.map_cons,List.sum_cons]at ih⊢;rcases List.mem_cons.1 h with rfl|h
  ·omega
  ·have:=ih h;omega
theorem z1A:(Tryz.prog.info? 152).map (fun i=>(i.zero,i.size,i.bytes))=some (some (.agg #[V I 0,V I 0,V I 0,S none 0 0]),4,48):=by kernel_rfl
theorem z0i{w:World}{base e n s g j:Nat}{v u:Value}{xs:List Value}(h:w.ownsRow base e s v n xs)(hne:∀k,v.ownBlock=some k→k≠g):(w.setCell ⟨g,j,none⟩ u).ownsRow base e s v n xs:=by
 refine⟨h.1,?_⟩;rcases h.2 with h2|⟨g',cap,cur,hv,hg,hh,r⟩
 ·exact Or.inl h2
 ·exact Or.inr ⟨g',cap,cur,hv,hg,by rw[Below.heap_setCell _ _ _ _ (by have:=hne g' (by rw[hv];rfl);omega)];exact hh,r⟩
def intK:Kind Int where
 ty:=2
 size:=1
 cells n:=[V I n]
 own _ _:=True
 rd _ _:=True
 foot _:=[]
 len _:=rfl
 own_rd _:=trivial
 own_out _ _ _:=trivial
 own_lt _ k hk:=by simp at hk
 rd_below _ _:=trivial
def actK:Kind ActD where
 ty:=209
 size:=3
 cells:=ActD.cells
 own _ _:=True
 rd _ _:=True
 foot _:=[]
 len _:=rfl
 own_rd _:=trivial
 own_out _ _ _:=trivial
 own_lt _ k hk:=by simp at hk
 rd_below _ _:=trivial
structure TxnQ where
 i:Int
 s:Int
 q:Int
 va:Value
 acts:List ActD
def txnK:Kind TxnQ where
 ty:=152
 size:=4
 cells p:=[V I p.i,V I p.s,V I p.q,p.va]
 own w p:=actK.Own w p.va p.acts
 rd w p:=actK.At w p.va p.acts
 foot p:=actK.fp p.va p.acts
 len _:=rfl
 own_rd h:=h.at
 own_out h ho hd:=h.out ho hd
 own_lt h:=h.lt
 rd_below h hb:=h.below hb
def TxnQ.e(p:TxnQ):TxnD:=⟨p.i,p.s,p.q,p.acts⟩
def TxnD.n(d:TxnD):Nat:=d.acts.length
def q07(ds:List TxnD):Nat:=ds.length+nmL TxnD.n ds
structure RoundQ where
 vr:Value
 rep:List Int
 vp:Value
 pro:List Int
def roundK:Kind RoundQ where
 ty:=138
 size:=2
 cells p:=[p.vr,p.vp]
 own w p:=intK.Own w p.vr p.rep∧intK.Own w p.vp p.pro
 rd w p:=intK.At w p.vr p.rep∧intK.At w p.vp p.pro
 foot p:=intK.fp p.vr p.rep++intK.fp p.vp p.pro
 len _:=rfl
 own_rd h:=⟨h.1.at,h.2.at⟩
 own_out h ho hd:=⟨h.1.out ho (fun k hk=>hd k (List.mem_append_left _ hk)),h.2.out ho (fun k hk=>hd k (T _ hk))⟩
 own_lt h k hk:=by
  rcases List.mem_append.1 hk with hk|hk
  ·exact h.1.lt k hk
  ·exact h.2.lt k hk
 rd_below h hb:=⟨h.1.below hb,h.2.below hb⟩
structure InstQ where
 has:Bool
 vb:Value
 batch:List TxnQ
 vr:Value
 rounds:List RoundQ
 vd:Value
 dec:List Int
def instK:Kind InstQ where
 ty:=64
 size:=4
 cells p:=[.bool p.has,p.vb,p.vr,p.vd]
 own w p:=txnK.Own w p.vb p.batch∧roundK.Own w p.vr p.rounds∧intK.Own w p.vd p.dec
 rd w p:=txnK.At w p.vb p.batch∧roundK.At w p.vr p.rounds∧intK.At w p.vd p.dec
 foot p:=txnK.fp p.vb p.batch++(roundK.fp p.vr p.rounds++intK.fp p.vd p.dec)
 len _:=rfl
 own_rd h:=⟨h.1.at,h.2.1.at,h.2.2.at⟩
 own_out h ho hd:=⟨h.1.out ho (fun k hk=>hd k (List.mem_append_left _ hk)),h.2.1.out ho (fun k hk=>hd k (T _ (List.mem_append_left _ hk))),h.2.2.out ho (fun k hk=>hd k (T _ (T _ hk)))⟩
 own_lt h k hk:=by
  rcases List.mem_append.1 hk with hk|hk
  ·exact h.1.lt k hk
  ·rcases List.mem_append.1 hk with hk|hk
   ·exact h.2.1.lt k hk
   ·exact h.2.2.lt k hk
 rd_below h hb:=⟨h.1.below hb,h.2.1.below hb,h.2.2.below hb⟩
structure RoundE where
 rep:List Int
 pro:List Int
structure InstE where
 has:Bool
 batch:List TxnD
 rounds:List RoundE
 dec:List Int
def RoundQ.e(p:RoundQ):RoundE:=⟨p.rep,p.pro⟩
def InstQ.e(p:InstQ):InstE:=⟨p.has,p.batch.map TxnQ.e,p.rounds.map RoundQ.e,p.dec⟩
def RoundE.n(d:RoundE):Nat:=d.rep.length+d.pro.length
def z9o(ds:List RoundE):Nat:=ds.length+nmL RoundE.n ds
def InstE.n(d:InstE):Nat:=q07 d.batch+z9o d.rounds+d.dec.length
end Go.Proofs.YtdppipeclnldeaaGreatDoor
