/- Texts joined,with what the laws reach alone. -/
import Derived.Test.YtljbililjlafcaaGreatDoorILAA
set_option linter.unusedVariables false
set_option linter.unusedSimpArgs false
set_option maxRecDepth 100000
set_option maxHeartbeats 4000000
namespace Go.Proofs.YtljbililjlafcaaGreatDoor
open Go.RowKit Go.BigFrame
structure Out (F:List Nat) (w w':World):Prop where
 os:w'.os=w.os
 tape:w'.tape=w.tape
 output:w'.output=w.output
 size:w.heap.size≤w'.heap.size
 block:∀k,k<w.heap.size→k∉F→w'.heap[k]?=w.heap[k]?
theorem Out.refl(F:List Nat)(w:World):Out F w w:=⟨rfl,rfl,rfl,Nat.le_refl _,fun _ _ _=>rfl⟩
theorem Out.trans{F:List Nat}{a b c:World}(h:Out F a b)(k:Out F b c):Out F a c:=
 ⟨k.os.trans h.os,k.tape.trans h.tape,k.output.trans h.output,Nat.le_trans h.size k.size,fun i hi hn=>(k.block i (Nat.lt_of_lt_of_le hi h.size) hn).trans (h.block i hi hn)⟩
theorem Out.mono{F G:List Nat}{w w':World}(h:Out F w w')(hF:∀k∈F,k∈G):Out G w w':=⟨h.os,h.tape,h.output,h.size,fun k hk hn=>h.block k hk (fun e=>hn (hF k e))⟩
theorem Out.of_below{F:List Nat}{w w':World}(h:Below w.heap.size w w'):Out F w w':=⟨h.os,h.tape,h.output,h.size,fun k hk _=>h.block k hk⟩
theorem Out.of_grown{w w':World}{row:Option Nat}(h:w.grownBy w' row):Out row.toList w w':=⟨h.os,h.tape,h.output,h.size,fun k hk hn=>h.block k hk (fun e=>hn (by rw[←e];simp))⟩
theorem Out.setCell(w:World)(g j:Nat)(u:Value):Out [g] w (w.setCell ⟨g,j,none⟩ u):=⟨rfl,rfl,rfl,by simp,fun k _ hn=>Below.heap_setCell w _ _ k (by simpa using hn)⟩
theorem Out.keep{B:Nat}{F:List Nat}{a w w':World}(h:Below B a w)(ho:Out F w w')(hB:B≤w.heap.size)(hF:∀k∈F,B≤k):Below B a w':=
 ⟨ho.os.trans h.os,ho.tape.trans h.tape,ho.output.trans h.output,Nat.le_trans h.size ho.size,fun k hk=>(ho.block k (by omega) (fun e=>by have:=hF k e;omega)).trans (h.block k hk)⟩
def blk(v:Value):List Nat:=v.ownBlock.toList
theorem z0L{w w':World}{base e s n:Nat}{v:Value}{xs:List Value}{F:List Nat}(h:w.ownsRow base e s v n xs)(ho:Out F w w')(hd:∀k∈blk v,k∉F):w'.ownsRow base e s v n xs:=by
 refine⟨h.1,?_⟩;rcases h.2 with h2|⟨g,cap,cur,hv,hg,hh,r⟩
 ·exact Or.inl h2
 ·refine Or.inr ⟨g,cap,cur,hv,hg,?_,r⟩;rw[ho.block g (Array.getElem?_eq_some_iff.1 hh).1 (hd g (by rw[hv];simp[blk,Value.ownBlock]))];exact hh
structure Kind (P:Type) where
 ty:Nat
 size:Nat
 cells:P→List Value
 own:World→P→Prop
 rd:World→P→Prop
 foot:P→List Nat
 len:∀p,(cells p).length=size
 own_rd:∀ {w p},own w p→rd w p
 own_out:∀ {w w' p F},own w p→Out F w w'→(∀k∈foot p,k∉F)→own w' p
 own_lt:∀ {w p},own w p→∀k∈foot p,k<w.heap.size
 rd_below:∀ {w w' p},rd w p→Below w.heap.size w w'→rd w' p
section
variable {P:Type} (K:Kind P)
def Kind.row(ps:List P):List Value:=ps.flatMap K.cells
def Kind.At(w:World)(v:Value)(ps:List P):Prop:=∃a cap,v=.slice a ps.length cap∧Lies w a (K.row ps)∧∀p∈ps,K.rd w p
def Kind.Own(w:World)(v:Value)(ps:List P):Prop:=w.ownsRow 0 K.ty K.size v ps.length (K.row ps)∧∀p∈ps,K.own w p
def Kind.fp(v:Value)(ps:List P):List Nat:=blk v++ps.flatMap K.foot
end
section
variable {P:Type} {K:Kind P} {w w':World} {v:Value} {ps:List P}
theorem Kind.row_length(ps:List P):(K.row ps).length=ps.length*K.size:=by
 induction ps with
 |nil=>simp[Kind.row]
 |cons p r ih=>
  simp only[Kind.row,List.flatMap_cons,List.length_append,K.len,List.length_cons]at ih⊢;rw[ih,Nat.add_mul];omega
theorem Kind.row_get(ps:List P)(i:Nat)(hi:i<ps.length)(j:Nat)(hj:j<K.size):(K.row ps)[i*K.size+j]?=(K.cells ps[i])[j]?:=by
 induction ps generalizing i with
 |nil=>simp at hi
 |cons p r ih=>
  simp only[Kind.row,List.flatMap_cons]
  cases i with
  |zero=>
   rw[List.getElem?_append_left (by rw[K.len];omega)];simp
  |succ i=>
   rw[List.getElem?_append_right (by rw[K.len,Nat.add_mul];omega),K.len];have:=ih i (by simpa using hi);simp only[Kind.row]at this;rw[show(i+1)*K.size+j-K.size=i*K.size+j by rw[Nat.add_mul];omega,this];simp
theorem Kind.Own.at(h:K.Own w v ps):K.At w v ps:=by
 obtain⟨a,c,rfl⟩:=z0g h.1;exact⟨a,c,rfl,Lies.own h.1,fun p hp=>K.own_rd (h.2 p hp)⟩
theorem Kind.At.below(h:K.At w v ps)(hb:Below w.heap.size w w'):K.At w' v ps:=by
 obtain⟨a,c,e,hl,hr⟩:=h;exact⟨a,c,e,hl.below hb,fun p hp=>K.rd_below (hr p hp) hb⟩
theorem Kind.At.shape(h:K.At w v ps):∃a cap,v=.slice a ps.length cap:=by
 obtain⟨a,c,e,_⟩:=h;exact⟨a,c,e⟩
theorem Kind.Own.shape(h:K.Own w v ps):∃a cap,v=.slice a ps.length cap:=z0g h.1
theorem Kind.Own.out{F:List Nat}(h:K.Own w v ps)(ho:Out F w w')(hd:∀k∈K.fp v ps,k∉F):K.Own w' v ps:=by
 refine⟨z0L h.1 ho (fun k hk=>hd k (by simp[Kind.fp,hk])),fun p hp=>K.own_out (h.2 p hp) ho (fun k hk=>hd k ?_)⟩;simp only[Kind.fp,List.mem_append,List.mem_flatMap];exact Or.inr ⟨p,hp,hk⟩
theorem Kind.Own.below(h:K.Own w v ps)(hb:Below w.heap.size w w'):K.Own w' v ps:=h.out (Out.of_below (F:=[]) hb) (fun _ _=>by simp)
theorem Kind.Own.lt(h:K.Own w v ps):∀k∈K.fp v ps,k<w.heap.size:=by
 intro k hk;simp only[Kind.fp,List.mem_append,List.mem_flatMap]at hk;rcases hk with hk|⟨p,hp,hk⟩
 ·exact(h.1.lt k (by simpa[blk]using hk)).2
 ·exact K.own_lt (h.2 p hp) k hk
theorem Kind.At.cell{a:Option Addr}{n cap:Nat}(h:K.At w (.slice a n cap) ps)(hs:0<K.size)(i:Nat)(hi:i<ps.length):
  ∃b off,a=some ⟨b,off,none⟩∧b<w.heap.size∧(∀j x,(K.cells ps[i])[j]?=some x→w.cell? ⟨b,off+i*K.size+j,none⟩=some x)∧K.rd w ps[i]:=by
 obtain⟨a',c,e,hl,hr⟩:=h;simp only[Value.slice.injEq]at e;obtain⟨rfl,_,_⟩:=e;rcases hl with h0|⟨b,off,ha,hlt,hc⟩
 ·have:=Kind.row_length (K:=K) ps;rw[h0]at this;simp only[List.length_nil]at this;have h1:1*K.size≤ps.length*K.size:=Nat.mul_le_mul_right _ (by omega);omega
 ·refine⟨b,off,ha,hlt,fun j x hx=>?_,hr _ (List.getElem_mem hi)⟩;have hj:j<K.size:=by rw[←K.len ps[i]];exact(List.getElem?_eq_some_iff.1 hx).1
  rw[show off+i*K.size+j=off+(i*K.size+j) by omega];exact hc _ _ (by rw[Kind.row_get ps i hi j hj];exact hx)
theorem Kind.Own.cell{g n cap:Nat}(h:K.Own w (.slice (some ⟨g,0,none⟩) n cap) ps)(i:Nat)(hi:i<ps.length)(j:Nat)(x:Value)(hx:(K.cells ps[i])[j]?=some x):w.cell? ⟨g,i*K.size+j,none⟩=some x∧w.frozen? ⟨g,i*K.size+j,none⟩=false:=by
 obtain⟨a',c,e⟩:=h.shape;simp only[Value.slice.injEq]at e;obtain⟨_,rfl,_⟩:=e;have hj:j<K.size:=by rw[←K.len ps[i]];exact(List.getElem?_eq_some_iff.1 hx).1
 have hlt:i*K.size+j<ps.length*K.size:=by
  have:(i+1)*K.size≤ps.length*K.size:=Nat.mul_le_mul_right _ (by omega);rw[Nat.add_mul]at this;omega
 exact⟨by rw[h.1.cellAt _ hlt,Kind.row_get ps i hi j hj];exact hx,h.1.frozenAt _⟩
def z01(xs:List Value)(o:Nat):List Value→List Value
 |[]=>xs
 |y::ys=>z01 (xs.set o y) (o+1) ys
theorem z1x(xs:List Value)(o:Nat)(ys:List Value):(z01 xs o ys).length=xs.length:=by
 induction ys generalizing xs o with
 |nil=>rfl
 |cons y ys ih=>simp[z01,ih]
theorem z2B(xs:List Value)(o:Nat)(ys:List Value)(j:Nat)(hj:j<xs.length):(z01 xs o ys)[j]?=if o≤j∧j<o+ys.length then ys[j-o]? else xs[j]?:=by
 induction ys generalizing xs o with
 |nil=>
  rw[if_neg (by simp only[List.length_nil];omega)];rfl
 |cons y ys ih=>
  rw[z01,ih (xs.set o y) (o+1) (by simpa using hj)];by_cases h1:o+1≤j∧j<o+1+ys.length
  ·rw[if_pos h1,if_pos (by simp;omega),show j-o=(j-(o+1))+1 by omega];simp
  ·rw[if_neg h1,List.getElem?_set];by_cases h2:o=j
   ·subst h2;rw[if_pos rfl,if_pos hj,if_pos (by simp)];simp
   ·rw[if_neg h2,if_neg (by simp;omega)]
theorem Kind.row_put(ps:List P)(i:Nat)(hi:i<ps.length)(p:P):z01 (K.row ps) (i*K.size) (K.cells p)=K.row (ps.set i p):=by
 have hl:=Kind.row_length (K:=K) ps;have hl2:=Kind.row_length (K:=K) (ps.set i p);rw[List.length_set]at hl2;have hi2:(i+1)*K.size≤ps.length*K.size:=Nat.mul_le_mul_right _ (by omega);rw[Nat.add_mul,Nat.one_mul]at hi2;apply List.ext_getElem?;intro j;by_cases hj:j<ps.length*K.size
 ·rw[z2B _ _ _ _ (by omega),K.len];have hs:0<K.size:=by
   rcases Nat.eq_zero_or_pos K.size with h0|h0
   ·rw[h0]at hj;simp at hj
   ·exact h0
  have hd:=Nat.div_add_mod j K.size;have hm:=Nat.mod_lt j hs;have hq:j / K.size<ps.length:=Nat.div_lt_of_lt_mul (by rw[Nat.mul_comm];exact hj);have e:j=j / K.size*K.size+j % K.size:=by rw[Nat.mul_comm];exact hd.symm
  have e2:=Kind.row_get (K:=K) (ps.set i p) (j / K.size) (by simpa using hq) (j % K.size) hm;rw[←e]at e2;have e3:=Kind.row_get (K:=K) ps (j / K.size) hq (j % K.size) hm;rw[←e]at e3;rw[e2,e3];by_cases hk:j / K.size=i
  ·subst hk;rw[if_pos (by omega)];simp only[List.getElem_set_self]
   congr 1
   omega
  ·have hne:¬(i*K.size≤j∧j<i*K.size+K.size):=by
    rintro⟨h1,h2⟩;apply hk;exact Nat.div_eq_of_lt_le (by omega) (by rw[Nat.add_mul];omega)
   rw[if_neg hne,List.getElem_set_ne (Ne.symm hk)]
 ·rw[List.getElem?_eq_none (by rw[z1x];omega),List.getElem?_eq_none (by omega)]
theorem Kind.row_store(ps:List P)(i:Nat)(hi:i<ps.length)(p:P)(j:Nat)(u:Value)(hc:K.cells p=(K.cells ps[i]).set j u)(hj:j<K.size):(K.row ps).set (i*K.size+j) u=K.row (ps.set i p):=by
 rw[←Kind.row_put ps i hi p,hc];have hl:=Kind.row_length (K:=K) ps;have hi2:(i+1)*K.size≤ps.length*K.size:=Nat.mul_le_mul_right _ (by omega);rw[Nat.add_mul,Nat.one_mul]at hi2;apply List.ext_getElem?;intro k;by_cases hk:k<ps.length*K.size
 ·rw[z2B _ _ _ _ (by omega),List.length_set,K.len,List.getElem?_set];by_cases h1:i*K.size+j=k
  ·subst h1;rw[if_pos rfl,if_pos (by omega),if_pos (by omega),List.getElem?_set,if_pos (by omega),if_pos (by rw[K.len];omega)]
  ·rw[if_neg h1];by_cases h2:i*K.size≤k∧k<i*K.size+K.size
   ·rw[if_pos h2,List.getElem?_set,if_neg (by omega)];have:=Kind.row_get (K:=K) ps i hi (k-i*K.size) (by omega);rw[show i*K.size+(k-i*K.size)=k by omega]at this;exact this
   ·rw[if_neg h2]
 ·rw[List.getElem?_eq_none (by simp;omega),List.getElem?_eq_none (by rw[z1x];omega)]
theorem q1y(ps:List P)(i:Nat)(hi:i<ps.length)(p:P)(hf:K.foot p=K.foot ps[i]):(ps.set i p).flatMap K.foot=ps.flatMap K.foot:=by
 induction ps generalizing i with
 |nil=>simp at hi
 |cons q r ih=>
  cases i with
  |zero=>simp only[List.set_cons_zero,List.flatMap_cons,hf,List.getElem_cons_zero]
  |succ i=>simp only[List.set_cons_succ,List.flatMap_cons,ih i (by simpa using hi) (by simpa using hf)]
theorem Kind.fp_set(v:Value)(ps:List P)(i:Nat)(hi:i<ps.length)(p:P)(hf:K.foot p=K.foot ps[i]):K.fp v (ps.set i p)=K.fp v ps:=by
 simp only[Kind.fp,q1y ps i hi p hf]
theorem z80{ps:List P}(h:(ps.flatMap K.foot).Nodup)(i:Nat)(hi:i<ps.length)(j:Nat)(hj:j<ps.length)(hne:i≠j):∀k∈K.foot ps[j],k∉K.foot ps[i]:=by
 induction ps generalizing i j with
 |nil=>simp at hi
 |cons p r ih=>
  rw[List.flatMap_cons,List.nodup_append]at h;obtain⟨_,h2,h3⟩:=h;intro k hk hk2
  cases i with
  |zero=>
   cases j with
   |zero=>exact hne rfl
   |succ j=>
    simp only[List.getElem_cons_succ,List.getElem_cons_zero]at hk hk2;exact h3 k hk2 k (List.mem_flatMap.2 ⟨_,List.getElem_mem (by simpa using hj),hk⟩) rfl
  |succ i=>
   cases j with
   |zero=>
    simp only[List.getElem_cons_succ,List.getElem_cons_zero]at hk hk2;exact h3 k hk k (List.mem_flatMap.2 ⟨_,List.getElem_mem (by simpa using hi),hk2⟩) rfl
   |succ j=>
    simp only[List.getElem_cons_succ]at hk hk2;exact ih h2 i (by simpa using hi) j (by simpa using hj) (by omega) k hk hk2
theorem Kind.Own.store{g n cap:Nat}(h:K.Own w (.slice (some ⟨g,0,none⟩) n cap) ps)(hnd:(K.fp (.slice (some ⟨g,0,none⟩) n cap) ps).Nodup)(i:Nat)(hi:i<ps.length)(p:P)(j:Nat)(u:Value)(hj:j<K.size)
  (hc:K.cells p=(K.cells ps[i]).set j u) (hf:K.foot p=K.foot ps[i]) (hown:∀w',K.own w' ps[i]→K.own w' p):
  K.Own (w.setCell ⟨g,i*K.size+j,none⟩ u) (.slice (some ⟨g,0,none⟩) n cap) (ps.set i p)∧K.fp (.slice (some ⟨g,0,none⟩) n cap) (ps.set i p)=K.fp (.slice (some ⟨g,0,none⟩) n cap) ps:=by
 obtain⟨a',c,e⟩:=h.shape;simp only[Value.slice.injEq]at e;obtain⟨_,rfl,_⟩:=e;refine⟨⟨?_,?_⟩,Kind.fp_set _ ps i hi p hf⟩
 ·have h1:=(h.1.stored (i*K.size+j) u).1;rw[Kind.row_store ps i hi p j u hc hj]at h1;rw[List.length_set];exact h1
 ·have hg:∀q∈ps,∀k∈K.foot q,k∉[g]:=by
   intro q hq k hk;simp only[Kind.fp,blk,Value.ownBlock,Option.toList,List.cons_append,List.nil_append,List.nodup_cons]at hnd;simp only[List.mem_singleton];rintro rfl;exact hnd.1 (List.mem_flatMap.2 ⟨q,hq,hk⟩)
  have hall:∀q∈ps,K.own (w.setCell ⟨g,i*K.size+j,none⟩ u) q:=fun q hq=>K.own_out (h.2 q hq) (Out.setCell w g _ u) (hg q hq)
  intro q hq;rcases List.mem_or_eq_of_mem_set hq with hq|rfl
  ·exact hall q hq
  ·exact hown _ (hall _ (List.getElem_mem hi))
theorem Kind.Own.turn(h:K.Own w v ps)(z:(K.fp v ps).Nodup)(i:Nat)(hi:i<ps.length)(p:P){F:List Nat}(ho:Out F w w')(hF:∀k∈F,k∈K.foot ps[i])
  (hc:K.cells p=K.cells ps[i]) (hf:K.foot p=K.foot ps[i]) (y:K.own w' p):K.Own w' v (ps.set i p)∧K.fp v (ps.set i p)=K.fp v ps:=by
 have c:=z;simp only[Kind.fp]at c;rw[List.nodup_append]at c;refine⟨⟨?_,?_⟩,Kind.fp_set _ ps i hi p hf⟩
 ·have e:K.row (ps.set i p)=K.row ps:=by
   rw[←Kind.row_put ps i hi p,hc,Kind.row_put ps i hi ps[i],List.set_getElem_self]
  rw[e,List.length_set];refine z0L h.1 ho (fun k hk x=>?_);exact c.2.2 k hk k (List.mem_flatMap.2 ⟨ps[i],List.getElem_mem hi,hF k x⟩) rfl
 ·intro q hq;obtain⟨j,hj,rfl⟩:=List.getElem_of_mem hq;rw[List.length_set]at hj;by_cases d:i=j
  ·subst d;rw[List.getElem_set_self];exact y
  ·rw[List.getElem_set_ne d];exact K.own_out (h.2 _ (List.getElem_mem hj)) ho (fun k hk x=>z80 c.2.1 i hi j hj d k hk (hF k x))
theorem Kind.Own.put{g n cap:Nat}(h:K.Own w (.slice (some ⟨g,0,none⟩) n cap) ps)(i:Nat)(hi:i<ps.length)(p:P)(hrow:w'.ownsRow 0 K.ty K.size (.slice (some ⟨g,0,none⟩) n cap) ps.length (z01 (K.row ps) (i*K.size) (K.cells p)))
  (ho:Out [g] w w') (hg:∀q∈ps,∀k∈K.foot q,k≠g) (hown:K.own w p) (hp:∀k∈K.foot p,k≠g):K.Own w' (.slice (some ⟨g,0,none⟩) n cap) (ps.set i p):=by
 rw[Kind.row_put ps i hi p]at hrow;refine⟨by rw[List.length_set];exact hrow,fun q hq=>?_⟩;rcases List.mem_or_eq_of_mem_set hq with hq|rfl
 ·exact K.own_out (h.2 q hq) ho (fun k hk=>by simpa using hg q hq k hk)
 ·exact K.own_out hown ho (fun k hk=>by simpa using hp k hk)
def nmL(nm:P→Nat)(ps:List P):Nat:=(ps.map nm).sum
theorem z2h(nm:P→Nat)(ps:List P)(k:Nat)(h:k<ps.length):nmL nm (ps.take (k+1))=nmL nm (ps.take k)+nm ps[k]:=by
 rw[List.take_succ_eq_append_getElem h];simp only[nmL,List.map_append,List.map_cons,List.map_nil,List.sum_append,List.sum_cons,List.sum_nil,Nat.add_zero]
theorem z5r(nm:P→Nat)(ps:List P)(k:Nat):nmL nm (ps.take k)≤nmL nm ps:=by
 have e:nmL nm ps=nmL nm (ps.take k)+nmL nm (ps.drop k):=by
  conv=>lhs;rw[←List.take_append_drop k ps]
  simp only[nmL,List.map_append,List.sum_append]
 omega
end
section
variable {P:Type} {K:Kind P} {w w':World} {v:Value} {ps:List P}
theorem z2M(z:P)(n:Nat)(hs:0<K.size):(madeCells (K.cells z).toArray (n*K.size)).toList=K.row (List.replicate n z):=by
 have hl:=Kind.row_length (K:=K) (List.replicate n z);rw[List.length_replicate]at hl;apply List.ext_getElem?;intro j;by_cases hj:j<n*K.size
 ·have hm:=Nat.mod_lt j hs;have hq:j / K.size<n:=Nat.div_lt_of_lt_mul (by rw[Nat.mul_comm];exact hj);have e:j=j / K.size*K.size+j % K.size:=by rw[Nat.mul_comm];exact(Nat.div_add_mod j K.size).symm
  have e2:=Kind.row_get (K:=K) (List.replicate n z) (j / K.size) (by simpa using hq) (j % K.size) hm;rw[←e]at e2;rw[e2];have hz:(K.cells z).length=K.size:=K.len z;simp only[madeCells,Array.toList_map,Array.toList_range,List.getElem?_map,List.getElem?_range hj,Option.map_some,List.size_toArray,hz,List.getElem_replicate];rw[List.getElem!_toArray,List.getElem?_eq_getElem (by omega),getElem!_pos (K.cells z) (j % K.size) (by omega)]
 ·rw[List.getElem?_eq_none (by simp[size_madeCells];omega),List.getElem?_eq_none (by omega)]
theorem z6x{z:P}{n g cap:Nat}(hz:K.foot z=[]):K.fp (.slice (some ⟨g,0,none⟩) n cap) (List.replicate n z)=[g]:=by
 have:(List.replicate n z).flatMap K.foot=[]:=by
  rw[List.flatMap_eq_nil_iff];intro x hx;rw[(List.mem_replicate.1 hx).2,hz]
 simp[Kind.fp,blk,Value.ownBlock,this]
theorem z9Y(ps:List P)(i:Nat)(hi:i<ps.length)(p:P):ps.set i p=ps.take i++p::ps.drop (i+1):=by
 rw[List.set_eq_take_append_cons_drop,if_pos hi]
theorem z1e{ps:List P}{i:Nat}(hi:i<ps.length){p:P}{k:Nat}(h:k∈(ps.set i p).flatMap K.foot):k∈ps.flatMap K.foot∨k∈K.foot p:=by
 obtain⟨q,hq,hk⟩:=List.mem_flatMap.1 h;rcases List.mem_or_eq_of_mem_set hq with hq|rfl
 ·exact Or.inl (List.mem_flatMap.2 ⟨q,hq,hk⟩)
 ·exact Or.inr hk
theorem z12{ps:List P}(h:(K.fp v ps).Nodup)(i:Nat)(hi:i<ps.length)(p:P)(h0:K.foot ps[i]=[])(hp:(K.foot p).Nodup)(hd:∀k∈K.foot p,k∉K.fp v ps):(K.fp v (ps.set i p)).Nodup:=by
 have e:ps=ps.take i++ps[i]::ps.drop (i+1):=by
  conv=>lhs;rw[←List.take_append_drop i ps,List.drop_eq_getElem_cons hi]
 have hA:K.fp v ps=blk v++((ps.take i).flatMap K.foot++(ps.drop (i+1)).flatMap K.foot):=by
  conv=>lhs;rw[e]
  simp only[Kind.fp,List.flatMap_append,List.flatMap_cons,h0,List.nil_append]
 rw[hA]at h hd;simp only[Kind.fp];rw[z9Y ps i hi p];simp only[List.flatMap_append,List.flatMap_cons];generalize blk v=A at*;generalize (ps.take i).flatMap K.foot=B at*;generalize (ps.drop (i+1)).flatMap K.foot=C at*;generalize K.foot p=D at*;simp only[List.nodup_append,List.mem_append]at h hd⊢;obtain⟨hA1,⟨hB1,hC1,hBC⟩,hABC⟩:=h;refine⟨hA1,⟨hB1,⟨hp,hC1,?_⟩,?_⟩,?_⟩
 ·rintro a ha b hb rfl;exact hd a ha (Or.inr (Or.inr hb))
 ·rintro a ha b (hb|hb) rfl
  ·exact hd a hb (Or.inr (Or.inl ha))
  ·exact hBC a ha a hb rfl
 ·rintro a ha b (hb|hb|hb) rfl
  ·exact hABC a ha a (Or.inl hb) rfl
  ·exact hd a hb (Or.inl ha)
  ·exact hABC a ha a (Or.inr hb) rfl
end
theorem Out.set{F:List Nat}{w W:World}{b j:Nat}{u:Value}(h:Out F w W)(hb:b∈F):Out F w (W.setCell ⟨b,j,none⟩ u):=h.trans ((Out.setCell W b j u).mono (fun k hk=>by simp only[List.mem_singleton]at hk;rw[hk];exact hb))
theorem Out.call{F:List Nat}{w W W':World}(h:Out F w W)(hb:Below W.heap.size W W'):Out F w W':=h.trans (Out.of_below hb)
theorem Below.call{B:Nat}{w W W':World}(h:Below B w W)(hs:B≤W.heap.size)(hb:Below W.heap.size W W'):Below B w W':=h.trans (hb.mono hs)
theorem z1m{w:World}{base e s g n cap:Nat}{xs:List Value}(h:w.ownsRow base e s (.slice (some ⟨g,0,none⟩) n cap) n xs)(o:Nat)(ys:List Value):
  (ys.zipIdx.foldl (fun w (y:Value × Nat)=>w.setCell ⟨g,o+y.2,none⟩ y.1) w).ownsRow base e s (.slice (some ⟨g,0,none⟩) n cap) n (z01 xs o ys):=by
 suffices H:∀ (ys:List Value) (w:World) (xs:List Value) (d:Nat),w.ownsRow base e s (.slice (some ⟨g,0,none⟩) n cap) n xs→((ys.zipIdx d).foldl (fun w (y:Value × Nat)=>w.setCell ⟨g,o+y.2,none⟩ y.1) w).ownsRow base e s (.slice (some ⟨g,0,none⟩) n cap) n (z01 xs (o+d) ys)from H ys w xs 0 h
 intro ys;induction ys with
 |nil=>intro w xs d h;exact h
 |cons y ys ih=>
  intro w xs d h;have:=ih (w.setCell ⟨g,o+d,none⟩ y) (xs.set (o+d) y) (d+1) (h.stored (o+d) y).1;simpa[List.zipIdx_cons,z01,Nat.add_assoc]using this
structure TxnD where
 id:Int
 session:Int
 seq:Int
 acts:List ActD
def z0l:TxnD:=⟨0,0,0,[]⟩
structure TxnP where
 d:TxnD
 a:Option Addr
 cap:Nat
def TxnP.sl(p:TxnP):Value:=.slice p.a p.d.acts.length p.cap
def TxnP.cells(p:TxnP):List Value:=[.int .i64 p.d.id,.int .i64 p.d.session,.int .i64 p.d.seq,p.sl]
def z0M(ps:List TxnP):List Value:=ps.flatMap TxnP.cells
def z3C:TxnP:=⟨z0l,none,0⟩
theorem z4n(ps:List TxnP):(z0M ps).length=ps.length*4:=by
 induction ps with
 |nil=>rfl
 |cons x xs ih=>simp only[z0M,List.flatMap_cons,List.length_append,List.length_cons]at ih⊢;rw[ih];simp[TxnP.cells];omega
theorem z6y(ps:List TxnP):∀ (i:Nat),i<ps.length→(z0M ps)[i*4]?=some (.int .i64 (ps.getD i z3C).d.id)∧(z0M ps)[i*4+1]?=some (.int .i64 (ps.getD i z3C).d.session)∧(z0M ps)[i*4+2]?=some (.int .i64 (ps.getD i z3C).d.seq)∧(z0M ps)[i*4+3]?=some (ps.getD i z3C).sl:=by
 induction ps with
 |nil=>intro i h;simp at h
 |cons x xs ih=>
  intro i h
  cases i with
  |zero=>simp[z0M,TxnP.cells]
  |succ i=>
   have e:z0M (x::xs)=x.cells++z0M xs:=rfl;have hl:x.cells.length=4:=rfl;obtain⟨h1,h2,h3,h4⟩:=ih i (by simpa using h);rw[e,List.getElem?_append_right (by omega),List.getElem?_append_right (by omega),List.getElem?_append_right (by omega),List.getElem?_append_right (by omega),hl,show(i+1)*4-4=i*4 by omega,show(i+1)*4+1-4=i*4+1 by omega,show(i+1)*4+2-4=i*4+2 by omega,show(i+1)*4+3-4=i*4+3 by omega];simpa[List.getD]using⟨h1,h2,h3,h4⟩
def TxnsAt(w:World)(v:Value)(ds:List TxnD):Prop:=
 ∃a cap ps,v=.slice a ds.length cap∧ps.map TxnP.d=ds∧Lies w a (z0M ps)∧∀p∈ps,ActRow w p.a p.d.acts
theorem TxnsAt.below{w w':World}{v:Value}{ds:List TxnD}(h:TxnsAt w v ds)(hb:Below w.heap.size w w'):TxnsAt w' v ds:=by
 obtain⟨a,cap,ps,e,hd,hL,hA⟩:=h;exact⟨a,cap,ps,e,hd,hL.below hb,fun p hp=>(hA p hp).below hb⟩
theorem TxnsAt.shape{w:World}{v:Value}{ds:List TxnD}(h:TxnsAt w v ds):∃a cap,v=.slice a ds.length cap:=by
 obtain⟨a,cap,_,e,_⟩:=h;exact⟨a,cap,e⟩
theorem TxnsAt.at{w:World}{a:Option Addr}{n cap:Nat}{ds:List TxnD}(h:TxnsAt w (.slice a n cap) ds)(i:Nat)(hi:i<ds.length):
  ∃b off aa cc,a=some ⟨b,off,none⟩∧b<w.heap.size∧w.cell? ⟨b,off+i*4,none⟩=some (.int .i64 (ds.getD i z0l).id)∧w.cell? ⟨b,off+i*4+1,none⟩=some (.int .i64 (ds.getD i z0l).session)∧w.cell? ⟨b,off+i*4+2,none⟩=some (.int .i64 (ds.getD i z0l).seq)∧
   w.cell? ⟨b,off+i*4+3,none⟩=some (.slice aa (ds.getD i z0l).acts.length cc)∧ActRow w aa (ds.getD i z0l).acts:=by
 obtain⟨a',cap',ps,e,hd,hL,hA⟩:=h;simp only[Value.slice.injEq]at e;obtain⟨rfl,_,_⟩:=e;have hl:ps.length=ds.length:=by rw[←hd];simp
 obtain⟨h1,h2,h3,h4⟩:=z6y ps i (by omega);have hp:(ps.getD i z3C).d=ds.getD i z0l:=by
  rw[←hd];simp[List.getD,show i<ps.length by omega]
 have hm:ps.getD i z3C∈ps:=by simp[List.getD,show i<ps.length by omega]
 rcases hL with h|⟨b,off,ha,hlt,hc⟩
 ·have:=z4n ps;rw[h]at this;simp at this;omega
 ·have hAA:=hA _ hm;rw[hp]at hAA h1 h2 h3;refine⟨b,off,(ps.getD i z3C).a,(ps.getD i z3C).cap,ha,hlt,hc _ _ h1,by rw[Nat.add_assoc];exact hc _ _ h2,by rw[Nat.add_assoc];exact hc _ _ h3,?_,hAA⟩;rw[Nat.add_assoc,hc _ _ h4];simp only[TxnP.sl,hp]
def OwnTxns(lo hi:Nat)(w:World)(v:Value)(ds:List TxnD):Prop:=
 ∃g cap ps,v=.slice (some ⟨g,0,none⟩) ds.length cap∧g<hi∧ps.map TxnP.d=ds∧w.ownsRow lo 82 4 (.slice (some ⟨g,0,none⟩) ds.length cap) ds.length (z0M ps)∧
  ∀p∈ps,w.ownsRow lo 118 3 p.sl p.d.acts.length (z0q p.d.acts)∧∀k,p.sl.ownBlock=some k→k<hi∧k≠g
theorem OwnTxns.row{lo hi:Nat}{w:World}{v:Value}{ds:List TxnD}(h:OwnTxns lo hi w v ds):TxnsAt w v ds:=by
 obtain⟨g,cap,ps,e,_,hd,ho,hp⟩:=h;exact⟨_,cap,ps,e,hd,Lies.own ho,fun p hm=>Lies.own (hp p hm).1⟩
theorem OwnTxns.below{lo hi:Nat}{w w':World}{v:Value}{ds:List TxnD}(h:OwnTxns lo hi w v ds)(hb:Below w.heap.size w w'):OwnTxns lo hi w' v ds:=by
 obtain⟨g,cap,ps,e,hg,hd,ho,hp⟩:=h;exact⟨g,cap,ps,e,hg,hd,z0d ho hb,fun p hm=>⟨z0d (hp p hm).1 hb,(hp p hm).2⟩⟩
def z47(ds:List TxnD):Nat:=(ds.map (fun d=>d.acts.length)).sum
theorem z08{ds:List TxnD}{d:TxnD}(h:d∈ds):d.acts.length≤z47 ds:=by
 induction ds with
 |nil=>simp at h
 |cons x r ih=>
  simp only[z47,List.map_cons,List.sum_cons]at ih⊢;rcases List.mem_cons.1 h with rfl|h
  ·omega
  ·have:=ih h;omega
theorem z09:(Tryz.prog.info? 82).map (fun i=>(i.zero,i.size,i.bytes))=some (some (.agg #[.int .i64 0,.int .i64 0,.int .i64 0,.slice none 0 0]),4,48):=by kernel_rfl
theorem z0i{w:World}{base e n s g j:Nat}{v u:Value}{xs:List Value}(h:w.ownsRow base e s v n xs)(hne:∀k,v.ownBlock=some k→k≠g):(w.setCell ⟨g,j,none⟩ u).ownsRow base e s v n xs:=by
 refine⟨h.1,?_⟩;rcases h.2 with h2|⟨g',cap,cur,hv,hg,hh,r⟩
 ·exact Or.inl h2
 ·exact Or.inr ⟨g',cap,cur,hv,hg,by rw[Below.heap_setCell _ _ _ _ (by have:=hne g' (by rw[hv];rfl);omega)];exact hh,r⟩
def intK:Kind Int where
 ty:=2
 size:=1
 cells n:=[.int .i64 n]
 own _ _:=True
 rd _ _:=True
 foot _:=[]
 len _:=rfl
 own_rd _:=trivial
 own_out _ _ _:=trivial
 own_lt _ k hk:=by simp at hk
 rd_below _ _:=trivial
def actK:Kind ActD where
 ty:=118
 size:=3
 cells:=ActD.cells
 own _ _:=True
 rd _ _:=True
 foot _:=[]
 len _:=rfl
 own_rd _:=trivial
 own_out _ _ _:=trivial
 own_lt _ k hk:=by simp at hk
 rd_below _ _:=trivial
structure TxnQ where
 i:Int
 s:Int
 q:Int
 va:Value
 acts:List ActD
def txnK:Kind TxnQ where
 ty:=82
 size:=4
 cells p:=[.int .i64 p.i,.int .i64 p.s,.int .i64 p.q,p.va]
 own w p:=actK.Own w p.va p.acts
 rd w p:=actK.At w p.va p.acts
 foot p:=actK.fp p.va p.acts
 len _:=rfl
 own_rd h:=h.at
 own_out h ho hd:=h.out ho hd
 own_lt h:=h.lt
 rd_below h hb:=h.below hb
def TxnQ.e(p:TxnQ):TxnD:=⟨p.i,p.s,p.q,p.acts⟩
def TxnD.n(d:TxnD):Nat:=d.acts.length
def q4y(ds:List TxnD):Nat:=ds.length+nmL TxnD.n ds
structure RoundQ where
 vr:Value
 rep:List Int
 vp:Value
 pro:List Int
def roundK:Kind RoundQ where
 ty:=78
 size:=2
 cells p:=[p.vr,p.vp]
 own w p:=intK.Own w p.vr p.rep∧intK.Own w p.vp p.pro
 rd w p:=intK.At w p.vr p.rep∧intK.At w p.vp p.pro
 foot p:=intK.fp p.vr p.rep++intK.fp p.vp p.pro
 len _:=rfl
 own_rd h:=⟨h.1.at,h.2.at⟩
 own_out h ho hd:=⟨h.1.out ho (fun k hk=>hd k (List.mem_append_left _ hk)),h.2.out ho (fun k hk=>hd k (List.mem_append_right _ hk))⟩
 own_lt h k hk:=by
  rcases List.mem_append.1 hk with hk|hk
  ·exact h.1.lt k hk
  ·exact h.2.lt k hk
 rd_below h hb:=⟨h.1.below hb,h.2.below hb⟩
structure InstQ where
 has:Bool
 vb:Value
 batch:List TxnQ
 vr:Value
 rounds:List RoundQ
 vd:Value
 dec:List Int
def instK:Kind InstQ where
 ty:=44
 size:=4
 cells p:=[.bool p.has,p.vb,p.vr,p.vd]
 own w p:=txnK.Own w p.vb p.batch∧roundK.Own w p.vr p.rounds∧intK.Own w p.vd p.dec
 rd w p:=txnK.At w p.vb p.batch∧roundK.At w p.vr p.rounds∧intK.At w p.vd p.dec
 foot p:=txnK.fp p.vb p.batch++(roundK.fp p.vr p.rounds++intK.fp p.vd p.dec)
 len _:=rfl
 own_rd h:=⟨h.1.at,h.2.1.at,h.2.2.at⟩
 own_out h ho hd:=⟨h.1.out ho (fun k hk=>hd k (List.mem_append_left _ hk)),h.2.1.out ho (fun k hk=>hd k (List.mem_append_right _ (List.mem_append_left _ hk))),h.2.2.out ho (fun k hk=>hd k (List.mem_append_right _ (List.mem_append_right _ hk)))⟩
 own_lt h k hk:=by
  rcases List.mem_append.1 hk with hk|hk
  ·exact h.1.lt k hk
  ·rcases List.mem_append.1 hk with hk|hk
   ·exact h.2.1.lt k hk
   ·exact h.2.2.lt k hk
 rd_below h hb:=⟨h.1.below hb,h.2.1.below hb,h.2.2.below hb⟩
structure RoundE where
 rep:List Int
 pro:List Int
structure InstE where
 has:Bool
 batch:List TxnD
 rounds:List RoundE
 dec:List Int
def RoundQ.e(p:RoundQ):RoundE:=⟨p.rep,p.pro⟩
def InstQ.e(p:InstQ):InstE:=⟨p.has,p.batch.map TxnQ.e,p.rounds.map RoundQ.e,p.dec⟩
def RoundE.n(d:RoundE):Nat:=d.rep.length+d.pro.length
def q2P(ds:List RoundE):Nat:=ds.length+nmL RoundE.n ds
def InstE.n(d:InstE):Nat:=q4y d.batch+q2P d.rounds+d.dec.length
theorem z5J(zs:List Int):intK.row zs=zs.map (Value.int .i64):=by
 induction zs with
 |nil=>rfl
 |cons z r ih=>
  simp only[Kind.row,List.flatMap_cons,List.map_cons]at ih⊢;rw[ih];rfl
theorem z7E{w:World}{a:Option Addr}{zs:List Int}(h:Lies w a (zs.map (Value.int .i64))):Row .i64 w a zs:=by
 intro i hi;rcases h with h|⟨b,off,ha,hlt,hc⟩
 ·have:=congrArg List.length h;rw[List.length_map,List.length_nil]at this;omega
 ·exact⟨b,off,ha,hlt,hc i _ (by simp[List.getD,hi])⟩
theorem z4o{w:World}{a:Option Addr}{zs:List Int}(h:Row .i64 w a zs):Lies w a (zs.map (Value.int .i64)):=by
 by_cases h0:zs=[]
 ·left;simp[h0]
 ·obtain⟨b,off,ha,hlt,_⟩:=h 0 (List.length_pos_iff.2 h0);right;refine⟨b,off,ha,hlt,fun i x hx=>?_⟩;have hi:i<zs.length:=by
   have:=(List.getElem?_eq_some_iff.1 hx).1;simpa using this
  obtain⟨b',off',ha',_,hc⟩:=h i hi;rw[ha]at ha';simp only[Option.some.injEq,Addr.mk.injEq,and_true]at ha';obtain⟨rfl,rfl⟩:=ha';rw[hc];simp[hi]at hx;rw[←hx];simp[List.getD,hi]
theorem z0m{w:World}{a:Option Addr}{n cap:Nat}{zs:List Int}(h:intK.At w (.slice a n cap) zs):n=zs.length∧Row .i64 w a zs:=by
 obtain⟨a',c,e,hl,_⟩:=h;simp only[Value.slice.injEq]at e;obtain⟨rfl,rfl,_⟩:=e;rw[z5J]at hl;exact⟨rfl,z7E hl⟩
theorem z0O{w:World}{a:Option Addr}{n cap:Nat}{zs:List ActD}(h:actK.At w (.slice a n cap) zs):n=zs.length∧ActRow w a zs:=by
 obtain⟨a',c,e,hl,_⟩:=h;simp only[Value.slice.injEq]at e;obtain⟨rfl,rfl,_⟩:=e;exact⟨rfl,hl⟩
theorem q2Q{w:World}{a:Option Addr}{cap:Nat}{zs:List ActD}(h:ActRow w a zs):actK.At w (.slice a zs.length cap) zs:=⟨a,cap,rfl,h,fun _ _=>trivial⟩
theorem z7F(v:Value)(zs:List Int):intK.fp v zs=blk v:=by
 have:zs.flatMap intK.foot=[]:=by rw[List.flatMap_eq_nil_iff];intro _ _;rfl
 simp[Kind.fp,this]
theorem z05(v:Value)(zs:List ActD):actK.fp v zs=blk v:=by
 have:zs.flatMap actK.foot=[]:=by rw[List.flatMap_eq_nil_iff];intro _ _;rfl
 simp[Kind.fp,this]
theorem z0w(v:Value):(blk v).Nodup:=by unfold blk;cases v.ownBlock<;>simp
theorem z0y{w:World}{base e s n:Nat}{v:Value}{xs:List Value}(h:w.ownsRow base e s v n xs):w.ownsRow 0 e s v n xs∧∀k∈blk v,base≤k:=⟨z0p h (Nat.zero_le _),fun k hk=>(h.lt k (by simpa[blk]using hk)).1⟩
theorem z5K(v:Value)(zs:List Int)(w:World)(h:intK.At w v zs)(hl:zs.length≤1048576):
  Calls Tryz.prog 59 #[v] w fun e w'=>∃v',e=.returned v'∧intK.Own w' v' zs∧(intK.fp v' zs).Nodup∧(∀k∈intK.fp v' zs,w.heap.size≤k)∧Below w.heap.size w w':=by
 obtain⟨a,cap,rfl⟩:=h.shape;refine(q2F a cap zs w (z0m h).2 hl).mono ?_;rintro e w' ⟨g,c,rfl,ho,hb⟩;obtain⟨o,hk⟩:=z0y ho;refine⟨_,rfl,⟨by rw[z5J];exact o,fun _ _=>trivial⟩,?_,?_,hb⟩
 ·rw[z7F];exact z0w _
 ·rw[z7F];exact hk
theorem z5L(v v':Value)(zs:List Int)(w:World)(h:intK.At w v zs)(h':intK.At w v' zs)(hl:zs.length≤1048576):
  Calls Tryz.prog 73 #[v,v'] w fun e w'=>e=.returned (.bool true)∧Below w.heap.size w w':=by
 obtain⟨a,cap,rfl⟩:=h.shape;obtain⟨a',cap',rfl⟩:=h'.shape;refine(q1s a a' cap cap' zs w (z0m h).2 (z0m h').2 (by omega)).mono ?_;rintro e w' ⟨rfl,n,hw⟩;exact⟨rfl,by subst hw;exact below_drewN (Below.refl _ _) n⟩
theorem z0W{P:Type}(nm:P→Nat)(ps:List P)(k:Nat)(h:k<ps.length):nm ps[k]≤nmL nm ps:=by
 have h1:=z2h nm ps k h;have h2:=z5r nm ps (k+1);omega
def TxnQ.n(p:TxnQ):Nat:=p.acts.length
def TxnQ.wf(p:TxnQ):Prop:=p.acts.length≤9223372036854775807
theorem q2R(p:TxnQ)(c:Int)(w:World)(h:txnK.rd w p)(hn:TxnQ.wf p)(h0:0≤c)(h1:c≤1048576):
  Calls Tryz.prog 75 #[.agg #[.int .i64 p.i,.int .i64 p.s,.int .i64 p.q,p.va],.int .i64 c] w fun e w'=>∃r:Int,e=.returned (.int .i64 r)∧(¬r<0→(TxnQ.n p:Int)+r=c)∧Below w.heap.size w w':=by
 obtain⟨i,s,q,va,acts⟩:=p;have h:actK.At w va acts:=h;obtain⟨a,cap,rfl⟩:=h.shape;refine(z9W i s q a acts.length cap c w hn h0 (by omega)).mono ?_;rintro e w' ⟨rfl,hb⟩;refine⟨_,rfl,?_,hb⟩;dsimp only[TxnQ.n];split<;>omega
theorem q2S(p p':TxnQ)(w:World)(h:txnK.rd w p)(h':txnK.rd w p')(he:p.e=p'.e)(hl:TxnQ.n p≤1048576):
  Calls Tryz.prog 96 #[.agg #[.int .i64 p.i,.int .i64 p.s,.int .i64 p.q,p.va],.agg #[.int .i64 p'.i,.int .i64 p'.s,.int .i64 p'.q,p'.va]] w fun e w'=>e=.returned (.bool true)∧Below w.heap.size w w':=by
 obtain⟨i,s,q,va,acts⟩:=p;obtain⟨i',s',q',va',acts'⟩:=p';simp only[TxnQ.e,TxnD.mk.injEq]at he;obtain⟨rfl,rfl,rfl,rfl⟩:=he;have h:actK.At w va acts:=h;have h':actK.At w va' acts:=h';obtain⟨a,cap,rfl⟩:=h.shape;obtain⟨a',cap',rfl⟩:=h'.shape;have hl:acts.length≤1048576:=hl;exact z8Z i s q a a' cap cap' acts w (z0O h).2 (z0O h').2 (by omega)
theorem q2T(p:TxnQ)(w:World)(h:txnK.rd w p)(hl:TxnQ.n p≤1048576):
  Calls Tryz.prog 87 #[.agg #[.int .i64 p.i,.int .i64 p.s,.int .i64 p.q,p.va]] w fun e w'=>∃p':TxnQ,e=.returned (.agg #[.int .i64 p'.i,.int .i64 p'.s,.int .i64 p'.q,p'.va])∧p'.e=p.e∧txnK.own w' p'∧(txnK.foot p').Nodup∧(∀k∈txnK.foot p',w.heap.size≤k)∧Below w.heap.size w w':=by
 obtain⟨i,s,q,va,acts⟩:=p;have h:actK.At w va acts:=h;obtain⟨a,cap,rfl⟩:=h.shape;refine(z9X i s q a cap acts w (z0O h).2 hl).mono ?_;rintro e w' ⟨g,c,rfl,ho,hb⟩;obtain⟨o,hk⟩:=z0y ho;refine⟨⟨i,s,q,_,acts⟩,rfl,rfl,⟨o,fun _ _=>trivial⟩,?_,?_,hb⟩
 ·show(actK.fp _ acts).Nodup;rw[z05];exact z0w _
 ·intro k hk2;have hk2:k∈actK.fp _ acts:=hk2;rw[z05]at hk2;exact hk k hk2
theorem z5M(v:Value)(ps:List TxnQ)(c:Int)(w:World)(h:txnK.At w v ps)(hn:ps.length≤9223372036854775807)(J:∀p∈ps,TxnQ.wf p)(h0:0≤c)(h1:c≤1048576):
  Calls Tryz.prog 49 #[v,.int .i64 c] w fun e w'=>∃r:Int,e=.returned (.int .i64 r)∧(¬r<0→((ps.length+nmL TxnQ.n ps:Nat):Int)+r=c)∧Below w.heap.size w w':=by
 obtain⟨a,cap,rfl⟩:=h.shape;by_cases U:c-ps.length<0
 ·go_enter Tryz.func49,Tryz.ntmps49
  go_wp2
  go_ret;exact⟨_,rfl,fun h=>by omega,Below.refl _ _⟩
 ·go_enter Tryz.func49,Tryz.ntmps49
  go_wp2
  go_loopw[1,5] (fun l i wr=>∃ (k:Nat) (x:Int),k≤ps.length∧i=.int .i64 k∧l=.int .i64 x∧0≤x∧x≤1048576∧Hid (ps.length+nmL TxnQ.n (ps.take k)+x=c)∧Below w.heap.size w wr) (fun _ i _=>ps.length-(intOf i).toNat)
  case atStart=>exact⟨0,c-ps.length,Nat.zero_le _,rfl,by go_num,by omega,by omega,show _=_ by simp[nmL];omega,Below.refl _ _⟩
  case round=>
   obtain⟨k,x,hk,rfl,rfl,N,O,HS,hb⟩:=hrel;by_cases z:k<ps.length
   ·obtain⟨b,T,rfl,W,hc,M⟩:=(h.below hb).cell (by decide) k z;have d:∀j x,(txnK.cells ps[k])[j]?=some x→wr.cell? ⟨b,T+k*4+j,none⟩=some x:=hc;have c0:=d 0 (.int .i64 ps[k].i) rfl;have c1:=d 1 (.int .i64 ps[k].s) rfl;have c2:=d 2 (.int .i64 ps[k].q) rfl;have c3:=d 3 (ps[k].va) rfl;have hs:=z2h TxnQ.n ps k z;have HN:=J _ (List.getElem_mem z);have A:Hid (∀y:Int,(TxnQ.n ps[k]:Int)+y=x→ps.length+nmL TxnQ.n (ps.take (k+1))+y=c):=by
     intro y hy;have:=HS.out;omega
    clear HS hs hc d;generalize ps[k]=p at*;have E:=q2R p x wr M HN N O;generalize TxnQ.n p=m at*;rw[Nat.add_zero]at c0
    go_wp2_with fail
    refine E.mono ?_;rintro e w2 ⟨r,rfl,hr,C⟩;replace hb:=hb.trans (C.mono hb.size);clear C E c0 c1 c2 c3;by_cases V:r<0
    ·go_wp2
     go_ret;exact⟨_,rfl,fun h=>by omega,hb⟩
    ·have D:=hr (by omega);have HR:Hid (ps.length+nmL TxnQ.n (ps.take (k+1))+r=c):=A.out r D;have L:r≤1048576:=by omega
     clear A hr D
     go_wp2
     go_roundw
     case rel=>exact⟨k+1,r,by omega,by go_num,rfl,by omega,L,HR.out,hb⟩
     case measure=>simp[intOf];omega
   ·have I:k=ps.length:=by omega
    subst I;rw[List.take_length]at HS
    go_wp2
    go_ret;exact⟨_,rfl,fun _=>by have:=HS.out;omega,hb⟩
theorem z5N(v v':Value)(ps qs:List TxnQ)(w:World)(h:txnK.At w v ps)(h':txnK.At w v' qs)(he:ps.map TxnQ.e=qs.map TxnQ.e)(hl:(ps.length+nmL TxnQ.n ps)≤1048576):
  Calls Tryz.prog 71 #[v,v'] w fun e w'=>e=.returned (.bool true)∧Below w.heap.size w w':=by
 obtain⟨a,cap,rfl⟩:=h.shape;obtain⟨a',T,rfl⟩:=h'.shape;have y:qs.length=ps.length:=by
  have:=congrArg List.length he;simpa using this.symm
 rw[y]at h'⊢;have HL:Hid (qs.length=ps.length):=y;clear y;go_enter Tryz.func71,Tryz.ntmps71
 go_wp2
 go_loopw[5] (fun i wr=>∃k:Nat,k≤ps.length∧i=.int .i64 k∧Below w.heap.size w wr) (fun i _=>ps.length-(intOf i).toNat)
 case atStart=>exact⟨0,Nat.zero_le _,rfl,Below.refl _ _⟩
 case round=>
  obtain⟨k,hk,rfl,hb⟩:=hrel;by_cases C:k<ps.length
  ·have z:k<qs.length:=by have:=HL.out;omega
   obtain⟨b,O,rfl,V,hc,J⟩:=(h.below hb).cell (by decide) k C;obtain⟨b',L,rfl,U,hd,A⟩:=(h'.below hb).cell (by decide) k z;have c:∀j x,(txnK.cells ps[k])[j]?=some x→wr.cell? ⟨b,O+k*4+j,none⟩=some x:=hc;have d:∀j x,(txnK.cells qs[k])[j]?=some x→wr.cell? ⟨b',L+k*4+j,none⟩=some x:=hd;have c0:=c 0 (.int .i64 ps[k].i) rfl;have d0:=d 0 (.int .i64 qs[k].i) rfl;have c1:=c 1 (.int .i64 ps[k].s) rfl;have d1:=d 1 (.int .i64 qs[k].s) rfl;have c2:=c 2 (.int .i64 ps[k].q) rfl;have d2:=d 2 (.int .i64 qs[k].q) rfl;have c3:=c 3 (ps[k].va) rfl;have d3:=d 3 (qs[k].va) rfl;have I:TxnQ.e ps[k]=TxnQ.e qs[k]:=by
    have:=congrArg (·[k]?) he;simpa[C,z]using this
   have N:=z0W TxnQ.n ps k C;clear hc c hd d;generalize ps[k]=p at*;generalize qs[k]=p' at*;have D:=fun w h1 h2=>q2S p p' w h1 h2 I (show TxnQ.n p≤1048576 by omega)
   clear I N;rw[Nat.add_zero]at c0 d0;have k0:=z0a c0;have l0:=z0a d0;have k1:=z0a c1;have l1:=z0a d1;have k2:=z0a c2;have l2:=z0a d2;have k3:=z0a c3;have l3:=z0a d3;clear c0 d0 c1 d1 c2 d2 c3 d3;have hW:Below wr.heap.size wr wr.drew:=(Below.refl _ _).drew;have M:Nonempty (Lat wr):=⟨⟨wr,Below.refl _ _⟩⟩
   go_wp2_with fail
   refine z0b (S:=fun w'=>∃u:Lat wr,w'=u.val) (by kernel_rfl) ?_;refine sgr [(0,8)] 2 (by kernel_rfl) ⟨⟨_,hW⟩,rfl⟩ ?_;simp only[pkE];repeat go_big_quiet_step (fail)
   refine wpQuiet_nil ?_;refine cla 8 (some 25) 96 #[.agg #[.int .i64 p.i,.int .i64 p.s,.int .i64 p.q,p.va],.agg #[.int .i64 p'.i,.int .i64 p'.s,.int .i64 p'.q,p'.va]] 1 (by kernel_rfl) ?_;refine(D _ (txnK.rd_below J hW) (txnK.rd_below A hW)).mono ?_;rintro e w2 ⟨rfl,E⟩;replace hW:=hW.trans (E.mono hW.size);clear E;refine⟨_,rfl,⟨⟨_,hW⟩,rfl⟩,?_⟩;simp only[Act.put,pjE];refine sgr [(9,1)] 0 (by kernel_rfl) ⟨⟨_,hW⟩,rfl⟩ ?_;simp only[pkE];repeat go_big_quiet_step (fail)
   refine wpQuiet_nil ?_;refine z0f (by kernel_rfl) ?_;replace hb:=hb.trans (hW.mono hb.size);clear k0 l0 k1 l1 k2 l2 k3 l3 hW M J A D
   go_wp2
   go_roundw
   case rel=>exact⟨k+1,by omega,by go_num,hb⟩
   case measure=>simp[intOf];omega
  ·go_wp2
   go_ret;exact⟨rfl,hb⟩
theorem z5O(v:Value)(ps:List TxnQ)(w:World)(h:txnK.At w v ps)(hl:(ps.length+nmL TxnQ.n ps)≤1048576):
  Calls Tryz.prog 57 #[v] w fun e w'=>∃v' qs,e=.returned v'∧qs.map TxnQ.e=ps.map TxnQ.e∧txnK.Own w' v' qs∧(txnK.fp v' qs).Nodup∧(∀k∈txnK.fp v' qs,w.heap.size≤k)∧Below w.heap.size w w':=by
 obtain⟨a,cap,rfl⟩:=h.shape;obtain⟨i0,hi,ao,ap,aq⟩:=info_parts z09;have M:i0.bytes*ps.length≤281474976710656:=by rw[aq];omega
 have ae:ps.length≤maxLen:=by unfold maxLen;omega
 go_enter Tryz.func57,Tryz.ntmps57
 go_wp2_with (at_make;refine wpList_make_full _ rfl _ _ 40 rfl w.heap.size 82 i0 (.agg #[.int .i64 0,.int .i64 0,.int .i64 0,.slice none 0 0]) 4 Tryz.underlying40 hi ao ap _ _ _ _ ps.length rfl rfl rfl rfl M ae (Nat.le_refl _) ?_)
 intro w1 O I;have Z:Below w.heap.size w w1:=(Below.refl _ _).grown I (Nat.le_refl _) (by simp);have hO:txnK.Own w1 (.slice (some ⟨w.heap.size,0,none⟩) ps.length ps.length) (List.replicate ps.length (⟨0,0,0,.slice none 0 0,[]⟩:TxnQ)):=by
  refine⟨?_,fun p hp=>?_⟩
  ·rw[List.length_replicate,←z2M (⟨0,0,0,.slice none 0 0,[]⟩:TxnQ) _ (by decide)];exact z0p O (Nat.zero_le _)
  ·rw[(List.mem_replicate.1 hp).2];exact⟨World.ownsRow_nil _ _ _ _,fun p hp=>by simp at hp⟩
 have hF:txnK.fp (.slice (some ⟨w.heap.size,0,none⟩) ps.length ps.length) (List.replicate ps.length (⟨0,0,0,.slice none 0 0,[]⟩:TxnQ))=[w.heap.size]:=z6x rfl;have HN:Hid ((txnK.fp (.slice (some ⟨w.heap.size,0,none⟩) ps.length ps.length) (List.replicate ps.length (⟨0,0,0,.slice none 0 0,[]⟩:TxnQ))).Nodup):=by rw[hF];show List.Nodup _;simp
 have HG:Hid (∀x∈txnK.fp (.slice (some ⟨w.heap.size,0,none⟩) ps.length ps.length) (List.replicate ps.length (⟨0,0,0,.slice none 0 0,[]⟩:TxnQ)),w.heap.size≤x):=by rw[hF];intro x hx;simp at hx;omega
 have HZ:Hid (∀j (hj:j<(List.replicate ps.length (⟨0,0,0,.slice none 0 0,[]⟩:TxnQ)).length),0≤j→(List.replicate ps.length (⟨0,0,0,.slice none 0 0,[]⟩:TxnQ))[j]=(⟨0,0,0,.slice none 0 0,[]⟩:TxnQ)):=fun j hj _=>by simp
 have af:(List.replicate ps.length (⟨0,0,0,.slice none 0 0,[]⟩:TxnQ)).length=ps.length:=by simp
 clear O I hF;generalize List.replicate ps.length (⟨0,0,0,.slice none 0 0,[]⟩:TxnQ)=aj at*;have HE:Hid ((aj.take 0).map TxnQ.e=(ps.take 0).map TxnQ.e):=show _=_ by simp
 go_wp2
 go_loopw [4] (fun i wr=>∃ (k:Nat) (qs:List TxnQ),k≤ps.length∧i=.int .i64 k∧Hid (qs.length=ps.length)∧Hid ((qs.take k).map TxnQ.e=(ps.take k).map TxnQ.e)∧Hid (∀ j (hj:j < qs.length),k≤j→qs[j]=(⟨0,0,0,.slice none 0 0,[]⟩:TxnQ))∧txnK.Own wr (.slice (some ⟨w.heap.size,0,none⟩) ps.length ps.length) qs ∧
  Hid ((txnK.fp (.slice (some ⟨w.heap.size,0,none⟩) ps.length ps.length) qs).Nodup)∧Hid (∀ x∈txnK.fp (.slice (some ⟨w.heap.size,0,none⟩) ps.length ps.length) qs,w.heap.size≤x)∧Below w.heap.size w wr) (fun i _=>ps.length - (intOf i).toNat)
 case atStart=>exact⟨0,aj,Nat.zero_le _,rfl,af,HE,HZ,hO,HN,HG,Z⟩
 case round=>
  clear HE HZ hO HN HG Z af;obtain⟨k,qs,hk,rfl,HQ,HE,HZ,hO,HN,HG,hb⟩:=hrel;by_cases W:k<ps.length
  ·have c:k<qs.length:=by have:=HQ.out;omega
   have D:=HZ.out k c (Nat.le_refl _);obtain⟨b,ar,rfl,au,hc,ag⟩:=(h.below hb).cell (by decide) k W;have E:∀j x,(txnK.cells ps[k])[j]?=some x→wr.cell? ⟨b,ar+k*4+j,none⟩=some x:=hc;have c0:=E 0 (.int .i64 ps[k].i) rfl;have c1:=E 1 (.int .i64 ps[k].s) rfl;have c2:=E 2 (.int .i64 ps[k].q) rfl;have c3:=E 3 (ps[k].va) rfl;have ax:=z0W TxnQ.n ps k W;have Y:Hid (∀p':TxnQ,p'.e=TxnQ.e ps[k]→((qs.set k p').take (k+1)).map TxnQ.e=(ps.take (k+1)).map TxnQ.e):=by
    intro p' am;have h1:=HE.out;rw[List.take_succ_eq_append_getElem W,List.take_succ_eq_append_getElem (show k<(qs.set k p').length by simpa using c)];simp only[List.map_append,List.map_cons,List.map_nil,List.getElem_set_self,am,List.take_set_of_le (Nat.le_refl k),h1]
   clear hc E;generalize ps[k]=p at*;have ah:=q2T p wr ag (by omega);rw[Nat.add_zero]at c0
   go_wp2_with fail
   refine ah.mono ?_;rintro e w2 ⟨p',rfl,X,d,J,y,aa⟩;obtain⟨x0,x1,x2,x3,y3⟩:=p';have o3:actK.Own w2 x3 y3:=d;obtain⟨a3,b3,rfl⟩:=o3.shape;clear o3;dsimp only;generalize hP:(⟨x0,x1,x2,.slice a3 y3.length b3,y3⟩:TxnQ)=p' at X d J y;have U:txnK.cells p'=[.int .i64 x0,.int .i64 x1,.int .i64 x2,.slice a3 y3.length b3]:=by rw[←hP];rfl
   have z:=hO.below aa;obtain⟨e0,f0⟩:=z.cell k c 0 _ (by rw[D];rfl);obtain⟨e1,f1⟩:=z.cell k c 1 _ (by rw[D];rfl);obtain⟨e2,f2⟩:=z.cell k c 2 _ (by rw[D];rfl);obtain⟨e3,f3⟩:=z.cell k c 3 _ (by rw[D];rfl);have ad:∀j,k*txnK.size+j=k*4+j:=fun j=>rfl
   rw[ad]at e0 f0 e1 f1 e2 f2 e3 f3;rw[Nat.add_zero]at e0 f0;have A:=z.1;have hQ:=HQ.out;rw[hQ]at A;have C:=z1m A (k*4) [.int .i64 x0,.int .i64 x1,.int .i64 x2,.slice a3 y3.length b3];rw[←U]at C;have V:∀x∈txnK.fp (.slice (some ⟨w.heap.size,0,none⟩) ps.length ps.length) qs,x<wr.heap.size:=hO.lt;have ab:w.heap.size∈txnK.fp (.slice (some ⟨w.heap.size,0,none⟩) ps.length ps.length) qs:=by simp[Kind.fp,blk,Value.ownBlock]
   have av:w.heap.size<wr.heap.size:=V _ ab;have L:=HN.out;have N:∀x∈txnK.foot p',x∉txnK.fp (.slice (some ⟨w.heap.size,0,none⟩) ps.length ps.length) qs:=fun x hx an=>by have:=y x hx;have:=V x an;omega
   have T:txnK.Own ((((w2.setCell ⟨w.heap.size,k*4,none⟩ (.int .i64 x0)).setCell ⟨w.heap.size,k*4+1,none⟩ (.int .i64 x1)).setCell ⟨w.heap.size,k*4+2,none⟩ (.int .i64 x2)).setCell ⟨w.heap.size,k*4+3,none⟩ (.slice a3 y3.length b3)) (.slice (some ⟨w.heap.size,0,none⟩) ps.length ps.length) (qs.set k p'):=by
    refine Kind.Own.put z k c p' ?_ ((((Out.setCell _ _ _ _).trans (Out.setCell _ _ _ _)).trans (Out.setCell _ _ _ _)).trans (Out.setCell _ _ _ _)) ?_ d ?_
    ·rw[hQ];rw[U]at C⊢;exact C
    ·intro q hq x hx ai;simp only[Kind.fp,blk,Value.ownBlock,Option.toList,List.cons_append,List.nil_append,List.nodup_cons]at L;exact L.1 (List.mem_flatMap.2 ⟨q,hq,ai▸hx⟩)
    ·intro x hx ai;have:=y x hx;omega
   have R:Hid (txnK.Own ((((w2.setCell ⟨w.heap.size,k*4,none⟩ (.int .i64 x0)).setCell ⟨w.heap.size,k*4+1,none⟩ (.int .i64 x1)).setCell ⟨w.heap.size,k*4+2,none⟩ (.int .i64 x2)).setCell ⟨w.heap.size,k*4+3,none⟩ (.slice a3 y3.length b3)) (.slice (some ⟨w.heap.size,0,none⟩) ps.length ps.length) (qs.set k p')∧Below w.heap.size w ((((w2.setCell ⟨w.heap.size,k*4,none⟩ (.int .i64 x0)).setCell ⟨w.heap.size,k*4+1,none⟩ (.int .i64 x1)).setCell ⟨w.heap.size,k*4+2,none⟩ (.int .i64 x2)).setCell ⟨w.heap.size,k*4+3,none⟩ (.slice a3 y3.length b3))):=by
    refine⟨T,?_⟩;have ak:=hb.trans (aa.mono hb.size);exact((((ak.setCell (p:=⟨w.heap.size,k*4,none⟩) (Nat.le_refl _) _).setCell (p:=⟨w.heap.size,k*4+1,none⟩) (Nat.le_refl _) _).setCell (p:=⟨w.heap.size,k*4+2,none⟩) (Nat.le_refl _) _).setCell (p:=⟨w.heap.size,k*4+3,none⟩) (Nat.le_refl _) _)
   have R1:Hid ((txnK.fp (.slice (some ⟨w.heap.size,0,none⟩) ps.length ps.length) (qs.set k p')).Nodup):=z12 L k c p' (by rw[D];rfl) J N;have R2:Hid (∀x∈txnK.fp (.slice (some ⟨w.heap.size,0,none⟩) ps.length ps.length) (qs.set k p'),w.heap.size≤x):=by
    intro x hx;simp only[Kind.fp,List.mem_append]at hx;rcases hx with hx|hx
    ·exact HG.out x (by simp only[Kind.fp,List.mem_append];exact Or.inl hx)
    ·rcases z1e c hx with hx|hx
     ·exact HG.out x (by simp only[Kind.fp,List.mem_append];exact Or.inr hx)
     ·have:=y x hx;omega
   have R3:Hid (∀j (hj:j<(qs.set k p').length),k+1≤j→(qs.set k p')[j]=(⟨0,0,0,.slice none 0 0,[]⟩:TxnQ)):=fun j hj aw=>by
    rw[List.getElem_set_ne (by omega)];exact HZ.out j (by simpa using hj) (by omega)
   have R4:Hid ((qs.set k p').length=ps.length):=by rw[List.length_set];exact HQ.out
   have R5:Hid (((qs.set k p').take (k+1)).map TxnQ.e=(ps.take (k+1)).map TxnQ.e):=Y.out p' X;clear T C A hQ z hO HN HG HZ HE HQ Y L N d J y V ab hb D ag ah X ad U hP
   go_wp2
   go_roundw
   case rel=>exact⟨k+1,qs.set k p',by omega,by go_num,R4.out,R5.out,R3.out,R.out.1,R1.out,R2.out,R.out.2⟩
   case measure=>simp[intOf];omega
  ·have al:k=ps.length:=by omega
   subst al;have hQ:=HQ.out;have hE:=HE.out;rw[List.take_length,List.take_of_length_le (by omega)]at hE;clear HE HZ
   go_wp2
   go_ret;exact⟨_,qs,rfl,hE,hO,HN.out,HG.out,hb⟩
def RoundQ.n(p:RoundQ):Nat:=p.rep.length+p.pro.length
def RoundQ.wf(p:RoundQ):Prop:=p.rep.length≤9223372036854775807∧p.pro.length≤9223372036854775807
theorem z9Z:(Tryz.prog.info? 78).map (fun i=>(i.zero,i.size,i.bytes))=some (some (.agg #[.slice none 0 0,.slice none 0 0]),2,48):=by kernel_rfl
theorem z5P(v:Value)(zs:List Int)(c:Int)(w:World)(h:intK.At w v zs)(hn:zs.length≤9223372036854775807)(h0:0≤c)(h1:c≤1048576):
  Calls Tryz.prog 51 #[v,.int .i64 c] w fun e w'=>∃r:Int,e=.returned (.int .i64 r)∧(¬r<0→(zs.length:Int)+r=c)∧Below w.heap.size w w':=by
 obtain⟨a,cap,rfl⟩:=h.shape;by_cases hbig:c-zs.length<0
 ·go_enter Tryz.func51,Tryz.ntmps51
  go_wp2
  go_ret;exact⟨_,rfl,fun h=>by omega,Below.refl _ _⟩
 ·go_enter Tryz.func51,Tryz.ntmps51
  go_wp2
  go_ret;exact⟨_,rfl,fun h=>by omega,Below.refl _ _⟩
theorem z90(p:RoundQ)(c:Int)(w:World)(h:roundK.rd w p)(hn:RoundQ.wf p)(h0:0≤c)(h1:c≤1048576):
  Calls Tryz.prog 76 #[.agg #[p.vr,p.vp],.int .i64 c] w fun e w'=>∃r:Int,e=.returned (.int .i64 r)∧(¬r<0→(RoundQ.n p:Int)+r=c)∧Below w.heap.size w w':=by
 obtain⟨vr,x,vp,d⟩:=p;obtain⟨D,E⟩:intK.At w vr x∧intK.At w vp d:=h;obtain⟨I,J⟩:x.length≤9223372036854775807∧d.length≤9223372036854775807:=hn;obtain⟨a0,k0,rfl⟩:=D.shape;obtain⟨a1,k1,rfl⟩:=E.shape;have B:=Blk.new w 128 #[.slice a0 x.length k0,.slice a1 d.length k1];have hB:Below w.heap.size w (w.alloc (.cells #[.slice a0 x.length k0,.slice a1 d.length k1] 128)):=by go_grown
 dsimp only[RoundQ.n];go_enter Tryz.func76,Tryz.ntmps76
 go_wp2_with fail
 generalize w.alloc (.cells #[.slice a0 x.length k0,.slice a1 d.length k1] 128)=W at*;refine(z5P _ x c W (D.below hB) I (by omega) (by omega)).mono ?_;rintro e w0 ⟨r0,rfl,L,y⟩;replace B:=B.below y;replace hB:=hB.trans (y.mono hB.size);clear y;by_cases A:r0<0
 ·go_wp2
  go_ret;exact⟨_,rfl,fun h=>by omega,hB⟩
 have N:=L A;clear L;have p1:=B.cell 1 _ rfl
 go_wp2_with fail
 clear p1;refine(z5P _ d r0 w0 (E.below hB) J (by omega) (by omega)).mono ?_;rintro e w1 ⟨r1,rfl,M,z⟩;replace B:=B.below z;replace hB:=hB.trans (z.mono hB.size);clear z;by_cases C:r1<0
 ·go_wp2
  go_ret;exact⟨_,rfl,fun h=>by omega,hB⟩
 have O:=M C;clear M
 go_wp2
 go_ret;exact⟨_,rfl,fun _=>by omega,hB⟩
theorem z91(p p':RoundQ)(w:World)(h:roundK.rd w p)(h':roundK.rd w p')(he:p.e=p'.e)(hl:RoundQ.n p≤1048576):
  Calls Tryz.prog 97 #[.agg #[p.vr,p.vp],.agg #[p'.vr,p'.vp]] w fun e w'=>e=.returned (.bool true)∧Below w.heap.size w w':=by
 obtain⟨vr,d,vp,c⟩:=p;obtain⟨O,M,N,L⟩:=p';simp only[RoundQ.e,RoundE.mk.injEq]at he;obtain⟨T,U⟩:=he;dsimp only[RoundQ.n]at hl;obtain⟨D,E⟩:intK.At w vr d∧intK.At w vp c:=h;obtain⟨z,A⟩:intK.At w O M∧intK.At w N L:=h';subst T;subst U;have I:=fun w h1 h2=>z5L vr O d w h1 h2 (by omega)
 have J:=fun w h1 h2=>z5L vp N c w h1 h2 (by omega)
 obtain⟨a0,k0,rfl⟩:=D.shape;obtain⟨b0,m0,rfl⟩:=z.shape;obtain⟨a1,k1,rfl⟩:=E.shape;obtain⟨b1,m1,rfl⟩:=A.shape;have B:=(Blk.new w 78 #[.slice a0 d.length k0,.slice a1 c.length k1]).below (w':=(w.alloc (.cells #[.slice a0 d.length k0,.slice a1 c.length k1] 78)).alloc (.cells #[.slice b0 d.length m0,.slice b1 c.length m1] 78)) (by go_grown);have C:=Blk.new (w.alloc (.cells #[.slice a0 d.length k0,.slice a1 c.length k1] 78)) 78 #[.slice b0 d.length m0,.slice b1 c.length m1];have hB:Below w.heap.size w ((w.alloc (.cells #[.slice a0 d.length k0,.slice a1 c.length k1] 78)).alloc (.cells #[.slice b0 d.length m0,.slice b1 c.length m1] 78)):=by go_grown
 rw[World.size_alloc]at C;skip;go_enter Tryz.func97,Tryz.ntmps97
 go_wp2_with fail
 generalize (w.alloc (.cells #[.slice a0 d.length k0,.slice a1 c.length k1] 78)).alloc (.cells #[.slice b0 d.length m0,.slice b1 c.length m1] 78)=W at*;refine(I W (D.below hB) (z.below hB)).mono ?_;rintro e w0 ⟨rfl,x⟩;replace B:=B.below x;replace C:=C.below x;replace hB:=hB.trans (x.mono hB.size);clear x I;have p1:=B.cell 1 _ rfl;have q1:=C.cell 1 _ rfl
 go_wp2_with fail
 clear p1 q1;refine(J w0 (E.below hB) (A.below hB)).mono ?_;rintro e w1 ⟨rfl,y⟩;replace B:=B.below y;replace C:=C.below y;replace hB:=hB.trans (y.mono hB.size);clear y J
 go_wp2
 go_ret;exact⟨rfl,hB⟩
theorem z31{A B:List Nat}{m:Nat}(hA:∀k∈A,k<m)(hB:∀k∈B,m≤k):∀a∈A,∀b∈B,a≠b:=fun a ha b hb e=>by
 have:=hA a ha;have:=hB b hb;omega
theorem z92(p:RoundQ)(w:World)(h:roundK.rd w p)(hl:RoundQ.n p≤1048576):
  Calls Tryz.prog 88 #[.agg #[p.vr,p.vp]] w fun e w'=>∃p':RoundQ,e=.returned (.agg #[p'.vr,p'.vp])∧p'.e=p.e∧roundK.own w' p'∧(roundK.foot p').Nodup∧(∀k∈roundK.foot p',w.heap.size≤k)∧Below w.heap.size w w':=by
 obtain⟨vr,c,vp,d⟩:=p;dsimp only[RoundQ.n]at hl;obtain⟨x,y⟩:intK.At w vr c∧intK.At w vp d:=h;have z:=fun w h1=>z5K vr c w h1 (by omega)
 have A:=fun w h1=>z5K vp d w h1 (by omega)
 obtain⟨a0,k0,rfl⟩:=x.shape;obtain⟨a1,k1,rfl⟩:=y.shape;have B:=(Blk.new w 128 #[.slice a0 c.length k0,.slice a1 d.length k1]).below (w':=((w.alloc (.cells #[.slice a0 c.length k0,.slice a1 d.length k1] 128)).alloc (.cells #[.slice none 0 0,.slice none 0 0] 78)).alloc (.cells #[.slice none 0 0,.slice none 0 0] 78)) (by go_grown);have C:=(Blk.new (w.alloc (.cells #[.slice a0 c.length k0,.slice a1 d.length k1] 128)) 78 #[.slice none 0 0,.slice none 0 0]).below (w':=((w.alloc (.cells #[.slice a0 c.length k0,.slice a1 d.length k1] 128)).alloc (.cells #[.slice none 0 0,.slice none 0 0] 78)).alloc (.cells #[.slice none 0 0,.slice none 0 0] 78)) (by go_grown);have D:=Blk.new ((w.alloc (.cells #[.slice a0 c.length k0,.slice a1 d.length k1] 128)).alloc (.cells #[.slice none 0 0,.slice none 0 0] 78)) 78 #[.slice none 0 0,.slice none 0 0];have hB:Below w.heap.size w (((w.alloc (.cells #[.slice a0 c.length k0,.slice a1 d.length k1] 128)).alloc (.cells #[.slice none 0 0,.slice none 0 0] 78)).alloc (.cells #[.slice none 0 0,.slice none 0 0] 78)):=by go_grown
 simp only[World.size_alloc]at C D;have hS:w.heap.size+3≤(((w.alloc (.cells #[.slice a0 c.length k0,.slice a1 d.length k1] 128)).alloc (.cells #[.slice none 0 0,.slice none 0 0] 78)).alloc (.cells #[.slice none 0 0,.slice none 0 0] 78)).heap.size:=by simp only[World.size_alloc];omega
 go_enter Tryz.func88,Tryz.ntmps88
 go_wp2_with fail
 generalize ((w.alloc (.cells #[.slice a0 c.length k0,.slice a1 d.length k1] 128)).alloc (.cells #[.slice none 0 0,.slice none 0 0] 78)).alloc (.cells #[.slice none 0 0,.slice none 0 0] 78)=W at*;refine(z W (x.below hB)).mono ?_;rintro e y0 ⟨v0,rfl,O0,N0,G0,hb⟩;replace B:=B.below hb;replace C:=C.below hb;replace D:=D.below hb;replace hB:=hB.trans (hb.mono hB.size);have s0:=hb.size;obtain⟨x0,z0,rfl⟩:=O0.shape;clear hb z;have p1:=B.cell 1 _ rfl;have d0:=D.cell 0 _ rfl;have f0:=D.frozen 0
 go_wp2_with fail
 clear p1 d0 f0;have U0:=(Out.refl [w.heap.size+1,w.heap.size+1+1] y0).set (b:=w.heap.size+1+1) (j:=0) (u:=.slice x0 c.length z0) (by simp);replace D:=D.set 0 (.slice x0 c.length z0);replace B:=B.other (b':=w.heap.size+1+1) (by omega) 0 (.slice x0 c.length z0);replace C:=C.other (b':=w.heap.size+1+1) (by omega) 0 (.slice x0 c.length z0);replace hB:=hB.setCell (p:=⟨w.heap.size+1+1,0,none⟩) (by show w.heap.size≤w.heap.size+1+1;omega) (.slice x0 c.length z0);have s1:=U0.size;simp only[pjE]at D;generalize y0.setCell ⟨w.heap.size+1+1,0,none⟩ (.slice x0 c.length z0)=V0 at*;refine(A V0 (y.below hB)).mono ?_;rintro e y1 ⟨v1,rfl,O1,N1,G1,hb⟩;replace U0:=U0.call hb;replace B:=B.below hb;replace C:=C.below hb;replace D:=D.below hb;replace hB:=hB.trans (hb.mono hB.size);have s2:=hb.size;obtain⟨x1,z1,rfl⟩:=O1.shape;clear hb A B;have d0:=D.cell 0 _ rfl;have f0:=D.frozen 0;have d1:=D.cell 1 _ rfl;have f1:=D.frozen 1;have c0:=C.cell 0 _ rfl;have g0:=C.frozen 0;have c1:=C.cell 1 _ rfl;have g1:=C.frozen 1;have R:Hid (∀j u j' u' j2 u2,roundK.own (((y1.setCell ⟨w.heap.size+1+1,j,none⟩ u).setCell ⟨w.heap.size+1,j',none⟩ u').setCell ⟨w.heap.size+1,j2,none⟩ u2) ⟨.slice x0 c.length z0,c,.slice x1 d.length z1,d⟩∧Below w.heap.size w (((y1.setCell ⟨w.heap.size+1+1,j,none⟩ u).setCell ⟨w.heap.size+1,j',none⟩ u').setCell ⟨w.heap.size+1,j2,none⟩ u2)):=by
  intro j u j' u' j2 u2;have V0:=((U0.set (b:=w.heap.size+1+1) (j:=j) (u:=u) (by simp)).set (b:=w.heap.size+1) (j:=j') (u:=u') (by simp)).set (b:=w.heap.size+1) (j:=j2) (u:=u2) (by simp);have V1:=(((Out.refl [w.heap.size+1,w.heap.size+1+1] y1).set (b:=w.heap.size+1+1) (j:=j) (u:=u) (by simp)).set (b:=w.heap.size+1) (j:=j') (u:=u') (by simp)).set (b:=w.heap.size+1) (j:=j2) (u:=u2) (by simp);refine⟨⟨O0.out V0 (fun k hk=>?_),O1.out V1 (fun k hk=>?_)⟩,?_⟩
  ·have:=G0 k hk;simp only[List.mem_cons,List.not_mem_nil,or_false];omega
  ·have:=G1 k hk;simp only[List.mem_cons,List.not_mem_nil,or_false];omega
  ·exact((hB.setCell (p:=⟨w.heap.size+1+1,j,none⟩) (by show w.heap.size≤w.heap.size+1+1;omega) u).setCell (p:=⟨w.heap.size+1,j',none⟩) (by show w.heap.size≤w.heap.size+1;omega) u').setCell (p:=⟨w.heap.size+1,j2,none⟩) (by show w.heap.size≤w.heap.size+1;omega) u2
 have R1:Hid ((roundK.foot ⟨.slice x0 c.length z0,c,.slice x1 d.length z1,d⟩).Nodup∧(∀k∈roundK.foot ⟨.slice x0 c.length z0,c,.slice x1 d.length z1,d⟩,w.heap.size≤k)):=by
  have L0:=O0.lt;refine⟨?_,?_⟩
  ·show List.Nodup (_++_);exact List.nodup_append.2 ⟨N0,N1,z31 (m:=V0.heap.size) (fun k hk=>by have:=L0 k hk;omega) G1⟩
  ·intro k hk;rcases List.mem_append.1 hk with hk|hk
   ·have:=G0 k hk;omega
   ·have:=G1 k hk;omega
 clear O0 O1 N0 N1 G0 G1 U0 hB C D x y
 go_wp2
 exact bodyPost_ret (v:=.agg #[.slice x0 c.length z0,.slice x1 d.length z1]) (by simp[results,Tryz.results88,go_sem,c0,c1]) rfl ⟨⟨.slice x0 c.length z0,c,.slice x1 d.length z1,d⟩,rfl,rfl,(R.out _ _ _ _ _ _).1,R1.out.1,R1.out.2,(R.out _ _ _ _ _ _).2⟩
theorem z81(v:Value)(ps:List RoundQ)(c:Int)(w:World)(h:roundK.At w v ps)(hn:ps.length≤9223372036854775807)(J:∀p∈ps,RoundQ.wf p)(h0:0≤c)(h1:c≤1048576):
  Calls Tryz.prog 50 #[v,.int .i64 c] w fun e w'=>∃r:Int,e=.returned (.int .i64 r)∧(¬r<0→((ps.length+nmL RoundQ.n ps:Nat):Int)+r=c)∧Below w.heap.size w w':=by
 obtain⟨a,cap,rfl⟩:=h.shape;by_cases U:c-ps.length<0
 ·go_enter Tryz.func50,Tryz.ntmps50
  go_wp2
  go_ret;exact⟨_,rfl,fun h=>by omega,Below.refl _ _⟩
 ·go_enter Tryz.func50,Tryz.ntmps50
  go_wp2
  go_loopw[1,5] (fun l i wr=>∃ (k:Nat) (x:Int),k≤ps.length∧i=.int .i64 k∧l=.int .i64 x∧0≤x∧x≤1048576∧Hid (ps.length+nmL RoundQ.n (ps.take k)+x=c)∧Below w.heap.size w wr) (fun _ i _=>ps.length-(intOf i).toNat)
  case atStart=>exact⟨0,c-ps.length,Nat.zero_le _,rfl,by go_num,by omega,by omega,show _=_ by simp[nmL];omega,Below.refl _ _⟩
  case round=>
   obtain⟨k,x,hk,rfl,rfl,N,O,HS,hb⟩:=hrel;by_cases z:k<ps.length
   ·obtain⟨b,T,rfl,W,hc,M⟩:=(h.below hb).cell (by decide) k z;have d:∀j x,(roundK.cells ps[k])[j]?=some x→wr.cell? ⟨b,T+k*2+j,none⟩=some x:=hc;have c0:=d 0 (ps[k].vr) rfl;have c1:=d 1 (ps[k].vp) rfl;have hs:=z2h RoundQ.n ps k z;have HN:=J _ (List.getElem_mem z);have A:Hid (∀y:Int,(RoundQ.n ps[k]:Int)+y=x→ps.length+nmL RoundQ.n (ps.take (k+1))+y=c):=by
     intro y hy;have:=HS.out;omega
    clear HS hs hc d;generalize ps[k]=p at*;have E:=z90 p x wr M HN N O;generalize RoundQ.n p=m at*;rw[Nat.add_zero]at c0
    go_wp2_with fail
    refine E.mono ?_;rintro e w2 ⟨r,rfl,hr,C⟩;replace hb:=hb.trans (C.mono hb.size);clear C E c0 c1;by_cases V:r<0
    ·go_wp2
     go_ret;exact⟨_,rfl,fun h=>by omega,hb⟩
    ·have D:=hr (by omega);have HR:Hid (ps.length+nmL RoundQ.n (ps.take (k+1))+r=c):=A.out r D;have L:r≤1048576:=by omega
     clear A hr D
     go_wp2
     go_roundw
     case rel=>exact⟨k+1,r,by omega,by go_num,rfl,by omega,L,HR.out,hb⟩
     case measure=>simp[intOf];omega
   ·have I:k=ps.length:=by omega
    subst I;rw[List.take_length]at HS
    go_wp2
    go_ret;exact⟨_,rfl,fun _=>by have:=HS.out;omega,hb⟩
theorem z82(v v':Value)(ps qs:List RoundQ)(w:World)(h:roundK.At w v ps)(h':roundK.At w v' qs)(he:ps.map RoundQ.e=qs.map RoundQ.e)(hl:(ps.length+nmL RoundQ.n ps)≤1048576):
  Calls Tryz.prog 72 #[v,v'] w fun e w'=>e=.returned (.bool true)∧Below w.heap.size w w':=by
 obtain⟨a,cap,rfl⟩:=h.shape;obtain⟨a',T,rfl⟩:=h'.shape;have c:qs.length=ps.length:=by
  have:=congrArg List.length he;simpa using this.symm
 rw[c]at h'⊢;have HL:Hid (qs.length=ps.length):=c;clear c;go_enter Tryz.func72,Tryz.ntmps72
 go_wp2
 go_loopw[5] (fun i wr=>∃k:Nat,k≤ps.length∧i=.int .i64 k∧Below w.heap.size w wr) (fun i _=>ps.length-(intOf i).toNat)
 case atStart=>exact⟨0,Nat.zero_le _,rfl,Below.refl _ _⟩
 case round=>
  obtain⟨k,hk,rfl,hb⟩:=hrel;by_cases C:k<ps.length
  ·have d:k<qs.length:=by have:=HL.out;omega
   obtain⟨b,O,rfl,V,hc,J⟩:=(h.below hb).cell (by decide) k C;obtain⟨b',L,rfl,U,hd,y⟩:=(h'.below hb).cell (by decide) k d;have z:∀j x,(roundK.cells ps[k])[j]?=some x→wr.cell? ⟨b,O+k*2+j,none⟩=some x:=hc;have A:∀j x,(roundK.cells qs[k])[j]?=some x→wr.cell? ⟨b',L+k*2+j,none⟩=some x:=hd;have c0:=z 0 (ps[k].vr) rfl;have d0:=A 0 (qs[k].vr) rfl;have c1:=z 1 (ps[k].vp) rfl;have d1:=A 1 (qs[k].vp) rfl;have I:RoundQ.e ps[k]=RoundQ.e qs[k]:=by
    have:=congrArg (·[k]?) he;simpa[C,d]using this
   have N:=z0W RoundQ.n ps k C;clear hc z hd A;generalize ps[k]=p at*;generalize qs[k]=p' at*;have D:=fun w h1 h2=>z91 p p' w h1 h2 I (show RoundQ.n p≤1048576 by omega)
   clear I N;rw[Nat.add_zero]at c0 d0;have k0:=z0a c0;have l0:=z0a d0;have k1:=z0a c1;have l1:=z0a d1;clear c0 d0 c1 d1;have hW:Below wr.heap.size wr wr.drew:=(Below.refl _ _).drew;have M:Nonempty (Lat wr):=⟨⟨wr,Below.refl _ _⟩⟩
   go_wp2_with fail
   refine z0b (S:=fun w'=>∃u:Lat wr,w'=u.val) (by kernel_rfl) ?_;refine sgr [(0,8)] 2 (by kernel_rfl) ⟨⟨_,hW⟩,rfl⟩ ?_;simp only[pkE];repeat go_big_quiet_step (fail)
   refine wpQuiet_nil ?_;refine cla 8 (some 25) 97 #[.agg #[p.vr,p.vp],.agg #[p'.vr,p'.vp]] 1 (by kernel_rfl) ?_;refine(D _ (roundK.rd_below J hW) (roundK.rd_below y hW)).mono ?_;rintro e w2 ⟨rfl,E⟩;replace hW:=hW.trans (E.mono hW.size);clear E;refine⟨_,rfl,⟨⟨_,hW⟩,rfl⟩,?_⟩;simp only[Act.put,pjE];refine sgr [(9,1)] 0 (by kernel_rfl) ⟨⟨_,hW⟩,rfl⟩ ?_;simp only[pkE];repeat go_big_quiet_step (fail)
   refine wpQuiet_nil ?_;refine z0f (by kernel_rfl) ?_;replace hb:=hb.trans (hW.mono hb.size);clear k0 l0 k1 l1 hW M J y D
   go_wp2
   go_roundw
   case rel=>exact⟨k+1,by omega,by go_num,hb⟩
   case measure=>simp[intOf];omega
  ·go_wp2
   go_ret;exact⟨rfl,hb⟩
theorem z83(v:Value)(ps:List RoundQ)(w:World)(h:roundK.At w v ps)(hl:(ps.length+nmL RoundQ.n ps)≤1048576):
  Calls Tryz.prog 58 #[v] w fun e w'=>∃v' qs,e=.returned v'∧qs.map RoundQ.e=ps.map RoundQ.e∧roundK.Own w' v' qs∧(roundK.fp v' qs).Nodup∧(∀k∈roundK.fp v' qs,w.heap.size≤k)∧Below w.heap.size w w':=by
 obtain⟨a,cap,rfl⟩:=h.shape;obtain⟨i0,hi,ao,ap,aq⟩:=info_parts z9Z;have J:i0.bytes*ps.length≤281474976710656:=by rw[aq];omega
 have ae:ps.length≤maxLen:=by unfold maxLen;omega
 go_enter Tryz.func58,Tryz.ntmps58
 go_wp2_with (at_make;refine wpList_make_full _ rfl _ _ 41 rfl w.heap.size 78 i0 (.agg #[.slice none 0 0,.slice none 0 0]) 2 Tryz.underlying41 hi ao ap _ _ _ _ ps.length rfl rfl rfl rfl J ae (Nat.le_refl _) ?_)
 intro w1 N D;have Z:Below w.heap.size w w1:=(Below.refl _ _).grown D (Nat.le_refl _) (by simp);have hO:roundK.Own w1 (.slice (some ⟨w.heap.size,0,none⟩) ps.length ps.length) (List.replicate ps.length (⟨.slice none 0 0,[],.slice none 0 0,[]⟩:RoundQ)):=by
  refine⟨?_,fun p hp=>?_⟩
  ·rw[List.length_replicate,←z2M (⟨.slice none 0 0,[],.slice none 0 0,[]⟩:RoundQ) _ (by decide)];exact z0p N (Nat.zero_le _)
  ·rw[(List.mem_replicate.1 hp).2];exact⟨⟨World.ownsRow_nil _ _ _ _,fun p hp=>by simp at hp⟩,⟨World.ownsRow_nil _ _ _ _,fun p hp=>by simp at hp⟩⟩
 have hF:roundK.fp (.slice (some ⟨w.heap.size,0,none⟩) ps.length ps.length) (List.replicate ps.length (⟨.slice none 0 0,[],.slice none 0 0,[]⟩:RoundQ))=[w.heap.size]:=z6x rfl;have HN:Hid ((roundK.fp (.slice (some ⟨w.heap.size,0,none⟩) ps.length ps.length) (List.replicate ps.length (⟨.slice none 0 0,[],.slice none 0 0,[]⟩:RoundQ))).Nodup):=by rw[hF];show List.Nodup _;simp
 have HG:Hid (∀x∈roundK.fp (.slice (some ⟨w.heap.size,0,none⟩) ps.length ps.length) (List.replicate ps.length (⟨.slice none 0 0,[],.slice none 0 0,[]⟩:RoundQ)),w.heap.size≤x):=by rw[hF];intro x hx;simp at hx;omega
 have HZ:Hid (∀j (hj:j<(List.replicate ps.length (⟨.slice none 0 0,[],.slice none 0 0,[]⟩:RoundQ)).length),0≤j→(List.replicate ps.length (⟨.slice none 0 0,[],.slice none 0 0,[]⟩:RoundQ))[j]=(⟨.slice none 0 0,[],.slice none 0 0,[]⟩:RoundQ)):=fun j hj _=>by simp
 have af:(List.replicate ps.length (⟨.slice none 0 0,[],.slice none 0 0,[]⟩:RoundQ)).length=ps.length:=by simp
 clear N D hF;generalize List.replicate ps.length (⟨.slice none 0 0,[],.slice none 0 0,[]⟩:RoundQ)=aj at*;have HE:Hid ((aj.take 0).map RoundQ.e=(ps.take 0).map RoundQ.e):=show _=_ by simp
 go_wp2
 go_loopw [4] (fun i wr=>∃ (k:Nat) (qs:List RoundQ),k≤ps.length∧i=.int .i64 k∧Hid (qs.length=ps.length)∧Hid ((qs.take k).map RoundQ.e=(ps.take k).map RoundQ.e)∧Hid (∀ j (hj:j < qs.length),k≤j→qs[j]=(⟨.slice none 0 0,[],.slice none 0 0,[]⟩:RoundQ))∧roundK.Own wr (.slice (some ⟨w.heap.size,0,none⟩) ps.length ps.length) qs ∧
  Hid ((roundK.fp (.slice (some ⟨w.heap.size,0,none⟩) ps.length ps.length) qs).Nodup)∧Hid (∀ x∈roundK.fp (.slice (some ⟨w.heap.size,0,none⟩) ps.length ps.length) qs,w.heap.size≤x)∧Below w.heap.size w wr) (fun i _=>ps.length - (intOf i).toNat)
 case atStart=>exact⟨0,aj,Nat.zero_le _,rfl,af,HE,HZ,hO,HN,HG,Z⟩
 case round=>
  clear HE HZ hO HN HG Z af;obtain⟨k,qs,hk,rfl,HQ,HE,HZ,hO,HN,HG,hb⟩:=hrel;by_cases W:k<ps.length
  ·have c:k<qs.length:=by have:=HQ.out;omega
   have L:=HZ.out k c (Nat.le_refl _);obtain⟨b,ar,rfl,au,hc,ag⟩:=(h.below hb).cell (by decide) k W;have T:∀j x,(roundK.cells ps[k])[j]?=some x→wr.cell? ⟨b,ar+k*2+j,none⟩=some x:=hc;have c0:=T 0 (ps[k].vr) rfl;have c1:=T 1 (ps[k].vp) rfl;have ax:=z0W RoundQ.n ps k W;have Y:Hid (∀p':RoundQ,p'.e=RoundQ.e ps[k]→((qs.set k p').take (k+1)).map RoundQ.e=(ps.take (k+1)).map RoundQ.e):=by
    intro p' am;have h1:=HE.out;rw[List.take_succ_eq_append_getElem W,List.take_succ_eq_append_getElem (show k<(qs.set k p').length by simpa using c)];simp only[List.map_append,List.map_cons,List.map_nil,List.getElem_set_self,am,List.take_set_of_le (Nat.le_refl k),h1]
   clear hc T;generalize ps[k]=p at*;have ah:=z92 p wr ag (by omega);rw[Nat.add_zero]at c0
   go_wp2_with fail
   refine ah.mono ?_;rintro e w2 ⟨p',rfl,X,d,E,y,aa⟩;obtain⟨x0,y0,x1,y1⟩:=p';obtain⟨o0,o1⟩:intK.Own w2 x0 y0∧intK.Own w2 x1 y1:=And.intro d.1 d.2;obtain⟨a0,b0,rfl⟩:=o0.shape;obtain⟨a1,b1,rfl⟩:=o1.shape;clear o0 o1;dsimp only;generalize hP:(⟨.slice a0 y0.length b0,y0,.slice a1 y1.length b1,y1⟩:RoundQ)=p' at X d E y;have U:roundK.cells p'=[.slice a0 y0.length b0,.slice a1 y1.length b1]:=by rw[←hP];rfl
   have C:=hO.below aa;obtain⟨e0,f0⟩:=C.cell k c 0 _ (by rw[L];rfl);obtain⟨e1,f1⟩:=C.cell k c 1 _ (by rw[L];rfl);have ad:∀j,k*roundK.size+j=k*2+j:=fun j=>rfl
   rw[ad]at e0 f0 e1 f1;rw[Nat.add_zero]at e0 f0;have z:=C.1;have hQ:=HQ.out;rw[hQ]at z;have A:=z1m z (k*2) [.slice a0 y0.length b0,.slice a1 y1.length b1];rw[←U]at A;have V:∀x∈roundK.fp (.slice (some ⟨w.heap.size,0,none⟩) ps.length ps.length) qs,x<wr.heap.size:=hO.lt;have ab:w.heap.size∈roundK.fp (.slice (some ⟨w.heap.size,0,none⟩) ps.length ps.length) qs:=by simp[Kind.fp,blk,Value.ownBlock]
   have av:w.heap.size<wr.heap.size:=V _ ab;have I:=HN.out;have M:∀x∈roundK.foot p',x∉roundK.fp (.slice (some ⟨w.heap.size,0,none⟩) ps.length ps.length) qs:=fun x hx an=>by have:=y x hx;have:=V x an;omega
   have O:roundK.Own ((w2.setCell ⟨w.heap.size,k*2,none⟩ (.slice a0 y0.length b0)).setCell ⟨w.heap.size,k*2+1,none⟩ (.slice a1 y1.length b1)) (.slice (some ⟨w.heap.size,0,none⟩) ps.length ps.length) (qs.set k p'):=by
    refine Kind.Own.put C k c p' ?_ ((Out.setCell _ _ _ _).trans (Out.setCell _ _ _ _)) ?_ d ?_
    ·rw[hQ];rw[U]at A⊢;exact A
    ·intro q hq x hx ai;simp only[Kind.fp,blk,Value.ownBlock,Option.toList,List.cons_append,List.nil_append,List.nodup_cons]at I;exact I.1 (List.mem_flatMap.2 ⟨q,hq,ai▸hx⟩)
    ·intro x hx ai;have:=y x hx;omega
   have R:Hid (roundK.Own ((w2.setCell ⟨w.heap.size,k*2,none⟩ (.slice a0 y0.length b0)).setCell ⟨w.heap.size,k*2+1,none⟩ (.slice a1 y1.length b1)) (.slice (some ⟨w.heap.size,0,none⟩) ps.length ps.length) (qs.set k p')∧Below w.heap.size w ((w2.setCell ⟨w.heap.size,k*2,none⟩ (.slice a0 y0.length b0)).setCell ⟨w.heap.size,k*2+1,none⟩ (.slice a1 y1.length b1))):=by
    refine⟨O,?_⟩;have ak:=hb.trans (aa.mono hb.size);exact((ak.setCell (p:=⟨w.heap.size,k*2,none⟩) (Nat.le_refl _) _).setCell (p:=⟨w.heap.size,k*2+1,none⟩) (Nat.le_refl _) _)
   have R1:Hid ((roundK.fp (.slice (some ⟨w.heap.size,0,none⟩) ps.length ps.length) (qs.set k p')).Nodup):=z12 I k c p' (by rw[L];rfl) E M;have R2:Hid (∀x∈roundK.fp (.slice (some ⟨w.heap.size,0,none⟩) ps.length ps.length) (qs.set k p'),w.heap.size≤x):=by
    intro x hx;simp only[Kind.fp,List.mem_append]at hx;rcases hx with hx|hx
    ·exact HG.out x (by simp only[Kind.fp,List.mem_append];exact Or.inl hx)
    ·rcases z1e c hx with hx|hx
     ·exact HG.out x (by simp only[Kind.fp,List.mem_append];exact Or.inr hx)
     ·have:=y x hx;omega
   have R3:Hid (∀j (hj:j<(qs.set k p').length),k+1≤j→(qs.set k p')[j]=(⟨.slice none 0 0,[],.slice none 0 0,[]⟩:RoundQ)):=fun j hj aw=>by
    rw[List.getElem_set_ne (by omega)];exact HZ.out j (by simpa using hj) (by omega)
   have R4:Hid ((qs.set k p').length=ps.length):=by rw[List.length_set];exact HQ.out
   have R5:Hid (((qs.set k p').take (k+1)).map RoundQ.e=(ps.take (k+1)).map RoundQ.e):=Y.out p' X;clear O A z hQ C hO HN HG HZ HE HQ Y I M d E y V ab hb L ag ah X ad U hP
   go_wp2
   go_roundw
   case rel=>exact⟨k+1,qs.set k p',by omega,by go_num,R4.out,R5.out,R3.out,R.out.1,R1.out,R2.out,R.out.2⟩
   case measure=>simp[intOf];omega
  ·have al:k=ps.length:=by omega
   subst al;have hQ:=HQ.out;have hE:=HE.out;rw[List.take_length,List.take_of_length_le (by omega)]at hE;clear HE HZ
   go_wp2
   go_ret;exact⟨_,qs,rfl,hE,hO,HN.out,HG.out,hb⟩
def InstQ.n(p:InstQ):Nat:=(p.batch.length+nmL TxnQ.n p.batch)+(p.rounds.length+nmL RoundQ.n p.rounds)+p.dec.length
def InstQ.wf(p:InstQ):Prop:=(p.batch.length≤9223372036854775807∧∀q∈p.batch,TxnQ.wf q)∧(p.rounds.length≤9223372036854775807∧∀q∈p.rounds,RoundQ.wf q)∧p.dec.length≤9223372036854775807
theorem z6z(p:InstQ)(c:Int)(w:World)(h:instK.rd w p)(hn:InstQ.wf p)(h0:0≤c)(h1:c≤1048576):
  Calls Tryz.prog 25 #[.agg #[.bool p.has,p.vb,p.vr,p.vd],.int .i64 c] w fun e w'=>∃r:Int,e=.returned (.int .i64 r)∧(¬r<0→(InstQ.n p:Int)+r=c)∧Below w.heap.size w w':=by
 obtain⟨has,vb,x,vr,d,vd,dec⟩:=p;obtain⟨L,M,N⟩:txnK.At w vb x∧roundK.At w vr d∧intK.At w vd dec:=h;obtain⟨y,z,O⟩:(x.length≤9223372036854775807∧∀p∈x,TxnQ.wf p)∧(d.length≤9223372036854775807∧∀p∈d,RoundQ.wf p)∧dec.length≤9223372036854775807:=hn;obtain⟨a1,k1,rfl⟩:=L.shape;obtain⟨a2,k2,rfl⟩:=M.shape;obtain⟨a3,k3,rfl⟩:=N.shape;have B:=Blk.new w 60 #[.bool has,.slice a1 x.length k1,.slice a2 d.length k2,.slice a3 dec.length k3];have hB:Below w.heap.size w (w.alloc (.cells #[.bool has,.slice a1 x.length k1,.slice a2 d.length k2,.slice a3 dec.length k3] 60)):=by go_grown
 dsimp only[InstQ.n];go_enter Tryz.func25,Tryz.ntmps25
 go_wp2_with fail
 generalize w.alloc (.cells #[.bool has,.slice a1 x.length k1,.slice a2 d.length k2,.slice a3 dec.length k3] 60)=W at*;refine(z5M _ x c W (L.below hB) y.1 y.2 (by omega) (by omega)).mono ?_;rintro e w1 ⟨r1,rfl,T,A⟩;replace B:=B.below A;replace hB:=hB.trans (A.mono hB.size);clear A;by_cases E:r1<0
 ·go_wp2
  go_ret;exact⟨_,rfl,fun h=>by omega,hB⟩
 have X:=T E;clear T;have p2:=B.cell 2 _ rfl
 go_wp2_with fail
 clear p2;refine(z81 _ d r1 w1 (M.below hB) z.1 z.2 (by omega) (by omega)).mono ?_;rintro e w2 ⟨r2,rfl,U,C⟩;replace B:=B.below C;replace hB:=hB.trans (C.mono hB.size);clear C;by_cases I:r2<0
 ·go_wp2
  go_ret;exact⟨_,rfl,fun h=>by omega,hB⟩
 have Y:=U I;clear U;have p3:=B.cell 3 _ rfl
 go_wp2_with fail
 clear p3;refine(z5P _ dec r2 w2 (N.below hB) O (by omega) (by omega)).mono ?_;rintro e w3 ⟨r3,rfl,V,D⟩;replace B:=B.below D;replace hB:=hB.trans (D.mono hB.size);clear D;by_cases J:r3<0
 ·go_wp2
  go_ret;exact⟨_,rfl,fun h=>by omega,hB⟩
 have Z:=V J;clear V
 go_wp2
 go_ret;exact⟨_,rfl,fun _=>by omega,hB⟩
theorem z6A(p p':InstQ)(w:World)(h:instK.rd w p)(h':instK.rd w p')(he:p.e=p'.e)(hl:InstQ.n p≤1048576):
  Calls Tryz.prog 47 #[.agg #[.bool p.has,p.vb,p.vr,p.vd],.agg #[.bool p'.has,p'.vb,p'.vr,p'.vd]] w fun e w'=>e=.returned (.bool true)∧Below w.heap.size w w':=by
 obtain⟨has,vb,y,vr,d,vd,dec⟩:=p;obtain⟨af,Z,x,ab,c,aa,E⟩:=p';simp only[InstQ.e,InstE.mk.injEq]at he;obtain⟨ad,I,J,ae⟩:=he;dsimp only[InstQ.n]at hl;obtain⟨O,T,U⟩:txnK.At w vb y∧roundK.At w vr d∧intK.At w vd dec:=h;obtain⟨L,M,N⟩:txnK.At w Z x∧roundK.At w ab c∧intK.At w aa E:=h';subst ad;subst ae;have V:=fun w h1 h2=>z5N vb Z y x w h1 h2 I (by omega)
 have X:=fun w h1 h2=>z82 vr ab d c w h1 h2 J (by omega)
 have Y:=fun w h1 h2=>z5L vd aa dec w h1 h2 (by omega)
 obtain⟨a1,k1,rfl⟩:=O.shape;obtain⟨b1,m1,rfl⟩:=L.shape;obtain⟨a2,k2,rfl⟩:=T.shape;obtain⟨b2,m2,rfl⟩:=M.shape;obtain⟨a3,k3,rfl⟩:=U.shape;obtain⟨b3,m3,rfl⟩:=N.shape;have B:=(Blk.new w 44 #[.bool has,.slice a1 y.length k1,.slice a2 d.length k2,.slice a3 dec.length k3]).below (w':=(w.alloc (.cells #[.bool has,.slice a1 y.length k1,.slice a2 d.length k2,.slice a3 dec.length k3] 44)).alloc (.cells #[.bool has,.slice b1 x.length m1,.slice b2 c.length m2,.slice b3 dec.length m3] 44)) (by go_grown);have C:=Blk.new (w.alloc (.cells #[.bool has,.slice a1 y.length k1,.slice a2 d.length k2,.slice a3 dec.length k3] 44)) 44 #[.bool has,.slice b1 x.length m1,.slice b2 c.length m2,.slice b3 dec.length m3];have hB:Below w.heap.size w ((w.alloc (.cells #[.bool has,.slice a1 y.length k1,.slice a2 d.length k2,.slice a3 dec.length k3] 44)).alloc (.cells #[.bool has,.slice b1 x.length m1,.slice b2 c.length m2,.slice b3 dec.length m3] 44)):=by go_grown
 rw[World.size_alloc]at C;have n0:(has !=has)=false:=by simp
 clear I J;go_enter Tryz.func47,Tryz.ntmps47
 go_wp2_with fail
 generalize (w.alloc (.cells #[.bool has,.slice a1 y.length k1,.slice a2 d.length k2,.slice a3 dec.length k3] 44)).alloc (.cells #[.bool has,.slice b1 x.length m1,.slice b2 c.length m2,.slice b3 dec.length m3] 44)=W at*;refine(V W (O.below hB) (L.below hB)).mono ?_;rintro e w1 ⟨rfl,z⟩;replace B:=B.below z;replace C:=C.below z;replace hB:=hB.trans (z.mono hB.size);clear z V;have p2:=B.cell 2 _ rfl;have q2:=C.cell 2 _ rfl
 go_wp2_with fail
 clear p2 q2;refine(X w1 (T.below hB) (M.below hB)).mono ?_;rintro e w2 ⟨rfl,A⟩;replace B:=B.below A;replace C:=C.below A;replace hB:=hB.trans (A.mono hB.size);clear A X;have p3:=B.cell 3 _ rfl;have q3:=C.cell 3 _ rfl
 go_wp2_with fail
 clear p3 q3;refine(Y w2 (U.below hB) (N.below hB)).mono ?_;rintro e w3 ⟨rfl,D⟩;replace B:=B.below D;replace C:=C.below D;replace hB:=hB.trans (D.mono hB.size);clear D Y
 go_wp2
 go_ret;exact⟨rfl,hB⟩
theorem z6B(p:InstQ)(w:World)(h:instK.rd w p)(hl:InstQ.n p≤1048576):
  Calls Tryz.prog 34 #[.agg #[.bool p.has,p.vb,p.vr,p.vd]] w fun e w'=>∃p':InstQ,e=.returned (.agg #[.bool p'.has,p'.vb,p'.vr,p'.vd])∧p'.e=p.e∧instK.own w' p'∧(instK.foot p').Nodup∧(∀k∈instK.foot p',w.heap.size≤k)∧Below w.heap.size w w':=by
 obtain⟨has,vb,d,vr,c,vd,dec⟩:=p;dsimp only[InstQ.n]at hl;obtain⟨J,L,M⟩:txnK.At w vb d∧roundK.At w vr c∧intK.At w vd dec:=h;have N:=fun w h1=>z5O vb d w h1 (by omega)
 have O:=fun w h1=>z83 vr c w h1 (by omega)
 have T:=fun w h1=>z5K vd dec w h1 (by omega)
 obtain⟨a1,k1,rfl⟩:=J.shape;obtain⟨a2,k2,rfl⟩:=L.shape;obtain⟨a3,k3,rfl⟩:=M.shape;have B:=(Blk.new w 60 #[.bool has,.slice a1 d.length k1,.slice a2 c.length k2,.slice a3 dec.length k3]).below (w':=((w.alloc (.cells #[.bool has,.slice a1 d.length k1,.slice a2 c.length k2,.slice a3 dec.length k3] 60)).alloc (.cells #[.bool false,.slice none 0 0,.slice none 0 0,.slice none 0 0] 44)).alloc (.cells #[.bool has,.slice none 0 0,.slice none 0 0,.slice none 0 0] 44)) (by go_grown);have C:=(Blk.new (w.alloc (.cells #[.bool has,.slice a1 d.length k1,.slice a2 c.length k2,.slice a3 dec.length k3] 60)) 44 #[.bool false,.slice none 0 0,.slice none 0 0,.slice none 0 0]).below (w':=((w.alloc (.cells #[.bool has,.slice a1 d.length k1,.slice a2 c.length k2,.slice a3 dec.length k3] 60)).alloc (.cells #[.bool false,.slice none 0 0,.slice none 0 0,.slice none 0 0] 44)).alloc (.cells #[.bool has,.slice none 0 0,.slice none 0 0,.slice none 0 0] 44)) (by go_grown);have D:=Blk.new ((w.alloc (.cells #[.bool has,.slice a1 d.length k1,.slice a2 c.length k2,.slice a3 dec.length k3] 60)).alloc (.cells #[.bool false,.slice none 0 0,.slice none 0 0,.slice none 0 0] 44)) 44 #[.bool has,.slice none 0 0,.slice none 0 0,.slice none 0 0];have hB:Below w.heap.size w (((w.alloc (.cells #[.bool has,.slice a1 d.length k1,.slice a2 c.length k2,.slice a3 dec.length k3] 60)).alloc (.cells #[.bool false,.slice none 0 0,.slice none 0 0,.slice none 0 0] 44)).alloc (.cells #[.bool has,.slice none 0 0,.slice none 0 0,.slice none 0 0] 44)):=by go_grown
 simp only[World.size_alloc]at C D;have hS:w.heap.size+3≤(((w.alloc (.cells #[.bool has,.slice a1 d.length k1,.slice a2 c.length k2,.slice a3 dec.length k3] 60)).alloc (.cells #[.bool false,.slice none 0 0,.slice none 0 0,.slice none 0 0] 44)).alloc (.cells #[.bool has,.slice none 0 0,.slice none 0 0,.slice none 0 0] 44)).heap.size:=by simp only[World.size_alloc];omega
 go_enter Tryz.func34,Tryz.ntmps34
 go_wp2_with fail
 generalize ((w.alloc (.cells #[.bool has,.slice a1 d.length k1,.slice a2 c.length k2,.slice a3 dec.length k3] 60)).alloc (.cells #[.bool false,.slice none 0 0,.slice none 0 0,.slice none 0 0] 44)).alloc (.cells #[.bool has,.slice none 0 0,.slice none 0 0,.slice none 0 0] 44)=W at*;refine(N W (J.below hB)).mono ?_;rintro e y1 ⟨v1,q1,rfl,E1,O1,N1,G1,hb⟩;replace B:=B.below hb;replace C:=C.below hb;replace D:=D.below hb;replace hB:=hB.trans (hb.mono hB.size);have s1:=hb.size;obtain⟨x1,z1,rfl⟩:=O1.shape;clear hb N;have p2:=B.cell 2 _ rfl;have d1:=D.cell 1 _ rfl;have f1:=D.frozen 1
 go_wp2_with fail
 clear p2 d1 f1;have U1:=(Out.refl [w.heap.size+1,w.heap.size+1+1] y1).set (b:=w.heap.size+1+1) (j:=1) (u:=.slice x1 q1.length z1) (by simp);replace D:=D.set 1 (.slice x1 q1.length z1);replace B:=B.other (b':=w.heap.size+1+1) (by omega) 1 (.slice x1 q1.length z1);replace C:=C.other (b':=w.heap.size+1+1) (by omega) 1 (.slice x1 q1.length z1);replace hB:=hB.setCell (p:=⟨w.heap.size+1+1,1,none⟩) (by show w.heap.size≤w.heap.size+1+1;omega) (.slice x1 q1.length z1);simp only[pjE]at D;have t1:=U1.size;generalize y1.setCell ⟨w.heap.size+1+1,1,none⟩ (.slice x1 q1.length z1)=V1 at*;refine(O V1 (L.below hB)).mono ?_;rintro e y2 ⟨v2,q2,rfl,E2,O2,N2,G2,hb⟩;replace U1:=U1.call hb;replace B:=B.below hb;replace C:=C.below hb;replace D:=D.below hb;replace hB:=hB.trans (hb.mono hB.size);have s2:=hb.size;obtain⟨x2,z2,rfl⟩:=O2.shape;clear hb O;have p3:=B.cell 3 _ rfl;have d2:=D.cell 2 _ rfl;have f2:=D.frozen 2
 go_wp2_with fail
 clear p3 d2 f2;have U2:=(Out.refl [w.heap.size+1,w.heap.size+1+1] y2).set (b:=w.heap.size+1+1) (j:=2) (u:=.slice x2 q2.length z2) (by simp);replace U1:=U1.set (b:=w.heap.size+1+1) (j:=2) (u:=.slice x2 q2.length z2) (by simp);replace D:=D.set 2 (.slice x2 q2.length z2);replace B:=B.other (b':=w.heap.size+1+1) (by omega) 2 (.slice x2 q2.length z2);replace C:=C.other (b':=w.heap.size+1+1) (by omega) 2 (.slice x2 q2.length z2);replace hB:=hB.setCell (p:=⟨w.heap.size+1+1,2,none⟩) (by show w.heap.size≤w.heap.size+1+1;omega) (.slice x2 q2.length z2);simp only[pjE]at D;have t2:=U2.size;generalize y2.setCell ⟨w.heap.size+1+1,2,none⟩ (.slice x2 q2.length z2)=V2 at*;refine(T V2 (M.below hB)).mono ?_;rintro e y3 ⟨v3,rfl,O3,N3,G3,hb⟩;replace U1:=U1.call hb;replace U2:=U2.call hb;replace B:=B.below hb;replace C:=C.below hb;replace D:=D.below hb;replace hB:=hB.trans (hb.mono hB.size);have s3:=hb.size;obtain⟨x3,z3,rfl⟩:=O3.shape;clear hb T;clear B;have d0:=D.cell 0 _ rfl;have f0:=D.frozen 0;have c0:=C.cell 0 _ rfl;have g0:=C.frozen 0;have d1:=D.cell 1 _ rfl;have f1:=D.frozen 1;have c1:=C.cell 1 _ rfl;have g1:=C.frozen 1;have d2:=D.cell 2 _ rfl;have f2:=D.frozen 2;have c2:=C.cell 2 _ rfl;have g2:=C.frozen 2;have d3:=D.cell 3 _ rfl;have f3:=D.frozen 3;have c3:=C.cell 3 _ rfl;have g3:=C.frozen 3;have R:Hid (∀j u j' u' E I z A x y,instK.own (((((y3.setCell ⟨w.heap.size+1+1,j,none⟩ u).setCell ⟨w.heap.size+1,j',none⟩ u').setCell ⟨w.heap.size+1,E,none⟩ I).setCell ⟨w.heap.size+1,z,none⟩ A).setCell ⟨w.heap.size+1,x,none⟩ y) ⟨has,.slice x1 q1.length z1,q1,.slice x2 q2.length z2,q2,.slice x3 dec.length z3,dec⟩∧Below w.heap.size w (((((y3.setCell ⟨w.heap.size+1+1,j,none⟩ u).setCell ⟨w.heap.size+1,j',none⟩ u').setCell ⟨w.heap.size+1,E,none⟩ I).setCell ⟨w.heap.size+1,z,none⟩ A).setCell ⟨w.heap.size+1,x,none⟩ y)):=by
  intro j u j' u' E I z A x y;have X1:=(((((U1.set (b:=w.heap.size+1+1) (j:=j) (u:=u) (by simp)).set (b:=w.heap.size+1) (j:=j') (u:=u') (by simp)).set (b:=w.heap.size+1) (j:=E) (u:=I) (by simp)).set (b:=w.heap.size+1) (j:=z) (u:=A) (by simp)).set (b:=w.heap.size+1) (j:=x) (u:=y) (by simp))
  have X2:=(((((U2.set (b:=w.heap.size+1+1) (j:=j) (u:=u) (by simp)).set (b:=w.heap.size+1) (j:=j') (u:=u') (by simp)).set (b:=w.heap.size+1) (j:=E) (u:=I) (by simp)).set (b:=w.heap.size+1) (j:=z) (u:=A) (by simp)).set (b:=w.heap.size+1) (j:=x) (u:=y) (by simp))
  have X3:=((((((Out.refl [w.heap.size+1,w.heap.size+1+1] y3).set (b:=w.heap.size+1+1) (j:=j) (u:=u) (by simp)).set (b:=w.heap.size+1) (j:=j') (u:=u') (by simp)).set (b:=w.heap.size+1) (j:=E) (u:=I) (by simp)).set (b:=w.heap.size+1) (j:=z) (u:=A) (by simp)).set (b:=w.heap.size+1) (j:=x) (u:=y) (by simp))
  refine⟨⟨O1.out X1 (fun k hk=>?_),O2.out X2 (fun k hk=>?_),O3.out X3 (fun k hk=>?_)⟩,?_⟩
  ·have:=G1 k hk;simp only[List.mem_cons,List.not_mem_nil,or_false];omega
  ·have:=G2 k hk;simp only[List.mem_cons,List.not_mem_nil,or_false];omega
  ·have:=G3 k hk;simp only[List.mem_cons,List.not_mem_nil,or_false];omega
  ·exact(((((hB.setCell (p:=⟨w.heap.size+1+1,j,none⟩) (by show w.heap.size≤w.heap.size+1+1;omega) u).setCell (p:=⟨w.heap.size+1,j',none⟩) (by show w.heap.size≤w.heap.size+1;omega) u').setCell (p:=⟨w.heap.size+1,E,none⟩) (by show w.heap.size≤w.heap.size+1;omega) I).setCell (p:=⟨w.heap.size+1,z,none⟩) (by show w.heap.size≤w.heap.size+1;omega) A).setCell (p:=⟨w.heap.size+1,x,none⟩) (by show w.heap.size≤w.heap.size+1;omega) y)
 have R1:Hid ((instK.foot ⟨has,.slice x1 q1.length z1,q1,.slice x2 q2.length z2,q2,.slice x3 dec.length z3,dec⟩).Nodup∧(∀k∈instK.foot ⟨has,.slice x1 q1.length z1,q1,.slice x2 q2.length z2,q2,.slice x3 dec.length z3,dec⟩,w.heap.size≤k)):=by
  have L1:=O1.lt;have L2:=O2.lt;have L3:=O3.lt;have T1:=U1.size;have T2:=U2.size;refine⟨?_,?_⟩
  ·show List.Nodup (_++_);exact List.nodup_append.2 ⟨N1,List.nodup_append.2 ⟨N2,N3,z31 (m:=(V2).heap.size) (fun k hk=>by have:=L2 k hk;omega) (fun k hk=>by have:=G3 k hk;omega)⟩,z31 (m:=(V1).heap.size) (fun k hk=>by have:=L1 k hk;omega) (fun k hk=>by rcases List.mem_append.1 hk with hk|hk<;>first|(have:=G2 k hk;omega)|(have:=G3 k hk;omega))⟩
  ·exact(fun k hk=>by rcases List.mem_append.1 hk with hk|hk<;>first|(have:=G1 k hk;omega)|(rcases List.mem_append.1 hk with hk|hk<;>first|(have:=G2 k hk;omega)|(have:=G3 k hk;omega)))
 have R2:Hid (InstQ.e ⟨has,.slice x1 q1.length z1,q1,.slice x2 q2.length z2,q2,.slice x3 dec.length z3,dec⟩=InstQ.e ⟨has,.slice a1 d.length k1,d,.slice a2 c.length k2,c,.slice a3 dec.length k3,dec⟩):=show _=_ by simp only[InstQ.e,E1,E2]
 clear O1 N1 G1 O2 N2 G2 O3 N3 G3 U1 U2 E1 E2 hB C D J L M
 go_wp2
 exact bodyPost_ret (v:=.agg #[.bool has,.slice x1 q1.length z1,.slice x2 q2.length z2,.slice x3 dec.length z3]) (by simp[results,Tryz.results34,go_sem,c0,c1,c2,c3]) rfl ⟨⟨has,.slice x1 q1.length z1,q1,.slice x2 q2.length z2,q2,.slice x3 dec.length z3,dec⟩,rfl,R2.out,(R.out _ _ _ _ _ _ _ _ _ _).1,R1.out.1,R1.out.2,(R.out _ _ _ _ _ _ _ _ _ _).2⟩
end Go.Proofs.YtljbililjlafcaaGreatDoor
