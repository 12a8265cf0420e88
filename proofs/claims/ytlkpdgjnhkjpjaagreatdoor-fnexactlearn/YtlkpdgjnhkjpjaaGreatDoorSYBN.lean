import Derived.Test.YtlkpdgjnhkjpjaaGreatDoorSYBG
import Derived.Test.YtlkpdgjnhkjpjaaGreatDoorSYAO
import Derived.Test.YtlkpdgjnhkjpjaaGreatDoorSYAP
import Derived.Test.YtlkpdgjnhkjpjaaGreatDoorSYAQ
set_option linter.unusedVariables false
set_option linter.unusedSimpArgs false
set_option maxRecDepth 100000
set_option maxHeartbeats 8000000
namespace Go.Proofs.YtlkpdgjnhkjpjaaGreatDoor
open Go.RowKit Go.BigFrame
open TxnQ renaming e->E,n->B
open Nat renaming le_refl->P,zero_le->f
open List renaming length_map->Va
open Act renaming put->Vb
open IntKind renaming i64->D
open Value renaming int->G,slice->Q
open Go.Proofs.Tryz renaming prog->R
open Go.Proofs.Tryz
theorem Blk.putA{w:World}{b:Nat}{t:TypeId}{cs:Array Value}(h:Blk w b t cs)(j:Nat)(v:Value):Blk (w.setCell ⟨b,j,none⟩ v) b t (cs.setIfInBounds j v):=by
 have:=Go.Joins.block_setCell (i:=j) (v:=v) h;unfold Blk;simpa using this
theorem Blk.other8{w:World}{b g j:Nat}{u:Value}{t:TypeId}{cs:Array Value}(h:Blk w b t cs)(hne:b≠g):Blk (w.setCell ⟨g,j,none⟩ u) b t cs:=(Below.heap_setCell w _ _ b hne).trans h
theorem q3g:∀ (xs acc:List TxnD),∃zs,onc acc xs=acc++zs
 |[],acc=>⟨[],by simp[onc]⟩
 |t::r,acc=>by
  simp only[onc];obtain⟨zs,e⟩:=q3g r (if knw acc t then acc else acc++[t]);rw[e];split
  ·exact⟨zs,rfl⟩
  ·exact⟨t::zs,by simp⟩
theorem q5I(ds:List InstE)(n m:Nat)(h:n≤m):∃zs,defL ds m=defL ds n++zs:=by
 have e:ds.take m=ds.take n++(ds.take m).drop n:=by
  have:=(List.take_append_drop n (ds.take m)).symm
  rwa [List.take_take,Nat.min_eq_left h]at this
 unfold defL;rw[e];unfold z4k;rw[List.flatMap_append,z1R];exact q3g _ _
def bthF(ds ds':List TxnD):Int:=if lstF ds=0 then lstF ds' else lstF ds
theorem z81(v v':Value)(ps ps':List TxnQ)(w:World)(h:txnK.At w v ps)(h':txnK.At w v' ps')(hl:ps.length+nmL B ps≤1048576)(hl':ps'.length+nmL B ps'≤1048576):
  Calls R 231 #[Q (some ⟨w.heap.size,0,none⟩) 2 2] (w.alloc (.cells #[v,v'] 25)) fun e w'=>e=.returned (G D (bthF (ps.map E) (ps'.map E)))∧Below w.heap.size w w':=by
 have hB:Below w.heap.size w (w.alloc (.cells #[v,v'] 25)):=by go_grown
 have hX:=Blk.new w 25 #[v,v'];have hq:=z3s w.heap.size 2 [(v,ps),(v',ps')] (w.alloc (.cells #[v,v'] 25)) hX.lt (fun k hk=>by
  match k,hk with
  |0,_=>exact hX.cell 0 _ rfl
  |1,_=>exact hX.cell 1 _ rfl) (fun l hl=>by
   simp only[List.mem_cons,List.not_mem_nil,or_false]at hl;rcases hl with rfl|rfl
   ·exact h.below hB
   ·exact h'.below hB) (fun l hl=>by
   simp only[List.mem_cons,List.not_mem_nil,or_false]at hl;rcases hl with rfl | rfl <;> assumption) (by simp)
 have e0:q1A ([(v,ps),(v',ps')].map (fun l:Value × List TxnQ=>l.2.map E))=bthF (ps.map E) (ps'.map E):=by
  show(if lstF (ps.map E)=0 then(if lstF (ps'.map E)=0 then 0 else lstF (ps'.map E))else lstF (ps.map E))=bthF _ _;unfold bthF;split
  ·split
   ·rename_i h0;exact h0.symm
   ·rfl
  ·rfl
 rw[e0]at hq;refine Calls.mono (show Calls R _ #[Q (some ⟨w.heap.size,0,none⟩) 2 2] _ _ from hq) ?_;rintro e w2 ⟨rfl,hb⟩;exact⟨rfl,hB.trans (hb.mono hB.size)⟩
theorem z9W(xs:List UndoD):sameUs xs xs=true:=by
 induction xs with
 |nil=>rfl
 |cons x r ih=>simp[sameUs,z1W,ih]
theorem z9X(xs:List ItemD):sameIs xs xs=true:=by
 induction xs with
 |nil=>rfl
 |cons x r ih=>simp[sameIs,z18,ih]
def z5r(ds gone:List TxnD):List TxnD:=ds.filter (fun t=>!knw gone t)
def witQ(ps:List TxnQ)(gone:List TxnD):List TxnQ:=ps.filter (fun p=>!knw gone (E p))
theorem q5J(ps:List TxnQ)(gone:List TxnD):(witQ ps gone).map E=z5r (ps.map E) gone:=by
 induction ps with
 |nil=>rfl
 |cons p r ih=>
  simp only[witQ,z5r,List.map_cons,List.filter_cons]at ih⊢;split<;>simp[ih]
theorem q4g(ps:List TxnQ)(gone:List TxnD)(k:Nat)(hk:k<ps.length):witQ (ps.take (k+1)) gone=if knw gone (E ps[k])then witQ (ps.take k) gone else witQ (ps.take k) gone++[ps[k]]:=by
 unfold witQ;rw[List.take_succ_eq_append_getElem hk,List.filter_append]
 cases h:knw gone (E ps[k])<;>simp[List.filter_cons,h]
theorem q3h(ds:List TxnD)(gone:List TxnD)(k:Nat)(hk:k<ds.length):z5r (ds.take (k+1)) gone=if knw gone ds[k]then z5r (ds.take k) gone else z5r (ds.take k) gone++[ds[k]]:=by
 unfold z5r;rw[List.take_succ_eq_append_getElem hk,List.filter_append]
 cases h:knw gone ds[k]<;>simp[List.filter_cons,h]
theorem q5K(ps:List TxnQ)(gone:List TxnD)(k:Nat):(witQ (ps.take k) gone).length≤k:=by
 have h1:(witQ (ps.take k) gone).length≤(ps.take k).length:=List.length_filter_le ..;rw[List.length_take]at h1;omega
theorem q4h(ds:List TxnD)(gone:List TxnD)(k:Nat):(z5r (ds.take k) gone).length≤k:=by
 have h1:(z5r (ds.take k) gone).length≤(ds.take k).length:=List.length_filter_le ..;rw[List.length_take]at h1;omega
theorem q3i{ps:List TxnQ}{gone:List TxnD}{p:TxnQ}(h:p∈witQ ps gone):p∈ps:=(List.mem_filter.1 h).1
theorem q63(ps:List TxnQ)(gone:List TxnD):(witQ ps gone).length+nmL B (witQ ps gone)≤ps.length+nmL B ps:=by
 induction ps with
 |nil=>simp[witQ,nmL]
 |cons p r ih=>
  simp only[witQ,List.filter_cons,List.length_cons]at ih⊢;simp only[nmL,List.map_cons,List.sum_cons]at ih⊢;split
  ·simp only[List.length_cons,List.map_cons,List.sum_cons];omega
  ·omega
theorem q3j{acc:List TxnD}{t:TxnD}(h:stpF acc t=0):t.F=0∧knw acc t=false:=by
 unfold stpF at h;by_cases h0:t.F=0
 ·rw[if_pos h0]at h;refine⟨h0,?_⟩
  cases hk:knw acc t with
  |false=>rfl
  |true=>rw[hk]at h;exact absurd h (by decide)
 ·rw[if_neg h0]at h;exact absurd h h0
theorem z82:∀ (r acc:List TxnD),z2b acc r=0→∀t∈r,t.F=0
 |[],_,_,t,ht=>by simp at ht
 |x::r,acc,h,t,ht=>by
  rw[z2b]at h;by_cases h0:stpF acc x=0
  ·rw[if_pos h0]at h;rcases List.mem_cons.1 ht with rfl|ht
   ·exact(q3j h0).1
   ·exact z82 r _ h t ht
  ·rw[if_neg h0]at h;exact absurd h h0
theorem z6c{ds:List TxnD}(h:lstF ds=0):ds.length≤40∧∀t∈ds,t.F=0:=by
 unfold lstF at h;by_cases h4:40<ds.length
 ·rw[if_pos h4]at h;exact absurd h (by decide)
 ·rw[if_neg h4]at h;exact⟨by omega,z82 ds [] h⟩
theorem q5L{t:TxnD}(h:t.F=0):0<t.acts.length:=by
 obtain⟨i,s,q,zs⟩:=t;have h:txnF i s q zs=0:=h;rcases z3O i s q zs with⟨_,e⟩|⟨_,_,e⟩|⟨_,_,_,e⟩|⟨_,_,_,⟨_,e⟩|⟨_,e⟩|⟨h1,_,_⟩⟩
 ·rw[e]at h;exact absurd h (by decide)
 ·rw[e]at h;exact absurd h (by decide)
 ·rw[e]at h;exact absurd h (by decide)
 ·rw[e]at h;exact absurd h (by decide)
 ·rw[e]at h;exact absurd h (by decide)
 ·show 0<zs.length;omega
theorem z1E{ds ds':List TxnD}(h:bthF ds ds'=0):lstF ds=0∧lstF ds'=0:=by
 unfold bthF at h;by_cases h0:lstF ds=0
 ·rw[if_pos h0]at h;exact⟨h0,h⟩
 ·rw[if_neg h0]at h;exact absurd h h0
theorem z7R{ps:List TxnQ}(h:lstF (ps.map E)=0):∀p∈ps,0<p.acts.length:=fun p hp=>q5L (t:=E p) ((z6c h).2 _ (List.mem_map.2 ⟨p,hp,rfl⟩))
theorem z9Y(v v':Value)(ps gs:List TxnQ)(w:World)(h:txnK.At w v ps)(h':txnK.At w v' gs)(hl:ps.length≤40)(ah:gs.length≤1048576):
  Calls R 212 #[v,v'] w fun e w'=>∃v2,e=.returned v2∧w'.ownsRow w.heap.size 39 4 v2 (witQ ps (gs.map E)).length (txnK.row (witQ ps (gs.map E)))∧Below w.heap.size w w':=by
 obtain⟨a,cap,rfl⟩:=h.shape;obtain⟨a',U,rfl⟩:=h'.shape;obtain⟨i0,hi,ai,aj,ak⟩:=info_parts z1e;have W:=fun x a n c w h=>z1l (Q a' gs.length U) gs x a n c w h ah
 generalize gs.map E=gd at*;have ab:w.ownsRow w.heap.size 39 4 (Q none 0 0) (witQ (ps.take 0) gd).length (txnK.row (witQ (ps.take 0) gd)):=World.ownsRow_nil _ _ _ _;go_enter func212,ntmps212
 go_wp2
 go_loopw[5,10] (fun v j wr=>∃k:Nat,k≤ps.length∧j=G D k∧wr.ownsRow w.heap.size 39 4 v (witQ (ps.take k) gd).length (txnK.row (witQ (ps.take k) gd))∧Below w.heap.size w wr) (fun _ j _=>ps.length-(intOf j).toNat)
 case atStart=>exact⟨0,f _,rfl,ab,Below.refl _ _⟩
 case round=>
  clear ab;obtain⟨k,hk,rfl,hO,hb⟩:=hrel;by_cases X:k<ps.length
  ·have HW:=q4g ps gd k X;have am:=q5K ps gd k;obtain⟨b,al,rfl,an,hc,I⟩:=(h.below hb).cell (by decide) k X;have y:∀j x,(txnK.cells ps[k])[j]?=some x→wr.cell? ⟨b,al+k*4+j,none⟩=some x:=hc;have c0:=y 0 (G D ps[k].i) rfl;have c1:=y 1 (G D ps[k].s) rfl;have c2:=y 2 (G D ps[k].q) rfl;have c3:=y 3 (ps[k].va) rfl;rw[Nat.add_zero]at c0;clear hc y;generalize witQ (ps.take k) gd=qs at*;obtain⟨sa,sc,rfl⟩:=z0f hO;generalize hK:knw gd (E ps[k])=K at*;have HK:Hid (knw gd (E ps[k])=K):=hK;clear hK;generalize ps[k]=p at*;obtain⟨i,s,q,va,d⟩:=p;replace I:actK.At wr va d:=I;obtain⟨aa,ac,rfl⟩:=I.shape;dsimp only[E]at c0 c1 c2 c3 HK;have C:Below wr.heap.size wr (wr.alloc (.cells #[G D i,G D s,G D q,Q aa d.length ac] 39)):=by go_grown
   have hX:=Blk.new wr 39 #[G D i,G D s,G D q,Q aa d.length ac];have hq:=W ⟨i,s,q,d⟩ aa d.length ac _ (h'.below (hb.trans (C.mono hb.size)));rw[HK.out]at hq;dsimp only at hq;replace hO:=z0a hO C;replace hb:=hb.trans (C.mono hb.size);have Z:(k:Int)<(ps.length:Int):=by omega
   clear C HK I
   go_wp2_with fail
   clear c0 c1 c2 c3;have ao:wr.heap.size<(wr.alloc (.cells #[G D i,G D s,G D q,Q aa d.length ac] 39)).heap.size:=by simp
   generalize wr.heap.size=H at*;generalize wr.alloc (.cells #[G D i,G D s,G D q,Q aa d.length ac] 39)=Y at*;refine hq.mono ?_;rintro e w2 ⟨rfl,A⟩;replace hO:=z0a hO A;replace hb:=hb.trans (A.mono hb.size);replace hX:=hX.below A;clear hq A
   cases K with
   |true=>
    rw[if_pos rfl]at HW;rw[←HW]at hO;have HH:Hid (w2.ownsRow w.heap.size 39 4 (.slice sa (witQ (ps.take (k+1)) gd).length sc) (witQ (ps.take (k+1)) gd).length (txnK.row (witQ (ps.take (k+1)) gd))):=hO;rw[←HW];clear HW hO
    go_wp2
    go_roundw
    case rel=>exact⟨k+1,by omega,by go_num,HH.out,hb⟩
    case measure=>simp[intOf];omega
   |false=>
    have ae:Hid (witQ (ps.take (k+1)) gd=qs++[(⟨i,s,q,Q aa d.length ac,d⟩:TxnQ)]):=HW;clear HW;obtain⟨x0,x1,x2,x3⟩:=hX.cel4;have N:Below w2.heap.size w2 (w2.alloc (.cells #[G D i,G D s,G D q,Q aa d.length ac] 39)):=by go_grown
    have M:=z0a hO N;have O:=hb.trans (N.mono hb.size);have ap:=hb.size;clear hO hb hX
    go_wp2_with (at_builtin;refine wpList_append_own_at _ rfl _ _ 25 rfl w.heap.size 39 i0 (.agg #[G D 0,G D 0,G D 0,Q none 0 0]) 4 48 Tryz.underlying25 hi ai aj ak rfl (by decide) _ qs.length (txnK.row qs) rfl M ⟨w2.heap.size,0,none⟩ 1 1 [G D i,G D s,G D q,Q aa d.length ac] rfl rfl ?c1 ?c2 ?c3 ?c4 ?c5 ?_)
    all_goals try(case c1=>intro j u hj;match j,hj with|0,hj=>simp at hj;subst hj;simp[Addr.add]|1,hj=>simp at hj;subst hj;simp[Addr.add]|2,hj=>simp at hj;subst hj;simp[Addr.add]|3,hj=>simp at hj;subst hj;simp[Addr.add])
    all_goals try(case c2=>intro u hu;simp at hu;rcases hu with rfl|rfl|rfl|rfl<;>rfl)
    all_goals try(case c3=>unfold maxLen;omega)
    all_goals try(case c4=>omega)
    all_goals try(case c5=>have:=N.size;omega)
    intro v' w5 J z ad V;have L:txnK.row (qs++[(⟨i,s,q,Q aa d.length ac,d⟩:TxnQ)])=txnK.row qs++[G D i,G D s,G D q,Q aa d.length ac]:=by simp[Kind.row];rfl
    have T:w5.ownsRow w.heap.size 39 4 v' (witQ (ps.take (k+1)) gd).length (txnK.row (witQ (ps.take (k+1)) gd)):=by rw[ae.out,L,List.length_append];exact J
    have af:Below w.heap.size w w5:=O.grown z O.size (fun j hj=>by have:=(M.lt j hj).1;omega);clear J z ad V L M O x0 x1 x2 x3
    go_wp2
    go_roundw
    case rel=>exact⟨k+1,by omega,by go_num,T,af⟩
    case measure=>simp[intOf];omega
  ·have ag:k=ps.length:=by omega
   subst ag;rw[List.take_length]at hO;have Z:¬((ps.length:Nat):Int)<(ps.length:Int):=by omega
   go_wp2
   go_ret;exact⟨_,rfl,hO,hb⟩
theorem z7S(v v':Value)(ps gs:List TxnQ)(w:World)(h:txnK.At w v ps)(h':txnK.At w v' gs)(aF:∀p∈ps,0<p.acts.length)(aM:ps.length≤40)(hl:ps.length+nmL B ps≤1048576)(aE:gs.length≤1048576):
  Calls R 233 #[v,v'] w fun e w'=>∃v2 qs,e=.returned v2∧qs.map E=z5r (ps.map E) (gs.map E)∧txnK.Own w' v2 qs∧(txnK.fp v2 qs).Nodup∧(∀k∈txnK.fp v2 qs,w.heap.size≤k)∧Below w.heap.size w w':=by
 obtain⟨a,cap,rfl⟩:=h.shape;obtain⟨a',ah,rfl⟩:=h'.shape;obtain⟨i0,hi,aJ,aK,aL⟩:=info_parts z1e;have am:=fun b o x va w h hB=>z1A (Q a' gs.length ah) gs b o x va w h hB aE
 generalize gs.map E=gd at*;have ho:=World.ownsRow_lit (e:=39) (size:=4) w #[] 0 (P _) (by decide) rfl;have ap:txnK.Own (w.alloc (.cells #[] 39)) (Q (some ⟨w.heap.size,0,none⟩) 0 0) ([]:List TxnQ):=⟨(z0x ho).1,fun p hp=>by simp at hp⟩
 have ar:Below w.heap.size w (w.alloc (.cells #[] 39)):=by go_grown
 have ae:Hid ((txnK.fp (Q (some ⟨w.heap.size,0,none⟩) 0 0) ([]:List TxnQ)).Nodup∧∀k∈txnK.fp (Q (some ⟨w.heap.size,0,none⟩) 0 0) ([]:List TxnQ),w.heap.size≤k):=by
  refine⟨?_,?_⟩
  ·simp[Kind.fp,blk,Value.ownBlock]
  ·simp[Kind.fp,blk,Value.ownBlock]
 clear ho;go_enter func233,ntmps233
 go_wp2
 go_loopw[5,6] (fun v j wr=>∃ (k:Nat) (qs:List TxnQ),k≤ps.length∧j=G D k∧Hid (qs.map E=z5r ((ps.map E).take k) gd)∧txnK.Own wr v qs∧Hid ((txnK.fp v qs).Nodup∧∀k∈txnK.fp v qs,w.heap.size≤k)∧Below w.heap.size w wr) (fun _ j _=>ps.length-(intOf j).toNat)
 case atStart=>exact⟨0,[],f _,rfl,(rfl:_=_),ap,ae,ar⟩
 case round=>
  clear ae ap ar;obtain⟨k,qs,hk,rfl,HE,hO,HN,hb⟩:=hrel;obtain⟨sa,sc,rfl⟩:=hO.shape;have ag:Hid (qs.length≤k):=show _≤_ by
   have h1:=congrArg List.length HE.out;have h2:=q4h (ps.map E) gd k;rw[Va]at h1;omega
  by_cases O:k<ps.length
  ·obtain⟨b,Z,rfl,aO,hc,y⟩:=(h.below hb).cell (by decide) k O;have C:∀j x,(txnK.cells ps[k])[j]?=some x→wr.cell? ⟨b,Z+k*4+j,none⟩=some x:=hc;have c0:=C 0 (G D ps[k].i) rfl;have c1:=C 1 (G D ps[k].s) rfl;have c2:=C 2 (G D ps[k].q) rfl;have c3:=C 3 (ps[k].va) rfl;rw[Nat.add_zero]at c0;have Y:=z1r B ps k O;have J:=aF _ (List.getElem_mem O);have HW:Hid (z5r ((ps.map E).take (k+1)) gd=if knw gd (E ps[k])then qs.map E else qs.map E++[E ps[k]]):=show _=_ by
    have:=q3h (ps.map E) gd k (by simpa using O);rw[this,HE.out];simp
   clear hc C HE;generalize hK:knw gd (E ps[k])=K at*;have HK:Hid (knw gd (E ps[k])=K):=hK;clear hK;generalize ps[k]=p at*;obtain⟨i,s,q,va,c⟩:=p;replace y:actK.At wr va c:=y;replace Y:c.length≤nmL B ps:=Y;obtain⟨aa,ac,rfl⟩:=y.shape;dsimp only at c0 c1 c2 c3 J;obtain⟨ab,ao,aB⟩:∃ab ao,aa=some ⟨ab,ao,none⟩:=by
    rcases(z0y y).2 with h0|⟨ab,ao,e,_⟩
    ·have:=z0t c;rw[h0]at this;simp at this;omega
    ·exact⟨ab,ao,e⟩
   subst aB;have z:Box4 wr b (Z+k*4) (G D i) (G D s) (G D q) (Q (some ⟨ab,ao,none⟩) c.length ac):=⟨c0,c1,c2,c3⟩
   have hq:=am b (Z+k*4) (E ⟨i,s,q,Q (some ⟨ab,ao,none⟩) c.length ac,c⟩) _ wr (h'.below hb) z;rw[HK.out]at hq;clear HK c0 c1 c2 c3 am;have an:(k:Int)<(ps.length:Int):=by omega
   go_wp2_with fail
   refine hq.mono ?_;rintro e w1 ⟨rfl,d⟩;have ad:=hO.lt;replace hO:=hO.below d;replace hb:=hb.trans (d.mono hb.size);replace z:=z.below d;have aP:=d.size
   cases K with
   |true=>
    have ax:Hid (qs.map E=z5r ((ps.map E).take (k+1)) gd):=show _=_ by rw[HW.out];rfl
    clear HW z d
    go_wp2
    go_roundw
    case rel=>exact⟨k+1,qs,by omega,by go_num,ax,hO,HN,hb⟩
    case measure=>simp[intOf];omega
   |false=>
    have af:Hid (∀p':TxnQ,p'.e=(⟨i,s,q,c⟩:TxnD)→(qs++[p']).map E=z5r ((ps.map E).take (k+1)) gd):=fun p' aG=>by
     rw[HW.out,List.map_append,List.map_singleton,aG];rfl
    clear HW;have ak:=z4p i s q ab ao ac c w1 ((z0y y).2.below d) J (by omega);obtain⟨c0,c1,c2,c3⟩:=z;clear y d
    go_wp2_with fail
    clear c0 c1 c2 c3;have aN:w.heap.size≤w1.heap.size:=hb.size;refine ak.mono ?_;rintro e w2 ⟨a2,c2,rfl,av,X⟩;replace hO:=hO.below X;replace hb:=hb.trans (X.mono hb.size);obtain⟨o2,al⟩:=z0x av;have hP:txnK.own w2 ⟨i,s,q,Q a2 c.length c2,c⟩:=⟨o2,fun _ _=>trivial⟩
    have A:∀x∈txnK.foot ⟨i,s,q,Q a2 c.length c2,c⟩,w1.heap.size≤x:=fun x hx=>al x (by rw[←z0S (Q a2 c.length c2) c];exact hx)
    have aj:(txnK.foot ⟨i,s,q,Q a2 c.length c2,c⟩).Nodup:=by
     show(actK.fp _ _).Nodup;rw[z0S];exact z0v _
    have M:Below w2.heap.size w2 (w2.alloc (.cells #[G D i,G D s,G D q,Q a2 c.length c2] 39)):=by go_grown
    have V:=hO.below M;have ai:=txnK.own_out (F:=[]) hP (Out.of_below M) (fun _ _=>by simp);have N:=hb.trans (M.mono hb.size);clear ak av hO hP al;have L:=V.1
    go_wp2_with (at_builtin;refine wpList_append_own_at _ rfl _ _ 25 rfl 0 39 i0 (.agg #[G D 0,G D 0,G D 0,Q none 0 0]) 4 48 Tryz.underlying25 hi aJ aK aL rfl (by decide) _ qs.length (txnK.row qs) rfl L ⟨w2.heap.size,0,none⟩ 1 1 [G D i,G D s,G D q,Q a2 c.length c2] rfl rfl ?c1 ?c2 ?c3 ?c4 ?c5 ?_)
    all_goals try(case c1=>intro j u hj;match j,hj with|0,hj=>simp at hj;subst hj;simp[Addr.add]|1,hj=>simp at hj;subst hj;simp[Addr.add]|2,hj=>simp at hj;subst hj;simp[Addr.add]|3,hj=>simp at hj;subst hj;simp[Addr.add])
    all_goals try(case c2=>intro u hu;simp at hu;rcases hu with rfl|rfl|rfl|rfl<;>rfl)
    all_goals try(case c3=>have:=ag.out;unfold maxLen;omega)
    all_goals try(case c4=>have:=ag.out;omega)
    all_goals try(case c5=>first|omega|simp)
    intro v' w5 U I au W;clear au L;rw[show w2.heap.size+1=(w2.alloc (.cells #[G D i,G D s,G D q,Q a2 c.length c2] 39)).heap.size from(World.size_alloc _ _).symm]at W;generalize aH:w2.alloc (.cells #[G D i,G D s,G D q,Q a2 c.length c2] 39)=WA at*;clear aH;obtain⟨aA,aq,T,aw⟩:=V.snoc HN.out.1 HN.out.2 ai aj (fun x hx aI=>by have:=ad x aI;have:=A x hx;omega) (fun x hx=>by have:=A x hx;omega) N.size U I W;have aC:Below w.heap.size w w5:=Out.keep N aw N.size (fun x hx=>HN.out.2 x (by simp only[Kind.fp,List.mem_append];exact Or.inl hx));have ay:Hid ((qs++[(⟨i,s,q,Q a2 c.length c2,c⟩:TxnQ)]).map E=z5r ((ps.map E).take (k+1)) gd):=af.out _ rfl;have az:Hid ((txnK.fp v' (qs++[(⟨i,s,q,Q a2 c.length c2,c⟩:TxnQ)])).Nodup∧∀k∈txnK.fp v' (qs++[(⟨i,s,q,Q a2 c.length c2,c⟩:TxnQ)]),w.heap.size≤k):=⟨aq,T⟩
    clear af HN ad A aj ai V N U I W aw aq T hb M X Y J
    go_wp2
    go_roundw
    case rel=>exact⟨k+1,_,by omega,by go_num,ay,aA,az,aC⟩
    case measure=>simp[intOf];omega
  ·have aD:k=ps.length:=by omega
   subst aD;have hE:=HE.out;rw[List.take_of_length_le (by simp)]at hE;have an:¬((ps.length:Nat):Int)<(ps.length:Int):=by omega
   clear HE
   go_wp2
   go_ret;first|exact⟨_,qs,rfl,hE,hO,HN.out.1,HN.out.2,hb⟩|exact⟨_,rfl,qs,hE,hO,HN.out.1,HN.out.2,hb⟩
def comN:List TxnD→List TxnD→Nat
 |x::r,y::s=>if z0F x y then comN r s+1 else 0
 |_,_=>0
theorem z83:∀ (xs ys:List TxnD) (k:Nat),(∀j,j<k→z0F (xs.getD j z00) (ys.getD j z00)=true)→k≤xs.length→k≤ys.length→(k=xs.length∨k=ys.length∨z0F (xs.getD k z00) (ys.getD k z00)=false)→comN xs ys=k
 |[],ys,k,_,h1,_,_=>by
  have:k=0:=by simpa using h1
  subst this;simp[comN]
 |x::r,[],k,_,_,h2,_=>by
  have:k=0:=by simpa using h2
  subst this;simp[comN]
 |x::r,y::s,0,_,_,_,h=>by
  rcases h with h|h|h
  ·simp at h
  ·simp at h
  ·have:z0F x y=false:=h;simp[comN,this]
 |x::r,y::s,k+1,hA,h1,h2,h=>by
  have h0:z0F x y=true:=hA 0 (by omega);rw [comN,if_pos h0,z83 r s k (fun j hj=>hA (j + 1) (by omega)) (by simpa using h1) (by simpa using h2) (by
   rcases h with h|h|h
   ·exact Or.inl (by simpa using h)
   ·exact Or.inr (Or.inl (by simpa using h))
   ·exact Or.inr (Or.inr h))]
theorem q0x(xs ys:List TxnD):comN xs ys≤xs.length∧comN xs ys≤ys.length:=by
 induction xs generalizing ys with
 |nil=>simp[comN]
 |cons x r ih=>
  cases ys with
  |nil=>simp[comN]
  |cons y s=>
   simp only[comN,List.length_cons];have:=ih s;split<;>omega
def cmV(ds ds':List TxnD):Int:=if bthF ds ds'=0 then(comN ds ds':Int)else 0
theorem z5b(v v':Value)(ps c:List TxnQ)(w:World)(h:txnK.At w v ps)(h':txnK.At w v' c)(hl:ps.length+nmL B ps≤1048576)(aj:c.length+nmL B c≤1048576):
  Calls R 211 #[v,v'] w fun e w'=>e=.returned (.agg #[G D (bthF (ps.map E) (c.map E)),G D (cmV (ps.map E) (c.map E))])∧Below w.heap.size w w':=by
 have HV:Hid ((bthF (ps.map E) (c.map E)=0→cmV (ps.map E) (c.map E)=(comN (ps.map E) (c.map E):Int))∧(bthF (ps.map E) (c.map E)≠0→cmV (ps.map E) (c.map E)=0)):=⟨fun h0=>if_pos h0,fun h0=>if_neg h0⟩
 have hB:Below w.heap.size w (w.alloc (.cells #[G D 0,G D 0] 53)):=by go_grown
 have Rb:=Blk.new w 53 #[G D 0,G D 0];have hq:=z81 v v' ps c (w.alloc (.cells #[G D 0,G D 0] 53)) (h.below hB) (h'.below hB) hl aj;rw[World.size_alloc]at hq;obtain⟨a,cap,rfl⟩:=h.shape;obtain⟨a',am,rfl⟩:=h'.shape;generalize bthF (ps.map E) (c.map E)=C at*;generalize cmV (ps.map E) (c.map E)=V at*;go_enter func211,ntmps211
 go_wp2_with fail
 refine hq.mono ?_;rintro e w1 ⟨rfl,O⟩;rw[←World.size_alloc w (.cells #[G D 0,G D 0] 53)]at O;replace hB:=hB.trans (O.mono hB.size);replace Rb:=Rb.below O;clear hq O;by_cases hC:C=0
 ·have N:Hid (V=(comN (ps.map E) (c.map E):Int)):=HV.out.1 hC;subst hC;clear HV
  go_wp2
  go_loopw[6] (fun j wr=>∃k:Nat,k≤ps.length∧k≤c.length∧j=G D k∧Below w.heap.size w wr∧Blk wr w.heap.size 53 #[G D 0,G D 0]∧Hid (∀j,j<k→z0F ((ps.map E).getD j z00) ((c.map E).getD j z00)=true)) (fun j _=>ps.length-(intOf j).toNat)
  case atStart=>exact⟨0,f _,f _,rfl,hB,Rb,fun j hj=>absurd hj (Nat.not_lt_zero _)⟩
  case round=>
   clear hB Rb;obtain⟨k,hk,ad,rfl,hb,Rb,HA⟩:=hrel;obtain⟨mn,af⟩:∃mn:Nat,mn=min ps.length c.length:=⟨_,rfl⟩
   have I:∀u:Lat wr,(Builtin.min_ #[3,3] 3 #[G D ps.length,G D c.length]).run R u.val=.ok (G D mn) u.val:=fun u=>by
    rw[run_min_int2]
    congr 2
    split<;>omega
   have hW:Below wr.heap.size wr wr.drew:=(Below.refl _ _).drew;have ag:Nonempty (Lat wr):=⟨⟨wr,Below.refl _ _⟩⟩
   by_cases ar:k<mn
   ·have T:k<ps.length:=by omega
    have A:k<c.length:=by omega
    obtain⟨b,ak,rfl,ap,ab,M⟩:=(h.below hb).cell (by decide) k T;obtain⟨b',ah,rfl,an,U,y⟩:=(h'.below hb).cell (by decide) k A;have J:∀j x,(txnK.cells ps[k])[j]?=some x→wr.cell? ⟨b,ak+k*4+j,none⟩=some x:=ab;have L:∀j x,(txnK.cells c[k])[j]?=some x→wr.cell? ⟨b',ah+k*4+j,none⟩=some x:=U;have c0:=J 0 (G D ps[k].i) rfl;have c1:=J 1 (G D ps[k].s) rfl;have c2:=J 2 (G D ps[k].q) rfl;have c3:=J 3 (ps[k].va) rfl;have d0:=L 0 (G D c[k].i) rfl;have d1:=L 1 (G D c[k].s) rfl;have d2:=L 2 (G D c[k].q) rfl;have d3:=L 3 (c[k].va) rfl;rw[Nat.add_zero]at c0 d0;have n1:=z1r B ps k T;have n2:=z1r B c k A;have HY:Hid (z0F (E ps[k]) (E c[k])=false→comN (ps.map E) (c.map E)=k):=fun hx=>z83 _ _ k HA.out (by simpa using hk) (by simpa using ad) (Or.inr (Or.inr (by rw[z1x ps k T,z1x c k A];exact hx)))
    have HN:Hid (z0F (E ps[k]) (E c[k])=true→∀j,j<k+1→z0F ((ps.map E).getD j z00) ((c.map E).getD j z00)=true):=fun hx j hj=>by
     by_cases ai:j=k
     ·subst ai;rw[z1x ps j T,z1x c j A];exact hx
     ·exact HA.out j (by omega)
    clear HA ab U J L;generalize hS:z0F (E ps[k]) (E c[k])=S at*;have HS:Hid (z0F (E ps[k]) (E c[k])=S):=hS;clear hS;generalize ps[k]=p at*;generalize c[k]=p' at*;obtain⟨i,s,q,va,z⟩:=p;obtain⟨i',s',q',al,d⟩:=p';replace M:actK.At wr va z:=M;replace y:actK.At wr al d:=y;replace n1:z.length≤nmL B ps:=n1;replace n2:d.length≤nmL B c:=n2;obtain⟨aa,ac,rfl⟩:=M.shape;obtain⟨W,X,rfl⟩:=y.shape;have hR:=(z0y M).2;have Y:=(z0y y).2;dsimp only[E]at c0 c1 c2 c3 d0 d1 d2 d3 HS;replace c0:=z0d c0;replace c1:=z0d c1;replace c2:=z0d c2;replace c3:=z0d c3;replace d0:=z0d d0;replace d1:=z0d d1;replace d2:=z0d d2;replace d3:=z0d d3;have hq:=fun w h1 h2=>z39 ⟨i,s,q,z⟩ ⟨i',s',q',d⟩ aa W ac X w h1 h2 (by dsimp only;omega) (by dsimp only;omega)
    rw[HS.out]at hq;dsimp only at hq;have ae:(k:Int)<(mn:Int):=by omega
    have aq:(k:Int)<(ps.length:Int):=by omega
    have ao:(k:Int)<(c.length:Int):=by omega
    clear HS af M y
    go_wp2_with fail
    refine z0b (S:=fun w'=>∃u:Lat wr,w'=u.val) (by kernel_rfl) ?_;refine sgr [(0,2),(3,1)] 15 (by kernel_rfl) ⟨⟨_,hW⟩,rfl⟩ ?_;simp only[pkE];repeat go_big_quiet_step (fail)
    refine wpQuiet_nil ?_;refine qta 2 (some 17) (G D ps.length) 14 (by kernel_rfl) (fun u _=>by kernel_rfl) ⟨⟨_,hW⟩,rfl⟩ ?_;simp only[Vb,pjE];refine qta 4 (some 19) (G D c.length) 13 (by kernel_rfl) (fun u _=>by kernel_rfl) ⟨⟨_,hW⟩,rfl⟩ ?_;simp only[Vb,pjE];refine qta 5 (some 20) (G D mn) 12 (by kernel_rfl) (fun u hu=>?_) ⟨⟨_,hW⟩,rfl⟩ ?_
    ·obtain⟨u,rfl⟩:=hu;refine Eq.trans (b:=some (((Builtin.min_ #[3,3] 3 #[G D ps.length,G D c.length])>>=fun x=>pure (Next.value x):Sem Next).run R u.val)) (by kernel_rfl) ?_;rw[Sem.run_bind,I u];rfl
    simp only[Vb,pjE];refine sgr [(6,10)] 2 (by kernel_rfl) ⟨⟨_,hW⟩,rfl⟩ ?_;simp only[pkE];repeat go_big_quiet_step (fail)
    refine wpQuiet_nil ?_;refine cla 16 (some 31) 65 #[.agg #[G D i,G D s,G D q,Q aa z.length ac],.agg #[G D i',G D s',G D q',Q W d.length X]] 1 (by kernel_rfl) ?_;refine(hq _ (hR.below hW) (Y.below hW)).mono ?_;rintro e w9 ⟨rfl,Z⟩;replace hW:=hW.trans (Z.mono hW.size);clear Z;refine⟨_,rfl,⟨⟨_,hW⟩,rfl⟩,?_⟩;simp only[Vb,pjE];refine sgr [(17,1)] 0 (by kernel_rfl) ⟨⟨_,hW⟩,rfl⟩ ?_;simp only[pkE];repeat go_big_quiet_step (fail)
    refine wpQuiet_nil ?_;refine z0e (by kernel_rfl) ?_;replace hb:=hb.trans (hW.mono hb.size);replace Rb:=Rb.below hW;clear hW ag hq c0 c1 c2 c3 d0 d1 d2 d3 hR Y I
    cases S with
    |true=>
     have HR:Hid _:=HN.out rfl;clear HY HN
     go_wp2
     go_roundw
     case rel=>exact⟨k+1,by omega,by omega,by go_num,hb,Rb,HR.out⟩
     case measure=>simp[intOf];omega
    |false=>
     have HR:Hid (V=(k:Int)):=show _=_ by rw[N.out,HY.out rfl]
     obtain⟨q0,q1⟩:=Rb.cel2;obtain⟨f0,f1⟩:=Rb.frz2;clear HY HN N
     go_wp2
     exact bodyPost_ret (v:=.agg #[G D 0,G D k]) (by simp[results,results211,go_sem,q0,q1]) rfl ⟨by rw[HR.out],(hb.setCell (p:=⟨w.heap.size,0,none⟩) (P _) _).setCell (p:=⟨w.heap.size,1,none⟩) (P _) _⟩
   ·have ae:¬(k:Int)<(mn:Int):=by omega
    have HR:Hid (V=(k:Int)):=show _=_ by
     rw[N.out,z83 _ _ k HA.out (by simpa using hk) (by simpa using ad) (by rw[Va,Va];omega)]
    clear HA N af
    go_wp2_with fail
    refine z0b (S:=fun w'=>∃u:Lat wr,w'=u.val) (by kernel_rfl) ?_;refine sgr [(0,2),(3,1)] 15 (by kernel_rfl) ⟨⟨_,hW⟩,rfl⟩ ?_;simp only[pkE];repeat go_big_quiet_step (fail)
    refine wpQuiet_nil ?_;refine qta 2 (some 17) (G D ps.length) 14 (by kernel_rfl) (fun u _=>by kernel_rfl) ⟨⟨_,hW⟩,rfl⟩ ?_;simp only[Vb,pjE];refine qta 4 (some 19) (G D c.length) 13 (by kernel_rfl) (fun u _=>by kernel_rfl) ⟨⟨_,hW⟩,rfl⟩ ?_;simp only[Vb,pjE];refine qta 5 (some 20) (G D mn) 12 (by kernel_rfl) (fun u hu=>?_) ⟨⟨_,hW⟩,rfl⟩ ?_
    ·obtain⟨u,rfl⟩:=hu;refine Eq.trans (b:=some (((Builtin.min_ #[3,3] 3 #[G D ps.length,G D c.length])>>=fun x=>pure (Next.value x):Sem Next).run R u.val)) (by kernel_rfl) ?_;rw[Sem.run_bind,I u];rfl
    simp only[Vb,pjE];refine sgr [(6,10)] 2 (by kernel_rfl) ⟨⟨_,hW⟩,rfl⟩ ?_;simp only[pkE];repeat go_big_quiet_step (fail)
    refine wpQuiet_nil ?_;refine ska 16 (some 31) 1 (by kernel_rfl) ⟨⟨_,hW⟩,rfl⟩ ?_;simp only[Vb,pjE];refine sgr [(17,1)] 0 (by kernel_rfl) ⟨⟨_,hW⟩,rfl⟩ ?_;simp only[pkE];repeat go_big_quiet_step (fail)
    refine wpQuiet_nil ?_;refine z0e (by kernel_rfl) ?_;replace hb:=hb.trans (hW.mono hb.size);replace Rb:=Rb.below hW;clear hW ag I;generalize wr.drew=wd at*;obtain⟨q0,q1⟩:=Rb.cel2;obtain⟨f0,f1⟩:=Rb.frz2
    go_wp2
    exact bodyPost_ret (v:=.agg #[G D 0,G D k]) (by simp[results,results211,go_sem,q0,q1]) rfl ⟨by rw[HR.out],(hb.setCell (p:=⟨w.heap.size,0,none⟩) (P _) _).setCell (p:=⟨w.heap.size,1,none⟩) (P _) _⟩
 ·have HR:Hid (V=0):=HV.out.2 hC;obtain⟨q0,q1⟩:=Rb.cel2;obtain⟨f0,f1⟩:=Rb.frz2;clear HV
  go_wp2
  exact bodyPost_ret (v:=.agg #[G D C,G D 0]) (by simp[results,results211,go_sem,q0,q1]) rfl ⟨by rw[HR.out],(hB.setCell (p:=⟨w.heap.size,0,none⟩) (P _) _).setCell (p:=⟨w.heap.size,1,none⟩) (P _) _⟩
theorem z84(v v':Value)(ps c:List TxnQ)(w:World)(h:txnK.At w v ps)(h':txnK.At w v' c)(hl:ps.length+nmL B ps≤1048576)(ao:c.length+nmL B c≤1048576):
  Calls R 232 #[v,v'] w fun e w'=>e=.returned (G D (comN (ps.map E) (c.map E)))∧Below w.heap.size w w':=by
 obtain⟨a,cap,rfl⟩:=h.shape;obtain⟨a',al,rfl⟩:=h'.shape;obtain⟨V,hV⟩:∃V:Int,V=(comN (ps.map E) (c.map E):Int):=⟨_,rfl⟩
 have N:Hid (V=(comN (ps.map E) (c.map E):Int)):=hV;rw[←hV];clear hV;go_enter func232,ntmps232
 go_wp2
 go_loopw[5] (fun j wr=>∃k:Nat,k≤ps.length∧k≤c.length∧j=G D k∧Below w.heap.size w wr∧Hid (∀j,j<k→z0F ((ps.map E).getD j z00) ((c.map E).getD j z00)=true)) (fun j _=>ps.length-(intOf j).toNat)
 case atStart=>exact⟨0,f _,f _,rfl,Below.refl _ _,fun j hj=>absurd hj (Nat.not_lt_zero _)⟩
 case round=>
   obtain⟨k,hk,af,rfl,hb,HA⟩:=hrel;have hW:Below wr.heap.size wr wr.drew:=(Below.refl _ _).drew;have W:Nonempty (Lat wr):=⟨⟨wr,Below.refl _ _⟩⟩
   by_cases aj:k<ps.length∧k<c.length
   ·obtain⟨L,y⟩:=aj;obtain⟨b,O,rfl,an,ae,M⟩:=(h.below hb).cell (by decide) k L;obtain⟨b',C,rfl,am,U,z⟩:=(h'.below hb).cell (by decide) k y;have I:∀j x,(txnK.cells ps[k])[j]?=some x→wr.cell? ⟨b,O+k*4+j,none⟩=some x:=ae;have J:∀j x,(txnK.cells c[k])[j]?=some x→wr.cell? ⟨b',C+k*4+j,none⟩=some x:=U;have c0:=I 0 (G D ps[k].i) rfl;have c1:=I 1 (G D ps[k].s) rfl;have c2:=I 2 (G D ps[k].q) rfl;have c3:=I 3 (ps[k].va) rfl;have d0:=J 0 (G D c[k].i) rfl;have d1:=J 1 (G D c[k].s) rfl;have d2:=J 2 (G D c[k].q) rfl;have d3:=J 3 (c[k].va) rfl;rw[Nat.add_zero]at c0 d0;have n1:=z1r B ps k L;have n2:=z1r B c k y;have HY:Hid (z0F (E ps[k]) (E c[k])=false→comN (ps.map E) (c.map E)=k):=fun hx=>z83 _ _ k HA.out (by simpa using hk) (by simpa using af) (Or.inr (Or.inr (by rw[z1x ps k L,z1x c k y];exact hx)))
    have HN:Hid (z0F (E ps[k]) (E c[k])=true→∀j,j<k+1→z0F ((ps.map E).getD j z00) ((c.map E).getD j z00)=true):=fun hx j hj=>by
     by_cases ai:j=k
     ·subst ai;rw[z1x ps j L,z1x c j y];exact hx
     ·exact HA.out j (by omega)
    clear HA ae U I J;generalize hS:z0F (E ps[k]) (E c[k])=S at*;have HS:Hid (z0F (E ps[k]) (E c[k])=S):=hS;clear hS;generalize ps[k]=p at*;generalize c[k]=p' at*;obtain⟨i,s,q,va,A⟩:=p;obtain⟨i',s',q',ak,d⟩:=p';replace M:actK.At wr va A:=M;replace z:actK.At wr ak d:=z;replace n1:A.length≤nmL B ps:=n1;replace n2:d.length≤nmL B c:=n2;obtain⟨aa,ac,rfl⟩:=M.shape;obtain⟨X,Y,rfl⟩:=z.shape;have hR:=(z0y M).2;have ab:=(z0y z).2;dsimp only[E]at c0 c1 c2 c3 d0 d1 d2 d3 HS;have Z:Box4 wr b (O+k*4) (G D i) (G D s) (G D q) (Q aa A.length ac):=⟨c0,c1,c2,c3⟩
    have T:Box4 wr b' (C+k*4) (G D i') (G D s') (G D q') (Q X d.length Y):=⟨d0,d1,d2,d3⟩
    have hq:=fun w h1 h2 h3 h4=>z6P ⟨i,s,q,A⟩ ⟨i',s',q',d⟩ b (O+k*4) b' (C+k*4) aa X ac Y w h1 h2 h3 h4 (by dsimp only;omega) (by dsimp only;omega)
    rw[HS.out]at hq;dsimp only at hq;have ag:(k:Int)<(ps.length:Int):=by omega
    have ah:(k:Int)<(c.length:Int):=by omega
    clear HS M z c0 c1 c2 c3 d0 d1 d2 d3
    go_wp2_with fail
    refine z0b (S:=fun w'=>∃u:Lat wr,w'=u.val) (by kernel_rfl) ?_;refine sgr [(0,2)] 17 (by kernel_rfl) ⟨⟨_,hW⟩,rfl⟩ ?_;simp only[pkE];repeat go_big_quiet_step (fail)
    refine wpQuiet_nil ?_;refine qta 2 (some 8) (G D ps.length) 16 (by kernel_rfl) (fun u _=>by kernel_rfl) ⟨⟨_,hW⟩,rfl⟩ ?_;simp only[Vb,pjE];refine sgr [(3,4)] 12 (by kernel_rfl) ⟨⟨_,hW⟩,rfl⟩ ?_;simp only[pkE];repeat go_big_quiet_step (fail)
    refine wpQuiet_nil ?_;refine qta 7 (some 13) (G D c.length) 11 (by kernel_rfl) (fun u _=>by kernel_rfl) ⟨⟨_,hW⟩,rfl⟩ ?_;simp only[Vb,pjE];refine sgr [(8,9)] 2 (by kernel_rfl) ⟨⟨_,hW⟩,rfl⟩ ?_;simp only[pkE];repeat go_big_quiet_step (fail)
    refine wpQuiet_nil ?_;refine cla 17 (some 23) 172 #[.pointer (some ⟨b,O+k*4,none⟩),.pointer (some ⟨b',C+k*4,none⟩)] 1 (by kernel_rfl) ?_;refine(hq _ (Z.below hW) (T.below hW) (hR.below hW) (ab.below hW)).mono ?_;rintro e w9 ⟨rfl,ad⟩;replace hW:=hW.trans (ad.mono hW.size);clear ad;refine⟨_,rfl,⟨⟨_,hW⟩,rfl⟩,?_⟩;simp only[Vb,pjE];refine sgr [(18,1)] 0 (by kernel_rfl) ⟨⟨_,hW⟩,rfl⟩ ?_;simp only[pkE];repeat go_big_quiet_step (fail)
    refine wpQuiet_nil ?_;refine z0e (by kernel_rfl) ?_;replace hb:=hb.trans (hW.mono hb.size);clear hW W hq Z T hR ab
    cases S with
    |true=>
     have HR:Hid _:=HN.out rfl;clear HY HN
     go_wp2
     go_roundw
     case rel=>exact⟨k+1,by omega,by omega,by go_num,hb,HR.out⟩
     case measure=>simp[intOf];omega
    |false=>
     have HR:Hid (V=(k:Int)):=show _=_ by rw[N.out,HY.out rfl]
     clear HY HN N
     go_wp2
     go_ret;exact⟨by rw[HR.out];rfl,hb⟩
   ·have HR:Hid (V=(k:Int)):=show _=_ by
     rw[N.out,z83 _ _ k HA.out (by simpa using hk) (by simpa using af) (by rw[Va,Va];omega)]
    clear HA N;by_cases L:k<ps.length
    ·have ag:(k:Int)<(ps.length:Int):=by omega
     have y:¬k<c.length:=by omega
     have ah:¬(k:Int)<(c.length:Int):=by omega
     go_wp2_with fail
     refine z0b (S:=fun w'=>∃u:Lat wr,w'=u.val) (by kernel_rfl) ?_;refine sgr [(0,2)] 17 (by kernel_rfl) ⟨⟨_,hW⟩,rfl⟩ ?_;simp only[pkE];repeat go_big_quiet_step (fail)
     refine wpQuiet_nil ?_;refine qta 2 (some 8) (G D ps.length) 16 (by kernel_rfl) (fun u _=>by kernel_rfl) ⟨⟨_,hW⟩,rfl⟩ ?_;simp only[Vb,pjE];refine sgr [(3,4)] 12 (by kernel_rfl) ⟨⟨_,hW⟩,rfl⟩ ?_;simp only[pkE];repeat go_big_quiet_step (fail)
     refine wpQuiet_nil ?_;refine qta 7 (some 13) (G D c.length) 11 (by kernel_rfl) (fun u _=>by kernel_rfl) ⟨⟨_,hW⟩,rfl⟩ ?_;simp only[Vb,pjE];refine sgr [(8,9)] 2 (by kernel_rfl) ⟨⟨_,hW⟩,rfl⟩ ?_;simp only[pkE];repeat go_big_quiet_step (fail)
     refine wpQuiet_nil ?_;refine ska 17 (some 23) 1 (by kernel_rfl) ⟨⟨_,hW⟩,rfl⟩ ?_;simp only[Vb,pjE];refine sgr [(18,1)] 0 (by kernel_rfl) ⟨⟨_,hW⟩,rfl⟩ ?_;simp only[pkE];repeat go_big_quiet_step (fail)
     refine wpQuiet_nil ?_;refine z0e (by kernel_rfl) ?_;replace hb:=hb.trans (hW.mono hb.size);clear hW W
     go_wp2
     go_ret;exact⟨by rw[HR.out];rfl,hb⟩
    ·have ag:¬(k:Int)<(ps.length:Int):=by omega
     go_wp2_with fail
     refine z0b (S:=fun w'=>∃u:Lat wr,w'=u.val) (by kernel_rfl) ?_;refine sgr [(0,2)] 17 (by kernel_rfl) ⟨⟨_,hW⟩,rfl⟩ ?_;simp only[pkE];repeat go_big_quiet_step (fail)
     refine wpQuiet_nil ?_;refine qta 2 (some 8) (G D ps.length) 16 (by kernel_rfl) (fun u _=>by kernel_rfl) ⟨⟨_,hW⟩,rfl⟩ ?_;simp only[Vb,pjE];refine sgr [(3,4)] 12 (by kernel_rfl) ⟨⟨_,hW⟩,rfl⟩ ?_;simp only[pkE];repeat go_big_quiet_step (fail)
     refine wpQuiet_nil ?_;refine ska 7 (some 13) 11 (by kernel_rfl) ⟨⟨_,hW⟩,rfl⟩ ?_;simp only[Vb,pjE];refine sgr [(8,9)] 2 (by kernel_rfl) ⟨⟨_,hW⟩,rfl⟩ ?_;simp only[pkE];repeat go_big_quiet_step (fail)
     refine wpQuiet_nil ?_;refine ska 17 (some 23) 1 (by kernel_rfl) ⟨⟨_,hW⟩,rfl⟩ ?_;simp only[Vb,pjE];refine sgr [(18,1)] 0 (by kernel_rfl) ⟨⟨_,hW⟩,rfl⟩ ?_;simp only[pkE];repeat go_big_quiet_step (fail)
     refine wpQuiet_nil ?_;refine z0e (by kernel_rfl) ?_;replace hb:=hb.trans (hW.mono hb.size);clear hW W
     go_wp2
     go_ret;exact⟨by rw[HR.out];rfl,hb⟩
end Go.Proofs.YtlkpdgjnhkjpjaaGreatDoor
