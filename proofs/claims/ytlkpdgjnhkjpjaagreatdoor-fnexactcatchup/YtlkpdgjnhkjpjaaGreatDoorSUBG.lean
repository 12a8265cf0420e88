import Derived.Test.YtlkpdgjnhkjpjaaGreatDoorSUBF
import Derived.Test.YtlkpdgjnhkjpjaaGreatDoorSUAT
set_option linter.unusedVariables false
set_option linter.unusedSimpArgs false
set_option maxRecDepth 100000
set_option maxHeartbeats 16000000
namespace Go.Proofs.YtlkpdgjnhkjpjaaGreatDoor
open Go.RowKit Go.BigFrame
open TxnQ renaming e->l
open Blk renaming new->m
open Act renaming put->Va
open IntKind renaming i64->Q
open Value renaming int->H,slice->G
open Go.Proofs.Tryz renaming prog->P
open Go.Proofs.Tryz
def q3y:RepQ:=⟨G none 0 0,[],G none 0 0,[],G none 0 0,[],G none 0 0,[],G none 0 0,[]⟩
theorem z1l(w:World):repK.own w q3y∧repK.foot q3y=[]:=by
 refine⟨⟨(Kind.own_nil w).1,(Kind.own_nil w).1,(Kind.own_nil w).1,(Kind.own_nil w).1,(Kind.own_nil w).1⟩,?_⟩;show txnK.fp (G none 0 0) []++(itemK.fp (G none 0 0) []++(txnK.fp (G none 0 0) []++(ussK.fp (G none 0 0) []++itemK.fp (G none 0 0) [])))=[]
 rw[(Kind.own_nil (K:=txnK) w).2,(Kind.own_nil (K:=itemK) w).2,(Kind.own_nil (K:=ussK) w).2];rfl
theorem q1v:(P.info? 95).map (·.size)=some 8:=by kernel_rfl
theorem z84(c:Int)(w:World):
  Calls P 176 #[H Q c] w fun e w'=>e=.returned (.agg #[H Q c,H Q 0,H Q 0,G none 0 0,G none 0 0,G none 0 0,G none 0 0,G none 0 0])∧Below w.heap.size w w':=by
 have hB:Below w.heap.size w (w.alloc (.cells #[H Q 0,H Q 0,H Q 0,G none 0 0,G none 0 0,G none 0 0,G none 0 0,G none 0 0] 95)):=by go_grown
 have Rb:=m w 95 #[H Q 0,H Q 0,H Q 0,G none 0 0,G none 0 0,G none 0 0,G none 0 0,G none 0 0];have Rr:=Rb.row #[H Q c,H Q 0,H Q 0,G none 0 0,G none 0 0,G none 0 0,G none 0 0,G none 0 0];have hBr:=z0j hB (g:=w.heap.size) (Nat.le_refl _) #[H Q c,H Q 0,H Q 0,G none 0 0,G none 0 0,G none 0 0,G none 0 0,G none 0 0];go_enter func176,ntmps176
 go_wp2_with (first|(refine z0s (by kernel_rfl) 95 _ _ rfl _ #[H Q c,H Q 0,H Q 0,G none 0 0,G none 0 0,G none 0 0,G none 0 0,G none 0 0] rfl rfl 95 _ Rb q1v rfl (by simp[Value.oneCell']) ?_))
 obtain⟨z0,z1,z2,z3,z4,z5,z6,z7⟩:=Rr.cel8;exact bodyPost_ret (v:=.agg #[H Q c,H Q 0,H Q 0,G none 0 0,G none 0 0,G none 0 0,G none 0 0,G none 0 0]) (by simp[results,results176,go_sem,z0,z1,z2,z3,z4,z5,z6,z7]) rfl ⟨rfl,hBr⟩
theorem q5Q(c:Int)(w:World):(binOp .neq 148 (.iface 219 (.agg #[H Q c])) .nilIface).run P w=.ok (.bool true) w:=by kernel_rfl
theorem q5R(w:World):(binOp .neq 148 .nilIface .nilIface).run P w=.ok (.bool false) w:=by kernel_rfl
theorem z7J{w:World}{B:Nat}{v:Value}{ps qs:List TxnQ}(o:w.ownsRow B 39 4 v (ps++qs).length (txnK.row (ps++qs)))(h1:∀p∈ps,txnK.rd w p)(h2:∀p∈qs,txnK.rd w p):txnK.At w v (ps++qs):=by
 obtain⟨a,c,rfl⟩:=z0g o;exact⟨a,c,rfl,Lies.own o,fun p hp=>(List.mem_append.1 hp).elim (h1 p) (h2 p)⟩
theorem At.rds{w:World}{v:Value}{ps:List TxnQ}(h:txnK.At w v ps):∀p∈ps,txnK.rd w p:=by
 obtain⟨a,c,_,_,h2⟩:=h;exact h2
theorem RecPost.row{w w':World}{vN iN vU iU:Value}{D E:List TxnD}(h:RecPost w w' vN iN vU iU D E){g:Nat}(hg:g<w.heap.size)(cs:Array Value):RecPost w (w'.setRow g cs) vN iN vU iU D E:=by
 obtain⟨ds,us,rb,B0,R,e1,e2,h1,h2⟩:=h;have hO:=z0L w' g cs;have nF:∀ {k},B0≤k→k∉[g]:=fun hk hm=>by simp only[List.mem_singleton]at hm;omega
 have hrb:rb∉[g]:=fun hm=>by simp only[List.mem_singleton]at hm;omega
 exact⟨ds,us,rb,B0,⟨(hO.block rb R.B.lt hrb).trans R.B,z0U R.oN hO (fun k hk=>nF (R.lN k hk)),R.aN,z0U R.oU hO (fun k hk=>nF (R.lU k hk)),fun p hp=>⟨(R.aU p hp).1,(R.aU p hp).2.out hO (fun k hk=>by rw[z0G]at hk;exact nF (R.d3 p hp k hk).1)⟩,R.jN.out hO (fun k hk=>by rw[z0p]at hk;exact nF (R.d1 k hk).1),R.jU.out hO (fun k hk=>by rw[z0p]at hk;exact nF (R.d2 k hk).1),R.nu,R.lN,R.lU,R.d1,R.d2,R.d3⟩,e1,e2,h1,h2⟩
theorem RecPost.shapes{w w':World}{vN iN vU iU:Value}{D E:List TxnD}(h:RecPost w w' vN iN vU iU D E):(∃a n c,vN=G a n c)∧(∃a n c,iN=G a n c)∧(∃a n c,vU=G a n c)∧(∃a n c,iU=G a n c):=by
 obtain⟨ds,us,rb,B0,R,e1,e2,h1,h2⟩:=h;obtain⟨a1,c1,s1⟩:=z0g R.oN;obtain⟨a2,c2,s2⟩:=R.jN.shape;obtain⟨a3,c3,s3⟩:=z0g R.oU;obtain⟨a4,c4,s4⟩:=R.jU.shape;exact⟨⟨_,_,_,s1⟩,⟨_,_,_,s2⟩,⟨_,_,_,s3⟩,⟨_,_,_,s4⟩⟩
theorem z85{w:World}{g:Nat}{va:Value}{y:List ActD}(h:actK.At w va y)(B:Blk w g 157 #[G none 0 0,G none 0 0,G none 0 0,G none 0 0])(cs:Array Value):actK.At (w.setRow g cs) va y:=by
 obtain⟨a,c,rfl,hL,_⟩:=h;refine⟨a,c,rfl,?_,fun _ _=>trivial⟩;rcases hL with h0|⟨b,d,rfl,C,hc⟩
 ·exact Or.inl h0
 ·by_cases he:actK.row y=[]
  ·exact Or.inl he
  ·refine Or.inr ⟨b,d,rfl,by simpa using C,fun j x hj=>?_⟩;have D:b≠g:=by
    rintro rfl;obtain⟨z,r,E⟩:∃z r,y=z::r:=by
     cases y with
     |nil=>exact absurd rfl he
     |cons z r=>exact⟨z,r,rfl⟩
    have h0:=hc 0 (H Q z.kind) (by rw[E];rfl);rw[Nat.add_zero]at h0;have hB:w.heap[b]?=some (.cells #[G none 0 0,G none 0 0,G none 0 0,G none 0 0] 157 (0,0)):=B;have A:w.cell? ⟨b,d,none⟩=(#[G none 0 0,G none 0 0,G none 0 0,G none 0 0]:Array Value)[d]?:=by
     rcases Nat.lt_or_ge d 4 with h4|h4
     ·match d,h4 with
      |0,_=>exact B.cell 0 _ rfl
      |1,_=>exact B.cell 1 _ rfl
      |2,_=>exact B.cell 2 _ rfl
      |3,_=>exact B.cell 3 _ rfl
     ·have:w.cell? ⟨b,d,none⟩=none:=by
       simp[World.cell?,hB,show¬d<4 by omega]
      rw[this,Array.getElem?_eq_none (by simpa using h4)]
    rw[A]at h0
    match d,h0 with
    |0,h0=>simp at h0
    |1,h0=>simp at h0
    |2,h0=>simp at h0
    |3,h0=>simp at h0
    |(n+4),h0=>simp at h0
   rw[World.cell?_of_block (w:=w) (a:=⟨b,d+j,none⟩) (setRow_other w g b cs D)];exact hc j x hj
theorem RecPost.rebase{w w':World}{vN iN vU iU:Value}{D E:List TxnD}(h:RecPost w w' vN iN vU iU D E)(hb:Below w.heap.size w w'){g:Nat}(B:Blk w g 157 #[G none 0 0,G none 0 0,G none 0 0,G none 0 0])(cs:Array Value):
  RecPost (w.setRow g cs) (w'.setRow g cs) vN iN vU iU D E∧Below (w.setRow g cs).heap.size (w.setRow g cs) (w'.setRow g cs):=by
 have hg:=B.lt;obtain⟨ds,us,rb,B0,R,e1,e2,h1,h2⟩:=h.row hg cs;refine⟨⟨ds,us,rb,B0,⟨R.B,R.oN,fun p hp=>z85 (R.aN p hp) B cs,R.oU,fun p hp=>⟨z85 (R.aU p hp).1 B cs,(R.aU p hp).2⟩,R.jN,R.jU,R.nu,R.lN,R.lU,R.d1,R.d2,R.d3⟩,e1,e2,by simpa using h1,h2⟩,?_⟩;refine⟨hb.os,hb.tape,hb.output,by simpa using hb.size,fun k hk=>?_⟩;rw[size_setRow]at hk;by_cases hkg:k=g
 ·subst hkg;exact((B.below hb).row cs:_).trans ((B.row cs).symm)
 ·rw[setRow_other w' g k cs hkg,setRow_other w g k cs hkg];exact hb.block k hk
theorem z7K:(P.info? 157).map (·.size)=some 4:=by kernel_rfl
theorem z3X{α:Type}{f:α→α→Bool}{g:List α→List α→Bool}(h1:∀x r y s,g (x::r) (y::s)=(f x y && g r s))(h2:∀x r,g (x::r) []=false)(h3:∀y s,g [] (y::s)=false)(hf:∀x y,f x y=true→x=y):∀xs ys,g xs ys=true→xs=ys
 |[],[],_=>rfl
 |[],y::s,h=>by rw[h3]at h;cases h
 |x::r,[],h=>by rw[h2]at h;cases h
 |x::r,y::s,h=>by
  rw[h1,Bool.and_eq_true]at h;rw[hf x y h.1,z3X h1 h2 h3 hf r s h.2]
theorem q1w (xs ys:List ActD) (h:sameAs xs ys=true):xs=ys:=z3X (f:=z1N) (fun _ _ _ _=>rfl) (fun _ _=>rfl) (fun _ _=>rfl) (fun x y h=>by
 obtain⟨x0,x1,x2⟩:=x;obtain⟨y0,y1,y2⟩:=y;simp[z1N]at h;rw [h.1,h.2.1,h.2.2]) xs ys h
theorem z6N (xs ys:List TxnD) (h:sameTs xs ys=true):xs=ys:=z3X (f:=z0B) (fun _ _ _ _=>rfl) (fun _ _=>rfl) (fun _ _=>rfl) (fun x y h=>by
 obtain⟨x0,x1,x2,x3⟩:=x;obtain⟨y0,y1,y2,y3⟩:=y;simp only[z0B,Bool.and_eq_true,beq_iff_eq]at h;rw [h.1.1.1,h.1.1.2,h.1.2,q1w _ _ h.2]) xs ys h
theorem q1x (xs ys:List UndoD) (h:sameUs xs ys=true):xs=ys:=z3X (f:=z1U) (fun _ _ _ _=>rfl) (fun _ _=>rfl) (fun _ _=>rfl) (fun x y h=>by
 obtain⟨x0,x1,x2⟩:=x;obtain⟨y0,y1,y2⟩:=y;simp[z1U]at h;rw [h.1,h.2.1,h.2.2]) xs ys h
theorem z9X(xs ys:List (List UndoD))(h:sameUss xs ys=true):xs=ys:=z3X (f:=sameUs) (fun _ _ _ _=>rfl) (fun _ _=>rfl) (fun _ _=>rfl) (fun x y h=>q1x x y h) xs ys h
theorem q1y{x y:RepE}(h:sameRep x y=true):x=y:=by
 obtain⟨x0,x1,x2,x3,x4⟩:=x;obtain⟨y0,y1,y2,y3,y4⟩:=y;simp only[sameRep,Bool.and_eq_true]at h;rw[z6N _ _ h.1,z8C h.2.1,z6N _ _ h.2.2.1,z9X _ _ h.2.2.2.1,z8C h.2.2.2.2]
theorem q5S{r:RepE}(h:repF r=0):r=mkR r.done r.tent:=(q1y (z3b h).2.2).symm
def frK(d fs:List TxnD):Bool:=fs.any (fun t=>knw d t)
theorem q3h{d fs:List TxnD}{t:TxnD}(h:t∈fs)(hk:knw d t=true):frK d fs=true:=List.any_eq_true.2 ⟨t,h,hk⟩
theorem q4K{d fs:List TxnD}(h:∀j,j<fs.length→knw d (fs.getD j z0T)=false):frK d fs=false:=by
 unfold frK;rw[List.any_eq_false];intro t ht;obtain⟨j,hj,rfl⟩:=List.mem_iff_getElem.1 ht;have:=h j hj;simpa[List.getD,hj]using this
theorem q6K{d fs:List TxnD}(h:frK d fs=false):∀t∈fs,knw d t=false:=fun t ht=>by
 have:=List.any_eq_false.1 h t ht;simpa using this
def dlC(r:RepE)(fs:List TxnD):Int:=if repF r=0 then(if lstF fs=0 then(if frK r.done fs=true then 6 else if 16<r.done.length+fs.length then 7 else 0)else lstF fs)else repF r
def dlA(r:RepE)(fs:List TxnD):Int:=if dlC r fs=0 then plB r.tent fs else 0
def dlE(r:RepE)(fs:List TxnD):RepE:=if dlC r fs=0 then mkR (r.done++fs) (plK r.tent fs)else⟨[],[],[],[],[]⟩
theorem z7L(r:RepE)(fs:List TxnD):(repF r≠0∧dlC r fs=repF r)∨(repF r=0∧lstF fs≠0∧dlC r fs=lstF fs)∨(repF r=0∧lstF fs=0∧frK r.done fs=true∧dlC r fs=6)∨
  (repF r=0∧lstF fs=0∧frK r.done fs=false∧16<r.done.length+fs.length∧dlC r fs=7)∨(repF r=0∧lstF fs=0∧frK r.done fs=false∧¬16<r.done.length+fs.length∧dlC r fs=0):=by
 unfold dlC;by_cases h0:repF r=0
 ·by_cases h1:lstF fs=0
  ·cases h2:frK r.done fs<;>by_cases h4:16<r.done.length+fs.length<;>simp[h0,h1,h2,h4]
  ·simp[h0,h1]
 ·simp[h0]
theorem q3i{ds es:List TxnD}{t:TxnD}(h:t∈z47 ds es):t∈ds:=by
 unfold z47 at h;exact(List.mem_filter.1 h).1
theorem q0y{ds fs:List TxnD}{t:TxnD}(h:t∈plK ds fs):t∈ds:=by
 unfold plK at h;split at h
 ·split at h
  ·exact List.mem_of_mem_drop h
  ·exact List.mem_of_mem_drop (q3i h)
 ·cases h
theorem q4l(ds fs:List TxnD):(plK ds fs).length≤ds.length:=by
 unfold plK;split
 ·split
  ·simp
  ·refine Nat.le_trans (show(z47 _ _).length≤(ds.drop (comN ds fs)).length from by unfold z47;exact List.length_filter_le _ _) (by simp)
 ·simp
theorem q1z{a b:List TxnD}(h:lstF (a++b)=0):lstF b=0:=by
 have h':=(z1g _).1 h;refine(z1g _).2 ⟨by have:=h'.1;simp at this;omega,fun t ht=>h'.2.1 t (List.mem_append_right _ ht),(List.pairwise_append.1 h'.2.2).2.1⟩
theorem z7M{r:RepE}{fs:List TxnD}(h:dlC r fs=0):repF r=0∧lstF fs=0∧frK r.done fs=false∧r.done.length+fs.length≤16∧bthF r.tent fs=0∧(∀t∈r.done++fs,t.F=0)∧(∀t∈plK r.tent fs,t.F=0)∧(plK r.tent fs).length≤8:=by
 rcases z7L r fs with⟨a,b⟩|⟨_,a,b⟩|⟨_,_,_,b⟩|⟨_,_,_,_,b⟩|⟨a,b,c,d,_⟩
 ·exact absurd (b.symm.trans h) a
 ·exact absurd (b.symm.trans h) a
 ·rw[b]at h;exact absurd h (by decide)
 ·rw[b]at h;exact absurd h (by decide)
 ·have hz:=z3b a;have ha:=((z1g _).1 hz.2.1).2.1;have hb:=((z1g _).1 b).2.1;refine⟨a,b,c,by omega,?_,fun t ht=>?_,fun t ht=>ha t (List.mem_append_right _ (q0y ht)),Nat.le_trans (q4l _ _) hz.1.2⟩
  ·unfold bthF;rw[if_pos (q1z hz.2.1)];exact b
  ·rcases List.mem_append.1 ht with ht|ht
   ·exact ha t (List.mem_append_left _ ht)
   ·exact hb t ht
theorem z86(i s q:Int)(a:Option Addr)(n c:Nat)(xs:List ActD)(vd uv1 uv2 uv3 uv4:Value)(qd:List TxnQ)(bx:Nat)(w:World)(hX:Blk w bx 29 #[vd,uv1,uv2,uv3,uv4])(hD:txnK.At w vd qd)(hqd:qd.length≤1048576):
  Calls P 210 #[.agg #[H Q i,H Q s,H Q q,G a n c],.pointer (some ⟨bx,0,none⟩)] w fun e w'=>e=.returned (.bool (knw (qd.map l) ⟨i,s,q,xs⟩))∧Below w.heap.size w w':=by
 have hB:Below w.heap.size w (w.alloc (.cells #[H Q i,H Q s,H Q q,G a n c] 39)):=by go_grown
 have hX':=hX.below hB;have hq:=z13 vd qd ⟨i,s,q,xs⟩ a n c _ (hD.below hB) hqd;dsimp only at hq;obtain⟨da,dk,rfl⟩:=hD.shape;have x0:=hX'.cell 0 _ rfl;generalize knw (qd.map l) ⟨i,s,q,xs⟩=E at*;go_enter func210,ntmps210
 go_wp2_with fail
 refine hq.mono ?_;rintro e w2 ⟨rfl,hb2⟩;replace hB:=hB.trans (hb2.mono hB.size)
 go_wp2
 go_ret;exact⟨rfl,hB⟩
theorem z6p(v:Value)(ps:List TxnQ)(vd D I J L:Value)(qd:List TxnQ)(bx:Nat)(w:World)(h:txnK.At w v ps)(hX:Blk w bx 29 #[vd,D,I,J,L])(hD:txnK.At w vd qd)(T:qd.length≤1048576)(hl:ps.length≤1048576):
  Calls P 258 #[v,.func (.func 210) #[] #[.pointer (some ⟨bx,0,none⟩)]] w fun e w'=>∃r:Int,e=.returned (H Q r)∧(frK (qd.map l) (ps.map l)=true→0≤r)∧(frK (qd.map l) (ps.map l)=false→r<0)∧Below w.heap.size w w':=by
 obtain⟨a,cap,rfl⟩:=h.shape;generalize hE:frK (qd.map l) (ps.map l)=E;have HE:Hid (frK (qd.map l) (ps.map l)=E):=hE;clear hE;go_enter func258,ntmps258
 go_wp2
 go_loopw[8] (fun j wr=>∃k:Nat,k≤ps.length∧j=H Q k∧Below w.heap.size w wr∧Hid (∀j,j<k→knw (qd.map l) ((ps.map l).getD j z0T)=false)) (fun j _=>ps.length-(intOf j).toNat)
 case atStart=>exact⟨0,Nat.zero_le _,rfl,Below.refl _ _,fun j hj=>absurd hj (Nat.not_lt_zero _)⟩
 case round=>
  obtain⟨k,hk,rfl,hb,HA⟩:=hrel;by_cases z:k<ps.length
  ·obtain⟨b',U,rfl,N,hc,y⟩:=(h.below hb).cell (by decide) k z;have d:∀j x,(txnK.cells ps[k])[j]?=some x→wr.cell? ⟨b',U+k*4+j,none⟩=some x:=hc;have c0:=d 0 (H Q ps[k].i) rfl;have c1:=d 1 (H Q ps[k].s) rfl;have c2:=d 2 (H Q ps[k].q) rfl;have c3:=d 3 (ps[k].va) rfl;rw[Nat.add_zero]at c0;have HY:Hid (knw (qd.map l) (l ps[k])=true→E=true):=fun hx=>by rw[←HE.out];exact q3h (t:=l ps[k]) (List.mem_map.2 ⟨ps[k],List.getElem_mem z,rfl⟩) hx
   have HN:Hid (knw (qd.map l) (l ps[k])=false→∀j,j<k+1→knw (qd.map l) ((ps.map l).getD j z0T)=false):=fun hx j hj=>by
    by_cases O:j=k
    ·subst O;rw[z1t ps j z];exact hx
    ·exact HA.out j (by omega)
   clear HA hc d;generalize ps[k]=p at*;obtain⟨i,s,q,V,c⟩:=p;replace y:actK.At wr V c:=y;obtain⟨aa,ac,rfl⟩:=y.shape;dsimp only[l]at c0 c1 c2 c3 HY HN;have hq:=z86 i s q aa c.length ac c vd D I J L qd bx wr (hX.below hb) (hD.below hb) T;generalize knw (qd.map l) ⟨i,s,q,c⟩=S at*;have C:(k:Int)<(ps.length:Int):=by omega
   go_wp2_with fail
   refine hq.mono ?_;rintro e w2 ⟨rfl,A⟩;replace hb:=hb.trans (A.mono hb.size);clear hq c0 c1 c2 c3 A y N
   cases S with
   |true=>
    have E1:Hid (E=true):=HY.out rfl;clear HY HN
    go_wp2
    go_ret;refine⟨_,rfl,fun _=>by omega,fun h0=>?_,hb⟩;rw[E1.out]at h0;exact absurd h0 (by decide)
   |false=>
    have M:Hid _:=HN.out rfl;clear HY HN
    go_wp2
    go_roundw
    case rel=>exact⟨k+1,by omega,by go_num,hb,M.out⟩
    case measure=>simp[intOf];omega
  ·have E1:Hid (E=false):=by rw[←HE.out];exact q4K (fun j hj=>HA.out j (by simp at hj;omega))
   have C:¬(k:Int)<(ps.length:Int):=by omega
   clear HA HE
   go_wp2
   go_ret;refine⟨_,rfl,fun h0=>?_,fun _=>by omega,hb⟩;rw[E1.out]at h0;exact absurd h0 (by decide)
theorem z4n(v:Value)(ps:List TxnQ)(vd uv1 uv2 uv3 uv4:Value)(qd:List TxnQ)(bx:Nat)(w:World)(h:txnK.At w v ps)(hX:Blk w bx 29 #[vd,uv1,uv2,uv3,uv4])(hD:txnK.At w vd qd)(hqd:qd.length≤1048576)(hl:ps.length≤1048576):
  Calls P 209 #[v,.func (.func 210) #[] #[.pointer (some ⟨bx,0,none⟩)]] w fun e w'=>e=.returned (.bool (frK (qd.map l) (ps.map l)))∧Below w.heap.size w w':=by
 have hq:=z6p v ps vd uv1 uv2 uv3 uv4 qd bx w h hX hD hqd hl;obtain⟨a,cap,rfl⟩:=h.shape;generalize frK (qd.map l) (ps.map l)=E at*;go_enter func209,ntmps209
 go_wp2_with fail
 refine hq.mono ?_;rintro e w2 ⟨r,rfl,h1,h2,hb⟩
 cases E with
 |true=>
  have h0:0≤r:=h1 rfl;clear h1 h2
  go_wp2
  go_ret;exact⟨by simp[h0],hb⟩
 |false=>
  have h0:¬0≤r:=by have:=h2 rfl;omega
  clear h1 h2
  go_wp2
  go_ret;exact⟨by simp[h0],hb⟩
theorem z6q(p:RepQ)(vf:Value)(fs:List TxnQ)(w:World)(h:repK.rd w p)(nd:z15 p.vd)(nt:z15 p.vt)(hl:p.n≤1048576)(hT:txnK.At w vf fs)(N:fs.length+nmL TxnQ.n fs≤1048576):
  Calls P 155 #[.agg #[p.vd,p.vb,p.vt,p.vu,p.vn],vf] w fun e w'=>e=.returned (misC (dlC p.e (fs.map l)))∧Below w.heap.size w w':=by
 have J:=fun w h=>z5X p w h nd nt hl
 have hr:=fun(w':World) hb=>repK.rd_below (w':=w') h hb
 have A:=z7L p.e (fs.map l);have O:=fun w h=>z18 vf fs w h N
 have T:p.done.length≤1048576:=by dsimp only[RepQ.n]at hl;omega
 have I:=fun bx w' hA hX hD=>z4n vf fs p.vd p.vb p.vt p.vu p.vn p.done bx w' hA hX hD T (by omega)
 have M:frK p.e.done (fs.map l)=frK (p.done.map l) (fs.map l):=rfl;rw[M]at A;have L:p.e.done.length=p.done.length:=by simp[RepQ.e]
 rw[L,List.length_map]at A;have ad:(fs.length:Int)≤1048576:=by omega
 have U:(p.done.length:Int)≤1048576:=by omega
 have z:∀w,repK.rd w p→Calls P 113 #[.agg #[p.vd,p.vb,p.vt,p.vu,p.vn]] w fun e w'=>∃ (a0 a1 a2 a3:Option Addr) (l0 c0 l1 c1 l2 c2 l3 c3:Nat),e=.returned (.tuple #[.agg #[G a0 l0 c0,G a1 l1 c1,G a2 l2 c2,G a3 l3 c3],misC (repF p.e)])∧Below w.heap.size w w':=fun w h=>(J w h).mono fun e w' hp=>by
  obtain⟨a0,a1,a2,a3,l0,c0,l1,c1,l2,c2,l3,c3,he,_,hb⟩:=hp;exact⟨a0,a1,a2,a3,l0,c0,l1,c1,l2,c2,l3,c3,he,hb⟩
 have ae:∀ (fn:Fn) (y cap:Array Value) (w:World),(Instr.makeFunc fn y cap).run P w=.ok (.func fn y cap) w:=fun _ _ _ _=>rfl
 obtain⟨fa,fk,rfl⟩:=hT.shape;clear J hl N M L;generalize dlC p.e (fs.map l)=C at*;generalize lstF (fs.map l)=LF at*;generalize frK (p.done.map l) (fs.map l)=FK at*;generalize repF p.e=RF at*;obtain⟨X,pd,V,pb,Z,pt,aa,pu,Y,pn⟩:=p;obtain⟨p0,p5,rfl⟩:∃a c,X=G a pd.length c:=h.1.shape;obtain⟨p1,p6,rfl⟩:∃a c,V=G a pb.length c:=h.2.1.shape;obtain⟨p2,p7,rfl⟩:∃a c,Z=G a pt.length c:=h.2.2.1.shape;obtain⟨p3,p8,rfl⟩:∃a c,aa=G a pu.length c:=h.2.2.2.1.shape;obtain⟨p4,p9,rfl⟩:∃a c,Y=G a pn.length c:=h.2.2.2.2.shape;dsimp only at hr A I U z T;have D:Below w.heap.size w (w.alloc (.cells #[G p0 pd.length p5,G p1 pb.length p6,G p2 pt.length p7,G p3 pu.length p8,G p4 pn.length p9] 29)):=by go_grown
 have BA:=m w 29 #[G p0 pd.length p5,G p1 pb.length p6,G p2 pt.length p7,G p3 pu.length p8,G p4 pn.length p9];go_enter func155,ntmps155
 go_wp2_with fail
 generalize w.alloc (.cells #[G p0 pd.length p5,G p1 pb.length p6,G p2 pt.length p7,G p3 pu.length p8,G p4 pn.length p9] 29)=W at*;refine(z W (hr W D)).mono ?_;rintro e w1 ⟨a0,a1,a2,a3,l0,c0,l1,c1,l2,c2,l3,c3,rfl,hb⟩;replace BA:=BA.below hb;replace D:=z0l D hb;clear hb z;have E:Below w1.heap.size w1 (w1.alloc (.cells #[G a0 l0 c0,G a1 l1 c1,G a2 l2 c2,G a3 l3 c3] 157)):=by go_grown
 have x:=BA.below E;have d:=z0l D E;clear E BA;have e1:=q5Q;have e2:=q5R;rcases A with⟨h0,hC⟩|⟨h0,h1,hC⟩|⟨h0,h1,h2,hC⟩|⟨h0,h1,h2,h4,hC⟩|⟨h0,h1,h2,h4,hC⟩
 ·have HC:Hid (C=RF):=hC;clear hC;rw[show misC RF=.iface 219 (.agg #[H Q RF])from if_neg h0]
  go_wp2
  go_ret;exact⟨by rw[HC.out,show misC RF=.iface 219 (.agg #[H Q RF])from if_neg h0];rfl,d⟩
 all_goals
  rw[show misC RF=.nilIface from if_pos h0];have HC:Hid (C=_):=hC;clear hC
  go_wp2_with fail
  generalize w1.alloc (.cells #[G a0 l0 c0,G a1 l1 c1,G a2 l2 c2,G a3 l3 c3] 157)=W1 at*;refine(O W1 (hT.below d)).mono ?_;rintro e w2 ⟨rfl,hb⟩;replace x:=x.below hb;replace d:=z0l d hb;clear hb O
 ·have ab:(LF !=0)=true:=by simpa using h1
  go_wp2
  go_ret;exact⟨by rw[HC.out,show misC LF=.iface 219 (.agg #[H Q LF])from if_neg h1];rfl,d⟩
 all_goals
  subst h1
  go_wp2_with fail
  refine(I _ w2 (hT.below d) x (hr w2 d).1).mono ?_;rintro e w3 ⟨rfl,hb⟩;replace x:=x.below hb;replace d:=z0l d hb;clear hb I
 ·go_wp2
  go_ret;exact⟨by rw[HC.out];rfl,d⟩
 ·have e8:(16:Int)<(pd.length:Int)+(fs.length:Int):=by omega
  have d0:=x.cell 0 _ rfl
  go_wp2
  go_ret;exact⟨by rw[HC.out];rfl,d⟩
 ·have e8:¬(16:Int)<(pd.length:Int)+(fs.length:Int):=by omega
  have d0:=x.cell 0 _ rfl
  go_wp2
  go_ret;exact⟨by rw[HC.out];rfl,d⟩
theorem z5Y(p:RepQ)(vf:Value)(fs:List TxnQ)(w:World)(hg:ErrT w)(h9:repK.own w p)(av:txnK.At w vf fs)(aP:z15 vf)(aO:z1L vf)(hl:p.n≤1048576)(aH:fs.length+nmL TxnQ.n fs≤1048576):
  Calls P 100 #[.agg #[p.vd,p.vb,p.vt,p.vu,p.vn],vf] w fun e w'=>∃q:RepQ,e=.returned (.agg #[H Q (dlC p.e (fs.map l)),H Q (dlA p.e (fs.map l)),H Q 0,q.vd,q.vb,q.vt,q.vu,q.vn])∧q.e=dlE p.e (fs.map l)∧repK.own w' q∧(repK.foot q).Nodup∧(∀k∈repK.foot q,w.heap.size≤k)∧Below w.heap.size w w':=by
 have ax:=fun w h hT=>z6q p vf fs w h h9.1.niceV h9.2.2.1.niceV hl hT aH
 have h:=repK.own_rd h9;have hr:=fun(w':World) hb=>repK.rd_below (w':=w') h hb
 have D:=fun(w':World) (hb:Below w.heap.size w w')=>av.below hb
 have L:Hid (z15 p.vd∧z15 vf):=⟨h9.1.niceV,aP⟩
 have am:Hid (z1L p.vt∧z1L vf):=⟨h9.2.2.1.capOk,aO⟩
 have HE:Hid ((dlC p.e (fs.map l)=0→dlA p.e (fs.map l)=plB (p.tent.map l) (fs.map l)∧dlE p.e (fs.map l)=mkR ((p.done++fs).map l) (plK (p.tent.map l) (fs.map l))∧bthF (p.tent.map l) (fs.map l)=0∧(∀q∈p.done++fs,(l q).F=0)∧(∀t∈plK (p.tent.map l) (fs.map l),t.F=0)∧(plK (p.tent.map l) (fs.map l)).length≤8∧p.done.length+fs.length≤16)∧(dlC p.e (fs.map l)≠0→dlA p.e (fs.map l)=0∧dlE p.e (fs.map l)=⟨[],[],[],[],[]⟩)):=by
  refine⟨fun h0=>?_,fun h0=>⟨if_neg h0,if_neg h0⟩⟩;obtain⟨z0,z1,z2,z3,z4,z5,z6,z7⟩:=z7M h0;refine⟨if_pos h0,?_,z4,fun q hq=>z5 _ ?_,z6,z7,?_⟩
  ·rw[dlE,if_pos h0,List.map_append];rfl
  ·rcases List.mem_append.1 hq with hq|hq
   ·exact List.mem_append_left _ (List.mem_map.2 ⟨q,hq,rfl⟩)
   ·exact List.mem_append_right _ (List.mem_map.2 ⟨q,hq,rfl⟩)
  ·simpa[RepQ.e]using z3
 have aQ:p.tent.length+nmL TxnQ.n p.tent≤1048576:=by dsimp only[RepQ.n]at hl;omega
 have af:=fun w' hA hB=>z6k p.vt vf p.tent fs w' hA hB am.out.1 am.out.2 aQ aH
 obtain⟨fa,fk,rfl⟩:=av.shape;generalize dlA p.e (fs.map l)=AA at*;generalize dlE p.e (fs.map l)=RE at*;generalize dlC p.e (fs.map l)=c at*;obtain⟨aU,pd,aT,pb,aW,pt,aX,pu,aV,pn⟩:=p;obtain⟨p0,p5,rfl⟩:∃a c,aU=G a pd.length c:=h.1.shape;obtain⟨p1,p6,rfl⟩:∃a c,aT=G a pb.length c:=h.2.1.shape;obtain⟨p2,p7,rfl⟩:∃a c,aW=G a pt.length c:=h.2.2.1.shape;obtain⟨p3,p8,rfl⟩:∃a c,aX=G a pu.length c:=h.2.2.2.1.shape;obtain⟨p4,p9,rfl⟩:∃a c,aV=G a pn.length c:=h.2.2.2.2.shape;dsimp only at ax HE af L;have N:∀w':World,Below w.heap.size w w'→txnK.At w' (G p0 pd.length p5) pd:=fun w' hb=>(hr w' hb).1
 have aR:∀w':World,Below w.heap.size w w'→txnK.At w' (G p2 pt.length p7) pt:=fun w' hb=>(hr w' hb).2.2.1
 have b0:Below w.heap.size w ((w.alloc (.cells #[G p0 pd.length p5,G p1 pb.length p6,G p2 pt.length p7,G p3 pu.length p8,G p4 pn.length p9] 29)).alloc (.cells #[H Q 0,H Q 0,H Q 0,G none 0 0,G none 0 0,G none 0 0,G none 0 0,G none 0 0] 95)):=by go_grown
 have BA:=(m w 29 #[G p0 pd.length p5,G p1 pb.length p6,G p2 pt.length p7,G p3 pu.length p8,G p4 pn.length p9]).below (w':=((w.alloc (.cells #[G p0 pd.length p5,G p1 pb.length p6,G p2 pt.length p7,G p3 pu.length p8,G p4 pn.length p9] 29)).alloc (.cells #[H Q 0,H Q 0,H Q 0,G none 0 0,G none 0 0,G none 0 0,G none 0 0,G none 0 0] 95))) (by go_grown);have RB:=m (w.alloc (.cells #[G p0 pd.length p5,G p1 pb.length p6,G p2 pt.length p7,G p3 pu.length p8,G p4 pn.length p9] 29)) 95 #[H Q 0,H Q 0,H Q 0,G none 0 0,G none 0 0,G none 0 0,G none 0 0,G none 0 0];simp only[World.size_alloc]at RB;have aI:=hr _ b0;have ae:=hg.below b0;have al:=D _ b0;clear h9 av am;go_enter func100,ntmps100
 go_wp2_with fail
 generalize ((w.alloc (.cells #[G p0 pd.length p5,G p1 pb.length p6,G p2 pt.length p7,G p3 pu.length p8,G p4 pn.length p9] 29)).alloc (.cells #[H Q 0,H Q 0,H Q 0,G none 0 0,G none 0 0,G none 0 0,G none 0 0,G none 0 0] 95))=W at*;refine(ax W aI al).mono ?_;rintro e w2 ⟨rfl,hb⟩;replace BA:=BA.below hb;replace RB:=RB.below hb;replace ae:=ae.below hb;replace b0:=z0l b0 hb;clear hb ax aI al
 go_wp2_with fail
 refine(z6M c w2 ae).mono ?_;rintro e w3 ⟨rfl,hb⟩;replace BA:=BA.below hb;replace RB:=RB.below hb;replace b0:=z0l b0 hb;clear hb ae;by_cases hc:c=0
 ·obtain⟨eA,eE,ay,az,aA,au,ba⟩:=HE.out.1 hc;subst hc;clear HE;have a2:=BA.cell 2 _ rfl;rw[ay]at af;have V:Hid _:=az;clear az
  go_wp2_with fail
  clear a2;refine(af w3 (aR _ b0) (D _ b0)).mono ?_;rintro e w4 ⟨v1,v2,q1,kq,rfl,e1,e2,o1,M,aS,aL,hb⟩;obtain⟨an,ao,aF⟩:=o1.shape;generalize aG:q1.length=ap at aF;subst aF;obtain⟨ka,kc,rfl⟩:=M.shape;replace BA:=BA.below hb;replace RB:=RB.below hb;replace b0:=z0l b0 hb;clear hb af aS aL o1 e1 aG;have Y:Hid (∀q∈kq,(l q).F=0):=fun q hq=>aA _ (by rw[←e2];exact List.mem_map.2 ⟨q,hq,rfl⟩)
  have bi:kq.length≤8:=by rw[←e2,List.length_map]at au;exact au
  have ai:Hid (AA=_∧RE=mkR ((pd++fs).map l) (kq.map l)):=⟨eA,by rw[e2];exact eE⟩
  clear aA au eA eE e2 ay;generalize plN (pt.map l) (fs.map l)=PN at*;generalize plB (pt.map l) (fs.map l)=PB at*;have ab:Below w4.heap.size w4 (w4.alloc (.cells #[H Q 0,H Q PN,H Q PB,G an ap ao,G ka kq.length kc] 216)):=by go_grown
  have BP:=m w4 216 #[H Q 0,H Q PN,H Q PB,G an ap ao,G ka kq.length kc];have bb:w4.heap.size≠w.heap.size+1:=by have:=RB.lt;omega
  replace BA:=BA.below ab;replace RB:=RB.below ab;replace b0:=z0l b0 ab;replace M:=M.below ab;clear ab
  go_wp2_with fail
  generalize w4.alloc (.cells #[H Q 0,H Q PN,H Q PB,G an ap ao,G ka kq.length kc] 216)=X at*;generalize w4.heap.size=gp at*;have bX:=b0;have be:=RB.lt;refine z0X [some 20,some 21,some 22,some 23,some 24,some 25,some 26,some 27,some 7] (fun vs w'=>∃ (v23 v24:Value) (k1:Option Addr) (k2 k3:Nat) (k4:Option Addr) (k5 k6:Nat) (k7:Option Addr) (k8 k9:Nat) (m1:Option Addr) (m2 m3:Nat) (w0:World) (g:Nat),vs=[.pointer (some ⟨w.heap.size,0,none⟩),G p0 pd.length p5,G fa fs.length fk,v23,v24,.pointer (some ⟨gp,4,none⟩),G ka kq.length kc,.agg #[G k1 k2 k3,G k4 k5 k6,G k7 k8 k9,G m1 m2 m3],.pointer (some ⟨g,0,none⟩)]∧X.heap.size≤g∧Blk w' g 157 #[G k1 k2 k3,G k4 k5 k6,G k7 k8 k9,G m1 m2 m3]∧RecPost w0 w' (G k1 k2 k3) (G k4 k5 k6) (G k7 k8 k9) (G m1 m2 m3) ((pd++fs).map l) (kq.map l)∧Below w0.heap.size w0 w'∧X.heap.size≤w0.heap.size∧Below X.heap.size X w') ?_ ?_
  ·have hW:Below X.heap.size X X.drew:=(Below.refl _ _).drew;have bk:Nonempty (Lat X):=⟨⟨X,Below.refl _ _⟩⟩
   have f0:=BA.lat 0 _ rfl;have f4:=BP.lat 4 _ rfl;refine z0a (S:=fun w'=>∃u:Lat X,w'=u.val) (by kernel_rfl) ?_;refine sgr [(0,3),(5,2)] 5 (by kernel_rfl) ⟨⟨_,hW⟩,rfl⟩ ?_;simp only[pkE];repeat go_big_quiet_step (fail)
   refine wpQuiet_nil ?_;clear f0 f4;generalize X.drew=wd at hW⊢;refine twa 3 8 4 (by kernel_rfl) ?_ ?_
   ·skip;refine z00 3 _ rfl ?_;have B6:=m wd 25 #[G p0 pd.length p5,G fa fs.length fk];have d:Below wd.heap.size wd (wd.alloc (.cells #[G p0 pd.length p5,G fa fs.length fk] 25)):=by go_grown
    replace hW:=hW.trans (d.mono hW.size);clear d
    go_wp2
    refine ThenGo.to ⟨⟨⟨_,hW⟩,rfl⟩,?_⟩;generalize aB:wd.heap.size=g6 at*;clear aB;generalize wd.alloc (.cells #[G p0 pd.length p5,G fa fs.length fk] 25)=x1 at*;refine twa 4 8 3 (by kernel_rfl) ?_ ?_
    ·skip;refine opc 4 (some 24) 105 #[G (some ⟨g6,0,none⟩) 2 2] (by kernel_rfl) ?_;have J:=z2t g6 2 (G p0 pd.length p5) (G fa fs.length fk) pd fs x1 B6.lt (B6.cell 0 _ rfl) (B6.cell 1 _ rfl) (N _ (bX.trans (hW.mono bX.size))) (D _ (bX.trans (hW.mono bX.size))) L.out.1 L.out.2 (by omega);refine J.mono ?_;rintro e x2 ⟨vc,rfl,oc,hb⟩;clear J B6;replace hW:=hW.trans (hb.mono hW.size);clear hb;refine⟨_,rfl,⟨⟨_,hW⟩,rfl⟩,?_⟩;simp only[Va,pgE,pjE];refine twa 7 8 2 (by kernel_rfl) ?_ ?_
     ·skip;refine opc 7 (some 27) 104 #[vc,G ka kq.length kc] (by kernel_rfl) ?_;have y:=bX.trans (hW.mono bX.size);have z:=z7J oc (At.rds (N _ y)) (At.rds (D _ y));refine(z1G vc (G ka kq.length kc) (pd++fs) kq x2 z (M.at.below hW) V.out Y.out (by simp;omega) (by omega)).mono ?_;rintro e x3 ⟨nN,iN,uU,iU,rfl,RP,hb⟩;obtain⟨⟨k1,k2,k3,rfl⟩,⟨k4,k5,k6,rfl⟩,⟨k7,k8,k9,rfl⟩,⟨m1,m2,m3,rfl⟩⟩:=RP.shapes;have C:=hb;have E:X.heap.size≤x2.heap.size:=hW.size;clear z y oc;replace hW:=hW.trans (hb.mono hW.size);clear hb;refine⟨_,rfl,⟨⟨_,hW⟩,rfl⟩,?_⟩;simp only[Va,pgE,pjE];refine ona 8 1 rfl (by kernel_rfl) ?_;have Bz:=m x3 157 #[G none 0 0,G none 0 0,G none 0 0,G none 0 0];have ag:X.heap.size≤x3.heap.size:=hW.size;have d:Below x3.heap.size x3 (x3.alloc (.cells #[G none 0 0,G none 0 0,G none 0 0,G none 0 0] 157)):=by go_grown
      replace hW:=hW.trans (d.mono hW.size)
      go_wp2
      refine ThenGo.to ⟨⟨⟨_,hW⟩,rfl⟩,?_⟩;refine ona 9 0 rfl (by kernel_rfl) ?_;have A:X.heap.size≤x3.heap.size:=ag;have Rz:=Bz.row #[G k1 k2 k3,G k4 k5 k6,G k7 k8 k9,G m1 m2 m3];have aE:Below x3.heap.size x3 ((x3.alloc (.cells #[G none 0 0,G none 0 0,G none 0 0,G none 0 0] 157)).setRow x3.heap.size #[G k1 k2 k3,G k4 k5 k6,G k7 k8 k9,G m1 m2 m3]):=z0j d (Nat.le_refl _) #[G k1 k2 k3,G k4 k5 k6,G k7 k8 k9,G m1 m2 m3];replace RP:=RP.below aE;have O:=C.trans (aE.mono C.size);replace hW:=z0j hW A #[G k1 k2 k3,G k4 k5 k6,G k7 k8 k9,G m1 m2 m3];refine z0s (by kernel_rfl) 157 _ _ rfl _ #[G k1 k2 k3,G k4 k5 k6,G k7 k8 k9,G m1 m2 m3] rfl rfl 157 _ Bz z7K rfl (by simp[Value.oneCell']) ?_;refine ThenGo.to ⟨⟨⟨_,hW⟩,rfl⟩,?_⟩;refine z0e (by kernel_rfl) ?_;refine⟨rfl,_,⟨G (some ⟨g6,0,none⟩) 2 2,vc,k1,k2,k3,k4,k5,k6,k7,k8,k9,m1,m2,m3,x2,x3.heap.size,rfl,A,Rz,RP,O,E,hW⟩,?_⟩;simp only[z1a,Va,pgE,pjE];try rfl
     ·skip;refine z00 8 _ rfl ?_;have Bz:=m x2 157 #[G none 0 0,G none 0 0,G none 0 0,G none 0 0];have ag:X.heap.size≤x2.heap.size:=hW.size;have d:Below x2.heap.size x2 (x2.alloc (.cells #[G none 0 0,G none 0 0,G none 0 0,G none 0 0] 157)):=by go_grown
      replace oc:=z0b oc d;replace hW:=hW.trans (d.mono hW.size);clear d
      go_wp2
      refine ThenGo.to ⟨⟨⟨_,hW⟩,rfl⟩,?_⟩;generalize aC:x2.heap.size=g at*;clear aC;generalize x2.alloc (.cells #[G none 0 0,G none 0 0,G none 0 0,G none 0 0] 157)=y5 at*;refine cla 7 (some 27) 104 #[vc,G ka kq.length kc] 1 (by kernel_rfl) ?_;have y:=bX.trans (hW.mono bX.size);have z:=z7J oc (At.rds (N _ y)) (At.rds (D _ y));refine(z1G vc (G ka kq.length kc) (pd++fs) kq y5 z (M.at.below hW) V.out Y.out (by simp;omega) (by omega)).mono ?_;rintro e x6 ⟨nN,iN,uU,iU,rfl,RP,hb⟩;obtain⟨⟨k1,k2,k3,rfl⟩,⟨k4,k5,k6,rfl⟩,⟨k7,k8,k9,rfl⟩,⟨m1,m2,m3,rfl⟩⟩:=RP.shapes;have C:=hb;have E:X.heap.size≤y5.heap.size:=hW.size;clear z y oc;have U:=Bz;replace Bz:=Bz.below hb;replace hW:=hW.trans (hb.mono hW.size);clear hb;refine⟨_,rfl,⟨⟨_,hW⟩,rfl⟩,?_⟩;simp only[Va,pgE,pjE];refine ona 9 0 rfl (by kernel_rfl) ?_;have A:X.heap.size≤g:=by omega
      have Rz:=Bz.row #[G k1 k2 k3,G k4 k5 k6,G k7 k8 k9,G m1 m2 m3];have x:=RP.rebase C U #[G k1 k2 k3,G k4 k5 k6,G k7 k8 k9,G m1 m2 m3];replace RP:=x.1;have O:=x.2;have I:X.heap.size≤(y5.setRow g #[G k1 k2 k3,G k4 k5 k6,G k7 k8 k9,G m1 m2 m3]).heap.size:=by rw[size_setRow];exact E
      clear x;replace hW:=z0j hW A #[G k1 k2 k3,G k4 k5 k6,G k7 k8 k9,G m1 m2 m3];refine z0s (by kernel_rfl) 157 _ _ rfl _ #[G k1 k2 k3,G k4 k5 k6,G k7 k8 k9,G m1 m2 m3] rfl rfl 157 _ Bz z7K rfl (by simp[Value.oneCell']) ?_;refine ThenGo.to ⟨⟨⟨_,hW⟩,rfl⟩,?_⟩;refine z0e (by kernel_rfl) ?_;refine⟨rfl,_,⟨G (some ⟨g6,0,none⟩) 2 2,vc,k1,k2,k3,k4,k5,k6,k7,k8,k9,m1,m2,m3,y5.setRow g #[G k1 k2 k3,G k4 k5 k6,G k7 k8 k9,G m1 m2 m3],g,rfl,A,Rz,RP,O,I,hW⟩,?_⟩;simp only[z1a,Va,pgE,pjE];try rfl
    ·skip;refine z00 8 _ rfl ?_;have Bz:=m x1 157 #[G none 0 0,G none 0 0,G none 0 0,G none 0 0];have ag:X.heap.size≤x1.heap.size:=hW.size;have d:Below x1.heap.size x1 (x1.alloc (.cells #[G none 0 0,G none 0 0,G none 0 0,G none 0 0] 157)):=by go_grown
     replace B6:=B6.below d;replace hW:=hW.trans (d.mono hW.size);clear d
     go_wp2
     refine ThenGo.to ⟨⟨⟨_,hW⟩,rfl⟩,?_⟩;generalize aD:x1.heap.size=g at*;clear aD;generalize x1.alloc (.cells #[G none 0 0,G none 0 0,G none 0 0,G none 0 0] 157)=y7 at*;refine cla 4 (some 24) 105 #[G (some ⟨g6,0,none⟩) 2 2] 2 (by kernel_rfl) ?_;have J:=z2t g6 2 (G p0 pd.length p5) (G fa fs.length fk) pd fs y7 B6.lt (B6.cell 0 _ rfl) (B6.cell 1 _ rfl) (N _ (bX.trans (hW.mono bX.size))) (D _ (bX.trans (hW.mono bX.size))) L.out.1 L.out.2 (by omega);refine J.mono ?_;rintro e x8 ⟨vc,rfl,oc,hb⟩;clear J B6;replace Bz:=Bz.below hb;replace hW:=hW.trans (hb.mono hW.size);clear hb;refine⟨_,rfl,⟨⟨_,hW⟩,rfl⟩,?_⟩;simp only[Va,pgE,pjE];refine cla 7 (some 27) 104 #[vc,G ka kq.length kc] 1 (by kernel_rfl) ?_;have y:=bX.trans (hW.mono bX.size);have z:=z7J oc (At.rds (N _ y)) (At.rds (D _ y));refine(z1G vc (G ka kq.length kc) (pd++fs) kq x8 z (M.at.below hW) V.out Y.out (by simp;omega) (by omega)).mono ?_;rintro e x9 ⟨nN,iN,uU,iU,rfl,RP,hb⟩;obtain⟨⟨k1,k2,k3,rfl⟩,⟨k4,k5,k6,rfl⟩,⟨k7,k8,k9,rfl⟩,⟨m1,m2,m3,rfl⟩⟩:=RP.shapes;have C:=hb;have E:X.heap.size≤x8.heap.size:=hW.size;clear z y oc;have U:=Bz;replace Bz:=Bz.below hb;replace hW:=hW.trans (hb.mono hW.size);clear hb;refine⟨_,rfl,⟨⟨_,hW⟩,rfl⟩,?_⟩;simp only[Va,pgE,pjE];refine ona 9 0 rfl (by kernel_rfl) ?_;have A:X.heap.size≤g:=by omega
     have Rz:=Bz.row #[G k1 k2 k3,G k4 k5 k6,G k7 k8 k9,G m1 m2 m3];have x:=RP.rebase C U #[G k1 k2 k3,G k4 k5 k6,G k7 k8 k9,G m1 m2 m3];replace RP:=x.1;have O:=x.2;have I:X.heap.size≤(x8.setRow g #[G k1 k2 k3,G k4 k5 k6,G k7 k8 k9,G m1 m2 m3]).heap.size:=by rw[size_setRow];exact E
     clear x;replace hW:=z0j hW A #[G k1 k2 k3,G k4 k5 k6,G k7 k8 k9,G m1 m2 m3];refine z0s (by kernel_rfl) 157 _ _ rfl _ #[G k1 k2 k3,G k4 k5 k6,G k7 k8 k9,G m1 m2 m3] rfl rfl 157 _ Bz z7K rfl (by simp[Value.oneCell']) ?_;refine ThenGo.to ⟨⟨⟨_,hW⟩,rfl⟩,?_⟩;refine z0e (by kernel_rfl) ?_;refine⟨rfl,_,⟨G (some ⟨g6,0,none⟩) 2 2,vc,k1,k2,k3,k4,k5,k6,k7,k8,k9,m1,m2,m3,x8.setRow g #[G k1 k2 k3,G k4 k5 k6,G k7 k8 k9,G m1 m2 m3],g,rfl,A,Rz,RP,O,I,hW⟩,?_⟩;simp only[z1a,Va,pgE,pjE];try rfl
   ·skip;refine z00 8 _ rfl ?_;have Bz:=m wd 157 #[G none 0 0,G none 0 0,G none 0 0,G none 0 0];have ag:X.heap.size≤wd.heap.size:=hW.size;have d:Below wd.heap.size wd (wd.alloc (.cells #[G none 0 0,G none 0 0,G none 0 0,G none 0 0] 157)):=by go_grown
    replace hW:=hW.trans (d.mono hW.size);clear d
    go_wp2
    refine ThenGo.to ⟨⟨⟨_,hW⟩,rfl⟩,?_⟩;generalize ar:wd.heap.size=g at*;clear ar;generalize wd.alloc (.cells #[G none 0 0,G none 0 0,G none 0 0,G none 0 0] 157)=T at*;refine ona 3 3 rfl (by kernel_rfl) ?_;have B6:=m T 25 #[G p0 pd.length p5,G fa fs.length fk];have d:Below T.heap.size T (T.alloc (.cells #[G p0 pd.length p5,G fa fs.length fk] 25)):=by go_grown
    replace Bz:=Bz.below d;replace hW:=hW.trans (d.mono hW.size);clear d
    go_wp2
    refine ThenGo.to ⟨⟨⟨_,hW⟩,rfl⟩,?_⟩;generalize aq:T.heap.size=g6 at*;clear aq;generalize T.alloc (.cells #[G p0 pd.length p5,G fa fs.length fk] 25)=a8 at*;refine cla 4 (some 24) 105 #[G (some ⟨g6,0,none⟩) 2 2] 2 (by kernel_rfl) ?_;have J:=z2t g6 2 (G p0 pd.length p5) (G fa fs.length fk) pd fs a8 B6.lt (B6.cell 0 _ rfl) (B6.cell 1 _ rfl) (N _ (bX.trans (hW.mono bX.size))) (D _ (bX.trans (hW.mono bX.size))) L.out.1 L.out.2 (by omega);refine J.mono ?_;rintro e ah ⟨vc,rfl,oc,hb⟩;clear J B6;replace Bz:=Bz.below hb;replace hW:=hW.trans (hb.mono hW.size);clear hb;refine⟨_,rfl,⟨⟨_,hW⟩,rfl⟩,?_⟩;simp only[Va,pgE,pjE];refine cla 7 (some 27) 104 #[vc,G ka kq.length kc] 1 (by kernel_rfl) ?_;have y:=bX.trans (hW.mono bX.size);have z:=z7J oc (At.rds (N _ y)) (At.rds (D _ y));refine(z1G vc (G ka kq.length kc) (pd++fs) kq ah z (M.at.below hW) V.out Y.out (by simp;omega) (by omega)).mono ?_;rintro e bm ⟨nN,iN,uU,iU,rfl,RP,hb⟩;obtain⟨⟨k1,k2,k3,rfl⟩,⟨k4,k5,k6,rfl⟩,⟨k7,k8,k9,rfl⟩,⟨m1,m2,m3,rfl⟩⟩:=RP.shapes;have C:=hb;have E:X.heap.size≤ah.heap.size:=hW.size;clear z y oc;have U:=Bz;replace Bz:=Bz.below hb;replace hW:=hW.trans (hb.mono hW.size);clear hb;refine⟨_,rfl,⟨⟨_,hW⟩,rfl⟩,?_⟩;simp only[Va,pgE,pjE];refine ona 9 0 rfl (by kernel_rfl) ?_;have A:X.heap.size≤g:=by omega
    have Rz:=Bz.row #[G k1 k2 k3,G k4 k5 k6,G k7 k8 k9,G m1 m2 m3];have x:=RP.rebase C U #[G k1 k2 k3,G k4 k5 k6,G k7 k8 k9,G m1 m2 m3];replace RP:=x.1;have O:=x.2;have I:X.heap.size≤(ah.setRow g #[G k1 k2 k3,G k4 k5 k6,G k7 k8 k9,G m1 m2 m3]).heap.size:=by rw[size_setRow];exact E
    clear x;replace hW:=z0j hW A #[G k1 k2 k3,G k4 k5 k6,G k7 k8 k9,G m1 m2 m3];refine z0s (by kernel_rfl) 157 _ _ rfl _ #[G k1 k2 k3,G k4 k5 k6,G k7 k8 k9,G m1 m2 m3] rfl rfl 157 _ Bz z7K rfl (by simp[Value.oneCell']) ?_;refine ThenGo.to ⟨⟨⟨_,hW⟩,rfl⟩,?_⟩;refine z0e (by kernel_rfl) ?_;refine⟨rfl,_,⟨G (some ⟨g6,0,none⟩) 2 2,vc,k1,k2,k3,k4,k5,k6,k7,k8,k9,m1,m2,m3,ah.setRow g #[G k1 k2 k3,G k4 k5 k6,G k7 k8 k9,G m1 m2 m3],g,rfl,A,Rz,RP,O,I,hW⟩,?_⟩;simp only[z1a,Va,pgE,pjE];try rfl
  rintro vs w5 ⟨v23,v24,k1,k2,k3,k4,k5,k6,k7,k8,k9,m1,m2,m3,w0,g,rfl,bh,RG,RP,C,E,ad⟩;simp only[z1a,Va,pjE];replace BA:=BA.below ad;replace BP:=BP.below ad;replace RB:=RB.below ad;replace b0:=z0l b0 ad;have bg:g≠w.heap.size+1:=by omega
  have Z:∀t∈(pd++fs).map l,t.F=0:=fun t ht=>by obtain⟨q,hq,rfl⟩:=List.mem_map.1 ht;exact V.out q hq
  have aa:∀t∈kq.map l,t.F=0:=fun t ht=>by obtain⟨q,hq,rfl⟩:=List.mem_map.1 ht;exact Y.out q hq
  have ga:=z1h (xs:=[]) (by simp) z3a Z;have gb:=z1h ga.1 ga.2 aa;have aj:((pd++fs).map l).length≤40:=by rw[List.length_map,List.length_append];omega
  have ak:(kq.map l).length≤40:=by rw[List.length_map];omega
  have hW:Below w5.heap.size w5 w5.drew:=(Below.refl _ _).drew;have aJ:=z5V w0 (G k1 k2 k3) (G k4 k5 k6) (G k7 k8 k9) (G m1 m2 m3) ((pd++fs).map l) (kq.map l) w5.drew (RP.below hW) (C.trans (hW.mono C.size)) Z aa aj ak ga.1 gb.1 ga.2;clear RP Z aa ga gb aj ak
  go_wp2_with fail
  have c2:=z02 (F:=[w.heap.size+1]) (BP.cell 2 _ rfl) (by simp;omega);have e0:=z02 (F:=[w.heap.size+1]) (RG.cell 0 _ rfl) (by simp;omega);have e1:=z02 (F:=[w.heap.size+1]) (RG.cell 1 _ rfl) (by simp;omega);have e2:=z02 (F:=[w.heap.size+1]) (RG.cell 2 _ rfl) (by simp;omega);have e3:=z02 (F:=[w.heap.size+1]) (RG.cell 3 _ rfl) (by simp;omega);have bj:Nonempty (KeepP (Out [w.heap.size+1] w5)):=⟨⟨w5,Out.refl _ _⟩⟩
  have hO:Out [w.heap.size+1] w5 w5.drew:=Out.of_below hW;refine z0a (S:=fun w'=>∃u:KeepP (Out [w.heap.size+1] w5),w'=u.val) (by kernel_rfl) ?_;refine sgr [(0,3)] 3 (by kernel_rfl) ⟨⟨_,hO⟩,rfl⟩ ?_;simp only[pkE];repeat go_big_quiet_step (fail)
  refine wpQuiet_nil ?_;clear c2 e0 e1 e2 e3;refine cla 3 (some 31) 106 #[.agg #[G k1 k2 k3,G k4 k5 k6,G k7 k8 k9,G m1 m2 m3]] 2 (by kernel_rfl) ?_;refine aJ.mono ?_;rintro e w7 ⟨q,rfl,eq,oq,nq,gq,hb⟩;have aw:Below w5.heap.size w5 w7:=hW.trans (hb.mono hW.size);have bc:=RB.lt;have bf:w5.heap.size≤w5.drew.heap.size:=hW.size;replace RB:=RB.below aw;have bl:=b0.size;replace hO:Out [w.heap.size+1] w5 w7:=Out.of_below aw;replace b0:=b0.trans (aw.mono b0.size);have aM:∀k∈repK.foot q,k≠w.heap.size+1:=fun k hk=>by have:=gq k hk;omega
  have gw:∀k∈repK.foot q,w.heap.size≤k:=fun k hk=>by have:=gq k hk;omega
  clear hb gq aJ;refine⟨_,rfl,⟨⟨_,hO⟩,rfl⟩,?_⟩;simp only[Va,pgE,pjE];obtain⟨aZ,qd,aY,qb,a6,qt,a7,qu,a1,qn⟩:=q;obtain⟨s0,t0,rfl⟩:∃a c,aZ=G a qd.length c:=oq.1.shape;obtain⟨s1,t1,rfl⟩:∃a c,aY=G a qb.length c:=oq.2.1.shape;obtain⟨s2,t2,rfl⟩:∃a c,a6=G a qt.length c:=oq.2.2.1.shape;obtain⟨s3,t3,rfl⟩:∃a c,a7=G a qu.length c:=oq.2.2.2.1.shape;obtain⟨s4,t4,rfl⟩:∃a c,a1=G a qn.length c:=oq.2.2.2.2.shape;have aK:Hid _:=eq;clear eq;refine sgr [(4,1)] 1 (by kernel_rfl) ⟨⟨_,hO⟩,rfl⟩ ?_;simp only[pkE];repeat go_big_quiet_step (fail)
  refine wpQuiet_nil ?_;refine ona 5 0 rfl (by kernel_rfl) ?_;have Rz:=RB.row #[H Q 0,H Q PB,H Q 0,G s0 qd.length t0,G s1 qb.length t1,G s2 qt.length t2,G s3 qu.length t3,G s4 qn.length t4];have oz:=repK.own_out oq (z0L _ (w.heap.size+1) #[H Q 0,H Q PB,H Q 0,G s0 qd.length t0,G s1 qb.length t1,G s2 qt.length t2,G s3 qu.length t3,G s4 qn.length t4]) (fun k hk=>by simp only[List.mem_singleton];exact aM k hk);replace hO:Out [w.heap.size+1] w5 _:=hO.trans (z0L w7 (w.heap.size+1) #[H Q 0,H Q PB,H Q 0,G s0 qd.length t0,G s1 qb.length t1,G s2 qt.length t2,G s3 qu.length t3,G s4 qn.length t4]);replace b0:=z0j (g:=w.heap.size+1) b0 (by omega) #[H Q 0,H Q PB,H Q 0,G s0 qd.length t0,G s1 qb.length t1,G s2 qt.length t2,G s3 qu.length t3,G s4 qn.length t4];refine z0s (by kernel_rfl) 95 _ _ rfl _ #[H Q 0,H Q PB,H Q 0,G s0 qd.length t0,G s1 qb.length t1,G s2 qt.length t2,G s3 qu.length t3,G s4 qn.length t4] rfl rfl 95 _ RB q1v rfl (by simp[Value.oneCell']) ?_;refine ThenGo.to ⟨⟨⟨_,hO⟩,rfl⟩,?_⟩;refine z0e (by kernel_rfl) ?_;obtain⟨z0,z1,z2,z3,z4,z5,z6,z7⟩:=Rz.cel8
  go_wp2
  exact bodyPost_ret (v:=.agg #[H Q 0,H Q PB,H Q 0,G s0 qd.length t0,G s1 qb.length t1,G s2 qt.length t2,G s3 qu.length t3,G s4 qn.length t4]) (by simp[results,results100,go_sem,z0,z1,z2,z3,z4,z5,z6,z7]) rfl ⟨(⟨G s0 qd.length t0,qd,G s1 qb.length t1,qb,G s2 qt.length t2,qt,G s3 qu.length t3,qu,G s4 qn.length t4,qn⟩:RepQ),by rw[ai.out.1],aK.out.trans ai.out.2.symm,oz,nq,gw,b0⟩
 ·obtain⟨hA,hR⟩:=HE.out.2 hc;have bd:(c !=0)=true:=by simpa using hc
  clear HE;have Rr:=RB.row #[H Q c,H Q 0,H Q 0,G none 0 0,G none 0 0,G none 0 0,G none 0 0,G none 0 0];have aN:=z0j (g:=w.heap.size+1) b0 (by omega) #[H Q c,H Q 0,H Q 0,G none 0 0,G none 0 0,G none 0 0,G none 0 0,G none 0 0]
  go_wp2_with (first|(refine z0s (by kernel_rfl) 95 _ _ rfl _ #[H Q c,H Q 0,H Q 0,G none 0 0,G none 0 0,G none 0 0,G none 0 0,G none 0 0] rfl rfl 95 _ RB q1v rfl (by simp[Value.oneCell']) ?_))
  obtain⟨z0,z1,z2,z3,z4,z5,z6,z7⟩:=Rr.cel8;first|done|skip
  exact bodyPost_ret (v:=.agg #[H Q c,H Q 0,H Q 0,G none 0 0,G none 0 0,G none 0 0,G none 0 0,G none 0 0]) (by simp[results,results100,go_sem,z0,z1,z2,z3,z4,z5,z6,z7]) rfl ⟨q3y,by rw[hA];rfl,hR.symm,(z1l _).1,by rw[(z1l w).2];simp,by rw[(z1l w).2];simp,aN⟩
theorem q4m{x y:ActD}(h:z1N x y=true):x=y:=by
 obtain⟨a,b,c⟩:=x;obtain⟨a',b',c'⟩:=y;simp only[z1N,Bool.and_eq_true,beq_iff_eq]at h;obtain⟨rfl,rfl,rfl⟩:=h;rfl
theorem z87:∀ {x y:List ActD},sameAs x y=true→x=y
 |[],[],_=>rfl
 |[],_::_,h=>by simp[sameAs]at h
 |_::_,[],h=>by simp[sameAs]at h
 |a::r,b::s,h=>by
  simp only[sameAs,Bool.and_eq_true]at h;rw[q4m h.1,z87 h.2]
theorem q0z{x y:TxnD}(h:z0B x y=true):x=y:=by
 obtain⟨a,b,c,d⟩:=x;obtain⟨a',b',c',d'⟩:=y;simp only[z0B,Bool.and_eq_true,beq_iff_eq]at h;obtain⟨⟨⟨rfl,rfl⟩,rfl⟩,h4⟩:=h;rw[z87 h4]
theorem z88(x:List ActD):sameAs x x=true:=by
 induction x with
 |nil=>rfl
 |cons a r ih=>simp[sameAs,z1N,ih]
theorem z9Y(x:TxnD):z0B x x=true:=by simp[z0B,z88]
theorem z4J(x:List TxnD):sameTs x x=true:=by
 induction x with
 |nil=>rfl
 |cons a r ih=>simp[sameTs,z9Y,ih]
theorem q0A:∀ (xs ys:List TxnD),xs.take (comN xs ys)=ys.take (comN xs ys)
 |[],ys=>by simp[comN]
 |x::r,[]=>by simp[comN]
 |x::r,y::s=>by
  rw[comN];split
  ·rename_i h
   rw[List.take_succ_cons,List.take_succ_cons,q0A r s,q0z h]
  ·simp
theorem q3j{xs ds:List TxnD}(h:lstF ds=0)(hs:xs.Sublist ds):lstF xs=0:=by
 obtain⟨h1,h2,h3⟩:=(z1g ds).1 h;exact(z1g xs).2 ⟨Nat.le_trans hs.length_le h1,fun t ht=>h2 t (hs.subset ht),h3.sublist hs⟩
section
variable {ds ds':List TxnD} (hB:bthF ds ds'=0)
include hB
theorem q5T:(plK ds ds').Sublist ds:=by
 unfold plK;rw[if_pos hB];split
 ·exact List.drop_sublist _ _
 ·exact List.filter_sublist.trans (List.drop_sublist _ _)
theorem q5U:lstF (plK ds ds')=0:=q3j (z1A hB).1 (q5T hB)
theorem q5V:∀t∈plK ds ds',knw ds' t=false:=by
 unfold plK;rw[if_pos hB];split
 ·rename_i h0
  intro t ht;have e:ds'=ds.take (comN ds ds'):=by
   rw[q0A];have:=List.take_append_drop (comN ds ds') ds';rw[h0,List.append_nil]at this;exact this.symm
  rw[knw_false];intro a ha;rw[e]at ha;have h3:=((z1g ds).1 (z1A hB).1).2.2;rw[←List.take_append_drop (comN ds ds') ds,List.pairwise_append]at h3;exact h3.2.2 a ha t ht
 ·intro t ht;have:=(List.mem_filter.1 ht).2;simpa using this
end
end Go.Proofs.YtlkpdgjnhkjpjaaGreatDoor
