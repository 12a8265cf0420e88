import Derived.Test.YtlkpdgjnhkjpjaaGreatDoorSYBH
import Derived.Test.YtlkpdgjnhkjpjaaGreatDoorSYBO
set_option linter.unusedVariables false
set_option linter.unusedSimpArgs false
set_option maxRecDepth 100000
set_option maxHeartbeats 16000000
namespace Go.Proofs.YtlkpdgjnhkjpjaaGreatDoor
open Go.RowKit Go.BigFrame
open TxnQ renaming e->R
open Blk renaming new->H
open Act renaming put->B
open List renaming length_append->P
open IntKind renaming i64->G
open Value renaming int->Q,slice->K
open Go.Proofs.Tryz
def frK(d fs:List TxnD):Bool:=fs.any (fun t=>knw d t)
theorem q3k{d fs:List TxnD}{t:TxnD}(h:t∈fs)(hk:knw d t=true):frK d fs=true:=List.any_eq_true.2 ⟨t,h,hk⟩
theorem q4F{d fs:List TxnD}(h:∀j,j<fs.length→knw d (fs.getD j z00)=false):frK d fs=false:=by
 unfold frK;rw[List.any_eq_false];intro t ht;obtain⟨j,hj,rfl⟩:=List.mem_iff_getElem.1 ht;have:=h j hj;simpa[List.getD,hj]using this
theorem q6D{d fs:List TxnD}(h:frK d fs=false):∀t∈fs,knw d t=false:=fun t ht=>by
 have:=List.any_eq_false.1 h t ht;simpa using this
def dlC(r:RepE)(fs:List TxnD):Int:=if repF r=0 then(if lstF fs=0 then(if frK r.done fs=true then 6 else if 16<r.done.length+fs.length then 7 else 0)else lstF fs)else repF r
def dlA(r:RepE)(fs:List TxnD):Int:=if dlC r fs=0 then plB r.tent fs else 0
def dlE(r:RepE)(fs:List TxnD):RepE:=if dlC r fs=0 then mkR (r.done++fs) (plK r.tent fs)else⟨[],[],[],[],[]⟩
theorem z7T(r:RepE)(fs:List TxnD):(repF r≠0∧dlC r fs=repF r)∨(repF r=0∧lstF fs≠0∧dlC r fs=lstF fs)∨(repF r=0∧lstF fs=0∧frK r.done fs=true∧dlC r fs=6)∨
  (repF r=0∧lstF fs=0∧frK r.done fs=false∧16<r.done.length+fs.length∧dlC r fs=7)∨(repF r=0∧lstF fs=0∧frK r.done fs=false∧¬16<r.done.length+fs.length∧dlC r fs=0):=by
 unfold dlC;by_cases h0:repF r=0
 ·by_cases h1:lstF fs=0
  ·cases h2:frK r.done fs<;>by_cases h4:16<r.done.length+fs.length<;>simp[h0,h1,h2,h4]
  ·simp[h0,h1]
 ·simp[h0]
theorem q3l{ds es:List TxnD}{t:TxnD}(h:t∈z5r ds es):t∈ds:=by
 unfold z5r at h;exact(List.mem_filter.1 h).1
theorem q0z{ds fs:List TxnD}{t:TxnD}(h:t∈plK ds fs):t∈ds:=by
 unfold plK at h;split at h
 ·split at h
  ·exact List.mem_of_mem_drop h
  ·exact List.mem_of_mem_drop (q3l h)
 ·cases h
theorem q4i(ds fs:List TxnD):(plK ds fs).length≤ds.length:=by
 unfold plK;split
 ·split
  ·simp
  ·refine Nat.le_trans (show(z5r _ _).length≤(ds.drop (comN ds fs)).length from by unfold z5r;exact List.length_filter_le _ _) (by simp)
 ·simp
theorem q1x{a b:List TxnD}(h:lstF (a++b)=0):lstF b=0:=by
 have h':=(z09 _).1 h;refine(z09 _).2 ⟨by have:=h'.1;simp at this;omega,fun t ht=>h'.2.1 t (List.mem_append_right _ ht),(List.pairwise_append.1 h'.2.2).2.1⟩
theorem z7U{r:RepE}{fs:List TxnD}(h:dlC r fs=0):repF r=0∧lstF fs=0∧frK r.done fs=false∧r.done.length+fs.length≤16∧bthF r.tent fs=0∧(∀t∈r.done++fs,t.F=0)∧(∀t∈plK r.tent fs,t.F=0)∧(plK r.tent fs).length≤8:=by
 rcases z7T r fs with⟨a,b⟩|⟨_,a,b⟩|⟨_,_,_,b⟩|⟨_,_,_,_,b⟩|⟨a,b,c,d,_⟩
 ·exact absurd (b.symm.trans h) a
 ·exact absurd (b.symm.trans h) a
 ·rw[b]at h;exact absurd h (by decide)
 ·rw[b]at h;exact absurd h (by decide)
 ·have hz:=z1D a;have ha:=((z09 _).1 hz.2.1).2.1;have hb:=((z09 _).1 b).2.1;refine⟨a,b,c,by omega,?_,fun t ht=>?_,fun t ht=>ha t (List.mem_append_right _ (q0z ht)),Nat.le_trans (q4i _ _) hz.1.2⟩
  ·unfold bthF;rw[if_pos (q1x hz.2.1)];exact b
  ·rcases List.mem_append.1 ht with ht|ht
   ·exact ha t (List.mem_append_left _ ht)
   ·exact hb t ht
theorem z85(i s q:Int)(a:Option Addr)(n c:Nat)(xs:List ActD)(vd uv1 uv2 uv3 uv4:Value)(qd:List TxnQ)(bx:Nat)(w:World)(hX:Blk w bx 29 #[vd,uv1,uv2,uv3,uv4])(hD:txnK.At w vd qd)(hqd:qd.length≤1048576):
  Calls Tryz.prog 210 #[.agg #[Q G i,Q G s,Q G q,K a n c],.pointer (some ⟨bx,0,none⟩)] w fun e w'=>e=.returned (.bool (knw (qd.map R) ⟨i,s,q,xs⟩))∧Below w.heap.size w w':=by
 have hB:Below w.heap.size w (w.alloc (.cells #[Q G i,Q G s,Q G q,K a n c] 39)):=by go_grown
 have hX':=hX.below hB;have hq:=z1l vd qd ⟨i,s,q,xs⟩ a n c _ (hD.below hB) hqd;dsimp only at hq;obtain⟨da,dk,rfl⟩:=hD.shape;have x0:=hX'.cell 0 _ rfl;generalize knw (qd.map R) ⟨i,s,q,xs⟩=E at*;go_enter func210,ntmps210
 go_wp2_with fail
 refine hq.mono ?_;rintro e w2 ⟨rfl,hb2⟩;replace hB:=hB.trans (hb2.mono hB.size)
 go_wp2
 go_ret;exact⟨rfl,hB⟩
theorem z6z(v:Value)(ps:List TxnQ)(vd I J L M:Value)(qd:List TxnQ)(bx:Nat)(w:World)(h:txnK.At w v ps)(hX:Blk w bx 29 #[vd,I,J,L,M])(hD:txnK.At w vd qd)(U:qd.length≤1048576)(hl:ps.length≤1048576):
  Calls Tryz.prog 258 #[v,.func (.func 210) #[] #[.pointer (some ⟨bx,0,none⟩)]] w fun e w'=>∃r:Int,e=.returned (Q G r)∧(frK (qd.map R) (ps.map R)=true→0≤r)∧(frK (qd.map R) (ps.map R)=false→r<0)∧Below w.heap.size w w':=by
 obtain⟨a,cap,rfl⟩:=h.shape;generalize hE:frK (qd.map R) (ps.map R)=E;have HE:Hid (frK (qd.map R) (ps.map R)=E):=hE;clear hE;go_enter func258,ntmps258
 go_wp2
 go_loopw[8] (fun j wr=>∃k:Nat,k≤ps.length∧j=Q G k∧Below w.heap.size w wr∧Hid (∀j,j<k→knw (qd.map R) ((ps.map R).getD j z00)=false)) (fun j _=>ps.length-(intOf j).toNat)
 case atStart=>exact⟨0,Nat.zero_le _,rfl,Below.refl _ _,fun j hj=>absurd hj (Nat.not_lt_zero _)⟩
 case round=>
  obtain⟨k,hk,rfl,hb,HA⟩:=hrel;by_cases z:k<ps.length
  ·obtain⟨b',V,rfl,O,hc,y⟩:=(h.below hb).cell (by decide) k z;have d:∀j x,(txnK.cells ps[k])[j]?=some x→wr.cell? ⟨b',V+k*4+j,none⟩=some x:=hc;have c0:=d 0 (Q G ps[k].i) rfl;have c1:=d 1 (Q G ps[k].s) rfl;have c2:=d 2 (Q G ps[k].q) rfl;have c3:=d 3 (ps[k].va) rfl;rw[Nat.add_zero]at c0;have HY:Hid (knw (qd.map R) (R ps[k])=true→E=true):=fun hx=>by rw[←HE.out];exact q3k (t:=R ps[k]) (List.mem_map.2 ⟨ps[k],List.getElem_mem z,rfl⟩) hx
   have HN:Hid (knw (qd.map R) (R ps[k])=false→∀j,j<k+1→knw (qd.map R) ((ps.map R).getD j z00)=false):=fun hx j hj=>by
    by_cases T:j=k
    ·subst T;rw[z1x ps j z];exact hx
    ·exact HA.out j (by omega)
   clear HA hc d;generalize ps[k]=p at*;obtain⟨i,s,q,W,c⟩:=p;replace y:actK.At wr W c:=y;obtain⟨aa,ac,rfl⟩:=y.shape;dsimp only[R]at c0 c1 c2 c3 HY HN;have hq:=z85 i s q aa c.length ac c vd I J L M qd bx wr (hX.below hb) (hD.below hb) U;generalize knw (qd.map R) ⟨i,s,q,c⟩=S at*;have C:(k:Int)<(ps.length:Int):=by omega
   go_wp2_with fail
   refine hq.mono ?_;rintro e w2 ⟨rfl,A⟩;replace hb:=hb.trans (A.mono hb.size);clear hq c0 c1 c2 c3 A y O
   cases S with
   |true=>
    have E1:Hid (E=true):=HY.out rfl;clear HY HN
    go_wp2
    go_ret;refine⟨_,rfl,fun _=>by omega,fun h0=>?_,hb⟩;rw[E1.out]at h0;exact absurd h0 (by decide)
   |false=>
    have N:Hid _:=HN.out rfl;clear HY HN
    go_wp2
    go_roundw
    case rel=>exact⟨k+1,by omega,by go_num,hb,N.out⟩
    case measure=>simp[intOf];omega
  ·have E1:Hid (E=false):=by rw[←HE.out];exact q4F (fun j hj=>HA.out j (by simp at hj;omega))
   have C:¬(k:Int)<(ps.length:Int):=by omega
   clear HA HE
   go_wp2
   go_ret;refine⟨_,rfl,fun h0=>?_,fun _=>by omega,hb⟩;rw[E1.out]at h0;exact absurd h0 (by decide)
theorem z4D(v:Value)(ps:List TxnQ)(vd uv1 uv2 uv3 uv4:Value)(qd:List TxnQ)(bx:Nat)(w:World)(h:txnK.At w v ps)(hX:Blk w bx 29 #[vd,uv1,uv2,uv3,uv4])(hD:txnK.At w vd qd)(hqd:qd.length≤1048576)(hl:ps.length≤1048576):
  Calls Tryz.prog 209 #[v,.func (.func 210) #[] #[.pointer (some ⟨bx,0,none⟩)]] w fun e w'=>e=.returned (.bool (frK (qd.map R) (ps.map R)))∧Below w.heap.size w w':=by
 have hq:=z6z v ps vd uv1 uv2 uv3 uv4 qd bx w h hX hD hqd hl;obtain⟨a,cap,rfl⟩:=h.shape;generalize frK (qd.map R) (ps.map R)=E at*;go_enter func209,ntmps209
 go_wp2_with fail
 refine hq.mono ?_;rintro e w2 ⟨r,rfl,h1,h2,hb⟩
 cases E with
 |true=>
  have h0:0≤r:=h1 rfl;clear h1 h2
  go_wp2
  go_ret;exact⟨by simp[h0],hb⟩
 |false=>
  have h0:¬0≤r:=by have:=h2 rfl;omega
  clear h1 h2
  go_wp2
  go_ret;exact⟨by simp[h0],hb⟩
theorem z6A(p:RepQ)(vf:Value)(fs:List TxnQ)(w:World)(h:repK.rd w p)(nd:z1Q p.vd)(nt:z1Q p.vt)(hl:p.n≤1048576)(hT:txnK.At w vf fs)(T:fs.length+nmL TxnQ.n fs≤1048576):
  Calls Tryz.prog 155 #[.agg #[p.vd,p.vb,p.vt,p.vu,p.vn],vf] w fun e w'=>e=.returned (misC (dlC p.e (fs.map R)))∧Below w.heap.size w w':=by
 have M:=fun w h=>z3K p w h nd nt hl
 have hr:=fun(w':World) hb=>repK.rd_below (w':=w') h hb
 have A:=z7T p.e (fs.map R);have U:=fun w h=>z2c vf fs w h T
 have V:p.done.length≤1048576:=by dsimp only[RepQ.n]at hl;omega
 have L:=fun bx w' hA hX hD=>z4D vf fs p.vd p.vb p.vt p.vu p.vn p.done bx w' hA hX hD V (by omega)
 have O:frK p.e.done (fs.map R)=frK (p.done.map R) (fs.map R):=rfl;rw[O]at A;have N:p.e.done.length=p.done.length:=by simp[RepQ.e]
 rw[N,List.length_map]at A;have af:(fs.length:Int)≤1048576:=by omega
 have X:(p.done.length:Int)≤1048576:=by omega
 have z:∀w,repK.rd w p→Calls Tryz.prog 113 #[.agg #[p.vd,p.vb,p.vt,p.vu,p.vn]] w fun e w'=>∃ (a0 a1 a2 a3:Option Addr) (l0 c0 l1 c1 l2 c2 l3 c3:Nat),e=.returned (.tuple #[.agg #[K a0 l0 c0,K a1 l1 c1,K a2 l2 c2,K a3 l3 c3],misC (repF p.e)])∧Below w.heap.size w w':=fun w h=>(M w h).mono fun e w' hp=>by
  obtain⟨a0,a1,a2,a3,l0,c0,l1,c1,l2,c2,l3,c3,he,_,hb⟩:=hp;exact⟨a0,a1,a2,a3,l0,c0,l1,c1,l2,c2,l3,c3,he,hb⟩
 have ag:∀ (fn:Fn) (y cap:Array Value) (w:World),(Instr.makeFunc fn y cap).run Tryz.prog w=.ok (.func fn y cap) w:=fun _ _ _ _=>rfl
 obtain⟨fa,fk,rfl⟩:=hT.shape;clear M hl T O N;generalize dlC p.e (fs.map R)=C at*;generalize lstF (fs.map R)=LF at*;generalize frK (p.done.map R) (fs.map R)=FK at*;generalize repF p.e=RF at*;obtain⟨Z,pd,Y,pb,ab,pt,ad,pu,aa,pn⟩:=p;obtain⟨p0,p5,rfl⟩:∃a c,Z=K a pd.length c:=h.1.shape;obtain⟨p1,p6,rfl⟩:∃a c,Y=K a pb.length c:=h.2.1.shape;obtain⟨p2,p7,rfl⟩:∃a c,ab=K a pt.length c:=h.2.2.1.shape;obtain⟨p3,p8,rfl⟩:∃a c,ad=K a pu.length c:=h.2.2.2.1.shape;obtain⟨p4,p9,rfl⟩:∃a c,aa=K a pn.length c:=h.2.2.2.2.shape;dsimp only at hr A L X z V;have I:Below w.heap.size w (w.alloc (.cells #[K p0 pd.length p5,K p1 pb.length p6,K p2 pt.length p7,K p3 pu.length p8,K p4 pn.length p9] 29)):=by go_grown
 have BA:=H w 29 #[K p0 pd.length p5,K p1 pb.length p6,K p2 pt.length p7,K p3 pu.length p8,K p4 pn.length p9];go_enter func155,ntmps155
 go_wp2_with fail
 generalize w.alloc (.cells #[K p0 pd.length p5,K p1 pb.length p6,K p2 pt.length p7,K p3 pu.length p8,K p4 pn.length p9] 29)=W at*;refine(z W (hr W I)).mono ?_;rintro e w1 ⟨a0,a1,a2,a3,l0,c0,l1,c1,l2,c2,l3,c3,rfl,hb⟩;replace BA:=BA.below hb;replace I:=z0i I hb;clear hb z;have J:Below w1.heap.size w1 (w1.alloc (.cells #[K a0 l0 c0,K a1 l1 c1,K a2 l2 c2,K a3 l3 c3] 157)):=by go_grown
 have x:=BA.below J;have d:=z0i I J;clear J BA;have e1:=q3d;have e2:=q3e;rcases A with⟨h0,hC⟩|⟨h0,h1,hC⟩|⟨h0,h1,h2,hC⟩|⟨h0,h1,h2,h4,hC⟩|⟨h0,h1,h2,h4,hC⟩
 ·have HC:Hid (C=RF):=hC;clear hC;rw[show misC RF=.iface 219 (.agg #[Q G RF])from if_neg h0]
  go_wp2
  go_ret;exact⟨by rw[HC.out,show misC RF=.iface 219 (.agg #[Q G RF])from if_neg h0];rfl,d⟩
 all_goals
  rw[show misC RF=.nilIface from if_pos h0];have HC:Hid (C=_):=hC;clear hC
  go_wp2_with fail
  generalize w1.alloc (.cells #[K a0 l0 c0,K a1 l1 c1,K a2 l2 c2,K a3 l3 c3] 157)=W1 at*;refine(U W1 (hT.below d)).mono ?_;rintro e w2 ⟨rfl,hb⟩;replace x:=x.below hb;replace d:=z0i d hb;clear hb U
 ·have ae:(LF !=0)=true:=by simpa using h1
  go_wp2
  go_ret;exact⟨by rw[HC.out,show misC LF=.iface 219 (.agg #[Q G LF])from if_neg h1];rfl,d⟩
 all_goals
  subst h1
  go_wp2_with fail
  refine(L _ w2 (hT.below d) x (hr w2 d).1).mono ?_;rintro e w3 ⟨rfl,hb⟩;replace x:=x.below hb;replace d:=z0i d hb;clear hb L
 ·go_wp2
  go_ret;exact⟨by rw[HC.out];rfl,d⟩
 ·have e8:(16:Int)<(pd.length:Int)+(fs.length:Int):=by omega
  have d0:=x.cell 0 _ rfl
  go_wp2
  go_ret;exact⟨by rw[HC.out];rfl,d⟩
 ·have e8:¬(16:Int)<(pd.length:Int)+(fs.length:Int):=by omega
  have d0:=x.cell 0 _ rfl
  go_wp2
  go_ret;exact⟨by rw[HC.out];rfl,d⟩
theorem z86(x:List ActD):sameAs x x=true:=by
 induction x with
 |nil=>rfl
 |cons a r ih=>simp[sameAs,z1O,ih]
theorem z9Z(x:TxnD):z0F x x=true:=by simp[z0F,z86]
theorem z4Z(x:List TxnD):sameTs x x=true:=by
 induction x with
 |nil=>rfl
 |cons a r ih=>simp[sameTs,z9Z,ih]
theorem q0A:∀ (xs ys:List TxnD),xs.take (comN xs ys)=ys.take (comN xs ys)
 |[],ys=>by simp[comN]
 |x::r,[]=>by simp[comN]
 |x::r,y::s=>by
  rw[comN];split
  ·rename_i h
   rw[List.take_succ_cons,List.take_succ_cons,q0A r s,q0u h]
  ·simp
theorem q3m{xs ds:List TxnD}(h:lstF ds=0)(hs:xs.Sublist ds):lstF xs=0:=by
 obtain⟨h1,h2,h3⟩:=(z09 ds).1 h;exact(z09 xs).2 ⟨Nat.le_trans hs.length_le h1,fun t ht=>h2 t (hs.subset ht),h3.sublist hs⟩
section
variable {ds ds':List TxnD} (hB:bthF ds ds'=0)
include hB
theorem q5M:(plK ds ds').Sublist ds:=by
 unfold plK;rw[if_pos hB];split
 ·exact List.drop_sublist _ _
 ·exact List.filter_sublist.trans (List.drop_sublist _ _)
theorem q5N:lstF (plK ds ds')=0:=q3m (z1E hB).1 (q5M hB)
theorem q5O:∀t∈plK ds ds',knw ds' t=false:=by
 unfold plK;rw[if_pos hB];split
 ·rename_i h0
  intro t ht;have e:ds'=ds.take (comN ds ds'):=by
   rw[q0A];have:=List.take_append_drop (comN ds ds') ds';rw[h0,List.append_nil]at this;exact this.symm
  rw[knw_false];intro a ha;rw[e]at ha;have h3:=((z09 ds).1 (z1E hB).1).2.2;rw[←List.take_append_drop (comN ds ds') ds,List.pairwise_append]at h3;exact h3.2.2 a ha t ht
 ·intro t ht;have:=(List.mem_filter.1 ht).2;simpa using this
end
theorem z4j:∀xs:List (List UndoD),sameUss xs xs=true
 |[]=>rfl
 |x::r=>by simp only[sameUss,z9W,z4j r,Bool.and_self]
theorem z7V(x:RepE):sameRep x x=true:=by simp[sameRep,z4Z,z9X,z4j]
theorem q4j{D E:List TxnD}(h1:D.length≤16)(h2:E.length≤8)(h:lstF (D++E)=0):repF (mkR D E)=0:=by
 have hn:¬(16<(mkR D E).done.length∨8<(mkR D E).tent.length):=by show¬(16<D.length∨8<E.length);omega
 rw[z5q hn h];exact if_pos (z7V (mkR D E))
theorem q5P{l:List TxnD}{t:TxnD}(h:l.Pairwise (fun a b=>stF a b=false))(hk:knw l t=false):(l++[t]).Pairwise (fun a b=>stF a b=false):=by
 rw[List.pairwise_append];refine⟨h,by simp,fun a ha b hb=>?_⟩;simp only[List.mem_singleton]at hb;subst hb;exact knw_false.1 hk a ha
theorem q3n{r:RepE}{fs:List TxnD}(h:dlC r fs=0):repF (mkR (r.done++fs) (plK r.tent fs))=0:=by
 obtain⟨h0,hf,hk,hn,hB,hF1,hF2,hl8⟩:=z7U h;obtain⟨⟨l1,l2⟩,l3,_⟩:=z1D h0;obtain⟨_,hA,hP⟩:=(z09 _).1 l3;obtain⟨_,_,hPf⟩:=(z09 _).1 hf;obtain⟨_,_,hPk⟩:=(z09 _).1 (q5N hB);obtain⟨p1,p2,p3⟩:=List.pairwise_append.1 hP;have hkf:=q6D hk;have hko:=q5O hB;refine q4j (by rw[P];exact hn) hl8 ?_;refine(z09 _).2 ⟨by rw[P,P];omega,fun x hx=>?_,?_⟩
 ·rcases List.mem_append.1 hx with hx|hx
  ·exact hF1 x hx
  ·exact hF2 x hx
 ·rw[List.pairwise_append,List.pairwise_append];refine⟨⟨p1,hPf,fun a ha b hb=>knw_false.1 (hkf b hb) a ha⟩,hPk,fun a ha b hb=>?_⟩;rcases List.mem_append.1 ha with ha|ha
  ·exact p3 a ha b (q0z hb)
  ·exact knw_false.1 (hko b hb) a ha
theorem q6E{ds:List InstE}{kn sf:Int}{r:RepE}(h0:ordF ds=0)(h1:0≤kn∧kn≤(decN ds:Int))(h2:0≤sf∧sf≤kn)(h3:repF r=0)(h4:r.done=defL ds kn.toNat):nodF ds kn sf r=0:=by
 unfold nodF;rw[if_pos h0,if_pos ⟨h1,h2⟩,if_pos h3,h4,z4Z,if_pos rfl]
theorem q3o:∀ (xs acc:List TxnD),acc.Pairwise (fun a b=>stF a b=false)→(onc acc xs).Pairwise (fun a b=>stF a b=false)
 |[],acc,h=>h
 |t::r,acc,h=>by
  rw[onc]
  cases hk:knw acc t
  ·exact q3o r _ (q5P h hk)
  ·exact q3o r _ h
theorem q3p{ds:List InstE}(h:ordF ds=0)(m:Nat):lstF (defL ds m)=0:=
 (z09 _).2 ⟨by have:=z9T h m;omega,q5r (z2O h) m,q3o _ _ List.Pairwise.nil⟩
def q4G(ds:List InstE)(kn:Int)(r:RepE):List TxnD:=(defL ds (kn+1).toNat).drop r.done.length
theorem z90{ds:List InstE}{kn sf:Int}{r:RepE}(h:nodF ds kn sf r=0):defL ds (kn+1).toNat=r.done++q4G ds kn r:=by
 obtain⟨_,h1,_,_,h4⟩:=z3j h;obtain⟨zs,hz⟩:=q5I ds kn.toNat (kn+1).toNat (by omega);unfold q4G;rw[h4,hz,List.drop_left]
theorem q5Q{ds:List InstE}{kn:Int}{r:RepE}(h:ordF ds=0):lstF (q4G ds kn r)=0:=q3m (q3p h _) (List.drop_sublist _ _)
theorem q3q{ds:List InstE}{kn sf:Int}{r:RepE}(h:nodF ds kn sf r=0):dlC r (q4G ds kn r)=0:=by
 obtain⟨h0,h1,_,h3,h4⟩:=z3j h;have ha:=z90 h;have hl:=z9T h0 (kn+1).toNat;obtain⟨_,_,hP⟩:=(z09 _).1 (q3p h0 (kn+1).toNat);rw[ha]at hP hl;rw[P]at hl;have hk:frK r.done (q4G ds kn r)=false:=by
  unfold frK;rw[List.any_eq_false];intro t ht;have:knw r.done t=false:=knw_false.2 (fun a ha'=>(List.pairwise_append.1 hP).2.2 a ha' t ht);simp[this]
 unfold dlC;rw[if_pos h3,if_pos (q5Q h0),hk,if_neg (by decide),if_neg (by omega)]
theorem q3r{ds:List InstE}{kn sf:Int}{r:RepE}(h:nodF ds kn sf r=0):dlE r (q4G ds kn r)=mkR (defL ds (kn+1).toNat) (plK r.tent (q4G ds kn r)):=by
 unfold dlE;rw[if_pos (q3q h),←z90 h]
theorem q6J{ds:List InstE}{kn sf:Int}{r:RepE}(h:nodF ds kn sf r=0)(hk:kn<(decN ds:Int)):nodF ds (kn+1) sf (dlE r (q4G ds kn r))=0:=by
 obtain⟨h0,h1,h2,h3,h4⟩:=z3j h;refine q6E h0 ⟨by omega,by omega⟩ ⟨h2.1,by omega⟩ ?_ ?_
 ·have:=q3n (q3q h);rw[q3r h,z90 h];exact this
 ·rw[q3r h];rfl
theorem q3s(p:RepQ)(vf:Value)(fs:List TxnQ)(w:World)(hg:ErrT w)(h9:repK.own w p)(ax:txnK.At w vf fs)(aR:z1Q vf)(aQ:z2F vf)(hl:p.n≤1048576)(aJ:fs.length+nmL TxnQ.n fs≤1048576):
  Calls Tryz.prog 100 #[.agg #[p.vd,p.vb,p.vt,p.vu,p.vn],vf] w fun e w'=>∃q:RepQ,e=.returned (.agg #[Q G (dlC p.e (fs.map R)),Q G (dlA p.e (fs.map R)),Q G 0,q.vd,q.vb,q.vt,q.vu,q.vn])∧q.e=dlE p.e (fs.map R)∧repK.own w' q∧(repK.foot q).Nodup∧(∀k∈repK.foot q,w.heap.size≤k)∧Below w.heap.size w w':=by
 have az:=fun w h hT=>z6A p vf fs w h h9.1.niceV h9.2.2.1.niceV hl hT aJ
 have h:=repK.own_rd h9;have hr:=fun(w':World) hb=>repK.rd_below (w':=w') h hb
 have I:=fun(w':World) (hb:Below w.heap.size w w')=>ax.below hb
 have N:Hid (z1Q p.vd∧z1Q vf):=⟨h9.1.niceV,aR⟩
 have ao:Hid (z2F p.vt∧z2F vf):=⟨h9.2.2.1.capOk,aQ⟩
 have HE:Hid ((dlC p.e (fs.map R)=0→dlA p.e (fs.map R)=plB (p.tent.map R) (fs.map R)∧dlE p.e (fs.map R)=mkR ((p.done++fs).map R) (plK (p.tent.map R) (fs.map R))∧bthF (p.tent.map R) (fs.map R)=0∧(∀q∈p.done++fs,(R q).F=0)∧(∀t∈plK (p.tent.map R) (fs.map R),t.F=0)∧(plK (p.tent.map R) (fs.map R)).length≤8∧p.done.length+fs.length≤16)∧(dlC p.e (fs.map R)≠0→dlA p.e (fs.map R)=0∧dlE p.e (fs.map R)=⟨[],[],[],[],[]⟩)):=by
  refine⟨fun h0=>?_,fun h0=>⟨if_neg h0,if_neg h0⟩⟩;obtain⟨z0,z1,z2,z3,z4,z5,z6,z7⟩:=z7U h0;refine⟨if_pos h0,?_,z4,fun q hq=>z5 _ ?_,z6,z7,?_⟩
  ·rw[dlE,if_pos h0,List.map_append];rfl
  ·rcases List.mem_append.1 hq with hq|hq
   ·exact List.mem_append_left _ (List.mem_map.2 ⟨q,hq,rfl⟩)
   ·exact List.mem_append_right _ (List.mem_map.2 ⟨q,hq,rfl⟩)
  ·simpa[RepQ.e]using z3
 have aS:p.tent.length+nmL TxnQ.n p.tent≤1048576:=by dsimp only[RepQ.n]at hl;omega
 have ah:=fun w' hA hB=>z6y p.vt vf p.tent fs w' hA hB ao.out.1 ao.out.2 aS aJ
 obtain⟨fa,fk,rfl⟩:=ax.shape;generalize dlA p.e (fs.map R)=AA at*;generalize dlE p.e (fs.map R)=RE at*;generalize dlC p.e (fs.map R)=c at*;obtain⟨aW,pd,aV,pb,aY,pt,aZ,pu,aX,pn⟩:=p;obtain⟨p0,p5,rfl⟩:∃a c,aW=K a pd.length c:=h.1.shape;obtain⟨p1,p6,rfl⟩:∃a c,aV=K a pb.length c:=h.2.1.shape;obtain⟨p2,p7,rfl⟩:∃a c,aY=K a pt.length c:=h.2.2.1.shape;obtain⟨p3,p8,rfl⟩:∃a c,aZ=K a pu.length c:=h.2.2.2.1.shape;obtain⟨p4,p9,rfl⟩:∃a c,aX=K a pn.length c:=h.2.2.2.2.shape;dsimp only at az HE ah N;have T:∀w':World,Below w.heap.size w w'→txnK.At w' (K p0 pd.length p5) pd:=fun w' hb=>(hr w' hb).1
 have aT:∀w':World,Below w.heap.size w w'→txnK.At w' (K p2 pt.length p7) pt:=fun w' hb=>(hr w' hb).2.2.1
 have b0:Below w.heap.size w ((w.alloc (.cells #[K p0 pd.length p5,K p1 pb.length p6,K p2 pt.length p7,K p3 pu.length p8,K p4 pn.length p9] 29)).alloc (.cells #[Q G 0,Q G 0,Q G 0,K none 0 0,K none 0 0,K none 0 0,K none 0 0,K none 0 0] 95)):=by go_grown
 have BA:=(H w 29 #[K p0 pd.length p5,K p1 pb.length p6,K p2 pt.length p7,K p3 pu.length p8,K p4 pn.length p9]).below (w':=((w.alloc (.cells #[K p0 pd.length p5,K p1 pb.length p6,K p2 pt.length p7,K p3 pu.length p8,K p4 pn.length p9] 29)).alloc (.cells #[Q G 0,Q G 0,Q G 0,K none 0 0,K none 0 0,K none 0 0,K none 0 0,K none 0 0] 95))) (by go_grown);have RB:=H (w.alloc (.cells #[K p0 pd.length p5,K p1 pb.length p6,K p2 pt.length p7,K p3 pu.length p8,K p4 pn.length p9] 29)) 95 #[Q G 0,Q G 0,Q G 0,K none 0 0,K none 0 0,K none 0 0,K none 0 0,K none 0 0];simp only[World.size_alloc]at RB;have aK:=hr _ b0;have ag:=hg.below b0;have an:=I _ b0;clear h9 ax ao;go_enter func100,ntmps100
 go_wp2_with fail
 generalize ((w.alloc (.cells #[K p0 pd.length p5,K p1 pb.length p6,K p2 pt.length p7,K p3 pu.length p8,K p4 pn.length p9] 29)).alloc (.cells #[Q G 0,Q G 0,Q G 0,K none 0 0,K none 0 0,K none 0 0,K none 0 0,K none 0 0] 95))=W at*;refine(az W aK an).mono ?_;rintro e w2 ⟨rfl,hb⟩;replace BA:=BA.below hb;replace RB:=RB.below hb;replace ag:=ag.below hb;replace b0:=z0i b0 hb;clear hb az aK an
 go_wp2_with fail
 refine(z4A c w2 ag).mono ?_;rintro e w3 ⟨rfl,hb⟩;replace BA:=BA.below hb;replace RB:=RB.below hb;replace b0:=z0i b0 hb;clear hb ag;by_cases hc:c=0
 ·obtain⟨eA,eE,aA,aB,aC,aw,bc⟩:=HE.out.1 hc;subst hc;clear HE;have a2:=BA.cell 2 _ rfl;rw[aA]at ah;have Z:Hid _:=aB;clear aB
  go_wp2_with fail
  clear a2;refine(ah w3 (aT _ b0) (I _ b0)).mono ?_;rintro e w4 ⟨v1,v2,q1,kq,rfl,e1,e2,o1,O,aU,aN,hb⟩;obtain⟨ap,aq,aH⟩:=o1.shape;generalize aI:q1.length=ar at aH;subst aH;obtain⟨ka,kc,rfl⟩:=O.shape;replace BA:=BA.below hb;replace RB:=RB.below hb;replace b0:=z0i b0 hb;clear hb ah aU aN o1 e1 aI;have aa:Hid (∀q∈kq,(R q).F=0):=fun q hq=>aC _ (by rw[←e2];exact List.mem_map.2 ⟨q,hq,rfl⟩)
  have bk:kq.length≤8:=by rw[←e2,List.length_map]at aw;exact aw
  have ak:Hid (AA=_∧RE=mkR ((pd++fs).map R) (kq.map R)):=⟨eA,by rw[e2];exact eE⟩
  clear aC aw eA eE e2 aA;generalize plN (pt.map R) (fs.map R)=PN at*;generalize plB (pt.map R) (fs.map R)=PB at*;have ae:Below w4.heap.size w4 (w4.alloc (.cells #[Q G 0,Q G PN,Q G PB,K ap ar aq,K ka kq.length kc] 216)):=by go_grown
  have BP:=H w4 216 #[Q G 0,Q G PN,Q G PB,K ap ar aq,K ka kq.length kc];have bd:w4.heap.size≠w.heap.size+1:=by have:=RB.lt;omega
  replace BA:=BA.below ae;replace RB:=RB.below ae;replace b0:=z0i b0 ae;replace O:=O.below ae;clear ae
  go_wp2_with fail
  generalize w4.alloc (.cells #[Q G 0,Q G PN,Q G PB,K ap ar aq,K ka kq.length kc] 216)=X at*;generalize w4.heap.size=gp at*;have bX:=b0;have bg:=RB.lt;refine z0T [some 20,some 21,some 22,some 23,some 24,some 25,some 26,some 27,some 7] (fun vs w'=>∃ (v23 v24:Value) (k1:Option Addr) (k2 k3:Nat) (k4:Option Addr) (k5 k6:Nat) (k7:Option Addr) (k8 k9:Nat) (m1:Option Addr) (m2 m3:Nat) (w0:World) (g:Nat),vs=[.pointer (some ⟨w.heap.size,0,none⟩),K p0 pd.length p5,K fa fs.length fk,v23,v24,.pointer (some ⟨gp,4,none⟩),K ka kq.length kc,.agg #[K k1 k2 k3,K k4 k5 k6,K k7 k8 k9,K m1 m2 m3],.pointer (some ⟨g,0,none⟩)]∧X.heap.size≤g∧Blk w' g 157 #[K k1 k2 k3,K k4 k5 k6,K k7 k8 k9,K m1 m2 m3]∧RecPost w0 w' (K k1 k2 k3) (K k4 k5 k6) (K k7 k8 k9) (K m1 m2 m3) ((pd++fs).map R) (kq.map R)∧Below w0.heap.size w0 w'∧X.heap.size≤w0.heap.size∧Below X.heap.size X w') ?_ ?_
  ·have hW:Below X.heap.size X X.drew:=(Below.refl _ _).drew;have bm:Nonempty (Lat X):=⟨⟨X,Below.refl _ _⟩⟩
   have f0:=BA.lat 0 _ rfl;have f4:=BP.lat 4 _ rfl;refine z0b (S:=fun w'=>∃u:Lat X,w'=u.val) (by kernel_rfl) ?_;refine sgr [(0,3),(5,2)] 5 (by kernel_rfl) ⟨⟨_,hW⟩,rfl⟩ ?_;simp only[pkE];repeat go_big_quiet_step (fail)
   refine wpQuiet_nil ?_;clear f0 f4;generalize X.drew=wd at hW⊢;refine twa 3 8 4 (by kernel_rfl) ?_ ?_
   ·skip;refine z0L 3 _ rfl ?_;have B6:=H wd 25 #[K p0 pd.length p5,K fa fs.length fk];have d:Below wd.heap.size wd (wd.alloc (.cells #[K p0 pd.length p5,K fa fs.length fk] 25)):=by go_grown
    replace hW:=hW.trans (d.mono hW.size);clear d
    go_wp2
    refine ThenGo.to ⟨⟨⟨_,hW⟩,rfl⟩,?_⟩;generalize aD:wd.heap.size=g6 at*;clear aD;generalize wd.alloc (.cells #[K p0 pd.length p5,K fa fs.length fk] 25)=x1 at*;refine twa 4 8 3 (by kernel_rfl) ?_ ?_
    ·skip;refine opc 4 (some 24) 105 #[K (some ⟨g6,0,none⟩) 2 2] (by kernel_rfl) ?_;have M:=z1i g6 2 (K p0 pd.length p5) (K fa fs.length fk) pd fs x1 B6.lt (B6.cell 0 _ rfl) (B6.cell 1 _ rfl) (T _ (bX.trans (hW.mono bX.size))) (I _ (bX.trans (hW.mono bX.size))) N.out.1 N.out.2 (by omega);refine M.mono ?_;rintro e x2 ⟨vc,rfl,oc,hb⟩;clear M B6;replace hW:=hW.trans (hb.mono hW.size);clear hb;refine⟨_,rfl,⟨⟨_,hW⟩,rfl⟩,?_⟩;simp only[B,pgE,pjE];refine twa 7 8 2 (by kernel_rfl) ?_ ?_
     ·skip;refine opc 7 (some 27) 104 #[vc,K ka kq.length kc] (by kernel_rfl) ?_;have y:=bX.trans (hW.mono bX.size);have z:=z2v oc (At.rds (T _ y)) (At.rds (I _ y));refine(z0E vc (K ka kq.length kc) (pd++fs) kq x2 z (O.at.below hW) Z.out aa.out (by simp;omega) (by omega)).mono ?_;rintro e x3 ⟨nN,iN,uU,iU,rfl,RP,hb⟩;obtain⟨⟨k1,k2,k3,rfl⟩,⟨k4,k5,k6,rfl⟩,⟨k7,k8,k9,rfl⟩,⟨m1,m2,m3,rfl⟩⟩:=RP.shapes;have C:=hb;have J:X.heap.size≤x2.heap.size:=hW.size;clear z y oc;replace hW:=hW.trans (hb.mono hW.size);clear hb;refine⟨_,rfl,⟨⟨_,hW⟩,rfl⟩,?_⟩;simp only[B,pgE,pjE];refine ona 8 1 rfl (by kernel_rfl) ?_;have Bz:=H x3 157 #[K none 0 0,K none 0 0,K none 0 0,K none 0 0];have ai:X.heap.size≤x3.heap.size:=hW.size;have d:Below x3.heap.size x3 (x3.alloc (.cells #[K none 0 0,K none 0 0,K none 0 0,K none 0 0] 157)):=by go_grown
      replace hW:=hW.trans (d.mono hW.size)
      go_wp2
      refine ThenGo.to ⟨⟨⟨_,hW⟩,rfl⟩,?_⟩;refine ona 9 0 rfl (by kernel_rfl) ?_;have A:X.heap.size≤x3.heap.size:=ai;have Rz:=Bz.row #[K k1 k2 k3,K k4 k5 k6,K k7 k8 k9,K m1 m2 m3];have aG:Below x3.heap.size x3 ((x3.alloc (.cells #[K none 0 0,K none 0 0,K none 0 0,K none 0 0] 157)).setRow x3.heap.size #[K k1 k2 k3,K k4 k5 k6,K k7 k8 k9,K m1 m2 m3]):=z0j d (Nat.le_refl _) #[K k1 k2 k3,K k4 k5 k6,K k7 k8 k9,K m1 m2 m3];replace RP:=RP.below aG;have U:=C.trans (aG.mono C.size);replace hW:=z0j hW A #[K k1 k2 k3,K k4 k5 k6,K k7 k8 k9,K m1 m2 m3];refine z0r (by kernel_rfl) 157 _ _ rfl _ #[K k1 k2 k3,K k4 k5 k6,K k7 k8 k9,K m1 m2 m3] rfl rfl 157 _ Bz z2w rfl (by simp[Value.oneCell']) ?_;refine ThenGo.to ⟨⟨⟨_,hW⟩,rfl⟩,?_⟩;refine z0e (by kernel_rfl) ?_;refine⟨rfl,_,⟨K (some ⟨g6,0,none⟩) 2 2,vc,k1,k2,k3,k4,k5,k6,k7,k8,k9,m1,m2,m3,x2,x3.heap.size,rfl,A,Rz,RP,U,J,hW⟩,?_⟩;simp only[z0P,B,pgE,pjE];try rfl
     ·skip;refine z0L 8 _ rfl ?_;have Bz:=H x2 157 #[K none 0 0,K none 0 0,K none 0 0,K none 0 0];have ai:X.heap.size≤x2.heap.size:=hW.size;have d:Below x2.heap.size x2 (x2.alloc (.cells #[K none 0 0,K none 0 0,K none 0 0,K none 0 0] 157)):=by go_grown
      replace oc:=z0a oc d;replace hW:=hW.trans (d.mono hW.size);clear d
      go_wp2
      refine ThenGo.to ⟨⟨⟨_,hW⟩,rfl⟩,?_⟩;generalize aE:x2.heap.size=g at*;clear aE;generalize x2.alloc (.cells #[K none 0 0,K none 0 0,K none 0 0,K none 0 0] 157)=y5 at*;refine cla 7 (some 27) 104 #[vc,K ka kq.length kc] 1 (by kernel_rfl) ?_;have y:=bX.trans (hW.mono bX.size);have z:=z2v oc (At.rds (T _ y)) (At.rds (I _ y));refine(z0E vc (K ka kq.length kc) (pd++fs) kq y5 z (O.at.below hW) Z.out aa.out (by simp;omega) (by omega)).mono ?_;rintro e x6 ⟨nN,iN,uU,iU,rfl,RP,hb⟩;obtain⟨⟨k1,k2,k3,rfl⟩,⟨k4,k5,k6,rfl⟩,⟨k7,k8,k9,rfl⟩,⟨m1,m2,m3,rfl⟩⟩:=RP.shapes;have C:=hb;have J:X.heap.size≤y5.heap.size:=hW.size;clear z y oc;have Y:=Bz;replace Bz:=Bz.below hb;replace hW:=hW.trans (hb.mono hW.size);clear hb;refine⟨_,rfl,⟨⟨_,hW⟩,rfl⟩,?_⟩;simp only[B,pgE,pjE];refine ona 9 0 rfl (by kernel_rfl) ?_;have A:X.heap.size≤g:=by omega
      have Rz:=Bz.row #[K k1 k2 k3,K k4 k5 k6,K k7 k8 k9,K m1 m2 m3];have x:=RP.rebase C Y #[K k1 k2 k3,K k4 k5 k6,K k7 k8 k9,K m1 m2 m3];replace RP:=x.1;have U:=x.2;have L:X.heap.size≤(y5.setRow g #[K k1 k2 k3,K k4 k5 k6,K k7 k8 k9,K m1 m2 m3]).heap.size:=by rw[size_setRow];exact J
      clear x;replace hW:=z0j hW A #[K k1 k2 k3,K k4 k5 k6,K k7 k8 k9,K m1 m2 m3];refine z0r (by kernel_rfl) 157 _ _ rfl _ #[K k1 k2 k3,K k4 k5 k6,K k7 k8 k9,K m1 m2 m3] rfl rfl 157 _ Bz z2w rfl (by simp[Value.oneCell']) ?_;refine ThenGo.to ⟨⟨⟨_,hW⟩,rfl⟩,?_⟩;refine z0e (by kernel_rfl) ?_;refine⟨rfl,_,⟨K (some ⟨g6,0,none⟩) 2 2,vc,k1,k2,k3,k4,k5,k6,k7,k8,k9,m1,m2,m3,y5.setRow g #[K k1 k2 k3,K k4 k5 k6,K k7 k8 k9,K m1 m2 m3],g,rfl,A,Rz,RP,U,L,hW⟩,?_⟩;simp only[z0P,B,pgE,pjE];try rfl
    ·skip;refine z0L 8 _ rfl ?_;have Bz:=H x1 157 #[K none 0 0,K none 0 0,K none 0 0,K none 0 0];have ai:X.heap.size≤x1.heap.size:=hW.size;have d:Below x1.heap.size x1 (x1.alloc (.cells #[K none 0 0,K none 0 0,K none 0 0,K none 0 0] 157)):=by go_grown
     replace B6:=B6.below d;replace hW:=hW.trans (d.mono hW.size);clear d
     go_wp2
     refine ThenGo.to ⟨⟨⟨_,hW⟩,rfl⟩,?_⟩;generalize aF:x1.heap.size=g at*;clear aF;generalize x1.alloc (.cells #[K none 0 0,K none 0 0,K none 0 0,K none 0 0] 157)=y7 at*;refine cla 4 (some 24) 105 #[K (some ⟨g6,0,none⟩) 2 2] 2 (by kernel_rfl) ?_;have M:=z1i g6 2 (K p0 pd.length p5) (K fa fs.length fk) pd fs y7 B6.lt (B6.cell 0 _ rfl) (B6.cell 1 _ rfl) (T _ (bX.trans (hW.mono bX.size))) (I _ (bX.trans (hW.mono bX.size))) N.out.1 N.out.2 (by omega);refine M.mono ?_;rintro e x8 ⟨vc,rfl,oc,hb⟩;clear M B6;replace Bz:=Bz.below hb;replace hW:=hW.trans (hb.mono hW.size);clear hb;refine⟨_,rfl,⟨⟨_,hW⟩,rfl⟩,?_⟩;simp only[B,pgE,pjE];refine cla 7 (some 27) 104 #[vc,K ka kq.length kc] 1 (by kernel_rfl) ?_;have y:=bX.trans (hW.mono bX.size);have z:=z2v oc (At.rds (T _ y)) (At.rds (I _ y));refine(z0E vc (K ka kq.length kc) (pd++fs) kq x8 z (O.at.below hW) Z.out aa.out (by simp;omega) (by omega)).mono ?_;rintro e x9 ⟨nN,iN,uU,iU,rfl,RP,hb⟩;obtain⟨⟨k1,k2,k3,rfl⟩,⟨k4,k5,k6,rfl⟩,⟨k7,k8,k9,rfl⟩,⟨m1,m2,m3,rfl⟩⟩:=RP.shapes;have C:=hb;have J:X.heap.size≤x8.heap.size:=hW.size;clear z y oc;have Y:=Bz;replace Bz:=Bz.below hb;replace hW:=hW.trans (hb.mono hW.size);clear hb;refine⟨_,rfl,⟨⟨_,hW⟩,rfl⟩,?_⟩;simp only[B,pgE,pjE];refine ona 9 0 rfl (by kernel_rfl) ?_;have A:X.heap.size≤g:=by omega
     have Rz:=Bz.row #[K k1 k2 k3,K k4 k5 k6,K k7 k8 k9,K m1 m2 m3];have x:=RP.rebase C Y #[K k1 k2 k3,K k4 k5 k6,K k7 k8 k9,K m1 m2 m3];replace RP:=x.1;have U:=x.2;have L:X.heap.size≤(x8.setRow g #[K k1 k2 k3,K k4 k5 k6,K k7 k8 k9,K m1 m2 m3]).heap.size:=by rw[size_setRow];exact J
     clear x;replace hW:=z0j hW A #[K k1 k2 k3,K k4 k5 k6,K k7 k8 k9,K m1 m2 m3];refine z0r (by kernel_rfl) 157 _ _ rfl _ #[K k1 k2 k3,K k4 k5 k6,K k7 k8 k9,K m1 m2 m3] rfl rfl 157 _ Bz z2w rfl (by simp[Value.oneCell']) ?_;refine ThenGo.to ⟨⟨⟨_,hW⟩,rfl⟩,?_⟩;refine z0e (by kernel_rfl) ?_;refine⟨rfl,_,⟨K (some ⟨g6,0,none⟩) 2 2,vc,k1,k2,k3,k4,k5,k6,k7,k8,k9,m1,m2,m3,x8.setRow g #[K k1 k2 k3,K k4 k5 k6,K k7 k8 k9,K m1 m2 m3],g,rfl,A,Rz,RP,U,L,hW⟩,?_⟩;simp only[z0P,B,pgE,pjE];try rfl
   ·skip;refine z0L 8 _ rfl ?_;have Bz:=H wd 157 #[K none 0 0,K none 0 0,K none 0 0,K none 0 0];have ai:X.heap.size≤wd.heap.size:=hW.size;have d:Below wd.heap.size wd (wd.alloc (.cells #[K none 0 0,K none 0 0,K none 0 0,K none 0 0] 157)):=by go_grown
    replace hW:=hW.trans (d.mono hW.size);clear d
    go_wp2
    refine ThenGo.to ⟨⟨⟨_,hW⟩,rfl⟩,?_⟩;generalize av:wd.heap.size=g at*;clear av;generalize wd.alloc (.cells #[K none 0 0,K none 0 0,K none 0 0,K none 0 0] 157)=V at*;refine ona 3 3 rfl (by kernel_rfl) ?_;have B6:=H V 25 #[K p0 pd.length p5,K fa fs.length fk];have d:Below V.heap.size V (V.alloc (.cells #[K p0 pd.length p5,K fa fs.length fk] 25)):=by go_grown
    replace Bz:=Bz.below d;replace hW:=hW.trans (d.mono hW.size);clear d
    go_wp2
    refine ThenGo.to ⟨⟨⟨_,hW⟩,rfl⟩,?_⟩;generalize au:V.heap.size=g6 at*;clear au;generalize V.alloc (.cells #[K p0 pd.length p5,K fa fs.length fk] 25)=bb at*;refine cla 4 (some 24) 105 #[K (some ⟨g6,0,none⟩) 2 2] 2 (by kernel_rfl) ?_;have M:=z1i g6 2 (K p0 pd.length p5) (K fa fs.length fk) pd fs bb B6.lt (B6.cell 0 _ rfl) (B6.cell 1 _ rfl) (T _ (bX.trans (hW.mono bX.size))) (I _ (bX.trans (hW.mono bX.size))) N.out.1 N.out.2 (by omega);refine M.mono ?_;rintro e aj ⟨vc,rfl,oc,hb⟩;clear M B6;replace Bz:=Bz.below hb;replace hW:=hW.trans (hb.mono hW.size);clear hb;refine⟨_,rfl,⟨⟨_,hW⟩,rfl⟩,?_⟩;simp only[B,pgE,pjE];refine cla 7 (some 27) 104 #[vc,K ka kq.length kc] 1 (by kernel_rfl) ?_;have y:=bX.trans (hW.mono bX.size);have z:=z2v oc (At.rds (T _ y)) (At.rds (I _ y));refine(z0E vc (K ka kq.length kc) (pd++fs) kq aj z (O.at.below hW) Z.out aa.out (by simp;omega) (by omega)).mono ?_;rintro e bo ⟨nN,iN,uU,iU,rfl,RP,hb⟩;obtain⟨⟨k1,k2,k3,rfl⟩,⟨k4,k5,k6,rfl⟩,⟨k7,k8,k9,rfl⟩,⟨m1,m2,m3,rfl⟩⟩:=RP.shapes;have C:=hb;have J:X.heap.size≤aj.heap.size:=hW.size;clear z y oc;have Y:=Bz;replace Bz:=Bz.below hb;replace hW:=hW.trans (hb.mono hW.size);clear hb;refine⟨_,rfl,⟨⟨_,hW⟩,rfl⟩,?_⟩;simp only[B,pgE,pjE];refine ona 9 0 rfl (by kernel_rfl) ?_;have A:X.heap.size≤g:=by omega
    have Rz:=Bz.row #[K k1 k2 k3,K k4 k5 k6,K k7 k8 k9,K m1 m2 m3];have x:=RP.rebase C Y #[K k1 k2 k3,K k4 k5 k6,K k7 k8 k9,K m1 m2 m3];replace RP:=x.1;have U:=x.2;have L:X.heap.size≤(aj.setRow g #[K k1 k2 k3,K k4 k5 k6,K k7 k8 k9,K m1 m2 m3]).heap.size:=by rw[size_setRow];exact J
    clear x;replace hW:=z0j hW A #[K k1 k2 k3,K k4 k5 k6,K k7 k8 k9,K m1 m2 m3];refine z0r (by kernel_rfl) 157 _ _ rfl _ #[K k1 k2 k3,K k4 k5 k6,K k7 k8 k9,K m1 m2 m3] rfl rfl 157 _ Bz z2w rfl (by simp[Value.oneCell']) ?_;refine ThenGo.to ⟨⟨⟨_,hW⟩,rfl⟩,?_⟩;refine z0e (by kernel_rfl) ?_;refine⟨rfl,_,⟨K (some ⟨g6,0,none⟩) 2 2,vc,k1,k2,k3,k4,k5,k6,k7,k8,k9,m1,m2,m3,aj.setRow g #[K k1 k2 k3,K k4 k5 k6,K k7 k8 k9,K m1 m2 m3],g,rfl,A,Rz,RP,U,L,hW⟩,?_⟩;simp only[z0P,B,pgE,pjE];try rfl
  rintro vs w5 ⟨v23,v24,k1,k2,k3,k4,k5,k6,k7,k8,k9,m1,m2,m3,w0,g,rfl,bj,RG,RP,C,J,af⟩;simp only[z0P,B,pjE];replace BA:=BA.below af;replace BP:=BP.below af;replace RB:=RB.below af;replace b0:=z0i b0 af;have bi:g≠w.heap.size+1:=by omega
  have ab:∀t∈(pd++fs).map R,t.F=0:=fun t ht=>by obtain⟨q,hq,rfl⟩:=List.mem_map.1 ht;exact Z.out q hq
  have ad:∀t∈kq.map R,t.F=0:=fun t ht=>by obtain⟨q,hq,rfl⟩:=List.mem_map.1 ht;exact aa.out q hq
  have ga:=z0Q (xs:=[]) (by simp) z15 ab;have gb:=z0Q ga.1 ga.2 ad;have al:((pd++fs).map R).length≤40:=by rw[List.length_map,P];omega
  have am:(kq.map R).length≤40:=by rw[List.length_map];omega
  have hW:Below w5.heap.size w5 w5.drew:=(Below.refl _ _).drew;have aL:=z3J w0 (K k1 k2 k3) (K k4 k5 k6) (K k7 k8 k9) (K m1 m2 m3) ((pd++fs).map R) (kq.map R) w5.drew (RP.below hW) (C.trans (hW.mono C.size)) ab ad al am ga.1 gb.1 ga.2;clear RP ab ad ga gb al am
  go_wp2_with fail
  have c2:=z0s (F:=[w.heap.size+1]) (BP.cell 2 _ rfl) (by simp;omega);have e0:=z0s (F:=[w.heap.size+1]) (RG.cell 0 _ rfl) (by simp;omega);have e1:=z0s (F:=[w.heap.size+1]) (RG.cell 1 _ rfl) (by simp;omega);have e2:=z0s (F:=[w.heap.size+1]) (RG.cell 2 _ rfl) (by simp;omega);have e3:=z0s (F:=[w.heap.size+1]) (RG.cell 3 _ rfl) (by simp;omega);have bl:Nonempty (KeepP (Out [w.heap.size+1] w5)):=⟨⟨w5,Out.refl _ _⟩⟩
  have hO:Out [w.heap.size+1] w5 w5.drew:=Out.of_below hW;refine z0b (S:=fun w'=>∃u:KeepP (Out [w.heap.size+1] w5),w'=u.val) (by kernel_rfl) ?_;refine sgr [(0,3)] 3 (by kernel_rfl) ⟨⟨_,hO⟩,rfl⟩ ?_;simp only[pkE];repeat go_big_quiet_step (fail)
  refine wpQuiet_nil ?_;clear c2 e0 e1 e2 e3;refine cla 3 (some 31) 106 #[.agg #[K k1 k2 k3,K k4 k5 k6,K k7 k8 k9,K m1 m2 m3]] 2 (by kernel_rfl) ?_;refine aL.mono ?_;rintro e w7 ⟨q,rfl,eq,oq,nq,gq,hb⟩;have ay:Below w5.heap.size w5 w7:=hW.trans (hb.mono hW.size);have be:=RB.lt;have bh:w5.heap.size≤w5.drew.heap.size:=hW.size;replace RB:=RB.below ay;have bn:=b0.size;replace hO:Out [w.heap.size+1] w5 w7:=Out.of_below ay;replace b0:=b0.trans (ay.mono b0.size);have aO:∀k∈repK.foot q,k≠w.heap.size+1:=fun k hk=>by have:=gq k hk;omega
  have gw:∀k∈repK.foot q,w.heap.size≤k:=fun k hk=>by have:=gq k hk;omega
  clear hb gq aL;refine⟨_,rfl,⟨⟨_,hO⟩,rfl⟩,?_⟩;simp only[B,pgE,pjE];obtain⟨a6,qd,a1,qb,a8,qt,ba,qu,a7,qn⟩:=q;obtain⟨s0,t0,rfl⟩:∃a c,a6=K a qd.length c:=oq.1.shape;obtain⟨s1,t1,rfl⟩:∃a c,a1=K a qb.length c:=oq.2.1.shape;obtain⟨s2,t2,rfl⟩:∃a c,a8=K a qt.length c:=oq.2.2.1.shape;obtain⟨s3,t3,rfl⟩:∃a c,ba=K a qu.length c:=oq.2.2.2.1.shape;obtain⟨s4,t4,rfl⟩:∃a c,a7=K a qn.length c:=oq.2.2.2.2.shape;have aM:Hid _:=eq;clear eq;refine sgr [(4,1)] 1 (by kernel_rfl) ⟨⟨_,hO⟩,rfl⟩ ?_;simp only[pkE];repeat go_big_quiet_step (fail)
  refine wpQuiet_nil ?_;refine ona 5 0 rfl (by kernel_rfl) ?_;have Rz:=RB.row #[Q G 0,Q G PB,Q G 0,K s0 qd.length t0,K s1 qb.length t1,K s2 qt.length t2,K s3 qu.length t3,K s4 qn.length t4];have oz:=repK.own_out oq (z0A _ (w.heap.size+1) #[Q G 0,Q G PB,Q G 0,K s0 qd.length t0,K s1 qb.length t1,K s2 qt.length t2,K s3 qu.length t3,K s4 qn.length t4]) (fun k hk=>by simp only[List.mem_singleton];exact aO k hk);replace hO:Out [w.heap.size+1] w5 _:=hO.trans (z0A w7 (w.heap.size+1) #[Q G 0,Q G PB,Q G 0,K s0 qd.length t0,K s1 qb.length t1,K s2 qt.length t2,K s3 qu.length t3,K s4 qn.length t4]);replace b0:=z0j (g:=w.heap.size+1) b0 (by omega) #[Q G 0,Q G PB,Q G 0,K s0 qd.length t0,K s1 qb.length t1,K s2 qt.length t2,K s3 qu.length t3,K s4 qn.length t4];refine z0r (by kernel_rfl) 95 _ _ rfl _ #[Q G 0,Q G PB,Q G 0,K s0 qd.length t0,K s1 qb.length t1,K s2 qt.length t2,K s3 qu.length t3,K s4 qn.length t4] rfl rfl 95 _ RB z4C rfl (by simp[Value.oneCell']) ?_;refine ThenGo.to ⟨⟨⟨_,hO⟩,rfl⟩,?_⟩;refine z0e (by kernel_rfl) ?_;obtain⟨z0,z1,z2,z3,z4,z5,z6,z7⟩:=Rz.cel8
  go_wp2
  exact bodyPost_ret (v:=.agg #[Q G 0,Q G PB,Q G 0,K s0 qd.length t0,K s1 qb.length t1,K s2 qt.length t2,K s3 qu.length t3,K s4 qn.length t4]) (by simp[results,results100,go_sem,z0,z1,z2,z3,z4,z5,z6,z7]) rfl ⟨(⟨K s0 qd.length t0,qd,K s1 qb.length t1,qb,K s2 qt.length t2,qt,K s3 qu.length t3,qu,K s4 qn.length t4,qn⟩:RepQ),by rw[ak.out.1],aM.out.trans ak.out.2.symm,oz,nq,gw,b0⟩
 ·obtain⟨hA,hR⟩:=HE.out.2 hc;have bf:(c !=0)=true:=by simpa using hc
  clear HE;have Rr:=RB.row #[Q G c,Q G 0,Q G 0,K none 0 0,K none 0 0,K none 0 0,K none 0 0,K none 0 0];have aP:=z0j (g:=w.heap.size+1) b0 (by omega) #[Q G c,Q G 0,Q G 0,K none 0 0,K none 0 0,K none 0 0,K none 0 0,K none 0 0]
  go_wp2_with (first|(refine z0r (by kernel_rfl) 95 _ _ rfl _ #[Q G c,Q G 0,Q G 0,K none 0 0,K none 0 0,K none 0 0,K none 0 0,K none 0 0] rfl rfl 95 _ RB z4C rfl (by simp[Value.oneCell']) ?_))
  obtain⟨z0,z1,z2,z3,z4,z5,z6,z7⟩:=Rr.cel8;first|done|skip
  exact bodyPost_ret (v:=.agg #[Q G c,Q G 0,Q G 0,K none 0 0,K none 0 0,K none 0 0,K none 0 0,K none 0 0]) (by simp[results,results100,go_sem,z0,z1,z2,z3,z4,z5,z6,z7]) rfl ⟨q0t,by rw[hA];rfl,hR.symm,(z0u _).1,by rw[(z0u w).2];simp,by rw[(z0u w).2];simp,aP⟩
end Go.Proofs.YtlkpdgjnhkjpjaaGreatDoor
