/- Texts joined,with what the laws reach alone. -/
import Derived.Test.YtciofogeiohleaaGreatDoorCOAB
import Derived.Shelf.SortM.Plain
import Derived.Shelf.SortM.SortNone
import Derived.Shelf.SlicesG.In.CompactI
import Derived.Sort.EveryDepth
set_option linter.unusedVariables false
set_option linter.unusedSimpArgs false
set_option maxRecDepth 100000
set_option maxHeartbeats 4000000
namespace Go.Proofs.YtciofogeiohleaaGreatDoor
open Go.RowKit Go.BigFrame
def batF(ds:List TxnD):Int:=if ds.length<1∨4<ds.length then 2 else if allF ds=0 then(if(ds.map TxnD.id).Nodup then 0 else 6)else allF ds
def z0K:List RoundE→Int
 |[]=>0
 |r::rs=>if vf r.rep 1=0 then(if vf r.pro 2=0 then z0K rs else vf r.pro 2)else vf r.rep 1
def shpF(x:InstE):Int:=
 if x.has=false∧0<x.batch.length then 1 else
 if x.has=true∧batF x.batch≠0 then batF x.batch else
 if x.rounds.length<1∨4<x.rounds.length then 2 else
 if z0K x.rounds=0 then vf x.dec 1 else z0K x.rounds
def rnd0:RoundE:=⟨[],[]⟩
def repA(rs:List RoundE)(r n:Nat):Int:=(rs.getD r rnd0).rep.getD n 0
def proA(rs:List RoundE)(r n:Nat):Int:=(rs.getD r rnd0).pro.getD n 0
def proR(rs:List RoundE)(r n:Nat):Bool:=(proA rs r n==3)||((repA rs r n !=3) && mayP (rs.getD r rnd0).rep (proA rs r n))
def z7M(rs:List RoundE)(r n:Nat):Bool:=(proA rs (r-1) n !=3) && mayR (rs.getD (r-1) rnd0).pro (repA rs r n)
def repI(has:Bool)(rs:List RoundE)(r n:Nat):Bool:=if repA rs r n=1∧has=false then false else if repA rs r n=3∨r=0 then true else z7M rs r n
def sayM(has:Bool)(rs:List RoundE)(r n:Nat):Bool:=proR rs r n && (if r=0∨repA rs r n=3 then true else z7M rs r n && (has||(repA rs r n==0)||decide (0<cnt 7 (rs.getD (r-1) rnd0).pro 1)))
def agr(rs:List RoundE)(v:Int):Bool:=rs.any (fun r=>decide (2≤cnt 7 r.pro v))
def endR(rs:List RoundE)(v:Int):Bool:=(v==3)||agr rs v
def z7N(has:Bool)(rs:List RoundE)(r:Nat):Bool:=(repI has rs r 0 && proR rs r 0) && (repI has rs r 1 && proR rs r 1) && (repI has rs r 2 && proR rs r 2)
def z6Q(has:Bool)(rs:List RoundE)(r:Nat):Bool:=sayM has rs r 0 && sayM has rs r 1 && sayM has rs r 2
def z4C(rs:List RoundE)(dec:List Int):Bool:=endR rs (dec.getD 0 0) && endR rs (dec.getD 1 0) && endR rs (dec.getD 2 0)
def z88(x:InstE):Bool:=(List.range x.rounds.length).all (z7N x.has x.rounds) && z4C x.rounds x.dec
def q1s(x:InstE):Bool:=(x.has|| !decide (0<cnt 7 (x.rounds.getD 0 rnd0).rep 1)) && (List.range x.rounds.length).all (z6Q x.has x.rounds) && z4C x.rounds x.dec
def insF(x:InstE):Int:=if shpF x=0 then(if z88 x then 0 else 10)else shpF x
theorem q1M(zs:List Int)(v:Int):cnt 7 zs v=z7L (zs.getD 0 0==v) (zs.getD 1 0==v) (zs.getD 2 0==v):=by
 unfold cnt;rw[bit7.1,bit7.2.1,bit7.2.2];simp only[Bool.true_and]
theorem z89(p q r:Bool):z9A (z9N p q r)=z7L p q r:=by cases p<;>cases q<;>cases r<;>decide+kernel
theorem z98(zs:List Int)(v:Int):z9A (vot zs v)=cnt 7 zs v:=by
 rw[q1M];exact z89 _ _ _
theorem z9a(p q r:Bool):(0<z7L p q r)↔(p=true∨q=true∨r=true):=by cases p<;>cases q<;>cases r<;>decide
theorem z1T(zs:List Int)(v:Int):(0<cnt 7 zs v)↔∃n,n<3∧zs.getD n 0=v:=by
 rw[q1M,z9a];simp only[beq_iff_eq];constructor
 ·rintro(h|h|h)
  ·exact⟨0,by omega,h⟩
  ·exact⟨1,by omega,h⟩
  ·exact⟨2,by omega,h⟩
 ·rintro⟨n,hn,h⟩;have:n=0∨n=1∨n=2:=by omega
  rcases this with rfl|rfl|rfl
  ·exact Or.inl h
  ·exact Or.inr (Or.inl h)
  ·exact Or.inr (Or.inr h)
theorem z9b:∀x∈v4,∀y∈v4,∀z∈v4,mayP [x,y,z] 1=true→x=1∨y=1∨z=1:=by decide+kernel
theorem z5R{zs:List Int}(h:mayP zs 1=true):∃n,n<3∧zs.getD n 0=1:=by
 by_cases h0:vf zs 1=0
 ·obtain⟨x,hx,y,hy,z,hz,rfl⟩:=z1S (Or.inl rfl) h0;rcases z9b x hx y hy z hz h with h|h|h
  ·exact⟨0,by omega,h⟩
  ·exact⟨1,by omega,h⟩
  ·exact⟨2,by omega,h⟩
 ·have:mayP zs 1=false:=z45 _ (fun k=>by
   have hc:(pfC zs k==0)=false:=by
    rw[beq_eq_false_iff_ne];intro e;exact h0 (z6i e).1
   simp only [pB,hc,Bool.false_and]) 8
  rw[this]at h;exact absurd h (by decide)
theorem z1g{rs:List RoundE}(h:z0K rs=0)(r:Nat)(hr:r<rs.length):vf (rs.getD r rnd0).rep 1=0∧vf (rs.getD r rnd0).pro 2=0:=by
 induction rs generalizing r with
 |nil=>simp at hr
 |cons q t ih=>
  unfold z0K at h;by_cases h1:vf q.rep 1=0
  ·rw[if_pos h1]at h;by_cases h2:vf q.pro 2=0
   ·rw[if_pos h2]at h
    cases r with
    |zero=>exact⟨h1,h2⟩
    |succ r=>exact ih h r (by simpa using hr)
   ·rw[if_neg h2]at h;exact absurd h h2
  ·rw[if_neg h1]at h;exact absurd h h1
theorem z4d{zs:List Int}{most:Int}(h:vf zs most=0)(n:Nat)(hn:n<3):vOk most (zs.getD n 0)=true:=by
 have hl:=z0A h;unfold vf at h;rw[if_pos hl]at h;have ha:zs.all (vOk most)=true:=by
  by_cases hx:zs.all (vOk most)=true
  ·exact hx
  ·rw[if_neg hx]at h;simp at h
 have hg:zs.getD n 0=zs[n]:=by simp[List.getD,show n<zs.length by omega]
 rw[hg];exact List.all_eq_true.1 ha _ (List.getElem_mem _)
theorem q1t{x:Int}(h:vOk 1 x=true):x=0∨x=1∨x=3:=by
 unfold vOk inB at h;rw[Bool.or_eq_true,decide_eq_true_eq,beq_iff_eq]at h;omega
theorem z2I(has:Bool)(rs:List RoundE)(r:Nat):z7N has rs r=true↔∀n,n<3→repI has rs r n=true∧proR rs r n=true:=by
 unfold z7N;simp only[Bool.and_eq_true];constructor
 ·rintro⟨⟨h0,h1⟩,h2⟩ n hn;have:n=0∨n=1∨n=2:=by omega
  rcases this with rfl|rfl|rfl
  ·exact h0
  ·exact h1
  ·exact h2
 ·intro h;exact⟨⟨h 0 (by omega),h 1 (by omega)⟩,h 2 (by omega)⟩
theorem z3O(has:Bool)(rs:List RoundE)(r:Nat):z6Q has rs r=true↔∀n,n<3→sayM has rs r n=true:=by
 unfold z6Q;simp only[Bool.and_eq_true];constructor
 ·rintro⟨⟨h0,h1⟩,h2⟩ n hn;have:n=0∨n=1∨n=2:=by omega
  rcases this with rfl|rfl|rfl
  ·exact h0
  ·exact h1
  ·exact h2
 ·intro h;exact⟨⟨h 0 (by omega),h 1 (by omega)⟩,h 2 (by omega)⟩
theorem q0Q{rs:List RoundE}(h0:¬0<cnt 7 (rs.getD 0 rnd0).rep 1)(hM:∀r,r<rs.length→∀n,n<3→sayM false rs r n=true):∀r,r<rs.length→∀n,n<3→repA rs r n≠1:=by
 intro r;induction r with
 |zero=>
  intro _ n hn e;exact h0 ((z1T _ _).2 ⟨n,hn,e⟩)
 |succ r ih=>
  intro hr n hn e;have h:=hM (r+1) hr n hn;unfold sayM at h;rw[Bool.and_eq_true]at h;have h2:=h.2;rw[if_neg (by rw[e];omega),Bool.and_eq_true]at h2;have h3:=h2.2;rw[e]at h3;simp only[Bool.false_or,Nat.add_sub_cancel]at h3;have h4:0<cnt 7 (rs.getD r rnd0).pro 1:=by simpa using h3
  obtain⟨m,hm,hp⟩:=(z1T _ _).1 h4;have h5:=hM r (by omega) m hm;unfold sayM at h5;rw[Bool.and_eq_true]at h5;have h6:=h5.1;unfold proR at h6;have hp':proA rs r m=1:=hp;rw[hp']at h6;simp only[Bool.or_eq_true,Bool.and_eq_true]at h6;rcases h6 with h6|h6
  ·exact absurd h6 (by decide)
  ·obtain⟨k,hk,hk1⟩:=z5R h6.2;exact ih (by omega) k hk hk1
theorem z9c{x:InstE}(hr:z0K x.rounds=0)(hl:0<x.rounds.length):q1s x=z88 x:=by
 unfold q1s z88;rw[Bool.eq_iff_iff];simp only[Bool.and_eq_true,List.all_eq_true,List.mem_range,z2I,z3O]
 cases hh:x.has with
 |true=>
  simp only[Bool.true_or,true_and];refine and_congr_left (fun _=>?_);refine forall_congr' (fun r=>forall_congr' (fun hr'=>forall_congr' (fun n=>forall_congr' (fun hn=>?_))));unfold sayM repI;rw[if_neg (show¬(repA x.rounds r n=1∧true=false) by simp)];simp only[Bool.true_or,Bool.and_true,Bool.and_eq_true];by_cases hc:repA x.rounds r n=3∨r=0
  ·rw[if_pos hc,if_pos hc.symm];exact and_comm
  ·rw[if_neg hc,if_neg (fun e=>hc e.symm)];exact and_comm
 |false=>
  simp only[Bool.false_or];constructor
  ·rintro⟨⟨h0,hM⟩,hE⟩;have h0':¬0<cnt 7 (x.rounds.getD 0 rnd0).rep 1:=by simpa using h0
   have hno:=q0Q h0' hM;refine⟨fun r hr' n hn=>?_,hE⟩;have h:=hM r hr' n hn;unfold sayM at h;rw[Bool.and_eq_true]at h;refine⟨?_,h.1⟩;unfold repI;rw[if_neg (fun e=>hno r hr' n hn e.1)];have h2:=h.2;by_cases hc:repA x.rounds r n=3∨r=0
   ·rw[if_pos hc]
   ·rw[if_neg hc];rw[if_neg (fun e=>hc e.symm),Bool.and_eq_true]at h2;exact h2.1
  ·rintro⟨hI,hE⟩;have hno:∀r,r<x.rounds.length→∀n,n<3→repA x.rounds r n≠1:=by
    intro r hr' n hn e;have h:=(hI r hr' n hn).1;unfold repI at h;rw[if_pos ⟨e,rfl⟩]at h;exact absurd h (by decide)
   refine⟨⟨?_,fun r hr' n hn=>?_⟩,hE⟩
   ·have:¬0<cnt 7 (x.rounds.getD 0 rnd0).rep 1:=by
     intro h;obtain⟨n,hn,e⟩:=(z1T _ _).1 h;exact hno 0 hl n hn e
    simpa using this
   ·obtain⟨h1,h2⟩:=hI r hr' n hn;unfold sayM;rw[Bool.and_eq_true];refine⟨h2,?_⟩;unfold repI at h1;rw[if_neg (fun e=>hno r hr' n hn e.1)]at h1;by_cases hc:repA x.rounds r n=3∨r=0
    ·rw[if_pos hc.symm]
    ·rw[if_neg hc]at h1;rw[if_neg (fun e=>hc e.symm),Bool.and_eq_true];refine⟨h1,?_⟩;have hv:=q1t (z4d (z1g hr r hr').1 n hn);have h0:repA x.rounds r n=0:=by
      rcases hv with h|h|h
      ·exact h
      ·exact absurd h (hno r hr' n hn)
      ·exact absurd (Or.inl h) hc
     rw[h0];simp
theorem z6R(zs:List Int):intK.row zs=zs.map (Value.int .i64):=by
 induction zs with
 |nil=>rfl
 |cons z r ih=>
  simp only[Kind.row,List.flatMap_cons,List.map_cons]at ih⊢;rw[ih];rfl
theorem z6k{w:World}{a:Option Addr}{zs:List Int}(h:Lies w a (zs.map (Value.int .i64))):Row .i64 w a zs:=by
 intro i hi;rcases h with h|⟨b,off,ha,hlt,hc⟩
 ·have:=congrArg List.length h;rw[List.length_map,List.length_nil]at this;omega
 ·exact⟨b,off,ha,hlt,hc i _ (by simp[List.getD,hi])⟩
theorem z2w{w:World}{a:Option Addr}{zs:List Int}(h:Row .i64 w a zs):Lies w a (zs.map (Value.int .i64)):=by
 by_cases h0:zs=[]
 ·left;simp[h0]
 ·obtain⟨b,off,ha,hlt,_⟩:=h 0 (List.length_pos_iff.2 h0);right;refine⟨b,off,ha,hlt,fun i x hx=>?_⟩;have hi:i<zs.length:=by
   have:=(List.getElem?_eq_some_iff.1 hx).1;simpa using this
  obtain⟨b',off',ha',_,hc⟩:=h i hi;rw[ha]at ha';simp only[Option.some.injEq,Addr.mk.injEq,and_true]at ha';obtain⟨rfl,rfl⟩:=ha';rw[hc];simp[hi]at hx;rw[←hx];simp[List.getD,hi]
theorem z0y{w:World}{a:Option Addr}{n cap:Nat}{zs:List Int}(h:intK.At w (.slice a n cap) zs):n=zs.length∧Row .i64 w a zs:=by
 obtain⟨a',c,e,hl,_⟩:=h;simp only[Value.slice.injEq]at e;obtain⟨rfl,rfl,_⟩:=e;rw[z6R]at hl;exact⟨rfl,z6k hl⟩
theorem z2x{w:World}{a:Option Addr}{n cap:Nat}{zs:List ActD}(h:actK.At w (.slice a n cap) zs):n=zs.length∧ActRow w a zs:=by
 obtain⟨a',c,e,hl,_⟩:=h;simp only[Value.slice.injEq]at e;obtain⟨rfl,rfl,_⟩:=e;exact⟨rfl,hl⟩
theorem z71(v:Value)(zs:List Int):intK.fp v zs=blk v:=by
 have:zs.flatMap intK.foot=[]:=by rw[List.flatMap_eq_nil_iff];intro _ _;rfl
 simp[Kind.fp,this]
theorem z2y(v:Value)(zs:List ActD):actK.fp v zs=blk v:=by
 have:zs.flatMap actK.foot=[]:=by rw[List.flatMap_eq_nil_iff];intro _ _;rfl
 simp[Kind.fp,this]
theorem z1h(v:Value):(blk v).Nodup:=by unfold blk;cases v.ownBlock<;>simp
theorem z04{w:World}{base e s n:Nat}{v:Value}{xs:List Value}(h:w.ownsRow base e s v n xs):w.ownsRow 0 e s v n xs∧∀k∈blk v,base≤k:=⟨z0R h (Nat.zero_le _),fun k hk=>(h.lt k (by simpa[blk]using hk)).1⟩
theorem z2J{P:Type}(nm:P→Nat)(ps:List P)(k:Nat)(h:k<ps.length):nm ps[k]≤nmL nm ps:=by
 have h1:=z85 nm ps k h;have h2:=z5M nm ps (k+1);omega
def TxnQ.n(p:TxnQ):Nat:=p.acts.length
def TxnQ.wf(p:TxnQ):Prop:=p.acts.length≤9223372036854775807
def RoundQ.n(p:RoundQ):Nat:=p.rep.length+p.pro.length
def RoundQ.wf(p:RoundQ):Prop:=p.rep.length≤9223372036854775807∧p.pro.length≤9223372036854775807
theorem z2K:(Tryz.prog.info? 172).map (fun i=>(i.zero,i.size,i.bytes))=some (some (.agg #[.slice none 0 0,.slice none 0 0]),2,48):=by kernel_rfl
def InstQ.n(p:InstQ):Nat:=(p.batch.length+nmL TxnQ.n p.batch)+(p.rounds.length+nmL RoundQ.n p.rounds)+p.dec.length
def InstQ.wf(p:InstQ):Prop:=(p.batch.length≤9223372036854775807∧∀q∈p.batch,TxnQ.wf q)∧(p.rounds.length≤9223372036854775807∧∀q∈p.rounds,RoundQ.wf q)∧p.dec.length≤9223372036854775807
def slA:Value→Option Addr
 | .slice a _ _=>a
 |_=>none
def slK:Value→Nat
 | .slice _ _ k=>k
 |_=>0
def TxnQ.p(q:TxnQ):TxnP:=⟨q.e,slA q.va,slK q.va⟩
theorem TxnQ.p_cells{w:World}{q:TxnQ}(h:actK.At w q.va q.acts):q.p.cells=txnK.cells q:=by
 obtain⟨a,c,e⟩:=h.shape;show [_,_,_,_]=[_,_,_,_]
 simp only[TxnP.sl,TxnQ.p,TxnQ.e,e,slA,slK]
theorem z2a{w:World}{v:Value}{ps:List TxnQ}(h:txnK.At w v ps):TxnsAt w v (ps.map TxnQ.e):=by
 obtain⟨a,cap,e,hL,hr⟩:=h;refine⟨a,cap,ps.map TxnQ.p,by rw[List.length_map];exact e,by simp only[List.map_map];rfl,?_,?_⟩
 ·have e2:z0B (ps.map TxnQ.p)=txnK.row ps:=by
   clear hL e;induction ps with
   |nil=>rfl
   |cons q r ih=>
    have h1:q.p.cells=txnK.cells q:=TxnQ.p_cells (hr q (by simp));have h2:=ih (fun p hp=>hr p (List.mem_cons_of_mem _ hp));show q.p.cells++z0B (r.map TxnQ.p)=txnK.cells q++txnK.row r;rw[h1,h2]
  rw[e2];exact hL
 ·intro p hp;obtain⟨q,hq,rfl⟩:=List.mem_map.1 hp;have h1:actK.At w q.va q.acts:=hr q hq;obtain⟨a',c',e',hl',_⟩:=h1;show ActRow w (slA q.va) q.acts;rw[e'];exact hl'
theorem z6l(ps:List TxnQ):z4G (ps.map TxnQ.e)=nmL TxnQ.n ps:=by
 simp only[z4G,nmL,List.map_map];rfl
theorem z72(L:List Int)(x:Int):idxN L x<L.length↔x∈L:=by
 induction L with
 |nil=>simp[idxN]
 |cons y r ih=>
  by_cases h:y=x
  ·simp[idxN,h]
  ·have:¬x=y:=fun e=>h e.symm
   simp[idxN,h,this,ih]
theorem z73{L:List Int}{x:Int}(h:x∈L):0≤idxI L x:=by
 unfold idxI;rw[if_pos ((z72 L x).2 h)];omega
theorem z6S{L:List Int}{x:Int}(h:x∉L):idxI L x=-1:=by
 unfold idxI;rw[if_neg (fun e=>h ((z72 L x).1 e))]
theorem z7m{L:List Int}{k:Nat}(h:(L.take k).Nodup)(hk:k<L.length)(hx:L.getD k 0∉L.take k):(L.take (k+1)).Nodup:=by
 have e:L.getD k 0=L[k]:=by simp[List.getD,hk]
 rw[e]at hx;rw[List.take_succ_eq_append_getElem hk,List.nodup_append];refine⟨h,by simp,fun a ha b hb e=>?_⟩;simp only[List.mem_singleton]at hb;subst hb e;exact hx ha
theorem z74{L:List Int}{k:Nat}(hk:k<L.length)(hx:L.getD k 0∈L.take k):¬L.Nodup:=by
 intro h;have e:L.getD k 0=L[k]:=by simp[List.getD,hk]
 rw[e]at hx;have h2:(L.take (k+1)).Nodup:=List.Sublist.nodup (List.take_sublist _ _) h;rw[List.take_succ_eq_append_getElem hk,List.nodup_append]at h2;exact h2.2.2 _ hx _ (by simp) rfl
theorem Row.take6{k:IntKind}{w:World}{a:Option Addr}{zs:List Int}(h:Row k w a zs)(j:Nat):Row k w a (zs.take j):=by
 intro i hi;have hi2:i<j∧i<zs.length:=by rw[List.length_take]at hi;omega
 obtain⟨b,off,ha,hlt,hc⟩:=h i hi2.2;refine⟨b,off,ha,hlt,?_⟩;rw[hc];simp[List.getD,List.getElem?_take,hi2.1]
theorem z6T{w:World}{base e s n c:Nat}{a:Option Addr}{xs:List Value}(h:w.ownsRow base e s (.slice a n c) n xs):n≤c:=by
 rcases h.2 with⟨he,hn⟩|⟨g,cap,cur,he,_,_,hc,_⟩
 ·omega
 ·simp only[Value.slice.injEq,true_and]at he;omega
theorem q1z(b off n c k:Nat)(hk:k≤c)(w:World):(Instr.sliceAt 47 (.slice (some ⟨b,off,none⟩) n c) none (some (.int .i64 (k:Int))) none).run Tryz.prog w=.ok (.slice (some ⟨b,off,none⟩) k c) w:=by
 have hel:Tryz.prog.elem 47=2:=by kernel_rfl
 have hun:Tryz.prog.underlying 47=some (.slice (Tryz.prog.elem 47)):=by kernel_rfl
 have hsz:(sizeOf (Tryz.prog.elem 47)).run Tryz.prog w=.ok 1 w:=by rw[hel];kernel_rfl
 rw[run_sliceAt_slice (h:=hun),run_slice_h (ht:=hun) (kh:=.i64) (h:=(k:Int)) (h0:=by omega) (h2:=by omega),hsz];simp only[Result.andThen,sliced,Int.toNat_natCast];split
 ·rename_i h
  simp
 ·simp only[Option.map_some,Addr.add_lit,Nat.zero_mul,Nat.add_zero,Nat.sub_zero]
theorem z2L{ds:List TxnD}(h:ds.length<1∨4<ds.length):batF ds=2:=if_pos h
theorem z6U{ds:List TxnD}(h:¬(ds.length<1∨4<ds.length)):batF ds=if allF ds=0 then(if(ds.map TxnD.id).Nodup then 0 else 6)else allF ds:=if_neg h
theorem z4e(v:Value)(ds:List TxnD)(w:World)(h:TxnsAt w v ds)(hl:ds.length+z4G ds≤1048576):
  Calls Tryz.prog 162 #[v] w fun e w'=>e=.returned (.int .i64 (batF ds))∧Below w.heap.size w w':=by
 obtain⟨a,cap,rfl⟩:=h.shape;by_cases W:ds.length<1
 ·rw[z2L (Or.inl W)];go_enter Tryz.func162,Tryz.ntmps162
  go_wp2
  go_ret;exact⟨rfl,Below.refl _ _⟩
 ·by_cases U:4<ds.length
  ·rw[z2L (Or.inr U)];go_enter Tryz.func162,Tryz.ntmps162
   go_wp2
   go_ret;exact⟨rfl,Below.refl _ _⟩
  ·have HB:Hid (batF ds=if allF ds=0 then(if(ds.map TxnD.id).Nodup then 0 else 6)else allF ds):=z6U (by omega);generalize batF ds=E at HB⊢;have af:1≤ds.length:=by omega
   have V:ds.length≤4:=by omega
   clear W U;go_enter Tryz.func162,Tryz.ntmps162
   go_wp2
   go_loop[3] (fun j=>∃k:Nat,k≤ds.length∧j=.int .i64 k∧Hid (∀j,j<k→(ds.getD j z0q).F=0)) (fun j=>ds.length-(intOf j).toNat)
   case atStart=>exact⟨0,Nat.zero_le _,rfl,fun j hj=>absurd hj (Nat.not_lt_zero _)⟩
   case round=>
    obtain⟨k,hk,rfl,HA⟩:=hrel;by_cases s:k<ds.length
    ·obtain⟨b,y,aa,cc,rfl,Z,M,N,O,T,hA⟩:=h.at k s;have ah:(ds.getD k z0q).acts.length≤z4G ds:=z1e (by simp[List.getD,s]);have c:=z6h b (y+k*4) _ _ _ aa cc _ w (TxnsAt.box M N O T) hA (by omega);change Calls _ _ _ _ fun e w'=>e=.returned (.int .i64 ((ds.getD k z0q).F))∧_ at c
     clear M N O T hA;by_cases hF:(ds.getD k z0q).F=0
     ·have Y:Hid (∀j,j<k+1→(ds.getD j z0q).F=0):=by
       intro j hj;by_cases ab:j=k
       ·subst ab;exact hF
       ·exact HA.out j (by omega)
      rw[hF]at c;clear HA hF
      go_wp2_with (go_at_call 142;refine c.mono ?_;rintro e w' ⟨rfl,rfl⟩)
      go_round
      case rel=>exact⟨k+1,by omega,by go_num,Y⟩
      case measure=>simp[intOf];omega
     ·have E2:Hid (E=(ds.getD k z0q).F):=by
       have e1:=z4P ds k HA.out s hF;have e2:=HB.out;rw[e1,if_neg hF]at e2;exact e2
      have G:((ds.getD k z0q).F !=0)=true:=by simpa using hF
      clear HA hF HB;generalize (ds.getD k z0q).F=r at c E2 G
      go_wp2_with (go_at_call 142;refine c.mono ?_;rintro e w' ⟨rfl,rfl⟩)
      go_ret;rw[E2.out];exact⟨rfl,Below.refl _ _⟩
    ·have D:k=ds.length:=by omega
     subst D;have E3:Hid (E=if(ds.map TxnD.id).Nodup then 0 else 6):=by
      have e2:=HB.out;rw[if_pos (z5P ds HA.out)]at e2;exact e2
     clear HA HB;have C:=z4c _ ds w h (by omega)
     go_wp2_with fail
     refine C.mono ?_;rintro e w1 ⟨ib,ic,rfl,ho,A⟩;have hR:=Row.own ho;have ae:=z6T ho;have ag:(ds.map TxnD.id).length≤4:=by simpa using V
     clear C ho;generalize ds.map TxnD.id=L at*
     go_wp2
     go_loopw[6] (fun j wr=>∃k:Nat,k≤L.length∧j=.int .i64 k∧Hid ((L.take k).Nodup)∧Below w1.heap.size w1 wr) (fun j _=>L.length-(intOf j).toNat)
     case atStart=>exact⟨0,Nat.zero_le _,rfl,show List.Nodup _ by simp,Below.refl _ _⟩
     case round=>
      obtain⟨k,hk,rfl,HA,hb⟩:=hrel;by_cases s:k<L.length
      ·obtain⟨b,y,rfl,Z,hc⟩:=(hR.below hb) k s;have J:(L.take k).length=k:=by simp;omega
       have hT:=(hR.below hb).take6 k;have HY:Hid (L.getD k 0∈L.take k→E=6):=fun hx=>by rw[E3.out,if_neg (z74 s hx)]
       have HN:Hid (L.getD k 0∉L.take k→(L.take (k+1)).Nodup):=fun hx=>z7m HA.out s hx
       have d:=fun w h=>z27 (some ⟨b,y,none⟩) ic (L.take k) (L.getD k 0) w h (by omega)
       rw[J]at d;clear HA J;have hI:L.getD k 0∈L.take k∨L.getD k 0∉L.take k:=Classical.em _;have HI:Hid ((L.getD k 0∈L.take k∧0≤idxI (L.take k) (L.getD k 0))∨(L.getD k 0∉L.take k∧idxI (L.take k) (L.getD k 0)=-1)):=hI.elim (fun h=>Or.inl ⟨h,z73 h⟩) (fun h=>Or.inr ⟨h,z6S h⟩);clear hI;generalize L.getD k 0=z at*;generalize idxI (L.take k) z=q at*;have k0:=z0a hc;clear hc;have hW:Below wr.heap.size wr wr.drew:=(Below.refl _ _).drew;have G:Nonempty (Lat wr):=⟨⟨wr,Below.refl _ _⟩⟩
       have ad:(k:Int)≤(ic:Int):=by omega
       go_wp2_with fail
       refine z0b (S:=fun w'=>∃u:Lat wr,w'=u.val) (by kernel_rfl) ?_;refine sgr [(0,2)] 7 (by kernel_rfl) ⟨⟨_,hW⟩,rfl⟩ ?_;simp only[pkE];repeat go_big_quiet_step (fail)
       refine wpQuiet_nil ?_;have X:=q1z b y L.length ic k (by omega);refine qta 2 (some 38) (.slice (some ⟨b,y,none⟩) k ic) 6 (by kernel_rfl) (fun u _=>?_) ⟨⟨_,hW⟩,rfl⟩ ?_
       ·show some (((Instr.sliceAt 47 (.slice (some ⟨b,y,none⟩) L.length ic) none (some (.int .i64 (k:Int))) none)>>=fun x=>pure (Next.value x):Sem Next).run Tryz.prog u)=_;rw[Sem.run_bind,X u];rfl
       clear X;simp only[Act.put,pjE];refine sgr [(3,4)] 2 (by kernel_rfl) ⟨⟨_,hW⟩,rfl⟩ ?_;simp only[pkE];repeat go_big_quiet_step (fail)
       refine wpQuiet_nil ?_;refine cla 7 (some 43) 169 #[.slice (some ⟨b,y,none⟩) k ic,.int .i64 z] 1 (by kernel_rfl) ?_;refine(d _ (hT.below hW)).mono ?_;rintro e w2 ⟨rfl,I⟩;replace I:=I.symm;subst I;refine⟨_,rfl,⟨⟨_,hW⟩,rfl⟩,?_⟩;simp only[Act.put,pjE];refine sgr [(8,1)] 0 (by kernel_rfl) ⟨⟨_,hW⟩,rfl⟩ ?_;simp only[pkE];repeat go_big_quiet_step (fail)
       refine wpQuiet_nil ?_;refine z0e (by kernel_rfl) ?_;replace hb:=hb.trans (hW.mono hb.size);clear k0 hW G d hT ad;generalize wr.drew=wd at*;by_cases hq:0≤q
       ·have E5:Hid (E=6):=by
         rcases HI.out with h|h
         ·exact HY.out h.1
         ·omega
        clear HI HY HN E3
        go_wp2
        go_ret;exact⟨by rw[E5.out];rfl,A.trans (hb.mono A.size)⟩
       ·have R:Hid ((L.take (k+1)).Nodup):=by
         rcases HI.out with h|h
         ·omega
         ·exact HN.out h.1
        clear HI HY HN
        go_wp2
        go_roundw
        case rel=>exact⟨k+1,by omega,by go_num,R,hb⟩
        case measure=>simp[intOf];omega
      ·have D:k=L.length:=by omega
       subst D;rw[List.take_length]at HA;have E4:Hid (E=0):=by
        have:=E3.out;rw[if_pos HA.out]at this;exact this
       clear HA E3
       go_wp2
       go_ret;exact⟨by rw[E4.out];rfl,A.trans (hb.mono A.size)⟩
section
open Go.Sort Go.Shelf
def z7n:Go.Shelf.Ren:=⟨fun|5=>212|8=>227|7=>226|19=>242|20=>243|10=>233|11=>234|12=>235|13=>236|14=>237|15=>238|16=>239|17=>240|18=>241|30=>248|31=>249|32=>250|33=>251|34=>252|35=>253|40=>256|n=>n,fun|23=>47|25=>2|3=>3|32=>269|22=>47|0=>0|44=>309|46=>298|4=>4|36=>302|35=>301|41=>306|5=>5|9=>9|53=>317|57=>321|63=>325|64=>326|n=>n,fun|n=>n⟩
theorem q0R:Go.Proofs.SlLaysM.n5 Tryz.prog z7n:={
 mixed:=by kernel_rfl,
 f5:=⟨Tryz.f212.name,by decide,Tryz.func212.trans (congrArg some (by kernel_rfl))⟩,
 f7:=⟨Tryz.f226.name,by decide,Tryz.func226.trans (congrArg some (by kernel_rfl))⟩,
 f8:=Tryz.func227.trans (congrArg some (by kernel_rfl)),
 f10:=⟨Tryz.f233.name,by decide,Tryz.func233.trans (congrArg some (by kernel_rfl))⟩,
 f11:=⟨Tryz.f234.name,by decide,Tryz.func234.trans (congrArg some (by kernel_rfl))⟩,
 f12:=⟨Tryz.f235.name,by decide,Tryz.func235.trans (congrArg some (by kernel_rfl))⟩,
 f13:=⟨Tryz.f236.name,by decide,Tryz.func236.trans (congrArg some (by kernel_rfl))⟩,
 f14:=⟨Tryz.f237.name,by decide,Tryz.func237.trans (congrArg some (by kernel_rfl))⟩,
 f15:=⟨Tryz.f238.name,by decide,Tryz.func238.trans (congrArg some (by kernel_rfl))⟩,
 f16:=⟨Tryz.f239.name,by decide,Tryz.func239.trans (congrArg some (by kernel_rfl))⟩,
 f17:=⟨Tryz.f240.name,by decide,Tryz.func240.trans (congrArg some (by kernel_rfl))⟩,
 f18:=⟨Tryz.f241.name,by decide,Tryz.func241.trans (congrArg some (by kernel_rfl))⟩,
 f19:=Tryz.func242.trans (congrArg some (by kernel_rfl)),
 f20:=Tryz.func243.trans (congrArg some (by kernel_rfl)),
 f30:=⟨Tryz.f248.name,by decide,Tryz.func248.trans (congrArg some (by kernel_rfl))⟩,
 f31:=Tryz.func249.trans (congrArg some (by kernel_rfl)),
 f32:=Tryz.func250.trans (congrArg some (by kernel_rfl)),
 f33:=⟨Tryz.f251.name,by decide,Tryz.func251.trans (congrArg some (by kernel_rfl))⟩,
 f34:=⟨Tryz.f252.name,by decide,Tryz.func252.trans (congrArg some (by kernel_rfl))⟩,
 f35:=⟨Tryz.f253.name,by decide,Tryz.func253.trans (congrArg some (by kernel_rfl))⟩,
 f40:=⟨Tryz.f256.name,by decide,Tryz.func256.trans (congrArg some (by kernel_rfl))⟩,
 t0:=Tryz.underlying0,
 a0:=Tryz.isAgg0,
 z0:=Tryz.sizeOf0,
 v0:=Tryz.zeroValue0,
 t3:=Tryz.underlying3,
 a3:=Tryz.isAgg3,
 z3:=Tryz.sizeOf3,
 v3:=Tryz.zeroValue3,
 t4:=Tryz.underlying4,
 a4:=Tryz.isAgg4,
 z4:=Tryz.sizeOf4,
 v4:=Tryz.zeroValue4,
 t5:=Tryz.underlying5,
 a5:=Tryz.isAgg5,
 z5:=Tryz.sizeOf5,
 v5:=Tryz.zeroValue5,
 t9:=Tryz.underlying9,
 a9:=Tryz.isAgg9,
 z9:=Tryz.sizeOf9,
 v9:=Tryz.zeroValue9,
 t22:=Tryz.underlying47,
 a22:=Tryz.isAgg47,
 z22:=Tryz.sizeOf47,
 v22:=Tryz.zeroValue47,
 t23:=Tryz.underlying47,
 a23:=Tryz.isAgg47,
 z23:=Tryz.sizeOf47,
 v23:=Tryz.zeroValue47,
 t25:=Tryz.underlying2,
 a25:=Tryz.isAgg2,
 z25:=Tryz.sizeOf2,
 v25:=Tryz.zeroValue2,
 t32:=Tryz.underlying269,
 a32:=Tryz.isAgg269,
 z32:=Tryz.sizeOf269,
 v32:=Tryz.zeroValue269,
 t35:=Tryz.underlying301,
 a35:=Tryz.isAgg301,
 z35:=Tryz.sizeOf301,
 v35:=Tryz.zeroValue301,
 t36:=Tryz.underlying302,
 a36:=Tryz.isAgg302,
 z36:=Tryz.sizeOf302,
 v36:=Tryz.zeroValue302,
 t41:=Tryz.underlying306,
 a41:=Tryz.isAgg306,
 z41:=Tryz.sizeOf306,
 v41:=Tryz.zeroValue306,
 t44:=Tryz.underlying309,
 a44:=Tryz.isAgg309,
 z44:=Tryz.sizeOf309,
 v44:=Tryz.zeroValue309,
 t46:=Tryz.underlying298,
 a46:=Tryz.isAgg298,
 z46:=Tryz.sizeOf298,
 v46:=Tryz.zeroValue298,
 t53:=Tryz.underlying317,
 a53:=Tryz.isAgg317,
 z53:=Tryz.sizeOf317,
 v53:=Tryz.zeroValue317,
 t57:=Tryz.underlying321,
 a57:=Tryz.isAgg321,
 z57:=Tryz.sizeOf321,
 v57:=Tryz.zeroValue321,
 t63:=Tryz.underlying325,
 a63:=Tryz.isAgg325,
 z63:=Tryz.sizeOf325,
 v63:=Tryz.zeroValue325,
 t64:=Tryz.underlying326,
 a64:=Tryz.isAgg326,
 z64:=Tryz.sizeOf326,
 v64:=Tryz.zeroValue326 }
def z7o:Go.Shelf.Ren:=⟨fun|43=>214|n=>n,fun|22=>47|23=>2|3=>3|4=>4|0=>0|n=>n,fun|n=>n⟩
theorem q0S:Go.Proofs.SlLaysN.n43 Tryz.prog z7o:={
 mixed:=by kernel_rfl,
 f43:=⟨Tryz.f214.name,by decide,Tryz.func214.trans (congrArg some (by kernel_rfl))⟩,
 t0:=Tryz.underlying0,
 a0:=Tryz.isAgg0,
 z0:=Tryz.sizeOf0,
 v0:=Tryz.zeroValue0,
 t3:=Tryz.underlying3,
 a3:=Tryz.isAgg3,
 z3:=Tryz.sizeOf3,
 v3:=Tryz.zeroValue3,
 t4:=Tryz.underlying4,
 a4:=Tryz.isAgg4,
 z4:=Tryz.sizeOf4,
 v4:=Tryz.zeroValue4,
 t22:=Tryz.underlying47,
 a22:=Tryz.isAgg47,
 z22:=Tryz.sizeOf47,
 v22:=Tryz.zeroValue47,
 t23:=Tryz.underlying2,
 a23:=Tryz.isAgg2,
 z23:=Tryz.sizeOf2,
 v23:=Tryz.zeroValue2,
 i23:=by kernel_rfl }
end
section
open Go.Sort
theorem z3B:∀ (L:List Int),L.Pairwise (· ≤ ·)→(∀j,j+1<L.length→L.getD (j+1) 0≠L.getD j 0)→L.Nodup
 |[],_,_=>List.nodup_nil
 |[a],_,_=>by simp
 |a::b::t,hs,hadj=>by
  rw[List.pairwise_cons]at hs;have hab:a≠b:=fun e=>hadj 0 (by simp) (by simpa using e.symm)
  have ih:=z3B (b::t) hs.2 (fun j hj=>by simpa using hadj (j+1) (by simpa using hj));rw[List.nodup_cons];refine⟨fun hm=>?_,ih⟩;have h1:=hs.1 b (by simp);rcases List.mem_cons.1 hm with h|h
  ·exact hab h
  ·have h2:=(List.pairwise_cons.1 hs.2).1 a h;omega
theorem q0D(L:List Int)(j:Nat):L.toArray[j]! =L.getD j 0:=by
 rw[List.getElem!_toArray];by_cases h:j<L.length
 ·rw[getElem!_pos L j h];simp[List.getD,h]
 ·rw[getElem!_neg L j h];simp[List.getD,List.getElem?_eq_none (show L.length≤j by omega)]
theorem z6m(L:List Int)(hs:L.Pairwise (· ≤ ·)):(L.Nodup→(Lib.compact L).length=L.length)∧(¬L.Nodup→(Lib.compact L).length<L.length):=by
 constructor
 ·intro h;rw[Lib.compact_all];intro j hj;unfold Lib.keeps;rw[decide_eq_true_eq,q0D,q0D];by_cases h0:j=0
  ·exact Or.inl h0
  ·right;intro e;have e1:L.getD j 0=L[j]:=by simp[List.getD,hj]
   have e2:L.getD (j-1) 0=L[j-1]'(by omega):=by simp[List.getD,show j-1<L.length by omega]
   rw[e1,e2]at e;exact List.pairwise_iff_getElem.1 h (j-1) j (by omega) hj (by omega) e.symm
 ·intro h;have hex:∃j,j+1<L.length∧L.getD (j+1) 0=L.getD j 0:=by
   apply Classical.byContradiction;intro hn;exact h (z3B L hs (fun j hj e=>hn ⟨j,hj,e⟩))
  obtain⟨j,hj,e⟩:=hex;unfold Lib.compact Lib.compactUpTo;rw[List.length_map];have:=(List.length_filter_lt_length_iff_exists (p:=Lib.keeps L.toArray) (l:=List.range L.length)).2 ⟨j + 1,List.mem_range.2 hj,by
   unfold Lib.keeps;rw[decide_eq_true_eq,q0D,q0D];rintro(h|h)
   ·omega
   ·exact h (by simpa using e)⟩
  rwa [List.length_range]at this
theorem z75{w w':World}{base g n cap q:Nat}{zs ys:List Int}{os:Array Obj}(h:w.ownsRow base 2 1 (.slice (some ⟨g,0,none⟩) n cap) n (zs.map (Value.int .i64)))(hl:ys.length=n)
  (hw:w'=grow (putRow (Value.int .i64) (Sort.ahead w q) g 0 ys.toArray) os):w'.ownsRow base 2 1 (.slice (some ⟨g,0,none⟩) n cap) n (ys.map (Value.int .i64))∧Out [g] w w':=by
 rcases h.2 with⟨he,hn⟩|⟨g',cap',cur,he,hb,hh,h1,h2,h3,h4⟩
 ·simp at he
 ·simp only[Value.slice.injEq,Option.some.injEq,Addr.mk.injEq,and_true,true_and]at he;obtain⟨rfl,rfl⟩:=he;have hlt:g<w.heap.size:=(Array.getElem?_eq_some_iff.1 hh).1;have hsz:(putRow (Value.int .i64) (Sort.ahead w q) g 0 ys.toArray).heap.size=w.heap.size:=by simp
  have hblk:∀k,k<w.heap.size→w'.heap[k]?=(putRow (Value.int .i64) (Sort.ahead w q) g 0 ys.toArray).heap[k]?:=fun k hk=>by
   rw[hw];exact Array.getElem?_append_left (by rw[hsz];exact hk)
  have hg:w'.heap[g]?=some (.cells (putCells (Value.int .i64) 0 ys.toArray cur) 2 (0,0)):=by
   rw[hblk g hlt];show(w.heap.modify g _)[g]?=_;rw[Array.getElem?_modify,if_pos rfl,hh];rfl
  have hcs:(putCells (Value.int .i64) 0 ys.toArray cur).size=cur.size:=by simp[putCells]
  refine⟨⟨by simp[hl],Or.inr ⟨g,cap,_,rfl,hb,hg,h1,h2,by rw[hcs];exact h3,?_⟩⟩,?_⟩
  ·apply List.ext_getElem?;intro j;by_cases hj:j<n
   ·rw[List.getElem?_take,if_pos (by omega),Array.getElem?_toList];simp only[putCells,Array.getElem?_mapIdx];rw[Array.getElem?_eq_getElem (by omega),Option.map_some,if_pos ⟨Nat.zero_le _,by rw[List.size_toArray];omega⟩];simp only[Nat.sub_zero];rw[q0D,List.getElem?_map,List.getElem?_eq_getElem (by omega)];simp[List.getD,show j<ys.length by omega]
   ·rw[List.getElem?_eq_none (by simp;omega),List.getElem?_eq_none (by simp;omega)]
  ·refine⟨by rw[hw];rfl,by rw[hw];rfl,by rw[hw];rfl,?_,fun k hk hn=>?_⟩
   ·rw[hw];show w.heap.size≤(_++os).size;rw[Array.size_append,hsz];omega
   ·rw[hblk k hk];show(w.heap.modify g _)[k]?=_;rw[Array.getElem?_modify,if_neg (fun e=>hn (by simp[e]))]
theorem z5S{w:World}{base g n cap:Nat}{zs:List Int}(h:w.ownsRow base 2 1 (.slice (some ⟨g,0,none⟩) n cap) n (zs.map (Value.int .i64))):Holds (Value.int .i64) w g 0 zs.toArray∧g<w.heap.size∧n≤cap:=by
 have hl:zs.length=n:=by have:=h.1;simpa using this
 refine⟨fun j hj=>?_,?_,z6T h⟩
 ·rw[List.size_toArray]at hj;refine⟨?_,h.frozenAt _⟩;rw[Nat.zero_add,h.cellAt j (by omega),q0D];simp[List.getD,hj]
 ·exact(h.lt g rfl).2
theorem z76(g cap base:Nat)(zs:List Int)(w:World)(h:w.ownsRow base 2 1 (.slice (some ⟨g,0,none⟩) zs.length cap) zs.length (zs.map (Value.int .i64)))(hl:zs.length≤60):
  Calls Tryz.prog 212 #[.slice (some ⟨g,0,none⟩) zs.length cap] w fun e w'=>e=.returned (.tuple #[])∧∃ys:List Int,ys.Perm zs∧ys.Pairwise (· ≤ ·)∧w'.ownsRow base 2 1 (.slice (some ⟨g,0,none⟩) zs.length cap) zs.length (ys.map (Value.int .i64))∧Out [g] w w':=by
 obtain⟨hH,hlt,hc⟩:=z5S h;refine(AnyM.slices_Sort_int q0R g 0 cap zs w hH hlt (by omega)).mono ?_;rintro e w' ⟨rfl,q,os,hw⟩;obtain⟨o,u⟩:=z75 h (by rw[List.length_mergeSort]) hw;refine⟨rfl,_,List.mergeSort_perm _ _,?_,o,u⟩;have:=List.pairwise_mergeSort (le:=fun(x y:Int)=>decide (x≤y)) (fun a b c h1 h2=>by simp only[decide_eq_true_eq]at*;omega) (fun a b=>by simp only[Bool.or_eq_true,decide_eq_true_eq];omega) zs;exact this.imp (fun h=>by simpa using h)
theorem z5T(g cap base:Nat)(zs:List Int)(w:World)(h:w.ownsRow base 2 1 (.slice (some ⟨g,0,none⟩) zs.length cap) zs.length (zs.map (Value.int .i64)))(hl:zs.length≤60):
  Calls Tryz.prog 214 #[.slice (some ⟨g,0,none⟩) zs.length cap] w fun e w'=>e=.returned (.slice (some ⟨g,0,none⟩) (Lib.compact zs).length cap)∧Out [g] w w':=by
 obtain⟨hH,hlt,hc⟩:=z5S h;refine(calls_of_every_depth fun D=>AnySG.slices_Compact_int_in q0S D g 0 cap zs w hH (by omega) hc).mono ?_;rintro e w' ⟨rfl,q,hw⟩;have hle:(Lib.compact zs).length≤zs.length:=by
  unfold Lib.compact Lib.compactUpTo;rw[List.length_map];exact Nat.le_trans (List.length_filter_le _ _) (by simp)
 exact⟨rfl,(z75 (ys:=Lib.compact zs++List.replicate (zs.length-(Lib.compact zs).length) 0) (os:=#[]) h (by simp only[List.length_append,List.length_replicate];omega) (by rw[hw,grow_empty])).2⟩
theorem z4H(v:Value)(ds:List TxnD)(w:World)(h:TxnsAt w v ds)(hl:ds.length+z4G ds≤1048576):
  Calls Tryz.prog 195 #[v] w fun e w'=>e=.returned (.int .i64 (batF ds))∧Below w.heap.size w w':=by
 have q:=z49 v ds w h hl;obtain⟨a,cap,rfl⟩:=h.shape;by_cases O:ds.length<1
 ·rw[z2L (Or.inl O)];clear q;go_enter Tryz.func195,Tryz.ntmps195
  go_wp2
  go_ret;exact⟨rfl,Below.refl _ _⟩
 ·by_cases M:4<ds.length
  ·rw[z2L (Or.inr M)];clear q;go_enter Tryz.func195,Tryz.ntmps195
   go_wp2
   go_ret;exact⟨rfl,Below.refl _ _⟩
  ·have HB:Hid (batF ds=if allF ds=0 then(if(ds.map TxnD.id).Nodup then 0 else 6)else allF ds):=z6U (by omega);generalize batF ds=E at HB⊢;have hC:z94 ds=allF ds:=if_neg (by omega);have Y:1≤ds.length:=by omega
   have N:ds.length≤4:=by omega
   clear O M;rw[hC]at q;have hR:allF ds=0→idsR ds=ds.map TxnD.id:=fun h0=>by
    unfold idsR;rw[if_pos (by rw[hC];exact h0)]
   have ab:(idsR ds).length≤4:=Nat.le_trans (z95 ds) N;have x:Hid (allF ds=0→(idsR ds).length=ds.length∧(E=if(idsR ds).Nodup then 0 else 6)):=fun h0=>by
    rw[hR h0];refine⟨by simp,?_⟩;have:=HB.out;rw[if_pos h0]at this;exact this
   have y:Hid (allF ds≠0→E=allF ds):=fun h0=>by
    have:=HB.out;rw[if_neg h0]at this;exact this
   clear HB hR hC;generalize idsR ds=L at*;generalize allF ds=C at*;go_enter Tryz.func195,Tryz.ntmps195
   go_wp2_with fail
   refine q.mono ?_;rintro e w1 ⟨b,c,rfl,ho,z⟩;clear q;have B:=Blk.new w1 126 #[.int .i64 C,.slice b L.length c];have s:=z.alloc z.size (.cells #[.int .i64 C,.slice b L.length c] 126);by_cases h0:C=0
   ·subst h0;obtain⟨I,hE⟩:=x.out rfl;have HE:Hid (E=if L.Nodup then 0 else 6):=hE;have HL:Hid (L.length=ds.length):=I;have U:=z0n ho ((Below.refl w1.heap.size w1).alloc (Nat.le_refl _) (.cells #[.int .i64 0,.slice b L.length c] 126));obtain⟨g,hg⟩:∃g,b=some ⟨g,0,none⟩:=by
     rcases ho.2 with⟨_,hn⟩|⟨g,_,_,he,_⟩
     ·omega
     ·simp only[Value.slice.injEq]at he;exact⟨g,he.1⟩
    subst hg;have ad:=ho.lt g rfl;have V:=z76 g c _ L _ U (by omega);clear x y hE I ho U
    go_wp2_with fail
    generalize w1.alloc (.cells #[.int .i64 0,.slice (some ⟨g,0,none⟩) L.length c] 126)=W at*;refine V.mono ?_;rintro e w3 ⟨rfl,ys,d,r,o3,u3⟩;have G:ys.length=L.length:=d.length_eq;have HC:Hid (((Lib.compact ys).length<L.length→E=6)∧(¬(Lib.compact ys).length<L.length→E=0)):=by
     obtain⟨c1,c2⟩:=z6m ys r;have T:=d.nodup_iff;refine⟨fun hx=>?_,fun hx=>?_⟩
     ·have hn:¬ys.Nodup:=fun hn=>by have:=c1 hn;omega
      rw[HE.out,if_neg (fun e=>hn (T.2 e))]
     ·have hn:ys.Nodup:=Classical.byContradiction (fun hn=>hx (by have:=c2 hn;omega));rw[HE.out,if_pos (T.1 hn)]
    have D:=z5T g c _ ys w3 (by rw[G];exact o3) (by omega);rw[G]at D;have X:w1.heap.size≠g:=by omega
    have B3:Blk w3 w1.heap.size 126 #[.int .i64 0,.slice (some ⟨g,0,none⟩) L.length c]:=(u3.block _ B.lt (by simp only[List.mem_singleton];exact X)).trans B;have A:Below w.heap.size w w3:=Out.keep s u3 s.size (fun k hk=>by simp only[List.mem_singleton]at hk;omega);have p1:=B3.cell 1 _ rfl;generalize (Lib.compact ys).length=m at*;clear V HE o3 u3 B d r G z s
    go_wp2_with fail
    refine D.mono ?_;rintro e w4 ⟨rfl,u4⟩;have J:Below w.heap.size w w4:=Out.keep A u4 A.size (fun k hk=>by simp only[List.mem_singleton]at hk;omega);clear D u4 B3 A p1;have aa:=HL.out;by_cases hm:m<ds.length
    ·have E2:Hid (E=6):=HC.out.1 (by omega);clear HC
     go_wp2
     go_ret;exact⟨by rw[E2.out];rfl,J⟩
    ·have E2:Hid (E=0):=HC.out.2 (by omega);clear HC
     go_wp2
     go_ret;exact⟨by rw[E2.out];rfl,J⟩
   ·have E2:Hid (E=C):=y.out h0;have Z:(C !=0)=true:=by simpa using h0
    clear x y h0 ho
    go_wp2
    go_ret;exact⟨by rw[E2.out];rfl,s⟩
end
structure InstP (w:World) (b o:Nat) (p:InstQ):Prop where
 box:Box4 w b o (.bool p.has) p.vb p.vr p.vd
 rd:instK.rd w p
theorem InstP.below{w w':World}{b o:Nat}{p:InstQ}(h:InstP w b o p)(hb:Below w.heap.size w w'):InstP w' b o p:=⟨h.box.below hb,instK.rd_below h.rd hb⟩
theorem InstP.batch{w:World}{b o:Nat}{p:InstQ}(h:InstP w b o p):txnK.At w p.vb p.batch:=h.rd.1
theorem InstP.rounds{w:World}{b o:Nat}{p:InstQ}(h:InstP w b o p):roundK.At w p.vr p.rounds:=h.rd.2.1
theorem InstP.dec{w:World}{b o:Nat}{p:InstQ}(h:InstP w b o p):intK.At w p.vd p.dec:=h.rd.2.2
theorem z0X(rs:List RoundQ)(r:Nat)(hr:r<rs.length):(rs.map RoundQ.e).getD r rnd0=RoundQ.e rs[r]:=by simp[List.getD,hr]
theorem z6V(rs:List RoundQ)(r:Nat)(hr:r<rs.length):rs[r].rep.length+rs[r].pro.length≤nmL RoundQ.n rs:=z2J RoundQ.n rs r hr
theorem z1U(ds:List RoundE):∀k,(∀j,j<k→vf (ds.getD j rnd0).rep 1=0∧vf (ds.getD j rnd0).pro 2=0)→k<ds.length→(vf (ds.getD k rnd0).rep 1≠0→z0K ds=vf (ds.getD k rnd0).rep 1)∧(vf (ds.getD k rnd0).rep 1=0→vf (ds.getD k rnd0).pro 2≠0→z0K ds=vf (ds.getD k rnd0).pro 2):=by
 induction ds with
 |nil=>intro k _ h;simp at h
 |cons x r ih=>
  intro k h0 hk
  cases k with
  |zero=>
   simp only[List.getD_cons_zero];unfold z0K;exact⟨fun h=>by rw[if_neg h],fun h h2=>by rw[if_pos h,if_neg h2]⟩
  |succ k=>
   have hx:=h0 0 (by omega);simp only[List.getD_cons_zero]at hx;have:=ih k (fun j hj=>by simpa using h0 (j+1) (by omega)) (by simpa using hk);simp only[List.getD_cons_succ];rw[show z0K (x::r)=z0K r by rw[z0K,if_pos hx.1,if_pos hx.2]];exact this
theorem z2i(ds:List RoundE)(h:∀j,j<ds.length→vf (ds.getD j rnd0).rep 1=0∧vf (ds.getD j rnd0).pro 2=0):z0K ds=0:=by
 induction ds with
 |nil=>rfl
 |cons x r ih=>
  have hx:=h 0 (by simp);simp only[List.getD_cons_zero]at hx;rw[z0K,if_pos hx.1,if_pos hx.2];exact ih (fun j hj=>by simpa using h (j+1) (by simpa using hj))
theorem z6n(b o:Nat)(p:InstQ)(w:World)(hP:InstP w b o p)(hl:p.n≤1048576):
  Calls Tryz.prog 108 #[.pointer (some ⟨b,o,none⟩)] w fun e w'=>e=.returned (.int .i64 (shpF p.e))∧Below w.heap.size w w':=by
 have hB:Below w.heap.size w w:=Below.refl _ _;obtain⟨has,vb,s,vr,d,vd,dec⟩:=p;dsimp only[InstQ.n]at hl;have HE:Hid (shpF (InstQ.e ⟨has,vb,s,vr,d,vd,dec⟩)=if has=false∧0 < (s.map TxnQ.e).length then 1 else
  if has=true∧batF (s.map TxnQ.e)≠0 then batF (s.map TxnQ.e)else
  if(d.map RoundQ.e).length<1∨4<(d.map RoundQ.e).length then 2 else
  if z0K (d.map RoundQ.e)=0 then vf dec 1 else z0K (d.map RoundQ.e)):=by
  exact(rfl:shpF _=_)
 generalize shpF (InstQ.e ⟨has,vb,s,vr,d,vd,dec⟩)=E at HE⊢;have hv:=z4e vb (s.map TxnQ.e) w (z2a hP.batch) (by rw[List.length_map,z6l];omega);have ak:∃a c,vb=.slice a s.length c:=hP.batch.shape;have al:∃a c,vr=.slice a d.length c:=hP.rounds.shape;have an:∃a c,vd=.slice a dec.length c:=hP.dec.shape;obtain⟨ba,bk,rfl⟩:=ak;obtain⟨va,vk,rfl⟩:=al
 cases has with
 |false=>
  by_cases h0:0<s.length
  ·have E1:Hid (E=1):=by rw[HE.out,if_pos ⟨rfl,by simpa using h0⟩];rfl
   obtain⟨c0,c1,c2,c3⟩:=hP.box;dsimp only at c0 c1 c2 c3;clear HE hv;go_enter Tryz.func108,Tryz.ntmps108
   go_wp2
   go_ret;exact⟨by rw[E1.out];rfl,hB⟩
  ·have HS:Hid (E=if(d.map RoundQ.e).length<1∨4<(d.map RoundQ.e).length then 2 else if z0K (d.map RoundQ.e)=0 then vf dec 1 else z0K (d.map RoundQ.e)):=by
    have:=HE.out;rw[if_neg (fun h=>h0 (by simpa using h.2)),if_neg (by simp)]at this;exact this
   clear HE;obtain⟨c0,c1,c2,c3⟩:=hP.box;dsimp only at c0 c1 c2 c3;have am:¬(0:Int)<s.length:=by omega
   go_enter Tryz.func108,Tryz.ntmps108;clear c0 c1 c2 c3;by_cases W:d.length<1
   ·have E2:Hid (E=2):=by rw[HS.out,if_pos (Or.inl (by simpa using W))];rfl
    obtain⟨c0,c1,c2,c3⟩:=hP.box;dsimp only at c0 c1 c2 c3;clear HS hv
    go_wp2
    go_ret;exact⟨by rw[E2.out];rfl,hB⟩
   ·by_cases X:4<d.length
    ·have E2:Hid (E=2):=by rw[HS.out,if_pos (Or.inr (by simpa using X))];rfl
     obtain⟨c0,c1,c2,c3⟩:=hP.box;dsimp only at c0 c1 c2 c3;clear HS hv
     go_wp2
     go_ret;exact⟨by rw[E2.out];rfl,hB⟩
    ·have L:Hid (E=if z0K (d.map RoundQ.e)=0 then vf dec 1 else z0K (d.map RoundQ.e)):=by
      have:=HS.out;rw[if_neg (by simp only[List.length_map];omega)]at this;exact this
     have af:¬(d.length:Int)<1:=by omega
     have ag:¬(4:Int)<d.length:=by omega
     clear HS W X;obtain⟨c0,c1,c2,c3⟩:=hP.box;dsimp only at c0 c1 c2 c3
     go_wp2
     clear c0 c1 c2 c3;go_loopw[4] (fun j wr=>∃k:Nat,k≤d.length∧j=.int .i64 k∧Hid (∀j,j<k→vf ((d.map RoundQ.e).getD j rnd0).rep 1=0∧vf ((d.map RoundQ.e).getD j rnd0).pro 2=0)∧Below w.heap.size w wr) (fun j _=>d.length-(intOf j).toNat)
     case atStart=>exact⟨0,Nat.zero_le _,rfl,fun j hj=>absurd hj (Nat.not_lt_zero _),Below.refl _ _⟩
     case round=>
      obtain⟨k,hk,rfl,HA,hb⟩:=hrel;have D:=hP.below hb;have C:=hB.trans (hb.mono hB.size);obtain⟨c0,c1,c2,c3⟩:=D.box;dsimp only at c0 c1 c2 c3;by_cases I:k<d.length
      ·obtain⟨rb,ro,rfl,ai,hc,ad⟩:=D.rounds.cell (by decide) k I;have U:∀j x,(roundK.cells d[k])[j]?=some x→wr.cell? ⟨rb,ro+k*2+j,none⟩=some x:=hc;have r0:=U 0 (d[k].vr) rfl;have r1:=U 1 (d[k].vp) rfl;have aj:=z6V d k I;have A:=z1U (d.map RoundQ.e) k HA.out (by simpa using I);rw[z0X d k I]at A;dsimp only[RoundQ.e]at A;have N:Hid (vf d[k].rep 1≠0→E=vf d[k].rep 1):=fun h=>by rw[L.out,A.1 h,if_neg h]
       have O:Hid (vf d[k].rep 1=0→vf d[k].pro 2≠0→E=vf d[k].pro 2):=fun h h2=>by rw[L.out,A.2 h h2,if_neg h2]
       have HN:Hid (vf d[k].rep 1=0→vf d[k].pro 2=0→∀j,j<k+1→vf ((d.map RoundQ.e).getD j rnd0).rep 1=0∧vf ((d.map RoundQ.e).getD j rnd0).pro 2=0):=by
        intro h1 h2 j hj;by_cases Z:j=k
        ·subst Z;rw[z0X d j I];exact⟨h1,h2⟩
        ·exact HA.out j (by omega)
       clear HA A hc U;generalize d[k]=q at*;obtain⟨qv,qr,qw,qp⟩:=q;obtain⟨rA,rP⟩:intK.At wr qv qr∧intK.At wr qw qp:=ad;dsimp only at*;obtain⟨ra,rk,rfl⟩:=rA.shape;obtain⟨pa,pk,rfl⟩:=rP.shape;have J:=z0W ra rk qr 1 wr (z0y rA).2 (by omega);rw[Nat.add_zero]at r0
       go_wp2_with fail
       refine J.mono ?_;rintro e w2 ⟨rfl,y⟩;have M:=D.below y;have z:=C.trans (y.mono C.size);have ab:=World.block_lt_of_cell? wr _ r1;replace r1:=(y.cell (p:=⟨rb,ro+k*2+1,none⟩) ab).trans r1;replace hb:=hb.trans (y.mono hb.size);have V:=z0W pa pk qp 2 w2 (z0y (rP.below y)).2 (by omega);clear J c0 c1 c2 c3 r0 y D C rA rP;obtain⟨c0,c1,c2,c3⟩:=M.box;dsimp only at c0 c1 c2 c3;by_cases h1:vf qr 1=0
       ·have HF:Hid (vf qp 2≠0→E=vf qp 2):=O.out h1;have HM:Hid (vf qp 2=0→_):=HN.out h1;rw[h1];clear N O HN h1
        go_wp2_with fail
        refine V.mono ?_;rintro e w3 ⟨rfl,T⟩;replace hb:=hb.trans (T.mono hb.size);replace z:=z.trans (T.mono z.size);clear V c0 c1 c2 c3 r1 T M;by_cases h2:vf qp 2=0
        ·have R:=HM.out h2;have HR:Hid _:=R;rw[h2];clear HF HM R h2
         go_wp2
         go_roundw
         case rel=>exact⟨k+1,by omega,by go_num,HR.out,hb⟩
         case measure=>simp[intOf];omega
        ·have E2:Hid (E=vf qp 2):=HF.out h2;have ah:(vf qp 2 !=0)=true:=by simpa using h2
         clear HF HM h2;generalize vf qp 2=r at*
         go_wp2
         go_ret;exact⟨by rw[E2.out];rfl,z⟩
       ·have E2:Hid (E=vf qr 1):=N.out h1;have ae:(vf qr 1 !=0)=true:=by simpa using h1
        clear N O HN h1 V;generalize vf qr 1=r at*
        go_wp2
        go_ret;exact⟨by rw[E2.out];rfl,z⟩
      ·have aa:k=d.length:=by omega
       subst aa;have E2:Hid (E=vf dec 1):=by
        have:=L.out;rw[if_pos (z2i _ (by simpa using HA.out))]at this;exact this
       have G:intK.At wr vd dec:=D.dec;obtain⟨da,dk,rfl⟩:=G.shape;have J:=z0W da dk dec 1 wr (z0y G).2 (by omega);clear HA L G
       go_wp2_with fail
       refine J.mono ?_;rintro e w2 ⟨rfl,y⟩;replace C:=C.trans (y.mono C.size);generalize vf dec 1=r at*;clear J c0 c1 c2 c3 y D
       go_wp2
       go_ret;exact⟨by rw[E2.out];rfl,C⟩
 |true=>
  obtain⟨c0,c1,c2,c3⟩:=hP.box;dsimp only at c0 c1 c2 c3;go_enter Tryz.func108,Tryz.ntmps108
  go_wp2_with fail
  refine hv.mono ?_;rintro e w1 ⟨rfl,Y⟩;replace hP:=hP.below Y;replace hB:=hB.trans (Y.mono hB.size);clear hv Y c0 c1 c2 c3;by_cases h1:batF (s.map TxnQ.e)=0
  ·have HS:Hid (E=if(d.map RoundQ.e).length<1∨4<(d.map RoundQ.e).length then 2 else if z0K (d.map RoundQ.e)=0 then vf dec 1 else z0K (d.map RoundQ.e)):=by
    have:=HE.out;rw[if_neg (by simp),if_neg (fun h=>h.2 h1)]at this;exact this
   rw[h1];clear HE h1;have hv:=True.intro;by_cases W:d.length<1
   ·have E2:Hid (E=2):=by rw[HS.out,if_pos (Or.inl (by simpa using W))];rfl
    obtain⟨c0,c1,c2,c3⟩:=hP.box;dsimp only at c0 c1 c2 c3;clear HS hv
    go_wp2
    go_ret;exact⟨by rw[E2.out];rfl,hB⟩
   ·by_cases X:4<d.length
    ·have E2:Hid (E=2):=by rw[HS.out,if_pos (Or.inr (by simpa using X))];rfl
     obtain⟨c0,c1,c2,c3⟩:=hP.box;dsimp only at c0 c1 c2 c3;clear HS hv
     go_wp2
     go_ret;exact⟨by rw[E2.out];rfl,hB⟩
    ·have L:Hid (E=if z0K (d.map RoundQ.e)=0 then vf dec 1 else z0K (d.map RoundQ.e)):=by
      have:=HS.out;rw[if_neg (by simp only[List.length_map];omega)]at this;exact this
     have af:¬(d.length:Int)<1:=by omega
     have ag:¬(4:Int)<d.length:=by omega
     clear HS W X;obtain⟨c0,c1,c2,c3⟩:=hP.box;dsimp only at c0 c1 c2 c3
     go_wp2
     clear c0 c1 c2 c3;go_loopw[4] (fun j wr=>∃k:Nat,k≤d.length∧j=.int .i64 k∧Hid (∀j,j<k→vf ((d.map RoundQ.e).getD j rnd0).rep 1=0∧vf ((d.map RoundQ.e).getD j rnd0).pro 2=0)∧Below w1.heap.size w1 wr) (fun j _=>d.length-(intOf j).toNat)
     case atStart=>exact⟨0,Nat.zero_le _,rfl,fun j hj=>absurd hj (Nat.not_lt_zero _),Below.refl _ _⟩
     case round=>
      obtain⟨k,hk,rfl,HA,hb⟩:=hrel;have D:=hP.below hb;have C:=hB.trans (hb.mono hB.size);obtain⟨c0,c1,c2,c3⟩:=D.box;dsimp only at c0 c1 c2 c3;by_cases I:k<d.length
      ·obtain⟨rb,ro,rfl,ai,hc,ad⟩:=D.rounds.cell (by decide) k I;have U:∀j x,(roundK.cells d[k])[j]?=some x→wr.cell? ⟨rb,ro+k*2+j,none⟩=some x:=hc;have r0:=U 0 (d[k].vr) rfl;have r1:=U 1 (d[k].vp) rfl;have aj:=z6V d k I;have A:=z1U (d.map RoundQ.e) k HA.out (by simpa using I);rw[z0X d k I]at A;dsimp only[RoundQ.e]at A;have N:Hid (vf d[k].rep 1≠0→E=vf d[k].rep 1):=fun h=>by rw[L.out,A.1 h,if_neg h]
       have O:Hid (vf d[k].rep 1=0→vf d[k].pro 2≠0→E=vf d[k].pro 2):=fun h h2=>by rw[L.out,A.2 h h2,if_neg h2]
       have HN:Hid (vf d[k].rep 1=0→vf d[k].pro 2=0→∀j,j<k+1→vf ((d.map RoundQ.e).getD j rnd0).rep 1=0∧vf ((d.map RoundQ.e).getD j rnd0).pro 2=0):=by
        intro h1 h2 j hj;by_cases Z:j=k
        ·subst Z;rw[z0X d j I];exact⟨h1,h2⟩
        ·exact HA.out j (by omega)
       clear HA A hc U;generalize d[k]=q at*;obtain⟨qv,qr,qw,qp⟩:=q;obtain⟨rA,rP⟩:intK.At wr qv qr∧intK.At wr qw qp:=ad;dsimp only at*;obtain⟨ra,rk,rfl⟩:=rA.shape;obtain⟨pa,pk,rfl⟩:=rP.shape;have J:=z0W ra rk qr 1 wr (z0y rA).2 (by omega);rw[Nat.add_zero]at r0
       go_wp2_with fail
       refine J.mono ?_;rintro e w2 ⟨rfl,y⟩;have M:=D.below y;have z:=C.trans (y.mono C.size);have ab:=World.block_lt_of_cell? wr _ r1;replace r1:=(y.cell (p:=⟨rb,ro+k*2+1,none⟩) ab).trans r1;replace hb:=hb.trans (y.mono hb.size);have V:=z0W pa pk qp 2 w2 (z0y (rP.below y)).2 (by omega);clear J c0 c1 c2 c3 r0 y D C rA rP;obtain⟨c0,c1,c2,c3⟩:=M.box;dsimp only at c0 c1 c2 c3;by_cases h1:vf qr 1=0
       ·have HF:Hid (vf qp 2≠0→E=vf qp 2):=O.out h1;have HM:Hid (vf qp 2=0→_):=HN.out h1;rw[h1];clear N O HN h1
        go_wp2_with fail
        refine V.mono ?_;rintro e w3 ⟨rfl,T⟩;replace hb:=hb.trans (T.mono hb.size);replace z:=z.trans (T.mono z.size);clear V c0 c1 c2 c3 r1 T M;by_cases h2:vf qp 2=0
        ·have R:=HM.out h2;have HR:Hid _:=R;rw[h2];clear HF HM R h2
         go_wp2
         go_roundw
         case rel=>exact⟨k+1,by omega,by go_num,HR.out,hb⟩
         case measure=>simp[intOf];omega
        ·have E2:Hid (E=vf qp 2):=HF.out h2;have ah:(vf qp 2 !=0)=true:=by simpa using h2
         clear HF HM h2;generalize vf qp 2=r at*
         go_wp2
         go_ret;exact⟨by rw[E2.out];rfl,z⟩
       ·have E2:Hid (E=vf qr 1):=N.out h1;have ae:(vf qr 1 !=0)=true:=by simpa using h1
        clear N O HN h1 V;generalize vf qr 1=r at*
        go_wp2
        go_ret;exact⟨by rw[E2.out];rfl,z⟩
      ·have aa:k=d.length:=by omega
       subst aa;have E2:Hid (E=vf dec 1):=by
        have:=L.out;rw[if_pos (z2i _ (by simpa using HA.out))]at this;exact this
       have G:intK.At wr vd dec:=D.dec;obtain⟨da,dk,rfl⟩:=G.shape;have J:=z0W da dk dec 1 wr (z0y G).2 (by omega);clear HA L G
       go_wp2_with fail
       refine J.mono ?_;rintro e w2 ⟨rfl,y⟩;replace C:=C.trans (y.mono C.size);generalize vf dec 1=r at*;clear J c0 c1 c2 c3 y D
       go_wp2
       go_ret;exact⟨by rw[E2.out];rfl,C⟩
  ·have E1:Hid (E=batF (s.map TxnQ.e)):=by
    have:=HE.out;rw[if_neg (by simp),if_pos ⟨by simp,h1⟩]at this;exact this
   have ae:(batF (s.map TxnQ.e) !=0)=true:=by simpa using h1
   clear HE h1;generalize batF (s.map TxnQ.e)=r at*
   go_wp2
   go_ret;exact⟨by rw[E1.out];rfl,hB⟩
theorem z5a(p:InstQ)(w:World)(h:instK.rd w p)(hl:p.n≤1048576):
  Calls Tryz.prog 157 #[.agg #[.bool p.has,p.vb,p.vr,p.vd]] w fun e w'=>e=.returned (.int .i64 (shpF p.e))∧Below w.heap.size w w':=by
 obtain⟨has,vb,d,vr,c,vd,dec⟩:=p;dsimp only[InstQ.n]at hl;have HE:Hid (shpF (InstQ.e ⟨has,vb,d,vr,c,vd,dec⟩)=if has=false∧0 < (d.map TxnQ.e).length then 1 else
  if has=true∧batF (d.map TxnQ.e)≠0 then batF (d.map TxnQ.e)else
  if(c.map RoundQ.e).length<1∨4<(c.map RoundQ.e).length then 2 else
  if z0K (c.map RoundQ.e)=0 then vf dec 1 else z0K (c.map RoundQ.e)):=by
  exact(rfl:shpF _=_)
 generalize shpF (InstQ.e ⟨has,vb,d,vr,c,vd,dec⟩)=E at HE⊢;obtain⟨hT,hR,hD⟩:txnK.At w vb d∧roundK.At w vr c∧intK.At w vd dec:=h;obtain⟨ba,bk,rfl⟩:=hT.shape;obtain⟨va,vk,rfl⟩:=hR.shape;obtain⟨da,dk,rfl⟩:=hD.shape;have hv:=fun w h=>z4H (.slice ba d.length bk) (d.map TxnQ.e) w h (by rw[List.length_map,z6l];omega)
 have hB:Below w.heap.size w (w.alloc (.cells #[.bool has,.slice ba d.length bk,.slice va c.length vk,.slice da dec.length dk] 49)):=by go_grown
 have Bx:=Blk.new w 49 #[.bool has,.slice ba d.length bk,.slice va c.length vk,.slice da dec.length dk];replace hT:=hT.below hB;replace hR:=hR.below hB;replace hD:=hD.below hB
 cases has with
 |false=>
  by_cases h0:0<d.length
  ·have E1:Hid (E=1):=by rw[HE.out,if_pos ⟨rfl,by simpa using h0⟩];rfl
   clear HE hv;go_enter Tryz.func157,Tryz.ntmps157
   go_wp2
   go_ret;exact⟨by rw[E1.out];rfl,hB⟩
  ·have HS:Hid (E=if(c.map RoundQ.e).length<1∨4<(c.map RoundQ.e).length then 2 else if z0K (c.map RoundQ.e)=0 then vf dec 1 else z0K (c.map RoundQ.e)):=by
    have:=HE.out;rw[if_neg (fun h=>h0 (by simpa using h.2)),if_neg (by simp)]at this;exact this
   clear HE hv;have ag:¬(0:Int)<d.length:=by omega
   go_enter Tryz.func157,Tryz.ntmps157;by_cases N:c.length<1
   ·have E2:Hid (E=2):=by rw[HS.out,if_pos (Or.inl (by simpa using N))];rfl
    clear HS
    go_wp2
    go_ret;exact⟨by rw[E2.out];rfl,hB⟩
   ·by_cases O:4<c.length
    ·have E2:Hid (E=2):=by rw[HS.out,if_pos (Or.inr (by simpa using O))];rfl
     clear HS
     go_wp2
     go_ret;exact⟨by rw[E2.out];rfl,hB⟩
    ·have C:Hid (E=if z0K (c.map RoundQ.e)=0 then vf dec 1 else z0K (c.map RoundQ.e)):=by
      have:=HS.out;rw[if_neg (by simp only[List.length_map];omega)]at this;exact this
     have aa:¬(c.length:Int)<1:=by omega
     have ab:¬(4:Int)<c.length:=by omega
     clear HS N O
     go_wp2
     generalize (w.alloc (.cells #[.bool false,.slice ba d.length bk,.slice va c.length vk,.slice da dec.length dk] 49))=W at*;go_loopw[38] (fun j wr=>∃k:Nat,k≤c.length∧j=.int .i64 k∧Hid (∀j,j<k→vf ((c.map RoundQ.e).getD j rnd0).rep 1=0∧vf ((c.map RoundQ.e).getD j rnd0).pro 2=0)∧Below W.heap.size W wr) (fun j _=>c.length-(intOf j).toNat)
     case atStart=>exact⟨0,Nat.zero_le _,rfl,fun j hj=>absurd hj (Nat.not_lt_zero _),Below.refl _ _⟩
     case round=>
      obtain⟨k,hk,rfl,HA,hb⟩:=hrel;have z:=hB.trans (hb.mono hB.size);by_cases A:k<c.length
      ·obtain⟨rb,ro,rfl,ae,hc,Y⟩:=(hR.below hb).cell (by decide) k A;have L:∀j x,(roundK.cells c[k])[j]?=some x→wr.cell? ⟨rb,ro+k*2+j,none⟩=some x:=hc;have r0:=L 0 (c[k].vr) rfl;have r1:=L 1 (c[k].vp) rfl;have af:=z6V c k A;have s:=z1U (c.map RoundQ.e) k HA.out (by simpa using A);rw[z0X c k A]at s;dsimp only[RoundQ.e]at s;have G:Hid (vf c[k].rep 1≠0→E=vf c[k].rep 1):=fun h=>by rw[C.out,s.1 h,if_neg h]
       have I:Hid (vf c[k].rep 1=0→vf c[k].pro 2≠0→E=vf c[k].pro 2):=fun h h2=>by rw[C.out,s.2 h h2,if_neg h2]
       have HN:Hid (vf c[k].rep 1=0→vf c[k].pro 2=0→∀j,j<k+1→vf ((c.map RoundQ.e).getD j rnd0).rep 1=0∧vf ((c.map RoundQ.e).getD j rnd0).pro 2=0):=by
        intro h1 h2 j hj;by_cases U:j=k
        ·subst U;rw[z0X c j A];exact⟨h1,h2⟩
        ·exact HA.out j (by omega)
       clear HA s hc L;generalize c[k]=q at*;obtain⟨qv,qr,qw,qp⟩:=q;obtain⟨rA,rP⟩:intK.At wr qv qr∧intK.At wr qw qp:=Y;dsimp only at*;obtain⟨ra,rk,rfl⟩:=rA.shape;obtain⟨pa,pk,rfl⟩:=rP.shape;have J:Below wr.heap.size wr (wr.alloc (.cells #[.slice ra qr.length rk,.slice pa qp.length pk] 172)):=by go_grown
       have T:=hb.alloc hb.size (.cells #[.slice ra qr.length rk,.slice pa qp.length pk] 172);have z:=z.alloc z.size (.cells #[.slice ra qr.length rk,.slice pa qp.length pk] 172);have Bx:=Blk.new wr 172 #[.slice ra qr.length rk,.slice pa qp.length pk];have y:=z0G ra rk qr 1 _ (z0y (rA.below J)).2 (by omega);have D:=z0G pa pk qp 2 _ (z0y (rP.below J)).2 (by omega);rw[q0N]at y;rw[q1w]at D;rw[Nat.add_zero]at r0;clear rA rP J
       go_wp2_with fail
       generalize wr.alloc (.cells #[.slice ra qr.length rk,.slice pa qp.length pk] 172)=X at*;refine y.mono ?_;rintro e w2 ⟨rfl,hw⟩;replace hw:=hw.symm;subst hw;clear y r0 r1;by_cases h1:vf qr 1=0
       ·have HF:Hid (vf qp 2≠0→E=vf qp 2):=I.out h1;have HM:Hid (vf qp 2=0→_):=HN.out h1;rw[h1];clear G I HN h1;have p1:=Bx.cell 1 _ rfl
        go_wp2_with fail
        refine D.mono ?_;rintro e w2 ⟨rfl,hw⟩;replace hw:=hw.symm;subst hw;clear D p1 Bx;by_cases h2:vf qp 2=0
        ·have R:=HM.out h2;have HR:Hid _:=R;rw[h2];clear HF HM R h2
         go_wp2
         go_roundw
         case rel=>exact⟨k+1,by omega,by go_num,HR.out,T⟩
         case measure=>simp[intOf];omega
        ·have E2:Hid (E=vf qp 2):=HF.out h2;have ad:(vf qp 2 !=0)=true:=by simpa using h2
         clear HF HM h2;generalize vf qp 2=r at*
         go_wp2
         go_ret;exact⟨by rw[E2.out];rfl,z⟩
       ·have E2:Hid (E=vf qr 1):=G.out h1;have Z:(vf qr 1 !=0)=true:=by simpa using h1
        clear G I HN h1 D;generalize vf qr 1=r at*
        go_wp2
        go_ret;exact⟨by rw[E2.out];rfl,z⟩
      ·have V:k=c.length:=by omega
       subst V;have E2:Hid (E=vf dec 1):=by
        have:=C.out;rw[if_pos (z2i _ (by simpa using HA.out))]at this;exact this
       have Br:=Bx.below hb;have c3:=Br.cell 3 _ rfl;have y:=z0G da dk dec 1 wr (z0y (hD.below hb)).2 (by omega);rw[q0N]at y;clear HA C
       go_wp2_with fail
       refine y.mono ?_;rintro e w2 ⟨rfl,hw⟩;replace hw:=hw.symm;subst hw;generalize vf dec 1=r at*;clear y c3
       go_wp2
       go_ret;exact⟨by rw[E2.out];rfl,z⟩
 |true=>
  go_enter Tryz.func157,Tryz.ntmps157
  go_wp2_with fail
  generalize w.alloc (.cells #[.bool true,.slice ba d.length bk,.slice va c.length vk,.slice da dec.length dk] 49)=W at*;refine(hv W (z2a hT)).mono ?_;rintro e w1 ⟨rfl,M⟩;replace hR:=hR.below M;replace hD:=hD.below M;replace Bx:=Bx.below M;replace hB:=hB.trans (M.mono hB.size);clear hv M hT;by_cases h1:batF (d.map TxnQ.e)=0
  ·have HS:Hid (E=if(c.map RoundQ.e).length<1∨4<(c.map RoundQ.e).length then 2 else if z0K (c.map RoundQ.e)=0 then vf dec 1 else z0K (c.map RoundQ.e)):=by
    have:=HE.out;rw[if_neg (by simp),if_neg (fun h=>h.2 h1)]at this;exact this
   rw[h1];clear HE h1;by_cases N:c.length<1
   ·have E2:Hid (E=2):=by rw[HS.out,if_pos (Or.inl (by simpa using N))];rfl
    clear HS;obtain⟨c0,c1,c2⟩:=Bx.cel3
    go_wp2
    go_ret;exact⟨by rw[E2.out];rfl,hB⟩
   ·by_cases O:4<c.length
    ·have E2:Hid (E=2):=by rw[HS.out,if_pos (Or.inr (by simpa using O))];rfl
     clear HS;obtain⟨c0,c1,c2⟩:=Bx.cel3
     go_wp2
     go_ret;exact⟨by rw[E2.out];rfl,hB⟩
    ·have C:Hid (E=if z0K (c.map RoundQ.e)=0 then vf dec 1 else z0K (c.map RoundQ.e)):=by
      have:=HS.out;rw[if_neg (by simp only[List.length_map];omega)]at this;exact this
     have aa:¬(c.length:Int)<1:=by omega
     have ab:¬(4:Int)<c.length:=by omega
     clear HS N O;obtain⟨c0,c1,c2⟩:=Bx.cel3
     go_wp2
     clear c0 c1 c2;go_loopw[38] (fun j wr=>∃k:Nat,k≤c.length∧j=.int .i64 k∧Hid (∀j,j<k→vf ((c.map RoundQ.e).getD j rnd0).rep 1=0∧vf ((c.map RoundQ.e).getD j rnd0).pro 2=0)∧Below w1.heap.size w1 wr) (fun j _=>c.length-(intOf j).toNat)
     case atStart=>exact⟨0,Nat.zero_le _,rfl,fun j hj=>absurd hj (Nat.not_lt_zero _),Below.refl _ _⟩
     case round=>
      obtain⟨k,hk,rfl,HA,hb⟩:=hrel;have z:=hB.trans (hb.mono hB.size);by_cases A:k<c.length
      ·obtain⟨rb,ro,rfl,ae,hc,Y⟩:=(hR.below hb).cell (by decide) k A;have L:∀j x,(roundK.cells c[k])[j]?=some x→wr.cell? ⟨rb,ro+k*2+j,none⟩=some x:=hc;have r0:=L 0 (c[k].vr) rfl;have r1:=L 1 (c[k].vp) rfl;have af:=z6V c k A;have s:=z1U (c.map RoundQ.e) k HA.out (by simpa using A);rw[z0X c k A]at s;dsimp only[RoundQ.e]at s;have G:Hid (vf c[k].rep 1≠0→E=vf c[k].rep 1):=fun h=>by rw[C.out,s.1 h,if_neg h]
       have I:Hid (vf c[k].rep 1=0→vf c[k].pro 2≠0→E=vf c[k].pro 2):=fun h h2=>by rw[C.out,s.2 h h2,if_neg h2]
       have HN:Hid (vf c[k].rep 1=0→vf c[k].pro 2=0→∀j,j<k+1→vf ((c.map RoundQ.e).getD j rnd0).rep 1=0∧vf ((c.map RoundQ.e).getD j rnd0).pro 2=0):=by
        intro h1 h2 j hj;by_cases U:j=k
        ·subst U;rw[z0X c j A];exact⟨h1,h2⟩
        ·exact HA.out j (by omega)
       clear HA s hc L;generalize c[k]=q at*;obtain⟨qv,qr,qw,qp⟩:=q;obtain⟨rA,rP⟩:intK.At wr qv qr∧intK.At wr qw qp:=Y;dsimp only at*;obtain⟨ra,rk,rfl⟩:=rA.shape;obtain⟨pa,pk,rfl⟩:=rP.shape;have J:Below wr.heap.size wr (wr.alloc (.cells #[.slice ra qr.length rk,.slice pa qp.length pk] 172)):=by go_grown
       have T:=hb.alloc hb.size (.cells #[.slice ra qr.length rk,.slice pa qp.length pk] 172);have z:=z.alloc z.size (.cells #[.slice ra qr.length rk,.slice pa qp.length pk] 172);have Bx:=Blk.new wr 172 #[.slice ra qr.length rk,.slice pa qp.length pk];have y:=z0G ra rk qr 1 _ (z0y (rA.below J)).2 (by omega);have D:=z0G pa pk qp 2 _ (z0y (rP.below J)).2 (by omega);rw[q0N]at y;rw[q1w]at D;rw[Nat.add_zero]at r0;clear rA rP J
       go_wp2_with fail
       generalize wr.alloc (.cells #[.slice ra qr.length rk,.slice pa qp.length pk] 172)=X at*;refine y.mono ?_;rintro e w2 ⟨rfl,hw⟩;replace hw:=hw.symm;subst hw;clear y r0 r1;by_cases h1:vf qr 1=0
       ·have HF:Hid (vf qp 2≠0→E=vf qp 2):=I.out h1;have HM:Hid (vf qp 2=0→_):=HN.out h1;rw[h1];clear G I HN h1;have p1:=Bx.cell 1 _ rfl
        go_wp2_with fail
        refine D.mono ?_;rintro e w2 ⟨rfl,hw⟩;replace hw:=hw.symm;subst hw;clear D p1 Bx;by_cases h2:vf qp 2=0
        ·have R:=HM.out h2;have HR:Hid _:=R;rw[h2];clear HF HM R h2
         go_wp2
         go_roundw
         case rel=>exact⟨k+1,by omega,by go_num,HR.out,T⟩
         case measure=>simp[intOf];omega
        ·have E2:Hid (E=vf qp 2):=HF.out h2;have ad:(vf qp 2 !=0)=true:=by simpa using h2
         clear HF HM h2;generalize vf qp 2=r at*
         go_wp2
         go_ret;exact⟨by rw[E2.out];rfl,z⟩
       ·have E2:Hid (E=vf qr 1):=G.out h1;have Z:(vf qr 1 !=0)=true:=by simpa using h1
        clear G I HN h1 D;generalize vf qr 1=r at*
        go_wp2
        go_ret;exact⟨by rw[E2.out];rfl,z⟩
      ·have V:k=c.length:=by omega
       subst V;have E2:Hid (E=vf dec 1):=by
        have:=C.out;rw[if_pos (z2i _ (by simpa using HA.out))]at this;exact this
       have Br:=Bx.below hb;have c3:=Br.cell 3 _ rfl;have y:=z0G da dk dec 1 wr (z0y (hD.below hb)).2 (by omega);rw[q0N]at y;clear HA C
       go_wp2_with fail
       refine y.mono ?_;rintro e w2 ⟨rfl,hw⟩;replace hw:=hw.symm;subst hw;generalize vf dec 1=r at*;clear y c3
       go_wp2
       go_ret;exact⟨by rw[E2.out];rfl,z⟩
  ·have E1:Hid (E=batF (d.map TxnQ.e)):=by
    have:=HE.out;rw[if_neg (by simp),if_pos ⟨by simp,h1⟩]at this;exact this
   have Z:(batF (d.map TxnQ.e) !=0)=true:=by simpa using h1
   clear HE h1;generalize batF (d.map TxnQ.e)=r at*
   go_wp2
   go_ret;exact⟨by rw[E1.out];rfl,hB⟩
end Go.Proofs.YtciofogeiohleaaGreatDoor
