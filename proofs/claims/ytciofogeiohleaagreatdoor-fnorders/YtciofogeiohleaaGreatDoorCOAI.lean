/- Texts joined,with what the laws reach alone. -/
import Derived.Test.YtciofogeiohleaaGreatDoorCOAH
set_option linter.unusedVariables false
set_option linter.unusedSimpArgs false
set_option maxRecDepth 100000
set_option maxHeartbeats 2000000
namespace Go.Proofs.YtciofogeiohleaaGreatDoor
open Go.RowKit Go.BigFrame
structure Rgt (x:InstE):Prop where
 bat0:x.has=false→x.batch=[]
 bat1:x.has=true→batF x.batch=0
 len:1≤x.rounds.length∧x.rounds.length≤4
 votes:∀r,r<x.rounds.length→vf (x.rounds.getD r rnd0).rep 1=0∧vf (x.rounds.getD r rnd0).pro 2=0
 dec:vf x.dec 1=0
 rep:∀r,r<x.rounds.length→∀n,n<3→repI x.has x.rounds r n=true
 pro:∀r,r<x.rounds.length→∀n,n<3→proR x.rounds r n=true
 en:∀n,n<3→endR x.rounds (x.dec.getD n 0)=true
theorem z67:∀ {rs:List RoundE},(∀r,r<rs.length→vf (rs.getD r rnd0).rep 1=0∧vf (rs.getD r rnd0).pro 2=0)→z0K rs=0
 |[],_=>rfl
 |q::t,h=>by
  have h0:=h 0 (by simp);have h1:vf q.rep 1=0∧vf q.pro 2=0:=h0;unfold z0K;rw[if_pos h1.1,if_pos h1.2];exact z67 (fun r hr=>by
   have:=h (r+1) (by simpa using hr);simpa [List.getD] using this)
theorem z4n{x:InstE}(h:insF x=0):Rgt x:=by
 obtain⟨hs,hr⟩:=z1p h;obtain⟨hl,hv,hd,h0,h1⟩:=z05 hs;unfold z88 at hr;simp only[Bool.and_eq_true,List.all_eq_true,List.mem_range,z2I]at hr;exact⟨h0,h1,hl,fun r hr'=>z1g hv r hr',hd,fun r hr' n hn=>(hr.1 r hr' n hn).1,fun r hr' n hn=>(hr.1 r hr' n hn).2,(z1C _ _).1 hr.2⟩
theorem z4V{x:InstE}(h:Rgt x):insF x=0:=by
 have hs:shpF x=0:=by
  unfold shpF;rw[if_neg (fun e=>by rw[h.bat0 e.1]at e;simp at e),if_neg (fun e=>e.2 (h.bat1 e.1)),if_neg (by have:=h.len;omega),if_pos (z67 h.votes)];exact h.dec
 unfold insF;rw[if_pos hs];have hr:z88 x=true:=by
  unfold z88;simp only[Bool.and_eq_true,List.all_eq_true,List.mem_range,z2I];exact⟨fun r hr n hn=>⟨h.rep r hr n hn,h.pro r hr n hn⟩,(z1C _ _).2 h.en⟩
 rw[if_pos hr]
theorem z5i(rs:List RoundE)(r:Nat)(hr:r<rs.length)(q:RoundE)(k:Nat):(rs.set r q).getD k rnd0=if k=r then q else rs.getD k rnd0:=by
 by_cases h:k=r
 ·subst h;rw[if_pos rfl];simp[List.getD,hr]
 ·rw[if_neg h];simp only[List.getD];rw[List.getElem?_set,if_neg (fun e=>h e.symm)]
theorem z3S(zs:List Int)(n:Nat)(hn:n<zs.length)(v:Int)(k:Nat):(zs.set n v).getD k 0=if k=n then v else zs.getD k 0:=by
 by_cases h:k=n
 ·subst h;rw[if_pos rfl];simp[List.getD,hn]
 ·rw[if_neg h];simp only[List.getD];rw[List.getElem?_set,if_neg (fun e=>h e.symm)]
theorem q0Z{zs:List Int}{most:Int}(h:vf zs most=0):zs.all (vOk most)=true:=by
 have hl:=z0A h;unfold vf at h;rw[if_pos hl]at h;by_cases hx:zs.all (vOk most)=true
 ·exact hx
 ·rw[if_neg hx]at h;simp at h
theorem z8r{zs:List Int}{most:Int}(h:vf zs most=0)(n:Nat)(v:Int)(hv:vOk most v=true):vf (zs.set n v) most=0:=by
 have hl:=z0A h;have ha:=q0Z h;unfold vf;rw[if_pos (by rw[List.length_set];exact hl),if_pos];rw[List.all_eq_true]at ha⊢;intro x hx;rcases List.mem_or_eq_of_mem_set hx with hx|rfl
 ·exact ha x hx
 ·exact hv
theorem q00{v:Int}{most:Int}(h:v=0∨v=1)(hm:1≤most):vOk most v=true:=by
 unfold vOk inB;rw[Bool.or_eq_true];left;rw[decide_eq_true_eq];omega
abbrev n3:List Nat:=[0,1,2]
theorem q1B{n:Nat}(h:n<3):n∈n3:=by
 have:n=0∨n=1∨n=2:=by omega
 rcases this with rfl|rfl|rfl<;>simp
theorem z8s:∀x∈v4,∀y∈v4,∀z∈v4,∀n∈n3,[x,y,z].getD n 0=3→∀v∈[(0:Int),1],∀p∈v4,mayP [x,y,z] p=true→mayP ([x,y,z].set n v) p=true:=by decide+kernel
theorem z8t:∀x∈v4,∀y∈v4,∀z∈v4,∀n∈n3,[x,y,z].getD n 0=3→∀v∈[(0:Int),1,2],z43 ([x,y,z].set n v)=false→∀u∈[(0:Int),1],mayR [x,y,z] u=true→mayR ([x,y,z].set n v) u=true:=by decide+kernel
theorem z9k:∀x∈v4,∀y∈v4,∀z∈v4,∀n∈n3,[x,y,z].getD n 0=3→∀v∈[(0:Int),1,2],∀u∈[(0:Int),1],cnt 7 [x,y,z] u≤cnt 7 ([x,y,z].set n v) u:=by decide+kernel
theorem z9l:∀x∈v4,∀y∈v4,∀z∈v4,∀a∈[(0:Int),1],2≤cnt 7 [x,y,z] a→∀u∈[(0:Int),1],mayR [x,y,z] u=true→u=a:=by decide+kernel
theorem z9m:∀a∈[(0:Int),1],∀x∈[a,3],∀y∈[a,3],∀z∈[a,3],∀p∈v4,mayP [x,y,z] p=true→p=a:=by decide+kernel
theorem z9n:∀a∈[(0:Int),1],∀x∈[a,3],∀y∈[a,3],∀z∈[a,3],∀u∈[(0:Int),1],mayR [x,y,z] u=true→u=a:=by decide+kernel
theorem z9o:∀x∈v4,∀y∈v4,∀z∈v4,∀a∈[(0:Int),1],∀b∈[(0:Int),1],2≤cnt 7 [x,y,z] a→2≤cnt 7 [x,y,z] b→a=b:=by decide+kernel
theorem z8T{v:Int}(h:v=0∨v=1):v∈[(0:Int),1]:=by rcases h with rfl|rfl<;>simp
theorem z8u{zs:List Int}{most:Int}(hm:most=1∨most=2)(h:vf zs most=0)(n:Nat)(hn:n<3):zs.getD n 0∈v4:=z47 hm (z4d h n hn)
theorem z9p{zs:List Int}(h:vf zs 1=0)(n:Nat)(hn:n<3)(h3:zs.getD n 0=3){v:Int}(hv:v=0∨v=1){p:Int}(hp:p∈v4)(hm:mayP zs p=true):mayP (zs.set n v) p=true:=by
 obtain⟨x,hx,y,hy,z,hz,rfl⟩:=z1S (Or.inl rfl) h;exact z8s x hx y hy z hz n (q1B hn) h3 v (z8T hv) p hp hm
theorem z9q{zs:List Int}(h:vf zs 2=0)(n:Nat)(hn:n<3)(h3:zs.getD n 0=3){v:Int}(hv:v∈[(0:Int),1,2])(hb:z43 (zs.set n v)=false){u:Int}(hu:u=0∨u=1)(hm:mayR zs u=true):mayR (zs.set n v) u=true:=by
 obtain⟨x,hx,y,hy,z,hz,rfl⟩:=z1S (Or.inr rfl) h;exact z8t x hx y hy z hz n (q1B hn) h3 v hv hb u (z8T hu) hm
theorem q0d{zs:List Int}(h:vf zs 2=0)(n:Nat)(hn:n<3)(h3:zs.getD n 0=3){v:Int}(hv:v∈[(0:Int),1,2]){u:Int}(hu:u=0∨u=1):cnt 7 zs u≤cnt 7 (zs.set n v) u:=by
 obtain⟨x,hx,y,hy,z,hz,rfl⟩:=z1S (Or.inr rfl) h;exact z9k x hx y hy z hz n (q1B hn) h3 v hv u (z8T hu)
theorem q01{zs:List Int}{m:Int}(h:pfC zs m=0):pfV zs m∈[(0:Int),1,2]:=by
 unfold pfV pr2;rw[if_pos h];split
 ·simp
 ·split<;>simp
theorem q02{v:Int}(h:v∈[(0:Int),1,2]):vOk 2 v=true:=by
 simp only[List.mem_cons,List.not_mem_nil,or_false]at h;rcases h with rfl|rfl|rfl<;>decide
theorem q0e{rep zs:List Int}(h:∀m,m<3→zs.getD m 0=3∨mayP rep (zs.getD m 0)=true):z43 zs=false:=by
 unfold z43;rw[Bool.and_eq_false_iff];by_cases h0:0<cnt 7 zs 0
 ·right;have h1:¬0<cnt 7 zs 1:=fun h1=>by
   obtain⟨a,ha,ea⟩:=(z1T _ _).1 h0;obtain⟨b,hb,eb⟩:=(z1T _ _).1 h1;have hA:=h a ha;have hB:=h b hb;rw[ea]at hA;rw[eb]at hB;rcases hA with hA|hA
   ·exact absurd hA (by decide)
   ·rcases hB with hB|hB
    ·exact absurd hB (by decide)
    ·rw[z82 hA]at hB;exact absurd hB (by decide)
  exact decide_eq_false h1
 ·left;exact decide_eq_false h0
theorem z3d{rs:List RoundE}{r n:Nat}(h:proR rs r n=true):proA rs r n=3∨(repA rs r n≠3∧mayP (rs.getD r rnd0).rep (proA rs r n)=true):=by
 unfold proR at h;rw[Bool.or_eq_true,Bool.and_eq_true]at h;rcases h with h|⟨h1,h2⟩
 ·exact Or.inl (by simpa using h)
 ·exact Or.inr ⟨by simpa using h1,h2⟩
theorem z3e{has:Bool}{rs:List RoundE}{r n:Nat}(h:repI has rs r n=true):¬(repA rs r n=1∧has=false)∧(repA rs r n=3∨r=0∨(proA rs (r-1) n≠3∧mayR (rs.getD (r-1) rnd0).pro (repA rs r n)=true)):=by
 unfold repI at h;by_cases h1:repA rs r n=1∧has=false
 ·rw[if_pos h1]at h;exact absurd h (by decide)
 ·rw[if_neg h1]at h;refine⟨h1,?_⟩;by_cases h2:repA rs r n=3∨r=0
  ·rcases h2 with h2|h2
   ·exact Or.inl h2
   ·exact Or.inr (Or.inl h2)
  ·rw[if_neg h2]at h;unfold z7M at h;rw[Bool.and_eq_true]at h;exact Or.inr (Or.inr ⟨by simpa using h.1,h.2⟩)
theorem z4W{has:Bool}{rs:List RoundE}{r n:Nat}(h1:¬(repA rs r n=1∧has=false))(h2:repA rs r n=3∨r=0∨(proA rs (r-1) n≠3∧mayR (rs.getD (r-1) rnd0).pro (repA rs r n)=true)):repI has rs r n=true:=by
 unfold repI;rw[if_neg h1];by_cases h3:repA rs r n=3∨r=0
 ·rw[if_pos h3]
 ·rw[if_neg h3];rcases h2 with h2|h2|h2
  ·exact absurd (Or.inl h2) h3
  ·exact absurd (Or.inr h2) h3
  ·unfold z7M;rw[Bool.and_eq_true];exact⟨by simpa using h2.1,h2.2⟩
theorem agr_iff{rs:List RoundE}{v:Int}:agr rs v=true↔∃k,k<rs.length∧2≤cnt 7 (rs.getD k rnd0).pro v:=by
 constructor
 ·intro h;rcases Decidable.em (∃k,k<rs.length∧2≤cnt 7 (rs.getD k rnd0).pro v)with h1|h1
  ·exact h1
  ·exfalso
   have:agr rs v=false:=z5d (fun k hk=>by
    rcases Int.lt_or_le (cnt 7 (rs.getD k rnd0).pro v) 2 with h2|h2
    ·exact h2
    ·exact absurd ⟨k,hk,h2⟩ h1)
   rw[this]at h;exact absurd h (by decide)
 ·rintro⟨k,hk,h⟩;exact z8b hk h
theorem q03{x:InstE}(h:Rgt x)(n:Nat)(hn:n<3):x.dec.getD n 0=0∨x.dec.getD n 0=1∨x.dec.getD n 0=3:=q1t (z4d h.dec n hn)
theorem z8v{x:InstE}{ds:List TxnD}(h:sbC x ds=0):Rgt (sbI x ds):=by
 unfold sbI;rw[if_pos h];unfold sbC at h;by_cases h0:insF x=0
 ·rw[if_pos h0]at h;have R:=z4n h0
  cases hh:x.has with
  |true=>rw[hh]at h;simp at h
  |false=>
   rw[hh]at h;refine⟨fun e=>by simp at e,fun _=>h,R.len,R.votes,R.dec,fun r hr n hn=>?_,R.pro,R.en⟩;obtain⟨_,h2⟩:=z3e (R.rep r hr n hn);exact z4W (by simp) h2
 ·rw[if_neg h0]at h;exact absurd h h0
theorem z8w{x:InstE}(R:Rgt x)(k n:Nat)(v:Int)(hk:k<x.rounds.length)(hn:n<3)(h3:repA x.rounds k n=3)(hv:v=0∨v=1)(hb:¬(v=1∧x.has=false))
  (hm:k=0∨(proA x.rounds (k-1) n≠3∧mayR (x.rounds.getD (k-1) rnd0).pro v=true)):Rgt ⟨x.has,x.batch,z2Z x.rounds k n v,x.dec⟩:=by
 have hg:∀j,(z2Z x.rounds k n v).getD j rnd0=if j=k then⟨(x.rounds.getD k rnd0).rep.set n v,(x.rounds.getD k rnd0).pro⟩else x.rounds.getD j rnd0:=fun j=>z5i _ _ hk _ j
 have hp:∀j,((z2Z x.rounds k n v).getD j rnd0).pro=(x.rounds.getD j rnd0).pro:=fun j=>by
  rw[hg];split
  ·rename_i e;rw[e]
  ·rfl
 have hP:∀j m,proA (z2Z x.rounds k n v) j m=proA x.rounds j m:=fun j m=>by unfold proA;rw[hp]
 have y:=z0A (R.votes k hk).1;have r:∀j m,repA (z2Z x.rounds k n v) j m=if j=k∧m=n then v else repA x.rounds j m:=fun j m=>by
  unfold repA;rw[hg];by_cases hj:j=k
  ·subst hj;rw[if_pos rfl];show((x.rounds.getD j rnd0).rep.set n v).getD m 0=_;rw[z3S _ n (by omega)];by_cases hm:m=n
   ·rw[if_pos hm,if_pos ⟨rfl,hm⟩]
   ·rw[if_neg hm,if_neg (fun e=>hm e.2)]
  ·rw[if_neg hj,if_neg (fun e=>hj e.1)]
 have c:(z2Z x.rounds k n v).length=x.rounds.length:=z4j _ _ _ _;refine⟨R.bat0,R.bat1,by rw[c];exact R.len,fun j hj=>?_,R.dec,fun j hj m q=>?_,fun j hj m q=>?_,fun m q=>?_⟩
 ·rw[c]at hj;rw[hp];refine⟨?_,(R.votes j hj).2⟩;rw[hg];split
  ·exact z8r (R.votes k hk).1 n v (q00 hv (by decide))
  ·exact(R.votes j hj).1
 ·replace hj:j<x.rounds.length:=by rw[←c];exact hj
  obtain⟨h1,h2⟩:=z3e (R.rep j hj m q);by_cases d:j=k∧m=n
  ·refine z4W ?_ ?_
   ·rw[r,if_pos d];exact hb
   ·rw[r,if_pos d,hP,hp,d.1,d.2];rcases hm with hm|hm
    ·exact Or.inr (Or.inl hm)
    ·exact Or.inr (Or.inr hm)
  ·refine z4W ?_ ?_
   ·rw[r,if_neg d];exact h1
   ·rw[r,if_neg d,hP,hp];exact h2
 ·replace hj:j<x.rounds.length:=by rw[←c];exact hj
  rcases z3d (R.pro j hj m q)with h1|⟨h1,h2⟩
  ·exact z1I (Or.inl (by rw[hP];exact h1))
  ·have s:¬(j=k∧m=n):=fun e=>h1 (by rw[e.1,e.2];exact h3)
   refine z1I (Or.inr ⟨by rw[r,if_neg s];exact h1,?_⟩);rw[hP,hg];split
   ·rename_i e
    subst e;exact z9p (R.votes j hj).1 n hn h3 hv (z8u (Or.inr rfl) (R.votes j hj).2 m q) h2
   ·exact h2
 ·have he:=R.en m q;unfold endR at he⊢;rw[Bool.or_eq_true]at he⊢;rcases he with he|he
  ·exact Or.inl he
  ·right;obtain⟨j,hj,hc⟩:=agr_iff.1 he;exact agr_iff.2 ⟨j,by rw[c];exact hj,by rw[hp];exact hc⟩
theorem q0f{x:InstE}(R:Rgt x)(k n:Nat)(m:Int)(hk:k<x.rounds.length)(hn:n<3)(h3:proA x.rounds k n=3)(hr:repA x.rounds k n≠3)(hm:pfC (x.rounds.getD k rnd0).rep m=0):Rgt ⟨x.has,x.batch,z5y x.rounds k n (pfV (x.rounds.getD k rnd0).rep m),x.dec⟩:=by
 have hv:=q01 hm;have s:=z81 hm;generalize pfV (x.rounds.getD k rnd0).rep m=v at*;have hg:∀j,(z5y x.rounds k n v).getD j rnd0=if j=k then⟨(x.rounds.getD k rnd0).rep,(x.rounds.getD k rnd0).pro.set n v⟩else x.rounds.getD j rnd0:=fun j=>z5i _ _ hk _ j
 have hp:∀j,((z5y x.rounds k n v).getD j rnd0).rep=(x.rounds.getD j rnd0).rep:=fun j=>by
  rw[hg];split
  ·rename_i e;rw[e]
  ·rfl
 have r:∀j m,repA (z5y x.rounds k n v) j m=repA x.rounds j m:=fun j m=>by unfold repA;rw[hp]
 have D:=z0A (R.votes k hk).2;have hP:∀j m,proA (z5y x.rounds k n v) j m=if j=k∧m=n then v else proA x.rounds j m:=fun j m=>by
  unfold proA;rw[hg];by_cases hj:j=k
  ·subst hj;rw[if_pos rfl];show((x.rounds.getD j rnd0).pro.set n v).getD m 0=_;rw[z3S _ n (by omega)];by_cases hm:m=n
   ·rw[if_pos hm,if_pos ⟨rfl,hm⟩]
   ·rw[if_neg hm,if_neg (fun e=>hm e.2)]
  ·rw[if_neg hj,if_neg (fun e=>hj e.1)]
 have c:(z5y x.rounds k n v).length=x.rounds.length:=z6w _ _ _ _;have A:z43 ((x.rounds.getD k rnd0).pro.set n v)=false:=q0e (rep:=(x.rounds.getD k rnd0).rep) (fun j hj=>by
  rw[z3S _ n (by omega)];by_cases e:j=n
  ·rw[if_pos e];exact Or.inr s
  ·rw[if_neg e];rcases z3d (R.pro k hk j hj)with h1|⟨_,h2⟩
   ·exact Or.inl h1
   ·exact Or.inr h2)
 have y:(x.rounds.getD k rnd0).pro.getD n 0=3:=h3;have C:v≠3:=by
  simp only[List.mem_cons,List.not_mem_nil,or_false]at hv;omega
 refine⟨R.bat0,R.bat1,by rw[c];exact R.len,fun j hj=>?_,R.dec,fun j hj m d=>?_,fun j hj m d=>?_,fun m d=>?_⟩
 ·rw[c]at hj;rw[hp];refine⟨(R.votes j hj).1,?_⟩;rw[hg];split
  ·exact z8r (R.votes k hk).2 n v (q02 hv)
  ·exact(R.votes j hj).2
 ·replace hj:j<x.rounds.length:=by rw[←c];exact hj
  obtain⟨h1,h2⟩:=z3e (R.rep j hj m d);refine z4W (by rw[r];exact h1) ?_;rw[r];rcases h2 with h2|h2|⟨h2,h4⟩
  ·exact Or.inl h2
  ·exact Or.inr (Or.inl h2)
  ·by_cases e3:repA x.rounds j m=3
   ·exact Or.inl e3
   ·refine Or.inr (Or.inr ⟨?_,?_⟩)
    ·rw[hP];split
     ·exact C
     ·exact h2
    ·rw[hg];split
     ·rename_i e
      have z:repA x.rounds j m=0∨repA x.rounds j m=1:=by
       rcases q1t (z4d (R.votes j hj).1 m d)with h|h|h
       ·exact Or.inl h
       ·exact Or.inr h
       ·exact absurd h e3
      rw[e]at h4;exact z9q (R.votes k hk).2 n hn y hv A z h4
     ·exact h4
 ·replace hj:j<x.rounds.length:=by rw[←c];exact hj
  by_cases q:j=k∧m=n
  ·refine z1I (Or.inr ⟨by rw[r,q.1,q.2];exact hr,?_⟩);rw[hP,if_pos q,hp,q.1];exact s
  ·rcases z3d (R.pro j hj m d)with h1|⟨h1,h2⟩
   ·exact z1I (Or.inl (by rw[hP,if_neg q];exact h1))
   ·exact z1I (Or.inr ⟨by rw[r];exact h1,by rw[hP,if_neg q,hp];exact h2⟩)
 ·have he:=R.en m d;unfold endR at he⊢;rw[Bool.or_eq_true]at he⊢;rcases he with he|he
  ·exact Or.inl he
  ·rcases q03 R m d with hd|hd|hd;all_goals first|(left;rw[hd];rfl)|skip
   all_goals
    right;obtain⟨j,hj,hc⟩:=agr_iff.1 he;refine agr_iff.2 ⟨j,by rw[c];exact hj,?_⟩;rw[hg];split
    ·rename_i e
     subst e;exact Int.le_trans hc (q0d (R.votes j hj).2 n hn y hv (u:=x.dec.getD m 0) (by omega))
    ·exact hc
theorem q0g{x:InstE}(R:Rgt x)(k:Nat)(h4:k<4):Rgt ⟨x.has,x.batch,z4l x.rounds k,x.dec⟩:=by
 by_cases hk:k=x.rounds.length
 ·have he:z4l x.rounds k=x.rounds++[z1Q]:=if_pos hk;rw[he];have hg:∀j,j<x.rounds.length→(x.rounds++[z1Q]).getD j rnd0=x.rounds.getD j rnd0:=fun j hj=>by
   simp only[List.getD];rw[List.getElem?_append_left hj]
  have r:(x.rounds++[z1Q]).getD x.rounds.length rnd0=z1Q:=by simp[List.getD]
  have s:(x.rounds++[z1Q]).length=x.rounds.length+1:=by simp
  have d:∀j,j<(x.rounds++[z1Q]).length→j<x.rounds.length∨j=x.rounds.length:=fun j hj=>by omega
  have q:∀m,m<3→repA (x.rounds++[z1Q]) x.rounds.length m=3∧proA (x.rounds++[z1Q]) x.rounds.length m=3:=fun m hm=>by
   unfold repA proA;rw[r];have:m=0∨m=1∨m=2:=by omega
   rcases this with rfl|rfl|rfl<;>exact⟨rfl,rfl⟩
  have hR:∀j m,j<x.rounds.length→repA (x.rounds++[z1Q]) j m=repA x.rounds j m:=fun j m hj=>by unfold repA;rw[hg j hj]
  have hP:∀j m,j<x.rounds.length→proA (x.rounds++[z1Q]) j m=proA x.rounds j m:=fun j m hj=>by unfold proA;rw[hg j hj]
  refine⟨R.bat0,R.bat1,by show 1≤(x.rounds++[z1Q]).length∧(x.rounds++[z1Q]).length≤4;have:=R.len;omega,fun j hj=>?_,R.dec,fun j hj m hm=>?_,fun j hj m hm=>?_,fun m hm=>?_⟩
  ·rcases d j hj with c|rfl
   ·rw[hg j c];exact R.votes j c
   ·rw[r];decide
  ·rcases d j hj with c|rfl
   ·obtain⟨h1,h2⟩:=z3e (R.rep j c m hm);refine z4W (by rw[hR j m c];exact h1) ?_;rw[hR j m c,hP (j-1) m (by omega),hg (j-1) (by omega)];exact h2
   ·refine z4W ?_ (Or.inl (q m hm).1);rw[(q m hm).1];omega
  ·rcases d j hj with c|rfl
   ·rcases z3d (R.pro j c m hm)with h1|h1
    ·exact z1I (Or.inl (by rw[hP j m c];exact h1))
    ·refine z1I (Or.inr ?_);rw[hP j m c,hR j m c,hg j c];exact h1
   ·exact z1I (Or.inl (q m hm).2)
  ·have hE:=R.en m hm;unfold endR at hE⊢;rw[Bool.or_eq_true]at hE⊢;rcases hE with hE|hE
   ·exact Or.inl hE
   ·right;obtain⟨j,hj,hc⟩:=agr_iff.1 hE;exact agr_iff.2 ⟨j,by show j<(x.rounds++[z1Q]).length;omega,by rw[hg j hj];exact hc⟩
 ·have he:z4l x.rounds k=x.rounds:=if_neg hk;rw[he];exact R
theorem q0h{x:InstE}(R:Rgt x)(n:Nat)(hn:n<3)(v:Int)(hv:v=0∨v=1)(ha:agr x.rounds v=true):Rgt ⟨x.has,x.batch,x.rounds,x.dec.set n v⟩:=by
 refine⟨R.bat0,R.bat1,R.len,R.votes,z8r R.dec n v (q00 hv (by decide)),R.rep,R.pro,fun m hm=>?_⟩;have hl:=z0A R.dec;show endR x.rounds ((x.dec.set n v).getD m 0)=true;rw[z3S _ n (by omega)];split
 ·unfold endR;rw[ha];simp
 ·exact R.en m hm
theorem z68{x:InstE}(R:Rgt x)(hh:x.has=false)(k:Nat)(hk:k<x.rounds.length):¬0<cnt 7 (x.rounds.getD k rnd0).pro 1:=fun h=>by
 obtain⟨m,hm,e⟩:=(z1T _ _).1 h;have e':proA x.rounds k m=1:=e;rcases z3d (R.pro k hk m hm)with h1|⟨_,h2⟩
 ·omega
 ·rw[e']at h2;obtain⟨j,hj,ej⟩:=z5R h2;exact(z3e (R.rep k hk j hj)).1 ⟨ej,hh⟩
theorem q0i{x:InstE}(R:Rgt x)(k:Nat)(hk:k<x.rounds.length){m coin:Int}(hc:chC (x.rounds.getD k rnd0).pro m (coF x.has coin)=0):¬(cfV (x.rounds.getD k rnd0).pro m (coF x.has coin)=1∧x.has=false):=fun⟨h1,hh⟩=>by
 have hno:=z68 R hh k hk;have hle:=z5H m (x.rounds.getD k rnd0).pro 1;rw[z5L hc]at h1;unfold chV at h1;split at h1
 ·exact absurd h1 (by decide)
 ·rw[if_neg (by omega)]at h1;rw[hh]at h1;unfold coF at h1;split at h1
  ·exact absurd h1 (by decide)
  ·rename_i hne
   exact hne ⟨h1,rfl⟩
theorem q0j{x:InstE}(k:Nat)(hk:k<x.rounds.length){m c:Int}(hc:chC (x.rounds.getD k rnd0).pro m c=0)(hD:cfD (x.rounds.getD k rnd0).pro m c=true):agr x.rounds (cfV (x.rounds.getD k rnd0).pro m c)=true:=by
 refine agr_iff.2 ⟨k,hk,?_⟩;rw[z5L hc];unfold cfD at hD;rw[if_pos hc]at hD;have h0:=z5H m (x.rounds.getD k rnd0).pro 0;have h1:=z5H m (x.rounds.getD k rnd0).pro 1;unfold chD at hD;unfold chV;by_cases hz:0<cnt m (x.rounds.getD k rnd0).pro 0
 ·rw[if_pos hz]at hD⊢;have:=of_decide_eq_true hD;omega
 ·rw[if_neg hz]at hD⊢;have:=of_decide_eq_true hD;rw[if_pos (by omega)];omega
theorem z2O{x:InstE}{d c:Int}(h:frC x d c=0):insF (frI x d c)=0:=by
 have q:atC x d 0=0:=by
  rcases Decidable.em (atC x d 0=0)with h0|h0
  ·exact h0
  ·have:=((z5g x d c).1 h0).1;rw[h]at this;exact this.symm
 obtain⟨hi,n,rfl,hn,hr,f3,f6,f10,f0⟩:=(z5g x d c).2 q;have hV:inB c 0 1=true:=by
  cases hV:inB c 0 1 with
  |true=>rfl
  |false=>have:=(f3 hV).1;rw[h]at this;exact absurd this (by decide)
 have h3:repA x.rounds 0 n=3:=by
  rcases Decidable.em (repA x.rounds 0 n=3)with h3|h3
  ·exact h3
  ·have:=(f6 hV h3).1;rw[h]at this;exact absurd this (by decide)
 have hb:¬(c=1∧x.has=false):=fun⟨e1,e2⟩=>by
  have:=(f10 hV h3 e1 e2).1;rw[h]at this;exact absurd this (by decide)
 rw[(f0 hV h3 hb).2];have hv:=of_decide_eq_true hV;exact z4V (z8w (z4n hi) 0 n c hr hn h3 (by omega) hb (Or.inl rfl))
theorem z1f{x:InstE}{d round c:Int}(h:prC x d round c=0):insF (prI x d round c)=0∧(prI x d round c).dec=x.dec:=by
 have q:atC x d round=0:=by
  rcases Decidable.em (atC x d round=0)with h0|h0
  ·exact h0
  ·have:=((z5f x d round c).1 h0).1;rw[h]at this;exact this.symm
 obtain⟨hi,n,r,rfl,rfl,hn,hr,f6,f8,fP,f0⟩:=(z5f x d round c).2 q;have h3:proA x.rounds r n=3:=by
  rcases Decidable.em (proA x.rounds r n=3)with h3|h3
  ·exact h3
  ·have:=(f6 h3).1;rw[h]at this;exact absurd this (by decide)
 have h4:repA x.rounds r n≠3:=fun h4=>by
  have:=(f8 h3 h4).1;rw[h]at this;exact absurd this (by decide)
 have h5:pfC (x.rounds.getD r rnd0).rep c=0:=by
  rcases Decidable.em (pfC (x.rounds.getD r rnd0).rep c=0)with h5|h5
  ·exact h5
  ·have:=(fP h3 h4 h5).1;rw[h]at this;exact this.symm
 rw[(f0 h3 h4 h5).2];exact⟨z4V (q0f (z4n hi) r n c hr hn h3 h4 h5),rfl⟩
theorem z50{x:InstE}{s round q c:Int}(h:goC x s round q c=0):insF (goI x s round q c)=0∧∃n v,n<3∧(v=0∨v=1)∧goV x s round q c=v∧(goD x s round q c=true→agr x.rounds v=true)∧(goI x s round q c).dec=if goD x s round q c then x.dec.set n v else x.dec:=by
 have E:atC x s round=0:=by
  rcases Decidable.em (atC x s round=0)with h0|h0
  ·exact h0
  ·have:=((z5h x s round q c).1 h0).1;rw[h]at this;exact this.symm
 obtain⟨hi,n,r,rfl,rfl,hn,hr,f8,fC,f6,f0⟩:=(z5h x s round q c).2 E;have h3:proA x.rounds r n≠3:=fun h3=>by
  have:=(f8 h3).1;rw[h]at this;exact absurd this (by decide)
 have h4:chC (x.rounds.getD r rnd0).pro q (coF x.has c)=0:=by
  rcases Decidable.em (chC (x.rounds.getD r rnd0).pro q (coF x.has c)=0)with h4|h4
  ·exact h4
  ·have:=(fC h3 h4).1;rw[h]at this;exact this.symm
 have h5:rpC x.rounds (r+1) n=0:=by
  rcases Decidable.em (rpC x.rounds (r+1) n=0)with h5|h5
  ·exact h5
  ·have:=(f6 h3 h4 h5).1;rw[h]at this;exact this.symm
 obtain⟨_,eI,_,eD,_,eV⟩:=f0 h3 h4 h5;have R:=z4n hi;have hv:=z9D h4;have hb:=q0i R r hr h4;have y:=q0j r hr h4;have G:=z83 h4;rw[eI,eD,eV];generalize cfV (x.rounds.getD r rnd0).pro q (coF x.has c)=v at*;generalize cfD (x.rounds.getD r rnd0).pro q (coF x.has c)=d at*;have z:v=0∨v=1:=by omega
 refine⟨?_,n,v,hn,z,rfl,y,rfl⟩;have R2:Rgt ⟨x.has,x.batch,rpI x.rounds (r+1) n v,x.dec⟩:=by
  by_cases hx:r+1<4∧¬(r+1<x.rounds.length∧repA x.rounds (r+1) n≠3)
  ·have e:rpI x.rounds (r+1) n v=z2Z (z4l x.rounds (r+1)) (r+1) n v:=if_pos hx;rw[e];have RE:=q0g R (r+1) hx.1;have D:(z4l x.rounds (r+1)).getD r rnd0=x.rounds.getD r rnd0:=by
    unfold z4l;split
    ·simp only[List.getD];rw[List.getElem?_append_left hr]
    ·rfl
   refine z8w RE (r+1) n v (z8p _ _ (by omega)) hn ?_ z hb (Or.inr ⟨?_,?_⟩)
   ·show repA (z4l x.rounds (r+1)) (r+1) n=3;unfold z4l;split
    ·rename_i e2
     unfold repA;have:(x.rounds++[z1Q]).getD (r+1) rnd0=z1Q:=by rw[e2];simp[List.getD]
     rw[this];have:n=0∨n=1∨n=2:=by omega
     rcases this with rfl|rfl|rfl<;>rfl
    ·rename_i e2
     exact Decidable.byContradiction (fun h9=>hx.2 ⟨by omega,h9⟩)
   ·show proA (z4l x.rounds (r+1)) (r+1-1) n≠3;unfold proA;rw[Nat.add_sub_cancel,D];exact h3
   ·show mayR ((z4l x.rounds (r+1)).getD (r+1-1) rnd0).pro v=true;rw[Nat.add_sub_cancel,D];exact G
  ·have e:rpI x.rounds (r+1) n v=x.rounds:=if_neg hx;rw[e];exact R
 cases d with
 |false=>exact z4V R2
 |true=>
  refine z4V (q0h R2 n hn v z ?_);obtain⟨j,hj,hc⟩:=agr_iff.1 (y rfl);by_cases hx:r+1<4∧¬(r+1<x.rounds.length∧repA x.rounds (r+1) n≠3)
  ·show agr (rpI x.rounds (r+1) n v) v=true;have e:rpI x.rounds (r+1) n v=z2Z (z4l x.rounds (r+1)) (r+1) n v:=if_pos hx;rw[e];have A:(z4l x.rounds (r+1)).getD j rnd0=x.rounds.getD j rnd0:=by
    unfold z4l;split
    ·simp only[List.getD];rw[List.getElem?_append_left hj]
    ·rfl
   have I:x.rounds.length≤(z4l x.rounds (r+1)).length:=by
    unfold z4l;split
    ·simp
    ·exact Nat.le_refl _
   refine agr_iff.2 ⟨j,by rw[z4j];omega,?_⟩;unfold z2Z;rw[z5i _ _ (z8p _ _ (by omega))];split
   ·rename_i e2
    have C:(z4l x.rounds (r+1)).getD (r+1) rnd0=x.rounds.getD j rnd0:=by
     have:=A;rw[e2]at this;rw[e2];exact this
    show 2≤cnt 7 ((z4l x.rounds (r+1)).getD (r+1) rnd0).pro v;rw[C];exact hc
   ·rw[A];exact hc
  ·show agr (rpI x.rounds (r+1) n v) v=true;have e:rpI x.rounds (r+1) n v=x.rounds:=if_neg hx;rw[e];exact y rfl
theorem z6y:insF z6e=0:=by decide+kernel
theorem q04{x:InstE}(R:Rgt x){a:Int}(ha:a=0∨a=1)(k:Nat)(hk:k<x.rounds.length)(hq:2≤cnt 7 (x.rounds.getD k rnd0).pro a):∀d,k+1+d<x.rounds.length→∀n,n<3→(repA x.rounds (k+1+d) n=a∨repA x.rounds (k+1+d) n=3)∧(proA x.rounds (k+1+d) n=a∨proA x.rounds (k+1+d) n=3):=by
 have step:∀j,j+1<x.rounds.length→(∀u,u=0∨u=1→mayR (x.rounds.getD j rnd0).pro u=true→u=a)→∀n,n<3→(repA x.rounds (j+1) n=a∨repA x.rounds (j+1) n=3)∧(proA x.rounds (j+1) n=a∨proA x.rounds (j+1) n=3):=by
  intro j hj hu;have hrep:∀n,n<3→repA x.rounds (j+1) n=a∨repA x.rounds (j+1) n=3:=fun n hn=>by
   rcases(z3e (R.rep (j+1) hj n hn)).2 with h|h|h
   ·exact Or.inr h
   ·omega
   ·have h2:=h.2;rw[Nat.add_sub_cancel]at h2;rcases q1t (z4d (R.votes (j+1) hj).1 n hn)with e|e|e
    ·exact Or.inl (hu _ (Or.inl e) h2)
    ·exact Or.inl (hu _ (Or.inr e) h2)
    ·exact Or.inr e
  intro n hn;refine⟨hrep n hn,?_⟩;rcases z3d (R.pro (j+1) hj n hn)with h|⟨_,h⟩
  ·exact Or.inr h
  ·left;have hp4:=z8u (Or.inr rfl) (R.votes (j+1) hj).2 n hn;obtain⟨z0,z1,z2,e⟩:=z4D (z0A (R.votes (j+1) hj).1);have q0:=hrep 0 (by omega);have q1:=hrep 1 (by omega);have q2:=hrep 2 (by omega);unfold repA at q0 q1 q2;rw[e]at h q0 q1 q2;exact z9m a (z8T ha) z0 (by simpa using q0) z1 (by simpa using q1) z2 (by simpa using q2) _ hp4 h
 intro d;induction d with
 |zero=>
  intro hd;refine step k hd (fun u hu hm=>?_);obtain⟨z0,h0,z1,h1,z2,h2,e⟩:=z1S (Or.inr rfl) (R.votes k hk).2;rw[e]at hm hq;exact z9l z0 h0 z1 h1 z2 h2 a (z8T ha) hq u (z8T hu) hm
 |succ d ih=>
  intro hd;have h1:=ih (by omega);refine step (k+1+d) hd (fun u hu hm=>?_);obtain⟨z0,z1,z2,e⟩:=z4D (z0A (R.votes (k+1+d) (by omega)).2);have q0:=(h1 0 (by omega)).2;have q1:=(h1 1 (by omega)).2;have q2:=(h1 2 (by omega)).2;unfold proA at q0 q1 q2;rw[e]at hm q0 q1 q2;exact z9n a (z8T ha) z0 (by simpa using q0) z1 (by simpa using q1) z2 (by simpa using q2) u (z8T hu) hm
theorem z69{x:InstE}(R:Rgt x){a b:Int}(ha:a=0∨a=1)(hb:b=0∨b=1)(k j:Nat)(hkj:k<j)(hj:j<x.rounds.length)(h1:2≤cnt 7 (x.rounds.getD k rnd0).pro a)(h2:2≤cnt 7 (x.rounds.getD j rnd0).pro b):a=b:=by
 have hB:=q04 R ha k (by omega) h1 (j-(k+1)) (by omega);rw[show k+1+(j-(k+1))=j by omega]at hB;obtain⟨n,hn,e⟩:=(z1T _ _).1 (show 0<cnt 7 (x.rounds.getD j rnd0).pro b by omega);have e':proA x.rounds j n=b:=e;rcases(hB n hn).2 with h|h
 ·rw[←h];exact e'
 ·omega
theorem q0k{x:InstE}(R:Rgt x){a b:Int}(ha:a=0∨a=1)(hb:b=0∨b=1)(h1:agr x.rounds a=true)(h2:agr x.rounds b=true):a=b:=by
 obtain⟨k,hk,c1⟩:=agr_iff.1 h1;obtain⟨j,hj,c2⟩:=agr_iff.1 h2;rcases Nat.lt_trichotomy k j with h|h|h
 ·exact z69 R ha hb k j h hj c1 c2
 ·subst h;obtain⟨z0,h0,z1,h1,z2,h2,e⟩:=z1S (Or.inr rfl) (R.votes k hk).2;rw[e]at c1 c2;exact z9o z0 h0 z1 h1 z2 h2 a (z8T ha) b (z8T hb) c1 c2
 ·exact(z69 R hb ha j k h hk c2 c1).symm
theorem z5j(a:Int)(ha:a≠3):∀ (L:List Int),(∀z∈L,z=3∨z=a)→a∈L→outV L=a
 |[],_,h=>by simp at h
 |z::t,h,hm=>by
  unfold outV;rcases h z (by simp)with e|e
  ·rw[e,if_pos rfl];refine z5j a ha t (fun y hy=>h y (List.mem_cons_of_mem _ hy)) ?_;rcases List.mem_cons.1 hm with e2|hm
   ·exact absurd (e2.trans e) ha
   ·exact hm
  ·rw[if_neg (by rw[e];exact ha)];exact e
theorem z3T:∀ (L:List Int),outV L≠3→outV L∈L
 |[],h=>absurd rfl h
 |z::t,h=>by
  unfold outV at h⊢;split
  ·rename_i e
   rw[if_pos e]at h;exact List.mem_cons_of_mem _ (z3T t h)
  ·simp
theorem z8x{L:List Int}(hl:L.length=3){z:Int}(hz:z∈L):∃n,n<3∧L.getD n 0=z:=by
 obtain⟨n,hn,rfl⟩:=List.getElem_of_mem hz;exact⟨n,by omega,by simp[List.getD,hn]⟩
theorem z4o{x:InstE}(R:Rgt x){z:Int}(hz:z∈x.dec)(h3:z≠3):(z=0∨z=1)∧agr x.rounds z=true:=by
 obtain⟨n,hn,e⟩:=z8x (z0A R.dec) hz;have h1:=R.en n hn;have h2:=q03 R n hn;rw[e]at h1 h2;refine⟨by omega,?_⟩;unfold endR at h1;rw[Bool.or_eq_true]at h1;rcases h1 with h1|h1
 ·exact absurd (by simpa using h1) h3
 ·exact h1
theorem stays{x:InstE}(R:Rgt x)(h:outV x.dec≠3){n:Nat}{v:Int}(hv:v=0∨v=1)(ha:agr x.rounds v=true):v=outV x.dec∧outV (x.dec.set n v)=outV x.dec:=by
 have hm:=z3T _ h;obtain⟨h01,hag⟩:=z4o R hm h;have e:=q0k R hv h01 ha hag;refine⟨e,z5j _ h _ (fun z hz=>?_) ?_⟩
 ·rcases List.mem_or_eq_of_mem_set hz with hz|rfl
  ·rcases Decidable.em (z=3)with h3|h3
   ·exact Or.inl h3
   ·obtain⟨hz1,hz2⟩:=z4o R hz h3;exact Or.inr (q0k R hz1 h01 hz2 hag)
  ·exact Or.inr e
 ·obtain⟨i,hi,e2⟩:=List.getElem_of_mem hm;by_cases hin:n=i
  ·subst hin;rw[←e];exact List.mem_set hi v
  ·have:(x.dec.set n v)[i]'(by rw[List.length_set];exact hi)=outV x.dec:=by
    rw[List.getElem_set_ne hin];exact e2
   rw[←this];exact List.getElem_mem _
def Src(B:Nat)(w:World)(b:Nat)(T:Nat):Prop:=
 ∃ (a:Option Addr) (zs:List Int) (cap t:Nat),B≤b∧b<w.heap.size∧w.cell? ⟨b,0,none⟩=some (.slice a zs.length cap)∧w.cell? ⟨b,1,none⟩=some (.int .i64 (t:Int))∧w.frozen? ⟨b,1,none⟩=false∧
  t≤T∧zs.length≤1048576∧(∀i,0≤zs.getD i 0∧zs.getD i 0≤255)∧(∀i,i<zs.length→∃b' off,a=some ⟨b',off,none⟩∧b'<B∧w.cell? ⟨b',off+i,none⟩=some (.int .u8 (zs.getD i 0)))
theorem Src.lt{B b T:Nat}{w:World}(h:Src B w b T):B≤b∧b<w.heap.size:=by
 obtain⟨a,zs,cap,t,h1,h2,_⟩:=h;exact⟨h1,h2⟩
theorem Src.kept{B b T:Nat}{w w':World}(h:Src B w b T)(hs:w.heap.size≤w'.heap.size)(hb:w'.heap[b]?=w.heap[b]?)(hB:∀k,k<B→w'.heap[k]?=w.heap[k]?):Src B w' b T:=by
 obtain⟨a,zs,cap,t,h1,h2,h3,h4,h5,h6,h7,h8,h9⟩:=h;refine⟨a,zs,cap,t,h1,Nat.lt_of_lt_of_le h2 hs,?_,?_,?_,h6,h7,h8,?_⟩
 ·rw[World.cell?_of_block (w:=w) (a:=⟨b,0,none⟩) hb];exact h3
 ·rw[World.cell?_of_block (w:=w) (a:=⟨b,1,none⟩) hb];exact h4
 ·rw[World.frozen?_of_block (w:=w) (a:=⟨b,1,none⟩) hb];exact h5
 ·intro i hi;obtain⟨b',off,e1,e2,e3⟩:=h9 i hi;exact⟨b',off,e1,e2,by rw[World.cell?_of_block (w:=w) (a:=⟨b',off+i,none⟩) (hB b' e2)];exact e3⟩
theorem Src.below{B b T:Nat}{w w':World}(h:Src B w b T)(hb:Below w.heap.size w w'):Src B w' b T:=
 h.kept hb.size (hb.block b h.lt.2) (fun k hk=>hb.block k (by have:=h.lt;omega))
theorem Src.mono{B b T T':Nat}{w:World}(h:Src B w b T)(hT:T≤T'):Src B w b T':=by
 obtain⟨a,zs,cap,t,h1,h2,h3,h4,h5,h6,r⟩:=h;exact⟨a,zs,cap,t,h1,h2,h3,h4,h5,Nat.le_trans h6 hT,r⟩
theorem Src.step{B b T:Nat}{w:World}{a:Option Addr}{zs:List Int}{cap t:Nat}(h1:B≤b)(h2:b<w.heap.size)(h3:w.cell? ⟨b,0,none⟩=some (.slice a zs.length cap))(h4:w.cell? ⟨b,1,none⟩=some (.int .i64 (t:Int)))(h5:w.frozen? ⟨b,1,none⟩=false)
  (h6:t≤T) (h7:zs.length≤1048576) (h8:∀i,0≤zs.getD i 0∧zs.getD i 0≤255) (h9:∀i,i<zs.length→∃b' off,a=some ⟨b',off,none⟩∧b'<B∧w.cell? ⟨b',off+i,none⟩=some (.int .u8 (zs.getD i 0))):
  Src B (w.setCell ⟨b,1,none⟩ (.int .i64 ((t:Int)+1))) b (T+1)∧w.grownBy (w.setCell ⟨b,1,none⟩ (.int .i64 ((t:Int)+1))) (some b):=by
 refine⟨⟨a,zs,cap,t+1,h1,by simpa using h2,?_,?_,?_,by omega,h7,h8,?_⟩,⟨rfl,rfl,rfl,by simp,fun k _ hk=>Below.heap_setCell w _ _ k (fun e=>hk (by simp[e]))⟩⟩
 ·go_cell
 ·rw[World.cell?_setCell_same _ _ _ h4];simp
 ·rw[World.frozen?_setCell];exact h5
 ·intro i hi;obtain⟨b',off,e1,e2,e3⟩:=h9 i hi;refine⟨b',off,e1,e2,?_⟩;rw[World.cell?_of_block (w:=w) (a:=⟨b',off+i,none⟩) (Below.heap_setCell w _ _ b' (by simp;omega))];exact e3
def InR(n r:Int):Prop:=0≤r∧(1≤n→r<n)∧(n<1→r=0)
theorem InR.mod(x n:Int)(h:1≤n):InR n (x % n):=⟨Int.emod_nonneg _ (by omega),fun _=>Int.emod_lt_of_pos _ (by omega),fun k=>by omega⟩
theorem z0m(B b T:Nat)(n:Int)(w:World)(hS:Src B w b T)(hT:T≤1099511627776)(hn:n≤1099511627776):
  Calls Tryz.prog 37 #[.pointer (some ⟨b,0,none⟩),.int .i64 n] w fun e w'=>∃r:Int,e=.returned (.int .i64 r)∧InR n r∧Src B w' b (T+1)∧w.grownBy w' (some b):=by
 obtain⟨a,zs,cap,t,h1,h2,h3,h4,h5,h6,h7,h8,h9⟩:=hS;obtain⟨r1,r2⟩:=Src.step h1 h2 h3 h4 h5 h6 h7 h8 h9;have R1:Hid (Src B (w.setCell ⟨b,1,none⟩ (.int .i64 ((t:Int)+1))) b (T+1)):=r1;have R2:Hid (w.grownBy (w.setCell ⟨b,1,none⟩ (.int .i64 ((t:Int)+1))) (some b)):=r2;clear r1 r2;by_cases D:n<1
 ·go_enter Tryz.func37,Tryz.ntmps37
  go_wp2
  go_ret;exact⟨0,rfl,⟨by omega,by omega,fun _=>rfl⟩,R1.out,R2.out⟩
 ·by_cases hz:zs.length=0
  ·have z:((zs.length:Int)==0)=true:=by simp[hz]
   clear h9 hz h7;go_enter Tryz.func37,Tryz.ntmps37
   go_wp2
   go_ret;exact⟨_,rfl,InR.mod _ _ (by omega),R1.out,R2.out⟩
  ·have z:((zs.length:Int)==0)=false:=by rw[beq_eq_false_iff_ne];omega
   have d:0<zs.length:=by omega
   have q:t % zs.length<zs.length:=Nat.mod_lt _ d;have s:(t+1) % zs.length<zs.length:=Nat.mod_lt _ d;have c1:∃b' c,a=some ⟨b',c,none⟩∧(w.setCell ⟨b,1,none⟩ (.int .i64 ((t:Int)+1))).cell? ⟨b',c+t % zs.length,none⟩=some (.int .u8 (zs.getD (t % zs.length) 0))∧(w.setCell ⟨b,1,none⟩ (.int .i64 ((t:Int)+1))).cell? ⟨b',c+(t+1) % zs.length,none⟩=some (.int .u8 (zs.getD ((t+1) % zs.length) 0)):=by
    obtain⟨b',c,rfl,e2,e3⟩:=h9 _ q;obtain⟨b2,C,e4,e5,e6⟩:=h9 _ s;simp only[Option.some.injEq,Addr.mk.injEq,and_true]at e4;obtain⟨rfl,rfl⟩:=e4;refine⟨b',c,rfl,?_,?_⟩
    ·rw[World.cell?_of_block (w:=w) (a:=⟨b',_,none⟩) (Below.heap_setCell w _ _ b' (by simp;omega))];exact e3
    ·rw[World.cell?_of_block (w:=w) (a:=⟨b',_,none⟩) (Below.heap_setCell w _ _ b' (by simp;omega))];exact e6
   obtain⟨b',c,rfl,c1,c2⟩:=c1;have u1:=h8 (t % zs.length);have u2:=h8 ((t+1) % zs.length);have hq:(t:Int) / (zs.length:Int)≤1099511627776:=Int.le_trans (Int.ediv_le_self _ (by omega)) (by omega);have E:0≤(t:Int) / (zs.length:Int):=Int.ediv_nonneg (by omega) (by omega);generalize zs.getD (t % zs.length) 0=x at c1 u1;generalize zs.getD ((t+1) % zs.length) 0=y at c2 u2;have m0:0≤((t:Int)+1) % (zs.length:Int):=Int.emod_nonneg _ (by omega);have m1:((t:Int)+1) % (zs.length:Int)<(zs.length:Int):=Int.emod_lt_of_pos _ (by omega);clear h8 h9 hz;by_cases A:200<n
   focus
    go_enter Tryz.func37,Tryz.ntmps37
    go_wp2
    go_quiet (fail)
   rotate_left
   focus
    go_enter Tryz.func37,Tryz.ntmps37
   rotate_left
   all_goals
    go_wp2
    go_quiet (fail)
    go_wp2
    go_ret;exact⟨_,rfl,InR.mod _ _ (by omega),R1.out.below (below_drewN (Below.refl _ _) _),R2.out.trans ⟨rfl,rfl,rfl,Nat.le_refl _,fun _ _ _=>rfl⟩⟩
theorem z1O(B:Nat)(a:Option Addr)(cap:Nat)(zs:List Int)(w:World)(hB:B≤w.heap.size)(hl:zs.length≤1048576)(hu:∀i,0≤zs.getD i 0∧zs.getD i 0≤255)
  (h:∀i,i<zs.length→∃b' off,a=some ⟨b',off,none⟩∧b'<B∧w.cell? ⟨b',off+i,none⟩=some (.int .u8 (zs.getD i 0))):
  Calls Tryz.prog 35 #[.slice a zs.length cap] w fun e w'=>e=.returned (.pointer (some ⟨w.heap.size,0,none⟩))∧Src B w' w.heap.size 0∧Below w.heap.size w w':=by
 go_enter Tryz.func35,Tryz.ntmps35
 go_wp2
 go_ret;refine⟨rfl,⟨a,zs,cap,0,hB,by simp,by simp,by simp,by simp,Nat.le_refl _,hl,hu,?_⟩,by go_grown⟩;intro i hi;obtain⟨b',off,e1,e2,e3⟩:=h i hi;refine⟨b',off,e1,e2,?_⟩;rw[World.cell?_of_block (w:=w) (a:=⟨b',off+i,none⟩) (Below.heap_alloc w _ b' (by omega))];exact e3
theorem z06(B b T base:Nat)(v:Value)(xs:List Int)(w:World)(hS:Src B w b T)(hT:T≤1099511627776)(ho:w.ownsRow base 2 1 v xs.length (xs.map (Value.int .i64)))(hx:xs≠[])(hlen:xs.length≤100)(hne:some b≠v.ownBlock):
  Calls Tryz.prog 106 #[.pointer (some ⟨b,0,none⟩),v] w fun e w'=>∃r:Int,e=.returned (.int .i64 r)∧r∈xs∧Src B w' b (T+1)∧w.grownBy w' (some b):=by
 obtain⟨a,k,rfl⟩:=z0p ho;have hpos:0<xs.length:=List.length_pos_iff.2 hx;have hn:=z0m B b T (xs.length:Int) w hS hT (by omega);go_enter Tryz.func106,Tryz.ntmps106
 go_wp2_with fail
 refine hn.mono ?_;rintro e w' ⟨r,rfl,hr,hS',hg⟩;obtain⟨j,rfl⟩:=Int.eq_ofNat_of_zero_le hr.1;have hj:j<xs.length:=by have:=hr.2.1 (by omega);omega
 have ho':=ho.kept hg (Or.inr (fun e=>hne e.symm));obtain⟨b2,off2,rfl,hb2,hc2⟩:=Row.own ho' j hj;have hmem:xs.getD j 0∈xs:=by simp[List.getD,hj]
 generalize xs.getD j 0=x at hc2 hmem;clear hr ho ho' hn
 go_wp2
 go_ret;exact⟨x,rfl,hmem,hS',hg⟩
theorem Src.grown{B b T:Nat}{w w':World}{row:Option Nat}(h:Src B w b T)(hg:w.grownBy w' row)(hne:some b≠row)(hB:∀k,row=some k→B≤k):Src B w' b T:=
 h.kept hg.size (hg.block b h.lt.2 hne) (fun k hk=>hg.block k (by have:=h.lt;omega) (fun e=>by have:=hB k e.symm;omega))
theorem z0h{w wr w':World}{b:Nat}(hg:w.grownBy wr (some b))(hb:Below w.heap.size wr w'):w.grownBy w' (some b):=
 ⟨hb.os.trans hg.os,hb.tape.trans hg.tape,hb.output.trans hg.output,by have:=hg.size;have:=hb.size;omega,fun k hk hne=>(hb.block k hk).trans (hg.block k hk hne)⟩
theorem Src.low{B b T N:Nat}{w w':World}(h:Src B w b T)(hb:Below N w w')(hN:b<N):Src B w' b T:=
 h.kept hb.size (hb.block b hN) (fun k hk=>hb.block k (by have:=h.lt;omega))
theorem z1J(xs:List ActD)(z:ActD):z0j (xs++[z])=z0j xs++[.int .i64 z.kind,.int .i64 z.key,.int .i64 z.val]:=by simp[z0j,ActD.cells]
theorem z5k(B b T:Nat)(w:World)(hS:Src B w b T)(hT:T≤1000000):
  Calls Tryz.prog 155 #[.pointer (some ⟨b,0,none⟩)] w fun e w'=>∃k y z:Int,e=.returned (.agg #[.int .i64 k,.int .i64 y,.int .i64 z])∧Src B w' b (T+3)∧w.grownBy w' (some b):=by
 have G:=hS.lt;have B0:=Blk.new w 163 #[.int .i64 0,.int .i64 0,.int .i64 0];have hg:w.grownBy (w.alloc (.cells #[.int .i64 0,.int .i64 0,.int .i64 0] 163)) (some b):=World.grownBy_alloc w _ _;replace hS:Src B (w.alloc (.cells #[.int .i64 0,.int .i64 0,.int .i64 0] 163)) b T:=hS.below (by go_grown);go_enter Tryz.func155,Tryz.ntmps155
 go_wp2_with fail
 have C:w.heap.size+1=(w.alloc (.cells #[.int .i64 0,.int .i64 0,.int .i64 0] 163)).heap.size:=by simp
 generalize w.alloc (.cells #[.int .i64 0,.int .i64 0,.int .i64 0] 163)=W1 at B0 hg hS C;try simp only[C]
 replace C:w.heap.size<W1.heap.size:=by omega
 have J:=hS.lt;have d:Below W1.heap.size W1 (W1.alloc (.cells #[.int .i64 1,.int .i64 1,.int .i64 2,.int .i64 2,.int .i64 3,.int .i64 4] 2)):=by go_grown
 replace B0:=B0.below d;replace hg:=hg.trans (World.grownBy_alloc W1 (.cells #[.int .i64 1,.int .i64 1,.int .i64 2,.int .i64 2,.int .i64 3,.int .i64 4] 2) (some b));refine(z06 B b T W1.heap.size _ [1,1,2,2,3,4] _ (hS.below (by go_grown)) (by omega) (World.ownsRow_lit W1 _ 6 (Nat.le_refl _) (by decide) rfl) (by simp) (by simp) (by simp[Value.ownBlock];omega)).mono ?_;rintro e w3 ⟨k,rfl,x,q,c⟩;replace B0:=B0.grown c (by simp;omega);replace hg:=hg.trans c;replace hS:=q;have M:=c.size;clear c q;clear x
 go_wp2_with fail
 refine(z0m B b (T+1) 4 w3 hS (by omega) (by omega)).mono ?_;rintro e w4 ⟨r,rfl,hr,q,c⟩;have r1:=hr.1;have r2:=hr.2.1 (by omega);replace B0:=B0.grown c (by simp;omega);replace hg:=hg.trans c;replace hS:=q;have N:=c.size;clear c q;clear hr;have d:Below w4.heap.size w4 (w4.alloc (.cells #[.int .i64 k,.int .i64 (1+r),.int .i64 0] 163)):=by go_grown
 have B1:=Blk.new w4 163 #[.int .i64 k,.int .i64 (1+r),.int .i64 0];have I:=B0.lt;have A:=B0;have D:=hS;have E:=hg;replace B0:=B0.below d;replace hS:=hS.below d;have W:=hg.size;replace hg:=z0h hg (d.mono W);have q0:=B1.cell 0 _ rfl;clear d;by_cases hk:k=3
 ·have V:(k !=3)=false:=by simp[hk]
  obtain⟨p0,p1,p2⟩:=A.cel3;obtain⟨f0,f1,f2⟩:=A.frz3;clear B0 B1 A hS hg hk q0
  go_wp2
  refine bodyPost_ret (v:=.agg #[.int .i64 k,.int .i64 (1+r),.int .i64 0]) (by simp[results,Tryz.results155,go_sem,p0,p1,p2,I]) rfl ?_;have s:∀O,Below w.heap.size w4 ((((w4.setCell ⟨w.heap.size,0,none⟩ (.int .i64 k)).setCell ⟨w.heap.size,1,none⟩ (.int .i64 (1+r))).setCell ⟨w.heap.size,2,none⟩ (.int .i64 0)).alloc O):=fun O=>
   ((((Below.refl _ _).setCell (p:=⟨w.heap.size,0,none⟩) (Nat.le_refl _) _).setCell (p:=⟨w.heap.size,1,none⟩) (Nat.le_refl _) _).setCell (p:=⟨w.heap.size,2,none⟩) (Nat.le_refl _) _).alloc (by simp[World.setCell];omega) O
  exact⟨_,_,_,rfl,(D.low (s _) G.2).mono (by omega),z0h E (s _)⟩
 ·have V:(k !=3)=true:=by simp[bne_iff_ne,hk]
  clear A D E
  go_wp2_with fail
  clear q0;have L:w4.heap.size+1=(w4.alloc (.cells #[.int .i64 k,.int .i64 (1+r),.int .i64 0] 163)).heap.size:=by simp
  generalize w4.alloc (.cells #[.int .i64 k,.int .i64 (1+r),.int .i64 0] 163)=W5 at*;simp only[L];clear L;have J:=hS.lt;have d:Below W5.heap.size W5 (W5.alloc (.cells #[.int .i64 0,.int .i64 1,.int .i64 5,.int .i64 (-3),.int .i64 1000] 2)):=by go_grown
  replace B0:=B0.below d;replace B1:=B1.below d;replace hg:=hg.trans (World.grownBy_alloc W5 (.cells #[.int .i64 0,.int .i64 1,.int .i64 5,.int .i64 (-3),.int .i64 1000] 2) (some b));refine(z06 B b (T+1+1) W5.heap.size _ [0,1,5,-3,1000] _ (hS.below (by go_grown)) (by omega) (World.ownsRow_lit W5 _ 5 (Nat.le_refl _) (by decide) rfl) (by simp) (by simp) (by simp[Value.ownBlock];omega)).mono ?_;rintro e w6 ⟨z,rfl,x,q,c⟩;replace B0:=B0.grown c (by simp;omega);replace B1:=B1.grown c (by simp;omega);replace hg:=hg.trans c;replace hS:=q;have U:=c.size;clear c q;clear x;have Y:w4.heap.size<w6.heap.size:=B1.lt;obtain⟨q0,q1,q2⟩:=B1.cel3;have g2:=B1.frozen 2;obtain⟨p0,p1,p2⟩:=B0.cel3;obtain⟨f0,f1,f2⟩:=B0.frz3;have X:w.heap.size≠w4.heap.size:=by omega
  clear B0 B1 hk
  go_wp2
  refine bodyPost_ret (v:=.agg #[.int .i64 k,.int .i64 (1+r),.int .i64 z]) (by simp[results,Tryz.results155,go_sem,p0,p1,p2]) rfl ?_;have s:Below w.heap.size w6 ((((w6.setCell ⟨w4.heap.size,2,none⟩ (.int .i64 z)).setCell ⟨w.heap.size,0,none⟩ (.int .i64 k)).setCell ⟨w.heap.size,1,none⟩ (.int .i64 (1+r))).setCell ⟨w.heap.size,2,none⟩ (.int .i64 z)):=by
   exact((((Below.refl _ _).setCell (p:=⟨w4.heap.size,2,none⟩) (show w.heap.size≤w4.heap.size by omega) _).setCell (p:=⟨w.heap.size,0,none⟩) (Nat.le_refl _) _).setCell (p:=⟨w.heap.size,1,none⟩) (Nat.le_refl _) _).setCell (p:=⟨w.heap.size,2,none⟩) (Nat.le_refl _) _
  exact⟨_,_,_,rfl,(hS.low s G.2).mono (by omega),z0h hg s⟩
theorem z3f(B b T:Nat)(w:World)(hS:Src B w b T)(hT:T≤900000):
  Calls Tryz.prog 96 #[.pointer (some ⟨b,0,none⟩)] w fun e w'=>∃ (i s q:Int) (a:Option Addr) (c:Nat) (xs:List ActD),e=.returned (.agg #[.int .i64 i,.int .i64 s,.int .i64 q,.slice a xs.length c])∧1≤xs.length∧xs.length≤3∧
   w'.ownsRow w.heap.size 163 3 (.slice a xs.length c) xs.length (z0j xs)∧Src B w' b (T+13)∧w.grownBy w' (some b):=by
 have al:=hS.lt;have B0:=Blk.new w 44 #[.int .i64 0,.int .i64 0,.int .i64 0,.slice none 0 0];have hg:w.grownBy (w.alloc (.cells #[.int .i64 0,.int .i64 0,.int .i64 0,.slice none 0 0] 44)) (some b):=World.grownBy_alloc w _ _;replace hS:Src B (w.alloc (.cells #[.int .i64 0,.int .i64 0,.int .i64 0,.slice none 0 0] 44)) b T:=hS.below (by go_grown);go_enter Tryz.func96,Tryz.ntmps96
 go_wp2_with fail
 generalize w.alloc (.cells #[.int .i64 0,.int .i64 0,.int .i64 0,.slice none 0 0] 44)=W1 at B0 hg hS;refine(z0m B b T 12 W1 hS (by omega) (by omega)).mono ?_;rintro e w3 ⟨r,rfl,hr,x,d⟩;have r1:=hr.1;have r2:=hr.2.1 (by omega);replace B0:=B0.grown d (by simp;omega);replace hg:=hg.trans d;replace hS:=x;have N:=d.size;clear d x;clear hr
 go_wp2_with fail
 refine(z0m B b (T+1) 3 w3 hS (by omega) (by omega)).mono ?_;rintro e w4 ⟨s,rfl,hr,x,d⟩;have s1:=hr.1;have s2:=hr.2.1 (by omega);replace B0:=B0.grown d (by simp;omega);replace hg:=hg.trans d;replace hS:=x;have O:=d.size;clear d x;clear hr
 go_wp2_with fail
 refine(z0m B b (T+1+1) 4 w4 hS (by omega) (by omega)).mono ?_;rintro e w5 ⟨q,rfl,hr,x,d⟩;have q1:=hr.1;have q2:=hr.2.1 (by omega);replace B0:=B0.grown d (by simp;omega);replace hg:=hg.trans d;replace hS:=x;have U:=d.size;clear d x;clear hr;have A:Below w5.heap.size w5 (w5.alloc (.cells #[.int .i64 (1+r),.int .i64 (1+s),.int .i64 (1+q),.slice none 0 0] 44)):=by go_grown
 have Bt:=Blk.new w5 44 #[.int .i64 (1+r),.int .i64 (1+s),.int .i64 (1+q),.slice none 0 0];have ax:w.heap.size<w5.heap.size:=B0.lt;replace B0:=B0.below A;replace hS:=hS.below A;replace hg:=z0h hg (A.mono hg.size)
 go_wp2_with fail
 have ad:(w5.alloc (.cells #[.int .i64 (1+r),.int .i64 (1+s),.int .i64 (1+q),.slice none 0 0] 44)).heap.size=w5.heap.size+1:=by simp
 generalize w5.alloc (.cells #[.int .i64 (1+r),.int .i64 (1+s),.int .i64 (1+q),.slice none 0 0] 44)=W6 at B0 Bt hS hg ad;clear A;refine(z0m B b (T+1+1+1) 3 W6 hS (by omega) (by omega)).mono ?_;rintro e w7 ⟨k,rfl,hr,x,d⟩;have k1:=hr.1;have k2:=hr.2.1 (by omega);replace B0:=B0.grown d (by simp;omega);replace Bt:=Bt.grown d (by simp;omega);replace hg:=hg.trans d;replace hS:=x;have V:=d.size;clear d x;clear hr;obtain⟨j0,rfl⟩:=Int.eq_ofNat_of_zero_le k1;have ar:j0≤2:=by omega
 have ae:w5.heap.size+1≤w7.heap.size:=by omega
 clear k1 k2 ad V N O U;have aw:(0:Int)≤1+r∧1+r≤100:=by omega
 go_wp2
 go_loopw[4] (fun c wr=>∃ (j:Nat) (xs:List ActD) (a1:Option Addr) (c1:Nat),c=.int .i64 j∧j+xs.length≤3∧1≤j+xs.length∧Blk wr w.heap.size 44 #[.int .i64 0,.int .i64 0,.int .i64 0,.slice none 0 0]∧Blk wr w5.heap.size 44 #[.int .i64 (1+r),.int .i64 (1+s),.int .i64 (1+q),.slice a1 xs.length c1]∧wr.ownsRow (w5.heap.size+1) 163 3 (.slice a1 xs.length c1) xs.length (z0j xs)∧Src B wr b (T+4+3*xs.length)∧w.grownBy wr (some b)∧w5.heap.size+1≤wr.heap.size) (fun c _=>(intOf c).toNat)
 case atStart=>exact⟨j0+1,[],none,0,by go_num,by simp;omega,by simp,B0,Bt,World.ownsRow_nil _ _ _ _,hS,hg,ae⟩
 case round=>
  clear B0 Bt hS hg ae;obtain⟨j,xs,a1,c1,rfl,av,au,B0,Bt,ho,hS,hg,ag⟩:=hrel;by_cases ap:0<j
  ·have am:some b≠Value.ownBlock (.slice a1 xs.length c1):=z2F ho (Or.inl (by omega));have t3:wr.cell? ⟨w5.heap.size,3,none⟩=some (.slice a1 xs.length c1):=Bt.cell 3 _ rfl;generalize hP:(fun u:World=>u.cell? ⟨w5.heap.size,3,none⟩=some (.slice a1 xs.length c1))=PP;have X:PP wr:=by subst hP;exact t3
   have ak:∀u:KeepP PP,u.val.cell? ⟨w5.heap.size,3,none⟩=some (.slice a1 xs.length c1):=fun u=>by have:=u.isP;subst hP;exact this
   have an:Nonempty (KeepP PP):=⟨⟨wr,X⟩⟩
   go_wp2_with fail
   refine z4i (S:=fun w'=>∃u:KeepP PP,w'=u.val) (R:=fun _ _=>False) 7 (by kernel_rfl) (fun _ _ _ _ h=>h.elim) ?_;have Z:PP wr.drew:=by subst hP;exact X
   refine sgX [(0,3)] 5 (by kernel_rfl) ⟨⟨wr.drew,Z⟩,rfl⟩ ?_;simp only[pkE];repeat go_big_quiet_step (fail)
   refine wpQuiet_nil ?_;clear ak an X t3 Z;replace Bt:Blk wr.drew w5.heap.size 44 #[.int .i64 (1+r),.int .i64 (1+s),.int .i64 (1+q),.slice a1 xs.length c1]:=Bt;replace B0:Blk wr.drew w.heap.size 44 #[.int .i64 0,.int .i64 0,.int .i64 0,.slice none 0 0]:=B0;replace ho:=ho.drew;have Y:Below wr.heap.size wr wr.drew:=(Below.refl _ _).drew;replace hS:=hS.below Y;replace hg:=z0h hg (Y.mono hg.size);have C:∀u:World,Blk u w5.heap.size 44 #[.int .i64 (1+r),.int .i64 (1+s),.int .i64 (1+q),.slice a1 xs.length c1]→PP u:=by
    intro u hu;subst hP;exact hu.cell 3 _ rfl
   clear hP Y;have L:w5.heap.size+1≤wr.drew.heap.size:=ag;generalize wr.drew=wd at Bt B0 ho hS hg L;refine clX 3 (some 25) 155 #[.pointer (some ⟨b,0,none⟩)] 4 (by kernel_rfl) rfl ?_;refine(z5k B b (T+4+3*xs.length) wd hS (by omega)).mono ?_;rintro e w8 ⟨k,y,z,rfl,x,d⟩;refine Or.inl ⟨_,rfl,?_⟩;replace Bt:=Bt.grown d (by simp;omega);replace B0:=B0.grown d (by simp;omega);replace ho:=ho.kept d (Or.inr (fun e=>am e.symm));replace hg:=hg.trans d;replace hS:=x;have aq:w5.heap.size+1≤w8.heap.size:=Nat.le_trans L d.size;clear d x ag L;refine⟨⟨⟨w8,C _ Bt⟩,rfl⟩,?_⟩;simp only[Act.put,pgE,pjE];have A:Below w8.heap.size w8 (w8.alloc (.cells #[.int .i64 k,.int .i64 y,.int .i64 z] 163)):=by go_grown
   refine onX 4 3 rfl (by kernel_rfl) ?_
   go_wp2
   replace Bt:=Bt.below A;replace B0:=B0.below A;replace hS:=hS.below A;replace hg:=z0h hg (A.mono hg.size);refine ThenX.to ⟨Or.inr ⟨⟨_,C _ Bt⟩,rfl⟩,?_⟩;have I:(w5.heap.size+1)≤(w8.alloc (.cells #[.int .i64 k,.int .i64 y,.int .i64 z] 163)).heap.size:=by simp;omega
   have J:∀j u,[Value.int .i64 k,.int .i64 y,.int .i64 z][j]?=some u→(w8.alloc (.cells #[.int .i64 k,.int .i64 y,.int .i64 z] 163)).cell? ((⟨w8.heap.size,0,none⟩:Addr).add j)=some u:=by
    intro j u hj;match j,hj with|0,hj=>simp at hj;subst hj;simp[Addr.add]|1,hj=>simp at hj;subst hj;simp[Addr.add]|2,hj=>simp at hj;subst hj;simp[Addr.add]
   replace ho:=z0n ho A;generalize w8.alloc (.cells #[.int .i64 k,.int .i64 y,.int .i64 z] 163)=wb at A Bt B0 hS hg I J ho;obtain⟨i0,hi,ah,ai,aj⟩:=info_parts z20;refine onX 5 2 rfl (by kernel_rfl) ?_;refine wpList_append_own _ rfl _ _ 42 rfl (w5.heap.size+1) 163 i0 (.agg #[.int .i64 0,.int .i64 0,.int .i64 0]) 3 24 Tryz.underlying42 hi ah ai aj rfl (by decide) _ xs.length (z0j xs) rfl ho ⟨w8.heap.size,0,none⟩ 1 1 [.int .i64 k,.int .i64 y,.int .i64 z] rfl rfl J ?c2 ?c3 ?c4 ?c5 ?_
   case c2=>intro u hu;simp at hu;rcases hu with rfl|rfl|rfl<;>rfl
   case c3=>unfold maxLen;omega
   case c4=>omega
   case c5=>exact I
   intro v' wc G E _;obtain⟨a2,c2,rfl⟩:=z0p G;have ab:∀j,(Value.slice a1 xs.length c1).ownBlock=some j→(w5.heap.size+1)≤j:=fun j hj=>(ho.lt j hj).1
   have D:Below (w5.heap.size+1) wb wc:=(Below.refl _ _).grown E I ab;have af:(w5.heap.size+1)≤wc.heap.size:=Nat.le_trans I D.size;replace Bt:Blk wc w5.heap.size 44 #[.int .i64 (1+r),.int .i64 (1+s),.int .i64 (1+q),.slice a1 xs.length c1]:=(D.block _ (by omega)).trans Bt;replace B0:Blk wc w.heap.size 44 #[.int .i64 0,.int .i64 0,.int .i64 0,.slice none 0 0]:=(D.block _ (by omega)).trans B0;replace hS:=hS.low D (by omega);replace hg:=z0h hg (D.mono (by omega));clear E ab D ho A J
   go_wp2
   refine ThenX.to ⟨Or.inr ⟨⟨_,C _ Bt⟩,rfl⟩,?_⟩;simp only[Act.put,pgE,pjE];refine onX 6 1 rfl (by kernel_rfl) ?_
   go_wp2
   refine ThenX.to ⟨Or.inr ⟨⟨_,C _ Bt⟩,rfl⟩,?_⟩;refine onX 7 0 rfl (by kernel_rfl) ?_;have t3:=Bt.cell 3 _ rfl;have t4:=Bt.frozen 3
   go_wp2
   clear t3 t4 C;refine ThenX.to ⟨Or.inl (by kernel_rfl),?_⟩;refine q0b (by kernel_rfl) ?_;have M:Below w5.heap.size wc (wc.setCell ⟨w5.heap.size,3,none⟩ (.slice a2 (xs.length+1) c2)):=(Below.refl _ _).setCell (p:=⟨w5.heap.size,3,none⟩) (Nat.le_refl _) _;replace Bt:Blk (wc.setCell ⟨w5.heap.size,3,none⟩ (.slice a2 (xs.length+1) c2)) w5.heap.size 44 #[.int .i64 (1+r),.int .i64 (1+s),.int .i64 (1+q),.slice a2 (xs.length+1) c2]:=by
    have:=Go.Joins.block_setCell (i:=3) (v:=.slice a2 (xs.length+1) c2) Bt;unfold Blk;simpa using this
   replace B0:=(M.block _ (by omega)).trans B0;have ho:=ownsRow_setCell_below (a:=⟨w5.heap.size,3,none⟩) G (by dsimp only;omega) (.slice a2 (xs.length+1) c2);replace hS:=hS.low M (by omega);replace hg:=z0h hg (M.mono (by omega));have W:(w5.heap.size+1)≤(wc.setCell ⟨w5.heap.size,3,none⟩ (.slice a2 (xs.length+1) c2)).heap.size:=by simpa[World.setCell]using af
   clear af I G hi ah ai aj M;generalize wc.setCell ⟨w5.heap.size,3,none⟩ (.slice a2 (xs.length+1) c2)=w9 at Bt B0 ho hS hg W;have ao:w9.ownsRow (w5.heap.size+1) 163 3 (.slice a2 (xs.length+1) c2) (xs.length+1) (z0j (xs++[⟨k,y,z⟩])):=by rw[z1J];exact ho
   clear ho
   go_wp2
   go_roundw
   case rel=>
    refine⟨j-1,xs++[⟨k,y,z⟩],a2,c2,by go_num,by simp;omega,by simp;omega,B0,by simpa using Bt,by simpa using ao,hS.mono (by simp;omega),hg,W⟩
   case measure=>simp[intOf];omega
  ·have p0:=B0.cell 0 _ rfl;have p1:=B0.cell 1 _ rfl;have p2:=B0.cell 2 _ rfl;have p3:=B0.cell 3 _ rfl;obtain⟨f0,f1,f2,f3⟩:=B0.frz4;obtain⟨q0,q1,q2,q3⟩:=Bt.cel4;clear B0 Bt
   go_wp2
   refine bodyPost_ret (v:=.agg #[.int .i64 (1+r),.int .i64 (1+s),.int .i64 (1+q),.slice a1 xs.length c1]) (by simp[results,Tryz.results96,go_sem,p0,p1,p2,p3]) rfl ?_;have aa:∀v0 v1 v2 v3:Value,Below (w.heap.size) wr ((((wr.setCell ⟨w.heap.size,0,none⟩ v0).setCell ⟨w.heap.size,1,none⟩ v1).setCell ⟨w.heap.size,2,none⟩ v2).setCell ⟨w.heap.size,3,none⟩ v3):=fun v0 v1 v2 v3=>
    ((((Below.refl _ _).setCell (p:=⟨w.heap.size,0,none⟩) (Nat.le_refl _) _).setCell (p:=⟨w.heap.size,1,none⟩) (Nat.le_refl _) _).setCell (p:=⟨w.heap.size,2,none⟩) (Nat.le_refl _) _).setCell (p:=⟨w.heap.size,3,none⟩) (Nat.le_refl _) _
   refine⟨_,_,_,a1,c1,xs,rfl,by omega,by omega,?_,(hS.low (aa _ _ _ _) al.2).mono (by omega),z0h hg (aa _ _ _ _)⟩;refine z0R (base:=w5.heap.size+1) ?_ (by omega);repeat' (refine ownsRow_setCell_below ?_ (by dsimp only;omega) _)
   exact ho
section
open Go.Maps
theorem q1C:(madeCells #[Value.int .i64 0,.int .i64 0,.int .i64 0] (0*3)).toList=z0j (List.replicate 0 z0i):=by kernel_rfl
theorem q1D:(madeCells #[Value.int .i64 0,.int .i64 0,.int .i64 0] (5*3)).toList=z0j (List.replicate 5 z0i):=by kernel_rfl
theorem z9r(xs:List ActD)(h:1≤xs.length)(v:Int):∃ys:List ActD,ys.length=xs.length∧(z0j xs).set 1 (.int .i64 v)=z0j ys:=by
 cases xs with
 |nil=>simp at h
 |cons x r=>exact⟨⟨x.kind,v,x.val⟩::r,by simp,by simp[z0j,ActD.cells]⟩
theorem z7u(B b T:Nat)(w:World)(hS:Src B w b T)(hT:T≤900000):
  Calls Tryz.prog 107 #[.pointer (some ⟨b,0,none⟩)] w fun e w'=>∃ (i s q:Int) (a:Option Addr) (c:Nat) (xs:List ActD),e=.returned (.agg #[.int .i64 i,.int .i64 s,.int .i64 q,.slice a xs.length c])∧xs.length≤5∧
   w'.ownsRow w.heap.size 163 3 (.slice a xs.length c) xs.length (z0j xs)∧Src B w' b (T+15)∧w.grownBy w' (some b):=by
 have Y:=hS.lt;have B0:=Blk.new w 44 #[.int .i64 0,.int .i64 0,.int .i64 0,.slice none 0 0];have hg:w.grownBy (w.alloc (.cells #[.int .i64 0,.int .i64 0,.int .i64 0,.slice none 0 0] 44)) (some b):=World.grownBy_alloc w _ _;replace hS:Src B (w.alloc (.cells #[.int .i64 0,.int .i64 0,.int .i64 0,.slice none 0 0] 44)) b T:=hS.below (by go_grown);go_enter Tryz.func107,Tryz.ntmps107
 go_wp2_with fail
 have aq:(w.alloc (.cells #[.int .i64 0,.int .i64 0,.int .i64 0,.slice none 0 0] 44)).heap.size=w.heap.size+1:=by simp
 generalize w.alloc (.cells #[.int .i64 0,.int .i64 0,.int .i64 0,.slice none 0 0] 44)=W1 at B0 hg hS aq;refine(z3f B b T W1 hS hT).mono ?_;rintro e w2 ⟨i,s,q,a,c,xs,rfl,ax,aG,ho,z,d⟩;replace B0:=B0.grown d (by simp;omega);replace hg:=hg.trans d;replace hS:=z;rw[aq]at ho;have O:some b≠Value.ownBlock (.slice a xs.length c):=z2F ho (Or.inl (by omega));have aO:w.heap.size<w2.heap.size:=B0.lt;have G:∀k,Value.ownBlock (.slice a xs.length c)=some k→k<w2.heap.size:=fun k hk=>(ho.lt k hk).2
 clear d z aq;have y:Below w2.heap.size w2 (w2.alloc (.cells #[.int .i64 i,.int .i64 s,.int .i64 q,.slice a xs.length c] 44)):=by go_grown
 have Bt:=Blk.new w2 44 #[.int .i64 i,.int .i64 s,.int .i64 q,.slice a xs.length c];replace B0:=B0.below y;replace hS:=hS.below y;replace ho:=z0n ho y;replace hg:=z0h hg (y.mono hg.size);have I:w2.heap.size+1≤(w2.alloc (.cells #[.int .i64 i,.int .i64 s,.int .i64 q,.slice a xs.length c] 44)).heap.size:=by simp
 go_wp2_with fail
 generalize w2.alloc (.cells #[.int .i64 i,.int .i64 s,.int .i64 q,.slice a xs.length c] 44)=W3 at B0 Bt hS hg ho I;clear y;refine(z0m B b (T+13) 12 W3 hS (by omega) (by omega)).mono ?_;rintro e w4 ⟨r,rfl,hr,z,d⟩;have r1:=hr.1;have r2:=hr.2.1 (by omega);replace B0:=B0.grown d (by simp;omega);replace Bt:=Bt.grown d (by simp;omega);replace ho:=ho.kept d (Or.inr (fun e=>O e.symm));replace hg:=hg.trans d;replace hS:=z;have U:=d.size;clear d z;clear hr;replace I:w2.heap.size+1≤w4.heap.size:=Nat.le_trans I U;clear U;have X:w.heap.size≠w2.heap.size:=by omega
 have af:w2.heap.size≠w.heap.size:=by omega
 by_cases an:r=0
 ·subst an
  go_wp2_with fail
  have Z:=hS.lt;have y:Below w4.heap.size w4 (w4.alloc (.cells #[.int .i64 0,.int .i64 200,.int .i64 201] 2)):=by go_grown
  replace B0:=B0.below y;replace Bt:=Bt.below y;replace ho:=ho.alloc (.cells #[.int .i64 0,.int .i64 200,.int .i64 201] 2);replace hg:=hg.trans (World.grownBy_alloc w4 (.cells #[.int .i64 0,.int .i64 200,.int .i64 201] 2) (some b));refine(z06 B b (T+13+1) w4.heap.size _ [0,200,201] _ (hS.below (by go_grown)) (by omega) (World.ownsRow_lit w4 _ 3 (Nat.le_refl _) (by decide) rfl) (by simp) (by simp) (by simp[Value.ownBlock];omega)).mono ?_;rintro e w5 ⟨v,rfl,D,z,d⟩;replace B0:=B0.grown d (by simp;omega);replace Bt:=Bt.grown d (by simp;omega);replace ho:=ho.kept d (Or.inr (fun e=>O e.symm));replace hg:=hg.trans d;replace hS:=z;have L:=d.size;clear d z;clear D;have p0:=B0.cell 0 _ rfl;have f0:=B0.frozen 0;have q0:=Bt.cell 0 _ rfl;have p1:=B0.cell 1 _ rfl;have f1:=B0.frozen 1;have q1:=Bt.cell 1 _ rfl;have p2:=B0.cell 2 _ rfl;have f2:=B0.frozen 2;have q2:=Bt.cell 2 _ rfl;have p3:=B0.cell 3 _ rfl;have f3:=B0.frozen 3;have q3:=Bt.cell 3 _ rfl;have g0:=Bt.frozen 0;clear B0 Bt
  go_wp2
  refine bodyPost_ret (v:=.agg #[.int .i64 v,.int .i64 s,.int .i64 q,.slice a xs.length c]) (by simp[results,Tryz.results107,go_sem,p0,p1,p2,p3,af,X]) rfl ?_;have C:Below w.heap.size w5 (((((w5.setCell ⟨w2.heap.size,0,none⟩ (.int .i64 v)).setCell ⟨w.heap.size,0,none⟩ (.int .i64 v)).setCell ⟨w.heap.size,1,none⟩ (.int .i64 s)).setCell ⟨w.heap.size,2,none⟩ (.int .i64 q)).setCell ⟨w.heap.size,3,none⟩ (.slice a xs.length c)):=((((((Below.refl _ _).setCell (p:=⟨w2.heap.size,0,none⟩) (show w.heap.size≤w2.heap.size by omega) _).setCell (p:=⟨w.heap.size,0,none⟩) (Nat.le_refl _) _).setCell (p:=⟨w.heap.size,1,none⟩) (Nat.le_refl _) _).setCell (p:=⟨w.heap.size,2,none⟩) (Nat.le_refl _) _).setCell (p:=⟨w.heap.size,3,none⟩) (Nat.le_refl _) _)
  refine⟨v,s,q,a,c,xs,rfl,by omega,?_,(hS.low C Y.2).mono (by omega),z0h hg C⟩;refine z0R (base:=w.heap.size+1) ?_ (by omega);repeat' (first|refine ownsRow_setCell_below ?_ (show _<w.heap.size+1 from Nat.lt_succ_self _) _|refine z0Z ?_ (by intro k hk;have:=G k hk;omega))
  exact ho
 have aI:(r==0)=false:=by simpa using an
 by_cases ao:r=1
 ·subst ao;have t3:w4.cell? ⟨w2.heap.size,3,none⟩=some (.slice a xs.length c):=Bt.cell 3 _ rfl;generalize hP:(fun u:World=>u.cell? ⟨w2.heap.size,3,none⟩=some (.slice a xs.length c))=PP;have M:PP w4:=by subst hP;exact t3
  have ak:∀u:KeepP PP,u.val.cell? ⟨w2.heap.size,3,none⟩=some (.slice a xs.length c):=fun u=>by have:=u.isP;subst hP;exact this
  have am:Nonempty (KeepP PP):=⟨⟨w4,M⟩⟩
  go_wp2_with fail
  refine z4i (S:=fun w'=>∃u:KeepP PP,w'=u.val) (R:=fun _ _=>False) 9 (by kernel_rfl) (fun _ _ _ _ h=>h.elim) ?_;have V:PP w4.drew:=by subst hP;exact M
  refine sgX [(0,3)] 7 (by kernel_rfl) ⟨⟨w4.drew,V⟩,rfl⟩ ?_;simp only[pkE];repeat go_big_quiet_step (fail)
  refine wpQuiet_nil ?_;clear ak am M t3 V;replace Bt:Blk w4.drew w2.heap.size 44 #[.int .i64 i,.int .i64 s,.int .i64 q,.slice a xs.length c]:=Bt;replace B0:Blk w4.drew w.heap.size 44 #[.int .i64 0,.int .i64 0,.int .i64 0,.slice none 0 0]:=B0;replace ho:=ho.drew;have N:Below w4.heap.size w4 w4.drew:=(Below.refl _ _).drew;replace hS:=hS.below N;replace hg:=z0h hg (N.mono hg.size);have x:∀u:World,Blk u w2.heap.size 44 #[.int .i64 i,.int .i64 s,.int .i64 q,.slice a xs.length c]→PP u:=by
   intro u hu;subst hP;exact hu.cell 3 _ rfl
  clear hP N;replace I:w2.heap.size+1≤w4.drew.heap.size:=I;generalize w4.drew=wd at Bt B0 ho hS hg I;have Z:=hS.lt;have A:Below wd.heap.size wd (wd.alloc (.cells #[.int .i64 0,.int .i64 3,.int .i64 5] 2)):=by go_grown
  refine onX 3 6 rfl (by kernel_rfl) ?_
  go_wp2
  replace Bt:=Bt.below A;replace B0:=B0.below A;replace ho:=z0n ho A;replace hg:=z0h hg (A.mono hg.size);refine ThenX.to ⟨Or.inr ⟨⟨_,x _ Bt⟩,rfl⟩,?_⟩;refine clX 4 (some 20) 106 #[.pointer (some ⟨b,0,none⟩),.slice (some ⟨wd.heap.size,0,none⟩) 3 3] 5 (by kernel_rfl) rfl ?_;refine(z06 B b (T+13+1) wd.heap.size _ [0,3,5] _ (hS.below A) (by omega) (World.ownsRow_lit wd _ 3 (Nat.le_refl _) (by decide) rfl) (by simp) (by simp) (by simp[Value.ownBlock];omega)).mono ?_;rintro e w5 ⟨k,rfl,D,z,d⟩;refine Or.inl ⟨_,rfl,?_⟩;replace Bt:=Bt.grown d (by simp;omega);replace B0:=B0.grown d (by simp;omega);replace ho:=ho.kept d (Or.inr (fun e=>O e.symm));replace hg:=hg.trans d;replace hS:=z;have aE:w2.heap.size+1≤w5.heap.size:=by have:=d.size;have:=A.size;omega
  clear d z D I A;refine⟨⟨⟨w5,x _ Bt⟩,rfl⟩,?_⟩;simp only[Act.put,pgE,pjE];refine onX 5 4 rfl (by kernel_rfl) ?_
  go_wp2
  refine ThenX.to ⟨Or.inr ⟨⟨_,x _ Bt⟩,rfl⟩,?_⟩;have y:Below w5.heap.size w5 (w5.alloc (.cells #[.int .i64 k,.int .i64 1,.int .i64 1] 163)):=by go_grown
  refine onX 6 3 rfl (by kernel_rfl) ?_
  go_wp2
  replace Bt:=Bt.below y;replace B0:=B0.below y;replace hS:=hS.below y;replace hg:=z0h hg (y.mono hg.size);refine ThenX.to ⟨Or.inr ⟨⟨_,x _ Bt⟩,rfl⟩,?_⟩;have aF:w5.heap.size+1≤(w5.alloc (.cells #[.int .i64 k,.int .i64 1,.int .i64 1] 163)).heap.size:=by simp
  have ad:∀j u,[Value.int .i64 k,.int .i64 1,.int .i64 1][j]?=some u→(w5.alloc (.cells #[.int .i64 k,.int .i64 1,.int .i64 1] 163)).cell? ((⟨w5.heap.size,0,none⟩:Addr).add j)=some u:=by
   intro j u hj;match j,hj with|0,hj=>simp at hj;subst hj;simp[Addr.add]|1,hj=>simp at hj;subst hj;simp[Addr.add]|2,hj=>simp at hj;subst hj;simp[Addr.add]
  replace ho:=z0n ho y;generalize w5.alloc (.cells #[.int .i64 k,.int .i64 1,.int .i64 1] 163)=wb at y Bt B0 hS hg aF ad ho;obtain⟨i0,hi,ah,ai,aj⟩:=info_parts z20;refine onX 7 2 rfl (by kernel_rfl) ?_;refine wpList_append_own_at _ rfl _ _ 42 rfl (w.heap.size+1) 163 i0 (.agg #[.int .i64 0,.int .i64 0,.int .i64 0]) 3 24 Tryz.underlying42 hi ah ai aj rfl (by decide) _ xs.length (z0j xs) rfl ho ⟨w5.heap.size,0,none⟩ 1 1 [.int .i64 k,.int .i64 1,.int .i64 1] rfl rfl ad ?c2 ?c3 ?c4 ?c5 ?_
  case c2=>intro u hu;simp at hu;rcases hu with rfl|rfl|rfl<;>rfl
  case c3=>unfold maxLen;omega
  case c4=>omega
  case c5=>omega
  intro v' wc aa E _ ar;obtain⟨a2,c2,rfl⟩:=z0p aa;have aw:∀j,(Value.slice a xs.length c).ownBlock=some j→w.heap.size+1≤j:=fun j hj=>(ho.lt j hj).1
  have ag:Below (w.heap.size+1) wb wc:=(Below.refl _ _).grown E (by omega) aw;replace Bt:Blk wc w2.heap.size 44 #[.int .i64 i,.int .i64 s,.int .i64 q,.slice a xs.length c]:=Bt.grown E (fun e=>by have:=G _ e.symm;omega);replace B0:Blk wc w.heap.size 44 #[.int .i64 0,.int .i64 0,.int .i64 0,.slice none 0 0]:=(ag.block _ (by omega)).trans B0;replace hS:=hS.low ag (by omega);replace hg:=z0h hg (ag.mono (by omega));have au:∀j,(Value.slice a2 (xs.length+1) c2).ownBlock=some j→j≠w2.heap.size:=by
   intro j hj;rcases ar with e|e
   ·rw[e]at hj;have:=G j hj;omega
   ·rw[e]at hj;simp at hj;omega
  clear E aw ag ho y ad ar G O
  go_wp2
  refine ThenX.to ⟨Or.inr ⟨⟨_,x _ Bt⟩,rfl⟩,?_⟩;simp only[Act.put,pgE,pjE];refine onX 8 1 rfl (by kernel_rfl) ?_
  go_wp2
  refine ThenX.to ⟨Or.inr ⟨⟨_,x _ Bt⟩,rfl⟩,?_⟩;refine onX 9 0 rfl (by kernel_rfl) ?_;have t3:=Bt.cell 3 _ rfl;have t4:=Bt.frozen 3
  go_wp2
  clear t3 t4 x;refine ThenX.to ⟨Or.inl (by kernel_rfl),?_⟩;refine q0b (by kernel_rfl) ?_;have J:Below w2.heap.size wc (wc.setCell ⟨w2.heap.size,3,none⟩ (.slice a2 (xs.length+1) c2)):=(Below.refl _ _).setCell (p:=⟨w2.heap.size,3,none⟩) (Nat.le_refl _) _;replace Bt:Blk (wc.setCell ⟨w2.heap.size,3,none⟩ (.slice a2 (xs.length+1) c2)) w2.heap.size 44 #[.int .i64 i,.int .i64 s,.int .i64 q,.slice a2 (xs.length+1) c2]:=by
   have:=Go.Joins.block_setCell (i:=3) (v:=.slice a2 (xs.length+1) c2) Bt;unfold Blk;simpa using this
  replace B0:=(J.block _ (by omega)).trans B0;replace B0:Blk (wc.setCell ⟨w2.heap.size,3,none⟩ (.slice a2 (xs.length+1) c2)) w.heap.size 44 #[.int .i64 0,.int .i64 0,.int .i64 0,.slice none 0 0]:=B0;have ho:=z0Z (g:=w2.heap.size) (j:=3) (u:=.slice a2 (xs.length+1) c2) aa au;replace hS:=hS.low J (by omega);replace hg:=z0h hg (J.mono (by omega));clear aa hi ah ai aj J;generalize wc.setCell ⟨w2.heap.size,3,none⟩ (.slice a2 (xs.length+1) c2)=w9 at Bt B0 ho hS hg;replace ho:w9.ownsRow (w.heap.size+1) 163 3 (.slice a2 (xs.length+1) c2) (xs.length+1) (z0j (xs++[⟨k,1,1⟩])):=by rw[z1J];exact ho
  have p0:=B0.cell 0 _ rfl;have f0:=B0.frozen 0;have q0:=Bt.cell 0 _ rfl;have p1:=B0.cell 1 _ rfl;have f1:=B0.frozen 1;have q1:=Bt.cell 1 _ rfl;have p2:=B0.cell 2 _ rfl;have f2:=B0.frozen 2;have q2:=Bt.cell 2 _ rfl;have p3:=B0.cell 3 _ rfl;have f3:=B0.frozen 3;have q3:=Bt.cell 3 _ rfl;clear B0 Bt
  go_wp2
  refine bodyPost_ret (v:=.agg #[.int .i64 i,.int .i64 s,.int .i64 q,.slice a2 (xs.length+1) c2]) (by simp[results,Tryz.results107,go_sem,p0,p1,p2,p3,af,X]) rfl ?_;have C:Below w.heap.size w9 ((((w9.setCell ⟨w.heap.size,0,none⟩ (.int .i64 i)).setCell ⟨w.heap.size,1,none⟩ (.int .i64 s)).setCell ⟨w.heap.size,2,none⟩ (.int .i64 q)).setCell ⟨w.heap.size,3,none⟩ (.slice a2 (xs.length+1) c2)):=(((((Below.refl _ _).setCell (p:=⟨w.heap.size,0,none⟩) (Nat.le_refl _) _).setCell (p:=⟨w.heap.size,1,none⟩) (Nat.le_refl _) _).setCell (p:=⟨w.heap.size,2,none⟩) (Nat.le_refl _) _).setCell (p:=⟨w.heap.size,3,none⟩) (Nat.le_refl _) _)
  refine⟨i,s,q,a2,c2,xs++[⟨k,1,1⟩],by simp,by simp;omega,?_,(hS.low C Y.2).mono (by omega),z0h hg C⟩;rw[List.length_append,List.length_singleton];refine z0R (base:=w.heap.size+1) ?_ (by omega);repeat' (first|refine ownsRow_setCell_below ?_ (show _<w.heap.size+1 from Nat.lt_succ_self _) _|refine z0Z ?_ (by intro k hk;have:=G k hk;omega))
  exact ho
 have aJ:(r==1)=false:=by simpa using ao
 by_cases ab:r=2
 ·subst ab;obtain⟨ga,rfl⟩:∃ga,a=some ⟨ga,0,none⟩:=by
   rcases ho.2 with⟨he,h0⟩|⟨g,cap,aL,he,_⟩
   ·omega
   ·simp only[Value.slice.injEq]at he;exact⟨g,he.1⟩
  have aM:=G ga rfl;have av:w.heap.size+1≤ga:=(ho.lt ga rfl).1;have t3:w4.cell? ⟨w2.heap.size,3,none⟩=some (.slice (some ⟨ga,0,none⟩) xs.length c):=Bt.cell 3 _ rfl;generalize hP:(fun u:World=>u.cell? ⟨w2.heap.size,3,none⟩=some (.slice (some ⟨ga,0,none⟩) xs.length c))=PP;have M:PP w4:=by subst hP;exact t3
  have ak:∀u:KeepP PP,u.val.cell? ⟨w2.heap.size,3,none⟩=some (.slice (some ⟨ga,0,none⟩) xs.length c):=fun u=>by have:=u.isP;subst hP;exact this
  have am:Nonempty (KeepP PP):=⟨⟨w4,M⟩⟩
  go_wp2_with fail
  refine z4i (S:=fun w'=>∃u:KeepP PP,w'=u.val) (R:=fun _ _=>False) 7 (by kernel_rfl) (fun _ _ _ _ h=>h.elim) ?_;have V:PP w4.drew:=by subst hP;exact M
  refine sgX [(0,3)] 5 (by kernel_rfl) ⟨⟨w4.drew,V⟩,rfl⟩ ?_;simp only[pkE];repeat go_big_quiet_step (fail)
  refine wpQuiet_nil ?_;clear ak am M t3 V;replace Bt:Blk w4.drew w2.heap.size 44 #[.int .i64 i,.int .i64 s,.int .i64 q,.slice (some ⟨ga,0,none⟩) xs.length c]:=Bt;replace B0:Blk w4.drew w.heap.size 44 #[.int .i64 0,.int .i64 0,.int .i64 0,.slice none 0 0]:=B0;replace ho:=ho.drew;have N:Below w4.heap.size w4 w4.drew:=(Below.refl _ _).drew;replace hS:=hS.below N;replace hg:=z0h hg (N.mono hg.size);have x:∀u:World,Blk u w2.heap.size 44 #[.int .i64 i,.int .i64 s,.int .i64 q,.slice (some ⟨ga,0,none⟩) xs.length c]→PP u:=by
   intro u hu;subst hP;exact hu.cell 3 _ rfl
  clear hP N;replace I:w2.heap.size+1≤w4.drew.heap.size:=I;generalize w4.drew=wd at Bt B0 ho hS hg I;have Z:=hS.lt;have A:Below wd.heap.size wd (wd.alloc (.cells #[.int .i64 0,.int .i64 20,.int .i64 21] 2)):=by go_grown
  refine onX 3 4 rfl (by kernel_rfl) ?_
  go_wp2
  replace Bt:=Bt.below A;replace B0:=B0.below A;replace ho:=z0n ho A;replace hg:=z0h hg (A.mono hg.size);refine ThenX.to ⟨Or.inr ⟨⟨_,x _ Bt⟩,rfl⟩,?_⟩;refine clX 4 (some 31) 106 #[.pointer (some ⟨b,0,none⟩),.slice (some ⟨wd.heap.size,0,none⟩) 3 3] 3 (by kernel_rfl) rfl ?_;refine(z06 B b (T+13+1) wd.heap.size _ [0,20,21] _ (hS.below A) (by omega) (World.ownsRow_lit wd _ 3 (Nat.le_refl _) (by decide) rfl) (by simp) (by simp) (by simp[Value.ownBlock];omega)).mono ?_;rintro e w5 ⟨k,rfl,D,z,d⟩;refine Or.inl ⟨_,rfl,?_⟩;replace Bt:=Bt.grown d (by simp;omega);replace B0:=B0.grown d (by simp;omega);replace ho:=ho.kept d (Or.inr (fun e=>O e.symm));replace hg:=hg.trans d;replace hS:=z;have aE:w2.heap.size+1≤w5.heap.size:=by have:=d.size;have:=A.size;omega
  clear d z D I A;refine⟨⟨⟨w5,x _ Bt⟩,rfl⟩,?_⟩;simp only[Act.put,pgE,pjE];have ay:(0:Int)<(xs.length:Int):=by omega
  refine onX 5 2 rfl (by kernel_rfl) ?_
  go_wp2
  refine ThenX.to ⟨Or.inr ⟨⟨_,x _ Bt⟩,rfl⟩,?_⟩;refine onX 6 1 rfl (by kernel_rfl) ?_
  go_wp2
  refine ThenX.to ⟨Or.inr ⟨⟨_,x _ Bt⟩,rfl⟩,?_⟩;refine onX 7 0 rfl (by kernel_rfl) ?_;have t4:w5.frozen? ⟨ga,1,none⟩=false:=ho.frozenAt 1;obtain⟨u1,t3⟩:∃u,w5.cell? ⟨ga,1,none⟩=some u:=by
   rw[ho.cellAt 1 (by omega)];exact⟨_,List.getElem?_eq_getElem (by rw[z0J];omega)⟩
  go_wp2
  clear t3 t4 x;refine ThenX.to ⟨Or.inl (by kernel_rfl),?_⟩;refine q0b (by kernel_rfl) ?_;have ae:=(ho.stored 1 (.int .i64 k)).1;obtain⟨ys,az,aA⟩:=z9r xs ax k;rw[aA]at ae;have J:Below (w.heap.size+1) w5 (w5.setCell ⟨ga,1,none⟩ (.int .i64 k)):=(Below.refl _ _).setCell (p:=⟨ga,1,none⟩) av _;replace Bt:Blk (w5.setCell ⟨ga,1,none⟩ (.int .i64 k)) w2.heap.size 44 #[.int .i64 i,.int .i64 s,.int .i64 q,.slice (some ⟨ga,0,none⟩) xs.length c]:=by
   have:=Below.heap_setCell w5 ⟨ga,1,none⟩ (.int .i64 k) w2.heap.size (by show w2.heap.size≠ga;omega);exact this.trans Bt
  replace B0:Blk (w5.setCell ⟨ga,1,none⟩ (.int .i64 k)) w.heap.size 44 #[.int .i64 0,.int .i64 0,.int .i64 0,.slice none 0 0]:=(J.block _ (by omega)).trans B0;replace hS:=hS.low J (by omega);replace hg:=z0h hg (J.mono (by omega));clear J ho aA;generalize w5.setCell ⟨ga,1,none⟩ (.int .i64 k)=w9 at Bt B0 ae hS hg;rw[←az]at ae Bt G aG;have ho:=ae;clear ae az ax ay O;have p0:=B0.cell 0 _ rfl;have f0:=B0.frozen 0;have q0:=Bt.cell 0 _ rfl;have p1:=B0.cell 1 _ rfl;have f1:=B0.frozen 1;have q1:=Bt.cell 1 _ rfl;have p2:=B0.cell 2 _ rfl;have f2:=B0.frozen 2;have q2:=Bt.cell 2 _ rfl;have p3:=B0.cell 3 _ rfl;have f3:=B0.frozen 3;have q3:=Bt.cell 3 _ rfl;clear B0 Bt
  go_wp2
  refine bodyPost_ret (v:=.agg #[.int .i64 i,.int .i64 s,.int .i64 q,.slice (some ⟨ga,0,none⟩) ys.length c]) (by simp[results,Tryz.results107,go_sem,p0,p1,p2,p3,af,X]) rfl ?_;have C:Below w.heap.size w9 ((((w9.setCell ⟨w.heap.size,0,none⟩ (.int .i64 i)).setCell ⟨w.heap.size,1,none⟩ (.int .i64 s)).setCell ⟨w.heap.size,2,none⟩ (.int .i64 q)).setCell ⟨w.heap.size,3,none⟩ (.slice (some ⟨ga,0,none⟩) ys.length c)):=(((((Below.refl _ _).setCell (p:=⟨w.heap.size,0,none⟩) (Nat.le_refl _) _).setCell (p:=⟨w.heap.size,1,none⟩) (Nat.le_refl _) _).setCell (p:=⟨w.heap.size,2,none⟩) (Nat.le_refl _) _).setCell (p:=⟨w.heap.size,3,none⟩) (Nat.le_refl _) _)
  refine⟨i,s,q,(some ⟨ga,0,none⟩),c,ys,rfl,by omega,?_,(hS.low C Y.2).mono (by omega),z0h hg C⟩;refine z0R (base:=w.heap.size+1) ?_ (by omega);repeat' (first|refine ownsRow_setCell_below ?_ (show _<w.heap.size+1 from Nat.lt_succ_self _) _|refine z0Z ?_ (by intro k hk;have:=G k hk;omega))
  exact ho
 have aD:(r==2)=false:=by simpa using ab
 by_cases ap:r=3
 ·subst ap;clear O G
  go_wp2_with fail
  have Z:=hS.lt;have y:Below w4.heap.size w4 (w4.alloc (.cells #[.int .i64 0,.int .i64 5] 2)):=by go_grown
  replace B0:=B0.below y;replace Bt:=Bt.below y;replace hg:=hg.trans (World.grownBy_alloc w4 (.cells #[.int .i64 0,.int .i64 5] 2) (some b));refine(z06 B b (T+13+1) w4.heap.size _ [0,5] _ (hS.below (by go_grown)) (by omega) (World.ownsRow_lit w4 _ 2 (Nat.le_refl _) (by decide) rfl) (by simp) (by simp) (by simp[Value.ownBlock];omega)).mono ?_;rintro e w5 ⟨v,rfl,D,z,d⟩;replace B0:=B0.grown d (by simp;omega);replace Bt:=Bt.grown d (by simp;omega);replace hg:=hg.trans d;replace hS:=z;have L:=d.size;clear d z;replace I:w2.heap.size+1≤w5.heap.size:=by simp at L;omega
  clear L y;obtain⟨i0,hi,ah,ai,aj⟩:=info_parts z20;obtain⟨m,rfl,aN,al⟩:∃m:Nat,v=m∧m≤5∧(madeCells #[Value.int .i64 0,.int .i64 0,.int .i64 0] (m*3)).toList=z0j (List.replicate m z0i):=by
   simp at D;rcases D with rfl|rfl
   ·exact⟨0,rfl,by omega,q1C⟩
   ·exact⟨5,rfl,by omega,q1D⟩
  have aB:i0.bytes*m≤281474976710656:=by rw[aj];omega
  have aC:m≤maxLen:=by unfold maxLen;omega
  clear D ho;have aH:=Bt.cell 3 _ rfl
  go_wp2_with (at_make;refine wpList_make_full _ rfl _ _ 42 rfl w5.heap.size 163 i0 (.agg #[.int .i64 0,.int .i64 0,.int .i64 0]) 3 Tryz.underlying42 hi ah ai _ _ _ _ m rfl rfl rfl rfl aB aC (Nat.le_refl _) ?_)
  intro w6 ho E;have W:Below w5.heap.size w5 w6:=(Below.refl _ _).grown E (Nat.le_refl _) (by simp);clear aH al;replace B0:=B0.below W;replace Bt:=Bt.below W;replace hS:=hS.below W;replace hg:=z0h hg (W.mono hg.size);replace ho:=z0R ho (show w.heap.size+1≤w5.heap.size by omega);have G:∀j,(Value.slice (some ⟨w5.heap.size,0,none⟩) m m).ownBlock=some j→w2.heap.size<j:=by
   intro j hj;simp[Value.ownBlock]at hj;omega
  clear E W;have p0:=B0.cell 0 _ rfl;have f0:=B0.frozen 0;have q0:=Bt.cell 0 _ rfl;have p1:=B0.cell 1 _ rfl;have f1:=B0.frozen 1;have q1:=Bt.cell 1 _ rfl;have p2:=B0.cell 2 _ rfl;have f2:=B0.frozen 2;have q2:=Bt.cell 2 _ rfl;have p3:=B0.cell 3 _ rfl;have f3:=B0.frozen 3;have q3:=Bt.cell 3 _ rfl;have g3:=Bt.frozen 3;clear B0 Bt
  go_wp2
  refine bodyPost_ret (v:=.agg #[.int .i64 i,.int .i64 s,.int .i64 q,.slice (some ⟨w5.heap.size,0,none⟩) m m]) (by simp[results,Tryz.results107,go_sem,p0,p1,p2,p3,af,X]) rfl ?_;have C:Below w.heap.size w6 (((((w6.setCell ⟨w2.heap.size,3,none⟩ (.slice (some ⟨w5.heap.size,0,none⟩) m m)).setCell ⟨w.heap.size,0,none⟩ (.int .i64 i)).setCell ⟨w.heap.size,1,none⟩ (.int .i64 s)).setCell ⟨w.heap.size,2,none⟩ (.int .i64 q)).setCell ⟨w.heap.size,3,none⟩ (.slice (some ⟨w5.heap.size,0,none⟩) m m)):=((((((Below.refl _ _).setCell (p:=⟨w2.heap.size,3,none⟩) (show w.heap.size≤w2.heap.size by omega) _).setCell (p:=⟨w.heap.size,0,none⟩) (Nat.le_refl _) _).setCell (p:=⟨w.heap.size,1,none⟩) (Nat.le_refl _) _).setCell (p:=⟨w.heap.size,2,none⟩) (Nat.le_refl _) _).setCell (p:=⟨w.heap.size,3,none⟩) (Nat.le_refl _) _)
  refine⟨i,s,q,(some ⟨w5.heap.size,0,none⟩),m,List.replicate m z0i,by simp,by simp;omega,?_,(hS.low C Y.2).mono (by omega),z0h hg C⟩;rw[List.length_replicate];refine z0R (base:=w.heap.size+1) ?_ (by omega);repeat' (first|refine ownsRow_setCell_below ?_ (show _<w.heap.size+1 from Nat.lt_succ_self _) _|refine z0Z ?_ (by intro k hk;have:=G k hk;omega))
  exact ho
 have aK:(r==3)=false:=by simpa using ap
 clear an ao ab ap;have p0:=B0.cell 0 _ rfl;have f0:=B0.frozen 0;have q0:=Bt.cell 0 _ rfl;have p1:=B0.cell 1 _ rfl;have f1:=B0.frozen 1;have q1:=Bt.cell 1 _ rfl;have p2:=B0.cell 2 _ rfl;have f2:=B0.frozen 2;have q2:=Bt.cell 2 _ rfl;have p3:=B0.cell 3 _ rfl;have f3:=B0.frozen 3;have q3:=Bt.cell 3 _ rfl;clear B0 Bt
 go_wp2
 refine bodyPost_ret (v:=.agg #[.int .i64 i,.int .i64 s,.int .i64 q,.slice a xs.length c]) (by simp[results,Tryz.results107,go_sem,p0,p1,p2,p3,af,X]) rfl ?_;have C:Below w.heap.size w4 ((((w4.setCell ⟨w.heap.size,0,none⟩ (.int .i64 i)).setCell ⟨w.heap.size,1,none⟩ (.int .i64 s)).setCell ⟨w.heap.size,2,none⟩ (.int .i64 q)).setCell ⟨w.heap.size,3,none⟩ (.slice a xs.length c)):=(((((Below.refl _ _).setCell (p:=⟨w.heap.size,0,none⟩) (Nat.le_refl _) _).setCell (p:=⟨w.heap.size,1,none⟩) (Nat.le_refl _) _).setCell (p:=⟨w.heap.size,2,none⟩) (Nat.le_refl _) _).setCell (p:=⟨w.heap.size,3,none⟩) (Nat.le_refl _) _)
 refine⟨i,s,q,a,c,xs,rfl,by omega,?_,(hS.low C Y.2).mono (by omega),z0h hg C⟩;refine z0R (base:=w.heap.size+1) ?_ (by omega);repeat' (first|refine ownsRow_setCell_below ?_ (show _<w.heap.size+1 from Nat.lt_succ_self _) _|refine z0Z ?_ (by intro k hk;have:=G k hk;omega))
 exact ho
def TxnRow(base:Nat)(w:World)(v:Value)(ps:List TxnP):Prop:=
 w.ownsRow base 44 4 v ps.length (z0B ps)∧(∀p∈ps,w.ownsRow base 163 3 p.sl p.d.acts.length (z0j p.d.acts)∧(p.sl.ownBlock=none∨p.sl.ownBlock≠v.ownBlock))∧v≠.slice none 0 0
theorem TxnRow.at{base:Nat}{w:World}{v:Value}{ps:List TxnP}(h:TxnRow base w v ps):TxnsAt w v (ps.map TxnP.d):=by
 obtain⟨a,c,rfl⟩:=z0p h.1;refine⟨a,c,ps,by simp,rfl,Lies.own h.1,fun p hp=>?_⟩;exact Lies.own (h.2.1 p hp).1
theorem TxnRow.src{base b:Nat}{w w':World}{v:Value}{ps:List TxnP}(h:TxnRow base w v ps)(hb:b<base)(hg:w.grownBy w' (some b)):TxnRow base w' v ps:=
 ⟨h.1.kept hg (Or.inr (fun e=>z2F h.1 (Or.inl hb) e.symm)),fun p hp=>⟨(h.2.1 p hp).1.kept hg (Or.inr (fun e=>z2F (h.2.1 p hp).1 (Or.inl hb) e.symm)),(h.2.1 p hp).2⟩,h.2.2⟩
theorem TxnRow.below{base:Nat}{w w':World}{v:Value}{ps:List TxnP}(h:TxnRow base w v ps)(hb:Below w.heap.size w w'):TxnRow base w' v ps:=
 ⟨z0n h.1 hb,fun p hp=>⟨z0n (h.2.1 p hp).1 hb,(h.2.1 p hp).2⟩,h.2.2⟩
end
theorem z3U(v:Value)(zs:List ActD):actK.fp v zs=blk v:=by
 have:zs.flatMap actK.foot=[]:=by
  rw[List.flatMap_eq_nil_iff];intro _ _;rfl
 unfold Kind.fp;rw[this,List.append_nil]
theorem z5l{w:World}{base:Nat}{v:Value}{xs:List ActD}(h:w.ownsRow base 163 3 v xs.length (z0j xs)):actK.Own w v xs∧∀k∈actK.fp v xs,base≤k:=by
 obtain⟨o,hk⟩:=z04 h;exact⟨⟨o,fun _ _=>trivial⟩,by rw[z3U];exact hk⟩
theorem Src.out{B b T:Nat}{F:List Nat}{w w':World}(h:Src B w b T)(ho:Out F w w')(hb:b∉F)(hF:∀k∈F,B≤k):Src B w' b T:=
 h.kept ho.size (ho.block b h.lt.2 hb) (fun k hk=>ho.block k (by have:=h.lt;omega) (fun e=>by have:=hF k e;omega))
theorem z0k{w wr w':World}{b:Nat}{F:List Nat}(hg:w.grownBy wr (some b))(ho:Out F wr w')(hF:∀k∈F,w.heap.size≤k):w.grownBy w' (some b):=
 ⟨ho.os.trans hg.os,ho.tape.trans hg.tape,ho.output.trans hg.output,Nat.le_trans hg.size ho.size,fun k hk hne=>(ho.block k (Nat.lt_of_lt_of_le hk hg.size) (fun e=>by have:=hF k e;omega)).trans (hg.block k hk hne)⟩
theorem z4p(B b T:Nat)(w:World)(hS:Src B w b T)(hT:T≤800000):
  Calls Tryz.prog 114 #[.pointer (some ⟨b,0,none⟩)] w fun e w'=>∃ (v:Value) (ps:List TxnQ),e=.returned v∧ps.length≤3∧(∀p∈ps,p.acts.length≤3)∧txnK.Own w' v ps∧(txnK.fp v ps).Nodup∧(∀k∈txnK.fp v ps,w.heap.size≤k)∧Src B w' b (T+50)∧w.grownBy w' (some b):=by
 obtain⟨i0,hi,av,aw,ax⟩:=info_parts z1G;have aD:=hS.lt;obtain⟨ad,ap⟩:=z04 (World.ownsRow_lit (e:=44) (size:=4) w #[] 0 (Nat.le_refl _) (by decide) rfl);have hg:w.grownBy (w.alloc (.cells #[] 44)) (some b):=World.grownBy_alloc w _ _;replace hS:Src B (w.alloc (.cells #[] 44)) b T:=hS.below (by go_grown);have A:txnK.Own (w.alloc (.cells #[] 44)) (.slice (some ⟨w.heap.size,0,none⟩) 0 0) ([]:List TxnQ):=⟨ad,fun p hp=>by simp at hp⟩
 have M:Hid ((txnK.fp (.slice (some ⟨w.heap.size,0,none⟩) 0 0) ([]:List TxnQ)).Nodup∧∀k∈txnK.fp (.slice (some ⟨w.heap.size,0,none⟩) 0 0) ([]:List TxnQ),w.heap.size≤k):=by
  constructor
  ·simp[Kind.fp,blk,Value.ownBlock]
  ·intro k hk;simp[Kind.fp,blk,Value.ownBlock]at hk;omega
 go_enter Tryz.func114,Tryz.ntmps114
 go_wp2_with fail
 generalize w.alloc (.cells #[] 44)=W1 at A hg hS;refine(z0m B b T 3 W1 hS (by omega) (by omega)).mono ?_;rintro e w3 ⟨r,rfl,hr,C,y⟩;obtain⟨j0,rfl⟩:=Int.eq_ofNat_of_zero_le hr.1;have aB:j0≤2:=by have:=hr.2.1 (by omega);omega
 replace A:=A.out (Out.of_grown y) (fun k hk O => by
  simp only[Option.toList,List.mem_singleton]at O;have:=M.out.2 k hk;omega)
 replace hg:=hg.trans y;replace hS:=C;clear y C hr ad ap
 go_wp2
 go_loopw[3,4] (fun v c wr=>∃ (j:Nat) (ps:List TxnQ),c=.int .i64 j∧j≤3∧j+ps.length≤3∧Hid (∀p∈ps,p.acts.length≤3)∧txnK.Own wr v ps∧Hid ((txnK.fp v ps).Nodup∧∀k∈txnK.fp v ps,w.heap.size≤k)∧Src B wr b (T+1+13*(3-j))∧w.grownBy wr (some b)) (fun _ c _=>(intOf c).toNat)
 case atStart=>exact⟨1+j0,[],by go_num,by omega,by simp;omega,(by intro p hp;simp at hp),A,M,hS.mono (by omega),hg⟩
 case round=>
  clear A hS hg M;obtain⟨j,ps,rfl,aC,hj,HP,hR,HN,hS,hg⟩:=hrel;have aE:=hg.size;obtain⟨a1,c1,rfl⟩:=hR.shape;by_cases az:0<j
  ·go_wp2_with fail
   refine(z3f B b (T+1+13*(3-j)) wr hS (by omega)).mono ?_;rintro e w4 ⟨i,s,q,a,c,xs,rfl,aF,au,ho,C,y⟩;obtain⟨oA,gA⟩:=z5l ho;have HF:Hid (∀x∈txnK.fp (.slice a1 ps.length c1) ps,x<wr.heap.size):=hR.lt;replace hR:=hR.out (Out.of_grown y) (fun k hk O => by
    simp only[Option.toList,List.mem_singleton]at O;have:=HN.out.2 k hk;omega)
   replace hg:=hg.trans y;replace hS:=C;clear y C ho;have d:Below w4.heap.size w4 (w4.alloc (.cells #[.int .i64 i,.int .i64 s,.int .i64 q,.slice a xs.length c] 44)):=by go_grown
   have Bt:=Blk.new w4 44 #[.int .i64 i,.int .i64 s,.int .i64 q,.slice a xs.length c];have af:=hg.size;replace hR:=hR.below d;replace oA:=oA.below d;replace hS:=hS.below d;replace hg:=z0h hg (d.mono af);clear d
   go_wp2_with fail
   generalize w4.alloc (.cells #[.int .i64 i,.int .i64 s,.int .i64 q,.slice a xs.length c] 44)=W5 at*;have hW:Below W5.heap.size W5 W5.drew:=(Below.refl _ _).drew;have aq:Nonempty (Lat W5):=⟨⟨W5,Below.refl _ _⟩⟩
   have k0:=Bt.lat 0 _ rfl;have G:((ps.map TxnQ.e).length:Nat)≤60:=by rw[List.length_map];omega
   refine z0b (S:=fun w'=>∃u:Lat W5,w'=u.val) (by kernel_rfl) ?_;refine sgr [(0,1),(2,2)] 3 (by kernel_rfl) ⟨⟨_,hW⟩,rfl⟩ ?_;simp only[pkE];repeat go_big_quiet_step (fail)
   refine wpQuiet_nil ?_;refine cla 1 (some 17) 170 #[.slice a1 ps.length c1] 2 (by kernel_rfl) ?_;refine(z4c _ (ps.map TxnQ.e) _ (z2a (hR.below hW).at) G).mono ?_;rintro e w6 ⟨ba,bc,rfl,ae,Y⟩;replace hW:=hW.trans (Y.mono hW.size);clear Y;refine⟨_,rfl,⟨⟨_,hW⟩,rfl⟩,?_⟩;simp only[Act.put,pgE,pjE];have W:((ps.map TxnQ.e).map TxnD.id).length≤1048576:=by rw[List.length_map];omega
   generalize hL:(ps.map TxnQ.e).map TxnD.id=L at*;clear hL;refine cla 4 (some 20) 169 #[.slice ba L.length bc,.int .i64 i] 1 (by kernel_rfl) ?_;refine(z27 ba bc L i w6 (Row.own ae) W).mono ?_;rintro e w7 ⟨rfl,V⟩;replace V:=V.symm;subst V;refine⟨_,rfl,⟨⟨_,hW⟩,rfl⟩,?_⟩;simp only[Act.put,pgE,pjE];refine sgr [(5,1)] 0 (by kernel_rfl) ⟨⟨_,hW⟩,rfl⟩ ?_;simp only[pkE];repeat go_big_quiet_step (fail)
   refine wpQuiet_nil ?_;refine z0e (by kernel_rfl) ?_;have ag:=hg.size;replace hR:=hR.below hW;replace oA:=oA.below hW;replace hS:=hS.below hW;replace Bt:=Bt.below hW;replace hg:=z0h hg (hW.mono ag);clear hW aq k0 ae G W;generalize idxI L i=ix at*;by_cases aA:ix<0
   ·have p0:=Bt.cell 0 _ rfl;have p1:=Bt.cell 1 _ rfl;have p2:=Bt.cell 2 _ rfl;have p3:=Bt.cell 3 _ rfl;have d:Below w6.heap.size w6 (w6.alloc (.cells #[.int .i64 i,.int .i64 s,.int .i64 q,.slice a xs.length c] 44)):=by go_grown
    have ah:=hg.size;have N:=hR.below d;have ai:=oA.below d;have E:=N.1
    go_wp2_with (at_builtin;refine wpList_append_own_at _ rfl _ _ 27 rfl 0 44 i0 (.agg #[.int .i64 0,.int .i64 0,.int .i64 0,.slice none 0 0]) 4 48 Tryz.underlying27 hi av aw ax rfl (by decide) _ ps.length (txnK.row ps) rfl E ⟨w6.heap.size,0,none⟩ 1 1 [.int .i64 i,.int .i64 s,.int .i64 q,.slice a xs.length c] rfl rfl ?c1 ?c2 ?c3 ?c4 ?c5 ?_)
    all_goals try(case c1=>intro j u hj;match j,hj with|0,hj=>simp at hj;subst hj;simp[Addr.add]|1,hj=>simp at hj;subst hj;simp[Addr.add]|2,hj=>simp at hj;subst hj;simp[Addr.add]|3,hj=>simp at hj;subst hj;simp[Addr.add])
    all_goals try(case c2=>intro u hu;simp at hu;rcases hu with rfl|rfl|rfl|rfl<;>rfl)
    all_goals try(case c3=>unfold maxLen;omega)
    all_goals try(case c4=>omega)
    all_goals try(case c5=>first|omega|(simp;omega))
    intro v' w8 J D ab X;clear p0 p1 p2 p3;obtain ⟨am,aa,I,U⟩:=N.snoc (p:=(⟨i,s,q,.slice a xs.length c,xs⟩:TxnQ)) (B:=w.heap.size) HN.out.1 HN.out.2 ai (by show (actK.fp _ _).Nodup;rw [z3U];exact z1h _) (fun x hx ar => by
     have h1:=gA x hx;have h2:=HF.out x ar;omega) (fun x hx=>by have:=gA x hx;omega) (by simp;omega) J D (by rw [World.size_alloc];exact X)
    have al:Hid (∀p∈ps++[(⟨i,s,q,.slice a xs.length c,xs⟩:TxnQ)],p.acts.length≤3):=by
     intro p hp;simp only[List.mem_append,List.mem_singleton]at hp;rcases hp with hp|rfl
     ·exact HP.out p hp
     ·exact au
    have ak:Hid (_∧_):=And.intro aa I;have z:∀k∈blk (.slice a1 ps.length c1),w.heap.size≤k:=fun k hk=>HN.out.2 k (by simp only[Kind.fp,List.mem_append];exact Or.inl hk)
    have ao:=z0k (z0h hg (d.mono ah)) U z;have an:=(hS.below d).out U (fun hk=>by have:=z b hk;omega) (fun k hk=>by have:=z k hk;omega);have Z:(ps++[(⟨i,s,q,.slice a xs.length c,xs⟩:TxnQ)]).length=ps.length+1:=by simp
    have aj:Hid ((ps++[(⟨i,s,q,.slice a xs.length c,xs⟩:TxnQ)]).length=ps.length+1):=Z;clear Z aa I hR N oA ai J D X ab U d hg hS E Bt gA HF z;generalize ps++[(⟨i,s,q,.slice a xs.length c,xs⟩:TxnQ)]=ay at*
    go_wp2
    go_roundw
    case rel=>exact⟨j-1,ay,by go_num,by omega,by have:=aj.out;omega,al,am,ak,an.mono (by omega),ao⟩
    case measure=>simp[intOf];omega
   ·clear Bt oA gA HF
    go_wp2
    go_roundw
    case rel=>exact⟨j-1,ps,by go_num,by omega,by omega,HP,hR,HN,hS.mono (by omega),hg⟩
    case measure=>simp[intOf];omega
  ·go_wp2
   go_ret;exact⟨_,ps,rfl,by omega,HP.out,hR,HN.out.1,HN.out.2,hS.mono (by omega),hg⟩
end Go.Proofs.YtciofogeiohleaaGreatDoor
