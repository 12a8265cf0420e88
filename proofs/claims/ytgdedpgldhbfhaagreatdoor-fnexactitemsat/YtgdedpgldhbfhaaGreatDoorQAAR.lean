/- Texts joined,with what the laws reach alone. -/
import Derived.Test.YtgdedpgldhbfhaaGreatDoorQAAH
set_option linter.unusedVariables false
set_option linter.unusedSimpArgs false
set_option maxRecDepth 100000
set_option maxHeartbeats 4000000
namespace Go.Proofs.YtgdedpgldhbfhaaGreatDoor
open Go.RowKit Go.BigFrame
theorem z4F(k:IntKind)(c:Int)(n:Nat):(z3v k c n).length=n:=by simp[z3v]
theorem q08(k:IntKind)(c:Int)(n i:Nat)(h:i<n):(z3v k c n).getD i 0=k.wrap (c+(i:Int)):=by simp[z3v,List.getD,h]
theorem q2T(base:Nat)(v:Value)(n:Nat)(xs:List Value)(c:Int)(w:World)(h:w.ownsRow base 2 1 v n xs)(hn:n≤1099511627776)(h0:0≤c)(h1:c≤1099511627776):
  Calls Tryz.prog 76 #[v,.int .i64 c] w fun e w'=>e=.returned (.int .i64 (c+n))∧w'.ownsRow base 2 1 v n ((z3v .i64 c n).map (Value.int .i64))∧w.grownBy w' v.ownBlock:=by
 have J:xs.length=n:=by simpa using h.1
 rcases h.2 with⟨rfl,rfl⟩|⟨g,cap,E,rfl,hb,hg,r⟩
 ·go_enter Tryz.func76,Tryz.ntmps76
  go_wp2
  refine wp_loop_rounds 1 ?_;rw[rounds_succ]
  go_wp2
  go_ret;exact⟨by simp,World.ownsRow_nil _ _ _ _,World.grownBy.refl _ _⟩
 ·clear hg r;have D:=z4F .i64 c n;rw[←z7I (z3v .i64 c n) .i64 xs]at h;go_enter Tryz.func76,Tryz.ntmps76
  go_wp2
  go_loopw[1,5] (fun j i wr=>∃k:Nat,k≤n∧j=.int .i64 (c+k)∧i=.int .i64 k∧wr.ownsRow base 2 1 (.slice (some ⟨g,0,none⟩) n cap) n (q0h (z3v .i64 c n) .i64 xs k)∧w.grownBy wr (some g)) (fun _ i _=>n-(intOf i).toNat)
  case atStart=>exact⟨0,Nat.zero_le _,by go_num,rfl,h,World.grownBy.refl _ _⟩
  case round=>
   obtain⟨k,hk,rfl,rfl,ho,x⟩:=hrel;by_cases C:k<n
   ·have I:wr.frozen? ⟨g,k,none⟩=false:=ho.frozenAt k;obtain⟨u,hu⟩:∃u,wr.cell? ⟨g,k,none⟩=some u:=by
     rw[ho.cellAt k (by omega)];exact⟨_,List.getElem?_eq_getElem (by rw[z45 _ _ _ _ (by omega) (by omega)];omega)⟩
    have d:=ho.stored k (.int .i64 ((z3v .i64 c n).getD k 0));rw[z7J (z3v .i64 c n) .i64 xs k (by omega) (by omega),q08 _ _ _ _ C,IntWalk.i64_in _ (by omega)]at d;have R:Hid ((wr.setCell ⟨g,k,none⟩ (.int .i64 (c+(k:Int)))).ownsRow base 2 1 (.slice (some ⟨g,0,none⟩) n cap) n (q0h (z3v .i64 c n) .i64 xs (k+1))∧w.grownBy (wr.setCell ⟨g,k,none⟩ (.int .i64 (c+(k:Int)))) (some g)):=
     ⟨d.1,⟨d.2.os.trans x.os,d.2.tape.trans x.tape,d.2.output.trans x.output,Nat.le_trans x.size d.2.size,fun j hj z=>(d.2.block j (Nat.lt_of_lt_of_le hj x.size) z).trans (x.block j hj z)⟩⟩
    clear d
    go_wp2
    go_roundw
    case rel=>exact⟨k+1,by omega,by go_num,by go_num,R.out.1,R.out.2⟩
    case measure=>simp[intOf];omega
   ·go_wp2
    go_ret;have A:k=n:=by omega
    subst A;have y:=z9I (z3v .i64 c k) .i64 xs (by omega);rw[D]at y;rw[y]at ho;exact⟨rfl,ho,x⟩
theorem q6m{w wr:World}{g k:Nat}{v0 v1 v2:Value}(h:w.grownBy wr (some g)):w.grownBy (((wr.setCell ⟨g,k,none⟩ v0).setCell ⟨g,k+1,none⟩ v1).setCell ⟨g,k+2,none⟩ v2) (some g):=by
 have one:∀ (u:World) (j:Nat) (v:Value),w.grownBy u (some g)→w.grownBy (u.setCell ⟨g,j,none⟩ v) (some g):=fun u j v h=>
  ⟨h.os,h.tape,h.output,by simpa[World.setCell]using h.size,fun i hi hne=>by rw[Below.heap_setCell _ _ _ _ (by intro e;apply hne;simp[e])];exact h.block i hi hne⟩
 exact one _ _ _ (one _ _ _ (one _ _ _ h))
def z1j(c:Int)(n:Nat):List ActD:=(List.range n).map fun(i:Nat)=>⟨c+((i*3:Nat):Int),c+((i*3+1:Nat):Int),c+((i*3+2:Nat):Int)⟩
theorem z1a(c:Int)(n:Nat):(z1j c n).length=n:=by simp[z1j]
theorem z3R(c:Int)(n i:Nat)(h:i<n):(z1j c n).getD i z0e=⟨c+((i*3:Nat):Int),c+((i*3+1:Nat):Int),c+((i*3+2:Nat):Int)⟩:=by simp[z1j,List.getD,h]
theorem z8F(base:Nat)(v:Value)(n:Nat)(xs:List Value)(c:Int)(w:World)(h:w.ownsRow base 147 3 v n xs)(hn:n≤1099511627776)(h0:0≤c)(h1:c≤1099511627776):
  Calls Tryz.prog 78 #[v,.int .i64 c] w fun e w'=>e=.returned (.int .i64 (c+((n*3:Nat):Int)))∧w'.ownsRow base 147 3 v n (z0n (z1j c n))∧w.grownBy w' v.ownBlock:=by
 rcases h.2 with⟨rfl,rfl⟩|⟨g,cap,M,rfl,hb,hg,r⟩
 ·go_enter Tryz.func78,Tryz.ntmps78
  go_wp2
  refine wp_loop_rounds 1 ?_;rw[rounds_succ]
  go_wp2
  go_ret;exact⟨by simp,World.ownsRow_nil _ _ _ _,World.grownBy.refl _ _⟩
 ·clear hg r;have d:=z0q (z1j c n);rw[z1a]at d;have J:xs.length=(z0n (z1j c n)).length:=by rw[d];exact h.1
  rw[←z1Y (z0n (z1j c n)) xs]at h;go_enter Tryz.func78,Tryz.ntmps78
  go_wp2
  go_loopw[1,5] (fun j i wr=>∃k:Nat,k≤n∧j=.int .i64 (c+((k*3:Nat):Int))∧i=.int .i64 k∧wr.ownsRow base 147 3 (.slice (some ⟨g,0,none⟩) n cap) n (z6O (z0n (z1j c n)) xs (k*3))∧w.grownBy wr (some g)) (fun _ i _=>n-(intOf i).toNat)
  case atStart=>exact⟨0,Nat.zero_le _,by simp,rfl,by simpa using h,World.grownBy.refl _ _⟩
  case round=>
   obtain⟨k,hk,rfl,rfl,ho,z⟩:=hrel;by_cases A:k<n
   ·obtain⟨g0,g1,g2⟩:=z2v (z1j c n) k (by rw[z1a];exact A);rw[z3R _ _ _ A]at g0 g1 g2;obtain⟨I,⟨f0,f1,f2⟩,⟨⟨u0,e0⟩,⟨u1,e1⟩,⟨u2,e2⟩⟩,_⟩:=q6M ho J d A g0 g1 g2;have x:=q6m z (g:=g) (k:=k*3) (v0:=.int .i64 (c+((k*3:Nat):Int))) (v1:=.int .i64 (c+((k*3+1:Nat):Int))) (v2:=.int .i64 (c+((k*3+2:Nat):Int)));have R:Hid (_∧_):=⟨I,x⟩
    have C:c+((k*3+1:Nat):Int)=c+((k*3:Nat):Int)+1:=by omega
    have D:c+((k*3+2:Nat):Int)=c+((k*3:Nat):Int)+1+1:=by omega
    have E:Hid (c+(((k+1)*3:Nat):Int)=c+((k*3:Nat):Int)+1+1+1):=show _=_ by omega
    rw[C,D]at R;clear I x g0 g1 g2 ho z C D;generalize hy:((k*3:Nat):Int)=y at R E;have O:y≤3298534883328:=by omega
    have N:0≤y:=by omega
    clear hy
    go_wp2
    go_roundw
    case rel=>exact⟨k+1,by omega,by rw[E.out],by go_num,R.out.1,R.out.2⟩
    case measure=>simp[intOf];omega
   ·go_wp2
    go_ret;have L:k=n:=by omega
    subst L;rw[z2M _ _ _ J d]at ho;exact⟨rfl,ho,z⟩
section
variable {P:Type} {K:Kind P} {w w':World} {v:Value} {ps:List P}
theorem Kind.Own.blkOf{a:Option Addr}{n cap:Nat}(h:K.Own w (.slice a n cap) ps)(hn:0<ps.length):∃g,a=some ⟨g,0,none⟩:=by
 rcases h.1.2 with⟨he,h0⟩|⟨g,cap,cur,he,r⟩
 ·omega
 ·simp only[Value.slice.injEq]at he;exact⟨g,he.1⟩
def mkL(mk:Int→P→P)(nm:P→Nat):Int→List P→List P
 |_,[]=>[]
 |c,p::r=>mk c p::mkL mk nm (c+nm p) r
theorem z1w(mk:Int→P→P)(nm:P→Nat)(c:Int)(ps:List P):(mkL mk nm c ps).length=ps.length:=by
 induction ps generalizing c with
 |nil=>rfl
 |cons p r ih=>simp[mkL,ih]
theorem q2U(mk:Int→P→P)(nm:P→Nat)(c:Int)(ps:List P)(k:Nat)(h:k<ps.length):(mkL mk nm c ps)[k]'(by rw[z1w];exact h)=mk (c+nmL nm (ps.take k)) ps[k]:=by
 induction ps generalizing c k with
 |nil=>simp at h
 |cons p r ih=>
  cases k with
  |zero=>simp[mkL,nmL]
  |succ k=>
   simp only[mkL,List.getElem_cons_succ,List.take_succ_cons];rw[ih (c+nm p) k (by simpa using h)]
   congr 1
   simp only[nmL,List.map_cons,List.sum_cons];omega
def half(mk:Int→P→P)(nm:P→Nat)(c:Int)(ps:List P)(k:Nat):List P:=(mkL mk nm c ps).take k++ps.drop k
theorem z2K(mk:Int→P→P)(nm:P→Nat)(c:Int)(ps:List P):half mk nm c ps 0=ps:=by simp[half]
theorem z3S(mk:Int→P→P)(nm:P→Nat)(c:Int)(ps:List P):half mk nm c ps ps.length=mkL mk nm c ps:=by
 have:=z1w mk nm c ps;simp[half,List.take_of_length_le (show(mkL mk nm c ps).length≤ps.length by omega)]
theorem z1x(mk:Int→P→P)(nm:P→Nat)(c:Int)(ps:List P)(k:Nat)(hk:k≤ps.length):(half mk nm c ps k).length=ps.length:=by
 have:=z1w mk nm c ps;simp[half];omega
theorem z3T(mk:Int→P→P)(nm:P→Nat)(c:Int)(ps:List P)(k:Nat)(hk:k<ps.length):(half mk nm c ps k)[k]'(by rw[z1x _ _ _ _ _ (by omega)];exact hk)=ps[k]:=by
 have:=z1w mk nm c ps;simp only[half];rw[List.getElem_append_right (by simp;omega)];simp only[List.length_take,this,List.getElem_drop]
 congr 1
 omega
theorem z3U(mk:Int→P→P)(nm:P→Nat)(c:Int)(ps:List P)(k:Nat)(hk:k<ps.length):(half mk nm c ps k).set k (mk (c+nmL nm (ps.take k)) ps[k])=half mk nm c ps (k+1):=by
 have hm:=z1w mk nm c ps;rw[←q2U mk nm c ps k hk];simp only[half];rw[List.set_append_right _ _ (by simp;omega),show k-((mkL mk nm c ps).take k).length=0 by simp;omega,List.drop_eq_getElem_cons hk,List.set_cons_zero,List.take_succ_eq_append_getElem (show k<(mkL mk nm c ps).length by omega),List.append_assoc];rfl
end
section
variable {P:Type} {K:Kind P} {w w':World} {v:Value} {ps:List P}
section
variable {g n cap k:Nat} {hs:List P} {p:P}
theorem Kind.Own.elem'(h:K.Own w v (hs.set k p))(hk:k<hs.length):K.own w p:=h.2 p (List.mem_set hk p)
theorem Kind.Own.cell'(h:K.Own w (.slice (some ⟨g,0,none⟩) n cap) (hs.set k p))(hk:k<hs.length)(j:Nat)(x:Value)(hx:(K.cells p)[j]?=some x):w.cell? ⟨g,k*K.size+j,none⟩=some x∧w.frozen? ⟨g,k*K.size+j,none⟩=false:=
 h.cell k (by simpa using hk) j x (by rw[List.getElem_set_self];exact hx)
theorem Kind.Own.store'(h:K.Own w (.slice (some ⟨g,0,none⟩) n cap) (hs.set k p))(hnd:(K.fp (.slice (some ⟨g,0,none⟩) n cap) (hs.set k p)).Nodup)(hk:k<hs.length)(p':P)(j:Nat)(u:Value)(hj:j<K.size)
  (hc:K.cells p'=(K.cells p).set j u) (hf:K.foot p'=K.foot p) (hown:∀w',K.own w' p→K.own w' p'):
  K.Own (w.setCell ⟨g,k*K.size+j,none⟩ u) (.slice (some ⟨g,0,none⟩) n cap) (hs.set k p')∧(K.fp (.slice (some ⟨g,0,none⟩) n cap) (hs.set k p')).Nodup:=by
 have hk':k<(hs.set k p).length:=by simpa using hk
 have e:(hs.set k p)[k]=p:=List.getElem_set_self (h:=hk');obtain⟨h1,h2⟩:=h.store hnd k hk' p' j u hj (by rw[e];exact hc) (by rw[e];exact hf) (by rw[e];exact hown);rw[List.set_set]at h1 h2;exact⟨h1,by rw[h2];exact hnd⟩
theorem Kind.Own.turn'(h:K.Own w v (hs.set k p))(hnd:(K.fp v (hs.set k p)).Nodup)(hk:k<hs.length)(p':P){F:List Nat}(ho:Out F w w')(hF:∀x∈F,x∈K.foot p)(hc:K.cells p'=K.cells p)(hf:K.foot p'=K.foot p)(hown:K.own w' p'):
  K.Own w' v (hs.set k p')∧(K.fp v (hs.set k p')).Nodup:=by
 have hk':k<(hs.set k p).length:=by simpa using hk
 have e:(hs.set k p)[k]=p:=List.getElem_set_self (h:=hk');obtain⟨h1,h2⟩:=h.turn hnd k hk' p' ho (by rw[e];exact hF) (by rw[e];exact hc) (by rw[e];exact hf) hown;rw[List.set_set]at h1 h2;exact⟨h1,by rw[h2];exact hnd⟩
end
theorem q0b{mk:Int→P→P}{nm:P→Nat}(hf:∀c p,K.foot (mk c p)=K.foot p)(c:Int)(ps:List P):(mkL mk nm c ps).flatMap K.foot=ps.flatMap K.foot:=by
 induction ps generalizing c with
 |nil=>rfl
 |cons p r ih=>simp only[mkL,List.flatMap_cons,hf,ih]
theorem q0c{mk:Int→P→P}{nm:P→Nat}(hf:∀c p,K.foot (mk c p)=K.foot p)(v:Value)(c:Int)(ps:List P):K.fp v (mkL mk nm c ps)=K.fp v ps:=by simp only[Kind.fp,q0b hf]
theorem z5U{mk:Int→P→P}{nm:P→Nat}(hf:∀c p,K.foot (mk c p)=K.foot p)(v:Value)(c:Int)(ps:List P)(k:Nat):K.fp v (half mk nm c ps k)=K.fp v ps:=by
 have h1:((mkL mk nm c ps).take k).flatMap K.foot=(ps.take k).flatMap K.foot:=by
  have e:(mkL mk nm c ps).take k=mkL mk nm c (ps.take k):=by
   induction ps generalizing c k with
   |nil=>simp[mkL]
   |cons p r ih=>
    cases k with
    |zero=>simp[mkL]
    |succ k=>simp only[mkL,List.take_succ_cons,ih]
  rw[e,q0b hf]
 simp only[Kind.fp,half,List.flatMap_append,h1];rw[←List.flatMap_append,List.take_append_drop]
end
def z3k(c:Int)(zs:List ActD):List ActD:=z1j c zs.length
theorem z8G(c:Int)(v:Value)(zs:List ActD):actK.fp v (z3k c zs)=actK.fp v zs:=by rw[z07,z07]
theorem q09(v:Value)(zs:List ActD)(c:Int)(w:World)(h:actK.Own w v zs)(hl:zs.length≤1048576)(h0:0≤c)(h1:c≤1099511627776):
  Calls Tryz.prog 78 #[v,.int .i64 c] w fun e w'=>e=.returned (.int .i64 (c+((zs.length*3:Nat):Int)))∧actK.Own w' v (z3k c zs)∧Out (actK.fp v zs) w w':=by
 refine(z8F 0 v zs.length _ c w h.1 (by omega) h0 h1).mono ?_;rintro e w' ⟨rfl,ho,hg⟩;refine⟨rfl,⟨?_,fun _ _=>trivial⟩,?_⟩
 ·have e:(z3k c zs).length=zs.length:=by simp[z3k,z1a]
  rw[e];exact ho
 ·rw[z07];exact Out.of_grown hg
def z2L(c:Int)(zs:List Int):List Int:=z3v .i64 c zs.length
theorem z1E(c:Int)(v:Value)(zs:List Int):intK.fp v (z2L c zs)=intK.fp v zs:=by rw[z34,z34]
theorem z4l(v:Value)(zs:List Int)(c:Int)(w:World)(h:intK.Own w v zs)(hl:zs.length≤1048576)(h0:0≤c)(h1:c≤1099511627776):
  Calls Tryz.prog 76 #[v,.int .i64 c] w fun e w'=>e=.returned (.int .i64 (c+(zs.length:Int)))∧intK.Own w' v (z2L c zs)∧Out (intK.fp v zs) w w':=by
 refine(q2T 0 v zs.length _ c w h.1 (by omega) h0 h1).mono ?_;rintro e w' ⟨rfl,ho,hg⟩;refine⟨rfl,⟨?_,fun _ _=>trivial⟩,?_⟩
 ·have e:(z2L c zs).length=zs.length:=by simp[z2L,z4F]
  rw[e,z4Q];exact ho
 ·rw[z34];exact Out.of_grown hg
theorem q2V{w wr:World}{g k:Nat}{v0 v1:Value}(h:w.grownBy wr (some g)):w.grownBy ((wr.setCell ⟨g,k,none⟩ v0).setCell ⟨g,k+1,none⟩ v1) (some g):=by
 have one:∀ (u:World) (j:Nat) (v:Value),w.grownBy u (some g)→w.grownBy (u.setCell ⟨g,j,none⟩ v) (some g):=fun u j v h=>
  ⟨h.os,h.tape,h.output,by simpa[World.setCell]using h.size,fun i hi hne=>by rw[Below.heap_setCell _ _ _ _ (by intro e;apply hne;simp[e])];exact h.block i hi hne⟩
 exact(one _ _ _ (one _ _ _ h))
theorem z0Z(c:Int)(n:Nat):(z0I c n).length=n:=by simp[z0I]
theorem z3l(c:Int)(n i:Nat)(h:i<n):(z0I c n).getD i z0b=⟨c+((i*2:Nat):Int),c+((i*2+1:Nat):Int)⟩:=by simp[z0I,List.getD,h]
theorem z7A(base:Nat)(v:Value)(n:Nat)(xs:List Value)(c:Int)(w:World)(h:w.ownsRow base 126 2 v n xs)(hn:n≤1099511627776)(h0:0≤c)(h1:c≤1099511627776):
  Calls Tryz.prog 52 #[v,.int .i64 c] w fun e w'=>e=.returned (.int .i64 (c+((n*2:Nat):Int)))∧w'.ownsRow base 126 2 v n (z0f (z0I c n))∧w.grownBy w' v.ownBlock:=by
 rcases h.2 with⟨rfl,rfl⟩|⟨g,cap,L,rfl,hb,hg,r⟩
 ·go_enter Tryz.func52,Tryz.ntmps52
  go_wp2
  refine wp_loop_rounds 1 ?_;rw[rounds_succ]
  go_wp2
  go_ret;exact⟨by simp,World.ownsRow_nil _ _ _ _,World.grownBy.refl _ _⟩
 ·clear hg r;have d:=z0H (z0I c n);rw[z0Z]at d;have I:xs.length=(z0f (z0I c n)).length:=by rw[d];exact h.1
  rw[←z1Y (z0f (z0I c n)) xs]at h;go_enter Tryz.func52,Tryz.ntmps52
  go_wp2
  go_loopw[1,5] (fun j i wr=>∃k:Nat,k≤n∧j=.int .i64 (c+((k*2:Nat):Int))∧i=.int .i64 k∧wr.ownsRow base 126 2 (.slice (some ⟨g,0,none⟩) n cap) n (z6O (z0f (z0I c n)) xs (k*2))∧w.grownBy wr (some g)) (fun _ i _=>n-(intOf i).toNat)
  case atStart=>exact⟨0,Nat.zero_le _,by simp,rfl,by simpa using h,World.grownBy.refl _ _⟩
  case round=>
   obtain⟨k,hk,rfl,rfl,ho,z⟩:=hrel;by_cases A:k<n
   ·obtain⟨g0,g1⟩:=z17 (z0I c n) k (by rw[z0Z];exact A);rw[z3l _ _ _ A]at g0 g1;obtain⟨E,⟨f0,f1⟩,⟨⟨u0,e0⟩,⟨u1,e1⟩⟩,_⟩:=q1u ho I d A g0 g1;have x:=q2V z (g:=g) (k:=k*2) (v0:=.int .i64 (c+((k*2:Nat):Int))) (v1:=.int .i64 (c+((k*2+1:Nat):Int)));have R:Hid (_∧_):=⟨E,x⟩
    have C:c+((k*2+1:Nat):Int)=c+((k*2:Nat):Int)+1:=by omega
    have D:Hid (c+(((k+1)*2:Nat):Int)=c+((k*2:Nat):Int)+1+1):=show _=_ by omega
    rw[C]at R;clear E x g0 g1 ho z C;generalize hy:((k*2:Nat):Int)=y at R D;have N:y≤2199023255552:=by omega
    have M:0≤y:=by omega
    clear hy
    go_wp2
    go_roundw
    case rel=>exact⟨k+1,by omega,by rw[D.out],by go_num,R.out.1,R.out.2⟩
    case measure=>simp[intOf];omega
   ·go_wp2
    go_ret;have J:k=n:=by omega
    subst J;rw[z2M _ _ _ I d]at ho;exact⟨rfl,ho,z⟩
theorem q2W{w wr:World}{g k:Nat}{v0 v1 v2:Value}(h:w.grownBy wr (some g)):w.grownBy (((wr.setCell ⟨g,k,none⟩ v0).setCell ⟨g,k+1,none⟩ v1).setCell ⟨g,k+2,none⟩ v2) (some g):=by
 have one:∀ (u:World) (j:Nat) (v:Value),w.grownBy u (some g)→w.grownBy (u.setCell ⟨g,j,none⟩ v) (some g):=fun u j v h=>
  ⟨h.os,h.tape,h.output,by simpa[World.setCell]using h.size,fun i hi hne=>by rw[Below.heap_setCell _ _ _ _ (by intro e;apply hne;simp[e])];exact h.block i hi hne⟩
 exact(one _ _ _ (one _ _ _ (one _ _ _ h)))
theorem z1I(c:Int)(n:Nat):(z0X c n).length=n:=by simp[z0X]
theorem z6n(c:Int)(n i:Nat)(h:i<n):(z0X c n).getD i z0j=⟨c+((i*3:Nat):Int),((c+((i*3+1:Nat):Int)) % 3==0),c+((i*3+2:Nat):Int)⟩:=by simp[z0X,List.getD,h]
theorem z7B(base:Nat)(v:Value)(n:Nat)(xs:List Value)(c:Int)(w:World)(h:w.ownsRow base 204 3 v n xs)(hn:n≤1099511627776)(h0:0≤c)(h1:c≤1099511627776):
  Calls Tryz.prog 105 #[v,.int .i64 c] w fun e w'=>e=.returned (.int .i64 (c+((n*3:Nat):Int)))∧w'.ownsRow base 204 3 v n (z0m (z0X c n))∧w.grownBy w' v.ownBlock:=by
 rcases h.2 with⟨rfl,rfl⟩|⟨g,cap,M,rfl,hb,hg,r⟩
 ·go_enter Tryz.func105,Tryz.ntmps105
  go_wp2
  refine wp_loop_rounds 1 ?_;rw[rounds_succ]
  go_wp2
  go_ret;exact⟨by simp,World.ownsRow_nil _ _ _ _,World.grownBy.refl _ _⟩
 ·clear hg r;have d:=z1F (z0X c n);rw[z1I]at d;have J:xs.length=(z0m (z0X c n)).length:=by rw[d];exact h.1
  rw[←z1Y (z0m (z0X c n)) xs]at h;go_enter Tryz.func105,Tryz.ntmps105
  go_wp2
  go_loopw[1,5] (fun j i wr=>∃k:Nat,k≤n∧j=.int .i64 (c+((k*3:Nat):Int))∧i=.int .i64 k∧wr.ownsRow base 204 3 (.slice (some ⟨g,0,none⟩) n cap) n (z6O (z0m (z0X c n)) xs (k*3))∧w.grownBy wr (some g)) (fun _ i _=>n-(intOf i).toNat)
  case atStart=>exact⟨0,Nat.zero_le _,by simp,rfl,by simpa using h,World.grownBy.refl _ _⟩
  case round=>
   obtain⟨k,hk,rfl,rfl,ho,z⟩:=hrel;by_cases A:k<n
   ·obtain⟨g0,g1,g2⟩:=z18 (z0X c n) k (by rw[z1I];exact A);rw[z6n _ _ _ A]at g0 g1 g2;obtain⟨I,⟨f0,f1,f2⟩,⟨⟨u0,e0⟩,⟨u1,e1⟩,⟨u2,e2⟩⟩,_⟩:=q1v ho J d A g0 g1 g2;have x:=q2W z (g:=g) (k:=k*3) (v0:=.int .i64 (c+((k*3:Nat):Int))) (v1:=.bool (((c+((k*3+1:Nat):Int)) % 3==0))) (v2:=.int .i64 (c+((k*3+2:Nat):Int)));have R:Hid (_∧_):=⟨I,x⟩
    have C:c+((k*3+1:Nat):Int)=c+((k*3:Nat):Int)+1:=by omega
    have D:c+((k*3+2:Nat):Int)=c+((k*3:Nat):Int)+1+1:=by omega
    have E:Hid (c+(((k+1)*3:Nat):Int)=c+((k*3:Nat):Int)+1+1+1):=show _=_ by omega
    rw[C,D]at R;clear I x g0 g1 g2 ho z C D;generalize hy:((k*3:Nat):Int)=y at R E;have O:y≤3298534883328:=by omega
    have N:0≤y:=by omega
    clear hy
    go_wp2
    go_roundw
    case rel=>exact⟨k+1,by omega,by rw[E.out],by go_num,R.out.1,R.out.2⟩
    case measure=>simp[intOf];omega
   ·go_wp2
    go_ret;have L:k=n:=by omega
    subst L;rw[z2M _ _ _ J d]at ho;exact⟨rfl,ho,z⟩
def z03(c:Int)(zs:List ItemD):List ItemD:=z0I c zs.length
theorem z1y(c:Int)(v:Value)(zs:List ItemD):itemK.fp v (z03 c zs)=itemK.fp v zs:=by rw[z0o,z0o]
theorem z3u(v:Value)(zs:List ItemD)(c:Int)(w:World)(h:itemK.Own w v zs)(hl:zs.length≤1048576)(h0:0≤c)(h1:c≤1099511627776):
  Calls Tryz.prog 52 #[v,.int .i64 c] w fun e w'=>e=.returned (.int .i64 (c+((zs.length*2:Nat):Int)))∧itemK.Own w' v (z03 c zs)∧Out (itemK.fp v zs) w w':=by
 refine(z7A 0 v zs.length _ c w h.1 (by omega) h0 h1).mono ?_;rintro e w' ⟨rfl,ho,hg⟩;refine⟨rfl,⟨?_,fun _ _=>trivial⟩,?_⟩
 ·have e:(z03 c zs).length=zs.length:=by simp[z03,z0Z]
  rw[e];exact ho
 ·rw[z0o];exact Out.of_grown hg
def z4m(c:Int)(zs:List UndoD):List UndoD:=z0X c zs.length
theorem z6K(c:Int)(v:Value)(zs:List UndoD):undoK.fp v (z4m c zs)=undoK.fp v zs:=by rw[z0N,z0N]
theorem z9B(v:Value)(zs:List UndoD)(c:Int)(w:World)(h:undoK.Own w v zs)(hl:zs.length≤1048576)(h0:0≤c)(h1:c≤1099511627776):
  Calls Tryz.prog 105 #[v,.int .i64 c] w fun e w'=>e=.returned (.int .i64 (c+((zs.length*3:Nat):Int)))∧undoK.Own w' v (z4m c zs)∧Out (undoK.fp v zs) w w':=by
 refine(z7B 0 v zs.length _ c w h.1 (by omega) h0 h1).mono ?_;rintro e w' ⟨rfl,ho,hg⟩;refine⟨rfl,⟨?_,fun _ _=>trivial⟩,?_⟩
 ·have e:(z4m c zs).length=zs.length:=by simp[z4m,z1I]
  rw[e];exact ho
 ·rw[z0N];exact Out.of_grown hg
def z1f(c:Int)(p:TxnQ):TxnQ:=⟨c,c+1,c+1+1,p.va,z3k (c+1+1+1) p.acts⟩
def nmTxn(p:TxnQ):Nat:=1+1+1+p.acts.length*3
theorem z6L(c:Int)(p:TxnQ):txnK.foot (z1f c p)=txnK.foot p:=by
 simp only[z1f,show∀p:TxnQ,txnK.foot p=actK.fp p.va p.acts from fun _=>rfl,z8G]
theorem z2Y(v:Value)(ps:List TxnQ)(c:Int)(w:World)(h:txnK.Own w v ps)(ak:(txnK.fp v ps).Nodup)(hl:(ps.length+nmL TxnQ.n ps)≤1048576)(h0:0≤c)(h1:c+(nmL nmTxn ps:Int)≤1099511627776):
  Calls Tryz.prog 48 #[v,.int .i64 c] w fun e w'=>e=.returned (.int .i64 (c+(nmL nmTxn ps:Int)))∧txnK.Own w' v (mkL z1f nmTxn c ps)∧Out (txnK.fp v ps) w w':=by
 obtain⟨a,cap,rfl⟩:=h.shape;have T:∀k,k≤ps.length→txnK.fp (.slice a ps.length cap) (half z1f nmTxn c ps k)=txnK.fp (.slice a ps.length cap) ps:=fun k hk=>z5U z6L _ c ps k
 have HF:Hid (∀k,k≤ps.length→txnK.fp (.slice a ps.length cap) (half z1f nmTxn c ps k)=txnK.fp (.slice a ps.length cap) ps):=T;have HA:Hid (txnK.Own w (.slice a ps.length cap) (half z1f nmTxn c ps 0)):=by rw[z2K];exact h
 clear T h;go_enter Tryz.func48,Tryz.ntmps48
 go_wp2
 go_loopw[1,5] (fun j i wr=>∃k:Nat,k≤ps.length∧j=.int .i64 (c+(nmL nmTxn (ps.take k):Int))∧i=.int .i64 k∧Hid (txnK.Own wr (.slice a ps.length cap) (half z1f nmTxn c ps k))∧Hid (Out (txnK.fp (.slice a ps.length cap) ps) w wr)) (fun _ i _=>ps.length-(intOf i).toNat)
 case atStart=>exact⟨0,Nat.zero_le _,by simp[nmL],rfl,HA,Out.refl _ _⟩
 case round=>
  clear HA;obtain⟨k,hk,rfl,rfl,HO,HU⟩:=hrel;by_cases L:k<ps.length
  ·have au:(half z1f nmTxn c ps k).length=ps.length:=z1x _ _ _ _ _ hk;have hO:=HO.out;obtain⟨g,rfl⟩:=hO.blkOf (by omega);have U:(txnK.fp (.slice (some ⟨g,0,none⟩) ps.length cap) (half z1f nmTxn c ps k)).Nodup:=by rw[HF.out k hk];exact ak
   have W:Hid (∀x∈txnK.foot ps[k],x∈txnK.fp (.slice (some ⟨g,0,none⟩) ps.length cap) ps):=fun x hx=>by
    simp only[Kind.fp,List.mem_append,List.mem_flatMap];exact Or.inr ⟨_,List.getElem_mem L,hx⟩
   have N:Hid (∀x∈[g],x∈txnK.fp (.slice (some ⟨g,0,none⟩) ps.length cap) ps):=fun x hx=>by
    simp only[List.mem_singleton]at hx;subst hx;simp[Kind.fp,blk,Value.ownBlock]
   have ab:k<(half z1f nmTxn c ps k).length:=by omega
   have J:=z3T z1f nmTxn c ps k L;have z:txnK.Own wr (.slice (some ⟨g,0,none⟩) ps.length cap) ((half z1f nmTxn c ps k).set k ps[k]):=by
    have e:(half z1f nmTxn c ps k).set k ps[k]=half z1f nmTxn c ps k:=by
     rw[←J,List.set_getElem_self]
    rw[e];exact hO
   have D:(txnK.fp (.slice (some ⟨g,0,none⟩) ps.length cap) ((half z1f nmTxn c ps k).set k ps[k])).Nodup:=by
    have e:(half z1f nmTxn c ps k).set k ps[k]=half z1f nmTxn c ps k:=by
     rw[←J,List.set_getElem_self]
    rw[e];exact U
   clear J hO U;have V:=z3U z1f nmTxn c ps k L;have am:=z1h nmTxn ps k L;have ai:=z3d nmTxn ps (k+1);have ao:=z1d TxnQ.n ps k L;have Z:Hid ((nmL nmTxn (ps.take (k+1)):Int)=(nmL nmTxn (ps.take k):Int)+(nmTxn ps[k]:Int)):=show _=_ by omega
   have an:(nmL nmTxn (ps.take k):Int)+(nmTxn ps[k]:Int)≤nmL nmTxn ps:=by omega
   have O:Hid ((half z1f nmTxn c ps k).set k (z1f (c+(nmL nmTxn (ps.take k):Int)) ps[k])=half z1f nmTxn c ps (k+1)):=V;clear V am ai HO;generalize half z1f nmTxn c ps k=hs at*;generalize al:ps[k]=p at*;clear al;obtain⟨ar,Y,M,A,d⟩:=p;have C:k<hs.length:=ab;dsimp only[nmTxn,TxnQ.n]at Z an ao;generalize hy:(nmL nmTxn (ps.take k):Int)=y at*;have av:0≤y:=by omega
   clear hy;obtain⟨c0,f0⟩:=z.cell' C 0 (.int .i64 ar) rfl;obtain⟨c1,f1⟩:=z.cell' C 1 (.int .i64 Y) rfl;obtain⟨c2,f2⟩:=z.cell' C 2 (.int .i64 M) rfl;obtain⟨c3,f3⟩:=z.cell' C 3 (A) rfl;have c0:wr.cell? ⟨g,k*4,none⟩=_:=c0;have f0:wr.frozen? ⟨g,k*4,none⟩=_:=f0;have c1:wr.cell? ⟨g,k*4+1,none⟩=_:=c1;have f1:wr.frozen? ⟨g,k*4+1,none⟩=_:=f1;have c2:wr.cell? ⟨g,k*4+2,none⟩=_:=c2;have f2:wr.frozen? ⟨g,k*4+2,none⟩=_:=f2;have c3:wr.cell? ⟨g,k*4+3,none⟩=_:=c3;have f3:wr.frozen? ⟨g,k*4+3,none⟩=_:=f3;obtain⟨E,I⟩:=z.store' D C (⟨c+y,Y,M,A,d⟩:TxnQ) 0 (.int .i64 (c+y)) (by decide) rfl rfl (fun _ h=>h);have z:txnK.Own (wr.setCell ⟨g,k*4,none⟩ (.int .i64 (c+y))) (.slice (some ⟨g,0,none⟩) ps.length cap) (hs.set k (⟨c+y,Y,M,A,d⟩:TxnQ)):=E;have D:=I;obtain⟨E,I⟩:=z.store' D C (⟨c+y,c+y+1,M,A,d⟩:TxnQ) 1 (.int .i64 (c+y+1)) (by decide) rfl rfl (fun _ h=>h);have z:txnK.Own ((wr.setCell ⟨g,k*4,none⟩ (.int .i64 (c+y))).setCell ⟨g,k*4+1,none⟩ (.int .i64 (c+y+1))) (.slice (some ⟨g,0,none⟩) ps.length cap) (hs.set k (⟨c+y,c+y+1,M,A,d⟩:TxnQ)):=E;have D:=I;obtain⟨E,I⟩:=z.store' D C (⟨c+y,c+y+1,c+y+1+1,A,d⟩:TxnQ) 2 (.int .i64 (c+y+1+1)) (by decide) rfl rfl (fun _ h=>h);have z:txnK.Own (((wr.setCell ⟨g,k*4,none⟩ (.int .i64 (c+y))).setCell ⟨g,k*4+1,none⟩ (.int .i64 (c+y+1))).setCell ⟨g,k*4+2,none⟩ (.int .i64 (c+y+1+1))) (.slice (some ⟨g,0,none⟩) ps.length cap) (hs.set k (⟨c+y,c+y+1,c+y+1+1,A,d⟩:TxnQ)):=E;have D:=I;have HU:Hid (Out (txnK.fp (.slice (some ⟨g,0,none⟩) ps.length cap) ps) w (((wr.setCell ⟨g,k*4,none⟩ (.int .i64 (c+y))).setCell ⟨g,k*4+1,none⟩ (.int .i64 (c+y+1))).setCell ⟨g,k*4+2,none⟩ (.int .i64 (c+y+1+1)))):=(((HU.out.trans ((Out.setCell _ g (k*4) (.int .i64 (c+y))).mono N.out)).trans ((Out.setCell _ g (k*4+1) (.int .i64 (c+y+1))).mono N.out)).trans ((Out.setCell _ g (k*4+2) (.int .i64 (c+y+1+1))).mono N.out))
   have aa:=z.elem' C;have X:actK.Own (((wr.setCell ⟨g,k*4,none⟩ (.int .i64 (c+y))).setCell ⟨g,k*4+1,none⟩ (.int .i64 (c+y+1))).setCell ⟨g,k*4+2,none⟩ (.int .i64 (c+y+1+1))) A d:=aa;have ad:=q09 A d (c+y+1+1+1) _ X (by omega) (by omega) (by omega);obtain⟨ap,aq,af⟩:=X.shape;subst af;clear aa X
   go_wp2_with fail
   refine ad.mono ?_;rintro e ag ⟨rfl,aj,ae⟩;clear ad;obtain⟨E,I⟩:=z.turn' D C (⟨c+y,c+y+1,c+y+1+1,.slice ap d.length aq,z3k (c+y+1+1+1) d⟩:TxnQ) ae (fun x hx=>hx) rfl (by exact z8G _ _ _) (aj);have HU:Hid (Out (txnK.fp (.slice (some ⟨g,0,none⟩) ps.length cap) ps) w ag):=HU.out.trans (ae.mono (fun x hx=>W.out x (show x∈txnK.foot _ from(fun x hx=>hx) x hx)));have z:=E;have D:=I;have R:Hid (txnK.Own ag (.slice (some ⟨g,0,none⟩) ps.length cap) (half z1f nmTxn c ps (k+1))):=by rw[←O.out];exact z
   clear z D O W N
   go_wp2
   go_roundw
   case rel=>exact⟨k+1,by omega,by rw[Z.out];congr 1;omega,by go_num,R.out,HU.out⟩
   case measure=>simp[intOf];omega
  ·have ah:k=ps.length:=by omega
   subst ah;have hO:=HO.out;rw[z3S]at hO;rw[List.take_length];clear HF HO
   go_wp2
   go_ret;exact⟨rfl,hO,HU.out⟩
theorem z04{A B:List Nat}(h:(A++B).Nodup):∀k∈B,k∉A:=fun k hk hk2=>(List.nodup_append.1 h).2.2 k hk2 k hk rfl
theorem z1q{A B:List Nat}(h:(A++B).Nodup):∀k∈A,k∉B:=fun k hk hk2=>(List.nodup_append.1 h).2.2 k hk k hk2 rfl
theorem z0k{P:Type}{K:Kind P}{v:Value}{hs:List P}{k:Nat}{p:P}(h:(K.fp v (hs.set k p)).Nodup)(hk:k<hs.length):(K.foot p).Nodup:=by
 have h2:=(List.nodup_append.1 h).2.1;rw[z7P hs k hk p]at h2;simp only[List.flatMap_append,List.flatMap_cons]at h2;exact(List.nodup_append.1 (List.nodup_append.1 h2).2.1).1
def z0z(c:Int)(p:RoundQ):RoundQ:=⟨p.vr,z2L (c) p.rep,p.vp,z2L (c+((p.rep.length:Nat):Int)) p.pro⟩
def nmRound(p:RoundQ):Nat:=p.rep.length+p.pro.length
theorem z4G(c:Int)(p:RoundQ):roundK.foot (z0z c p)=roundK.foot p:=by
 simp only[z0z,show∀p:RoundQ,roundK.foot p=intK.fp p.vr p.rep++intK.fp p.vp p.pro from fun _=>rfl,z1E,z1E]
theorem z8H(v:Value)(ps:List RoundQ)(c:Int)(w:World)(h:roundK.Own w v ps)(au:(roundK.fp v ps).Nodup)(hl:(ps.length+nmL RoundQ.n ps)≤1048576)(h0:0≤c)(h1:c+(nmL nmRound ps:Int)≤1099511627776):
  Calls Tryz.prog 75 #[v,.int .i64 c] w fun e w'=>e=.returned (.int .i64 (c+(nmL nmRound ps:Int)))∧roundK.Own w' v (mkL z0z nmRound c ps)∧Out (roundK.fp v ps) w w':=by
 obtain⟨a,cap,rfl⟩:=h.shape;have U:∀k,k≤ps.length→roundK.fp (.slice a ps.length cap) (half z0z nmRound c ps k)=roundK.fp (.slice a ps.length cap) ps:=fun k hk=>z5U z4G _ c ps k
 have HF:Hid (∀k,k≤ps.length→roundK.fp (.slice a ps.length cap) (half z0z nmRound c ps k)=roundK.fp (.slice a ps.length cap) ps):=U;have HA:Hid (roundK.Own w (.slice a ps.length cap) (half z0z nmRound c ps 0)):=by rw[z2K];exact h
 clear U h;go_enter Tryz.func75,Tryz.ntmps75
 go_wp2
 go_loopw[1,5] (fun j i wr=>∃k:Nat,k≤ps.length∧j=.int .i64 (c+(nmL nmRound (ps.take k):Int))∧i=.int .i64 k∧Hid (roundK.Own wr (.slice a ps.length cap) (half z0z nmRound c ps k))∧Hid (Out (roundK.fp (.slice a ps.length cap) ps) w wr)) (fun _ i _=>ps.length-(intOf i).toNat)
 case atStart=>exact⟨0,Nat.zero_le _,by simp[nmL],rfl,HA,Out.refl _ _⟩
 case round=>
  clear HA;obtain⟨k,hk,rfl,rfl,HO,HU⟩:=hrel;by_cases J:k<ps.length
  ·have aB:(half z0z nmRound c ps k).length=ps.length:=z1x _ _ _ _ _ hk;have hO:=HO.out;obtain⟨g,rfl⟩:=hO.blkOf (by omega);have V:(roundK.fp (.slice (some ⟨g,0,none⟩) ps.length cap) (half z0z nmRound c ps k)).Nodup:=by rw[HF.out k hk];exact au
   have M:Hid (∀x∈roundK.foot ps[k],x∈roundK.fp (.slice (some ⟨g,0,none⟩) ps.length cap) ps):=fun x hx=>by
    simp only[Kind.fp,List.mem_append,List.mem_flatMap];exact Or.inr ⟨_,List.getElem_mem J,hx⟩
   have an:Hid (∀x∈[g],x∈roundK.fp (.slice (some ⟨g,0,none⟩) ps.length cap) ps):=fun x hx=>by
    simp only[List.mem_singleton]at hx;subst hx;simp[Kind.fp,blk,Value.ownBlock]
   have ah:k<(half z0z nmRound c ps k).length:=by omega
   have I:=z3T z0z nmRound c ps k J;have z:roundK.Own wr (.slice (some ⟨g,0,none⟩) ps.length cap) ((half z0z nmRound c ps k).set k ps[k]):=by
    have e:(half z0z nmRound c ps k).set k ps[k]=half z0z nmRound c ps k:=by
     rw[←I,List.set_getElem_self]
    rw[e];exact hO
   have D:(roundK.fp (.slice (some ⟨g,0,none⟩) ps.length cap) ((half z0z nmRound c ps k).set k ps[k])).Nodup:=by
    have e:(half z0z nmRound c ps k).set k ps[k]=half z0z nmRound c ps k:=by
     rw[←I,List.set_getElem_self]
    rw[e];exact V
   clear I hO V;have W:=z3U z0z nmRound c ps k J;have aw:=z1h nmRound ps k J;have ap:=z3d nmRound ps (k+1);have ay:=z1d RoundQ.n ps k J;have ae:Hid ((nmL nmRound (ps.take (k+1)):Int)=(nmL nmRound (ps.take k):Int)+(nmRound ps[k]:Int)):=show _=_ by omega
   have ax:(nmL nmRound (ps.take k):Int)+(nmRound ps[k]:Int)≤nmL nmRound ps:=by omega
   have T:Hid ((half z0z nmRound c ps k).set k (z0z (c+(nmL nmRound (ps.take k):Int)) ps[k])=half z0z nmRound c ps (k+1)):=W;clear W aw ap HO;generalize half z0z nmRound c ps k=hs at*;generalize av:ps[k]=p at*;clear av;obtain⟨N,d,E,A⟩:=p;have C:k<hs.length:=ah;dsimp only[nmRound,RoundQ.n]at ae ax ay;generalize hy:(nmL nmRound (ps.take k):Int)=y at*;have aC:0≤y:=by omega
   clear hy;obtain⟨c0,f0⟩:=z.cell' C 0 (N) rfl;have c0:wr.cell? ⟨g,k*2,none⟩=_:=c0;have f0:wr.frozen? ⟨g,k*2,none⟩=_:=f0;have af:=z.elem' C;have Y:intK.Own wr N d:=af.1;have L:=z4l N d (c+y) _ Y (by omega) (by omega) (by omega);obtain⟨ak,al,ai⟩:=Y.shape;subst ai;clear af Y
   go_wp2_with fail
   refine L.mono ?_;rintro e O ⟨rfl,aq,ab⟩;clear L;obtain⟨X,aa⟩:=z.turn' D C (⟨.slice ak d.length al,z2L (c+y) d,E,A⟩:RoundQ) ab (fun x hx=>List.mem_append_left _ hx) rfl (by simp only[show∀p:RoundQ,roundK.foot p=intK.fp p.vr p.rep++intK.fp p.vp p.pro from fun _=>rfl,z1E]) (⟨aq,(z.elem' C).2.out ab (z04 (z0k D C))⟩);have HU:Hid (Out (roundK.fp (.slice (some ⟨g,0,none⟩) ps.length cap) ps) w O):=HU.out.trans (ab.mono (fun x hx=>M.out x (show x∈roundK.foot _ from(fun x hx=>List.mem_append_left _ hx) x hx)));have z:=X;have D:=aa;obtain⟨c1,f1⟩:=z.cell' C 1 (E) rfl;have c1:O.cell? ⟨g,k*2+1,none⟩=_:=c1;have f1:O.frozen? ⟨g,k*2+1,none⟩=_:=f1;have ag:=z.elem' C;have Z:intK.Own O E A:=ag.2;have L:=z4l E A (c+y+((d.length:Nat):Int)) _ Z (by omega) (by omega) (by omega);obtain⟨az,aA,aj⟩:=Z.shape;subst aj;clear ag Z
   go_wp2_with fail
   refine L.mono ?_;rintro e am ⟨rfl,ar,ad⟩;clear L;obtain⟨X,aa⟩:=z.turn' D C (⟨.slice ak d.length al,z2L (c+y) d,.slice az A.length aA,z2L (c+y+((d.length:Nat):Int)) A⟩:RoundQ) ad (fun x hx=>List.mem_append_right _ (hx)) rfl (by simp only[show∀p:RoundQ,roundK.foot p=intK.fp p.vr p.rep++intK.fp p.vp p.pro from fun _=>rfl,z1E]) (⟨(z.elem' C).1.out ad (z1q (z0k D C)),ar⟩);have HU:Hid (Out (roundK.fp (.slice (some ⟨g,0,none⟩) ps.length cap) ps) w am):=HU.out.trans (ad.mono (fun x hx=>M.out x (show x∈roundK.foot _ from(fun x hx=>List.mem_append_right _ (hx)) x hx)));have z:=X;have D:=aa;have R:Hid (roundK.Own am (.slice (some ⟨g,0,none⟩) ps.length cap) (half z0z nmRound c ps (k+1))):=by rw[←T.out];exact z
   clear z D T M an
   go_wp2
   go_roundw
   case rel=>exact⟨k+1,by omega,by rw[ae.out];congr 1;omega,by go_num,R.out,HU.out⟩
   case measure=>simp[intOf];omega
  ·have ao:k=ps.length:=by omega
   subst ao;have hO:=HO.out;rw[z3S]at hO;rw[List.take_length];clear HF HO
   go_wp2
   go_ret;exact⟨rfl,hO,HU.out⟩
theorem q33(ps:List TxnQ):nmL nmTxn ps≤3*(ps.length+nmL TxnQ.n ps):=by
 induction ps with
 |nil=>simp[nmL]
 |cons p r ih=>
  simp only[nmL,List.map_cons,List.sum_cons,List.length_cons]at ih⊢;simp only[nmTxn,TxnQ.n]at ih⊢;omega
theorem q1a(ps:List RoundQ):nmL nmRound ps≤nmL RoundQ.n ps:=by
 induction ps with
 |nil=>simp[nmL]
 |cons p r ih=>
  simp only[nmL,List.map_cons,List.sum_cons]at ih⊢;simp only[nmRound,RoundQ.n]at ih⊢;omega
abbrev z1P(c:Int)(ps:List TxnQ):List TxnQ:=mkL z1f nmTxn c ps
abbrev z42(c:Int)(ps:List RoundQ):List RoundQ:=mkL z0z nmRound c ps
theorem z1b(v:Value)(c:Int)(ps:List TxnQ):txnK.fp v (z1P c ps)=txnK.fp v ps:=q0c z6L _ _ _
theorem z2n(v:Value)(c:Int)(ps:List RoundQ):roundK.fp v (z42 c ps)=roundK.fp v ps:=q0c z4G _ _ _
def z0T(c:Int)(p:InstQ):InstQ:=⟨((c) % 3==0),p.vb,z1P (c+1) p.batch,p.vr,z42 (c+1+((nmL nmTxn p.batch:Nat):Int)) p.rounds,p.vd,z2L (c+1+((nmL nmTxn p.batch:Nat):Int)+((nmL nmRound p.rounds:Nat):Int)) p.dec⟩
def nmInsS(p:InstQ):Nat:=1+nmL nmTxn p.batch+nmL nmRound p.rounds+p.dec.length
theorem z5V(c:Int)(p:InstQ):instK.foot (z0T c p)=instK.foot p:=by
 simp only[z0T,show∀p:InstQ,instK.foot p=txnK.fp p.vb p.batch++(roundK.fp p.vr p.rounds++intK.fp p.vd p.dec)from fun _=>rfl,z1b,z2n,z1E]
theorem z5W(v:Value)(ps:List InstQ)(c:Int)(w:World)(h:instK.Own w v ps)(aG:(instK.fp v ps).Nodup)(hl:(ps.length+nmL InstQ.n ps)≤1048576)(h0:0≤c)(h1:c+(nmL nmInsS ps:Int)≤1099511627776):
  Calls Tryz.prog 46 #[v,.int .i64 c] w fun e w'=>e=.returned (.int .i64 (c+(nmL nmInsS ps:Int)))∧instK.Own w' v (mkL z0T nmInsS c ps)∧Out (instK.fp v ps) w w':=by
 obtain⟨a,cap,rfl⟩:=h.shape;have ad:∀k,k≤ps.length→instK.fp (.slice a ps.length cap) (half z0T nmInsS c ps k)=instK.fp (.slice a ps.length cap) ps:=fun k hk=>z5U z5V _ c ps k
 have HF:Hid (∀k,k≤ps.length→instK.fp (.slice a ps.length cap) (half z0T nmInsS c ps k)=instK.fp (.slice a ps.length cap) ps):=ad;have HA:Hid (instK.Own w (.slice a ps.length cap) (half z0T nmInsS c ps 0)):=by rw[z2K];exact h
 clear ad h;go_enter Tryz.func46,Tryz.ntmps46
 go_wp2
 go_loopw[1,5] (fun j i wr=>∃k:Nat,k≤ps.length∧j=.int .i64 (c+(nmL nmInsS (ps.take k):Int))∧i=.int .i64 k∧Hid (instK.Own wr (.slice a ps.length cap) (half z0T nmInsS c ps k))∧Hid (Out (instK.fp (.slice a ps.length cap) ps) w wr)) (fun _ i _=>ps.length-(intOf i).toNat)
 case atStart=>exact⟨0,Nat.zero_le _,by simp[nmL],rfl,HA,Out.refl _ _⟩
 case round=>
  clear HA;obtain⟨k,hk,rfl,rfl,HO,HU⟩:=hrel;by_cases V:k<ps.length
  ·have aN:(half z0T nmInsS c ps k).length=ps.length:=z1x _ _ _ _ _ hk;have hO:=HO.out;obtain⟨g,rfl⟩:=hO.blkOf (by omega);have ae:(instK.fp (.slice (some ⟨g,0,none⟩) ps.length cap) (half z0T nmInsS c ps k)).Nodup:=by rw[HF.out k hk];exact aG
   have T:Hid (∀x∈instK.foot ps[k],x∈instK.fp (.slice (some ⟨g,0,none⟩) ps.length cap) ps):=fun x hx=>by
    simp only[Kind.fp,List.mem_append,List.mem_flatMap];exact Or.inr ⟨_,List.getElem_mem V,hx⟩
   have ar:Hid (∀x∈[g],x∈instK.fp (.slice (some ⟨g,0,none⟩) ps.length cap) ps):=fun x hx=>by
    simp only[List.mem_singleton]at hx;subst hx;simp[Kind.fp,blk,Value.ownBlock]
   have au:k<(half z0T nmInsS c ps k).length:=by omega
   have U:=z3T z0T nmInsS c ps k V;have C:instK.Own wr (.slice (some ⟨g,0,none⟩) ps.length cap) ((half z0T nmInsS c ps k).set k ps[k]):=by
    have e:(half z0T nmInsS c ps k).set k ps[k]=half z0T nmInsS c ps k:=by
     rw[←U,List.set_getElem_self]
    rw[e];exact hO
   have E:(instK.fp (.slice (some ⟨g,0,none⟩) ps.length cap) ((half z0T nmInsS c ps k).set k ps[k])).Nodup:=by
    have e:(half z0T nmInsS c ps k).set k ps[k]=half z0T nmInsS c ps k:=by
     rw[←U,List.set_getElem_self]
    rw[e];exact ae
   clear U hO ae;have af:=z3U z0T nmInsS c ps k V;have aI:=z1h nmInsS ps k V;have aC:=z3d nmInsS ps (k+1);have aK:=z1d InstQ.n ps k V;have an:Hid ((nmL nmInsS (ps.take (k+1)):Int)=(nmL nmInsS (ps.take k):Int)+(nmInsS ps[k]:Int)):=show _=_ by omega
   have aJ:(nmL nmInsS (ps.take k):Int)+(nmInsS ps[k]:Int)≤nmL nmInsS ps:=by omega
   have ab:Hid ((half z0T nmInsS c ps k).set k (z0T (c+(nmL nmInsS (ps.take k):Int)) ps[k])=half z0T nmInsS c ps (k+1)):=af;clear af aI aC HO;generalize half z0T nmInsS c ps k=hs at*;generalize aH:ps[k]=p at*;clear aH;obtain⟨am,M,d,J,z,I,D⟩:=p;have A:k<hs.length:=au;dsimp only[nmInsS,InstQ.n]at an aJ aK;generalize hy:(nmL nmInsS (ps.take k):Int)=y at*;have aO:0≤y:=by omega
   clear hy;obtain⟨c0,f0⟩:=C.cell' A 0 (.bool am) rfl;obtain⟨c1,f1⟩:=C.cell' A 1 (M) rfl;have c0:wr.cell? ⟨g,k*4,none⟩=_:=c0;have f0:wr.frozen? ⟨g,k*4,none⟩=_:=f0;have c1:wr.cell? ⟨g,k*4+1,none⟩=_:=c1;have f1:wr.frozen? ⟨g,k*4+1,none⟩=_:=f1;obtain⟨N,O⟩:=C.store' E A (⟨((c+y) % 3==0),M,d,J,z,I,D⟩:InstQ) 0 (.bool ((c+y) % 3==0)) (by decide) rfl rfl (fun _ h=>h);have C:instK.Own (wr.setCell ⟨g,k*4,none⟩ (.bool ((c+y) % 3==0))) (.slice (some ⟨g,0,none⟩) ps.length cap) (hs.set k (⟨((c+y) % 3==0),M,d,J,z,I,D⟩:InstQ)):=N;have E:=O;have HU:Hid (Out (instK.fp (.slice (some ⟨g,0,none⟩) ps.length cap) ps) w (wr.setCell ⟨g,k*4,none⟩ (.bool ((c+y) % 3==0)))):=(HU.out.trans ((Out.setCell _ g (k*4) (.bool ((c+y) % 3==0))).mono ar.out))
   have ao:=C.elem' A;have ah:txnK.Own (wr.setCell ⟨g,k*4,none⟩ (.bool ((c+y) % 3==0))) M d:=ao.1;have L:=z2Y M d (c+y+1) _ ah (List.nodup_append.1 (z0k E A)).1 (by omega) (by omega) (by omega);obtain⟨ak,al,av⟩:=ah.shape;subst av;clear ao ah
   go_wp2_with fail
   refine L.mono ?_;rintro e Z ⟨rfl,aD,W⟩;clear L;obtain⟨N,O⟩:=C.turn' E A (⟨((c+y) % 3==0),.slice ak d.length al,z1P (c+y+1) d,J,z,I,D⟩:InstQ) W (fun x hx=>List.mem_append_left _ hx) rfl (by simp only[show∀p:InstQ,instK.foot p=txnK.fp p.vb p.batch++(roundK.fp p.vr p.rounds++intK.fp p.vd p.dec)from fun _=>rfl,z1b,z2n,z1E]) (⟨aD,(C.elem' A).2.1.out W (fun k hk=>z04 (z0k E A) k (List.mem_append_left _ hk)),(C.elem' A).2.2.out W (fun k hk=>z04 (z0k E A) k (List.mem_append_right _ hk))⟩);have HU:Hid (Out (instK.fp (.slice (some ⟨g,0,none⟩) ps.length cap) ps) w Z):=HU.out.trans (W.mono (fun x hx=>T.out x (show x∈instK.foot _ from(fun x hx=>List.mem_append_left _ hx) x hx)));have C:=N;have E:=O;obtain⟨c2,f2⟩:=C.cell' A 2 (J) rfl;have c2:Z.cell? ⟨g,k*4+2,none⟩=_:=c2;have f2:Z.frozen? ⟨g,k*4+2,none⟩=_:=f2;have ap:=C.elem' A;have ai:roundK.Own Z J z:=ap.2.1;have L:=z8H J z (c+y+1+((nmL nmTxn d:Nat):Int)) _ ai (List.nodup_append.1 (List.nodup_append.1 (z0k E A)).2.1).1 (by omega) (by omega) (by omega);obtain⟨ay,az,aw⟩:=ai.shape;subst aw;clear ap ai
   go_wp2_with fail
   refine L.mono ?_;rintro e aa ⟨rfl,aE,X⟩;clear L;obtain⟨N,O⟩:=C.turn' E A (⟨((c+y) % 3==0),.slice ak d.length al,z1P (c+y+1) d,.slice ay z.length az,z42 (c+y+1+((nmL nmTxn d:Nat):Int)) z,I,D⟩:InstQ) X (fun x hx=>List.mem_append_right _ (List.mem_append_left _ hx)) rfl (by simp only[show∀p:InstQ,instK.foot p=txnK.fp p.vb p.batch++(roundK.fp p.vr p.rounds++intK.fp p.vd p.dec)from fun _=>rfl,z1b,z2n,z1E]) (⟨(C.elem' A).1.out X (fun k hk ag=>z1q (z0k E A) k hk (List.mem_append_left _ ag)),aE,(C.elem' A).2.2.out X (z04 (List.nodup_append.1 (z0k E A)).2.1)⟩);have HU:Hid (Out (instK.fp (.slice (some ⟨g,0,none⟩) ps.length cap) ps) w aa):=HU.out.trans (X.mono (fun x hx=>T.out x (show x∈instK.foot _ from(fun x hx=>List.mem_append_right _ (List.mem_append_left _ hx)) x hx)));have C:=N;have E:=O;obtain⟨c3,f3⟩:=C.cell' A 3 (I) rfl;have c3:aa.cell? ⟨g,k*4+3,none⟩=_:=c3;have f3:aa.frozen? ⟨g,k*4+3,none⟩=_:=f3;have aq:=C.elem' A;have aj:intK.Own aa I D:=aq.2.2;have L:=z4l I D (c+y+1+((nmL nmTxn d:Nat):Int)+((nmL nmRound z:Nat):Int)) _ aj (by omega) (by omega) (by omega);obtain⟨aL,aM,ax⟩:=aj.shape;subst ax;clear aq aj
   go_wp2_with fail
   refine L.mono ?_;rintro e aA ⟨rfl,aF,Y⟩;clear L;obtain⟨N,O⟩:=C.turn' E A (⟨((c+y) % 3==0),.slice ak d.length al,z1P (c+y+1) d,.slice ay z.length az,z42 (c+y+1+((nmL nmTxn d:Nat):Int)) z,.slice aL D.length aM,z2L (c+y+1+((nmL nmTxn d:Nat):Int)+((nmL nmRound z:Nat):Int)) D⟩:InstQ) Y (fun x hx=>List.mem_append_right _ (List.mem_append_right _ (hx))) rfl (by simp only[show∀p:InstQ,instK.foot p=txnK.fp p.vb p.batch++(roundK.fp p.vr p.rounds++intK.fp p.vd p.dec)from fun _=>rfl,z1b,z2n,z1E]) (⟨(C.elem' A).1.out Y (fun k hk ag=>z1q (z0k E A) k hk (List.mem_append_right _ ag)),(C.elem' A).2.1.out Y (z1q (List.nodup_append.1 (z0k E A)).2.1),aF⟩);have HU:Hid (Out (instK.fp (.slice (some ⟨g,0,none⟩) ps.length cap) ps) w aA):=HU.out.trans (Y.mono (fun x hx=>T.out x (show x∈instK.foot _ from(fun x hx=>List.mem_append_right _ (List.mem_append_right _ (hx))) x hx)));have C:=N;have E:=O;have R:Hid (instK.Own aA (.slice (some ⟨g,0,none⟩) ps.length cap) (half z0T nmInsS c ps (k+1))):=by rw[←ab.out];exact C
   clear C E ab T ar
   go_wp2
   go_roundw
   case rel=>exact⟨k+1,by omega,by rw[an.out];congr 1;omega,by go_num,R.out,HU.out⟩
   case measure=>simp[intOf];omega
  ·have aB:k=ps.length:=by omega
   subst aB;have hO:=HO.out;rw[z3S]at hO;rw[List.take_length];clear HF HO
   go_wp2
   go_ret;exact⟨rfl,hO,HU.out⟩
def z43(c:Int)(p:USQ):USQ:=⟨p.va,z4m (c) p.us⟩
def nmUs(p:USQ):Nat:=p.us.length*3
theorem z8I(c:Int)(p:USQ):ussK.foot (z43 c p)=ussK.foot p:=by
 simp only[z43,show∀p:USQ,ussK.foot p=undoK.fp p.va p.us from fun _=>rfl,z6K]
theorem q2X(v:Value)(ps:List USQ)(c:Int)(w:World)(h:ussK.Own w v ps)(ah:(ussK.fp v ps).Nodup)(hl:(ps.length+nmL USQ.n ps)≤1048576)(h0:0≤c)(h1:c+(nmL nmUs ps:Int)≤1099511627776):
  Calls Tryz.prog 77 #[v,.int .i64 c] w fun e w'=>e=.returned (.int .i64 (c+(nmL nmUs ps:Int)))∧ussK.Own w' v (mkL z43 nmUs c ps)∧Out (ussK.fp v ps) w w':=by
 obtain⟨a,cap,rfl⟩:=h.shape;have I:∀k,k≤ps.length→ussK.fp (.slice a ps.length cap) (half z43 nmUs c ps k)=ussK.fp (.slice a ps.length cap) ps:=fun k hk=>z5U z8I _ c ps k
 have HF:Hid (∀k,k≤ps.length→ussK.fp (.slice a ps.length cap) (half z43 nmUs c ps k)=ussK.fp (.slice a ps.length cap) ps):=I;have HA:Hid (ussK.Own w (.slice a ps.length cap) (half z43 nmUs c ps 0)):=by rw[z2K];exact h
 clear I h;go_enter Tryz.func77,Tryz.ntmps77
 go_wp2
 go_loopw[1,5] (fun j i wr=>∃k:Nat,k≤ps.length∧j=.int .i64 (c+(nmL nmUs (ps.take k):Int))∧i=.int .i64 k∧Hid (ussK.Own wr (.slice a ps.length cap) (half z43 nmUs c ps k))∧Hid (Out (ussK.fp (.slice a ps.length cap) ps) w wr)) (fun _ i _=>ps.length-(intOf i).toNat)
 case atStart=>exact⟨0,Nat.zero_le _,by simp[nmL],rfl,HA,Out.refl _ _⟩
 case round=>
  clear HA;obtain⟨k,hk,rfl,rfl,HO,HU⟩:=hrel;by_cases C:k<ps.length
  ·have ap:(half z43 nmUs c ps k).length=ps.length:=z1x _ _ _ _ _ hk;have hO:=HO.out;obtain⟨g,rfl⟩:=hO.blkOf (by omega);have J:(ussK.fp (.slice (some ⟨g,0,none⟩) ps.length cap) (half z43 nmUs c ps k)).Nodup:=by rw[HF.out k hk];exact ah
   have M:Hid (∀x∈ussK.foot ps[k],x∈ussK.fp (.slice (some ⟨g,0,none⟩) ps.length cap) ps):=fun x hx=>by
    simp only[Kind.fp,List.mem_append,List.mem_flatMap];exact Or.inr ⟨_,List.getElem_mem C,hx⟩
   have ad:Hid (∀x∈[g],x∈ussK.fp (.slice (some ⟨g,0,none⟩) ps.length cap) ps):=fun x hx=>by
    simp only[List.mem_singleton]at hx;subst hx;simp[Kind.fp,blk,Value.ownBlock]
   have W:k<(half z43 nmUs c ps k).length:=by omega
   have A:=z3T z43 nmUs c ps k C;have z:ussK.Own wr (.slice (some ⟨g,0,none⟩) ps.length cap) ((half z43 nmUs c ps k).set k ps[k]):=by
    have e:(half z43 nmUs c ps k).set k ps[k]=half z43 nmUs c ps k:=by
     rw[←A,List.set_getElem_self]
    rw[e];exact hO
   have T:(ussK.fp (.slice (some ⟨g,0,none⟩) ps.length cap) ((half z43 nmUs c ps k).set k ps[k])).Nodup:=by
    have e:(half z43 nmUs c ps k).set k ps[k]=half z43 nmUs c ps k:=by
     rw[←A,List.set_getElem_self]
    rw[e];exact J
   clear A hO J;have L:=z3U z43 nmUs c ps k C;have ak:=z1h nmUs ps k C;have af:=z3d nmUs ps (k+1);have am:=z1d USQ.n ps k C;have U:Hid ((nmL nmUs (ps.take (k+1)):Int)=(nmL nmUs (ps.take k):Int)+(nmUs ps[k]:Int)):=show _=_ by omega
   have al:(nmL nmUs (ps.take k):Int)+(nmUs ps[k]:Int)≤nmL nmUs ps:=by omega
   have E:Hid ((half z43 nmUs c ps k).set k (z43 (c+(nmL nmUs (ps.take k):Int)) ps[k])=half z43 nmUs c ps (k+1)):=L;clear L ak af HO;generalize half z43 nmUs c ps k=hs at*;generalize aj:ps[k]=p at*;clear aj;obtain⟨D,d⟩:=p;have N:k<hs.length:=W;dsimp only[nmUs,USQ.n]at U al am;generalize hy:(nmL nmUs (ps.take k):Int)=y at*;have aq:0≤y:=by omega
   clear hy;obtain⟨c0,f0⟩:=z.cell' N 0 (D) rfl;rw[show k*ussK.size+0=k from by show k*1+0=k;omega]at c0 f0;have V:=z.elem' N;have O:undoK.Own wr D d:=V;have X:=z9B D d (c+y) _ O (by omega) (by omega) (by omega);obtain⟨an,ao,Z⟩:=O.shape;subst Z;clear V O
   go_wp2_with fail
   refine X.mono ?_;rintro e aa ⟨rfl,ag,Y⟩;clear X;obtain⟨ab,ai⟩:=z.turn' T N (⟨.slice an d.length ao,z4m (c+y) d⟩:USQ) Y (fun x hx=>hx) rfl (by exact z6K _ _ _) (ag);have HU:Hid (Out (ussK.fp (.slice (some ⟨g,0,none⟩) ps.length cap) ps) w aa):=HU.out.trans (Y.mono (fun x hx=>M.out x (show x∈ussK.foot _ from(fun x hx=>hx) x hx)));have z:=ab;have T:=ai;have R:Hid (ussK.Own aa (.slice (some ⟨g,0,none⟩) ps.length cap) (half z43 nmUs c ps (k+1))):=by rw[←E.out];exact z
   clear z T E M ad
   go_wp2
   go_roundw
   case rel=>exact⟨k+1,by omega,by rw[U.out];congr 1;omega,by go_num,R.out,HU.out⟩
   case measure=>simp[intOf];omega
  ·have ae:k=ps.length:=by omega
   subst ae;have hO:=HO.out;rw[z3S]at hO;rw[List.take_length];clear HF HO
   go_wp2
   go_ret;exact⟨rfl,hO,HU.out⟩
theorem q0d(ps:List TxnQ):nmL nmTxn ps≤3*(ps.length+nmL TxnQ.n ps):=by
 induction ps with
 |nil=>simp[nmL]
 |cons p r ih=>
  simp only[nmL,List.map_cons,List.sum_cons,List.length_cons]at ih⊢;simp only[nmTxn,TxnQ.n]at ih⊢;omega
theorem q34(ps:List USQ):nmL nmUs ps≤3*(ps.length+nmL USQ.n ps):=by
 induction ps with
 |nil=>simp[nmL]
 |cons p r ih=>
  simp only[nmL,List.map_cons,List.sum_cons,List.length_cons]at ih⊢;simp only[nmUs,USQ.n]at ih⊢;omega
abbrev q35(c:Int)(ps:List USQ):List USQ:=mkL z43 nmUs c ps
theorem z2Z(v:Value)(c:Int)(ps:List USQ):ussK.fp v (q35 c ps)=ussK.fp v ps:=q0c z8I _ _ _
def z00(c:Int)(p:NodeQ):NodeQ:=⟨c,c+1,p.vd,z1P (c+1+1) p.done,p.vb,z03 (c+1+1+((nmL nmTxn p.done:Nat):Int)) p.base,p.vt,z1P (c+1+1+((nmL nmTxn p.done:Nat):Int)+((p.base.length*2:Nat):Int)) p.tent,p.vu,q35 (c+1+1+((nmL nmTxn p.done:Nat):Int)+((p.base.length*2:Nat):Int)+((nmL nmTxn p.tent:Nat):Int)) p.undos,p.vn,z03 (c+1+1+((nmL nmTxn p.done:Nat):Int)+((p.base.length*2:Nat):Int)+((nmL nmTxn p.tent:Nat):Int)+((nmL nmUs p.undos:Nat):Int)) p.now⟩
def nmNodS(p:NodeQ):Nat:=1+1+nmL nmTxn p.done+p.base.length*2+nmL nmTxn p.tent+nmL nmUs p.undos+p.now.length*2
theorem z9C(c:Int)(p:NodeQ):nodeK.foot (z00 c p)=nodeK.foot p:=by
 simp only[z00,show∀p:NodeQ,nodeK.foot p=txnK.fp p.vd p.done++(itemK.fp p.vb p.base++(txnK.fp p.vt p.tent++(ussK.fp p.vu p.undos++itemK.fp p.vn p.now)))from fun _=>rfl,z1b,z1y,z1b,z2Z,z1y]
theorem z9D(v:Value)(ps:List NodeQ)(c:Int)(w:World)(h:nodeK.Own w v ps)(a2:(nodeK.fp v ps).Nodup)(hl:(ps.length+nmL NodeQ.n ps)≤1048576)(h0:0≤c)(h1:c+(nmL nmNodS ps:Int)≤1099511627776):
  Calls Tryz.prog 47 #[v,.int .i64 c] w fun e w'=>e=.returned (.int .i64 (c+(nmL nmNodS ps:Int)))∧nodeK.Own w' v (mkL z00 nmNodS c ps)∧Out (nodeK.fp v ps) w w':=by
 obtain⟨a,cap,rfl⟩:=h.shape;have ar:∀k,k≤ps.length→nodeK.fp (.slice a ps.length cap) (half z00 nmNodS c ps k)=nodeK.fp (.slice a ps.length cap) ps:=fun k hk=>z5U z9C _ c ps k
 have HF:Hid (∀k,k≤ps.length→nodeK.fp (.slice a ps.length cap) (half z00 nmNodS c ps k)=nodeK.fp (.slice a ps.length cap) ps):=ar;have HA:Hid (nodeK.Own w (.slice a ps.length cap) (half z00 nmNodS c ps 0)):=by rw[z2K];exact h
 clear ar h;go_enter Tryz.func47,Tryz.ntmps47
 go_wp2
 go_loopw[1,5] (fun j i wr=>∃k:Nat,k≤ps.length∧j=.int .i64 (c+(nmL nmNodS (ps.take k):Int))∧i=.int .i64 k∧Hid (nodeK.Own wr (.slice a ps.length cap) (half z00 nmNodS c ps k))∧Hid (Out (nodeK.fp (.slice a ps.length cap) ps) w wr)) (fun _ i _=>ps.length-(intOf i).toNat)
 case atStart=>exact⟨0,Nat.zero_le _,by simp[nmL],rfl,HA,Out.refl _ _⟩
 case round=>
  clear HA;obtain⟨k,hk,rfl,rfl,HO,HU⟩:=hrel;by_cases ag:k<ps.length
  ·have bd:(half z00 nmNodS c ps k).length=ps.length:=z1x _ _ _ _ _ hk;have hO:=HO.out;obtain⟨g,rfl⟩:=hO.blkOf (by omega);have au:(nodeK.fp (.slice (some ⟨g,0,none⟩) ps.length cap) (half z00 nmNodS c ps k)).Nodup:=by rw[HF.out k hk];exact a2
   have Y:Hid (∀x∈nodeK.foot ps[k],x∈nodeK.fp (.slice (some ⟨g,0,none⟩) ps.length cap) ps):=fun x hx=>by
    simp only[Kind.fp,List.mem_append,List.mem_flatMap];exact Or.inr ⟨_,List.getElem_mem ag,hx⟩
   have aw:Hid (∀x∈[g],x∈nodeK.fp (.slice (some ⟨g,0,none⟩) ps.length cap) ps):=fun x hx=>by
    simp only[List.mem_singleton]at hx;subst hx;simp[Kind.fp,blk,Value.ownBlock]
   have aK:k<(half z00 nmNodS c ps k).length:=by omega
   have af:=z3T z00 nmNodS c ps k ag;have D:nodeK.Own wr (.slice (some ⟨g,0,none⟩) ps.length cap) ((half z00 nmNodS c ps k).set k ps[k]):=by
    have e:(half z00 nmNodS c ps k).set k ps[k]=half z00 nmNodS c ps k:=by
     rw[←af,List.set_getElem_self]
    rw[e];exact hO
   have I:(nodeK.fp (.slice (some ⟨g,0,none⟩) ps.length cap) ((half z00 nmNodS c ps k).set k ps[k])).Nodup:=by
    have e:(half z00 nmNodS c ps k).set k ps[k]=half z00 nmNodS c ps k:=by
     rw[←af,List.set_getElem_self]
    rw[e];exact au
   clear af hO au;have av:=z3U z00 nmNodS c ps k ag;have a7:=z1h nmNodS ps k ag;have aV:=z3d nmNodS ps (k+1);have ba:=z1d NodeQ.n ps k ag;have aE:Hid ((nmL nmNodS (ps.take (k+1)):Int)=(nmL nmNodS (ps.take k):Int)+(nmNodS ps[k]:Int)):=show _=_ by omega
   have a8:(nmL nmNodS (ps.take k):Int)+(nmNodS ps[k]:Int)≤nmL nmNodS ps:=by omega
   have aq:Hid ((half z00 nmNodS c ps k).set k (z00 (c+(nmL nmNodS (ps.take k):Int)) ps[k])=half z00 nmNodS c ps (k+1)):=av;clear av a7 aV HO;generalize half z00 nmNodS c ps k=hs at*;generalize a6:ps[k]=p at*;clear a6;obtain⟨aT,aj,X,d,W,A,T,C,N,E,M,J⟩:=p;have z:k<hs.length:=aK;dsimp only[nmNodS,NodeQ.n,NodeQ.r,RepQ.n]at aE a8 ba;generalize hy:(nmL nmNodS (ps.take k):Int)=y at*;have be:0≤y:=by omega
   clear hy;obtain⟨c0,f0⟩:=D.cell' z 0 (.int .i64 aT) rfl;obtain⟨c1,f1⟩:=D.cell' z 1 (.int .i64 aj) rfl;obtain⟨c2,f2⟩:=D.cell' z 2 (X) rfl;have c0:wr.cell? ⟨g,k*7,none⟩=_:=c0;have f0:wr.frozen? ⟨g,k*7,none⟩=_:=f0;have c1:wr.cell? ⟨g,k*7+1,none⟩=_:=c1;have f1:wr.frozen? ⟨g,k*7+1,none⟩=_:=f1;have c2:wr.cell? ⟨g,k*7+2,none⟩=_:=c2;have f2:wr.frozen? ⟨g,k*7+2,none⟩=_:=f2;obtain⟨U,V⟩:=D.store' I z (⟨c+y,aj,X,d,W,A,T,C,N,E,M,J⟩:NodeQ) 0 (.int .i64 (c+y)) (by decide) rfl rfl (fun _ h=>h);have D:nodeK.Own (wr.setCell ⟨g,k*7,none⟩ (.int .i64 (c+y))) (.slice (some ⟨g,0,none⟩) ps.length cap) (hs.set k (⟨c+y,aj,X,d,W,A,T,C,N,E,M,J⟩:NodeQ)):=U;have I:=V;obtain⟨U,V⟩:=D.store' I z (⟨c+y,c+y+1,X,d,W,A,T,C,N,E,M,J⟩:NodeQ) 1 (.int .i64 (c+y+1)) (by decide) rfl rfl (fun _ h=>h);have D:nodeK.Own ((wr.setCell ⟨g,k*7,none⟩ (.int .i64 (c+y))).setCell ⟨g,k*7+1,none⟩ (.int .i64 (c+y+1))) (.slice (some ⟨g,0,none⟩) ps.length cap) (hs.set k (⟨c+y,c+y+1,X,d,W,A,T,C,N,E,M,J⟩:NodeQ)):=U;have I:=V;have HU:Hid (Out (nodeK.fp (.slice (some ⟨g,0,none⟩) ps.length cap) ps) w ((wr.setCell ⟨g,k*7,none⟩ (.int .i64 (c+y))).setCell ⟨g,k*7+1,none⟩ (.int .i64 (c+y+1)))):=((HU.out.trans ((Out.setCell _ g (k*7) (.int .i64 (c+y))).mono aw.out)).trans ((Out.setCell _ g (k*7+1) (.int .i64 (c+y+1))).mono aw.out))
   have aF:=D.elem' z;have ax:txnK.Own ((wr.setCell ⟨g,k*7,none⟩ (.int .i64 (c+y))).setCell ⟨g,k*7+1,none⟩ (.int .i64 (c+y+1))) X d:=aF.1;have O:=z2Y X d (c+y+1+1) _ ax (List.nodup_append.1 (z0k I z)).1 (by omega) (by omega) (by omega);obtain⟨ah,ai,aL⟩:=ax.shape;subst aL;clear aF ax
   go_wp2_with fail
   refine O.mono ?_;rintro e am ⟨rfl,aW,Z⟩;clear O;obtain⟨U,V⟩:=D.turn' I z (⟨c+y,c+y+1,.slice ah d.length ai,z1P (c+y+1+1) d,W,A,T,C,N,E,M,J⟩:NodeQ) Z (fun x hx=>List.mem_append_left _ hx) rfl (by simp only[show∀p:NodeQ,nodeK.foot p=txnK.fp p.vd p.done++(itemK.fp p.vb p.base++(txnK.fp p.vt p.tent++(ussK.fp p.vu p.undos++itemK.fp p.vn p.now)))from fun _=>rfl,z1b,z1y,z2Z]) ((id ⟨aW,(D.elem' z).2.1.out Z (fun k hk=>z04 (z0k I z) k (List.mem_append_left _ hk)),(D.elem' z).2.2.1.out Z (fun k hk=>z04 (z0k I z) k (List.mem_append_right _ (List.mem_append_left _ hk))),(D.elem' z).2.2.2.1.out Z (fun k hk=>z04 (z0k I z) k (List.mem_append_right _ (List.mem_append_right _ (List.mem_append_left _ hk)))),(D.elem' z).2.2.2.2.out Z (fun k hk=>z04 (z0k I z) k (List.mem_append_right _ (List.mem_append_right _ (List.mem_append_right _ hk))))⟩:_∧_∧_∧_∧_));have HU:Hid (Out (nodeK.fp (.slice (some ⟨g,0,none⟩) ps.length cap) ps) w am):=HU.out.trans (Z.mono (fun x hx=>Y.out x (show x∈nodeK.foot _ from(fun x hx=>List.mem_append_left _ hx) x hx)));have D:=U;have I:=V;obtain⟨c3,f3⟩:=D.cell' z 3 (W) rfl;have c3:am.cell? ⟨g,k*7+3,none⟩=_:=c3;have f3:am.frozen? ⟨g,k*7+3,none⟩=_:=f3;have aG:=D.elem' z;have ay:itemK.Own am W A:=aG.2.1;have O:=z3u W A (c+y+1+1+((nmL nmTxn d:Nat):Int)) _ ay (by omega) (by omega) (by omega);obtain⟨ak,al,aM⟩:=ay.shape;subst aM;clear aG ay
   go_wp2_with fail
   refine O.mono ?_;rintro e an ⟨rfl,aX,aa⟩;clear O;obtain⟨U,V⟩:=D.turn' I z (⟨c+y,c+y+1,.slice ah d.length ai,z1P (c+y+1+1) d,.slice ak A.length al,z03 (c+y+1+1+((nmL nmTxn d:Nat):Int)) A,T,C,N,E,M,J⟩:NodeQ) aa (fun x hx=>List.mem_append_right _ (List.mem_append_left _ hx)) rfl (by simp only[show∀p:NodeQ,nodeK.foot p=txnK.fp p.vd p.done++(itemK.fp p.vb p.base++(txnK.fp p.vt p.tent++(ussK.fp p.vu p.undos++itemK.fp p.vn p.now)))from fun _=>rfl,z1b,z1y,z2Z]) ((id ⟨(D.elem' z).1.out aa (fun k hk L=>z1q (z0k I z) k hk (List.mem_append_left _ L)),aX,(D.elem' z).2.2.1.out aa (fun k hk=>z04 (List.nodup_append.1 (z0k I z)).2.1 k (List.mem_append_left _ hk)),(D.elem' z).2.2.2.1.out aa (fun k hk=>z04 (List.nodup_append.1 (z0k I z)).2.1 k (List.mem_append_right _ (List.mem_append_left _ hk))),(D.elem' z).2.2.2.2.out aa (fun k hk=>z04 (List.nodup_append.1 (z0k I z)).2.1 k (List.mem_append_right _ (List.mem_append_right _ hk)))⟩:_∧_∧_∧_∧_));have HU:Hid (Out (nodeK.fp (.slice (some ⟨g,0,none⟩) ps.length cap) ps) w an):=HU.out.trans (aa.mono (fun x hx=>Y.out x (show x∈nodeK.foot _ from(fun x hx=>List.mem_append_right _ (List.mem_append_left _ hx)) x hx)));have D:=U;have I:=V;obtain⟨c4,f4⟩:=D.cell' z 4 (T) rfl;have c4:an.cell? ⟨g,k*7+4,none⟩=_:=c4;have f4:an.frozen? ⟨g,k*7+4,none⟩=_:=f4;have aH:=D.elem' z;have az:txnK.Own an T C:=aH.2.2.1;have O:=z2Y T C (c+y+1+1+((nmL nmTxn d:Nat):Int)+((A.length*2:Nat):Int)) _ az (List.nodup_append.1 (List.nodup_append.1 (List.nodup_append.1 (z0k I z)).2.1).2.1).1 (by omega) (by omega) (by omega);obtain⟨aC,aD,aN⟩:=az.shape;subst aN;clear aH az
   go_wp2_with fail
   refine O.mono ?_;rintro e ao ⟨rfl,aY,ab⟩;clear O;obtain⟨U,V⟩:=D.turn' I z (⟨c+y,c+y+1,.slice ah d.length ai,z1P (c+y+1+1) d,.slice ak A.length al,z03 (c+y+1+1+((nmL nmTxn d:Nat):Int)) A,.slice aC C.length aD,z1P (c+y+1+1+((nmL nmTxn d:Nat):Int)+((A.length*2:Nat):Int)) C,N,E,M,J⟩:NodeQ) ab (fun x hx=>List.mem_append_right _ (List.mem_append_right _ (List.mem_append_left _ hx))) rfl (by simp only[show∀p:NodeQ,nodeK.foot p=txnK.fp p.vd p.done++(itemK.fp p.vb p.base++(txnK.fp p.vt p.tent++(ussK.fp p.vu p.undos++itemK.fp p.vn p.now)))from fun _=>rfl,z1b,z1y,z2Z]) ((id ⟨(D.elem' z).1.out ab (fun k hk L=>z1q (z0k I z) k hk (List.mem_append_right _ (List.mem_append_left _ L))),(D.elem' z).2.1.out ab (fun k hk L=>z1q (List.nodup_append.1 (z0k I z)).2.1 k hk (List.mem_append_left _ L)),aY,(D.elem' z).2.2.2.1.out ab (fun k hk=>z04 (List.nodup_append.1 (List.nodup_append.1 (z0k I z)).2.1).2.1 k (List.mem_append_left _ hk)),(D.elem' z).2.2.2.2.out ab (fun k hk=>z04 (List.nodup_append.1 (List.nodup_append.1 (z0k I z)).2.1).2.1 k (List.mem_append_right _ hk))⟩:_∧_∧_∧_∧_));have HU:Hid (Out (nodeK.fp (.slice (some ⟨g,0,none⟩) ps.length cap) ps) w ao):=HU.out.trans (ab.mono (fun x hx=>Y.out x (show x∈nodeK.foot _ from(fun x hx=>List.mem_append_right _ (List.mem_append_right _ (List.mem_append_left _ hx))) x hx)));have D:=U;have I:=V;obtain⟨c5,f5⟩:=D.cell' z 5 (N) rfl;have c5:ao.cell? ⟨g,k*7+5,none⟩=_:=c5;have f5:ao.frozen? ⟨g,k*7+5,none⟩=_:=f5;have aI:=D.elem' z;have aA:ussK.Own ao N E:=aI.2.2.2.1;have O:=q2X N E (c+y+1+1+((nmL nmTxn d:Nat):Int)+((A.length*2:Nat):Int)+((nmL nmTxn C:Nat):Int)) _ aA (List.nodup_append.1 (List.nodup_append.1 (List.nodup_append.1 (List.nodup_append.1 (z0k I z)).2.1).2.1).2.1).1 (by omega) (by omega) (by omega);obtain⟨aQ,aR,aO⟩:=aA.shape;subst aO;clear aI aA
   go_wp2_with fail
   refine O.mono ?_;rintro e ap ⟨rfl,aZ,ad⟩;clear O;obtain⟨U,V⟩:=D.turn' I z (⟨c+y,c+y+1,.slice ah d.length ai,z1P (c+y+1+1) d,.slice ak A.length al,z03 (c+y+1+1+((nmL nmTxn d:Nat):Int)) A,.slice aC C.length aD,z1P (c+y+1+1+((nmL nmTxn d:Nat):Int)+((A.length*2:Nat):Int)) C,.slice aQ E.length aR,q35 (c+y+1+1+((nmL nmTxn d:Nat):Int)+((A.length*2:Nat):Int)+((nmL nmTxn C:Nat):Int)) E,M,J⟩:NodeQ) ad (fun x hx=>List.mem_append_right _ (List.mem_append_right _ (List.mem_append_right _ (List.mem_append_left _ hx)))) rfl (by simp only[show∀p:NodeQ,nodeK.foot p=txnK.fp p.vd p.done++(itemK.fp p.vb p.base++(txnK.fp p.vt p.tent++(ussK.fp p.vu p.undos++itemK.fp p.vn p.now)))from fun _=>rfl,z1b,z1y,z2Z]) ((id ⟨(D.elem' z).1.out ad (fun k hk L=>z1q (z0k I z) k hk (List.mem_append_right _ (List.mem_append_right _ (List.mem_append_left _ L)))),(D.elem' z).2.1.out ad (fun k hk L=>z1q (List.nodup_append.1 (z0k I z)).2.1 k hk (List.mem_append_right _ (List.mem_append_left _ L))),(D.elem' z).2.2.1.out ad (fun k hk L=>z1q (List.nodup_append.1 (List.nodup_append.1 (z0k I z)).2.1).2.1 k hk (List.mem_append_left _ L)),aZ,(D.elem' z).2.2.2.2.out ad (fun k hk=>z04 (List.nodup_append.1 (List.nodup_append.1 (List.nodup_append.1 (z0k I z)).2.1).2.1).2.1 k hk)⟩:_∧_∧_∧_∧_));have HU:Hid (Out (nodeK.fp (.slice (some ⟨g,0,none⟩) ps.length cap) ps) w ap):=HU.out.trans (ad.mono (fun x hx=>Y.out x (show x∈nodeK.foot _ from(fun x hx=>List.mem_append_right _ (List.mem_append_right _ (List.mem_append_right _ (List.mem_append_left _ hx)))) x hx)));have D:=U;have I:=V;obtain⟨c6,f6⟩:=D.cell' z 6 (M) rfl;have c6:ap.cell? ⟨g,k*7+6,none⟩=_:=c6;have f6:ap.frozen? ⟨g,k*7+6,none⟩=_:=f6;have aJ:=D.elem' z;have aB:itemK.Own ap M J:=aJ.2.2.2.2;have O:=z3u M J (c+y+1+1+((nmL nmTxn d:Nat):Int)+((A.length*2:Nat):Int)+((nmL nmTxn C:Nat):Int)+((nmL nmUs E:Nat):Int)) _ aB (by omega) (by omega) (by omega);obtain⟨bb,bc,aP⟩:=aB.shape;subst aP;clear aJ aB
   go_wp2_with fail
   refine O.mono ?_;rintro e aS ⟨rfl,a1,ae⟩;clear O;obtain⟨U,V⟩:=D.turn' I z (⟨c+y,c+y+1,.slice ah d.length ai,z1P (c+y+1+1) d,.slice ak A.length al,z03 (c+y+1+1+((nmL nmTxn d:Nat):Int)) A,.slice aC C.length aD,z1P (c+y+1+1+((nmL nmTxn d:Nat):Int)+((A.length*2:Nat):Int)) C,.slice aQ E.length aR,q35 (c+y+1+1+((nmL nmTxn d:Nat):Int)+((A.length*2:Nat):Int)+((nmL nmTxn C:Nat):Int)) E,.slice bb J.length bc,z03 (c+y+1+1+((nmL nmTxn d:Nat):Int)+((A.length*2:Nat):Int)+((nmL nmTxn C:Nat):Int)+((nmL nmUs E:Nat):Int)) J⟩:NodeQ) ae (fun x hx=>List.mem_append_right _ (List.mem_append_right _ (List.mem_append_right _ (List.mem_append_right _ (hx))))) rfl (by simp only[show∀p:NodeQ,nodeK.foot p=txnK.fp p.vd p.done++(itemK.fp p.vb p.base++(txnK.fp p.vt p.tent++(ussK.fp p.vu p.undos++itemK.fp p.vn p.now)))from fun _=>rfl,z1b,z1y,z2Z]) ((id ⟨(D.elem' z).1.out ae (fun k hk L=>z1q (z0k I z) k hk (List.mem_append_right _ (List.mem_append_right _ (List.mem_append_right _ L)))),(D.elem' z).2.1.out ae (fun k hk L=>z1q (List.nodup_append.1 (z0k I z)).2.1 k hk (List.mem_append_right _ (List.mem_append_right _ L))),(D.elem' z).2.2.1.out ae (fun k hk L=>z1q (List.nodup_append.1 (List.nodup_append.1 (z0k I z)).2.1).2.1 k hk (List.mem_append_right _ L)),(D.elem' z).2.2.2.1.out ae (fun k hk L=>z1q (List.nodup_append.1 (List.nodup_append.1 (List.nodup_append.1 (z0k I z)).2.1).2.1).2.1 k hk L),a1⟩:_∧_∧_∧_∧_));have HU:Hid (Out (nodeK.fp (.slice (some ⟨g,0,none⟩) ps.length cap) ps) w aS):=HU.out.trans (ae.mono (fun x hx=>Y.out x (show x∈nodeK.foot _ from(fun x hx=>List.mem_append_right _ (List.mem_append_right _ (List.mem_append_right _ (List.mem_append_right _ (hx))))) x hx)));have D:=U;have I:=V;have R:Hid (nodeK.Own aS (.slice (some ⟨g,0,none⟩) ps.length cap) (half z00 nmNodS c ps (k+1))):=by rw[←aq.out];exact D
   clear D I aq Y aw
   go_wp2
   go_roundw
   case rel=>exact⟨k+1,by omega,by rw[aE.out];congr 1;omega,by go_num,R.out,HU.out⟩
   case measure=>simp[intOf];omega
  ·have aU:k=ps.length:=by omega
   subst aU;have hO:=HO.out;rw[z3S]at hO;rw[List.take_length];clear HF HO
   go_wp2
   go_ret;exact⟨rfl,hO,HU.out⟩
def mkClu(c:Int):CluQ→CluQ
 |⟨vo,ord,vm,mem⟩=>⟨vo,mkL z0T nmInsS c ord,vm,mkL z00 nmNodS (c+((nmL nmInsS ord:Nat):Int)) mem⟩
def nmClu:CluQ→Nat
 |⟨vo,ord,vm,mem⟩=>nmL nmInsS ord+nmL nmNodS mem
theorem z5X(ps:List InstQ):nmL nmInsS ps≤3*(ps.length+nmL InstQ.n ps):=by
 induction ps with
 |nil=>simp[nmL]
 |cons p r ih=>
  have h1:=q33 p.batch;have h2:=q1a p.rounds;simp only[nmL,List.map_cons,List.sum_cons,List.length_cons]at ih⊢;simp only[nmInsS,InstQ.n]at ih⊢;simp only[nmL]at h1 h2 ih⊢;omega
theorem z8J(ps:List NodeQ):nmL nmNodS ps≤3*(ps.length+nmL NodeQ.n ps):=by
 induction ps with
 |nil=>simp[nmL]
 |cons p r ih=>
  have h1:=q0d p.done;have h2:=q0d p.tent;have h3:=q34 p.undos;simp only[nmL,List.map_cons,List.sum_cons,List.length_cons]at ih⊢;simp only[nmNodS,NodeQ.n,NodeQ.r,RepQ.n]at ih⊢;simp only[nmL]at h1 h2 h3 ih⊢;omega
theorem q0e(p:CluQ):nmClu p≤3*p.n:=by
 obtain⟨vo,ord,vm,mem⟩:=p;have h1:=z5X ord;have h2:=z8J mem;simp only[nmClu,CluQ.n];omega
theorem z3V(p:CluQ)(c:Int)(w:World)(h:cluK.own w p)(I:(cluK.foot p).Nodup)(hl:CluQ.n p≤1048576)(h0:0≤c)(h1:c≤1000000000):
  Calls Tryz.prog 18 #[.agg #[p.vo,p.vm],.int .i64 c] w fun e w'=>e=.returned (.int .i64 (c+(nmClu p:Int)))∧cluK.own w' (mkClu c p)∧Out (cluK.foot p) w w':=by
 obtain⟨vo,d,vm,x⟩:=p;obtain⟨o0,o1⟩:instK.Own w vo d∧nodeK.Own w vm x:=h;obtain⟨n0,n1,x0⟩:=List.nodup_append.1 (show(instK.fp vo d++nodeK.fp vm x).Nodup from I);have J:∀k∈nodeK.fp vm x,k∉instK.fp vo d:=fun k hk z=>x0 k z k hk rfl
 have L:∀k∈instK.fp vo d,k∉nodeK.fp vm x:=fun k z hk=>x0 k z k hk rfl
 clear I x0;dsimp only[CluQ.n]at hl;have t0:=z5X d;have t1:=z8J x;have A:Hid (∀ {w w':World},Out (instK.fp vo d) w w'→Out (cluK.foot ⟨vo,d,vm,x⟩) w w'):=fun h=>h.mono (fun k hk=>List.mem_append_left _ hk)
 have C:Hid (∀ {w w':World},Out (nodeK.fp vm x) w w'→Out (cluK.foot ⟨vo,d,vm,x⟩) w w'):=fun h=>h.mono (fun k hk=>List.mem_append_right _ hk)
 have D:=fun w h=>z5W vo d c w h n0 (by omega) (by omega) (by omega)
 have E:=fun w h=>z9D vm x (c+((nmL nmInsS d:Nat):Int)) w h n1 (by omega) (by omega) (by omega)
 have e0:∀c,instK.fp vo (mkL z0T nmInsS c d)=instK.fp vo d:=fun c=>q0c z5V _ _ _
 have HR:Hid (∀w',instK.Own w' vo (mkL z0T nmInsS c d)→nodeK.Own w' vm (mkL z00 nmNodS (c+((nmL nmInsS d:Nat):Int)) x)→cluK.own w' (mkClu c ⟨vo,d,vm,x⟩)):=fun w' a b=>⟨a,b⟩
 have HS:Hid ((c+((nmL nmInsS d:Nat):Int)+((nmL nmNodS x:Nat):Int):Int)=c+(nmClu ⟨vo,d,vm,x⟩:Int)):=show _=_ by dsimp only[nmClu];omega
 obtain⟨a0,k0,rfl⟩:=o0.shape;obtain⟨a1,k1,rfl⟩:=o1.shape;have B:=Blk.new w 33 #[.slice a0 d.length k0,.slice a1 x.length k1];have hB:Below w.heap.size w (w.alloc (.cells #[.slice a0 d.length k0,.slice a1 x.length k1] 33)):=by go_grown
 have y:=o0.lt;have HB:Hid (w.heap.size∉instK.fp (.slice a0 d.length k0) d):=fun e=>Nat.lt_irrefl _ (y _ e)
 clear y t0 t1;replace o0:=o0.below hB;replace o1:=o1.below hB;have HU:Hid (Out (cluK.foot ⟨.slice a0 d.length k0,d,.slice a1 x.length k1,x⟩) w _):=Out.of_below hB;clear hB;generalize nmClu ⟨.slice a0 d.length k0,d,.slice a1 x.length k1,x⟩=NR at*;generalize mkClu c ⟨.slice a0 d.length k0,d,.slice a1 x.length k1,x⟩=MR at*;generalize ((nmL nmInsS d:Nat):Int)=C0 at*;generalize ((nmL nmNodS x:Nat):Int)=C1 at*;have p0:=B.cell 0 _ rfl;go_enter Tryz.func18,Tryz.ntmps18
 go_wp2_with fail
 generalize w.alloc (.cells #[.slice a0 d.length k0,.slice a1 x.length k1] 33)=W at*;clear p0;refine(D W o0).mono ?_;rintro e w1 ⟨rfl,O0,u0⟩;replace o1:=o1.out u0 J;replace B:Blk w1 _ _ _:=(u0.block _ B.lt HB.out).trans B;have HV:Hid (Out (cluK.foot ⟨.slice a0 d.length k0,d,.slice a1 x.length k1,x⟩) w w1):=HU.out.trans (A.out u0);clear D o0 u0 HU;have q:=B.cell 1 _ rfl
 go_wp2_with fail
 clear q;refine(E w1 o1).mono ?_;rintro e w2 ⟨rfl,O1,u1⟩;replace O0:=O0.out u1 (by rw[e0];exact L);have HU:Hid (Out (cluK.foot ⟨.slice a0 d.length k0,d,.slice a1 x.length k1,x⟩) w w2):=HV.out.trans (C.out u1);have R:=HR.out w2 O0 O1;clear B O0 O1 HB HR A C e0 HV E o1 u1
 go_wp2
 go_ret;exact⟨by rw[HS.out];rfl,R,HU.out⟩
end Go.Proofs.YtgdedpgldhbfhaaGreatDoor
