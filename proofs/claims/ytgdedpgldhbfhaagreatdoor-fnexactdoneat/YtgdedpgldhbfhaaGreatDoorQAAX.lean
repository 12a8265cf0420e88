/- Texts joined,with what the laws reach alone. -/
import Derived.Test.YtgdedpgldhbfhaaGreatDoorQAAR
import Derived.Test.YtgdedpgldhbfhaaGreatDoorQAAJ
set_option linter.unusedVariables false
set_option linter.unusedSimpArgs false
set_option maxRecDepth 100000
set_option maxHeartbeats 2000000
namespace Go.Proofs.YtgdedpgldhbfhaaGreatDoor
open Go.RowKit Go.BigFrame
theorem z7D(a:Option Addr)(n cap:Nat)(c:Int)(w:World)(h:ActRow w a (z1j c n))(hn:n≤1099511627776)(h0:0≤c)(h1:c≤1099511627776):
  Calls Tryz.prog 79 #[.slice a n cap,.int .i64 c] w fun e w'=>e=.returned (.int .i64 (c+((n*3:Nat):Int)))∧w'=w:=by
 go_enter Tryz.func79,Tryz.ntmps79
 go_wp2
 go_loop[1,5] (fun j i=>∃k:Nat,k≤n∧j=.int .i64 (c+((k*3:Nat):Int))∧i=.int .i64 k) (fun _ i=>n-(intOf i).toNat)
 case atStart=>exact⟨0,Nat.zero_le _,by simp,rfl⟩
 case round=>
  obtain⟨k,hk,rfl,rfl⟩:=hrel;by_cases E:k<n
  ·obtain⟨b,N,rfl,J,z,d,x⟩:=h.at k (by rw[z1a];exact E);rw[z3R _ _ _ E]at z d x;have A:c+((k*3+1:Nat):Int)=c+((k*3:Nat):Int)+1:=by omega
   have C:c+((k*3+2:Nat):Int)=c+((k*3:Nat):Int)+1+1:=by omega
   have D:Hid (c+(((k+1)*3:Nat):Int)=c+((k*3:Nat):Int)+1+1+1):=show _=_ by omega
   dsimp only at z d x;rw[A]at d;rw[C]at x;clear A C;generalize hy:((k*3:Nat):Int)=y at z d x D;have M:y≤3298534883328:=by omega
   have L:0≤y:=by omega
   clear hy
   go_wp2
   go_round
   case rel=>exact⟨k+1,by omega,by rw[D.out],by go_num⟩
   case measure=>simp[intOf];omega
  ·go_wp2
   go_ret;have I:k=n:=by omega
   subst I;exact⟨rfl,rfl⟩
theorem q1c(v:Value)(zs:List ActD)(c:Int)(w:World)(h:actK.At w v (z3k c zs))(hl:zs.length≤1048576)(h0:0≤c)(h1:c≤1099511627776):
  Calls Tryz.prog 79 #[v,.int .i64 c] w fun e w'=>e=.returned (.int .i64 (c+((zs.length*3:Nat):Int)))∧Below w.heap.size w w':=by
 obtain⟨a,cap,rfl⟩:=h.shape;have e:(z3k c zs).length=zs.length:=by simp[z3k,z1a]
 have hA:=(z0W h).2;rw[e];refine(z7D a zs.length cap c w hA (by omega) h0 h1).mono ?_;rintro e w' ⟨rfl,hw⟩;exact⟨rfl,by subst hw;exact Below.refl _ _⟩
theorem q1d(v:Value)(ps:List TxnQ)(c:Int)(w:World)(h:txnK.At w v (mkL z1f nmTxn c ps))(hl:(ps.length+nmL TxnQ.n ps)≤1048576)(h0:0≤c)(h1:c+(nmL nmTxn ps:Int)≤1099511627776):
  Calls Tryz.prog 49 #[v,.int .i64 c] w fun e w'=>e=.returned (.int .i64 (c+(nmL nmTxn ps:Int)))∧Below w.heap.size w w':=by
 obtain⟨a,cap,rfl⟩:=h.shape;have D:=z1w z1f nmTxn c ps;rw[D]at h⊢;have HM:Hid ((mkL z1f nmTxn c ps).length=ps.length):=D;clear D;go_enter Tryz.func49,Tryz.ntmps49
 go_wp2
 go_loopw[1,5] (fun j i wr=>∃k:Nat,k≤ps.length∧j=.int .i64 (c+(nmL nmTxn (ps.take k):Int))∧i=.int .i64 k∧Below w.heap.size w wr) (fun _ i _=>ps.length-(intOf i).toNat)
 case atStart=>exact⟨0,Nat.zero_le _,by simp[nmL],rfl,Below.refl _ _⟩
 case round=>
  obtain⟨k,hk,rfl,rfl,hb⟩:=hrel;by_cases C:k<ps.length
  ·have L:k<(mkL z1f nmTxn c ps).length:=by have:=HM.out;omega
   obtain⟨b,Y,rfl,ad,hc,M⟩:=(h.below hb).cell (by decide) k L;rw[q2U z1f nmTxn c ps k C]at hc M;have V:=z1h nmTxn ps k C;have T:=z3d nmTxn ps (k+1);have X:=z1d TxnQ.n ps k C;have E:Hid ((nmL nmTxn (ps.take (k+1)):Int)=(nmL nmTxn (ps.take k):Int)+(nmTxn ps[k]:Int)):=show _=_ by omega
   have W:(nmL nmTxn (ps.take k):Int)+(nmTxn ps[k]:Int)≤nmL nmTxn ps:=by omega
   clear V T h;generalize U:ps[k]=p at*;clear U;obtain⟨Z,ab,aa,z,d⟩:=p;dsimp only[nmTxn,TxnQ.n]at E W X;generalize hy:(nmL nmTxn (ps.take k):Int)=y at*;have ae:0≤y:=by omega
   clear hy;have A:∀j x,(txnK.cells (z1f (c+y) (⟨Z,ab,aa,z,d⟩:TxnQ)))[j]?=some x→wr.cell? ⟨b,Y+k*4+j,none⟩=some x:=hc;clear hc;have c0:=A 0 (.int .i64 (c+y)) rfl;have c1:=A 1 (.int .i64 (c+y+1)) rfl;have c2:=A 2 (.int .i64 (c+y+1+1)) rfl;have c3:=A 3 (z) rfl;have r3:actK.At wr z (z3k (c+y+1+1+1) d):=M;have J:=fun w h=>q1c z d (c+y+1+1+1) w h (by omega) (by omega) (by omega)
   obtain⟨ag,ah,N⟩:=r3.shape;subst N;rw[Nat.add_zero]at c0;clear A;have af:¬(c+y+1+1+1+((d.length*3:Nat):Int)<0):=by omega
   go_wp2_with fail
   refine(J wr r3).mono ?_;rintro e w3 ⟨rfl,I⟩;replace hb:=hb.trans (I.mono hb.size);clear I J c0 c1 c2 c3
   go_wp2
   go_roundw
   case rel=>exact⟨k+1,by omega,by rw[E.out];congr 1;omega,by go_num,hb⟩
   case measure=>simp[intOf];omega
  ·have O:k=ps.length:=by omega
   subst O;rw[List.take_length]
   go_wp2
   go_ret;exact⟨rfl,hb⟩
theorem q4z{qs ps:List TxnQ}(h:qs.map TxnQ.e=ps.map TxnQ.e):qs.length+nmL TxnQ.n qs=ps.length+nmL TxnQ.n ps:=by
 have t1:qs.length=ps.length:=by simpa using congrArg List.length h
 have t2:nmL TxnQ.n qs=nmL TxnQ.n ps:=by
  have:=congrArg (fun l=>nmL (fun d:TxnD=>d.acts.length) l) h;simp only[nmL,List.map_map]at this;exact this
 omega
theorem q5B(c:Int)(v v':Value)(ps qs:List TxnQ)(w:World)(h:txnK.At w v ps)(h':txnK.At w v' qs)(he:ps.map TxnQ.e=qs.map TxnQ.e)(hl:(ps.length+nmL TxnQ.n ps)≤1048576):
  Calls Tryz.prog 17 #[.agg #[.int .i64 c,v],.agg #[.int .i64 c,v']] w fun e w'=>e=.returned (.bool true)∧Below w.heap.size w w':=by
 have hq:=fun w h1 h2=>z4R v v' ps qs w h1 h2 he hl
 clear he;obtain⟨a,k0,rfl⟩:=h.shape;obtain⟨a',k0',rfl⟩:=h'.shape;have hB:Below w.heap.size w ((w.alloc (.cells #[.int .i64 c,.slice a ps.length k0] 41)).alloc (.cells #[.int .i64 c,.slice a' qs.length k0'] 41)):=by go_grown
 have n0:(c !=c)=false:=by simp
 go_enter Tryz.func17,Tryz.ntmps17
 go_wp2_with fail
 generalize (w.alloc (.cells #[.int .i64 c,.slice a ps.length k0] 41)).alloc (.cells #[.int .i64 c,.slice a' qs.length k0'] 41)=W at*;refine(hq W (h.below hB) (h'.below hB)).mono ?_;rintro e w1 ⟨rfl,hb⟩;replace hB:=hB.trans (hb.mono hB.size)
 go_wp2
 go_ret;exact⟨rfl,hB⟩
theorem q24(c:Int)(v:Value)(ps:List TxnQ)(k:Int)(w:World)(h:txnK.Own w v ps)(hnd:(txnK.fp v ps).Nodup)(hl:(ps.length+nmL TxnQ.n ps)≤1048576)(h0:0≤k)(h1:k+(nmL nmTxn ps:Int)≤1099511627776):
  Calls Tryz.prog 19 #[.agg #[.int .i64 c,v],.int .i64 k] w fun e w'=>e=.returned (.int .i64 (k+(nmL nmTxn ps:Int)))∧txnK.Own w' v (mkL z1f nmTxn k ps)∧Out (txnK.fp v ps) w w':=by
 have hq:=fun w h=>z2Y v ps k w h hnd hl h0 h1
 obtain⟨a,k0,rfl⟩:=h.shape;have hB:Below w.heap.size w (w.alloc (.cells #[.int .i64 c,.slice a ps.length k0] 41)):=by go_grown
 generalize (nmL nmTxn ps:Int)=M at*;go_enter Tryz.func19,Tryz.ntmps19
 go_wp2_with fail
 generalize w.alloc (.cells #[.int .i64 c,.slice a ps.length k0] 41)=W at*;refine(hq W (h.below hB)).mono ?_;rintro e w1 ⟨rfl,ho,hu⟩;have HU:=(Out.of_below (F:=txnK.fp (.slice a ps.length k0) ps) hB).trans hu;clear hB hu
 go_wp2
 go_ret;exact⟨rfl,ho,HU⟩
theorem q25(c:Int)(v:Value)(ps:List TxnQ)(k:Int)(w:World)(h:txnK.At w v (mkL z1f nmTxn k ps))(hl:(ps.length+nmL TxnQ.n ps)≤1048576)(h0:0≤k)(h1:k+(nmL nmTxn ps:Int)≤1099511627776):
  Calls Tryz.prog 20 #[.agg #[.int .i64 c,v],.int .i64 k] w fun e w'=>e=.returned (.int .i64 (k+(nmL nmTxn ps:Int)))∧Below w.heap.size w w':=by
 have hq:=fun w h=>q1d v ps k w h hl h0 h1
 obtain⟨a,k0,rfl⟩:=h.shape;rw[z1w]at h hq⊢;have hB:Below w.heap.size w (w.alloc (.cells #[.int .i64 c,.slice a ps.length k0] 41)):=by go_grown
 generalize hM:(nmL nmTxn ps:Int)=M at*;have hn:¬(k+M<0):=by omega
 clear hM;go_enter Tryz.func20,Tryz.ntmps20
 go_wp2_with fail
 generalize w.alloc (.cells #[.int .i64 c,.slice a ps.length k0] 41)=W at*;refine(hq W (h.below hB)).mono ?_;rintro e w1 ⟨rfl,hb⟩;replace hB:=hB.trans (hb.mono hB.size)
 go_wp2
 go_ret;exact⟨rfl,hB⟩
def tsK:Kind TsQ where
 ty:=39
 size:=1
 cells p:=[p.v]
 own w p:=txnK.Own w p.v p.ts
 rd w p:=txnK.At w p.v p.ts
 foot p:=txnK.fp p.v p.ts
 len _:=rfl
 own_rd h:=h.at
 own_out h ho hd:=h.out ho hd
 own_lt h k hk:=h.lt k hk
 rd_below h hb:=h.below hb
def q6K(c:Int)(p:TsQ):TsQ:=⟨p.v,mkL z1f nmTxn c p.ts⟩
def nmTs(p:TsQ):Nat:=nmL nmTxn p.ts
theorem q1e(ps:List TxnQ):nmL nmTxn ps≤3*(ps.length+nmL TxnQ.n ps):=by
 induction ps with
 |nil=>simp[nmL]
 |cons p r ih=>
  have e:nmTxn p=1+1+1+p.acts.length*3:=rfl;have e2:TxnQ.n p=p.acts.length:=rfl;simp only[nmL,List.map_cons,List.sum_cons,List.length_cons]at ih⊢;rw[e,e2];omega
theorem z9G(p:TsQ):nmTs p≤3*p.n:=q1e p.ts
theorem q26(c:Int)(p p':TsQ)(w:World)(h:tsK.rd w p)(h':tsK.rd w p')(he:p.e=p'.e)(hl:p.n≤1048576):
  Calls Tryz.prog 17 #[.agg #[.int .i64 c,p.v],.agg #[.int .i64 c,p'.v]] w fun e w'=>e=.returned (.bool true)∧Below w.heap.size w w':=
 q5B c p.v p'.v p.ts p'.ts w h h' he hl
theorem q4b(c:Int)(p:TsQ)(k:Int)(w:World)(h:tsK.own w p)(hnd:(tsK.foot p).Nodup)(hl:p.n≤1048576)(h0:0≤k)(h1:k≤1000000000):
  Calls Tryz.prog 19 #[.agg #[.int .i64 c,p.v],.int .i64 k] w fun e w'=>e=.returned (.int .i64 (k+(nmTs p:Int)))∧tsK.own w' (q6K k p)∧Out (tsK.foot p) w w':=
 q24 c p.v p.ts k w h hnd hl h0 (by have:=z9G p;have e:nmTs p=nmL nmTxn p.ts:=rfl;omega)
theorem q4c(c:Int)(p:TsQ)(k:Int)(w:World)(h:tsK.rd w (q6K k p))(hl:p.n≤1048576)(h0:0≤k)(h1:k≤1000000000):
  Calls Tryz.prog 20 #[.agg #[.int .i64 c,p.v],.int .i64 k] w fun e w'=>e=.returned (.int .i64 (k+(nmTs p:Int)))∧Below w.heap.size w w':=
 q25 c p.v p.ts k w h hl h0 (by have:=z9G p;have e:nmTs p=nmL nmTxn p.ts:=rfl;omega)
end Go.Proofs.YtgdedpgldhbfhaaGreatDoor
