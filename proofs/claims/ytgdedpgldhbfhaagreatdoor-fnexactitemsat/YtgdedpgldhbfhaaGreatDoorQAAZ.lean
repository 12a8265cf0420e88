/- Texts joined,with what the laws reach alone. -/
import Derived.Test.YtgdedpgldhbfhaaGreatDoorQAAR
import Derived.Test.YtgdedpgldhbfhaaGreatDoorQAAJ
set_option linter.unusedVariables false
set_option linter.unusedSimpArgs false
set_option maxRecDepth 100000
set_option maxHeartbeats 2000000
namespace Go.Proofs.YtgdedpgldhbfhaaGreatDoor
open Go.RowKit Go.BigFrame
theorem z6s(a:Option Addr)(n cap:Nat)(c:Int)(w:World)(h:ItemRow w a (z0I c n))(hn:n≤1099511627776)(h0:0≤c)(h1:c≤1099511627776):
  Calls Tryz.prog 53 #[.slice a n cap,.int .i64 c] w fun e w'=>e=.returned (.int .i64 (c+((n*2:Nat):Int)))∧w'=w:=by
 go_enter Tryz.func53,Tryz.ntmps53
 go_wp2
 go_loop[1,5] (fun j i=>∃k:Nat,k≤n∧j=.int .i64 (c+((k*2:Nat):Int))∧i=.int .i64 k) (fun _ i=>n-(intOf i).toNat)
 case atStart=>exact⟨0,Nat.zero_le _,by simp,rfl⟩
 case round=>
  obtain⟨k,hk,rfl,rfl⟩:=hrel;by_cases C:k<n
  ·obtain⟨b,L,rfl,E,x,d⟩:=h.at k (by rw[z0Z];exact C);rw[z3l _ _ _ C]at x d;have z:c+((k*2+1:Nat):Int)=c+((k*2:Nat):Int)+1:=by omega
   have A:Hid (c+(((k+1)*2:Nat):Int)=c+((k*2:Nat):Int)+1+1):=show _=_ by omega
   dsimp only at x d;rw[z]at d;clear z;generalize hy:((k*2:Nat):Int)=y at x d A;have J:y≤2199023255552:=by omega
   have I:0≤y:=by omega
   clear hy
   go_wp2
   go_round
   case rel=>exact⟨k+1,by omega,by rw[A.out],by go_num⟩
   case measure=>simp[intOf];omega
  ·go_wp2
   go_ret;have D:k=n:=by omega
   subst D;exact⟨rfl,rfl⟩
theorem z9H(v:Value)(zs:List ItemD)(c:Int)(w:World)(h:itemK.At w v (z03 c zs))(hl:zs.length≤1048576)(h0:0≤c)(h1:c≤1099511627776):
  Calls Tryz.prog 53 #[v,.int .i64 c] w fun e w'=>e=.returned (.int .i64 (c+((zs.length*2:Nat):Int)))∧Below w.heap.size w w':=by
 obtain⟨a,cap,rfl⟩:=h.shape;have e:(z03 c zs).length=zs.length:=by simp[z03,z0Z]
 have hA:=(z0M h).2;rw[e];refine(z6s a zs.length cap c w hA (by omega) h0 h1).mono ?_;rintro e w' ⟨rfl,hw⟩;exact⟨rfl,by subst hw;exact Below.refl _ _⟩
def ixK:Kind IxQ where
 ty:=47
 size:=1
 cells p:=[p.v]
 own w p:=itemK.Own w p.v p.zs
 rd w p:=itemK.At w p.v p.zs
 foot p:=itemK.fp p.v p.zs
 len _:=rfl
 own_rd h:=h.at
 own_out h ho hd:=h.out ho hd
 own_lt h k hk:=h.lt k hk
 rd_below h hb:=h.below hb
def q6L(c:Int)(p:IxQ):IxQ:=⟨p.v,z03 c p.zs⟩
def nmIx(p:IxQ):Nat:=p.zs.length*2
theorem q5C(p:IxQ):nmIx p≤3*p.n:=by unfold nmIx IxQ.n;omega
theorem q27(c x:Int)(p p':IxQ)(w:World)(h:ixK.rd w p)(h':ixK.rd w p')(he:p.e=p'.e)(hl:p.n≤1048576):
  Calls Tryz.prog 23 #[.agg #[.int .i64 c,.int .i64 x,p.v],.agg #[.int .i64 c,.int .i64 x,p'.v]] w fun e w'=>e=.returned (.bool true)∧Below w.heap.size w w':=by
 obtain⟨v,zs⟩:=p;obtain⟨v',zs'⟩:=p';obtain rfl:zs=zs':=he;have hq:=fun w h1 h2=>z5h v v' zs w h1 h2 hl
 replace h:itemK.At w v zs:=h;replace h':itemK.At w v' zs:=h';obtain⟨a,k,rfl⟩:=h.shape;obtain⟨a',k',rfl⟩:=h'.shape;have hcc:(c !=c)=false:=by simp
 have hxx:(x !=x)=false:=by simp
 have hb0:Below w.heap.size w ((w.alloc (.cells #[.int .i64 c,.int .i64 x,.slice a zs.length k] 49)).alloc (.cells #[.int .i64 c,.int .i64 x,.slice a' zs.length k'] 49)):=by go_grown
 go_enter Tryz.func23,Tryz.ntmps23
 go_wp2_with fail
 refine(hq _ (h.below hb0) (h'.below hb0)).mono ?_;rintro e w2 ⟨rfl,hb⟩;replace hb0:=hb0.trans (hb.mono hb0.size)
 go_wp2
 go_ret;exact⟨rfl,hb0⟩
theorem q4d(c x:Int)(p:IxQ)(k:Int)(w:World)(h:ixK.own w p)(hnd:(ixK.foot p).Nodup)(hl:p.n≤1048576)(h0:0≤k)(h1:k≤1000000000):
  Calls Tryz.prog 24 #[.agg #[.int .i64 c,.int .i64 x,p.v],.int .i64 k] w fun e w'=>e=.returned (.int .i64 (k+(nmIx p:Int)))∧ixK.own w' (q6L k p)∧Out (ixK.foot p) w w':=by
 obtain⟨v,zs⟩:=p;replace h:itemK.Own w v zs:=h;have hq:=fun w h=>z3u v zs k w h hl h0 (by omega)
 have hlt:=h.lt;show Calls _ _ _ _ fun e w'=>e=.returned (.int .i64 (k+((zs.length*2:Nat):Int)))∧itemK.Own w' v (z03 k zs)∧Out (itemK.fp v zs) w w'
 obtain⟨a,cc,rfl⟩:=h.at.shape;have hb0:Below w.heap.size w (w.alloc (.cells #[.int .i64 c,.int .i64 x,.slice a zs.length cc] 49)):=by go_grown
 have ho:=h.out (F:=[]) (Out.of_below hb0) (fun _ _=>by simp);go_enter Tryz.func24,Tryz.ntmps24
 go_wp2_with fail
 refine(hq _ ho).mono ?_;rintro e w2 ⟨rfl,h2,hU⟩
 go_wp2
 go_ret;exact⟨rfl,h2,(Out.of_below hb0).trans hU⟩
theorem q4f(c x:Int)(p:IxQ)(k:Int)(w:World)(h:ixK.rd w (q6L k p))(hl:p.n≤1048576)(h0:0≤k)(h1:k≤1000000000):
  Calls Tryz.prog 25 #[.agg #[.int .i64 c,.int .i64 x,p.v],.int .i64 k] w fun e w'=>e=.returned (.int .i64 (k+(nmIx p:Int)))∧Below w.heap.size w w':=by
 obtain⟨v,zs⟩:=p;replace h:itemK.At w v (z03 k zs):=h;have hl':zs.length≤1048576:=hl;have hq:=fun w h=>z9H v zs k w h hl' h0 (by omega)
 show Calls _ _ _ _ fun e w'=>e=.returned (.int .i64 (k+((zs.length*2:Nat):Int)))∧_
 have hnn:¬(k+((zs.length*2:Nat):Int)<0):=by omega
 obtain⟨a,cc,rfl⟩:=h.shape;have hb0:Below w.heap.size w (w.alloc (.cells #[.int .i64 c,.int .i64 x,.slice a (z03 k zs).length cc] 49)):=by go_grown
 generalize ((zs.length*2:Nat):Int)=Z at*;go_enter Tryz.func25,Tryz.ntmps25
 go_wp2_with fail
 refine(hq _ (h.below hb0)).mono ?_;rintro e w2 ⟨rfl,hb⟩;replace hb0:=hb0.trans (hb.mono hb0.size)
 go_wp2
 go_ret;exact⟨rfl,hb0⟩
end Go.Proofs.YtgdedpgldhbfhaaGreatDoor
