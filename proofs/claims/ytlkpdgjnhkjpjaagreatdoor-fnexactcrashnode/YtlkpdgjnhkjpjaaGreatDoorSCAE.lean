/- Texts joined,with what the laws reach alone. -/
import Derived.Test.YtlkpdgjnhkjpjaaGreatDoorSCAD
import Derived.Maps.AppendAt
set_option linter.unusedVariables false
set_option linter.unusedSimpArgs false
set_option maxRecDepth 100000
set_option maxHeartbeats 2000000
namespace Go.Proofs.YtlkpdgjnhkjpjaaGreatDoor
open Go.RowKit Go.BigFrame
structure ItemD where
 key:Int
 val:Int
deriving DecidableEq
def z0b:ItemD:=⟨0,0⟩
def ItemD.cells(x:ItemD):List Value:=[.int .i64 x.key,.int .i64 x.val]
def z0c(xs:List ItemD):List Value:=xs.flatMap ItemD.cells
def ItemRow(w:World)(a:Option Addr)(xs:List ItemD):Prop:=Lies w a (z0c xs)
theorem z0w(xs:List ItemD):(z0c xs).length=xs.length*2:=by
 induction xs with
 |nil=>rfl
 |cons x xs ih=>simp only[z0c,List.flatMap_cons,List.length_append,List.length_cons]at ih⊢;rw[ih];simp[ItemD.cells];omega
theorem z17(xs:List ItemD):∀ (i:Nat),i<xs.length→(z0c xs)[i*2]?=some (.int .i64 (xs.getD i z0b).key)∧(z0c xs)[i*2+1]?=some (.int .i64 (xs.getD i z0b).val):=by
 induction xs with
 |nil=>intro i h;simp at h
 |cons x xs ih=>
  intro i h
  cases i with
  |zero=>simp[z0c,ItemD.cells]
  |succ i=>
   have e:z0c (x::xs)=x.cells++z0c xs:=rfl;have hl:x.cells.length=2:=rfl;obtain⟨h1,h2⟩:=ih i (by simpa using h);rw[e,List.getElem?_append_right (by omega),List.getElem?_append_right (by omega),hl,show(i+1)*2-2=i*2 by omega,show(i+1)*2+1-2=i*2+1 by omega];simpa[List.getD]using⟨h1,h2⟩
theorem ItemRow.below{w w':World}{a:Option Addr}{xs:List ItemD}(h:ItemRow w a xs)(hb:Below w.heap.size w w'):ItemRow w' a xs:=Lies.below h hb
theorem ItemRow.at{w:World}{a:Option Addr}{xs:List ItemD}(h:ItemRow w a xs)(i:Nat)(hi:i<xs.length):
  ∃b off,a=some ⟨b,off,none⟩∧b<w.heap.size∧w.cell? ⟨b,off+i*2,none⟩=some (.int .i64 (xs.getD i z0b).key)∧w.cell? ⟨b,off+i*2+1,none⟩=some (.int .i64 (xs.getD i z0b).val):=by
 obtain⟨h1,h2⟩:=z17 xs i hi;rcases h with h|⟨b,off,ha,hlt,hc⟩
 ·have:=z0w xs;rw[h]at this;simp at this;omega
 ·exact⟨b,off,ha,hlt,hc _ _ h1,by rw[Nat.add_assoc];exact hc _ _ h2⟩
theorem z1h:(Tryz.prog.info? 119).map (fun i=>(i.zero,i.size,i.bytes))=some (some (.agg #[.int .i64 0,.int .i64 0]),2,16):=by kernel_rfl
theorem q0k(k:Int)(y:Int)(w:World):
  Calls Tryz.prog 191 #[.agg #[.int .i64 k,.int .i64 y]] w fun e w'=>e=.returned (.agg #[.int .i64 k,.int .i64 y])∧Below w.heap.size w w':=by
 go_enter Tryz.func191,Tryz.ntmps191
 go_wp2
 exact bodyPost_ret (v:=.agg #[.int .i64 k,.int .i64 y]) (by simp[results,Tryz.results191,go_sem]) rfl ⟨rfl,by go_grown⟩
theorem q1e{w:World}{base e g cap n k:Nat}{zs ys:List Value}{v0 v1:Value}(ho:w.ownsRow base e 2 (.slice (some ⟨g,0,none⟩) n cap) n (z6C zs ys (k*2)))
  (hl:ys.length=zs.length) (hz:zs.length=n*2) (hk:k<n) (g0:zs[k*2]?=some v0) (g1:zs[k*2+1]?=some v1):
  ((w.setCell ⟨g,k*2,none⟩ v0).setCell ⟨g,k*2+1,none⟩ v1).ownsRow base e 2 (.slice (some ⟨g,0,none⟩) n cap) n (z6C zs ys ((k+1)*2))∧
  (w.frozen? ⟨g,k*2,none⟩=false∧w.frozen? ⟨g,k*2+1,none⟩=false)∧
  ((∃u,w.cell? ⟨g,k*2,none⟩=some u)∧(∃u,w.cell? ⟨g,k*2+1,none⟩=some u))∧
  (∀B a,Below B a w→B≤g→Below B a ((w.setCell ⟨g,k*2,none⟩ v0).setCell ⟨g,k*2+1,none⟩ v1)):=by
 have hc:∀j,j<n*2→∃u,w.cell? ⟨g,j,none⟩=some u:=fun j hj=>by
  rw[ho.cellAt j hj];exact⟨_,List.getElem?_eq_getElem (by rw[ho.1];exact hj)⟩
 have s0:=(ho.stored (k*2) v0).1;rw[z1s _ _ _ _ hl g0]at s0;have s1:=(s0.stored (k*2+1) v1).1;rw[z1s _ _ _ _ hl g1,show k*2+1+1=(k+1)*2 by omega]at s1;exact⟨s1,⟨ho.frozenAt _,ho.frozenAt _⟩,⟨hc _ (by omega),hc _ (by omega)⟩,fun B a h hB=>((h.setCell hB _).setCell hB _)⟩
theorem z8Q(a:Option Addr)(cap:Nat)(zs:List ItemD)(w:World)(h:ItemRow w a zs)(hl:zs.length≤1048576):
  Calls Tryz.prog 136 #[.slice a zs.length cap] w fun e w'=>∃g c,e=.returned (.slice (some ⟨g,0,none⟩) zs.length c)∧
   w'.ownsRow w.heap.size 119 2 (.slice (some ⟨g,0,none⟩) zs.length c) zs.length (z0c zs)∧Below w.heap.size w w':=by
 obtain⟨i0,hi,Y,Z,aa⟩:=info_parts z1h;have y:i0.bytes*zs.length≤281474976710656:=by rw[aa];omega
 have O:zs.length≤maxLen:=by unfold maxLen;omega
 have I:=z0w zs;go_enter Tryz.func136,Tryz.ntmps136
 go_wp2_with (at_make;refine wpList_make_full _ rfl _ _ 26 rfl w.heap.size 119 i0 (.agg #[.int .i64 0,.int .i64 0]) 2 Tryz.underlying26 hi Y Z _ _ _ _ zs.length rfl rfl rfl rfl y O (Nat.le_refl _) ?_)
 intro w1 x J;have d:(madeCells #[Value.int .i64 0,.int .i64 0] (zs.length*2)).toList.length=(z0c zs).length:=by simp[size_madeCells,I]
 have U:Below w.heap.size w w1:=(Below.refl _ _).grown J (Nat.le_refl _) (by simp);generalize (madeCells #[Value.int .i64 0,.int .i64 0] (zs.length*2)).toList=ys at x d;rw[←z1T (z0c zs) ys]at x
 go_wp2
 go_loopw[4] (fun i wr=>∃k:Nat,k≤zs.length∧i=.int .i64 k∧wr.ownsRow w.heap.size 119 2 (.slice (some ⟨w.heap.size,0,none⟩) zs.length zs.length) zs.length (z6C (z0c zs) ys (k*2))∧Below w.heap.size w wr) (fun i _=>zs.length-(intOf i).toNat)
 case atStart=>exact⟨0,Nat.zero_le _,rfl,by simpa using x,U⟩
 case round=>
  obtain⟨k,hk,rfl,ho,hb⟩:=hrel;by_cases L:k<zs.length
  ·obtain⟨b,ad,rfl,ab,M,N⟩:=(h.below hb).at k L;obtain⟨g0,g1⟩:=z17 zs k L;generalize zs.getD k z0b=z at M N g0 g1
   go_wp2_with fail
   refine(q0k _ _ _).mono ?_;rintro e w2 ⟨rfl,C⟩;replace ho:=z0a ho C;replace hb:=hb.trans (C.mono hb.size);clear M N C;obtain⟨T,W,V,A⟩:=q1e ho d I L g0 g1;obtain⟨f0,f1⟩:=W;obtain⟨⟨u0,e0⟩,⟨u1,e1⟩⟩:=V;have R:Hid (_∧_):=⟨T,A _ _ hb (Nat.le_refl _)⟩
   clear T A g0 g1 ho
   go_wp2
   go_roundw
   case rel=>exact⟨k+1,by omega,by go_num,R.out.1,R.out.2⟩
   case measure=>simp[intOf];omega
  ·go_wp2
   go_ret;have X:k=zs.length:=by omega
   subst X;rw[z2G _ _ _ d I]at ho;exact⟨_,_,rfl,ho,hb⟩
theorem z8R(k:Int)(y:Int)(w:World):
  Calls Tryz.prog 194 #[.agg #[.int .i64 k,.int .i64 y],.agg #[.int .i64 k,.int .i64 y]] w fun e w'=>e=.returned (.bool true)∧Below w.heap.size w w':=by
 have h0:(k !=k)=false:=by simp
 have h1:(y !=y)=false:=by simp
 go_enter Tryz.func194,Tryz.ntmps194
 go_wp2
 go_ret;exact⟨rfl,by go_grown⟩
theorem z7O(a a':Option Addr)(cap A:Nat)(zs:List ItemD)(w:World)(h:ItemRow w a zs)(h':ItemRow w a' zs)(hl:zs.length≤1099511627776):
  Calls Tryz.prog 141 #[.slice a zs.length cap,.slice a' zs.length A] w fun e w'=>e=.returned (.bool true)∧Below w.heap.size w w':=by
 go_enter Tryz.func141,Tryz.ntmps141
 go_wp2
 go_loopw[5] (fun i wr=>∃k:Nat,k≤zs.length∧i=.int .i64 k∧Below w.heap.size w wr) (fun i _=>zs.length-(intOf i).toNat)
 case atStart=>exact⟨0,Nat.zero_le _,rfl,Below.refl _ _⟩
 case round=>
  obtain⟨k,hk,rfl,hb⟩:=hrel;by_cases I:k<zs.length
  ·obtain⟨b,O,rfl,N,c,d⟩:=(h.below hb).at k I;obtain⟨b',M,rfl,L,x,y⟩:=(h'.below hb).at k I;generalize zs.getD k z0b=z at c d x y;obtain⟨z0,z1⟩:=z;have k0:=z0f c;have l0:=z0f x;have k1:=z0f d;have l1:=z0f y;clear c d x y;have hW:Below wr.heap.size wr wr.drew:=(Below.refl _ _).drew;have J:Nonempty (Lat wr):=⟨⟨wr,Below.refl _ _⟩⟩
   go_wp2_with fail
   refine z0e (S:=fun w'=>∃u:Lat wr,w'=u.val) (by kernel_rfl) ?_;refine sgr [(0,8)] 2 (by kernel_rfl) ⟨⟨_,hW⟩,rfl⟩ ?_;simp only[pkE];repeat go_big_quiet_step (fail)
   refine wpQuiet_nil ?_;refine cla 8 (some 25) 194 #[.agg #[.int .i64 z0,.int .i64 z1],.agg #[.int .i64 z0,.int .i64 z1]] 1 (by kernel_rfl) ?_;refine(z8R _ _ _).mono ?_;rintro e w2 ⟨rfl,C⟩;replace hW:=hW.trans (C.mono hW.size);clear C;refine⟨_,rfl,⟨⟨_,hW⟩,rfl⟩,?_⟩;simp only[Act.put,pjE];refine sgr [(9,1)] 0 (by kernel_rfl) ⟨⟨_,hW⟩,rfl⟩ ?_;simp only[pkE];repeat go_big_quiet_step (fail)
   refine wpQuiet_nil ?_;refine z0i (by kernel_rfl) ?_;replace hb:=hb.trans (hW.mono hb.size);clear k0 l0 k1 l1 hW J
   go_wp2
   go_roundw
   case rel=>exact⟨k+1,by omega,by go_num,hb⟩
   case measure=>simp[intOf];omega
  ·go_wp2
   go_ret;exact⟨rfl,hb⟩
theorem q1f{w wr:World}{g k:Nat}{v0 v1:Value}(h:w.grownBy wr (some g)):w.grownBy ((wr.setCell ⟨g,k,none⟩ v0).setCell ⟨g,k+1,none⟩ v1) (some g):=by
 have one:∀ (u:World) (j:Nat) (v:Value),w.grownBy u (some g)→w.grownBy (u.setCell ⟨g,j,none⟩ v) (some g):=fun u j v h=>
  ⟨h.os,h.tape,h.output,by simpa[World.setCell]using h.size,fun i hi hne=>by rw[Below.heap_setCell _ _ _ _ (by intro e;apply hne;simp[e])];exact h.block i hi hne⟩
 exact(one _ _ _ (one _ _ _ h))
def z0H(c:Int)(n:Nat):List ItemD:=(List.range n).map fun(i:Nat)=>⟨c+((i*2:Nat):Int),c+((i*2+1:Nat):Int)⟩
theorem z0U(c:Int)(n:Nat):(z0H c n).length=n:=by simp[z0H]
theorem z21(c:Int)(n i:Nat)(h:i<n):(z0H c n).getD i z0b=⟨c+((i*2:Nat):Int),c+((i*2+1:Nat):Int)⟩:=by simp[z0H,List.getD,h]
theorem z6N(base:Nat)(v:Value)(n:Nat)(xs:List Value)(c:Int)(w:World)(h:w.ownsRow base 119 2 v n xs)(hn:n≤1099511627776)(h0:0≤c)(h1:c≤1099511627776):
  Calls Tryz.prog 143 #[v,.int .i64 c] w fun e w'=>e=.returned (.int .i64 (c+((n*2:Nat):Int)))∧w'.ownsRow base 119 2 v n (z0c (z0H c n))∧w.grownBy w' v.ownBlock:=by
 rcases h.2 with⟨rfl,rfl⟩|⟨g,cap,N,rfl,hb,hg,r⟩
 ·go_enter Tryz.func143,Tryz.ntmps143
  go_wp2
  refine wp_loop_rounds 1 ?_;rw[rounds_succ]
  go_wp2
  go_ret;exact⟨by simp,World.ownsRow_nil _ _ _ _,World.grownBy.refl _ _⟩
 ·clear hg r;have d:=z0w (z0H c n);rw[z0U]at d;have L:xs.length=(z0c (z0H c n)).length:=by rw[d];exact h.1
  rw[←z1T (z0c (z0H c n)) xs]at h;go_enter Tryz.func143,Tryz.ntmps143
  go_wp2
  go_loopw[1,5] (fun j i wr=>∃k:Nat,k≤n∧j=.int .i64 (c+((k*2:Nat):Int))∧i=.int .i64 k∧wr.ownsRow base 119 2 (.slice (some ⟨g,0,none⟩) n cap) n (z6C (z0c (z0H c n)) xs (k*2))∧w.grownBy wr (some g)) (fun _ i _=>n-(intOf i).toNat)
  case atStart=>exact⟨0,Nat.zero_le _,by simp,rfl,by simpa using h,World.grownBy.refl _ _⟩
  case round=>
   obtain⟨k,hk,rfl,rfl,ho,z⟩:=hrel;by_cases A:k<n
   ·obtain⟨g0,g1⟩:=z17 (z0H c n) k (by rw[z0U];exact A);rw[z21 _ _ _ A]at g0 g1;obtain⟨J,⟨f0,f1⟩,⟨⟨u0,e0⟩,⟨u1,e1⟩⟩,_⟩:=q1e ho L d A g0 g1;have x:=q1f z (g:=g) (k:=k*2) (v0:=.int .i64 (c+((k*2:Nat):Int))) (v1:=.int .i64 (c+((k*2+1:Nat):Int)));have R:Hid (_∧_):=⟨J,x⟩
    have C:c+((k*2+1:Nat):Int)=c+((k*2:Nat):Int)+1:=by omega
    have I:Hid (c+(((k+1)*2:Nat):Int)=c+((k*2:Nat):Int)+1+1):=show _=_ by omega
    rw[C]at R;clear J x g0 g1 ho z C;generalize hy:((k*2:Nat):Int)=y at R I;have T:y≤2199023255552:=by omega
    have O:0≤y:=by omega
    clear hy
    go_wp2
    go_roundw
    case rel=>exact⟨k+1,by omega,by rw[I.out],by go_num,R.out.1,R.out.2⟩
    case measure=>simp[intOf];omega
   ·go_wp2
    go_ret;have M:k=n:=by omega
    subst M;rw[z2G _ _ _ L d]at ho;exact⟨rfl,ho,z⟩
theorem z5S(a:Option Addr)(n cap:Nat)(c:Int)(w:World)(h:ItemRow w a (z0H c n))(hn:n≤1099511627776)(h0:0≤c)(h1:c≤1099511627776):
  Calls Tryz.prog 198 #[.slice a n cap,.int .i64 c] w fun e w'=>e=.returned (.int .i64 (c+((n*2:Nat):Int)))∧w'=w:=by
 go_enter Tryz.func198,Tryz.ntmps198
 go_wp2
 go_loop[1,5] (fun j i=>∃k:Nat,k≤n∧j=.int .i64 (c+((k*2:Nat):Int))∧i=.int .i64 k) (fun _ i=>n-(intOf i).toNat)
 case atStart=>exact⟨0,Nat.zero_le _,by simp,rfl⟩
 case round=>
  obtain⟨k,hk,rfl,rfl⟩:=hrel;by_cases C:k<n
  ·obtain⟨b,N,rfl,J,x,d⟩:=h.at k (by rw[z0U];exact C);rw[z21 _ _ _ C]at x d;have z:c+((k*2+1:Nat):Int)=c+((k*2:Nat):Int)+1:=by omega
   have A:Hid (c+(((k+1)*2:Nat):Int)=c+((k*2:Nat):Int)+1+1):=show _=_ by omega
   dsimp only at x d;rw[z]at d;clear z;generalize hy:((k*2:Nat):Int)=y at x d A;have M:y≤2199023255552:=by omega
   have L:0≤y:=by omega
   clear hy
   go_wp2
   go_round
   case rel=>exact⟨k+1,by omega,by rw[A.out],by go_num⟩
   case measure=>simp[intOf];omega
  ·go_wp2
   go_ret;have I:k=n:=by omega
   subst I;exact⟨rfl,rfl⟩
theorem z8S(a:Option Addr)(n cap:Nat)(c:Int)(w:World)(hn:n≤9223372036854775807)(h0:0≤c)(h1:c≤1099511627776):
  Calls Tryz.prog 131 #[.slice a n cap,.int .i64 c] w fun e w'=>e=.returned (.int .i64 (if c-n<0 then -1 else c-n))∧w'=w:=by
 by_cases h:c-n<0
 ·rw[if_pos h];go_enter Tryz.func131,Tryz.ntmps131
  go_wp2
  go_ret;exact⟨rfl,rfl⟩
 ·rw[if_neg h];go_enter Tryz.func131,Tryz.ntmps131
  go_wp2
  go_ret;exact⟨rfl,rfl⟩
structure UndoD where
 key:Int
 was:Bool
 val:Int
deriving DecidableEq
def z0j:UndoD:=⟨0,false,0⟩
def UndoD.cells(x:UndoD):List Value:=[.int .i64 x.key,.bool x.was,.int .i64 x.val]
def z0m(xs:List UndoD):List Value:=xs.flatMap UndoD.cells
def UndoRow(w:World)(a:Option Addr)(xs:List UndoD):Prop:=Lies w a (z0m xs)
theorem z1x(xs:List UndoD):(z0m xs).length=xs.length*3:=by
 induction xs with
 |nil=>rfl
 |cons x xs ih=>simp only[z0m,List.flatMap_cons,List.length_append,List.length_cons]at ih⊢;rw[ih];simp[UndoD.cells];omega
theorem z18(xs:List UndoD):∀ (i:Nat),i<xs.length→(z0m xs)[i*3]?=some (.int .i64 (xs.getD i z0j).key)∧(z0m xs)[i*3+1]?=some (.bool (xs.getD i z0j).was)∧(z0m xs)[i*3+2]?=some (.int .i64 (xs.getD i z0j).val):=by
 induction xs with
 |nil=>intro i h;simp at h
 |cons x xs ih=>
  intro i h
  cases i with
  |zero=>simp[z0m,UndoD.cells]
  |succ i=>
   have e:z0m (x::xs)=x.cells++z0m xs:=rfl;have hl:x.cells.length=3:=rfl;obtain⟨h1,h2,h3⟩:=ih i (by simpa using h);rw[e,List.getElem?_append_right (by omega),List.getElem?_append_right (by omega),List.getElem?_append_right (by omega),hl,show(i+1)*3-3=i*3 by omega,show(i+1)*3+1-3=i*3+1 by omega,show(i+1)*3+2-3=i*3+2 by omega];simpa[List.getD]using⟨h1,h2,h3⟩
theorem UndoRow.below{w w':World}{a:Option Addr}{xs:List UndoD}(h:UndoRow w a xs)(hb:Below w.heap.size w w'):UndoRow w' a xs:=Lies.below h hb
theorem UndoRow.at{w:World}{a:Option Addr}{xs:List UndoD}(h:UndoRow w a xs)(i:Nat)(hi:i<xs.length):
  ∃b off,a=some ⟨b,off,none⟩∧b<w.heap.size∧w.cell? ⟨b,off+i*3,none⟩=some (.int .i64 (xs.getD i z0j).key)∧w.cell? ⟨b,off+i*3+1,none⟩=some (.bool (xs.getD i z0j).was)∧w.cell? ⟨b,off+i*3+2,none⟩=some (.int .i64 (xs.getD i z0j).val):=by
 obtain⟨h1,h2,h3⟩:=z18 xs i hi;rcases h with h|⟨b,off,ha,hlt,hc⟩
 ·have:=z1x xs;rw[h]at this;simp at this;omega
 ·exact⟨b,off,ha,hlt,hc _ _ h1,by rw[Nat.add_assoc];exact hc _ _ h2,by rw[Nat.add_assoc];exact hc _ _ h3⟩
theorem z4P:(Tryz.prog.info? 235).map (fun i=>(i.zero,i.size,i.bytes))=some (some (.agg #[.int .i64 0,.bool false,.int .i64 0]),3,24):=by kernel_rfl
theorem q0l(k:Int)(y:Bool)(v:Int)(w:World):
  Calls Tryz.prog 242 #[.agg #[.int .i64 k,.bool y,.int .i64 v]] w fun e w'=>e=.returned (.agg #[.int .i64 k,.bool y,.int .i64 v])∧Below w.heap.size w w':=by
 go_enter Tryz.func242,Tryz.ntmps242
 go_wp2
 exact bodyPost_ret (v:=.agg #[.int .i64 k,.bool y,.int .i64 v]) (by simp[results,Tryz.results242,go_sem]) rfl ⟨rfl,by go_grown⟩
theorem q1g{w:World}{base e g cap n k:Nat}{zs ys:List Value}{v0 v1 v2:Value}(ho:w.ownsRow base e 3 (.slice (some ⟨g,0,none⟩) n cap) n (z6C zs ys (k*3)))
  (hl:ys.length=zs.length) (hz:zs.length=n*3) (hk:k<n) (g0:zs[k*3]?=some v0) (g1:zs[k*3+1]?=some v1) (g2:zs[k*3+2]?=some v2):
  (((w.setCell ⟨g,k*3,none⟩ v0).setCell ⟨g,k*3+1,none⟩ v1).setCell ⟨g,k*3+2,none⟩ v2).ownsRow base e 3 (.slice (some ⟨g,0,none⟩) n cap) n (z6C zs ys ((k+1)*3))∧
  (w.frozen? ⟨g,k*3,none⟩=false∧w.frozen? ⟨g,k*3+1,none⟩=false∧w.frozen? ⟨g,k*3+2,none⟩=false)∧
  ((∃u,w.cell? ⟨g,k*3,none⟩=some u)∧(∃u,w.cell? ⟨g,k*3+1,none⟩=some u)∧(∃u,w.cell? ⟨g,k*3+2,none⟩=some u))∧
  (∀B a,Below B a w→B≤g→Below B a (((w.setCell ⟨g,k*3,none⟩ v0).setCell ⟨g,k*3+1,none⟩ v1).setCell ⟨g,k*3+2,none⟩ v2)):=by
 have hc:∀j,j<n*3→∃u,w.cell? ⟨g,j,none⟩=some u:=fun j hj=>by
  rw[ho.cellAt j hj];exact⟨_,List.getElem?_eq_getElem (by rw[ho.1];exact hj)⟩
 have s0:=(ho.stored (k*3) v0).1;rw[z1s _ _ _ _ hl g0]at s0;have s1:=(s0.stored (k*3+1) v1).1;rw[z1s _ _ _ _ hl g1]at s1;have s2:=(s1.stored (k*3+2) v2).1;rw[z1s _ _ _ _ hl g2,show k*3+2+1=(k+1)*3 by omega]at s2;exact⟨s2,⟨ho.frozenAt _,ho.frozenAt _,ho.frozenAt _⟩,⟨hc _ (by omega),hc _ (by omega),hc _ (by omega)⟩,fun B a h hB=>(((h.setCell hB _).setCell hB _).setCell hB _)⟩
theorem z8T(a:Option Addr)(cap:Nat)(zs:List UndoD)(w:World)(h:UndoRow w a zs)(hl:zs.length≤1048576):
  Calls Tryz.prog 192 #[.slice a zs.length cap] w fun e w'=>∃g c,e=.returned (.slice (some ⟨g,0,none⟩) zs.length c)∧
   w'.ownsRow w.heap.size 235 3 (.slice (some ⟨g,0,none⟩) zs.length c) zs.length (z0m zs)∧Below w.heap.size w w':=by
 obtain⟨i0,hi,Z,aa,ab⟩:=info_parts z4P;have y:i0.bytes*zs.length≤281474976710656:=by rw[ab];omega
 have T:zs.length≤maxLen:=by unfold maxLen;omega
 have I:=z1x zs;go_enter Tryz.func192,Tryz.ntmps192
 go_wp2_with (at_make;refine wpList_make_full _ rfl _ _ 160 rfl w.heap.size 235 i0 (.agg #[.int .i64 0,.bool false,.int .i64 0]) 3 Tryz.underlying160 hi Z aa _ _ _ _ zs.length rfl rfl rfl rfl y T (Nat.le_refl _) ?_)
 intro w1 x J;have d:(madeCells #[Value.int .i64 0,.bool false,.int .i64 0] (zs.length*3)).toList.length=(z0m zs).length:=by simp[size_madeCells,I]
 have V:Below w.heap.size w w1:=(Below.refl _ _).grown J (Nat.le_refl _) (by simp);generalize (madeCells #[Value.int .i64 0,.bool false,.int .i64 0] (zs.length*3)).toList=ys at x d;rw[←z1T (z0m zs) ys]at x
 go_wp2
 go_loopw[4] (fun i wr=>∃k:Nat,k≤zs.length∧i=.int .i64 k∧wr.ownsRow w.heap.size 235 3 (.slice (some ⟨w.heap.size,0,none⟩) zs.length zs.length) zs.length (z6C (z0m zs) ys (k*3))∧Below w.heap.size w wr) (fun i _=>zs.length-(intOf i).toNat)
 case atStart=>exact⟨0,Nat.zero_le _,rfl,by simpa using x,V⟩
 case round=>
  obtain⟨k,hk,rfl,ho,hb⟩:=hrel;by_cases L:k<zs.length
  ·obtain⟨b,ae,rfl,ad,M,N,O⟩:=(h.below hb).at k L;obtain⟨g0,g1,g2⟩:=z18 zs k L;generalize zs.getD k z0j=z at M N O g0 g1 g2
   go_wp2_with fail
   refine(q0l _ _ _ _).mono ?_;rintro e w2 ⟨rfl,C⟩;replace ho:=z0a ho C;replace hb:=hb.trans (C.mono hb.size);clear M N O C;obtain⟨U,X,W,A⟩:=q1g ho d I L g0 g1 g2;obtain⟨f0,f1,f2⟩:=X;obtain⟨⟨u0,e0⟩,⟨u1,e1⟩,⟨u2,e2⟩⟩:=W;have R:Hid (_∧_):=⟨U,A _ _ hb (Nat.le_refl _)⟩
   clear U A g0 g1 g2 ho
   go_wp2
   go_roundw
   case rel=>exact⟨k+1,by omega,by go_num,R.out.1,R.out.2⟩
   case measure=>simp[intOf];omega
  ·go_wp2
   go_ret;have Y:k=zs.length:=by omega
   subst Y;rw[z2G _ _ _ d I]at ho;exact⟨_,_,rfl,ho,hb⟩
theorem z8U(k:Int)(y:Bool)(v:Int)(w:World):
  Calls Tryz.prog 243 #[.agg #[.int .i64 k,.bool y,.int .i64 v],.agg #[.int .i64 k,.bool y,.int .i64 v]] w fun e w'=>e=.returned (.bool true)∧Below w.heap.size w w':=by
 have h0:(k !=k)=false:=by simp
 have h1:(y !=y)=false:=by simp
 have h2:(v !=v)=false:=by simp
 go_enter Tryz.func243,Tryz.ntmps243
 go_wp2
 go_ret;exact⟨rfl,by go_grown⟩
theorem z7P(a a':Option Addr)(cap I:Nat)(zs:List UndoD)(w:World)(h:UndoRow w a zs)(h':UndoRow w a' zs)(hl:zs.length≤1099511627776):
  Calls Tryz.prog 195 #[.slice a zs.length cap,.slice a' zs.length I] w fun e w'=>e=.returned (.bool true)∧Below w.heap.size w w':=by
 go_enter Tryz.func195,Tryz.ntmps195
 go_wp2
 go_loopw[5] (fun i wr=>∃k:Nat,k≤zs.length∧i=.int .i64 k∧Below w.heap.size w wr) (fun i _=>zs.length-(intOf i).toNat)
 case atStart=>exact⟨0,Nat.zero_le _,rfl,Below.refl _ _⟩
 case round=>
  obtain⟨k,hk,rfl,hb⟩:=hrel;by_cases L:k<zs.length
  ·obtain⟨b,U,rfl,T,c,d,x⟩:=(h.below hb).at k L;obtain⟨b',O,rfl,N,y,A,C⟩:=(h'.below hb).at k L;generalize zs.getD k z0j=z at c d x y A C;obtain⟨z0,z1,z2⟩:=z;have k0:=z0f c;have l0:=z0f y;have k1:=z0f d;have l1:=z0f A;have k2:=z0f x;have l2:=z0f C;clear c d x y A C;have hW:Below wr.heap.size wr wr.drew:=(Below.refl _ _).drew;have M:Nonempty (Lat wr):=⟨⟨wr,Below.refl _ _⟩⟩
   go_wp2_with fail
   refine z0e (S:=fun w'=>∃u:Lat wr,w'=u.val) (by kernel_rfl) ?_;refine sgr [(0,8)] 2 (by kernel_rfl) ⟨⟨_,hW⟩,rfl⟩ ?_;simp only[pkE];repeat go_big_quiet_step (fail)
   refine wpQuiet_nil ?_;refine cla 8 (some 25) 243 #[.agg #[.int .i64 z0,.bool z1,.int .i64 z2],.agg #[.int .i64 z0,.bool z1,.int .i64 z2]] 1 (by kernel_rfl) ?_;refine(z8U _ _ _ _).mono ?_;rintro e w2 ⟨rfl,J⟩;replace hW:=hW.trans (J.mono hW.size);clear J;refine⟨_,rfl,⟨⟨_,hW⟩,rfl⟩,?_⟩;simp only[Act.put,pjE];refine sgr [(9,1)] 0 (by kernel_rfl) ⟨⟨_,hW⟩,rfl⟩ ?_;simp only[pkE];repeat go_big_quiet_step (fail)
   refine wpQuiet_nil ?_;refine z0i (by kernel_rfl) ?_;replace hb:=hb.trans (hW.mono hb.size);clear k0 l0 k1 l1 k2 l2 hW M
   go_wp2
   go_roundw
   case rel=>exact⟨k+1,by omega,by go_num,hb⟩
   case measure=>simp[intOf];omega
  ·go_wp2
   go_ret;exact⟨rfl,hb⟩
theorem q1h{w wr:World}{g k:Nat}{v0 v1 v2:Value}(h:w.grownBy wr (some g)):w.grownBy (((wr.setCell ⟨g,k,none⟩ v0).setCell ⟨g,k+1,none⟩ v1).setCell ⟨g,k+2,none⟩ v2) (some g):=by
 have one:∀ (u:World) (j:Nat) (v:Value),w.grownBy u (some g)→w.grownBy (u.setCell ⟨g,j,none⟩ v) (some g):=fun u j v h=>
  ⟨h.os,h.tape,h.output,by simpa[World.setCell]using h.size,fun i hi hne=>by rw[Below.heap_setCell _ _ _ _ (by intro e;apply hne;simp[e])];exact h.block i hi hne⟩
 exact(one _ _ _ (one _ _ _ (one _ _ _ h)))
def z0P(c:Int)(n:Nat):List UndoD:=(List.range n).map fun(i:Nat)=>⟨c+((i*3:Nat):Int),((c+((i*3+1:Nat):Int)) % 3==0),c+((i*3+2:Nat):Int)⟩
theorem z0V(c:Int)(n:Nat):(z0P c n).length=n:=by simp[z0P]
theorem z29(c:Int)(n i:Nat)(h:i<n):(z0P c n).getD i z0j=⟨c+((i*3:Nat):Int),((c+((i*3+1:Nat):Int)) % 3==0),c+((i*3+2:Nat):Int)⟩:=by simp[z0P,List.getD,h]
theorem z6O(base:Nat)(v:Value)(n:Nat)(xs:List Value)(c:Int)(w:World)(h:w.ownsRow base 235 3 v n xs)(hn:n≤1099511627776)(h0:0≤c)(h1:c≤1099511627776):
  Calls Tryz.prog 196 #[v,.int .i64 c] w fun e w'=>e=.returned (.int .i64 (c+((n*3:Nat):Int)))∧w'.ownsRow base 235 3 v n (z0m (z0P c n))∧w.grownBy w' v.ownBlock:=by
 rcases h.2 with⟨rfl,rfl⟩|⟨g,cap,O,rfl,hb,hg,r⟩
 ·go_enter Tryz.func196,Tryz.ntmps196
  go_wp2
  refine wp_loop_rounds 1 ?_;rw[rounds_succ]
  go_wp2
  go_ret;exact⟨by simp,World.ownsRow_nil _ _ _ _,World.grownBy.refl _ _⟩
 ·clear hg r;have d:=z1x (z0P c n);rw[z0V]at d;have M:xs.length=(z0m (z0P c n)).length:=by rw[d];exact h.1
  rw[←z1T (z0m (z0P c n)) xs]at h;go_enter Tryz.func196,Tryz.ntmps196
  go_wp2
  go_loopw[1,5] (fun j i wr=>∃k:Nat,k≤n∧j=.int .i64 (c+((k*3:Nat):Int))∧i=.int .i64 k∧wr.ownsRow base 235 3 (.slice (some ⟨g,0,none⟩) n cap) n (z6C (z0m (z0P c n)) xs (k*3))∧w.grownBy wr (some g)) (fun _ i _=>n-(intOf i).toNat)
  case atStart=>exact⟨0,Nat.zero_le _,by simp,rfl,by simpa using h,World.grownBy.refl _ _⟩
  case round=>
   obtain⟨k,hk,rfl,rfl,ho,z⟩:=hrel;by_cases A:k<n
   ·obtain⟨g0,g1,g2⟩:=z18 (z0P c n) k (by rw[z0V];exact A);rw[z29 _ _ _ A]at g0 g1 g2;obtain⟨L,⟨f0,f1,f2⟩,⟨⟨u0,e0⟩,⟨u1,e1⟩,⟨u2,e2⟩⟩,_⟩:=q1g ho M d A g0 g1 g2;have x:=q1h z (g:=g) (k:=k*3) (v0:=.int .i64 (c+((k*3:Nat):Int))) (v1:=.bool (((c+((k*3+1:Nat):Int)) % 3==0))) (v2:=.int .i64 (c+((k*3+2:Nat):Int)));have R:Hid (_∧_):=⟨L,x⟩
    have C:c+((k*3+1:Nat):Int)=c+((k*3:Nat):Int)+1:=by omega
    have I:c+((k*3+2:Nat):Int)=c+((k*3:Nat):Int)+1+1:=by omega
    have J:Hid (c+(((k+1)*3:Nat):Int)=c+((k*3:Nat):Int)+1+1+1):=show _=_ by omega
    rw[C,I]at R;clear L x g0 g1 g2 ho z C I;generalize hy:((k*3:Nat):Int)=y at R J;have U:y≤3298534883328:=by omega
    have T:0≤y:=by omega
    clear hy
    go_wp2
    go_roundw
    case rel=>exact⟨k+1,by omega,by rw[J.out],by go_num,R.out.1,R.out.2⟩
    case measure=>simp[intOf];omega
   ·go_wp2
    go_ret;have N:k=n:=by omega
    subst N;rw[z2G _ _ _ M d]at ho;exact⟨rfl,ho,z⟩
theorem z5T(a:Option Addr)(n cap:Nat)(c:Int)(w:World)(h:UndoRow w a (z0P c n))(hn:n≤1099511627776)(h0:0≤c)(h1:c≤1099511627776):
  Calls Tryz.prog 245 #[.slice a n cap,.int .i64 c] w fun e w'=>e=.returned (.int .i64 (c+((n*3:Nat):Int)))∧w'=w:=by
 go_enter Tryz.func245,Tryz.ntmps245
 go_wp2
 go_loop[1,5] (fun j i=>∃k:Nat,k≤n∧j=.int .i64 (c+((k*3:Nat):Int))∧i=.int .i64 k) (fun _ i=>n-(intOf i).toNat)
 case atStart=>exact⟨0,Nat.zero_le _,by simp,rfl⟩
 case round=>
  obtain⟨k,hk,rfl,rfl⟩:=hrel;by_cases J:k<n
  ·obtain⟨b,T,rfl,M,z,d,x⟩:=h.at k (by rw[z0V];exact J);rw[z29 _ _ _ J]at z d x;have A:c+((k*3+1:Nat):Int)=c+((k*3:Nat):Int)+1:=by omega
   have C:c+((k*3+2:Nat):Int)=c+((k*3:Nat):Int)+1+1:=by omega
   have I:Hid (c+(((k+1)*3:Nat):Int)=c+((k*3:Nat):Int)+1+1+1):=show _=_ by omega
   dsimp only at z d x;rw[A]at d;rw[C]at x;clear A C;generalize hy:((k*3:Nat):Int)=y at z d x I;have O:y≤3298534883328:=by omega
   have N:0≤y:=by omega
   clear hy
   go_wp2
   go_round
   case rel=>exact⟨k+1,by omega,by rw[I.out],by go_num⟩
   case measure=>simp[intOf];omega
  ·go_wp2
   go_ret;have L:k=n:=by omega
   subst L;exact⟨rfl,rfl⟩
theorem z8V(a:Option Addr)(n cap:Nat)(c:Int)(w:World)(hn:n≤9223372036854775807)(h0:0≤c)(h1:c≤1099511627776):
  Calls Tryz.prog 189 #[.slice a n cap,.int .i64 c] w fun e w'=>e=.returned (.int .i64 (if c-n<0 then -1 else c-n))∧w'=w:=by
 by_cases h:c-n<0
 ·rw[if_pos h];go_enter Tryz.func189,Tryz.ntmps189
  go_wp2
  go_ret;exact⟨rfl,rfl⟩
 ·rw[if_neg h];go_enter Tryz.func189,Tryz.ntmps189
  go_wp2
  go_ret;exact⟨rfl,rfl⟩
def itemK:Kind ItemD where
 ty:=119
 size:=2
 cells:=ItemD.cells
 own _ _:=True
 rd _ _:=True
 foot _:=[]
 len _:=rfl
 own_rd _:=trivial
 own_out _ _ _:=trivial
 own_lt _ k hk:=by simp at hk
 rd_below _ _:=trivial
theorem z0Z{w:World}{a:Option Addr}{n cap:Nat}{zs:List ItemD}(h:itemK.At w (.slice a n cap) zs):n=zs.length∧ItemRow w a zs:=by
 obtain⟨a',c,e,hl,_⟩:=h;simp only[Value.slice.injEq]at e;obtain⟨rfl,rfl,_⟩:=e;exact⟨rfl,hl⟩
theorem z0l(v:Value)(zs:List ItemD):itemK.fp v zs=blk v:=by
 have:zs.flatMap itemK.foot=[]:=by simp[show∀z,itemK.foot z=[]from fun _=>rfl]
 simp[Kind.fp,this]
def undoK:Kind UndoD where
 ty:=235
 size:=3
 cells:=UndoD.cells
 own _ _:=True
 rd _ _:=True
 foot _:=[]
 len _:=rfl
 own_rd _:=trivial
 own_out _ _ _:=trivial
 own_lt _ k hk:=by simp at hk
 rd_below _ _:=trivial
theorem z1L{w:World}{a:Option Addr}{n cap:Nat}{zs:List UndoD}(h:undoK.At w (.slice a n cap) zs):n=zs.length∧UndoRow w a zs:=by
 obtain⟨a',c,e,hl,_⟩:=h;simp only[Value.slice.injEq]at e;obtain⟨rfl,rfl,_⟩:=e;exact⟨rfl,hl⟩
theorem z0E(v:Value)(zs:List UndoD):undoK.fp v zs=blk v:=by
 have:zs.flatMap undoK.foot=[]:=by simp[show∀z,undoK.foot z=[]from fun _=>rfl]
 simp[Kind.fp,this]
theorem z7Q(v:Value)(zs:List ItemD)(c:Int)(w:World)(h:itemK.At w v zs)(hn:zs.length≤9223372036854775807)(h0:0≤c)(h1:c≤1048576):
  Calls Tryz.prog 131 #[v,.int .i64 c] w fun e w'=>∃r:Int,e=.returned (.int .i64 r)∧(¬r<0→(zs.length:Int)+r=c)∧Below w.heap.size w w':=by
 obtain⟨a,cap,rfl⟩:=h.shape;refine(z8S a zs.length cap c w hn h0 (by omega)).mono ?_;rintro e w' ⟨rfl,rfl⟩;refine⟨_,rfl,?_,Below.refl _ _⟩;split<;>omega
theorem z7R(v:Value)(zs:List ItemD)(w:World)(h:itemK.At w v zs)(hl:zs.length≤1048576):
  Calls Tryz.prog 136 #[v] w fun e w'=>∃v',e=.returned v'∧itemK.Own w' v' zs∧(itemK.fp v' zs).Nodup∧(∀k∈itemK.fp v' zs,w.heap.size≤k)∧Below w.heap.size w w':=by
 obtain⟨a,cap,rfl⟩:=h.shape;refine(z8Q a cap zs w (z0Z h).2 hl).mono ?_;rintro e w' ⟨g,c,rfl,ho,hb⟩;obtain⟨o,hk⟩:=z0u ho;refine⟨_,rfl,⟨o,fun _ _=>trivial⟩,?_,?_,hb⟩
 ·rw[z0l];exact z0r _
 ·rw[z0l];exact hk
theorem z7S(v v':Value)(zs:List ItemD)(w:World)(h:itemK.At w v zs)(h':itemK.At w v' zs)(hl:zs.length≤1048576):
  Calls Tryz.prog 141 #[v,v'] w fun e w'=>e=.returned (.bool true)∧Below w.heap.size w w':=by
 obtain⟨a,cap,rfl⟩:=h.shape;obtain⟨a',cap',rfl⟩:=h'.shape;exact z7O a a' cap cap' zs w (z0Z h).2 (z0Z h').2 (by omega)
def mkItems(c:Int)(zs:List ItemD):List ItemD:=z0H c zs.length
theorem q0m(c:Int)(v:Value)(zs:List ItemD):itemK.fp v (mkItems c zs)=itemK.fp v zs:=by rw[z0l,z0l]
theorem z5e(v:Value)(zs:List ItemD)(c:Int)(w:World)(h:itemK.Own w v zs)(hl:zs.length≤1048576)(h0:0≤c)(h1:c≤1099511627776):
  Calls Tryz.prog 143 #[v,.int .i64 c] w fun e w'=>e=.returned (.int .i64 (c+((zs.length*2:Nat):Int)))∧itemK.Own w' v (mkItems c zs)∧Out (itemK.fp v zs) w w':=by
 refine(z6N 0 v zs.length _ c w h.1 (by omega) h0 h1).mono ?_;rintro e w' ⟨rfl,ho,hg⟩;refine⟨rfl,⟨?_,fun _ _=>trivial⟩,?_⟩
 ·have e:(mkItems c zs).length=zs.length:=by simp[mkItems,z0U]
  rw[e];exact ho
 ·rw[z0l];exact Out.of_grown hg
theorem z5f(v:Value)(zs:List ItemD)(c:Int)(w:World)(h:itemK.At w v (mkItems c zs))(hl:zs.length≤1048576)(h0:0≤c)(h1:c≤1099511627776):
  Calls Tryz.prog 198 #[v,.int .i64 c] w fun e w'=>e=.returned (.int .i64 (c+((zs.length*2:Nat):Int)))∧Below w.heap.size w w':=by
 obtain⟨a,cap,rfl⟩:=h.shape;have e:(mkItems c zs).length=zs.length:=by simp[mkItems,z0U]
 have hA:=(z0Z h).2;rw[e];refine(z5S a zs.length cap c w hA (by omega) h0 h1).mono ?_;rintro e w' ⟨rfl,hw⟩;exact⟨rfl,by subst hw;exact Below.refl _ _⟩
theorem q1i(v:Value)(zs:List UndoD)(c:Int)(w:World)(h:undoK.At w v zs)(hn:zs.length≤9223372036854775807)(h0:0≤c)(h1:c≤1048576):
  Calls Tryz.prog 189 #[v,.int .i64 c] w fun e w'=>∃r:Int,e=.returned (.int .i64 r)∧(¬r<0→(zs.length:Int)+r=c)∧Below w.heap.size w w':=by
 obtain⟨a,cap,rfl⟩:=h.shape;refine(z8V a zs.length cap c w hn h0 (by omega)).mono ?_;rintro e w' ⟨rfl,rfl⟩;refine⟨_,rfl,?_,Below.refl _ _⟩;split<;>omega
theorem q1j(v:Value)(zs:List UndoD)(w:World)(h:undoK.At w v zs)(hl:zs.length≤1048576):
  Calls Tryz.prog 192 #[v] w fun e w'=>∃v',e=.returned v'∧undoK.Own w' v' zs∧(undoK.fp v' zs).Nodup∧(∀k∈undoK.fp v' zs,w.heap.size≤k)∧Below w.heap.size w w':=by
 obtain⟨a,cap,rfl⟩:=h.shape;refine(z8T a cap zs w (z1L h).2 hl).mono ?_;rintro e w' ⟨g,c,rfl,ho,hb⟩;obtain⟨o,hk⟩:=z0u ho;refine⟨_,rfl,⟨o,fun _ _=>trivial⟩,?_,?_,hb⟩
 ·rw[z0E];exact z0r _
 ·rw[z0E];exact hk
theorem q1k(v v':Value)(zs:List UndoD)(w:World)(h:undoK.At w v zs)(h':undoK.At w v' zs)(hl:zs.length≤1048576):
  Calls Tryz.prog 195 #[v,v'] w fun e w'=>e=.returned (.bool true)∧Below w.heap.size w w':=by
 obtain⟨a,cap,rfl⟩:=h.shape;obtain⟨a',cap',rfl⟩:=h'.shape;exact z7P a a' cap cap' zs w (z1L h).2 (z1L h').2 (by omega)
def z1R(c:Int)(zs:List UndoD):List UndoD:=z0P c zs.length
theorem z6h(c:Int)(v:Value)(zs:List UndoD):undoK.fp v (z1R c zs)=undoK.fp v zs:=by rw[z0E,z0E]
theorem z8W(v:Value)(zs:List UndoD)(c:Int)(w:World)(h:undoK.Own w v zs)(hl:zs.length≤1048576)(h0:0≤c)(h1:c≤1099511627776):
  Calls Tryz.prog 196 #[v,.int .i64 c] w fun e w'=>e=.returned (.int .i64 (c+((zs.length*3:Nat):Int)))∧undoK.Own w' v (z1R c zs)∧Out (undoK.fp v zs) w w':=by
 refine(z6O 0 v zs.length _ c w h.1 (by omega) h0 h1).mono ?_;rintro e w' ⟨rfl,ho,hg⟩;refine⟨rfl,⟨?_,fun _ _=>trivial⟩,?_⟩
 ·have e:(z1R c zs).length=zs.length:=by simp[z1R,z0V]
  rw[e];exact ho
 ·rw[z0E];exact Out.of_grown hg
theorem z8X(v:Value)(zs:List UndoD)(c:Int)(w:World)(h:undoK.At w v (z1R c zs))(hl:zs.length≤1048576)(h0:0≤c)(h1:c≤1099511627776):
  Calls Tryz.prog 245 #[v,.int .i64 c] w fun e w'=>e=.returned (.int .i64 (c+((zs.length*3:Nat):Int)))∧Below w.heap.size w w':=by
 obtain⟨a,cap,rfl⟩:=h.shape;have e:(z1R c zs).length=zs.length:=by simp[z1R,z0V]
 have hA:=(z1L h).2;rw[e];refine(z5T a zs.length cap c w hA (by omega) h0 h1).mono ?_;rintro e w' ⟨rfl,hw⟩;exact⟨rfl,by subst hw;exact Below.refl _ _⟩
structure USQ where
 va:Value
 us:List UndoD
def ussK:Kind USQ where
 ty:=160
 size:=1
 cells p:=[p.va]
 own w p:=undoK.Own w p.va p.us
 rd w p:=undoK.At w p.va p.us
 foot p:=undoK.fp p.va p.us
 len _:=rfl
 own_rd h:=h.at
 own_out h ho hd:=h.out ho hd
 own_lt h:=h.lt
 rd_below h hb:=h.below hb
def USQ.e(p:USQ):List UndoD:=p.us
def USQ.n(p:USQ):Nat:=p.us.length
def USQ.wf(p:USQ):Prop:=p.us.length≤9223372036854775807
theorem z2H:(Tryz.prog.info? 160).map (fun i=>(i.zero,i.size,i.bytes))=some (some (.slice none 0 0),1,24):=by kernel_rfl
section
variable {P:Type} {K:Kind P} {w w':World} {v v':Value} {ps:List P} {p:P} {B:Nat}
theorem Kind.row_snoc(ps:List P)(p:P):K.row (ps++[p])=K.row ps++K.cells p:=by simp[Kind.row]
theorem Kind.Own.snoc(h:K.Own w v ps)(N:(K.fp v ps).Nodup)(C:∀k∈K.fp v ps,B≤k)(hp:K.own w p)(O:(K.foot p).Nodup)(z:∀k∈K.foot p,k∉K.fp v ps)(I:∀k∈K.foot p,B≤k)(hB:B≤w.heap.size)
  (L:w'.ownsRow 0 K.ty K.size v' (ps.length+1) (K.row ps++K.cells p)) (hg:w.grownBy w' v.ownBlock) (c:v'.ownBlock=v.ownBlock∨v'.ownBlock=some w.heap.size):
  K.Own w' v' (ps++[p])∧(K.fp v' (ps++[p])).Nodup∧(∀k∈K.fp v' (ps++[p]),B≤k)∧Out (blk v) w w':=by
 have hO:Out (blk v) w w':=Out.of_grown hg;have d:=List.nodup_append.1 N;have M:=h.lt;have J:=K.own_lt hp;have A:(ps++[p]).flatMap K.foot=ps.flatMap K.foot++K.foot p:=by simp
 refine⟨⟨?_,?_⟩,?_,?_,hO⟩
 ·rw[List.length_append,List.length_singleton,Kind.row_snoc];exact L
 ·intro q hq;rcases List.mem_append.1 hq with hq|hq
  ·exact K.own_out (h.2 q hq) hO (fun k hk y=>d.2.2 k y k (List.mem_flatMap.2 ⟨q,hq,hk⟩) rfl)
  ·simp only[List.mem_singleton]at hq;subst hq;exact K.own_out hp hO (fun k hk y=>z k hk (by simp only[Kind.fp,List.mem_append];exact Or.inl y))
 ·unfold Kind.fp;rw[A];have x:(ps.flatMap K.foot++K.foot p).Nodup:=List.nodup_append.2 ⟨d.2.1,O,fun a ha b hb e=>z b hb (by simp only[Kind.fp,List.mem_append];exact Or.inr (e▸ha))⟩;rcases c with c|c
  ·have e:blk v'=blk v:=by unfold blk;rw[c]
   rw[e];refine List.nodup_append.2 ⟨d.1,x,fun a ha b hb e=>?_⟩;subst e;rcases List.mem_append.1 hb with hb|hb
   ·exact d.2.2 a ha a hb rfl
   ·exact z a hb (by simp only[Kind.fp,List.mem_append];exact Or.inl ha)
  ·have e:blk v'=[w.heap.size]:=by unfold blk;rw[c];rfl
   rw[e];refine List.nodup_append.2 ⟨by simp,x,fun a ha b hb e=>?_⟩;simp only[List.mem_singleton]at ha;subst e ha;rcases List.mem_append.1 hb with hb|hb
   ·have:=M _ (show w.heap.size∈K.fp v ps by simp only[Kind.fp,List.mem_append];exact Or.inr hb);omega
   ·have:=J _ hb;omega
 ·intro k hk;unfold Kind.fp at hk;rw[A]at hk;rcases List.mem_append.1 hk with hk|hk
  ·rcases c with c|c
   ·exact C k (by simp only[Kind.fp,List.mem_append];left;unfold blk at hk⊢;rw[c]at hk;exact hk)
   ·unfold blk at hk;rw[c]at hk;simp only[Option.toList,List.mem_singleton]at hk;omega
  ·rcases List.mem_append.1 hk with hk|hk
   ·exact C k (by simp only[Kind.fp,List.mem_append];exact Or.inr hk)
   ·exact I k hk
theorem Kind.own_nil(w:World):K.Own w (.slice none 0 0) ([]:List P)∧(K.fp (.slice none 0 0) ([]:List P))=[]:=⟨⟨World.ownsRow_nil _ _ _ _,fun p hp=>by simp at hp⟩,by simp[Kind.fp,blk,Value.ownBlock]⟩
end
section
variable {P:Type} {K:Kind P} {w w':World} {a:Option Addr} {n cap:Nat} {ps:List P}
theorem Kind.At.takeK(h:K.At w (.slice a n cap) ps)(m:Nat)(hm:m≤ps.length):K.At w (.slice a m cap) (ps.take m):=by
 obtain⟨a',c,e,hl,hr⟩:=h;simp only[Value.slice.injEq]at e;obtain⟨rfl,_,rfl⟩:=e;refine⟨a,cap,by rw[List.length_take,Nat.min_eq_left hm],?_,fun p hp=>hr p (List.mem_of_mem_take hp)⟩;have er:K.row ps=K.row (ps.take m)++K.row (ps.drop m):=by
  unfold Kind.row;rw[←List.flatMap_append,List.take_append_drop]
 rcases hl with h0|⟨b,off,ha,hlt,hc⟩
 ·left;rw[er]at h0;exact(List.append_eq_nil_iff.1 h0).1
 ·right;refine⟨b,off,ha,hlt,fun j x hx=>hc j x ?_⟩;rw[er,List.getElem?_append_left (List.getElem?_eq_some_iff.1 hx).1];exact hx
theorem Kind.Own.capK(h:K.Own w (.slice a n cap) ps):n≤cap∧cap≤maxLen:=by
 rcases h.1.2 with⟨e,_⟩|⟨g,c,cur,e,_,_,h1,h2,_⟩
 ·simp only[Value.slice.injEq]at e;obtain⟨_,rfl,rfl⟩:=e;exact⟨Nat.le_refl _,by decide⟩
 ·simp only[Value.slice.injEq]at e;obtain⟨_,rfl,rfl⟩:=e;exact⟨h1,h2⟩
theorem Kind.At.nilA(w:World)(a:Option Addr)(c':Nat):K.At w (.slice a 0 c') ([]:List P):=⟨a,c',rfl,Or.inl rfl,fun p hp=>by simp at hp⟩
theorem Kind.At.dropS(h:K.At w (.slice a n cap) ps)(m:Nat)(hm:m≤ps.length)(hcap:ps.length≤cap)(c':Nat):K.At w (.slice (if cap=m then a else a.map (·.add (m*K.size))) (ps.drop m).length c') (ps.drop m):=by
 by_cases hc:cap=m
 ·have hp:ps.drop m=[]:=List.drop_of_length_le (by omega);rw[if_pos hc,hp];exact Kind.At.nilA w a c'
 ·rw[if_neg hc]
  cases a with
  |none=>
   obtain⟨a',c,e,hl,hr⟩:=h;simp only[Value.slice.injEq]at e;obtain⟨rfl,_,rfl⟩:=e;rcases hl with h0|⟨b',off',ha,_⟩
   ·refine⟨none,c',rfl,Or.inl ?_,fun p hp=>hr p (List.mem_of_mem_drop hp)⟩;have er:K.row ps=K.row (ps.take m)++K.row (ps.drop m):=by
     unfold Kind.row;rw[←List.flatMap_append,List.take_append_drop]
    rw[er]at h0;exact(List.append_eq_nil_iff.1 h0).2
   ·simp at ha
  |some x=>
   obtain⟨a',c,e,hl,hr⟩:=h;simp only[Value.slice.injEq]at e;obtain⟨rfl,_,rfl⟩:=e;refine⟨_,c',rfl,?_,fun p hp=>hr p (List.mem_of_mem_drop hp)⟩;have er:K.row ps=K.row (ps.take m)++K.row (ps.drop m):=by
    unfold Kind.row;rw[←List.flatMap_append,List.take_append_drop]
   have hlen:(K.row (ps.take m)).length=m*K.size:=by rw[Kind.row_length,List.length_take,Nat.min_eq_left hm]
   rcases hl with h0|⟨b',off',ha,hlt,hc⟩
   ·left;rw[er]at h0;exact(List.append_eq_nil_iff.1 h0).2
   ·right;simp only[Option.some.injEq]at ha;subst ha;refine⟨b',off'+m*K.size,by simp[Addr.add],hlt,fun j y hy=>?_⟩;have h2:=hc (m*K.size+j) y (by rw[er,List.getElem?_append_right (by omega),hlen,show m*K.size+j-m*K.size=j by omega];exact hy);rw[←Nat.add_assoc]at h2;exact h2
theorem Kind.at_of_row{v:Value}{base e:Nat}(h:w.ownsRow base e K.size v ps.length (K.row ps))(hr:∀p∈ps,K.rd w p):K.At w v ps:=by
 obtain⟨a,c,rfl⟩:=z0g h;exact⟨a,c,rfl,Lies.own h,hr⟩
end
theorem Blk.outs8{w w':World}{b:Nat}{t:TypeId}{cs:Array Value}{F:List Nat}(h:Blk w b t cs)(hU:Out F w w')(hF:b∉F):Blk w' b t cs:=(hU.block b h.lt hF).trans h
def z5U:Value→Prop
 | .slice _ n c=>n≤c∧c≤maxLen
 |_=>False
theorem Kind.Own.capOk{P:Type}{K:Kind P}{w:World}{v:Value}{ps:List P}(h:K.Own w v ps):z5U v:=by
 obtain⟨a,c,rfl⟩:=h.shape;exact h.capK
def z1i(f:Nat→Int):Nat→Int
 |0=>0
 |n+1=>if z1i f n=0 then f n else z1i f n
theorem z1M(f:Nat→Int):∀n,(∀j,j<n→f j=0)→z1i f n=0
 |0,_=>rfl
 |n+1,h=>by
  have:=z1M f n (fun j hj=>h j (by omega));simp only[z1i,this,if_true];exact h n (by omega)
theorem z3w(f:Nat→Int)(k:Nat)(h:∀j,j<k→f j=0)(hne:f k≠0):∀n,k<n→z1i f n=f k
 |0,hk=>by omega
 |n+1,hk=>by
  by_cases e:k=n
  ·subst e;simp only[z1i,z1M f k h,if_true]
  ·have:=z3w f k h hne n (by omega);simp only[z1i,this,hne,if_false]
theorem z4j(f:Nat→Int):∀n,z1i f n=0→∀j,j<n→f j=0
 |0,_,j,hj=>by omega
 |n+1,h,j,hj=>by
  simp only[z1i]at h;by_cases e:z1i f n=0
  ·rw[if_pos e]at h;by_cases ej:j=n
   ·subst ej;exact h
   ·exact z4j f n e j (by omega)
  ·rw[if_neg e]at h;exact absurd h e
def prevK(xs:List ItemD)(k:Nat):Int:=if k=0 then 0 else(xs.getD (k-1) z0b).key
def itF(xs:List ItemD)(k:Nat):Int:=
 if inW (xs.getD k z0b).key 1 20=false∨inW (xs.getD k z0b).val (-20000) 20000=false then 3
 else if(xs.getD k z0b).key≤prevK xs k then 1 else 0
def itemsF(xs:List ItemD):Int:=if 8<xs.length then 2 else z1i (itF xs) xs.length
theorem z6P(xs:List ItemD)(k:Nat):
  (inW (xs.getD k z0b).key 1 20=false∧itF xs k=3)∨(inW (xs.getD k z0b).key 1 20=true∧inW (xs.getD k z0b).val (-20000) 20000=false∧itF xs k=3)∨
  (inW (xs.getD k z0b).key 1 20=true∧inW (xs.getD k z0b).val (-20000) 20000=true∧(xs.getD k z0b).key≤prevK xs k∧itF xs k=1)∨
  (inW (xs.getD k z0b).key 1 20=true∧inW (xs.getD k z0b).val (-20000) 20000=true∧¬(xs.getD k z0b).key≤prevK xs k∧itF xs k=0):=by
 unfold itF;generalize xs.getD k z0b=x;generalize prevK xs k=p
 cases h1:inW x.key 1 20<;>cases h2:inW x.val (-20000) 20000<;>by_cases h3:x.key≤p<;>simp[h3]
theorem z1D(n:Int)(w:World):
  Calls Tryz.prog 234 #[.int .i64 n] w fun e w'=>e=.returned (.bool (inW n (-20000) 20000))∧w'=w:=by
 have hc:=fun w=>z0G n (-20000) 20000 w
 generalize inW n (-20000) 20000=r at hc;go_enter Tryz.func234,Tryz.ntmps234
 go_wp2_with (go_at_call 62;refine(hc _).mono ?_;rintro e w' ⟨rfl,rfl⟩)
 go_ret;exact⟨rfl,rfl⟩
theorem z1N(a:Option Addr)(cap:Nat)(zs:List ItemD)(w:World)(h:ItemRow w a zs)(hl:zs.length≤1048576):
  Calls Tryz.prog 181 #[.slice a zs.length cap] w fun e w'=>e=.returned (.int .i64 (itemsF zs))∧Below w.heap.size w w':=by
 by_cases h8:8<zs.length
 ·have E:itemsF zs=2:=if_pos h8;rw[E];go_enter Tryz.func181,Tryz.ntmps181
  go_wp2
  go_ret;exact⟨rfl,Below.refl _ _⟩
 have E:itemsF zs=z1i (itF zs) zs.length:=if_neg h8;rw[E];clear E;go_enter Tryz.func181,Tryz.ntmps181
 go_wp2
 go_loopw[3,11] (fun l j wr=>∃k:Nat,k≤zs.length∧j=.int .i64 k∧l=.int .i64 (prevK zs k)∧Below w.heap.size w wr∧Hid (∀j,j<k→itF zs j=0)) (fun _ j _=>zs.length-(intOf j).toNat)
 case atStart=>exact⟨0,Nat.zero_le _,rfl,rfl,Below.refl _ _,fun j hj=>absurd hj (Nat.not_lt_zero _)⟩
 case round=>
  obtain⟨k,hk,rfl,rfl,hb,HA⟩:=hrel;by_cases hlt:k<zs.length
  ·obtain⟨b,off,rfl,hbs,hc0,hc1⟩:=(h.below hb).at k hlt;have hsz:=hb.size;have HK:Hid (prevK zs (k+1)=(zs.getD k z0b).key):=if_neg (Nat.succ_ne_zero k);rcases z6P zs k with⟨h1,hF⟩|⟨h1,h2,hF⟩|⟨h1,h2,h3,hF⟩|⟨h1,h2,h3,hF⟩
   case inr.inr.inr=>
    have HB:Hid (∀j,j<k+1→itF zs j=0):=by
     intro j hj;by_cases hjk:j=k
     ·subst hjk;exact hF
     ·exact HA.out j (by omega)
    clear HA hF;generalize prevK zs k=p at h3;generalize zs.getD k z0b=z at hc0 hc1 h1 h2 h3 HK;obtain⟨z0,z1⟩:=z;dsimp only at hc0 hc1 h1 h2 h3 HK
    go_wp2_with (first|(go_at_call 62;refine(z0G _ _ _ _).mono ?_;rintro e w' ⟨rfl,rfl⟩)|(go_at_call 234;refine(z1D _ _).mono ?_;rintro e w' ⟨rfl,rfl⟩))
    go_roundw
    case rel=>exact⟨k+1,by omega,by go_num,by rw[HK.out],by go_grown,HB⟩
    case measure=>simp[intOf];omega
   all_goals
    have E:Hid (z1i (itF zs) zs.length=_):=z3w (itF zs) k HA.out (by rw[hF];decide) zs.length hlt;rw[hF]at E;clear HA hF HK;generalize prevK zs k=p at*;generalize zs.getD k z0b=z at*;obtain⟨z0,z1⟩:=z;dsimp only at*
    go_wp2_with (first|(go_at_call 62;refine(z0G _ _ _ _).mono ?_;rintro e w' ⟨rfl,rfl⟩)|(go_at_call 234;refine(z1D _ _).mono ?_;rintro e w' ⟨rfl,rfl⟩))
    go_ret;rw[E.out];exact⟨rfl,by go_grown⟩
  ·have hkl:k=zs.length:=by omega
   subst hkl;have E:Hid (z1i (itF zs) zs.length=0):=z1M _ _ HA.out;clear HA
   go_wp2
   go_ret;rw[E.out];exact⟨rfl,hb⟩
def OwnS(e size lo hi:Nat)(w:World)(v:Value)(n:Nat)(xs:List Value):Prop:=w.ownsRow lo e size v n xs∧∀g,v.ownBlock=some g→g<hi
theorem OwnS.of{e size lo n:Nat}{w:World}{v:Value}{xs:List Value}(o:w.ownsRow lo e size v n xs):OwnS e size lo w.heap.size w v n xs:=⟨o,fun g hg=>(o.lt g hg).2⟩
theorem OwnS.below{e size lo hi n:Nat}{w w':World}{v:Value}{xs:List Value}(o:OwnS e size lo hi w v n xs)(hb:Below w.heap.size w w'):OwnS e size lo hi w' v n xs:=⟨z0a o.1 hb,o.2⟩
theorem OwnS.only{e size lo hi n lo' hi':Nat}{w w':World}{v:Value}{xs:List Value}(o:OwnS e size lo hi w v n xs)(h:Only lo' hi' w w')(hh:hi'≤lo):OwnS e size lo hi w' v n xs:=⟨z15 o.1 h hh,o.2⟩
theorem OwnS.lies{e size lo hi n c:Nat}{w:World}{a:Option Addr}{xs:List Value}(o:OwnS e size lo hi w (.slice a n c) n xs):Lies w a xs:=Lies.own o.1
theorem OwnS.wide{e size lo hi n lo' hi':Nat}{w:World}{v:Value}{xs:List Value}(o:OwnS e size lo hi w v n xs)(h:lo'≤lo)(hh:hi≤hi'):OwnS e size lo' hi' w v n xs:=⟨z0o o.1 h,fun g hg=>Nat.lt_of_lt_of_le (o.2 g hg) hh⟩
theorem OwnS.grown{e size lo hi n:Nat}{w w':World}{v:Value}{xs:List Value}(o:OwnS e size lo hi w v n xs)(hg:w.grownBy w' v.ownBlock):Only lo hi w w':=z3s hg (fun g h=>⟨(o.1.lt g h).1,o.2 g h⟩)
theorem OwnS.beside{e size lo hi n:Nat}{w w':World}{v v':Value}{xs:List Value}(o:OwnS e size lo hi w v n xs)(hg:w.grownBy w' v'.ownBlock)(h:v.ownBlock=none∨v.ownBlock≠v'.ownBlock):OwnS e size lo hi w' v n xs:=⟨o.1.kept hg h,o.2⟩
theorem OwnTxns.only{lo hi lo' hi':Nat}{w w':World}{v:Value}{ds:List TxnD}(h:OwnTxns lo hi w v ds)(ho:Only lo' hi' w w')(hh:hi'≤lo):OwnTxns lo hi w' v ds:=by
 obtain⟨g,cap,ps,e,hg,hd,o,hp⟩:=h;exact⟨g,cap,ps,e,hg,hd,z15 o ho hh,fun p hm=>⟨z15 (hp p hm).1 ho hh,(hp p hm).2⟩⟩
end Go.Proofs.YtlkpdgjnhkjpjaaGreatDoor
