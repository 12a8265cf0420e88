import Derived.Test.YtjjoahhnkpjolaaGreatDoorONAD
set_option linter.unusedVariables false
set_option linter.unusedSimpArgs false
set_option maxRecDepth 100000
set_option maxHeartbeats 2000000
namespace Go.Proofs.YtjjoahhnkpjolaaGreatDoor
open Go.RowKit Go.BigFrame
open Nat renaming le_refl->H,zero_le->P
open IntKind renaming i64->K
open Value renaming int->G,slice->F
open Go.Proofs.Tryz renaming prog->Q
open Go.Proofs.Tryz
structure ItemD where
 key:Int
 val:Int
deriving DecidableEq
def z0b:ItemD:=⟨0,0⟩
def ItemD.cells(x:ItemD):List Value:=[G K x.key,G K x.val]
def z0g(xs:List ItemD):List Value:=xs.flatMap ItemD.cells
def ItemRow(w:World)(a:Option Addr)(xs:List ItemD):Prop:=Lies w a (z0g xs)
theorem z1g(xs:List ItemD):(z0g xs).length=xs.length*2:=by
 induction xs with
 |nil=>rfl
 |cons x xs ih=>simp only[z0g,List.flatMap_cons,List.length_append,List.length_cons]at ih⊢;rw[ih];simp[ItemD.cells];omega
theorem z2i(xs:List ItemD):∀ (i:Nat),i<xs.length→(z0g xs)[i*2]?=some (G K (xs.getD i z0b).key)∧(z0g xs)[i*2+1]?=some (G K (xs.getD i z0b).val):=by
 induction xs with
 |nil=>intro i h;simp at h
 |cons x xs ih=>
  intro i h
  cases i with
  |zero=>simp[z0g,ItemD.cells]
  |succ i=>
   have e:z0g (x::xs)=x.cells++z0g xs:=rfl;have hl:x.cells.length=2:=rfl;obtain⟨h1,h2⟩:=ih i (by simpa using h);rw[e,List.getElem?_append_right (by omega),List.getElem?_append_right (by omega),hl,show(i+1)*2-2=i*2 by omega,show(i+1)*2+1-2=i*2+1 by omega];simpa[List.getD]using⟨h1,h2⟩
theorem ItemRow.below{w w':World}{a:Option Addr}{xs:List ItemD}(h:ItemRow w a xs)(hb:Below w.heap.size w w'):ItemRow w' a xs:=Lies.below h hb
theorem ItemRow.at{w:World}{a:Option Addr}{xs:List ItemD}(h:ItemRow w a xs)(i:Nat)(hi:i<xs.length):
  ∃b off,a=some ⟨b,off,none⟩∧b<w.heap.size∧w.cell? ⟨b,off+i*2,none⟩=some (G K (xs.getD i z0b).key)∧w.cell? ⟨b,off+i*2+1,none⟩=some (G K (xs.getD i z0b).val):=by
 obtain⟨h1,h2⟩:=z2i xs i hi;rcases h with h|⟨b,off,ha,hlt,hc⟩
 ·have:=z1g xs;rw[h]at this;simp at this;omega
 ·exact⟨b,off,ha,hlt,hc _ _ h1,by rw[Nat.add_assoc];exact hc _ _ h2⟩
theorem z2j:(Q.info? 173).map (fun i=>(i.zero,i.size,i.bytes))=some (some (.agg #[G K 0,G K 0]),2,16):=by kernel_rfl
theorem q0Z(k:Int)(y:Int)(w:World):
  Calls Q 165 #[.agg #[G K k,G K y]] w fun e w'=>e=.returned (.agg #[G K k,G K y])∧Below w.heap.size w w':=by
 go_enter func165,ntmps165
 go_wp2
 exact bodyPost_ret (v:=.agg #[G K k,G K y]) (by simp[results,results165,go_sem]) rfl ⟨rfl,by go_grown⟩
theorem q1X{w:World}{base e g cap n k:Nat}{zs ys:List Value}{v0 v1:Value}(ho:w.ownsRow base e 2 (F (some ⟨g,0,none⟩) n cap) n (z61 zs ys (k*2)))
  (hl:ys.length=zs.length) (hz:zs.length=n*2) (hk:k<n) (g0:zs[k*2]?=some v0) (g1:zs[k*2+1]?=some v1):
  ((w.setCell ⟨g,k*2,none⟩ v0).setCell ⟨g,k*2+1,none⟩ v1).ownsRow base e 2 (F (some ⟨g,0,none⟩) n cap) n (z61 zs ys ((k+1)*2))∧
  (w.frozen? ⟨g,k*2,none⟩=false∧w.frozen? ⟨g,k*2+1,none⟩=false)∧
  ((∃u,w.cell? ⟨g,k*2,none⟩=some u)∧(∃u,w.cell? ⟨g,k*2+1,none⟩=some u))∧
  (∀B a,Below B a w→B≤g→Below B a ((w.setCell ⟨g,k*2,none⟩ v0).setCell ⟨g,k*2+1,none⟩ v1)):=by
 have hc:∀j,j<n*2→∃u,w.cell? ⟨g,j,none⟩=some u:=fun j hj=>by
  rw[ho.cellAt j hj];exact⟨_,List.getElem?_eq_getElem (by rw[ho.1];exact hj)⟩
 have s0:=(ho.stored (k*2) v0).1;rw[z1D _ _ _ _ hl g0]at s0;have s1:=(s0.stored (k*2+1) v1).1;rw[z1D _ _ _ _ hl g1,show k*2+1+1=(k+1)*2 by omega]at s1;exact⟨s1,⟨ho.frozenAt _,ho.frozenAt _⟩,⟨hc _ (by omega),hc _ (by omega)⟩,fun B a h hB=>((h.setCell hB _).setCell hB _)⟩
theorem z9d(a:Option Addr)(cap:Nat)(zs:List ItemD)(w:World)(h:ItemRow w a zs)(hl:zs.length≤1048576):
  Calls Q 124 #[F a zs.length cap] w fun e w'=>∃g c,e=.returned (F (some ⟨g,0,none⟩) zs.length c)∧
   w'.ownsRow w.heap.size 173 2 (F (some ⟨g,0,none⟩) zs.length c) zs.length (z0g zs)∧Below w.heap.size w w':=by
 obtain⟨i0,hi,W,X,Y⟩:=info_parts z2j;have y:i0.bytes*zs.length≤281474976710656:=by rw[Y];omega
 have M:zs.length≤maxLen:=by unfold maxLen;omega
 have D:=z1g zs;go_enter func124,ntmps124
 go_wp2_with (at_make;refine wpList_make_full _ rfl _ _ 53 rfl w.heap.size 173 i0 (.agg #[G K 0,G K 0]) 2 Tryz.underlying53 hi W X _ _ _ _ zs.length rfl rfl rfl rfl y M (H _) ?_)
 intro w1 x E;have d:(madeCells #[Value.int .i64 0,G K 0] (zs.length*2)).toList.length=(z0g zs).length:=by simp[size_madeCells,D]
 have O:Below w.heap.size w w1:=(Below.refl _ _).grown E (H _) (by simp);generalize (madeCells #[Value.int .i64 0,G K 0] (zs.length*2)).toList=ys at x d;rw[←z17 (z0g zs) ys]at x
 go_wp2
 go_loopw[4] (fun i wr=>∃k:Nat,k≤zs.length∧i=G K k∧wr.ownsRow w.heap.size 173 2 (F (some ⟨w.heap.size,0,none⟩) zs.length zs.length) zs.length (z61 (z0g zs) ys (k*2))∧Below w.heap.size w wr) (fun i _=>zs.length-(intOf i).toNat)
 case atStart=>exact⟨0,P _,rfl,by simpa using x,O⟩
 case round=>
  obtain⟨k,hk,rfl,ho,hb⟩:=hrel;by_cases I:k<zs.length
  ·obtain⟨b,aa,rfl,Z,J,L⟩:=(h.below hb).at k I;obtain⟨g0,g1⟩:=z2i zs k I;generalize zs.getD k z0b=z at J L g0 g1
   go_wp2_with fail
   refine(q0Z _ _ _).mono ?_;rintro e w2 ⟨rfl,C⟩;replace ho:=z0c ho C;replace hb:=hb.trans (C.mono hb.size);clear J L C;obtain⟨N,U,T,A⟩:=q1X ho d D I g0 g1;obtain⟨f0,f1⟩:=U;obtain⟨⟨u0,e0⟩,⟨u1,e1⟩⟩:=T;have R:Hid (_∧_):=⟨N,A _ _ hb (H _)⟩
   clear N A g0 g1 ho
   go_wp2
   go_roundw
   case rel=>exact⟨k+1,by omega,by go_num,R.out.1,R.out.2⟩
   case measure=>simp[intOf];omega
  ·go_wp2
   go_ret;have V:k=zs.length:=by omega
   subst V;rw[z2S _ _ _ d D]at ho;exact⟨_,_,rfl,ho,hb⟩
theorem z9e(k:Int)(y:Int)(w:World):
  Calls Q 188 #[.agg #[G K k,G K y],.agg #[G K k,G K y]] w fun e w'=>e=.returned (.bool true)∧Below w.heap.size w w':=by
 have h0:(k !=k)=false:=by simp
 have h1:(y !=y)=false:=by simp
 go_enter func188,ntmps188
 go_wp2
 go_ret;exact⟨rfl,by go_grown⟩
theorem z8c(a a':Option Addr)(cap A:Nat)(zs:List ItemD)(w:World)(h:ItemRow w a zs)(h':ItemRow w a' zs)(hl:zs.length≤1099511627776):
  Calls Q 140 #[F a zs.length cap,F a' zs.length A] w fun e w'=>e=.returned (.bool true)∧Below w.heap.size w w':=by
 go_enter func140,ntmps140
 go_wp2
 go_loopw[5] (fun i wr=>∃k:Nat,k≤zs.length∧i=G K k∧Below w.heap.size w wr) (fun i _=>zs.length-(intOf i).toNat)
 case atStart=>exact⟨0,P _,rfl,Below.refl _ _⟩
 case round=>
  obtain⟨k,hk,rfl,hb⟩:=hrel;by_cases D:k<zs.length
  ·obtain⟨b,M,rfl,L,c,d⟩:=(h.below hb).at k D;obtain⟨b',J,rfl,I,x,y⟩:=(h'.below hb).at k D;generalize zs.getD k z0b=z at c d x y;obtain⟨z0,z1⟩:=z;have k0:=z0a c;have l0:=z0a x;have k1:=z0a d;have l1:=z0a y;clear c d x y;have hW:Below wr.heap.size wr wr.drew:=(Below.refl _ _).drew;have E:Nonempty (Lat wr):=⟨⟨wr,Below.refl _ _⟩⟩
   go_wp2_with fail
   refine z0d (S:=fun w'=>∃u:Lat wr,w'=u.val) (by kernel_rfl) ?_;refine sgr [(0,8)] 2 (by kernel_rfl) ⟨⟨_,hW⟩,rfl⟩ ?_;simp only[pkE];repeat go_big_quiet_step (fail)
   refine wpQuiet_nil ?_;refine cla 8 (some 25) 188 #[.agg #[G K z0,G K z1],.agg #[G K z0,G K z1]] 1 (by kernel_rfl) ?_;refine(z9e _ _ _).mono ?_;rintro e w2 ⟨rfl,C⟩;replace hW:=hW.trans (C.mono hW.size);clear C;refine⟨_,rfl,⟨⟨_,hW⟩,rfl⟩,?_⟩;simp only[Act.put,pjE];refine sgr [(9,1)] 0 (by kernel_rfl) ⟨⟨_,hW⟩,rfl⟩ ?_;simp only[pkE];repeat go_big_quiet_step (fail)
   refine wpQuiet_nil ?_;refine z0h (by kernel_rfl) ?_;replace hb:=hb.trans (hW.mono hb.size);clear k0 l0 k1 l1 hW E
   go_wp2
   go_roundw
   case rel=>exact⟨k+1,by omega,by go_num,hb⟩
   case measure=>simp[intOf];omega
  ·go_wp2
   go_ret;exact⟨rfl,hb⟩
theorem q1Y{w wr:World}{g k:Nat}{v0 v1:Value}(h:w.grownBy wr (some g)):w.grownBy ((wr.setCell ⟨g,k,none⟩ v0).setCell ⟨g,k+1,none⟩ v1) (some g):=by
 have one:∀ (u:World) (j:Nat) (v:Value),w.grownBy u (some g)→w.grownBy (u.setCell ⟨g,j,none⟩ v) (some g):=fun u j v h=>
  ⟨h.os,h.tape,h.output,by simpa[World.setCell]using h.size,fun i hi hne=>by rw[Below.heap_setCell _ _ _ _ (by intro e;apply hne;simp[e])];exact h.block i hi hne⟩
 exact(one _ _ _ (one _ _ _ h))
def z0N(c:Int)(n:Nat):List ItemD:=(List.range n).map fun(i:Nat)=>⟨c+((i*2:Nat):Int),c+((i*2+1:Nat):Int)⟩
theorem z02(c:Int)(n:Nat):(z0N c n).length=n:=by simp[z0N]
theorem z3m(c:Int)(n i:Nat)(h:i<n):(z0N c n).getD i z0b=⟨c+((i*2:Nat):Int),c+((i*2+1:Nat):Int)⟩:=by simp[z0N,List.getD,h]
theorem z7c(base:Nat)(v:Value)(n:Nat)(xs:List Value)(c:Int)(w:World)(h:w.ownsRow base 173 2 v n xs)(hn:n≤1099511627776)(h0:0≤c)(h1:c≤1099511627776):
  Calls Q 61 #[v,G K c] w fun e w'=>e=.returned (G K (c+((n*2:Nat):Int)))∧w'.ownsRow base 173 2 v n (z0g (z0N c n))∧w.grownBy w' v.ownBlock:=by
 rcases h.2 with⟨rfl,rfl⟩|⟨g,cap,L,rfl,hb,hg,r⟩
 ·go_enter func61,ntmps61
  go_wp2
  refine wp_loop_rounds 1 ?_;rw[rounds_succ]
  go_wp2
  go_ret;exact⟨by simp,World.ownsRow_nil _ _ _ _,World.grownBy.refl _ _⟩
 ·clear hg r;have d:=z1g (z0N c n);rw[z02]at d;have I:xs.length=(z0g (z0N c n)).length:=by rw[d];exact h.1
  rw[←z17 (z0g (z0N c n)) xs]at h;go_enter func61,ntmps61
  go_wp2
  go_loopw[1,5] (fun j i wr=>∃k:Nat,k≤n∧j=G K (c+((k*2:Nat):Int))∧i=G K k∧wr.ownsRow base 173 2 (F (some ⟨g,0,none⟩) n cap) n (z61 (z0g (z0N c n)) xs (k*2))∧w.grownBy wr (some g)) (fun _ i _=>n-(intOf i).toNat)
  case atStart=>exact⟨0,P _,by simp,rfl,by simpa using h,World.grownBy.refl _ _⟩
  case round=>
   obtain⟨k,hk,rfl,rfl,ho,z⟩:=hrel;by_cases A:k<n
   ·obtain⟨g0,g1⟩:=z2i (z0N c n) k (by rw[z02];exact A);rw[z3m _ _ _ A]at g0 g1;obtain⟨E,⟨f0,f1⟩,⟨⟨u0,e0⟩,⟨u1,e1⟩⟩,_⟩:=q1X ho I d A g0 g1;have x:=q1Y z (g:=g) (k:=k*2) (v0:=G K (c+((k*2:Nat):Int))) (v1:=G K (c+((k*2+1:Nat):Int)));have R:Hid (_∧_):=⟨E,x⟩
    have C:c+((k*2+1:Nat):Int)=c+((k*2:Nat):Int)+1:=by omega
    have D:Hid (c+(((k+1)*2:Nat):Int)=c+((k*2:Nat):Int)+1+1):=show _=_ by omega
    rw[C]at R;clear E x g0 g1 ho z C;generalize hy:((k*2:Nat):Int)=y at R D;have N:y≤2199023255552:=by omega
    have M:0≤y:=by omega
    clear hy
    go_wp2
    go_roundw
    case rel=>exact⟨k+1,by omega,by rw[D.out],by go_num,R.out.1,R.out.2⟩
    case measure=>simp[intOf];omega
   ·go_wp2
    go_ret;have J:k=n:=by omega
    subst J;rw[z2S _ _ _ I d]at ho;exact⟨rfl,ho,z⟩
theorem z6h(a:Option Addr)(n cap:Nat)(c:Int)(w:World)(h:ItemRow w a (z0N c n))(hn:n≤1099511627776)(h0:0≤c)(h1:c≤1099511627776):
  Calls Q 105 #[F a n cap,G K c] w fun e w'=>e=.returned (G K (c+((n*2:Nat):Int)))∧w'=w:=by
 go_enter func105,ntmps105
 go_wp2
 go_loop[1,5] (fun j i=>∃k:Nat,k≤n∧j=G K (c+((k*2:Nat):Int))∧i=G K k) (fun _ i=>n-(intOf i).toNat)
 case atStart=>exact⟨0,P _,by simp,rfl⟩
 case round=>
  obtain⟨k,hk,rfl,rfl⟩:=hrel;by_cases C:k<n
  ·obtain⟨b,L,rfl,E,x,d⟩:=h.at k (by rw[z02];exact C);rw[z3m _ _ _ C]at x d;have z:c+((k*2+1:Nat):Int)=c+((k*2:Nat):Int)+1:=by omega
   have A:Hid (c+(((k+1)*2:Nat):Int)=c+((k*2:Nat):Int)+1+1):=show _=_ by omega
   dsimp only at x d;rw[z]at d;clear z;generalize hy:((k*2:Nat):Int)=y at x d A;have J:y≤2199023255552:=by omega
   have I:0≤y:=by omega
   clear hy
   go_wp2
   go_round
   case rel=>exact⟨k+1,by omega,by rw[A.out],by go_num⟩
   case measure=>simp[intOf];omega
  ·go_wp2
   go_ret;have D:k=n:=by omega
   subst D;exact⟨rfl,rfl⟩
theorem z9f(a:Option Addr)(n cap:Nat)(c:Int)(w:World)(hn:n≤9223372036854775807)(h0:0≤c)(h1:c≤1099511627776):
  Calls Q 109 #[F a n cap,G K c] w fun e w'=>e=.returned (G K (if c-n<0 then -1 else c-n))∧w'=w:=by
 by_cases h:c-n<0
 ·rw[if_pos h];go_enter func109,ntmps109
  go_wp2
  go_ret;exact⟨rfl,rfl⟩
 ·rw[if_neg h];go_enter func109,ntmps109
  go_wp2
  go_ret;exact⟨rfl,rfl⟩
structure UndoD where
 key:Int
 was:Bool
 val:Int
deriving DecidableEq
def z0j:UndoD:=⟨0,false,0⟩
def UndoD.cells(x:UndoD):List Value:=[G K x.key,.bool x.was,G K x.val]
def z0n(xs:List UndoD):List Value:=xs.flatMap UndoD.cells
def UndoRow(w:World)(a:Option Addr)(xs:List UndoD):Prop:=Lies w a (z0n xs)
theorem z1K(xs:List UndoD):(z0n xs).length=xs.length*3:=by
 induction xs with
 |nil=>rfl
 |cons x xs ih=>simp only[z0n,List.flatMap_cons,List.length_append,List.length_cons]at ih⊢;rw[ih];simp[UndoD.cells];omega
theorem z2k(xs:List UndoD):∀ (i:Nat),i<xs.length→(z0n xs)[i*3]?=some (G K (xs.getD i z0j).key)∧(z0n xs)[i*3+1]?=some (.bool (xs.getD i z0j).was)∧(z0n xs)[i*3+2]?=some (G K (xs.getD i z0j).val):=by
 induction xs with
 |nil=>intro i h;simp at h
 |cons x xs ih=>
  intro i h
  cases i with
  |zero=>simp[z0n,UndoD.cells]
  |succ i=>
   have e:z0n (x::xs)=x.cells++z0n xs:=rfl;have hl:x.cells.length=3:=rfl;obtain⟨h1,h2,h3⟩:=ih i (by simpa using h);rw[e,List.getElem?_append_right (by omega),List.getElem?_append_right (by omega),List.getElem?_append_right (by omega),hl,show(i+1)*3-3=i*3 by omega,show(i+1)*3+1-3=i*3+1 by omega,show(i+1)*3+2-3=i*3+2 by omega];simpa[List.getD]using⟨h1,h2,h3⟩
theorem UndoRow.below{w w':World}{a:Option Addr}{xs:List UndoD}(h:UndoRow w a xs)(hb:Below w.heap.size w w'):UndoRow w' a xs:=Lies.below h hb
theorem UndoRow.at{w:World}{a:Option Addr}{xs:List UndoD}(h:UndoRow w a xs)(i:Nat)(hi:i<xs.length):
  ∃b off,a=some ⟨b,off,none⟩∧b<w.heap.size∧w.cell? ⟨b,off+i*3,none⟩=some (G K (xs.getD i z0j).key)∧w.cell? ⟨b,off+i*3+1,none⟩=some (.bool (xs.getD i z0j).was)∧w.cell? ⟨b,off+i*3+2,none⟩=some (G K (xs.getD i z0j).val):=by
 obtain⟨h1,h2,h3⟩:=z2k xs i hi;rcases h with h|⟨b,off,ha,hlt,hc⟩
 ·have:=z1K xs;rw[h]at this;simp at this;omega
 ·exact⟨b,off,ha,hlt,hc _ _ h1,by rw[Nat.add_assoc];exact hc _ _ h2,by rw[Nat.add_assoc];exact hc _ _ h3⟩
theorem z5c:(Q.info? 223).map (fun i=>(i.zero,i.size,i.bytes))=some (some (.agg #[G K 0,.bool false,G K 0]),3,24):=by kernel_rfl
theorem q00(k:Int)(y:Bool)(v:Int)(w:World):
  Calls Q 200 #[.agg #[G K k,.bool y,G K v]] w fun e w'=>e=.returned (.agg #[G K k,.bool y,G K v])∧Below w.heap.size w w':=by
 go_enter func200,ntmps200
 go_wp2
 exact bodyPost_ret (v:=.agg #[G K k,.bool y,G K v]) (by simp[results,results200,go_sem]) rfl ⟨rfl,by go_grown⟩
theorem q1Z{w:World}{base e g cap n k:Nat}{zs ys:List Value}{v0 v1 v2:Value}(ho:w.ownsRow base e 3 (F (some ⟨g,0,none⟩) n cap) n (z61 zs ys (k*3)))
  (hl:ys.length=zs.length) (hz:zs.length=n*3) (hk:k<n) (g0:zs[k*3]?=some v0) (g1:zs[k*3+1]?=some v1) (g2:zs[k*3+2]?=some v2):
  (((w.setCell ⟨g,k*3,none⟩ v0).setCell ⟨g,k*3+1,none⟩ v1).setCell ⟨g,k*3+2,none⟩ v2).ownsRow base e 3 (F (some ⟨g,0,none⟩) n cap) n (z61 zs ys ((k+1)*3))∧
  (w.frozen? ⟨g,k*3,none⟩=false∧w.frozen? ⟨g,k*3+1,none⟩=false∧w.frozen? ⟨g,k*3+2,none⟩=false)∧
  ((∃u,w.cell? ⟨g,k*3,none⟩=some u)∧(∃u,w.cell? ⟨g,k*3+1,none⟩=some u)∧(∃u,w.cell? ⟨g,k*3+2,none⟩=some u))∧
  (∀B a,Below B a w→B≤g→Below B a (((w.setCell ⟨g,k*3,none⟩ v0).setCell ⟨g,k*3+1,none⟩ v1).setCell ⟨g,k*3+2,none⟩ v2)):=by
 have hc:∀j,j<n*3→∃u,w.cell? ⟨g,j,none⟩=some u:=fun j hj=>by
  rw[ho.cellAt j hj];exact⟨_,List.getElem?_eq_getElem (by rw[ho.1];exact hj)⟩
 have s0:=(ho.stored (k*3) v0).1;rw[z1D _ _ _ _ hl g0]at s0;have s1:=(s0.stored (k*3+1) v1).1;rw[z1D _ _ _ _ hl g1]at s1;have s2:=(s1.stored (k*3+2) v2).1;rw[z1D _ _ _ _ hl g2,show k*3+2+1=(k+1)*3 by omega]at s2;exact⟨s2,⟨ho.frozenAt _,ho.frozenAt _,ho.frozenAt _⟩,⟨hc _ (by omega),hc _ (by omega),hc _ (by omega)⟩,fun B a h hB=>(((h.setCell hB _).setCell hB _).setCell hB _)⟩
theorem z9g(a:Option Addr)(cap:Nat)(zs:List UndoD)(w:World)(h:UndoRow w a zs)(hl:zs.length≤1048576):
  Calls Q 166 #[F a zs.length cap] w fun e w'=>∃g c,e=.returned (F (some ⟨g,0,none⟩) zs.length c)∧
   w'.ownsRow w.heap.size 223 3 (F (some ⟨g,0,none⟩) zs.length c) zs.length (z0n zs)∧Below w.heap.size w w':=by
 obtain⟨i0,hi,X,Y,Z⟩:=info_parts z5c;have y:i0.bytes*zs.length≤281474976710656:=by rw[Z];omega
 have N:zs.length≤maxLen:=by unfold maxLen;omega
 have D:=z1K zs;go_enter func166,ntmps166
 go_wp2_with (at_make;refine wpList_make_full _ rfl _ _ 175 rfl w.heap.size 223 i0 (.agg #[G K 0,.bool false,G K 0]) 3 Tryz.underlying175 hi X Y _ _ _ _ zs.length rfl rfl rfl rfl y N (H _) ?_)
 intro w1 x E;have d:(madeCells #[Value.int .i64 0,.bool false,G K 0] (zs.length*3)).toList.length=(z0n zs).length:=by simp[size_madeCells,D]
 have T:Below w.heap.size w w1:=(Below.refl _ _).grown E (H _) (by simp);generalize (madeCells #[Value.int .i64 0,.bool false,G K 0] (zs.length*3)).toList=ys at x d;rw[←z17 (z0n zs) ys]at x
 go_wp2
 go_loopw[4] (fun i wr=>∃k:Nat,k≤zs.length∧i=G K k∧wr.ownsRow w.heap.size 223 3 (F (some ⟨w.heap.size,0,none⟩) zs.length zs.length) zs.length (z61 (z0n zs) ys (k*3))∧Below w.heap.size w wr) (fun i _=>zs.length-(intOf i).toNat)
 case atStart=>exact⟨0,P _,rfl,by simpa using x,T⟩
 case round=>
  obtain⟨k,hk,rfl,ho,hb⟩:=hrel;by_cases I:k<zs.length
  ·obtain⟨b,ab,rfl,aa,J,L,M⟩:=(h.below hb).at k I;obtain⟨g0,g1,g2⟩:=z2k zs k I;generalize zs.getD k z0j=z at J L M g0 g1 g2
   go_wp2_with fail
   refine(q00 _ _ _ _).mono ?_;rintro e w2 ⟨rfl,C⟩;replace ho:=z0c ho C;replace hb:=hb.trans (C.mono hb.size);clear J L M C;obtain⟨O,V,U,A⟩:=q1Z ho d D I g0 g1 g2;obtain⟨f0,f1,f2⟩:=V;obtain⟨⟨u0,e0⟩,⟨u1,e1⟩,⟨u2,e2⟩⟩:=U;have R:Hid (_∧_):=⟨O,A _ _ hb (H _)⟩
   clear O A g0 g1 g2 ho
   go_wp2
   go_roundw
   case rel=>exact⟨k+1,by omega,by go_num,R.out.1,R.out.2⟩
   case measure=>simp[intOf];omega
  ·go_wp2
   go_ret;have W:k=zs.length:=by omega
   subst W;rw[z2S _ _ _ d D]at ho;exact⟨_,_,rfl,ho,hb⟩
theorem z9h(k:Int)(y:Bool)(v:Int)(w:World):
  Calls Q 220 #[.agg #[G K k,.bool y,G K v],.agg #[G K k,.bool y,G K v]] w fun e w'=>e=.returned (.bool true)∧Below w.heap.size w w':=by
 have h0:(k !=k)=false:=by simp
 have h1:(y !=y)=false:=by simp
 have h2:(v !=v)=false:=by simp
 go_enter func220,ntmps220
 go_wp2
 go_ret;exact⟨rfl,by go_grown⟩
theorem z8d(a a':Option Addr)(cap D:Nat)(zs:List UndoD)(w:World)(h:UndoRow w a zs)(h':UndoRow w a' zs)(hl:zs.length≤1099511627776):
  Calls Q 189 #[F a zs.length cap,F a' zs.length D] w fun e w'=>e=.returned (.bool true)∧Below w.heap.size w w':=by
 go_enter func189,ntmps189
 go_wp2
 go_loopw[5] (fun i wr=>∃k:Nat,k≤zs.length∧i=G K k∧Below w.heap.size w wr) (fun i _=>zs.length-(intOf i).toNat)
 case atStart=>exact⟨0,P _,rfl,Below.refl _ _⟩
 case round=>
  obtain⟨k,hk,rfl,hb⟩:=hrel;by_cases I:k<zs.length
  ·obtain⟨b,O,rfl,N,c,d,x⟩:=(h.below hb).at k I;obtain⟨b',M,rfl,L,y,A,C⟩:=(h'.below hb).at k I;generalize zs.getD k z0j=z at c d x y A C;obtain⟨z0,z1,z2⟩:=z;have k0:=z0a c;have l0:=z0a y;have k1:=z0a d;have l1:=z0a A;have k2:=z0a x;have l2:=z0a C;clear c d x y A C;have hW:Below wr.heap.size wr wr.drew:=(Below.refl _ _).drew;have J:Nonempty (Lat wr):=⟨⟨wr,Below.refl _ _⟩⟩
   go_wp2_with fail
   refine z0d (S:=fun w'=>∃u:Lat wr,w'=u.val) (by kernel_rfl) ?_;refine sgr [(0,8)] 2 (by kernel_rfl) ⟨⟨_,hW⟩,rfl⟩ ?_;simp only[pkE];repeat go_big_quiet_step (fail)
   refine wpQuiet_nil ?_;refine cla 8 (some 25) 220 #[.agg #[G K z0,.bool z1,G K z2],.agg #[G K z0,.bool z1,G K z2]] 1 (by kernel_rfl) ?_;refine(z9h _ _ _ _).mono ?_;rintro e w2 ⟨rfl,E⟩;replace hW:=hW.trans (E.mono hW.size);clear E;refine⟨_,rfl,⟨⟨_,hW⟩,rfl⟩,?_⟩;simp only[Act.put,pjE];refine sgr [(9,1)] 0 (by kernel_rfl) ⟨⟨_,hW⟩,rfl⟩ ?_;simp only[pkE];repeat go_big_quiet_step (fail)
   refine wpQuiet_nil ?_;refine z0h (by kernel_rfl) ?_;replace hb:=hb.trans (hW.mono hb.size);clear k0 l0 k1 l1 k2 l2 hW J
   go_wp2
   go_roundw
   case rel=>exact⟨k+1,by omega,by go_num,hb⟩
   case measure=>simp[intOf];omega
  ·go_wp2
   go_ret;exact⟨rfl,hb⟩
theorem q10{w wr:World}{g k:Nat}{v0 v1 v2:Value}(h:w.grownBy wr (some g)):w.grownBy (((wr.setCell ⟨g,k,none⟩ v0).setCell ⟨g,k+1,none⟩ v1).setCell ⟨g,k+2,none⟩ v2) (some g):=by
 have one:∀ (u:World) (j:Nat) (v:Value),w.grownBy u (some g)→w.grownBy (u.setCell ⟨g,j,none⟩ v) (some g):=fun u j v h=>
  ⟨h.os,h.tape,h.output,by simpa[World.setCell]using h.size,fun i hi hne=>by rw[Below.heap_setCell _ _ _ _ (by intro e;apply hne;simp[e])];exact h.block i hi hne⟩
 exact(one _ _ _ (one _ _ _ (one _ _ _ h)))
def z0V(c:Int)(n:Nat):List UndoD:=(List.range n).map fun(i:Nat)=>⟨c+((i*3:Nat):Int),((c+((i*3+1:Nat):Int)) % 3==0),c+((i*3+2:Nat):Int)⟩
theorem z03(c:Int)(n:Nat):(z0V c n).length=n:=by simp[z0V]
theorem z3n(c:Int)(n i:Nat)(h:i<n):(z0V c n).getD i z0j=⟨c+((i*3:Nat):Int),((c+((i*3+1:Nat):Int)) % 3==0),c+((i*3+2:Nat):Int)⟩:=by simp[z0V,List.getD,h]
theorem z7d(base:Nat)(v:Value)(n:Nat)(xs:List Value)(c:Int)(w:World)(h:w.ownsRow base 223 3 v n xs)(hn:n≤1099511627776)(h0:0≤c)(h1:c≤1099511627776):
  Calls Q 101 #[v,G K c] w fun e w'=>e=.returned (G K (c+((n*3:Nat):Int)))∧w'.ownsRow base 223 3 v n (z0n (z0V c n))∧w.grownBy w' v.ownBlock:=by
 rcases h.2 with⟨rfl,rfl⟩|⟨g,cap,M,rfl,hb,hg,r⟩
 ·go_enter func101,ntmps101
  go_wp2
  refine wp_loop_rounds 1 ?_;rw[rounds_succ]
  go_wp2
  go_ret;exact⟨by simp,World.ownsRow_nil _ _ _ _,World.grownBy.refl _ _⟩
 ·clear hg r;have d:=z1K (z0V c n);rw[z03]at d;have J:xs.length=(z0n (z0V c n)).length:=by rw[d];exact h.1
  rw[←z17 (z0n (z0V c n)) xs]at h;go_enter func101,ntmps101
  go_wp2
  go_loopw[1,5] (fun j i wr=>∃k:Nat,k≤n∧j=G K (c+((k*3:Nat):Int))∧i=G K k∧wr.ownsRow base 223 3 (F (some ⟨g,0,none⟩) n cap) n (z61 (z0n (z0V c n)) xs (k*3))∧w.grownBy wr (some g)) (fun _ i _=>n-(intOf i).toNat)
  case atStart=>exact⟨0,P _,by simp,rfl,by simpa using h,World.grownBy.refl _ _⟩
  case round=>
   obtain⟨k,hk,rfl,rfl,ho,z⟩:=hrel;by_cases A:k<n
   ·obtain⟨g0,g1,g2⟩:=z2k (z0V c n) k (by rw[z03];exact A);rw[z3n _ _ _ A]at g0 g1 g2;obtain⟨I,⟨f0,f1,f2⟩,⟨⟨u0,e0⟩,⟨u1,e1⟩,⟨u2,e2⟩⟩,_⟩:=q1Z ho J d A g0 g1 g2;have x:=q10 z (g:=g) (k:=k*3) (v0:=G K (c+((k*3:Nat):Int))) (v1:=.bool (((c+((k*3+1:Nat):Int)) % 3==0))) (v2:=G K (c+((k*3+2:Nat):Int)));have R:Hid (_∧_):=⟨I,x⟩
    have C:c+((k*3+1:Nat):Int)=c+((k*3:Nat):Int)+1:=by omega
    have D:c+((k*3+2:Nat):Int)=c+((k*3:Nat):Int)+1+1:=by omega
    have E:Hid (c+(((k+1)*3:Nat):Int)=c+((k*3:Nat):Int)+1+1+1):=show _=_ by omega
    rw[C,D]at R;clear I x g0 g1 g2 ho z C D;generalize hy:((k*3:Nat):Int)=y at R E;have O:y≤3298534883328:=by omega
    have N:0≤y:=by omega
    clear hy
    go_wp2
    go_roundw
    case rel=>exact⟨k+1,by omega,by rw[E.out],by go_num,R.out.1,R.out.2⟩
    case measure=>simp[intOf];omega
   ·go_wp2
    go_ret;have L:k=n:=by omega
    subst L;rw[z2S _ _ _ J d]at ho;exact⟨rfl,ho,z⟩
theorem z6i(a:Option Addr)(n cap:Nat)(c:Int)(w:World)(h:UndoRow w a (z0V c n))(hn:n≤1099511627776)(h0:0≤c)(h1:c≤1099511627776):
  Calls Q 151 #[F a n cap,G K c] w fun e w'=>e=.returned (G K (c+((n*3:Nat):Int)))∧w'=w:=by
 go_enter func151,ntmps151
 go_wp2
 go_loop[1,5] (fun j i=>∃k:Nat,k≤n∧j=G K (c+((k*3:Nat):Int))∧i=G K k) (fun _ i=>n-(intOf i).toNat)
 case atStart=>exact⟨0,P _,by simp,rfl⟩
 case round=>
  obtain⟨k,hk,rfl,rfl⟩:=hrel;by_cases E:k<n
  ·obtain⟨b,N,rfl,J,z,d,x⟩:=h.at k (by rw[z03];exact E);rw[z3n _ _ _ E]at z d x;have A:c+((k*3+1:Nat):Int)=c+((k*3:Nat):Int)+1:=by omega
   have C:c+((k*3+2:Nat):Int)=c+((k*3:Nat):Int)+1+1:=by omega
   have D:Hid (c+(((k+1)*3:Nat):Int)=c+((k*3:Nat):Int)+1+1+1):=show _=_ by omega
   dsimp only at z d x;rw[A]at d;rw[C]at x;clear A C;generalize hy:((k*3:Nat):Int)=y at z d x D;have M:y≤3298534883328:=by omega
   have L:0≤y:=by omega
   clear hy
   go_wp2
   go_round
   case rel=>exact⟨k+1,by omega,by rw[D.out],by go_num⟩
   case measure=>simp[intOf];omega
  ·go_wp2
   go_ret;have I:k=n:=by omega
   subst I;exact⟨rfl,rfl⟩
theorem z9i(a:Option Addr)(n cap:Nat)(c:Int)(w:World)(hn:n≤9223372036854775807)(h0:0≤c)(h1:c≤1099511627776):
  Calls Q 153 #[F a n cap,G K c] w fun e w'=>e=.returned (G K (if c-n<0 then -1 else c-n))∧w'=w:=by
 by_cases h:c-n<0
 ·rw[if_pos h];go_enter func153,ntmps153
  go_wp2
  go_ret;exact⟨rfl,rfl⟩
 ·rw[if_neg h];go_enter func153,ntmps153
  go_wp2
  go_ret;exact⟨rfl,rfl⟩
def itemK:Kind ItemD where
 ty:=173
 size:=2
 cells:=ItemD.cells
 own _ _:=True
 rd _ _:=True
 foot _:=[]
 len _:=rfl
 own_rd _:=trivial
 own_out _ _ _:=trivial
 own_lt _ k hk:=by simp at hk
 rd_below _ _:=trivial
theorem z05{w:World}{a:Option Addr}{n cap:Nat}{zs:List ItemD}(h:itemK.At w (F a n cap) zs):n=zs.length∧ItemRow w a zs:=by
 obtain⟨a',c,e,hl,_⟩:=h;simp only[Value.slice.injEq]at e;obtain⟨rfl,rfl,_⟩:=e;exact⟨rfl,hl⟩
theorem z0q(v:Value)(zs:List ItemD):itemK.fp v zs=blk v:=by
 have:zs.flatMap itemK.foot=[]:=by simp[show∀z,itemK.foot z=[]from fun _=>rfl]
 simp[Kind.fp,this]
def undoK:Kind UndoD where
 ty:=223
 size:=3
 cells:=UndoD.cells
 own _ _:=True
 rd _ _:=True
 foot _:=[]
 len _:=rfl
 own_rd _:=trivial
 own_out _ _ _:=trivial
 own_lt _ k hk:=by simp at hk
 rd_below _ _:=trivial
theorem z1Y{w:World}{a:Option Addr}{n cap:Nat}{zs:List UndoD}(h:undoK.At w (F a n cap) zs):n=zs.length∧UndoRow w a zs:=by
 obtain⟨a',c,e,hl,_⟩:=h;simp only[Value.slice.injEq]at e;obtain⟨rfl,rfl,_⟩:=e;exact⟨rfl,hl⟩
theorem z0K(v:Value)(zs:List UndoD):undoK.fp v zs=blk v:=by
 have:zs.flatMap undoK.foot=[]:=by simp[show∀z,undoK.foot z=[]from fun _=>rfl]
 simp[Kind.fp,this]
theorem z8e(v:Value)(zs:List ItemD)(c:Int)(w:World)(h:itemK.At w v zs)(hn:zs.length≤9223372036854775807)(h0:0≤c)(h1:c≤1048576):
  Calls Q 109 #[v,G K c] w fun e w'=>∃r:Int,e=.returned (G K r)∧(¬r<0→(zs.length:Int)+r=c)∧Below w.heap.size w w':=by
 obtain⟨a,cap,rfl⟩:=h.shape;refine(z9f a zs.length cap c w hn h0 (by omega)).mono ?_;rintro e w' ⟨rfl,rfl⟩;refine⟨_,rfl,?_,Below.refl _ _⟩;split<;>omega
theorem z8f(v:Value)(zs:List ItemD)(w:World)(h:itemK.At w v zs)(hl:zs.length≤1048576):
  Calls Q 124 #[v] w fun e w'=>∃v',e=.returned v'∧itemK.Own w' v' zs∧(itemK.fp v' zs).Nodup∧(∀k∈itemK.fp v' zs,w.heap.size≤k)∧Below w.heap.size w w':=by
 obtain⟨a,cap,rfl⟩:=h.shape;refine(z9d a cap zs w (z05 h).2 hl).mono ?_;rintro e w' ⟨g,c,rfl,ho,hb⟩;obtain⟨o,hk⟩:=z0y ho;refine⟨_,rfl,⟨o,fun _ _=>trivial⟩,?_,?_,hb⟩
 ·rw[z0q];exact z0t _
 ·rw[z0q];exact hk
theorem z8g(v v':Value)(zs:List ItemD)(w:World)(h:itemK.At w v zs)(h':itemK.At w v' zs)(hl:zs.length≤1048576):
  Calls Q 140 #[v,v'] w fun e w'=>e=.returned (.bool true)∧Below w.heap.size w w':=by
 obtain⟨a,cap,rfl⟩:=h.shape;obtain⟨a',cap',rfl⟩:=h'.shape;exact z8c a a' cap cap' zs w (z05 h).2 (z05 h').2 (by omega)
def z1d(c:Int)(zs:List ItemD):List ItemD:=z0N c zs.length
theorem z1z(c:Int)(v:Value)(zs:List ItemD):itemK.fp v (z1d c zs)=itemK.fp v zs:=by rw[z0q,z0q]
theorem z5t(v:Value)(zs:List ItemD)(c:Int)(w:World)(h:itemK.Own w v zs)(hl:zs.length≤1048576)(h0:0≤c)(h1:c≤1099511627776):
  Calls Q 61 #[v,G K c] w fun e w'=>e=.returned (G K (c+((zs.length*2:Nat):Int)))∧itemK.Own w' v (z1d c zs)∧Out (itemK.fp v zs) w w':=by
 refine(z7c 0 v zs.length _ c w h.1 (by omega) h0 h1).mono ?_;rintro e w' ⟨rfl,ho,hg⟩;refine⟨rfl,⟨?_,fun _ _=>trivial⟩,?_⟩
 ·have e:(z1d c zs).length=zs.length:=by simp[z1d,z02]
  rw[e];exact ho
 ·rw[z0q];exact Out.of_grown hg
theorem z5u(v:Value)(zs:List ItemD)(c:Int)(w:World)(h:itemK.At w v (z1d c zs))(hl:zs.length≤1048576)(h0:0≤c)(h1:c≤1099511627776):
  Calls Q 105 #[v,G K c] w fun e w'=>e=.returned (G K (c+((zs.length*2:Nat):Int)))∧Below w.heap.size w w':=by
 obtain⟨a,cap,rfl⟩:=h.shape;have e:(z1d c zs).length=zs.length:=by simp[z1d,z02]
 have hA:=(z05 h).2;rw[e];refine(z6h a zs.length cap c w hA (by omega) h0 h1).mono ?_;rintro e w' ⟨rfl,hw⟩;exact⟨rfl,by subst hw;exact Below.refl _ _⟩
theorem q11(v:Value)(zs:List UndoD)(c:Int)(w:World)(h:undoK.At w v zs)(hn:zs.length≤9223372036854775807)(h0:0≤c)(h1:c≤1048576):
  Calls Q 153 #[v,G K c] w fun e w'=>∃r:Int,e=.returned (G K r)∧(¬r<0→(zs.length:Int)+r=c)∧Below w.heap.size w w':=by
 obtain⟨a,cap,rfl⟩:=h.shape;refine(z9i a zs.length cap c w hn h0 (by omega)).mono ?_;rintro e w' ⟨rfl,rfl⟩;refine⟨_,rfl,?_,Below.refl _ _⟩;split<;>omega
theorem q12(v:Value)(zs:List UndoD)(w:World)(h:undoK.At w v zs)(hl:zs.length≤1048576):
  Calls Q 166 #[v] w fun e w'=>∃v',e=.returned v'∧undoK.Own w' v' zs∧(undoK.fp v' zs).Nodup∧(∀k∈undoK.fp v' zs,w.heap.size≤k)∧Below w.heap.size w w':=by
 obtain⟨a,cap,rfl⟩:=h.shape;refine(z9g a cap zs w (z1Y h).2 hl).mono ?_;rintro e w' ⟨g,c,rfl,ho,hb⟩;obtain⟨o,hk⟩:=z0y ho;refine⟨_,rfl,⟨o,fun _ _=>trivial⟩,?_,?_,hb⟩
 ·rw[z0K];exact z0t _
 ·rw[z0K];exact hk
theorem q13(v v':Value)(zs:List UndoD)(w:World)(h:undoK.At w v zs)(h':undoK.At w v' zs)(hl:zs.length≤1048576):
  Calls Q 189 #[v,v'] w fun e w'=>e=.returned (.bool true)∧Below w.heap.size w w':=by
 obtain⟨a,cap,rfl⟩:=h.shape;obtain⟨a',cap',rfl⟩:=h'.shape;exact z8d a a' cap cap' zs w (z1Y h).2 (z1Y h').2 (by omega)
def z14(c:Int)(zs:List UndoD):List UndoD:=z0V c zs.length
theorem z6G(c:Int)(v:Value)(zs:List UndoD):undoK.fp v (z14 c zs)=undoK.fp v zs:=by rw[z0K,z0K]
theorem z9j(v:Value)(zs:List UndoD)(c:Int)(w:World)(h:undoK.Own w v zs)(hl:zs.length≤1048576)(h0:0≤c)(h1:c≤1099511627776):
  Calls Q 101 #[v,G K c] w fun e w'=>e=.returned (G K (c+((zs.length*3:Nat):Int)))∧undoK.Own w' v (z14 c zs)∧Out (undoK.fp v zs) w w':=by
 refine(z7d 0 v zs.length _ c w h.1 (by omega) h0 h1).mono ?_;rintro e w' ⟨rfl,ho,hg⟩;refine⟨rfl,⟨?_,fun _ _=>trivial⟩,?_⟩
 ·have e:(z14 c zs).length=zs.length:=by simp[z14,z03]
  rw[e];exact ho
 ·rw[z0K];exact Out.of_grown hg
theorem z9k(v:Value)(zs:List UndoD)(c:Int)(w:World)(h:undoK.At w v (z14 c zs))(hl:zs.length≤1048576)(h0:0≤c)(h1:c≤1099511627776):
  Calls Q 151 #[v,G K c] w fun e w'=>e=.returned (G K (c+((zs.length*3:Nat):Int)))∧Below w.heap.size w w':=by
 obtain⟨a,cap,rfl⟩:=h.shape;have e:(z14 c zs).length=zs.length:=by simp[z14,z03]
 have hA:=(z1Y h).2;rw[e];refine(z6i a zs.length cap c w hA (by omega) h0 h1).mono ?_;rintro e w' ⟨rfl,hw⟩;exact⟨rfl,by subst hw;exact Below.refl _ _⟩
structure USQ where
 va:Value
 us:List UndoD
def ussK:Kind USQ where
 ty:=175
 size:=1
 cells p:=[p.va]
 own w p:=undoK.Own w p.va p.us
 rd w p:=undoK.At w p.va p.us
 foot p:=undoK.fp p.va p.us
 len _:=rfl
 own_rd h:=h.at
 own_out h ho hd:=h.out ho hd
 own_lt h:=h.lt
 rd_below h hb:=h.below hb
def USQ.e(p:USQ):List UndoD:=p.us
def USQ.n(p:USQ):Nat:=p.us.length
def USQ.wf(p:USQ):Prop:=p.us.length≤9223372036854775807
theorem z2T:(Q.info? 175).map (fun i=>(i.zero,i.size,i.bytes))=some (some (F none 0 0),1,24):=by kernel_rfl
theorem q5W(p:USQ)(c:Int)(w:World)(h:ussK.rd w p)(hn:USQ.wf p)(h0:0≤c)(h1:c≤1048576):
  Calls Q 153 #[p.va,G K c] w fun e w'=>∃r:Int,e=.returned (G K r)∧(¬r<0→(USQ.n p:Int)+r=c)∧Below w.heap.size w w':=q11 p.va p.us c w h hn h0 h1
theorem q5X(p p':USQ)(w:World)(h:ussK.rd w p)(h':ussK.rd w p')(he:p.e=p'.e)(hl:USQ.n p≤1048576):
  Calls Q 189 #[p.va,p'.va] w fun e w'=>e=.returned (.bool true)∧Below w.heap.size w w':=by
 obtain⟨va,us⟩:=p;obtain⟨va',us'⟩:=p';have he:us=us':=he;subst he;exact q13 va va' us w h h' hl
theorem q5Y(p:USQ)(w:World)(h:ussK.rd w p)(hl:USQ.n p≤1048576):
  Calls Q 166 #[p.va] w fun e w'=>∃p':USQ,e=.returned p'.va∧p'.e=p.e∧ussK.own w' p'∧(ussK.foot p').Nodup∧(∀k∈ussK.foot p',w.heap.size≤k)∧Below w.heap.size w w':=by
 refine(q12 p.va p.us w h hl).mono ?_;rintro e w' ⟨v',rfl,ho,hn,hg,hb⟩;exact⟨⟨v',p.us⟩,rfl,rfl,ho,hn,hg,hb⟩
theorem q40(v:Value)(ps:List USQ)(c:Int)(w:World)(h:ussK.At w v ps)(hn:ps.length≤9223372036854775807)(J:∀p∈ps,USQ.wf p)(h0:0≤c)(h1:c≤1048576):
  Calls Q 110 #[v,G K c] w fun e w'=>∃r:Int,e=.returned (G K r)∧(¬r<0→((ps.length+nmL USQ.n ps:Nat):Int)+r=c)∧Below w.heap.size w w':=by
 obtain⟨a,cap,rfl⟩:=h.shape;by_cases U:c-ps.length<0
 ·go_enter func110,ntmps110
  go_wp2
  go_ret;exact⟨_,rfl,fun h=>by omega,Below.refl _ _⟩
 ·go_enter func110,ntmps110
  go_wp2
  go_loopw[1,5] (fun l i wr=>∃ (k:Nat) (x:Int),k≤ps.length∧i=G K k∧l=G K x∧0≤x∧x≤1048576∧Hid (ps.length+nmL USQ.n (ps.take k)+x=c)∧Below w.heap.size w wr) (fun _ i _=>ps.length-(intOf i).toNat)
  case atStart=>exact⟨0,c-ps.length,P _,rfl,by go_num,by omega,by omega,show _=_ by simp[nmL];omega,Below.refl _ _⟩
  case round=>
   obtain⟨k,x,hk,rfl,rfl,N,O,HS,hb⟩:=hrel;by_cases d:k<ps.length
   ·obtain⟨b,T,rfl,W,hc,M⟩:=(h.below hb).cell (by decide) k d;have C:∀j x,(ussK.cells ps[k])[j]?=some x→wr.cell? ⟨b,T+k+j,none⟩=some x:=fun j x hx=>by have:=hc j x hx;rwa [show k*ussK.size=k from Nat.mul_one k]at this
    have c0:=C 0 (ps[k].va) rfl;have hs:=z0S USQ.n ps k d;have HN:=J _ (List.getElem_mem d);have z:Hid (∀y:Int,(USQ.n ps[k]:Int)+y=x→ps.length+nmL USQ.n (ps.take (k+1))+y=c):=by
     intro y hy;have:=HS.out;omega
    clear HS hs hc C;generalize ps[k]=p at*;have E:=q5W p x wr M HN N O;generalize USQ.n p=m at*;rw[Nat.add_zero]at c0
    go_wp2_with fail
    refine E.mono ?_;rintro e w2 ⟨r,rfl,hr,A⟩;replace hb:=hb.trans (A.mono hb.size);clear A E c0;by_cases V:r<0
    ·go_wp2
     go_ret;exact⟨_,rfl,fun h=>by omega,hb⟩
    ·have D:=hr (by omega);have HR:Hid (ps.length+nmL USQ.n (ps.take (k+1))+r=c):=z.out r D;have L:r≤1048576:=by omega
     clear z hr D
     go_wp2
     go_roundw
     case rel=>exact⟨k+1,r,by omega,by go_num,rfl,by omega,L,HR.out,hb⟩
     case measure=>simp[intOf];omega
   ·have I:k=ps.length:=by omega
    subst I;rw[List.take_length]at HS
    go_wp2
    go_ret;exact⟨_,rfl,fun _=>by have:=HS.out;omega,hb⟩
theorem q41(v v':Value)(ps qs:List USQ)(w:World)(h:ussK.At w v ps)(h':ussK.At w v' qs)(he:ps.map USQ.e=qs.map USQ.e)(hl:(ps.length+nmL USQ.n ps)≤1048576):
  Calls Q 141 #[v,v'] w fun e w'=>e=.returned (.bool true)∧Below w.heap.size w w':=by
 obtain⟨a,cap,rfl⟩:=h.shape;obtain⟨a',T,rfl⟩:=h'.shape;have c:qs.length=ps.length:=by
  have:=congrArg List.length he;simpa using this.symm
 rw[c]at h'⊢;have HL:Hid (qs.length=ps.length):=c;clear c;go_enter func141,ntmps141
 go_wp2
 go_loopw[5] (fun i wr=>∃k:Nat,k≤ps.length∧i=G K k∧Below w.heap.size w wr) (fun i _=>ps.length-(intOf i).toNat)
 case atStart=>exact⟨0,P _,rfl,Below.refl _ _⟩
 case round=>
  obtain⟨k,hk,rfl,hb⟩:=hrel;by_cases z:k<ps.length
  ·have d:k<qs.length:=by have:=HL.out;omega
   obtain⟨b,O,rfl,V,hc,J⟩:=(h.below hb).cell (by decide) k z;obtain⟨b',L,rfl,U,hd,y⟩:=(h'.below hb).cell (by decide) k d;have D:∀j x,(ussK.cells ps[k])[j]?=some x→wr.cell? ⟨b,O+k+j,none⟩=some x:=fun j x hx=>by have:=hc j x hx;rwa [show k*ussK.size=k from Nat.mul_one k]at this
   have E:∀j x,(ussK.cells qs[k])[j]?=some x→wr.cell? ⟨b',L+k+j,none⟩=some x:=fun j x hx=>by have:=hd j x hx;rwa [show k*ussK.size=k from Nat.mul_one k]at this
   have c0:=D 0 (ps[k].va) rfl;have d0:=E 0 (qs[k].va) rfl;have I:USQ.e ps[k]=USQ.e qs[k]:=by
    have:=congrArg (·[k]?) he;simpa[z,d]using this
   have N:=z01 USQ.n ps k z;clear hc D hd E;generalize ps[k]=p at*;generalize qs[k]=p' at*;have A:=fun w h1 h2=>q5X p p' w h1 h2 I (show USQ.n p≤1048576 by omega)
   clear I N;rw[Nat.add_zero]at c0 d0;have k0:=z0a c0;have l0:=z0a d0;clear c0 d0;have hW:Below wr.heap.size wr wr.drew:=(Below.refl _ _).drew;have M:Nonempty (Lat wr):=⟨⟨wr,Below.refl _ _⟩⟩
   go_wp2_with fail
   refine z0d (S:=fun w'=>∃u:Lat wr,w'=u.val) (by kernel_rfl) ?_;refine sgr [(0,8)] 2 (by kernel_rfl) ⟨⟨_,hW⟩,rfl⟩ ?_;simp only[pkE];repeat go_big_quiet_step (fail)
   refine wpQuiet_nil ?_;refine cla 8 (some 25) 189 #[p.va,p'.va] 1 (by kernel_rfl) ?_;refine(A _ (ussK.rd_below J hW) (ussK.rd_below y hW)).mono ?_;rintro e w2 ⟨rfl,C⟩;replace hW:=hW.trans (C.mono hW.size);clear C;refine⟨_,rfl,⟨⟨_,hW⟩,rfl⟩,?_⟩;simp only[Act.put,pjE];refine sgr [(9,1)] 0 (by kernel_rfl) ⟨⟨_,hW⟩,rfl⟩ ?_;simp only[pkE];repeat go_big_quiet_step (fail)
   refine wpQuiet_nil ?_;refine z0h (by kernel_rfl) ?_;replace hb:=hb.trans (hW.mono hb.size);clear k0 l0 hW M J y A
   go_wp2
   go_roundw
   case rel=>exact⟨k+1,by omega,by go_num,hb⟩
   case measure=>simp[intOf];omega
  ·go_wp2
   go_ret;exact⟨rfl,hb⟩
theorem q42(v:Value)(ps:List USQ)(w:World)(h:ussK.At w v ps)(hl:(ps.length+nmL USQ.n ps)≤1048576):
  Calls Q 125 #[v] w fun e w'=>∃v' qs,e=.returned v'∧qs.map USQ.e=ps.map USQ.e∧ussK.Own w' v' qs∧(ussK.fp v' qs).Nodup∧(∀k∈ussK.fp v' qs,w.heap.size≤k)∧Below w.heap.size w w':=by
 obtain⟨a,cap,rfl⟩:=h.shape;obtain⟨i0,hi,ao,ap,aq⟩:=info_parts z2T;have J:i0.bytes*ps.length≤281474976710656:=by rw[aq];omega
 have ae:ps.length≤maxLen:=by unfold maxLen;omega
 go_enter func125,ntmps125
 go_wp2_with (at_make;refine wpList_make_full _ rfl _ _ 54 rfl w.heap.size 175 i0 (F none 0 0) 1 Tryz.underlying54 hi ao ap _ _ _ _ ps.length rfl rfl rfl rfl J ae (H _) ?_)
 intro w1 M C;have Y:Below w.heap.size w w1:=(Below.refl _ _).grown C (H _) (by simp);have hO:ussK.Own w1 (F (some ⟨w.heap.size,0,none⟩) ps.length ps.length) (List.replicate ps.length (⟨F none 0 0,[]⟩:USQ)):=by
  refine⟨?_,fun p hp=>?_⟩
  ·rw[List.length_replicate,←z3O (⟨F none 0 0,[]⟩:USQ) _ (by decide)];rw[show ps.length*ussK.size=ps.length from Nat.mul_one _];exact z0r M (P _)
  ·rw[(List.mem_replicate.1 hp).2];exact⟨World.ownsRow_nil _ _ _ _,fun p hp=>by simp at hp⟩
 have hF:ussK.fp (F (some ⟨w.heap.size,0,none⟩) ps.length ps.length) (List.replicate ps.length (⟨F none 0 0,[]⟩:USQ))=[w.heap.size]:=z75 rfl;have HN:Hid ((ussK.fp (F (some ⟨w.heap.size,0,none⟩) ps.length ps.length) (List.replicate ps.length (⟨F none 0 0,[]⟩:USQ))).Nodup):=by rw[hF];show List.Nodup _;simp
 have HG:Hid (∀x∈ussK.fp (F (some ⟨w.heap.size,0,none⟩) ps.length ps.length) (List.replicate ps.length (⟨F none 0 0,[]⟩:USQ)),w.heap.size≤x):=by rw[hF];intro x hx;simp at hx;omega
 have HZ:Hid (∀j (hj:j<(List.replicate ps.length (⟨F none 0 0,[]⟩:USQ)).length),0≤j→(List.replicate ps.length (⟨F none 0 0,[]⟩:USQ))[j]=(⟨F none 0 0,[]⟩:USQ)):=fun j hj _=>by simp
 have af:(List.replicate ps.length (⟨F none 0 0,[]⟩:USQ)).length=ps.length:=by simp
 clear M C hF;generalize List.replicate ps.length (⟨F none 0 0,[]⟩:USQ)=aj at*;have HE:Hid ((aj.take 0).map USQ.e=(ps.take 0).map USQ.e):=show _=_ by simp
 go_wp2
 go_loopw [4] (fun i wr=>∃ (k:Nat) (qs:List USQ),k≤ps.length∧i=G K k∧Hid (qs.length=ps.length)∧Hid ((qs.take k).map USQ.e=(ps.take k).map USQ.e)∧Hid (∀ j (hj:j < qs.length),k≤j→qs[j]=(⟨F none 0 0,[]⟩:USQ))∧ussK.Own wr (F (some ⟨w.heap.size,0,none⟩) ps.length ps.length) qs ∧
  Hid ((ussK.fp (F (some ⟨w.heap.size,0,none⟩) ps.length ps.length) qs).Nodup)∧Hid (∀ x∈ussK.fp (F (some ⟨w.heap.size,0,none⟩) ps.length ps.length) qs,w.heap.size≤x)∧Below w.heap.size w wr) (fun i _=>ps.length - (intOf i).toNat)
 case atStart=>exact⟨0,aj,P _,rfl,af,HE,HZ,hO,HN,HG,Y⟩
 case round=>
  clear HE HZ hO HN HG Y af;obtain⟨k,qs,hk,rfl,HQ,HE,HZ,hO,HN,HG,hb⟩:=hrel;by_cases U:k<ps.length
  ·have c:k<qs.length:=by have:=HQ.out;omega
   have W:=HZ.out k c (H _);obtain⟨b,ar,rfl,au,hc,ag⟩:=(h.below hb).cell (by decide) k U;have aa:∀j x,(ussK.cells ps[k])[j]?=some x→wr.cell? ⟨b,ar+k+j,none⟩=some x:=fun j x hx=>by have:=hc j x hx;rwa [show k*ussK.size=k from Nat.mul_one k]at this
   have c0:=aa 0 (ps[k].va) rfl;have ax:=z01 USQ.n ps k U;have X:Hid (∀p':USQ,p'.e=USQ.e ps[k]→((qs.set k p').take (k+1)).map USQ.e=(ps.take (k+1)).map USQ.e):=by
    intro p' am;have h1:=HE.out;rw[List.take_succ_eq_append_getElem U,List.take_succ_eq_append_getElem (show k<(qs.set k p').length by simpa using c)];simp only[List.map_append,List.map_cons,List.map_nil,List.getElem_set_self,am,List.take_set_of_le (H k),h1]
   clear hc aa;generalize ps[k]=p at*;have ah:=q5Y p wr ag (by omega);rw[Nat.add_zero]at c0
   go_wp2_with fail
   refine ah.mono ?_;rintro e w2 ⟨p',rfl,V,d,D,y,Z⟩;obtain⟨x0,y0⟩:=p';have o0:undoK.Own w2 x0 y0:=d;obtain⟨a0,b0,rfl⟩:=o0.shape;clear o0;dsimp only;generalize hP:(⟨F a0 y0.length b0,y0⟩:USQ)=p' at V d D y;have O:ussK.cells p'=[F a0 y0.length b0]:=by rw[←hP];rfl
   have I:=hO.below Z;obtain⟨e0,f0⟩:=I.cell k c 0 _ (by rw[W];rfl);have ad:∀j,k*ussK.size+j=k+j:=fun j=>by rw[show k*ussK.size=k from Nat.mul_one k]
   rw[ad]at e0 f0;rw[Nat.add_zero]at e0 f0;have z:=I.1;have hQ:=HQ.out;rw[hQ]at z;have A:=z1R z (k) [F a0 y0.length b0];rw[←O]at A;have T:∀x∈ussK.fp (F (some ⟨w.heap.size,0,none⟩) ps.length ps.length) qs,x<wr.heap.size:=hO.lt;have ab:w.heap.size∈ussK.fp (F (some ⟨w.heap.size,0,none⟩) ps.length ps.length) qs:=by simp[Kind.fp,blk,Value.ownBlock]
   have av:w.heap.size<wr.heap.size:=T _ ab;have E:=HN.out;have L:∀x∈ussK.foot p',x∉ussK.fp (F (some ⟨w.heap.size,0,none⟩) ps.length ps.length) qs:=fun x hx an=>by have:=y x hx;have:=T x an;omega
   have N:ussK.Own (w2.setCell ⟨w.heap.size,k,none⟩ (F a0 y0.length b0)) (F (some ⟨w.heap.size,0,none⟩) ps.length ps.length) (qs.set k p'):=by
    refine Kind.Own.put I k c p' ?_ (Out.setCell _ _ _ _) ?_ d ?_
    ·rw[hQ];rw[show k*ussK.size=k from Nat.mul_one k];rw[O]at A⊢;exact A
    ·intro q hq x hx ai;simp only[Kind.fp,blk,Value.ownBlock,Option.toList,List.cons_append,List.nil_append,List.nodup_cons]at E;exact E.1 (List.mem_flatMap.2 ⟨q,hq,ai▸hx⟩)
    ·intro x hx ai;have:=y x hx;omega
   have R:Hid (ussK.Own (w2.setCell ⟨w.heap.size,k,none⟩ (F a0 y0.length b0)) (F (some ⟨w.heap.size,0,none⟩) ps.length ps.length) (qs.set k p')∧Below w.heap.size w (w2.setCell ⟨w.heap.size,k,none⟩ (F a0 y0.length b0))):=by
    refine⟨N,?_⟩;have ak:=hb.trans (Z.mono hb.size);exact(ak.setCell (p:=⟨w.heap.size,k,none⟩) (H _) _)
   have R1:Hid ((ussK.fp (F (some ⟨w.heap.size,0,none⟩) ps.length ps.length) (qs.set k p')).Nodup):=z2E E k c p' (by rw[W];rfl) D L;have R2:Hid (∀x∈ussK.fp (F (some ⟨w.heap.size,0,none⟩) ps.length ps.length) (qs.set k p'),w.heap.size≤x):=by
    intro x hx;simp only[Kind.fp,List.mem_append]at hx;rcases hx with hx|hx
    ·exact HG.out x (by simp only[Kind.fp,List.mem_append];exact Or.inl hx)
    ·rcases z1E c hx with hx|hx
     ·exact HG.out x (by simp only[Kind.fp,List.mem_append];exact Or.inr hx)
     ·have:=y x hx;omega
   have R3:Hid (∀j (hj:j<(qs.set k p').length),k+1≤j→(qs.set k p')[j]=(⟨F none 0 0,[]⟩:USQ)):=fun j hj aw=>by
    rw[List.getElem_set_ne (by omega)];exact HZ.out j (by simpa using hj) (by omega)
   have R4:Hid ((qs.set k p').length=ps.length):=by rw[List.length_set];exact HQ.out
   have R5:Hid (((qs.set k p').take (k+1)).map USQ.e=(ps.take (k+1)).map USQ.e):=X.out p' V;clear N A z hQ I hO HN HG HZ HE HQ X E L d D y T ab hb W ag ah V ad O hP
   go_wp2
   go_roundw
   case rel=>exact⟨k+1,qs.set k p',by omega,by go_num,R4.out,R5.out,R3.out,R.out.1,R1.out,R2.out,R.out.2⟩
   case measure=>simp[intOf];omega
  ·have al:k=ps.length:=by omega
   subst al;have hQ:=HQ.out;have hE:=HE.out;rw[List.take_length,List.take_of_length_le (by omega)]at hE;clear HE HZ
   go_wp2
   go_ret;exact⟨_,qs,rfl,hE,hO,HN.out,HG.out,hb⟩
end Go.Proofs.YtjjoahhnkpjolaaGreatDoor
