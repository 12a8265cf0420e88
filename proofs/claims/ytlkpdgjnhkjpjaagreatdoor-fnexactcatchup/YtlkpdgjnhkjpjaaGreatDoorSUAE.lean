import Derived.Test.YtlkpdgjnhkjpjaaGreatDoorSUAD
set_option linter.unusedVariables false
set_option linter.unusedSimpArgs false
set_option maxRecDepth 100000
set_option maxHeartbeats 2000000
namespace Go.Proofs.YtlkpdgjnhkjpjaaGreatDoor
open Go.RowKit Go.BigFrame
open Nat renaming le_refl->Va,zero_le->Vb
open IntKind renaming i64->G
open Value renaming int->Q,slice->H
open Go.Proofs.Tryz renaming prog->s
open Go.Proofs.Tryz
structure ItemD where
 key:Int
 val:Int
deriving DecidableEq
def z0c:ItemD:=⟨0,0⟩
def ItemD.cells(x:ItemD):List Value:=[Q G x.key,Q G x.val]
def z0h(xs:List ItemD):List Value:=xs.flatMap ItemD.cells
def ItemRow(w:World)(a:Option Addr)(xs:List ItemD):Prop:=Lies w a (z0h xs)
theorem z1j(xs:List ItemD):(z0h xs).length=xs.length*2:=by
 induction xs with
 |nil=>rfl
 |cons x xs ih=>simp only[z0h,List.flatMap_cons,List.length_append,List.length_cons]at ih⊢;rw[ih];simp[ItemD.cells];omega
theorem z2h(xs:List ItemD):∀ (i:Nat),i<xs.length→(z0h xs)[i*2]?=some (Q G (xs.getD i z0c).key)∧(z0h xs)[i*2+1]?=some (Q G (xs.getD i z0c).val):=by
 induction xs with
 |nil=>intro i h;simp at h
 |cons x xs ih=>
  intro i h
  cases i with
  |zero=>simp[z0h,ItemD.cells]
  |succ i=>
   have e:z0h (x::xs)=x.cells++z0h xs:=rfl;have hl:x.cells.length=2:=rfl;obtain⟨h1,h2⟩:=ih i (by simpa using h);rw[e,List.getElem?_append_right (by omega),List.getElem?_append_right (by omega),hl,show(i+1)*2-2=i*2 by omega,show(i+1)*2+1-2=i*2+1 by omega];simpa[List.getD]using⟨h1,h2⟩
theorem ItemRow.below{w w':World}{a:Option Addr}{xs:List ItemD}(h:ItemRow w a xs)(hb:Below w.heap.size w w'):ItemRow w' a xs:=Lies.below h hb
theorem ItemRow.at{w:World}{a:Option Addr}{xs:List ItemD}(h:ItemRow w a xs)(i:Nat)(hi:i<xs.length):
  ∃b off,a=some ⟨b,off,none⟩∧b<w.heap.size∧w.cell? ⟨b,off+i*2,none⟩=some (Q G (xs.getD i z0c).key)∧w.cell? ⟨b,off+i*2+1,none⟩=some (Q G (xs.getD i z0c).val):=by
 obtain⟨h1,h2⟩:=z2h xs i hi;rcases h with h|⟨b,off,ha,hlt,hc⟩
 ·have:=z1j xs;rw[h]at this;simp at this;omega
 ·exact⟨b,off,ha,hlt,hc _ _ h1,by rw[Nat.add_assoc];exact hc _ _ h2⟩
theorem z2i:(s.info? 119).map (fun i=>(i.zero,i.size,i.bytes))=some (some (.agg #[Q G 0,Q G 0]),2,16):=by kernel_rfl
theorem q0U(k:Int)(y:Int)(w:World):
  Calls s 191 #[.agg #[Q G k,Q G y]] w fun e w'=>e=.returned (.agg #[Q G k,Q G y])∧Below w.heap.size w w':=by
 go_enter func191,ntmps191
 go_wp2
 exact bodyPost_ret (v:=.agg #[Q G k,Q G y]) (by simp[results,results191,go_sem]) rfl ⟨rfl,by go_grown⟩
theorem q1R{w:World}{base e g cap n k:Nat}{zs ys:List Value}{v0 v1:Value}(ho:w.ownsRow base e 2 (H (some ⟨g,0,none⟩) n cap) n (z6Q zs ys (k*2)))
  (hl:ys.length=zs.length) (hz:zs.length=n*2) (hk:k<n) (g0:zs[k*2]?=some v0) (g1:zs[k*2+1]?=some v1):
  ((w.setCell ⟨g,k*2,none⟩ v0).setCell ⟨g,k*2+1,none⟩ v1).ownsRow base e 2 (H (some ⟨g,0,none⟩) n cap) n (z6Q zs ys ((k+1)*2))∧
  (w.frozen? ⟨g,k*2,none⟩=false∧w.frozen? ⟨g,k*2+1,none⟩=false)∧
  ((∃u,w.cell? ⟨g,k*2,none⟩=some u)∧(∃u,w.cell? ⟨g,k*2+1,none⟩=some u))∧
  (∀B a,Below B a w→B≤g→Below B a ((w.setCell ⟨g,k*2,none⟩ v0).setCell ⟨g,k*2+1,none⟩ v1)):=by
 have hc:∀j,j<n*2→∃u,w.cell? ⟨g,j,none⟩=some u:=fun j hj=>by
  rw[ho.cellAt j hj];exact⟨_,List.getElem?_eq_getElem (by rw[ho.1];exact hj)⟩
 have s0:=(ho.stored (k*2) v0).1;rw[z1D _ _ _ _ hl g0]at s0;have s1:=(s0.stored (k*2+1) v1).1;rw[z1D _ _ _ _ hl g1,show k*2+1+1=(k+1)*2 by omega]at s1;exact⟨s1,⟨ho.frozenAt _,ho.frozenAt _⟩,⟨hc _ (by omega),hc _ (by omega)⟩,fun B a h hB=>((h.setCell hB _).setCell hB _)⟩
theorem z9j(a:Option Addr)(cap:Nat)(zs:List ItemD)(w:World)(h:ItemRow w a zs)(hl:zs.length≤1048576):
  Calls s 136 #[H a zs.length cap] w fun e w'=>∃g c,e=.returned (H (some ⟨g,0,none⟩) zs.length c)∧
   w'.ownsRow w.heap.size 119 2 (H (some ⟨g,0,none⟩) zs.length c) zs.length (z0h zs)∧Below w.heap.size w w':=by
 obtain⟨i0,hi,W,X,Y⟩:=info_parts z2i;have y:i0.bytes*zs.length≤281474976710656:=by rw[Y];omega
 have M:zs.length≤maxLen:=by unfold maxLen;omega
 have D:=z1j zs;go_enter func136,ntmps136
 go_wp2_with (at_make;refine wpList_make_full _ rfl _ _ 26 rfl w.heap.size 119 i0 (.agg #[Q G 0,Q G 0]) 2 Tryz.underlying26 hi W X _ _ _ _ zs.length rfl rfl rfl rfl y M (Va _) ?_)
 intro w1 x E;have d:(madeCells #[Value.int .i64 0,Q G 0] (zs.length*2)).toList.length=(z0h zs).length:=by simp[size_madeCells,D]
 have O:Below w.heap.size w w1:=(Below.refl _ _).grown E (Va _) (by simp);generalize (madeCells #[Value.int .i64 0,Q G 0] (zs.length*2)).toList=ys at x d;rw[←z16 (z0h zs) ys]at x
 go_wp2
 go_loopw[4] (fun i wr=>∃k:Nat,k≤zs.length∧i=Q G k∧wr.ownsRow w.heap.size 119 2 (H (some ⟨w.heap.size,0,none⟩) zs.length zs.length) zs.length (z6Q (z0h zs) ys (k*2))∧Below w.heap.size w wr) (fun i _=>zs.length-(intOf i).toNat)
 case atStart=>exact⟨0,Vb _,rfl,by simpa using x,O⟩
 case round=>
  obtain⟨k,hk,rfl,ho,hb⟩:=hrel;by_cases I:k<zs.length
  ·obtain⟨b,aa,rfl,Z,J,L⟩:=(h.below hb).at k I;obtain⟨g0,g1⟩:=z2h zs k I;generalize zs.getD k z0c=z at J L g0 g1
   go_wp2_with fail
   refine(q0U _ _ _).mono ?_;rintro e w2 ⟨rfl,C⟩;replace ho:=z0b ho C;replace hb:=hb.trans (C.mono hb.size);clear J L C;obtain⟨N,U,T,A⟩:=q1R ho d D I g0 g1;obtain⟨f0,f1⟩:=U;obtain⟨⟨u0,e0⟩,⟨u1,e1⟩⟩:=T;have R:Hid (_∧_):=⟨N,A _ _ hb (Va _)⟩
   clear N A g0 g1 ho
   go_wp2
   go_roundw
   case rel=>exact⟨k+1,by omega,by go_num,R.out.1,R.out.2⟩
   case measure=>simp[intOf];omega
  ·go_wp2
   go_ret;have V:k=zs.length:=by omega
   subst V;rw[z2O _ _ _ d D]at ho;exact⟨_,_,rfl,ho,hb⟩
theorem z9k(k:Int)(y:Int)(w:World):
  Calls s 194 #[.agg #[Q G k,Q G y],.agg #[Q G k,Q G y]] w fun e w'=>e=.returned (.bool true)∧Below w.heap.size w w':=by
 have h0:(k !=k)=false:=by simp
 have h1:(y !=y)=false:=by simp
 go_enter func194,ntmps194
 go_wp2
 go_ret;exact⟨rfl,by go_grown⟩
theorem z8a(a a':Option Addr)(cap A:Nat)(zs:List ItemD)(w:World)(h:ItemRow w a zs)(h':ItemRow w a' zs)(hl:zs.length≤1099511627776):
  Calls s 141 #[H a zs.length cap,H a' zs.length A] w fun e w'=>e=.returned (.bool true)∧Below w.heap.size w w':=by
 go_enter func141,ntmps141
 go_wp2
 go_loopw[5] (fun i wr=>∃k:Nat,k≤zs.length∧i=Q G k∧Below w.heap.size w wr) (fun i _=>zs.length-(intOf i).toNat)
 case atStart=>exact⟨0,Vb _,rfl,Below.refl _ _⟩
 case round=>
  obtain⟨k,hk,rfl,hb⟩:=hrel;by_cases D:k<zs.length
  ·obtain⟨b,M,rfl,L,c,d⟩:=(h.below hb).at k D;obtain⟨b',J,rfl,I,x,y⟩:=(h'.below hb).at k D;generalize zs.getD k z0c=z at c d x y;obtain⟨z0,z1⟩:=z;have k0:=z0d c;have l0:=z0d x;have k1:=z0d d;have l1:=z0d y;clear c d x y;have hW:Below wr.heap.size wr wr.drew:=(Below.refl _ _).drew;have E:Nonempty (Lat wr):=⟨⟨wr,Below.refl _ _⟩⟩
   go_wp2_with fail
   refine z0a (S:=fun w'=>∃u:Lat wr,w'=u.val) (by kernel_rfl) ?_;refine sgr [(0,8)] 2 (by kernel_rfl) ⟨⟨_,hW⟩,rfl⟩ ?_;simp only[pkE];repeat go_big_quiet_step (fail)
   refine wpQuiet_nil ?_;refine cla 8 (some 25) 194 #[.agg #[Q G z0,Q G z1],.agg #[Q G z0,Q G z1]] 1 (by kernel_rfl) ?_;refine(z9k _ _ _).mono ?_;rintro e w2 ⟨rfl,C⟩;replace hW:=hW.trans (C.mono hW.size);clear C;refine⟨_,rfl,⟨⟨_,hW⟩,rfl⟩,?_⟩;simp only[Act.put,pjE];refine sgr [(9,1)] 0 (by kernel_rfl) ⟨⟨_,hW⟩,rfl⟩ ?_;simp only[pkE];repeat go_big_quiet_step (fail)
   refine wpQuiet_nil ?_;refine z0e (by kernel_rfl) ?_;replace hb:=hb.trans (hW.mono hb.size);clear k0 l0 k1 l1 hW E
   go_wp2
   go_roundw
   case rel=>exact⟨k+1,by omega,by go_num,hb⟩
   case measure=>simp[intOf];omega
  ·go_wp2
   go_ret;exact⟨rfl,hb⟩
theorem q1S{w wr:World}{g k:Nat}{v0 v1:Value}(h:w.grownBy wr (some g)):w.grownBy ((wr.setCell ⟨g,k,none⟩ v0).setCell ⟨g,k+1,none⟩ v1) (some g):=by
 have one:∀ (u:World) (j:Nat) (v:Value),w.grownBy u (some g)→w.grownBy (u.setCell ⟨g,j,none⟩ v) (some g):=fun u j v h=>
  ⟨h.os,h.tape,h.output,by simpa[World.setCell]using h.size,fun i hi hne=>by rw[Below.heap_setCell _ _ _ _ (by intro e;apply hne;simp[e])];exact h.block i hi hne⟩
 exact(one _ _ _ (one _ _ _ h))
def z0J(c:Int)(n:Nat):List ItemD:=(List.range n).map fun(i:Nat)=>⟨c+((i*2:Nat):Int),c+((i*2+1:Nat):Int)⟩
theorem z0Y(c:Int)(n:Nat):(z0J c n).length=n:=by simp[z0J]
theorem z3h(c:Int)(n i:Nat)(h:i<n):(z0J c n).getD i z0c=⟨c+((i*2:Nat):Int),c+((i*2+1:Nat):Int)⟩:=by simp[z0J,List.getD,h]
theorem z61(base:Nat)(v:Value)(n:Nat)(xs:List Value)(c:Int)(w:World)(h:w.ownsRow base 119 2 v n xs)(hn:n≤1099511627776)(h0:0≤c)(h1:c≤1099511627776):
  Calls s 143 #[v,Q G c] w fun e w'=>e=.returned (Q G (c+((n*2:Nat):Int)))∧w'.ownsRow base 119 2 v n (z0h (z0J c n))∧w.grownBy w' v.ownBlock:=by
 rcases h.2 with⟨rfl,rfl⟩|⟨g,cap,L,rfl,hb,hg,r⟩
 ·go_enter func143,ntmps143
  go_wp2
  refine wp_loop_rounds 1 ?_;rw[rounds_succ]
  go_wp2
  go_ret;exact⟨by simp,World.ownsRow_nil _ _ _ _,World.grownBy.refl _ _⟩
 ·clear hg r;have d:=z1j (z0J c n);rw[z0Y]at d;have I:xs.length=(z0h (z0J c n)).length:=by rw[d];exact h.1
  rw[←z16 (z0h (z0J c n)) xs]at h;go_enter func143,ntmps143
  go_wp2
  go_loopw[1,5] (fun j i wr=>∃k:Nat,k≤n∧j=Q G (c+((k*2:Nat):Int))∧i=Q G k∧wr.ownsRow base 119 2 (H (some ⟨g,0,none⟩) n cap) n (z6Q (z0h (z0J c n)) xs (k*2))∧w.grownBy wr (some g)) (fun _ i _=>n-(intOf i).toNat)
  case atStart=>exact⟨0,Vb _,by simp,rfl,by simpa using h,World.grownBy.refl _ _⟩
  case round=>
   obtain⟨k,hk,rfl,rfl,ho,z⟩:=hrel;by_cases A:k<n
   ·obtain⟨g0,g1⟩:=z2h (z0J c n) k (by rw[z0Y];exact A);rw[z3h _ _ _ A]at g0 g1;obtain⟨E,⟨f0,f1⟩,⟨⟨u0,e0⟩,⟨u1,e1⟩⟩,_⟩:=q1R ho I d A g0 g1;have x:=q1S z (g:=g) (k:=k*2) (v0:=Q G (c+((k*2:Nat):Int))) (v1:=Q G (c+((k*2+1:Nat):Int)));have R:Hid (_∧_):=⟨E,x⟩
    have C:c+((k*2+1:Nat):Int)=c+((k*2:Nat):Int)+1:=by omega
    have D:Hid (c+(((k+1)*2:Nat):Int)=c+((k*2:Nat):Int)+1+1):=show _=_ by omega
    rw[C]at R;clear E x g0 g1 ho z C;generalize hy:((k*2:Nat):Int)=y at R D;have N:y≤2199023255552:=by omega
    have M:0≤y:=by omega
    clear hy
    go_wp2
    go_roundw
    case rel=>exact⟨k+1,by omega,by rw[D.out],by go_num,R.out.1,R.out.2⟩
    case measure=>simp[intOf];omega
   ·go_wp2
    go_ret;have J:k=n:=by omega
    subst J;rw[z2O _ _ _ I d]at ho;exact⟨rfl,ho,z⟩
theorem z58(a:Option Addr)(n cap:Nat)(c:Int)(w:World)(h:ItemRow w a (z0J c n))(hn:n≤1099511627776)(h0:0≤c)(h1:c≤1099511627776):
  Calls s 198 #[H a n cap,Q G c] w fun e w'=>e=.returned (Q G (c+((n*2:Nat):Int)))∧w'=w:=by
 go_enter func198,ntmps198
 go_wp2
 go_loop[1,5] (fun j i=>∃k:Nat,k≤n∧j=Q G (c+((k*2:Nat):Int))∧i=Q G k) (fun _ i=>n-(intOf i).toNat)
 case atStart=>exact⟨0,Vb _,by simp,rfl⟩
 case round=>
  obtain⟨k,hk,rfl,rfl⟩:=hrel;by_cases C:k<n
  ·obtain⟨b,L,rfl,E,x,d⟩:=h.at k (by rw[z0Y];exact C);rw[z3h _ _ _ C]at x d;have z:c+((k*2+1:Nat):Int)=c+((k*2:Nat):Int)+1:=by omega
   have A:Hid (c+(((k+1)*2:Nat):Int)=c+((k*2:Nat):Int)+1+1):=show _=_ by omega
   dsimp only at x d;rw[z]at d;clear z;generalize hy:((k*2:Nat):Int)=y at x d A;have J:y≤2199023255552:=by omega
   have I:0≤y:=by omega
   clear hy
   go_wp2
   go_round
   case rel=>exact⟨k+1,by omega,by rw[A.out],by go_num⟩
   case measure=>simp[intOf];omega
  ·go_wp2
   go_ret;have D:k=n:=by omega
   subst D;exact⟨rfl,rfl⟩
theorem z9l(a:Option Addr)(n cap:Nat)(c:Int)(w:World)(hn:n≤9223372036854775807)(h0:0≤c)(h1:c≤1099511627776):
  Calls s 131 #[H a n cap,Q G c] w fun e w'=>e=.returned (Q G (if c-n<0 then -1 else c-n))∧w'=w:=by
 by_cases h:c-n<0
 ·rw[if_pos h];go_enter func131,ntmps131
  go_wp2
  go_ret;exact⟨rfl,rfl⟩
 ·rw[if_neg h];go_enter func131,ntmps131
  go_wp2
  go_ret;exact⟨rfl,rfl⟩
structure UndoD where
 key:Int
 was:Bool
 val:Int
deriving DecidableEq
def z0k:UndoD:=⟨0,false,0⟩
def UndoD.cells(x:UndoD):List Value:=[Q G x.key,.bool x.was,Q G x.val]
def z0n(xs:List UndoD):List Value:=xs.flatMap UndoD.cells
def UndoRow(w:World)(a:Option Addr)(xs:List UndoD):Prop:=Lies w a (z0n xs)
theorem z1H(xs:List UndoD):(z0n xs).length=xs.length*3:=by
 induction xs with
 |nil=>rfl
 |cons x xs ih=>simp only[z0n,List.flatMap_cons,List.length_append,List.length_cons]at ih⊢;rw[ih];simp[UndoD.cells];omega
theorem z2j(xs:List UndoD):∀ (i:Nat),i<xs.length→(z0n xs)[i*3]?=some (Q G (xs.getD i z0k).key)∧(z0n xs)[i*3+1]?=some (.bool (xs.getD i z0k).was)∧(z0n xs)[i*3+2]?=some (Q G (xs.getD i z0k).val):=by
 induction xs with
 |nil=>intro i h;simp at h
 |cons x xs ih=>
  intro i h
  cases i with
  |zero=>simp[z0n,UndoD.cells]
  |succ i=>
   have e:z0n (x::xs)=x.cells++z0n xs:=rfl;have hl:x.cells.length=3:=rfl;obtain⟨h1,h2,h3⟩:=ih i (by simpa using h);rw[e,List.getElem?_append_right (by omega),List.getElem?_append_right (by omega),List.getElem?_append_right (by omega),hl,show(i+1)*3-3=i*3 by omega,show(i+1)*3+1-3=i*3+1 by omega,show(i+1)*3+2-3=i*3+2 by omega];simpa[List.getD]using⟨h1,h2,h3⟩
theorem UndoRow.below{w w':World}{a:Option Addr}{xs:List UndoD}(h:UndoRow w a xs)(hb:Below w.heap.size w w'):UndoRow w' a xs:=Lies.below h hb
theorem UndoRow.at{w:World}{a:Option Addr}{xs:List UndoD}(h:UndoRow w a xs)(i:Nat)(hi:i<xs.length):
  ∃b off,a=some ⟨b,off,none⟩∧b<w.heap.size∧w.cell? ⟨b,off+i*3,none⟩=some (Q G (xs.getD i z0k).key)∧w.cell? ⟨b,off+i*3+1,none⟩=some (.bool (xs.getD i z0k).was)∧w.cell? ⟨b,off+i*3+2,none⟩=some (Q G (xs.getD i z0k).val):=by
 obtain⟨h1,h2,h3⟩:=z2j xs i hi;rcases h with h|⟨b,off,ha,hlt,hc⟩
 ·have:=z1H xs;rw[h]at this;simp at this;omega
 ·exact⟨b,off,ha,hlt,hc _ _ h1,by rw[Nat.add_assoc];exact hc _ _ h2,by rw[Nat.add_assoc];exact hc _ _ h3⟩
theorem z4W:(s.info? 235).map (fun i=>(i.zero,i.size,i.bytes))=some (some (.agg #[Q G 0,.bool false,Q G 0]),3,24):=by kernel_rfl
theorem q0V(k:Int)(y:Bool)(v:Int)(w:World):
  Calls s 242 #[.agg #[Q G k,.bool y,Q G v]] w fun e w'=>e=.returned (.agg #[Q G k,.bool y,Q G v])∧Below w.heap.size w w':=by
 go_enter func242,ntmps242
 go_wp2
 exact bodyPost_ret (v:=.agg #[Q G k,.bool y,Q G v]) (by simp[results,results242,go_sem]) rfl ⟨rfl,by go_grown⟩
theorem q1T{w:World}{base e g cap n k:Nat}{zs ys:List Value}{v0 v1 v2:Value}(ho:w.ownsRow base e 3 (H (some ⟨g,0,none⟩) n cap) n (z6Q zs ys (k*3)))
  (hl:ys.length=zs.length) (hz:zs.length=n*3) (hk:k<n) (g0:zs[k*3]?=some v0) (g1:zs[k*3+1]?=some v1) (g2:zs[k*3+2]?=some v2):
  (((w.setCell ⟨g,k*3,none⟩ v0).setCell ⟨g,k*3+1,none⟩ v1).setCell ⟨g,k*3+2,none⟩ v2).ownsRow base e 3 (H (some ⟨g,0,none⟩) n cap) n (z6Q zs ys ((k+1)*3))∧
  (w.frozen? ⟨g,k*3,none⟩=false∧w.frozen? ⟨g,k*3+1,none⟩=false∧w.frozen? ⟨g,k*3+2,none⟩=false)∧
  ((∃u,w.cell? ⟨g,k*3,none⟩=some u)∧(∃u,w.cell? ⟨g,k*3+1,none⟩=some u)∧(∃u,w.cell? ⟨g,k*3+2,none⟩=some u))∧
  (∀B a,Below B a w→B≤g→Below B a (((w.setCell ⟨g,k*3,none⟩ v0).setCell ⟨g,k*3+1,none⟩ v1).setCell ⟨g,k*3+2,none⟩ v2)):=by
 have hc:∀j,j<n*3→∃u,w.cell? ⟨g,j,none⟩=some u:=fun j hj=>by
  rw[ho.cellAt j hj];exact⟨_,List.getElem?_eq_getElem (by rw[ho.1];exact hj)⟩
 have s0:=(ho.stored (k*3) v0).1;rw[z1D _ _ _ _ hl g0]at s0;have s1:=(s0.stored (k*3+1) v1).1;rw[z1D _ _ _ _ hl g1]at s1;have s2:=(s1.stored (k*3+2) v2).1;rw[z1D _ _ _ _ hl g2,show k*3+2+1=(k+1)*3 by omega]at s2;exact⟨s2,⟨ho.frozenAt _,ho.frozenAt _,ho.frozenAt _⟩,⟨hc _ (by omega),hc _ (by omega),hc _ (by omega)⟩,fun B a h hB=>(((h.setCell hB _).setCell hB _).setCell hB _)⟩
theorem z9m(a:Option Addr)(cap:Nat)(zs:List UndoD)(w:World)(h:UndoRow w a zs)(hl:zs.length≤1048576):
  Calls s 192 #[H a zs.length cap] w fun e w'=>∃g c,e=.returned (H (some ⟨g,0,none⟩) zs.length c)∧
   w'.ownsRow w.heap.size 235 3 (H (some ⟨g,0,none⟩) zs.length c) zs.length (z0n zs)∧Below w.heap.size w w':=by
 obtain⟨i0,hi,X,Y,Z⟩:=info_parts z4W;have y:i0.bytes*zs.length≤281474976710656:=by rw[Z];omega
 have N:zs.length≤maxLen:=by unfold maxLen;omega
 have D:=z1H zs;go_enter func192,ntmps192
 go_wp2_with (at_make;refine wpList_make_full _ rfl _ _ 160 rfl w.heap.size 235 i0 (.agg #[Q G 0,.bool false,Q G 0]) 3 Tryz.underlying160 hi X Y _ _ _ _ zs.length rfl rfl rfl rfl y N (Va _) ?_)
 intro w1 x E;have d:(madeCells #[Value.int .i64 0,.bool false,Q G 0] (zs.length*3)).toList.length=(z0n zs).length:=by simp[size_madeCells,D]
 have T:Below w.heap.size w w1:=(Below.refl _ _).grown E (Va _) (by simp);generalize (madeCells #[Value.int .i64 0,.bool false,Q G 0] (zs.length*3)).toList=ys at x d;rw[←z16 (z0n zs) ys]at x
 go_wp2
 go_loopw[4] (fun i wr=>∃k:Nat,k≤zs.length∧i=Q G k∧wr.ownsRow w.heap.size 235 3 (H (some ⟨w.heap.size,0,none⟩) zs.length zs.length) zs.length (z6Q (z0n zs) ys (k*3))∧Below w.heap.size w wr) (fun i _=>zs.length-(intOf i).toNat)
 case atStart=>exact⟨0,Vb _,rfl,by simpa using x,T⟩
 case round=>
  obtain⟨k,hk,rfl,ho,hb⟩:=hrel;by_cases I:k<zs.length
  ·obtain⟨b,ab,rfl,aa,J,L,M⟩:=(h.below hb).at k I;obtain⟨g0,g1,g2⟩:=z2j zs k I;generalize zs.getD k z0k=z at J L M g0 g1 g2
   go_wp2_with fail
   refine(q0V _ _ _ _).mono ?_;rintro e w2 ⟨rfl,C⟩;replace ho:=z0b ho C;replace hb:=hb.trans (C.mono hb.size);clear J L M C;obtain⟨O,V,U,A⟩:=q1T ho d D I g0 g1 g2;obtain⟨f0,f1,f2⟩:=V;obtain⟨⟨u0,e0⟩,⟨u1,e1⟩,⟨u2,e2⟩⟩:=U;have R:Hid (_∧_):=⟨O,A _ _ hb (Va _)⟩
   clear O A g0 g1 g2 ho
   go_wp2
   go_roundw
   case rel=>exact⟨k+1,by omega,by go_num,R.out.1,R.out.2⟩
   case measure=>simp[intOf];omega
  ·go_wp2
   go_ret;have W:k=zs.length:=by omega
   subst W;rw[z2O _ _ _ d D]at ho;exact⟨_,_,rfl,ho,hb⟩
theorem z9n(k:Int)(y:Bool)(v:Int)(w:World):
  Calls s 243 #[.agg #[Q G k,.bool y,Q G v],.agg #[Q G k,.bool y,Q G v]] w fun e w'=>e=.returned (.bool true)∧Below w.heap.size w w':=by
 have h0:(k !=k)=false:=by simp
 have h1:(y !=y)=false:=by simp
 have h2:(v !=v)=false:=by simp
 go_enter func243,ntmps243
 go_wp2
 go_ret;exact⟨rfl,by go_grown⟩
theorem z8b(a a':Option Addr)(cap D:Nat)(zs:List UndoD)(w:World)(h:UndoRow w a zs)(h':UndoRow w a' zs)(hl:zs.length≤1099511627776):
  Calls s 195 #[H a zs.length cap,H a' zs.length D] w fun e w'=>e=.returned (.bool true)∧Below w.heap.size w w':=by
 go_enter func195,ntmps195
 go_wp2
 go_loopw[5] (fun i wr=>∃k:Nat,k≤zs.length∧i=Q G k∧Below w.heap.size w wr) (fun i _=>zs.length-(intOf i).toNat)
 case atStart=>exact⟨0,Vb _,rfl,Below.refl _ _⟩
 case round=>
  obtain⟨k,hk,rfl,hb⟩:=hrel;by_cases I:k<zs.length
  ·obtain⟨b,O,rfl,N,c,d,x⟩:=(h.below hb).at k I;obtain⟨b',M,rfl,L,y,A,C⟩:=(h'.below hb).at k I;generalize zs.getD k z0k=z at c d x y A C;obtain⟨z0,z1,z2⟩:=z;have k0:=z0d c;have l0:=z0d y;have k1:=z0d d;have l1:=z0d A;have k2:=z0d x;have l2:=z0d C;clear c d x y A C;have hW:Below wr.heap.size wr wr.drew:=(Below.refl _ _).drew;have J:Nonempty (Lat wr):=⟨⟨wr,Below.refl _ _⟩⟩
   go_wp2_with fail
   refine z0a (S:=fun w'=>∃u:Lat wr,w'=u.val) (by kernel_rfl) ?_;refine sgr [(0,8)] 2 (by kernel_rfl) ⟨⟨_,hW⟩,rfl⟩ ?_;simp only[pkE];repeat go_big_quiet_step (fail)
   refine wpQuiet_nil ?_;refine cla 8 (some 25) 243 #[.agg #[Q G z0,.bool z1,Q G z2],.agg #[Q G z0,.bool z1,Q G z2]] 1 (by kernel_rfl) ?_;refine(z9n _ _ _ _).mono ?_;rintro e w2 ⟨rfl,E⟩;replace hW:=hW.trans (E.mono hW.size);clear E;refine⟨_,rfl,⟨⟨_,hW⟩,rfl⟩,?_⟩;simp only[Act.put,pjE];refine sgr [(9,1)] 0 (by kernel_rfl) ⟨⟨_,hW⟩,rfl⟩ ?_;simp only[pkE];repeat go_big_quiet_step (fail)
   refine wpQuiet_nil ?_;refine z0e (by kernel_rfl) ?_;replace hb:=hb.trans (hW.mono hb.size);clear k0 l0 k1 l1 k2 l2 hW J
   go_wp2
   go_roundw
   case rel=>exact⟨k+1,by omega,by go_num,hb⟩
   case measure=>simp[intOf];omega
  ·go_wp2
   go_ret;exact⟨rfl,hb⟩
theorem q1U{w wr:World}{g k:Nat}{v0 v1 v2:Value}(h:w.grownBy wr (some g)):w.grownBy (((wr.setCell ⟨g,k,none⟩ v0).setCell ⟨g,k+1,none⟩ v1).setCell ⟨g,k+2,none⟩ v2) (some g):=by
 have one:∀ (u:World) (j:Nat) (v:Value),w.grownBy u (some g)→w.grownBy (u.setCell ⟨g,j,none⟩ v) (some g):=fun u j v h=>
  ⟨h.os,h.tape,h.output,by simpa[World.setCell]using h.size,fun i hi hne=>by rw[Below.heap_setCell _ _ _ _ (by intro e;apply hne;simp[e])];exact h.block i hi hne⟩
 exact(one _ _ _ (one _ _ _ (one _ _ _ h)))
def z0Q(c:Int)(n:Nat):List UndoD:=(List.range n).map fun(i:Nat)=>⟨c+((i*3:Nat):Int),((c+((i*3+1:Nat):Int)) % 3==0),c+((i*3+2:Nat):Int)⟩
theorem z0Z(c:Int)(n:Nat):(z0Q c n).length=n:=by simp[z0Q]
theorem z3i(c:Int)(n i:Nat)(h:i<n):(z0Q c n).getD i z0k=⟨c+((i*3:Nat):Int),((c+((i*3+1:Nat):Int)) % 3==0),c+((i*3+2:Nat):Int)⟩:=by simp[z0Q,List.getD,h]
theorem z62(base:Nat)(v:Value)(n:Nat)(xs:List Value)(c:Int)(w:World)(h:w.ownsRow base 235 3 v n xs)(hn:n≤1099511627776)(h0:0≤c)(h1:c≤1099511627776):
  Calls s 196 #[v,Q G c] w fun e w'=>e=.returned (Q G (c+((n*3:Nat):Int)))∧w'.ownsRow base 235 3 v n (z0n (z0Q c n))∧w.grownBy w' v.ownBlock:=by
 rcases h.2 with⟨rfl,rfl⟩|⟨g,cap,M,rfl,hb,hg,r⟩
 ·go_enter func196,ntmps196
  go_wp2
  refine wp_loop_rounds 1 ?_;rw[rounds_succ]
  go_wp2
  go_ret;exact⟨by simp,World.ownsRow_nil _ _ _ _,World.grownBy.refl _ _⟩
 ·clear hg r;have d:=z1H (z0Q c n);rw[z0Z]at d;have J:xs.length=(z0n (z0Q c n)).length:=by rw[d];exact h.1
  rw[←z16 (z0n (z0Q c n)) xs]at h;go_enter func196,ntmps196
  go_wp2
  go_loopw[1,5] (fun j i wr=>∃k:Nat,k≤n∧j=Q G (c+((k*3:Nat):Int))∧i=Q G k∧wr.ownsRow base 235 3 (H (some ⟨g,0,none⟩) n cap) n (z6Q (z0n (z0Q c n)) xs (k*3))∧w.grownBy wr (some g)) (fun _ i _=>n-(intOf i).toNat)
  case atStart=>exact⟨0,Vb _,by simp,rfl,by simpa using h,World.grownBy.refl _ _⟩
  case round=>
   obtain⟨k,hk,rfl,rfl,ho,z⟩:=hrel;by_cases A:k<n
   ·obtain⟨g0,g1,g2⟩:=z2j (z0Q c n) k (by rw[z0Z];exact A);rw[z3i _ _ _ A]at g0 g1 g2;obtain⟨I,⟨f0,f1,f2⟩,⟨⟨u0,e0⟩,⟨u1,e1⟩,⟨u2,e2⟩⟩,_⟩:=q1T ho J d A g0 g1 g2;have x:=q1U z (g:=g) (k:=k*3) (v0:=Q G (c+((k*3:Nat):Int))) (v1:=.bool (((c+((k*3+1:Nat):Int)) % 3==0))) (v2:=Q G (c+((k*3+2:Nat):Int)));have R:Hid (_∧_):=⟨I,x⟩
    have C:c+((k*3+1:Nat):Int)=c+((k*3:Nat):Int)+1:=by omega
    have D:c+((k*3+2:Nat):Int)=c+((k*3:Nat):Int)+1+1:=by omega
    have E:Hid (c+(((k+1)*3:Nat):Int)=c+((k*3:Nat):Int)+1+1+1):=show _=_ by omega
    rw[C,D]at R;clear I x g0 g1 g2 ho z C D;generalize hy:((k*3:Nat):Int)=y at R E;have O:y≤3298534883328:=by omega
    have N:0≤y:=by omega
    clear hy
    go_wp2
    go_roundw
    case rel=>exact⟨k+1,by omega,by rw[E.out],by go_num,R.out.1,R.out.2⟩
    case measure=>simp[intOf];omega
   ·go_wp2
    go_ret;have L:k=n:=by omega
    subst L;rw[z2O _ _ _ J d]at ho;exact⟨rfl,ho,z⟩
theorem z59(a:Option Addr)(n cap:Nat)(c:Int)(w:World)(h:UndoRow w a (z0Q c n))(hn:n≤1099511627776)(h0:0≤c)(h1:c≤1099511627776):
  Calls s 245 #[H a n cap,Q G c] w fun e w'=>e=.returned (Q G (c+((n*3:Nat):Int)))∧w'=w:=by
 go_enter func245,ntmps245
 go_wp2
 go_loop[1,5] (fun j i=>∃k:Nat,k≤n∧j=Q G (c+((k*3:Nat):Int))∧i=Q G k) (fun _ i=>n-(intOf i).toNat)
 case atStart=>exact⟨0,Vb _,by simp,rfl⟩
 case round=>
  obtain⟨k,hk,rfl,rfl⟩:=hrel;by_cases E:k<n
  ·obtain⟨b,N,rfl,J,z,d,x⟩:=h.at k (by rw[z0Z];exact E);rw[z3i _ _ _ E]at z d x;have A:c+((k*3+1:Nat):Int)=c+((k*3:Nat):Int)+1:=by omega
   have C:c+((k*3+2:Nat):Int)=c+((k*3:Nat):Int)+1+1:=by omega
   have D:Hid (c+(((k+1)*3:Nat):Int)=c+((k*3:Nat):Int)+1+1+1):=show _=_ by omega
   dsimp only at z d x;rw[A]at d;rw[C]at x;clear A C;generalize hy:((k*3:Nat):Int)=y at z d x D;have M:y≤3298534883328:=by omega
   have L:0≤y:=by omega
   clear hy
   go_wp2
   go_round
   case rel=>exact⟨k+1,by omega,by rw[D.out],by go_num⟩
   case measure=>simp[intOf];omega
  ·go_wp2
   go_ret;have I:k=n:=by omega
   subst I;exact⟨rfl,rfl⟩
theorem z9o(a:Option Addr)(n cap:Nat)(c:Int)(w:World)(hn:n≤9223372036854775807)(h0:0≤c)(h1:c≤1099511627776):
  Calls s 189 #[H a n cap,Q G c] w fun e w'=>e=.returned (Q G (if c-n<0 then -1 else c-n))∧w'=w:=by
 by_cases h:c-n<0
 ·rw[if_pos h];go_enter func189,ntmps189
  go_wp2
  go_ret;exact⟨rfl,rfl⟩
 ·rw[if_neg h];go_enter func189,ntmps189
  go_wp2
  go_ret;exact⟨rfl,rfl⟩
def itemK:Kind ItemD where
 ty:=119
 size:=2
 cells:=ItemD.cells
 own _ _:=True
 rd _ _:=True
 foot _:=[]
 len _:=rfl
 own_rd _:=trivial
 own_out _ _ _:=trivial
 own_lt _ k hk:=by simp at hk
 rd_below _ _:=trivial
theorem z05{w:World}{a:Option Addr}{n cap:Nat}{zs:List ItemD}(h:itemK.At w (H a n cap) zs):n=zs.length∧ItemRow w a zs:=by
 obtain⟨a',c,e,hl,_⟩:=h;simp only[Value.slice.injEq]at e;obtain⟨rfl,rfl,_⟩:=e;exact⟨rfl,hl⟩
theorem z0p(v:Value)(zs:List ItemD):itemK.fp v zs=blk v:=by
 have:zs.flatMap itemK.foot=[]:=by simp[show∀z,itemK.foot z=[]from fun _=>rfl]
 simp[Kind.fp,this]
def undoK:Kind UndoD where
 ty:=235
 size:=3
 cells:=UndoD.cells
 own _ _:=True
 rd _ _:=True
 foot _:=[]
 len _:=rfl
 own_rd _:=trivial
 own_out _ _ _:=trivial
 own_lt _ k hk:=by simp at hk
 rd_below _ _:=trivial
theorem z1X{w:World}{a:Option Addr}{n cap:Nat}{zs:List UndoD}(h:undoK.At w (H a n cap) zs):n=zs.length∧UndoRow w a zs:=by
 obtain⟨a',c,e,hl,_⟩:=h;simp only[Value.slice.injEq]at e;obtain⟨rfl,rfl,_⟩:=e;exact⟨rfl,hl⟩
theorem z0G(v:Value)(zs:List UndoD):undoK.fp v zs=blk v:=by
 have:zs.flatMap undoK.foot=[]:=by simp[show∀z,undoK.foot z=[]from fun _=>rfl]
 simp[Kind.fp,this]
theorem z8c(v:Value)(zs:List ItemD)(c:Int)(w:World)(h:itemK.At w v zs)(hn:zs.length≤9223372036854775807)(h0:0≤c)(h1:c≤1048576):
  Calls s 131 #[v,Q G c] w fun e w'=>∃r:Int,e=.returned (Q G r)∧(¬r<0→(zs.length:Int)+r=c)∧Below w.heap.size w w':=by
 obtain⟨a,cap,rfl⟩:=h.shape;refine(z9l a zs.length cap c w hn h0 (by omega)).mono ?_;rintro e w' ⟨rfl,rfl⟩;refine⟨_,rfl,?_,Below.refl _ _⟩;split<;>omega
theorem z8d(v:Value)(zs:List ItemD)(w:World)(h:itemK.At w v zs)(hl:zs.length≤1048576):
  Calls s 136 #[v] w fun e w'=>∃v',e=.returned v'∧itemK.Own w' v' zs∧(itemK.fp v' zs).Nodup∧(∀k∈itemK.fp v' zs,w.heap.size≤k)∧Below w.heap.size w w':=by
 obtain⟨a,cap,rfl⟩:=h.shape;refine(z9j a cap zs w (z05 h).2 hl).mono ?_;rintro e w' ⟨g,c,rfl,ho,hb⟩;obtain⟨o,hk⟩:=z0u ho;refine⟨_,rfl,⟨o,fun _ _=>trivial⟩,?_,?_,hb⟩
 ·rw[z0p];exact z0t _
 ·rw[z0p];exact hk
theorem z8e(v v':Value)(zs:List ItemD)(w:World)(h:itemK.At w v zs)(h':itemK.At w v' zs)(hl:zs.length≤1048576):
  Calls s 141 #[v,v'] w fun e w'=>e=.returned (.bool true)∧Below w.heap.size w w':=by
 obtain⟨a,cap,rfl⟩:=h.shape;obtain⟨a',cap',rfl⟩:=h'.shape;exact z8a a a' cap cap' zs w (z05 h).2 (z05 h').2 (by omega)
def mkItems(c:Int)(zs:List ItemD):List ItemD:=z0J c zs.length
theorem q0W(c:Int)(v:Value)(zs:List ItemD):itemK.fp v (mkItems c zs)=itemK.fp v zs:=by rw[z0p,z0p]
theorem z5l(v:Value)(zs:List ItemD)(c:Int)(w:World)(h:itemK.Own w v zs)(hl:zs.length≤1048576)(h0:0≤c)(h1:c≤1099511627776):
  Calls s 143 #[v,Q G c] w fun e w'=>e=.returned (Q G (c+((zs.length*2:Nat):Int)))∧itemK.Own w' v (mkItems c zs)∧Out (itemK.fp v zs) w w':=by
 refine(z61 0 v zs.length _ c w h.1 (by omega) h0 h1).mono ?_;rintro e w' ⟨rfl,ho,hg⟩;refine⟨rfl,⟨?_,fun _ _=>trivial⟩,?_⟩
 ·have e:(mkItems c zs).length=zs.length:=by simp[mkItems,z0Y]
  rw[e];exact ho
 ·rw[z0p];exact Out.of_grown hg
theorem z5m(v:Value)(zs:List ItemD)(c:Int)(w:World)(h:itemK.At w v (mkItems c zs))(hl:zs.length≤1048576)(h0:0≤c)(h1:c≤1099511627776):
  Calls s 198 #[v,Q G c] w fun e w'=>e=.returned (Q G (c+((zs.length*2:Nat):Int)))∧Below w.heap.size w w':=by
 obtain⟨a,cap,rfl⟩:=h.shape;have e:(mkItems c zs).length=zs.length:=by simp[mkItems,z0Y]
 have hA:=(z05 h).2;rw[e];refine(z58 a zs.length cap c w hA (by omega) h0 h1).mono ?_;rintro e w' ⟨rfl,hw⟩;exact⟨rfl,by subst hw;exact Below.refl _ _⟩
theorem q1V(v:Value)(zs:List UndoD)(c:Int)(w:World)(h:undoK.At w v zs)(hn:zs.length≤9223372036854775807)(h0:0≤c)(h1:c≤1048576):
  Calls s 189 #[v,Q G c] w fun e w'=>∃r:Int,e=.returned (Q G r)∧(¬r<0→(zs.length:Int)+r=c)∧Below w.heap.size w w':=by
 obtain⟨a,cap,rfl⟩:=h.shape;refine(z9o a zs.length cap c w hn h0 (by omega)).mono ?_;rintro e w' ⟨rfl,rfl⟩;refine⟨_,rfl,?_,Below.refl _ _⟩;split<;>omega
theorem q1W(v:Value)(zs:List UndoD)(w:World)(h:undoK.At w v zs)(hl:zs.length≤1048576):
  Calls s 192 #[v] w fun e w'=>∃v',e=.returned v'∧undoK.Own w' v' zs∧(undoK.fp v' zs).Nodup∧(∀k∈undoK.fp v' zs,w.heap.size≤k)∧Below w.heap.size w w':=by
 obtain⟨a,cap,rfl⟩:=h.shape;refine(z9m a cap zs w (z1X h).2 hl).mono ?_;rintro e w' ⟨g,c,rfl,ho,hb⟩;obtain⟨o,hk⟩:=z0u ho;refine⟨_,rfl,⟨o,fun _ _=>trivial⟩,?_,?_,hb⟩
 ·rw[z0G];exact z0t _
 ·rw[z0G];exact hk
theorem q1X(v v':Value)(zs:List UndoD)(w:World)(h:undoK.At w v zs)(h':undoK.At w v' zs)(hl:zs.length≤1048576):
  Calls s 195 #[v,v'] w fun e w'=>e=.returned (.bool true)∧Below w.heap.size w w':=by
 obtain⟨a,cap,rfl⟩:=h.shape;obtain⟨a',cap',rfl⟩:=h'.shape;exact z8b a a' cap cap' zs w (z1X h).2 (z1X h').2 (by omega)
def z12(c:Int)(zs:List UndoD):List UndoD:=z0Q c zs.length
theorem z6u(c:Int)(v:Value)(zs:List UndoD):undoK.fp v (z12 c zs)=undoK.fp v zs:=by rw[z0G,z0G]
theorem z9p(v:Value)(zs:List UndoD)(c:Int)(w:World)(h:undoK.Own w v zs)(hl:zs.length≤1048576)(h0:0≤c)(h1:c≤1099511627776):
  Calls s 196 #[v,Q G c] w fun e w'=>e=.returned (Q G (c+((zs.length*3:Nat):Int)))∧undoK.Own w' v (z12 c zs)∧Out (undoK.fp v zs) w w':=by
 refine(z62 0 v zs.length _ c w h.1 (by omega) h0 h1).mono ?_;rintro e w' ⟨rfl,ho,hg⟩;refine⟨rfl,⟨?_,fun _ _=>trivial⟩,?_⟩
 ·have e:(z12 c zs).length=zs.length:=by simp[z12,z0Z]
  rw[e];exact ho
 ·rw[z0G];exact Out.of_grown hg
theorem z9q(v:Value)(zs:List UndoD)(c:Int)(w:World)(h:undoK.At w v (z12 c zs))(hl:zs.length≤1048576)(h0:0≤c)(h1:c≤1099511627776):
  Calls s 245 #[v,Q G c] w fun e w'=>e=.returned (Q G (c+((zs.length*3:Nat):Int)))∧Below w.heap.size w w':=by
 obtain⟨a,cap,rfl⟩:=h.shape;have e:(z12 c zs).length=zs.length:=by simp[z12,z0Z]
 have hA:=(z1X h).2;rw[e];refine(z59 a zs.length cap c w hA (by omega) h0 h1).mono ?_;rintro e w' ⟨rfl,hw⟩;exact⟨rfl,by subst hw;exact Below.refl _ _⟩
structure USQ where
 va:Value
 us:List UndoD
def ussK:Kind USQ where
 ty:=160
 size:=1
 cells p:=[p.va]
 own w p:=undoK.Own w p.va p.us
 rd w p:=undoK.At w p.va p.us
 foot p:=undoK.fp p.va p.us
 len _:=rfl
 own_rd h:=h.at
 own_out h ho hd:=h.out ho hd
 own_lt h:=h.lt
 rd_below h hb:=h.below hb
def USQ.e(p:USQ):List UndoD:=p.us
def USQ.n(p:USQ):Nat:=p.us.length
def USQ.wf(p:USQ):Prop:=p.us.length≤9223372036854775807
theorem z2P:(s.info? 160).map (fun i=>(i.zero,i.size,i.bytes))=some (some (H none 0 0),1,24):=by kernel_rfl
section
variable {P:Type} {K:Kind P} {w w':World} {v v':Value} {ps:List P} {p:P} {B:Nat}
theorem Kind.row_snoc(ps:List P)(p:P):K.row (ps++[p])=K.row ps++K.cells p:=by simp[Kind.row]
theorem Kind.Own.snoc(h:K.Own w v ps)(L:(K.fp v ps).Nodup)(C:∀k∈K.fp v ps,B≤k)(hp:K.own w p)(M:(K.foot p).Nodup)(z:∀k∈K.foot p,k∉K.fp v ps)(D:∀k∈K.foot p,B≤k)(hB:B≤w.heap.size)
  (I:w'.ownsRow 0 K.ty K.size v' (ps.length+1) (K.row ps++K.cells p)) (hg:w.grownBy w' v.ownBlock) (c:v'.ownBlock=v.ownBlock∨v'.ownBlock=some w.heap.size):
  K.Own w' v' (ps++[p])∧(K.fp v' (ps++[p])).Nodup∧(∀k∈K.fp v' (ps++[p]),B≤k)∧Out (blk v) w w':=by
 have hO:Out (blk v) w w':=Out.of_grown hg;have d:=List.nodup_append.1 L;have J:=h.lt;have E:=K.own_lt hp;have A:(ps++[p]).flatMap K.foot=ps.flatMap K.foot++K.foot p:=by simp
 refine⟨⟨?_,?_⟩,?_,?_,hO⟩
 ·rw[List.length_append,List.length_singleton,Kind.row_snoc];exact I
 ·intro q hq;rcases List.mem_append.1 hq with hq|hq
  ·exact K.own_out (h.2 q hq) hO (fun k hk y=>d.2.2 k y k (List.mem_flatMap.2 ⟨q,hq,hk⟩) rfl)
  ·simp only[List.mem_singleton]at hq;subst hq;exact K.own_out hp hO (fun k hk y=>z k hk (by simp only[Kind.fp,List.mem_append];exact Or.inl y))
 ·unfold Kind.fp;rw[A];have x:(ps.flatMap K.foot++K.foot p).Nodup:=List.nodup_append.2 ⟨d.2.1,M,fun a ha b hb e=>z b hb (by simp only[Kind.fp,List.mem_append];exact Or.inr (e▸ha))⟩;rcases c with c|c
  ·have e:blk v'=blk v:=by unfold blk;rw[c]
   rw[e];refine List.nodup_append.2 ⟨d.1,x,fun a ha b hb e=>?_⟩;subst e;rcases List.mem_append.1 hb with hb|hb
   ·exact d.2.2 a ha a hb rfl
   ·exact z a hb (by simp only[Kind.fp,List.mem_append];exact Or.inl ha)
  ·have e:blk v'=[w.heap.size]:=by unfold blk;rw[c];rfl
   rw[e];refine List.nodup_append.2 ⟨by simp,x,fun a ha b hb e=>?_⟩;simp only[List.mem_singleton]at ha;subst e ha;rcases List.mem_append.1 hb with hb|hb
   ·have:=J _ (show w.heap.size∈K.fp v ps by simp only[Kind.fp,List.mem_append];exact Or.inr hb);omega
   ·have:=E _ hb;omega
 ·intro k hk;unfold Kind.fp at hk;rw[A]at hk;rcases List.mem_append.1 hk with hk|hk
  ·rcases c with c|c
   ·exact C k (by simp only[Kind.fp,List.mem_append];left;unfold blk at hk⊢;rw[c]at hk;exact hk)
   ·unfold blk at hk;rw[c]at hk;simp only[Option.toList,List.mem_singleton]at hk;omega
  ·rcases List.mem_append.1 hk with hk|hk
   ·exact C k (by simp only[Kind.fp,List.mem_append];exact Or.inr hk)
   ·exact D k hk
theorem Kind.own_nil(w:World):K.Own w (H none 0 0) ([]:List P)∧(K.fp (H none 0 0) ([]:List P))=[]:=⟨⟨World.ownsRow_nil _ _ _ _,fun p hp=>by simp at hp⟩,by simp[Kind.fp,blk,Value.ownBlock]⟩
end
section
variable {P:Type} {K:Kind P} {w w':World} {a:Option Addr} {n cap:Nat} {ps:List P}
theorem Kind.At.takeK(h:K.At w (H a n cap) ps)(m:Nat)(hm:m≤ps.length):K.At w (H a m cap) (ps.take m):=by
 obtain⟨a',c,e,hl,hr⟩:=h;simp only[Value.slice.injEq]at e;obtain⟨rfl,_,rfl⟩:=e;refine⟨a,cap,by rw[List.length_take,Nat.min_eq_left hm],?_,fun p hp=>hr p (List.mem_of_mem_take hp)⟩;have er:K.row ps=K.row (ps.take m)++K.row (ps.drop m):=by
  unfold Kind.row;rw[←List.flatMap_append,List.take_append_drop]
 rcases hl with h0|⟨b,off,ha,hlt,hc⟩
 ·left;rw[er]at h0;exact(List.append_eq_nil_iff.1 h0).1
 ·right;refine⟨b,off,ha,hlt,fun j x hx=>hc j x ?_⟩;rw[er,List.getElem?_append_left (List.getElem?_eq_some_iff.1 hx).1];exact hx
theorem Kind.Own.capK(h:K.Own w (H a n cap) ps):n≤cap∧cap≤maxLen:=by
 rcases h.1.2 with⟨e,_⟩|⟨g,c,cur,e,_,_,h1,h2,_⟩
 ·simp only[Value.slice.injEq]at e;obtain⟨_,rfl,rfl⟩:=e;exact⟨Va _,by decide⟩
 ·simp only[Value.slice.injEq]at e;obtain⟨_,rfl,rfl⟩:=e;exact⟨h1,h2⟩
theorem Kind.At.nilA(w:World)(a:Option Addr)(c':Nat):K.At w (H a 0 c') ([]:List P):=⟨a,c',rfl,Or.inl rfl,fun p hp=>by simp at hp⟩
theorem Kind.At.dropS(h:K.At w (H a n cap) ps)(m:Nat)(hm:m≤ps.length)(hcap:ps.length≤cap)(c':Nat):K.At w (.slice (if cap=m then a else a.map (·.add (m*K.size))) (ps.drop m).length c') (ps.drop m):=by
 by_cases hc:cap=m
 ·have hp:ps.drop m=[]:=List.drop_of_length_le (by omega);rw[if_pos hc,hp];exact Kind.At.nilA w a c'
 ·rw[if_neg hc]
  cases a with
  |none=>
   obtain⟨a',c,e,hl,hr⟩:=h;simp only[Value.slice.injEq]at e;obtain⟨rfl,_,rfl⟩:=e;rcases hl with h0|⟨b',off',ha,_⟩
   ·refine⟨none,c',rfl,Or.inl ?_,fun p hp=>hr p (List.mem_of_mem_drop hp)⟩;have er:K.row ps=K.row (ps.take m)++K.row (ps.drop m):=by
     unfold Kind.row;rw[←List.flatMap_append,List.take_append_drop]
    rw[er]at h0;exact(List.append_eq_nil_iff.1 h0).2
   ·simp at ha
  |some x=>
   obtain⟨a',c,e,hl,hr⟩:=h;simp only[Value.slice.injEq]at e;obtain⟨rfl,_,rfl⟩:=e;refine⟨_,c',rfl,?_,fun p hp=>hr p (List.mem_of_mem_drop hp)⟩;have er:K.row ps=K.row (ps.take m)++K.row (ps.drop m):=by
    unfold Kind.row;rw[←List.flatMap_append,List.take_append_drop]
   have hlen:(K.row (ps.take m)).length=m*K.size:=by rw[Kind.row_length,List.length_take,Nat.min_eq_left hm]
   rcases hl with h0|⟨b',off',ha,hlt,hc⟩
   ·left;rw[er]at h0;exact(List.append_eq_nil_iff.1 h0).2
   ·right;simp only[Option.some.injEq]at ha;subst ha;refine⟨b',off'+m*K.size,by simp[Addr.add],hlt,fun j y hy=>?_⟩;have h2:=hc (m*K.size+j) y (by rw[er,List.getElem?_append_right (by omega),hlen,show m*K.size+j-m*K.size=j by omega];exact hy);rw[←Nat.add_assoc]at h2;exact h2
theorem Kind.at_of_row{v:Value}{base e:Nat}(h:w.ownsRow base e K.size v ps.length (K.row ps))(hr:∀p∈ps,K.rd w p):K.At w v ps:=by
 obtain⟨a,c,rfl⟩:=z0g h;exact⟨a,c,rfl,Lies.own h,hr⟩
end
theorem Blk.outs8{w w':World}{b:Nat}{t:TypeId}{cs:Array Value}{F:List Nat}(h:Blk w b t cs)(hU:Out F w w')(hF:b∉F):Blk w' b t cs:=(hU.block b h.lt hF).trans h
theorem Blk.putA{w:World}{b:Nat}{t:TypeId}{cs:Array Value}(h:Blk w b t cs)(j:Nat)(v:Value):Blk (w.setCell ⟨b,j,none⟩ v) b t (cs.setIfInBounds j v):=by
 have:=Go.Joins.block_setCell (i:=j) (v:=v) h;unfold Blk;simpa using this
theorem Blk.other8{w:World}{b g j:Nat}{u:Value}{t:TypeId}{cs:Array Value}(h:Blk w b t cs)(hne:b≠g):Blk (w.setCell ⟨g,j,none⟩ u) b t cs:=(Below.heap_setCell w _ _ b hne).trans h
def z1L:Value→Prop
 | H _ n c=>n≤c∧c≤maxLen
 |_=>False
theorem Kind.Own.capOk{P:Type}{K:Kind P}{w:World}{v:Value}{ps:List P}(h:K.Own w v ps):z1L v:=by
 obtain⟨a,c,rfl⟩:=h.shape;exact h.capK
def z1s(f:Nat→Int):Nat→Int
 |0=>0
 |n+1=>if z1s f n=0 then f n else z1s f n
theorem z1Y(f:Nat→Int):∀n,(∀j,j<n→f j=0)→z1s f n=0
 |0,_=>rfl
 |n+1,h=>by
  have:=z1Y f n (fun j hj=>h j (by omega));simp only[z1s,this,if_true];exact h n (by omega)
theorem z3F(f:Nat→Int)(k:Nat)(h:∀j,j<k→f j=0)(hne:f k≠0):∀n,k<n→z1s f n=f k
 |0,hk=>by omega
 |n+1,hk=>by
  by_cases e:k=n
  ·subst e;simp only[z1s,z1Y f k h,if_true]
  ·have:=z3F f k h hne n (by omega);simp only[z1s,this,hne,if_false]
theorem z4u(f:Nat→Int):∀n,z1s f n=0→∀j,j<n→f j=0
 |0,_,j,hj=>by omega
 |n+1,h,j,hj=>by
  simp only[z1s]at h;by_cases e:z1s f n=0
  ·rw[if_pos e]at h;by_cases ej:j=n
   ·subst ej;exact h
   ·exact z4u f n e j (by omega)
  ·rw[if_neg e]at h;exact absurd h e
def prevK(xs:List ItemD)(k:Nat):Int:=if k=0 then 0 else(xs.getD (k-1) z0c).key
def itF(xs:List ItemD)(k:Nat):Int:=
 if inW (xs.getD k z0c).key 1 20=false∨inW (xs.getD k z0c).val (-20000) 20000=false then 3
 else if(xs.getD k z0c).key≤prevK xs k then 1 else 0
def itemsF(xs:List ItemD):Int:=if 8<xs.length then 2 else z1s (itF xs) xs.length
theorem z65(xs:List ItemD)(k:Nat):
  (inW (xs.getD k z0c).key 1 20=false∧itF xs k=3)∨(inW (xs.getD k z0c).key 1 20=true∧inW (xs.getD k z0c).val (-20000) 20000=false∧itF xs k=3)∨
  (inW (xs.getD k z0c).key 1 20=true∧inW (xs.getD k z0c).val (-20000) 20000=true∧(xs.getD k z0c).key≤prevK xs k∧itF xs k=1)∨
  (inW (xs.getD k z0c).key 1 20=true∧inW (xs.getD k z0c).val (-20000) 20000=true∧¬(xs.getD k z0c).key≤prevK xs k∧itF xs k=0):=by
 unfold itF;generalize xs.getD k z0c=x;generalize prevK xs k=p
 cases h1:inW x.key 1 20<;>cases h2:inW x.val (-20000) 20000<;>by_cases h3:x.key≤p<;>simp[h3]
theorem z1Q(n:Int)(w:World):
  Calls s 234 #[Q G n] w fun e w'=>e=.returned (.bool (inW n (-20000) 20000))∧w'=w:=by
 have hc:=fun w=>z0I n (-20000) 20000 w
 generalize inW n (-20000) 20000=r at hc;go_enter func234,ntmps234
 go_wp2_with (go_at_call 62;refine(hc _).mono ?_;rintro e w' ⟨rfl,rfl⟩)
 go_ret;exact⟨rfl,rfl⟩
theorem z3G(a:Option Addr)(cap:Nat)(zs:List ItemD)(w:World)(h:ItemRow w a zs)(hl:zs.length≤1048576):
  Calls s 181 #[H a zs.length cap] w fun e w'=>e=.returned (Q G (itemsF zs))∧Below w.heap.size w w':=by
 by_cases h8:8<zs.length
 ·have E:itemsF zs=2:=if_pos h8;rw[E];go_enter func181,ntmps181
  go_wp2
  go_ret;exact⟨rfl,Below.refl _ _⟩
 have E:itemsF zs=z1s (itF zs) zs.length:=if_neg h8;rw[E];clear E;go_enter func181,ntmps181
 go_wp2
 go_loopw[3,11] (fun l j wr=>∃k:Nat,k≤zs.length∧j=Q G k∧l=Q G (prevK zs k)∧Below w.heap.size w wr∧Hid (∀j,j<k→itF zs j=0)) (fun _ j _=>zs.length-(intOf j).toNat)
 case atStart=>exact⟨0,Vb _,rfl,rfl,Below.refl _ _,fun j hj=>absurd hj (Nat.not_lt_zero _)⟩
 case round=>
  obtain⟨k,hk,rfl,rfl,hb,HA⟩:=hrel;by_cases hlt:k<zs.length
  ·obtain⟨b,off,rfl,hbs,hc0,hc1⟩:=(h.below hb).at k hlt;have hsz:=hb.size;have HK:Hid (prevK zs (k+1)=(zs.getD k z0c).key):=if_neg (Nat.succ_ne_zero k);rcases z65 zs k with⟨h1,hF⟩|⟨h1,h2,hF⟩|⟨h1,h2,h3,hF⟩|⟨h1,h2,h3,hF⟩
   case inr.inr.inr=>
    have HB:Hid (∀j,j<k+1→itF zs j=0):=by
     intro j hj;by_cases hjk:j=k
     ·subst hjk;exact hF
     ·exact HA.out j (by omega)
    clear HA hF;generalize prevK zs k=p at h3;generalize zs.getD k z0c=z at hc0 hc1 h1 h2 h3 HK;obtain⟨z0,z1⟩:=z;dsimp only at hc0 hc1 h1 h2 h3 HK
    go_wp2_with (first|(go_at_call 62;refine(z0I _ _ _ _).mono ?_;rintro e w' ⟨rfl,rfl⟩)|(go_at_call 234;refine(z1Q _ _).mono ?_;rintro e w' ⟨rfl,rfl⟩))
    go_roundw
    case rel=>exact⟨k+1,by omega,by go_num,by rw[HK.out],by go_grown,HB⟩
    case measure=>simp[intOf];omega
   all_goals
    have E:Hid (z1s (itF zs) zs.length=_):=z3F (itF zs) k HA.out (by rw[hF];decide) zs.length hlt;rw[hF]at E;clear HA hF HK;generalize prevK zs k=p at*;generalize zs.getD k z0c=z at*;obtain⟨z0,z1⟩:=z;dsimp only at*
    go_wp2_with (first|(go_at_call 62;refine(z0I _ _ _ _).mono ?_;rintro e w' ⟨rfl,rfl⟩)|(go_at_call 234;refine(z1Q _ _).mono ?_;rintro e w' ⟨rfl,rfl⟩))
    go_ret;rw[E.out];exact⟨rfl,by go_grown⟩
  ·have hkl:k=zs.length:=by omega
   subst hkl;have E:Hid (z1s (itF zs) zs.length=0):=z1Y _ _ HA.out;clear HA
   go_wp2
   go_ret;rw[E.out];exact⟨rfl,hb⟩
def OwnS(e size lo hi:Nat)(w:World)(v:Value)(n:Nat)(xs:List Value):Prop:=w.ownsRow lo e size v n xs∧∀g,v.ownBlock=some g→g<hi
theorem OwnS.of{e size lo n:Nat}{w:World}{v:Value}{xs:List Value}(o:w.ownsRow lo e size v n xs):OwnS e size lo w.heap.size w v n xs:=⟨o,fun g hg=>(o.lt g hg).2⟩
theorem OwnS.below{e size lo hi n:Nat}{w w':World}{v:Value}{xs:List Value}(o:OwnS e size lo hi w v n xs)(hb:Below w.heap.size w w'):OwnS e size lo hi w' v n xs:=⟨z0b o.1 hb,o.2⟩
theorem OwnS.only{e size lo hi n lo' hi':Nat}{w w':World}{v:Value}{xs:List Value}(o:OwnS e size lo hi w v n xs)(h:Only lo' hi' w w')(hh:hi'≤lo):OwnS e size lo hi w' v n xs:=⟨z2f o.1 h hh,o.2⟩
theorem OwnS.lies{e size lo hi n c:Nat}{w:World}{a:Option Addr}{xs:List Value}(o:OwnS e size lo hi w (H a n c) n xs):Lies w a xs:=Lies.own o.1
theorem OwnS.wide{e size lo hi n lo' hi':Nat}{w:World}{v:Value}{xs:List Value}(o:OwnS e size lo hi w v n xs)(h:lo'≤lo)(hh:hi≤hi'):OwnS e size lo' hi' w v n xs:=⟨z0r o.1 h,fun g hg=>Nat.lt_of_lt_of_le (o.2 g hg) hh⟩
theorem OwnS.grown{e size lo hi n:Nat}{w w':World}{v:Value}{xs:List Value}(o:OwnS e size lo hi w v n xs)(hg:w.grownBy w' v.ownBlock):Only lo hi w w':=z3C hg (fun g h=>⟨(o.1.lt g h).1,o.2 g h⟩)
theorem OwnS.beside{e size lo hi n:Nat}{w w':World}{v v':Value}{xs:List Value}(o:OwnS e size lo hi w v n xs)(hg:w.grownBy w' v'.ownBlock)(h:v.ownBlock=none∨v.ownBlock≠v'.ownBlock):OwnS e size lo hi w' v n xs:=⟨o.1.kept hg h,o.2⟩
theorem OwnTxns.only{lo hi lo' hi':Nat}{w w':World}{v:Value}{ds:List TxnD}(h:OwnTxns lo hi w v ds)(ho:Only lo' hi' w w')(hh:hi'≤lo):OwnTxns lo hi w' v ds:=by
 obtain⟨g,cap,ps,e,hg,hd,o,hp⟩:=h;exact⟨g,cap,ps,e,hg,hd,z2f o ho hh,fun p hm=>⟨z2f (hp p hm).1 ho hh,(hp p hm).2⟩⟩
end Go.Proofs.YtlkpdgjnhkjpjaaGreatDoor
