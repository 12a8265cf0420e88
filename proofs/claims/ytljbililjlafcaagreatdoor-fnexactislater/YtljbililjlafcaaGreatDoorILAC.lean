/- Texts joined,with what the laws reach alone. -/
import Derived.Test.YtljbililjlafcaaGreatDoorILAB
set_option linter.unusedVariables false
set_option linter.unusedSimpArgs false
set_option maxRecDepth 100000
set_option maxHeartbeats 4000000
namespace Go.Proofs.YtljbililjlafcaaGreatDoor
open Go.RowKit Go.BigFrame
structure ItemD where
 key:Int
 val:Int
deriving DecidableEq
def z0c:ItemD:=⟨0,0⟩
def ItemD.cells(x:ItemD):List Value:=[.int .i64 x.key,.int .i64 x.val]
def z0h(xs:List ItemD):List Value:=xs.flatMap ItemD.cells
def ItemRow(w:World)(a:Option Addr)(xs:List ItemD):Prop:=Lies w a (z0h xs)
theorem z1h(xs:List ItemD):(z0h xs).length=xs.length*2:=by
 induction xs with
 |nil=>rfl
 |cons x xs ih=>simp only[z0h,List.flatMap_cons,List.length_append,List.length_cons]at ih⊢;rw[ih];simp[ItemD.cells];omega
theorem z2N(xs:List ItemD):∀ (i:Nat),i<xs.length→(z0h xs)[i*2]?=some (.int .i64 (xs.getD i z0c).key)∧(z0h xs)[i*2+1]?=some (.int .i64 (xs.getD i z0c).val):=by
 induction xs with
 |nil=>intro i h;simp at h
 |cons x xs ih=>
  intro i h
  cases i with
  |zero=>simp[z0h,ItemD.cells]
  |succ i=>
   have e:z0h (x::xs)=x.cells++z0h xs:=rfl;have hl:x.cells.length=2:=rfl;obtain⟨h1,h2⟩:=ih i (by simpa using h);rw[e,List.getElem?_append_right (by omega),List.getElem?_append_right (by omega),hl,show(i+1)*2-2=i*2 by omega,show(i+1)*2+1-2=i*2+1 by omega];simpa[List.getD]using⟨h1,h2⟩
theorem ItemRow.below{w w':World}{a:Option Addr}{xs:List ItemD}(h:ItemRow w a xs)(hb:Below w.heap.size w w'):ItemRow w' a xs:=Lies.below h hb
theorem ItemRow.at{w:World}{a:Option Addr}{xs:List ItemD}(h:ItemRow w a xs)(i:Nat)(hi:i<xs.length):
  ∃b off,a=some ⟨b,off,none⟩∧b<w.heap.size∧w.cell? ⟨b,off+i*2,none⟩=some (.int .i64 (xs.getD i z0c).key)∧w.cell? ⟨b,off+i*2+1,none⟩=some (.int .i64 (xs.getD i z0c).val):=by
 obtain⟨h1,h2⟩:=z2N xs i hi;rcases h with h|⟨b,off,ha,hlt,hc⟩
 ·have:=z1h xs;rw[h]at this;simp at this;omega
 ·exact⟨b,off,ha,hlt,hc _ _ h1,by rw[Nat.add_assoc];exact hc _ _ h2⟩
theorem z1H:(Tryz.prog.info? 187).map (fun i=>(i.zero,i.size,i.bytes))=some (some (.agg #[.int .i64 0,.int .i64 0]),2,16):=by kernel_rfl
theorem z84(k:Int)(y:Int)(w:World):
  Calls Tryz.prog 113 #[.agg #[.int .i64 k,.int .i64 y]] w fun e w'=>e=.returned (.agg #[.int .i64 k,.int .i64 y])∧Below w.heap.size w w':=by
 go_enter Tryz.func113,Tryz.ntmps113
 go_wp2
 exact bodyPost_ret (v:=.agg #[.int .i64 k,.int .i64 y]) (by simp[results,Tryz.results113,go_sem]) rfl ⟨rfl,by go_grown⟩
theorem q2U{w:World}{base e g cap n k:Nat}{zs ys:List Value}{v0 v1:Value}(ho:w.ownsRow base e 2 (.slice (some ⟨g,0,none⟩) n cap) n (z7w zs ys (k*2)))
  (hl:ys.length=zs.length) (hz:zs.length=n*2) (hk:k<n) (g0:zs[k*2]?=some v0) (g1:zs[k*2+1]?=some v1):
  ((w.setCell ⟨g,k*2,none⟩ v0).setCell ⟨g,k*2+1,none⟩ v1).ownsRow base e 2 (.slice (some ⟨g,0,none⟩) n cap) n (z7w zs ys ((k+1)*2))∧
  (w.frozen? ⟨g,k*2,none⟩=false∧w.frozen? ⟨g,k*2+1,none⟩=false)∧
  ((∃u,w.cell? ⟨g,k*2,none⟩=some u)∧(∃u,w.cell? ⟨g,k*2+1,none⟩=some u))∧
  (∀B a,Below B a w→B≤g→Below B a ((w.setCell ⟨g,k*2,none⟩ v0).setCell ⟨g,k*2+1,none⟩ v1)):=by
 have hc:∀j,j<n*2→∃u,w.cell? ⟨g,j,none⟩=some u:=fun j hj=>by
  rw[ho.cellAt j hj];exact⟨_,List.getElem?_eq_getElem (by rw[ho.1];exact hj)⟩
 have s0:=(ho.stored (k*2) v0).1;rw[z1d _ _ _ _ hl g0]at s0;have s1:=(s0.stored (k*2+1) v1).1;rw[z1d _ _ _ _ hl g1,show k*2+1+1=(k+1)*2 by omega]at s1;exact⟨s1,⟨ho.frozenAt _,ho.frozenAt _⟩,⟨hc _ (by omega),hc _ (by omega)⟩,fun B a h hB=>((h.setCell hB _).setCell hB _)⟩
theorem z7G(a:Option Addr)(cap:Nat)(zs:List ItemD)(w:World)(h:ItemRow w a zs)(hl:zs.length≤1048576):
  Calls Tryz.prog 89 #[.slice a zs.length cap] w fun e w'=>∃g c,e=.returned (.slice (some ⟨g,0,none⟩) zs.length c)∧
   w'.ownsRow w.heap.size 187 2 (.slice (some ⟨g,0,none⟩) zs.length c) zs.length (z0h zs)∧Below w.heap.size w w':=by
 obtain⟨i0,hi,W,X,Y⟩:=info_parts z1H;have y:i0.bytes*zs.length≤281474976710656:=by rw[Y];omega
 have M:zs.length≤maxLen:=by unfold maxLen;omega
 have D:=z1h zs;go_enter Tryz.func89,Tryz.ntmps89
 go_wp2_with (at_make;refine wpList_make_full _ rfl _ _ 70 rfl w.heap.size 187 i0 (.agg #[.int .i64 0,.int .i64 0]) 2 Tryz.underlying70 hi W X _ _ _ _ zs.length rfl rfl rfl rfl y M (Nat.le_refl _) ?_)
 intro w1 x E;have d:(madeCells #[Value.int .i64 0,.int .i64 0] (zs.length*2)).toList.length=(z0h zs).length:=by simp[size_madeCells,D]
 have O:Below w.heap.size w w1:=(Below.refl _ _).grown E (Nat.le_refl _) (by simp);generalize (madeCells #[Value.int .i64 0,.int .i64 0] (zs.length*2)).toList=ys at x d;rw[←z4f (z0h zs) ys]at x
 go_wp2
 go_loopw[4] (fun i wr=>∃k:Nat,k≤zs.length∧i=.int .i64 k∧wr.ownsRow w.heap.size 187 2 (.slice (some ⟨w.heap.size,0,none⟩) zs.length zs.length) zs.length (z7w (z0h zs) ys (k*2))∧Below w.heap.size w wr) (fun i _=>zs.length-(intOf i).toNat)
 case atStart=>exact⟨0,Nat.zero_le _,rfl,by simpa using x,O⟩
 case round=>
  obtain⟨k,hk,rfl,ho,hb⟩:=hrel;by_cases I:k<zs.length
  ·obtain⟨b,aa,rfl,Z,J,L⟩:=(h.below hb).at k I;obtain⟨g0,g1⟩:=z2N zs k I;generalize zs.getD k z0c=z at J L g0 g1
   go_wp2_with fail
   refine(z84 _ _ _).mono ?_;rintro e w2 ⟨rfl,C⟩;replace ho:=z0d ho C;replace hb:=hb.trans (C.mono hb.size);clear J L C;obtain⟨N,U,T,A⟩:=q2U ho d D I g0 g1;obtain⟨f0,f1⟩:=U;obtain⟨⟨u0,e0⟩,⟨u1,e1⟩⟩:=T;have R:Hid (_∧_):=⟨N,A _ _ hb (Nat.le_refl _)⟩
   clear N A g0 g1 ho
   go_wp2
   go_roundw
   case rel=>exact⟨k+1,by omega,by go_num,R.out.1,R.out.2⟩
   case measure=>simp[intOf];omega
  ·go_wp2
   go_ret;have V:k=zs.length:=by omega
   subst V;rw[z5H _ _ _ d D]at ho;exact⟨_,_,rfl,ho,hb⟩
theorem z7H(k:Int)(y:Int)(w:World):
  Calls Tryz.prog 127 #[.agg #[.int .i64 k,.int .i64 y],.agg #[.int .i64 k,.int .i64 y]] w fun e w'=>e=.returned (.bool true)∧Below w.heap.size w w':=by
 have h0:(k !=k)=false:=by simp
 have h1:(y !=y)=false:=by simp
 go_enter Tryz.func127,Tryz.ntmps127
 go_wp2
 go_ret;exact⟨rfl,by go_grown⟩
theorem z6C(a a':Option Addr)(cap A:Nat)(zs:List ItemD)(w:World)(h:ItemRow w a zs)(h':ItemRow w a' zs)(hl:zs.length≤1099511627776):
  Calls Tryz.prog 98 #[.slice a zs.length cap,.slice a' zs.length A] w fun e w'=>e=.returned (.bool true)∧Below w.heap.size w w':=by
 go_enter Tryz.func98,Tryz.ntmps98
 go_wp2
 go_loopw[5] (fun i wr=>∃k:Nat,k≤zs.length∧i=.int .i64 k∧Below w.heap.size w wr) (fun i _=>zs.length-(intOf i).toNat)
 case atStart=>exact⟨0,Nat.zero_le _,rfl,Below.refl _ _⟩
 case round=>
  obtain⟨k,hk,rfl,hb⟩:=hrel;by_cases D:k<zs.length
  ·obtain⟨b,M,rfl,L,c,d⟩:=(h.below hb).at k D;obtain⟨b',J,rfl,I,x,y⟩:=(h'.below hb).at k D;generalize zs.getD k z0c=z at c d x y;obtain⟨z0,z1⟩:=z;have k0:=z0a c;have l0:=z0a x;have k1:=z0a d;have l1:=z0a y;clear c d x y;have hW:Below wr.heap.size wr wr.drew:=(Below.refl _ _).drew;have E:Nonempty (Lat wr):=⟨⟨wr,Below.refl _ _⟩⟩
   go_wp2_with fail
   refine z0b (S:=fun w'=>∃u:Lat wr,w'=u.val) (by kernel_rfl) ?_;refine sgr [(0,8)] 2 (by kernel_rfl) ⟨⟨_,hW⟩,rfl⟩ ?_;simp only[pkE];repeat go_big_quiet_step (fail)
   refine wpQuiet_nil ?_;refine cla 8 (some 25) 127 #[.agg #[.int .i64 z0,.int .i64 z1],.agg #[.int .i64 z0,.int .i64 z1]] 1 (by kernel_rfl) ?_;refine(z7H _ _ _).mono ?_;rintro e w2 ⟨rfl,C⟩;replace hW:=hW.trans (C.mono hW.size);clear C;refine⟨_,rfl,⟨⟨_,hW⟩,rfl⟩,?_⟩;simp only[Act.put,pjE];refine sgr [(9,1)] 0 (by kernel_rfl) ⟨⟨_,hW⟩,rfl⟩ ?_;simp only[pkE];repeat go_big_quiet_step (fail)
   refine wpQuiet_nil ?_;refine z0f (by kernel_rfl) ?_;replace hb:=hb.trans (hW.mono hb.size);clear k0 l0 k1 l1 hW E
   go_wp2
   go_roundw
   case rel=>exact⟨k+1,by omega,by go_num,hb⟩
   case measure=>simp[intOf];omega
  ·go_wp2
   go_ret;exact⟨rfl,hb⟩
def z6D(c:Int)(n:Nat):List ItemD:=(List.range n).map fun(i:Nat)=>⟨c+((i*2:Nat):Int),c+((i*2+1:Nat):Int)⟩
theorem z7I(a:Option Addr)(n cap:Nat)(c:Int)(w:World)(hn:n≤9223372036854775807)(h0:0≤c)(h1:c≤1099511627776):
  Calls Tryz.prog 77 #[.slice a n cap,.int .i64 c] w fun e w'=>e=.returned (.int .i64 (if c-n<0 then -1 else c-n))∧w'=w:=by
 by_cases h:c-n<0
 ·rw[if_pos h];go_enter Tryz.func77,Tryz.ntmps77
  go_wp2
  go_ret;exact⟨rfl,rfl⟩
 ·rw[if_neg h];go_enter Tryz.func77,Tryz.ntmps77
  go_wp2
  go_ret;exact⟨rfl,rfl⟩
structure UndoD where
 key:Int
 was:Bool
 val:Int
deriving DecidableEq
def z0j:UndoD:=⟨0,false,0⟩
def UndoD.cells(x:UndoD):List Value:=[.int .i64 x.key,.bool x.was,.int .i64 x.val]
def z0n(xs:List UndoD):List Value:=xs.flatMap UndoD.cells
def UndoRow(w:World)(a:Option Addr)(xs:List UndoD):Prop:=Lies w a (z0n xs)
theorem z1U(xs:List UndoD):(z0n xs).length=xs.length*3:=by
 induction xs with
 |nil=>rfl
 |cons x xs ih=>simp only[z0n,List.flatMap_cons,List.length_append,List.length_cons]at ih⊢;rw[ih];simp[UndoD.cells];omega
theorem z2O(xs:List UndoD):∀ (i:Nat),i<xs.length→(z0n xs)[i*3]?=some (.int .i64 (xs.getD i z0j).key)∧(z0n xs)[i*3+1]?=some (.bool (xs.getD i z0j).was)∧(z0n xs)[i*3+2]?=some (.int .i64 (xs.getD i z0j).val):=by
 induction xs with
 |nil=>intro i h;simp at h
 |cons x xs ih=>
  intro i h
  cases i with
  |zero=>simp[z0n,UndoD.cells]
  |succ i=>
   have e:z0n (x::xs)=x.cells++z0n xs:=rfl;have hl:x.cells.length=3:=rfl;obtain⟨h1,h2,h3⟩:=ih i (by simpa using h);rw[e,List.getElem?_append_right (by omega),List.getElem?_append_right (by omega),List.getElem?_append_right (by omega),hl,show(i+1)*3-3=i*3 by omega,show(i+1)*3+1-3=i*3+1 by omega,show(i+1)*3+2-3=i*3+2 by omega];simpa[List.getD]using⟨h1,h2,h3⟩
theorem UndoRow.below{w w':World}{a:Option Addr}{xs:List UndoD}(h:UndoRow w a xs)(hb:Below w.heap.size w w'):UndoRow w' a xs:=Lies.below h hb
theorem UndoRow.at{w:World}{a:Option Addr}{xs:List UndoD}(h:UndoRow w a xs)(i:Nat)(hi:i<xs.length):
  ∃b off,a=some ⟨b,off,none⟩∧b<w.heap.size∧w.cell? ⟨b,off+i*3,none⟩=some (.int .i64 (xs.getD i z0j).key)∧w.cell? ⟨b,off+i*3+1,none⟩=some (.bool (xs.getD i z0j).was)∧w.cell? ⟨b,off+i*3+2,none⟩=some (.int .i64 (xs.getD i z0j).val):=by
 obtain⟨h1,h2,h3⟩:=z2O xs i hi;rcases h with h|⟨b,off,ha,hlt,hc⟩
 ·have:=z1U xs;rw[h]at this;simp at this;omega
 ·exact⟨b,off,ha,hlt,hc _ _ h1,by rw[Nat.add_assoc];exact hc _ _ h2,by rw[Nat.add_assoc];exact hc _ _ h3⟩
theorem z34:(Tryz.prog.info? 223).map (fun i=>(i.zero,i.size,i.bytes))=some (some (.agg #[.int .i64 0,.bool false,.int .i64 0]),3,24):=by kernel_rfl
theorem z85(k:Int)(y:Bool)(v:Int)(w:World):
  Calls Tryz.prog 138 #[.agg #[.int .i64 k,.bool y,.int .i64 v]] w fun e w'=>e=.returned (.agg #[.int .i64 k,.bool y,.int .i64 v])∧Below w.heap.size w w':=by
 go_enter Tryz.func138,Tryz.ntmps138
 go_wp2
 exact bodyPost_ret (v:=.agg #[.int .i64 k,.bool y,.int .i64 v]) (by simp[results,Tryz.results138,go_sem]) rfl ⟨rfl,by go_grown⟩
theorem q2V{w:World}{base e g cap n k:Nat}{zs ys:List Value}{v0 v1 v2:Value}(ho:w.ownsRow base e 3 (.slice (some ⟨g,0,none⟩) n cap) n (z7w zs ys (k*3)))
  (hl:ys.length=zs.length) (hz:zs.length=n*3) (hk:k<n) (g0:zs[k*3]?=some v0) (g1:zs[k*3+1]?=some v1) (g2:zs[k*3+2]?=some v2):
  (((w.setCell ⟨g,k*3,none⟩ v0).setCell ⟨g,k*3+1,none⟩ v1).setCell ⟨g,k*3+2,none⟩ v2).ownsRow base e 3 (.slice (some ⟨g,0,none⟩) n cap) n (z7w zs ys ((k+1)*3))∧
  (w.frozen? ⟨g,k*3,none⟩=false∧w.frozen? ⟨g,k*3+1,none⟩=false∧w.frozen? ⟨g,k*3+2,none⟩=false)∧
  ((∃u,w.cell? ⟨g,k*3,none⟩=some u)∧(∃u,w.cell? ⟨g,k*3+1,none⟩=some u)∧(∃u,w.cell? ⟨g,k*3+2,none⟩=some u))∧
  (∀B a,Below B a w→B≤g→Below B a (((w.setCell ⟨g,k*3,none⟩ v0).setCell ⟨g,k*3+1,none⟩ v1).setCell ⟨g,k*3+2,none⟩ v2)):=by
 have hc:∀j,j<n*3→∃u,w.cell? ⟨g,j,none⟩=some u:=fun j hj=>by
  rw[ho.cellAt j hj];exact⟨_,List.getElem?_eq_getElem (by rw[ho.1];exact hj)⟩
 have s0:=(ho.stored (k*3) v0).1;rw[z1d _ _ _ _ hl g0]at s0;have s1:=(s0.stored (k*3+1) v1).1;rw[z1d _ _ _ _ hl g1]at s1;have s2:=(s1.stored (k*3+2) v2).1;rw[z1d _ _ _ _ hl g2,show k*3+2+1=(k+1)*3 by omega]at s2;exact⟨s2,⟨ho.frozenAt _,ho.frozenAt _,ho.frozenAt _⟩,⟨hc _ (by omega),hc _ (by omega),hc _ (by omega)⟩,fun B a h hB=>(((h.setCell hB _).setCell hB _).setCell hB _)⟩
theorem z7J(a:Option Addr)(cap:Nat)(zs:List UndoD)(w:World)(h:UndoRow w a zs)(hl:zs.length≤1048576):
  Calls Tryz.prog 114 #[.slice a zs.length cap] w fun e w'=>∃g c,e=.returned (.slice (some ⟨g,0,none⟩) zs.length c)∧
   w'.ownsRow w.heap.size 223 3 (.slice (some ⟨g,0,none⟩) zs.length c) zs.length (z0n zs)∧Below w.heap.size w w':=by
 obtain⟨i0,hi,X,Y,Z⟩:=info_parts z34;have y:i0.bytes*zs.length≤281474976710656:=by rw[Z];omega
 have N:zs.length≤maxLen:=by unfold maxLen;omega
 have D:=z1U zs;go_enter Tryz.func114,Tryz.ntmps114
 go_wp2_with (at_make;refine wpList_make_full _ rfl _ _ 190 rfl w.heap.size 223 i0 (.agg #[.int .i64 0,.bool false,.int .i64 0]) 3 Tryz.underlying190 hi X Y _ _ _ _ zs.length rfl rfl rfl rfl y N (Nat.le_refl _) ?_)
 intro w1 x E;have d:(madeCells #[Value.int .i64 0,.bool false,.int .i64 0] (zs.length*3)).toList.length=(z0n zs).length:=by simp[size_madeCells,D]
 have T:Below w.heap.size w w1:=(Below.refl _ _).grown E (Nat.le_refl _) (by simp);generalize (madeCells #[Value.int .i64 0,.bool false,.int .i64 0] (zs.length*3)).toList=ys at x d;rw[←z4f (z0n zs) ys]at x
 go_wp2
 go_loopw[4] (fun i wr=>∃k:Nat,k≤zs.length∧i=.int .i64 k∧wr.ownsRow w.heap.size 223 3 (.slice (some ⟨w.heap.size,0,none⟩) zs.length zs.length) zs.length (z7w (z0n zs) ys (k*3))∧Below w.heap.size w wr) (fun i _=>zs.length-(intOf i).toNat)
 case atStart=>exact⟨0,Nat.zero_le _,rfl,by simpa using x,T⟩
 case round=>
  obtain⟨k,hk,rfl,ho,hb⟩:=hrel;by_cases I:k<zs.length
  ·obtain⟨b,ab,rfl,aa,J,L,M⟩:=(h.below hb).at k I;obtain⟨g0,g1,g2⟩:=z2O zs k I;generalize zs.getD k z0j=z at J L M g0 g1 g2
   go_wp2_with fail
   refine(z85 _ _ _ _).mono ?_;rintro e w2 ⟨rfl,C⟩;replace ho:=z0d ho C;replace hb:=hb.trans (C.mono hb.size);clear J L M C;obtain⟨O,V,U,A⟩:=q2V ho d D I g0 g1 g2;obtain⟨f0,f1,f2⟩:=V;obtain⟨⟨u0,e0⟩,⟨u1,e1⟩,⟨u2,e2⟩⟩:=U;have R:Hid (_∧_):=⟨O,A _ _ hb (Nat.le_refl _)⟩
   clear O A g0 g1 g2 ho
   go_wp2
   go_roundw
   case rel=>exact⟨k+1,by omega,by go_num,R.out.1,R.out.2⟩
   case measure=>simp[intOf];omega
  ·go_wp2
   go_ret;have W:k=zs.length:=by omega
   subst W;rw[z5H _ _ _ d D]at ho;exact⟨_,_,rfl,ho,hb⟩
theorem z7K(k:Int)(y:Bool)(v:Int)(w:World):
  Calls Tryz.prog 161 #[.agg #[.int .i64 k,.bool y,.int .i64 v],.agg #[.int .i64 k,.bool y,.int .i64 v]] w fun e w'=>e=.returned (.bool true)∧Below w.heap.size w w':=by
 have h0:(k !=k)=false:=by simp
 have h1:(y !=y)=false:=by simp
 have h2:(v !=v)=false:=by simp
 go_enter Tryz.func161,Tryz.ntmps161
 go_wp2
 go_ret;exact⟨rfl,by go_grown⟩
theorem z6E(a a':Option Addr)(cap D:Nat)(zs:List UndoD)(w:World)(h:UndoRow w a zs)(h':UndoRow w a' zs)(hl:zs.length≤1099511627776):
  Calls Tryz.prog 128 #[.slice a zs.length cap,.slice a' zs.length D] w fun e w'=>e=.returned (.bool true)∧Below w.heap.size w w':=by
 go_enter Tryz.func128,Tryz.ntmps128
 go_wp2
 go_loopw[5] (fun i wr=>∃k:Nat,k≤zs.length∧i=.int .i64 k∧Below w.heap.size w wr) (fun i _=>zs.length-(intOf i).toNat)
 case atStart=>exact⟨0,Nat.zero_le _,rfl,Below.refl _ _⟩
 case round=>
  obtain⟨k,hk,rfl,hb⟩:=hrel;by_cases I:k<zs.length
  ·obtain⟨b,O,rfl,N,c,d,x⟩:=(h.below hb).at k I;obtain⟨b',M,rfl,L,y,A,C⟩:=(h'.below hb).at k I;generalize zs.getD k z0j=z at c d x y A C;obtain⟨z0,z1,z2⟩:=z;have k0:=z0a c;have l0:=z0a y;have k1:=z0a d;have l1:=z0a A;have k2:=z0a x;have l2:=z0a C;clear c d x y A C;have hW:Below wr.heap.size wr wr.drew:=(Below.refl _ _).drew;have J:Nonempty (Lat wr):=⟨⟨wr,Below.refl _ _⟩⟩
   go_wp2_with fail
   refine z0b (S:=fun w'=>∃u:Lat wr,w'=u.val) (by kernel_rfl) ?_;refine sgr [(0,8)] 2 (by kernel_rfl) ⟨⟨_,hW⟩,rfl⟩ ?_;simp only[pkE];repeat go_big_quiet_step (fail)
   refine wpQuiet_nil ?_;refine cla 8 (some 25) 161 #[.agg #[.int .i64 z0,.bool z1,.int .i64 z2],.agg #[.int .i64 z0,.bool z1,.int .i64 z2]] 1 (by kernel_rfl) ?_;refine(z7K _ _ _ _).mono ?_;rintro e w2 ⟨rfl,E⟩;replace hW:=hW.trans (E.mono hW.size);clear E;refine⟨_,rfl,⟨⟨_,hW⟩,rfl⟩,?_⟩;simp only[Act.put,pjE];refine sgr [(9,1)] 0 (by kernel_rfl) ⟨⟨_,hW⟩,rfl⟩ ?_;simp only[pkE];repeat go_big_quiet_step (fail)
   refine wpQuiet_nil ?_;refine z0f (by kernel_rfl) ?_;replace hb:=hb.trans (hW.mono hb.size);clear k0 l0 k1 l1 k2 l2 hW J
   go_wp2
   go_roundw
   case rel=>exact⟨k+1,by omega,by go_num,hb⟩
   case measure=>simp[intOf];omega
  ·go_wp2
   go_ret;exact⟨rfl,hb⟩
def z93(c:Int)(n:Nat):List UndoD:=(List.range n).map fun(i:Nat)=>⟨c+((i*3:Nat):Int),((c+((i*3+1:Nat):Int)) % 3==0),c+((i*3+2:Nat):Int)⟩
theorem z7L(a:Option Addr)(n cap:Nat)(c:Int)(w:World)(hn:n≤9223372036854775807)(h0:0≤c)(h1:c≤1099511627776):
  Calls Tryz.prog 101 #[.slice a n cap,.int .i64 c] w fun e w'=>e=.returned (.int .i64 (if c-n<0 then -1 else c-n))∧w'=w:=by
 by_cases h:c-n<0
 ·rw[if_pos h];go_enter Tryz.func101,Tryz.ntmps101
  go_wp2
  go_ret;exact⟨rfl,rfl⟩
 ·rw[if_neg h];go_enter Tryz.func101,Tryz.ntmps101
  go_wp2
  go_ret;exact⟨rfl,rfl⟩
def itemK:Kind ItemD where
 ty:=187
 size:=2
 cells:=ItemD.cells
 own _ _:=True
 rd _ _:=True
 foot _:=[]
 len _:=rfl
 own_rd _:=trivial
 own_out _ _ _:=trivial
 own_lt _ k hk:=by simp at hk
 rd_below _ _:=trivial
theorem z0T{w:World}{a:Option Addr}{n cap:Nat}{zs:List ItemD}(h:itemK.At w (.slice a n cap) zs):n=zs.length∧ItemRow w a zs:=by
 obtain⟨a',c,e,hl,_⟩:=h;simp only[Value.slice.injEq]at e;obtain⟨rfl,rfl,_⟩:=e;exact⟨rfl,hl⟩
theorem z0s(v:Value)(zs:List ItemD):itemK.fp v zs=blk v:=by
 have:zs.flatMap itemK.foot=[]:=by simp[show∀z,itemK.foot z=[]from fun _=>rfl]
 simp[Kind.fp,this]
def undoK:Kind UndoD where
 ty:=223
 size:=3
 cells:=UndoD.cells
 own _ _:=True
 rd _ _:=True
 foot _:=[]
 len _:=rfl
 own_rd _:=trivial
 own_out _ _ _:=trivial
 own_lt _ k hk:=by simp at hk
 rd_below _ _:=trivial
theorem z1I{w:World}{a:Option Addr}{n cap:Nat}{zs:List UndoD}(h:undoK.At w (.slice a n cap) zs):n=zs.length∧UndoRow w a zs:=by
 obtain⟨a',c,e,hl,_⟩:=h;simp only[Value.slice.injEq]at e;obtain⟨rfl,rfl,_⟩:=e;exact⟨rfl,hl⟩
theorem z0U(v:Value)(zs:List UndoD):undoK.fp v zs=blk v:=by
 have:zs.flatMap undoK.foot=[]:=by simp[show∀z,undoK.foot z=[]from fun _=>rfl]
 simp[Kind.fp,this]
theorem z6F(v:Value)(zs:List ItemD)(c:Int)(w:World)(h:itemK.At w v zs)(hn:zs.length≤9223372036854775807)(h0:0≤c)(h1:c≤1048576):
  Calls Tryz.prog 77 #[v,.int .i64 c] w fun e w'=>∃r:Int,e=.returned (.int .i64 r)∧(¬r<0→(zs.length:Int)+r=c)∧Below w.heap.size w w':=by
 obtain⟨a,cap,rfl⟩:=h.shape;refine(z7I a zs.length cap c w hn h0 (by omega)).mono ?_;rintro e w' ⟨rfl,rfl⟩;refine⟨_,rfl,?_,Below.refl _ _⟩;split<;>omega
theorem z6G(v:Value)(zs:List ItemD)(w:World)(h:itemK.At w v zs)(hl:zs.length≤1048576):
  Calls Tryz.prog 89 #[v] w fun e w'=>∃v',e=.returned v'∧itemK.Own w' v' zs∧(itemK.fp v' zs).Nodup∧(∀k∈itemK.fp v' zs,w.heap.size≤k)∧Below w.heap.size w w':=by
 obtain⟨a,cap,rfl⟩:=h.shape;refine(z7G a cap zs w (z0T h).2 hl).mono ?_;rintro e w' ⟨g,c,rfl,ho,hb⟩;obtain⟨o,hk⟩:=z0y ho;refine⟨_,rfl,⟨o,fun _ _=>trivial⟩,?_,?_,hb⟩
 ·rw[z0s];exact z0w _
 ·rw[z0s];exact hk
theorem z6H(v v':Value)(zs:List ItemD)(w:World)(h:itemK.At w v zs)(h':itemK.At w v' zs)(hl:zs.length≤1048576):
  Calls Tryz.prog 98 #[v,v'] w fun e w'=>e=.returned (.bool true)∧Below w.heap.size w w':=by
 obtain⟨a,cap,rfl⟩:=h.shape;obtain⟨a',cap',rfl⟩:=h'.shape;exact z6C a a' cap cap' zs w (z0T h).2 (z0T h').2 (by omega)
theorem z94(v:Value)(zs:List UndoD)(c:Int)(w:World)(h:undoK.At w v zs)(hn:zs.length≤9223372036854775807)(h0:0≤c)(h1:c≤1048576):
  Calls Tryz.prog 101 #[v,.int .i64 c] w fun e w'=>∃r:Int,e=.returned (.int .i64 r)∧(¬r<0→(zs.length:Int)+r=c)∧Below w.heap.size w w':=by
 obtain⟨a,cap,rfl⟩:=h.shape;refine(z7L a zs.length cap c w hn h0 (by omega)).mono ?_;rintro e w' ⟨rfl,rfl⟩;refine⟨_,rfl,?_,Below.refl _ _⟩;split<;>omega
theorem z95(v:Value)(zs:List UndoD)(w:World)(h:undoK.At w v zs)(hl:zs.length≤1048576):
  Calls Tryz.prog 114 #[v] w fun e w'=>∃v',e=.returned v'∧undoK.Own w' v' zs∧(undoK.fp v' zs).Nodup∧(∀k∈undoK.fp v' zs,w.heap.size≤k)∧Below w.heap.size w w':=by
 obtain⟨a,cap,rfl⟩:=h.shape;refine(z7J a cap zs w (z1I h).2 hl).mono ?_;rintro e w' ⟨g,c,rfl,ho,hb⟩;obtain⟨o,hk⟩:=z0y ho;refine⟨_,rfl,⟨o,fun _ _=>trivial⟩,?_,?_,hb⟩
 ·rw[z0U];exact z0w _
 ·rw[z0U];exact hk
theorem z96(v v':Value)(zs:List UndoD)(w:World)(h:undoK.At w v zs)(h':undoK.At w v' zs)(hl:zs.length≤1048576):
  Calls Tryz.prog 128 #[v,v'] w fun e w'=>e=.returned (.bool true)∧Below w.heap.size w w':=by
 obtain⟨a,cap,rfl⟩:=h.shape;obtain⟨a',cap',rfl⟩:=h'.shape;exact z6E a a' cap cap' zs w (z1I h).2 (z1I h').2 (by omega)
structure USQ where
 va:Value
 us:List UndoD
def ussK:Kind USQ where
 ty:=190
 size:=1
 cells p:=[p.va]
 own w p:=undoK.Own w p.va p.us
 rd w p:=undoK.At w p.va p.us
 foot p:=undoK.fp p.va p.us
 len _:=rfl
 own_rd h:=h.at
 own_out h ho hd:=h.out ho hd
 own_lt h:=h.lt
 rd_below h hb:=h.below hb
def USQ.e(p:USQ):List UndoD:=p.us
def USQ.n(p:USQ):Nat:=p.us.length
def USQ.wf(p:USQ):Prop:=p.us.length≤9223372036854775807
theorem z3h:(Tryz.prog.info? 190).map (fun i=>(i.zero,i.size,i.bytes))=some (some (.slice none 0 0),1,24):=by kernel_rfl
theorem q3O(p:USQ)(c:Int)(w:World)(h:ussK.rd w p)(hn:USQ.wf p)(h0:0≤c)(h1:c≤1048576):
  Calls Tryz.prog 101 #[p.va,.int .i64 c] w fun e w'=>∃r:Int,e=.returned (.int .i64 r)∧(¬r<0→(USQ.n p:Int)+r=c)∧Below w.heap.size w w':=z94 p.va p.us c w h hn h0 h1
theorem q3P(p p':USQ)(w:World)(h:ussK.rd w p)(h':ussK.rd w p')(he:p.e=p'.e)(hl:USQ.n p≤1048576):
  Calls Tryz.prog 128 #[p.va,p'.va] w fun e w'=>e=.returned (.bool true)∧Below w.heap.size w w':=by
 obtain⟨va,us⟩:=p;obtain⟨va',us'⟩:=p';have he:us=us':=he;subst he;exact z96 va va' us w h h' hl
theorem q3Q(p:USQ)(w:World)(h:ussK.rd w p)(hl:USQ.n p≤1048576):
  Calls Tryz.prog 114 #[p.va] w fun e w'=>∃p':USQ,e=.returned p'.va∧p'.e=p.e∧ussK.own w' p'∧(ussK.foot p').Nodup∧(∀k∈ussK.foot p',w.heap.size≤k)∧Below w.heap.size w w':=by
 refine(z95 p.va p.us w h hl).mono ?_;rintro e w' ⟨v',rfl,ho,hn,hg,hb⟩;exact⟨⟨v',p.us⟩,rfl,rfl,ho,hn,hg,hb⟩
theorem q2W(v:Value)(ps:List USQ)(c:Int)(w:World)(h:ussK.At w v ps)(hn:ps.length≤9223372036854775807)(J:∀p∈ps,USQ.wf p)(h0:0≤c)(h1:c≤1048576):
  Calls Tryz.prog 78 #[v,.int .i64 c] w fun e w'=>∃r:Int,e=.returned (.int .i64 r)∧(¬r<0→((ps.length+nmL USQ.n ps:Nat):Int)+r=c)∧Below w.heap.size w w':=by
 obtain⟨a,cap,rfl⟩:=h.shape;by_cases U:c-ps.length<0
 ·go_enter Tryz.func78,Tryz.ntmps78
  go_wp2
  go_ret;exact⟨_,rfl,fun h=>by omega,Below.refl _ _⟩
 ·go_enter Tryz.func78,Tryz.ntmps78
  go_wp2
  go_loopw[1,5] (fun l i wr=>∃ (k:Nat) (x:Int),k≤ps.length∧i=.int .i64 k∧l=.int .i64 x∧0≤x∧x≤1048576∧Hid (ps.length+nmL USQ.n (ps.take k)+x=c)∧Below w.heap.size w wr) (fun _ i _=>ps.length-(intOf i).toNat)
  case atStart=>exact⟨0,c-ps.length,Nat.zero_le _,rfl,by go_num,by omega,by omega,show _=_ by simp[nmL];omega,Below.refl _ _⟩
  case round=>
   obtain⟨k,x,hk,rfl,rfl,N,O,HS,hb⟩:=hrel;by_cases d:k<ps.length
   ·obtain⟨b,T,rfl,W,hc,M⟩:=(h.below hb).cell (by decide) k d;have C:∀j x,(ussK.cells ps[k])[j]?=some x→wr.cell? ⟨b,T+k+j,none⟩=some x:=fun j x hx=>by have:=hc j x hx;rwa [show k*ussK.size=k from Nat.mul_one k]at this
    have c0:=C 0 (ps[k].va) rfl;have hs:=z2h USQ.n ps k d;have HN:=J _ (List.getElem_mem d);have z:Hid (∀y:Int,(USQ.n ps[k]:Int)+y=x→ps.length+nmL USQ.n (ps.take (k+1))+y=c):=by
     intro y hy;have:=HS.out;omega
    clear HS hs hc C;generalize ps[k]=p at*;have E:=q3O p x wr M HN N O;generalize USQ.n p=m at*;rw[Nat.add_zero]at c0
    go_wp2_with fail
    refine E.mono ?_;rintro e w2 ⟨r,rfl,hr,A⟩;replace hb:=hb.trans (A.mono hb.size);clear A E c0;by_cases V:r<0
    ·go_wp2
     go_ret;exact⟨_,rfl,fun h=>by omega,hb⟩
    ·have D:=hr (by omega);have HR:Hid (ps.length+nmL USQ.n (ps.take (k+1))+r=c):=z.out r D;have L:r≤1048576:=by omega
     clear z hr D
     go_wp2
     go_roundw
     case rel=>exact⟨k+1,r,by omega,by go_num,rfl,by omega,L,HR.out,hb⟩
     case measure=>simp[intOf];omega
   ·have I:k=ps.length:=by omega
    subst I;rw[List.take_length]at HS
    go_wp2
    go_ret;exact⟨_,rfl,fun _=>by have:=HS.out;omega,hb⟩
theorem q2X(v v':Value)(ps qs:List USQ)(w:World)(h:ussK.At w v ps)(h':ussK.At w v' qs)(he:ps.map USQ.e=qs.map USQ.e)(hl:(ps.length+nmL USQ.n ps)≤1048576):
  Calls Tryz.prog 99 #[v,v'] w fun e w'=>e=.returned (.bool true)∧Below w.heap.size w w':=by
 obtain⟨a,cap,rfl⟩:=h.shape;obtain⟨a',T,rfl⟩:=h'.shape;have c:qs.length=ps.length:=by
  have:=congrArg List.length he;simpa using this.symm
 rw[c]at h'⊢;have HL:Hid (qs.length=ps.length):=c;clear c;go_enter Tryz.func99,Tryz.ntmps99
 go_wp2
 go_loopw[5] (fun i wr=>∃k:Nat,k≤ps.length∧i=.int .i64 k∧Below w.heap.size w wr) (fun i _=>ps.length-(intOf i).toNat)
 case atStart=>exact⟨0,Nat.zero_le _,rfl,Below.refl _ _⟩
 case round=>
  obtain⟨k,hk,rfl,hb⟩:=hrel;by_cases z:k<ps.length
  ·have d:k<qs.length:=by have:=HL.out;omega
   obtain⟨b,O,rfl,V,hc,J⟩:=(h.below hb).cell (by decide) k z;obtain⟨b',L,rfl,U,hd,y⟩:=(h'.below hb).cell (by decide) k d;have D:∀j x,(ussK.cells ps[k])[j]?=some x→wr.cell? ⟨b,O+k+j,none⟩=some x:=fun j x hx=>by have:=hc j x hx;rwa [show k*ussK.size=k from Nat.mul_one k]at this
   have E:∀j x,(ussK.cells qs[k])[j]?=some x→wr.cell? ⟨b',L+k+j,none⟩=some x:=fun j x hx=>by have:=hd j x hx;rwa [show k*ussK.size=k from Nat.mul_one k]at this
   have c0:=D 0 (ps[k].va) rfl;have d0:=E 0 (qs[k].va) rfl;have I:USQ.e ps[k]=USQ.e qs[k]:=by
    have:=congrArg (·[k]?) he;simpa[z,d]using this
   have N:=z0W USQ.n ps k z;clear hc D hd E;generalize ps[k]=p at*;generalize qs[k]=p' at*;have A:=fun w h1 h2=>q3P p p' w h1 h2 I (show USQ.n p≤1048576 by omega)
   clear I N;rw[Nat.add_zero]at c0 d0;have k0:=z0a c0;have l0:=z0a d0;clear c0 d0;have hW:Below wr.heap.size wr wr.drew:=(Below.refl _ _).drew;have M:Nonempty (Lat wr):=⟨⟨wr,Below.refl _ _⟩⟩
   go_wp2_with fail
   refine z0b (S:=fun w'=>∃u:Lat wr,w'=u.val) (by kernel_rfl) ?_;refine sgr [(0,8)] 2 (by kernel_rfl) ⟨⟨_,hW⟩,rfl⟩ ?_;simp only[pkE];repeat go_big_quiet_step (fail)
   refine wpQuiet_nil ?_;refine cla 8 (some 25) 128 #[p.va,p'.va] 1 (by kernel_rfl) ?_;refine(A _ (ussK.rd_below J hW) (ussK.rd_below y hW)).mono ?_;rintro e w2 ⟨rfl,C⟩;replace hW:=hW.trans (C.mono hW.size);clear C;refine⟨_,rfl,⟨⟨_,hW⟩,rfl⟩,?_⟩;simp only[Act.put,pjE];refine sgr [(9,1)] 0 (by kernel_rfl) ⟨⟨_,hW⟩,rfl⟩ ?_;simp only[pkE];repeat go_big_quiet_step (fail)
   refine wpQuiet_nil ?_;refine z0f (by kernel_rfl) ?_;replace hb:=hb.trans (hW.mono hb.size);clear k0 l0 hW M J y A
   go_wp2
   go_roundw
   case rel=>exact⟨k+1,by omega,by go_num,hb⟩
   case measure=>simp[intOf];omega
  ·go_wp2
   go_ret;exact⟨rfl,hb⟩
theorem q2Y(v:Value)(ps:List USQ)(w:World)(h:ussK.At w v ps)(hl:(ps.length+nmL USQ.n ps)≤1048576):
  Calls Tryz.prog 90 #[v] w fun e w'=>∃v' qs,e=.returned v'∧qs.map USQ.e=ps.map USQ.e∧ussK.Own w' v' qs∧(ussK.fp v' qs).Nodup∧(∀k∈ussK.fp v' qs,w.heap.size≤k)∧Below w.heap.size w w':=by
 obtain⟨a,cap,rfl⟩:=h.shape;obtain⟨i0,hi,ao,ap,aq⟩:=info_parts z3h;have J:i0.bytes*ps.length≤281474976710656:=by rw[aq];omega
 have ae:ps.length≤maxLen:=by unfold maxLen;omega
 go_enter Tryz.func90,Tryz.ntmps90
 go_wp2_with (at_make;refine wpList_make_full _ rfl _ _ 71 rfl w.heap.size 190 i0 (.slice none 0 0) 1 Tryz.underlying71 hi ao ap _ _ _ _ ps.length rfl rfl rfl rfl J ae (Nat.le_refl _) ?_)
 intro w1 M C;have Y:Below w.heap.size w w1:=(Below.refl _ _).grown C (Nat.le_refl _) (by simp);have hO:ussK.Own w1 (.slice (some ⟨w.heap.size,0,none⟩) ps.length ps.length) (List.replicate ps.length (⟨.slice none 0 0,[]⟩:USQ)):=by
  refine⟨?_,fun p hp=>?_⟩
  ·rw[List.length_replicate,←z2M (⟨.slice none 0 0,[]⟩:USQ) _ (by decide)];rw[show ps.length*ussK.size=ps.length from Nat.mul_one _];exact z0p M (Nat.zero_le _)
  ·rw[(List.mem_replicate.1 hp).2];exact⟨World.ownsRow_nil _ _ _ _,fun p hp=>by simp at hp⟩
 have hF:ussK.fp (.slice (some ⟨w.heap.size,0,none⟩) ps.length ps.length) (List.replicate ps.length (⟨.slice none 0 0,[]⟩:USQ))=[w.heap.size]:=z6x rfl;have HN:Hid ((ussK.fp (.slice (some ⟨w.heap.size,0,none⟩) ps.length ps.length) (List.replicate ps.length (⟨.slice none 0 0,[]⟩:USQ))).Nodup):=by rw[hF];show List.Nodup _;simp
 have HG:Hid (∀x∈ussK.fp (.slice (some ⟨w.heap.size,0,none⟩) ps.length ps.length) (List.replicate ps.length (⟨.slice none 0 0,[]⟩:USQ)),w.heap.size≤x):=by rw[hF];intro x hx;simp at hx;omega
 have HZ:Hid (∀j (hj:j<(List.replicate ps.length (⟨.slice none 0 0,[]⟩:USQ)).length),0≤j→(List.replicate ps.length (⟨.slice none 0 0,[]⟩:USQ))[j]=(⟨.slice none 0 0,[]⟩:USQ)):=fun j hj _=>by simp
 have af:(List.replicate ps.length (⟨.slice none 0 0,[]⟩:USQ)).length=ps.length:=by simp
 clear M C hF;generalize List.replicate ps.length (⟨.slice none 0 0,[]⟩:USQ)=aj at*;have HE:Hid ((aj.take 0).map USQ.e=(ps.take 0).map USQ.e):=show _=_ by simp
 go_wp2
 go_loopw [4] (fun i wr=>∃ (k:Nat) (qs:List USQ),k≤ps.length∧i=.int .i64 k∧Hid (qs.length=ps.length)∧Hid ((qs.take k).map USQ.e=(ps.take k).map USQ.e)∧Hid (∀ j (hj:j < qs.length),k≤j→qs[j]=(⟨.slice none 0 0,[]⟩:USQ))∧ussK.Own wr (.slice (some ⟨w.heap.size,0,none⟩) ps.length ps.length) qs ∧
  Hid ((ussK.fp (.slice (some ⟨w.heap.size,0,none⟩) ps.length ps.length) qs).Nodup)∧Hid (∀ x∈ussK.fp (.slice (some ⟨w.heap.size,0,none⟩) ps.length ps.length) qs,w.heap.size≤x)∧Below w.heap.size w wr) (fun i _=>ps.length - (intOf i).toNat)
 case atStart=>exact⟨0,aj,Nat.zero_le _,rfl,af,HE,HZ,hO,HN,HG,Y⟩
 case round=>
  clear HE HZ hO HN HG Y af;obtain⟨k,qs,hk,rfl,HQ,HE,HZ,hO,HN,HG,hb⟩:=hrel;by_cases U:k<ps.length
  ·have c:k<qs.length:=by have:=HQ.out;omega
   have W:=HZ.out k c (Nat.le_refl _);obtain⟨b,ar,rfl,au,hc,ag⟩:=(h.below hb).cell (by decide) k U;have aa:∀j x,(ussK.cells ps[k])[j]?=some x→wr.cell? ⟨b,ar+k+j,none⟩=some x:=fun j x hx=>by have:=hc j x hx;rwa [show k*ussK.size=k from Nat.mul_one k]at this
   have c0:=aa 0 (ps[k].va) rfl;have ax:=z0W USQ.n ps k U;have X:Hid (∀p':USQ,p'.e=USQ.e ps[k]→((qs.set k p').take (k+1)).map USQ.e=(ps.take (k+1)).map USQ.e):=by
    intro p' am;have h1:=HE.out;rw[List.take_succ_eq_append_getElem U,List.take_succ_eq_append_getElem (show k<(qs.set k p').length by simpa using c)];simp only[List.map_append,List.map_cons,List.map_nil,List.getElem_set_self,am,List.take_set_of_le (Nat.le_refl k),h1]
   clear hc aa;generalize ps[k]=p at*;have ah:=q3Q p wr ag (by omega);rw[Nat.add_zero]at c0
   go_wp2_with fail
   refine ah.mono ?_;rintro e w2 ⟨p',rfl,V,d,D,y,Z⟩;obtain⟨x0,y0⟩:=p';have o0:undoK.Own w2 x0 y0:=d;obtain⟨a0,b0,rfl⟩:=o0.shape;clear o0;dsimp only;generalize hP:(⟨.slice a0 y0.length b0,y0⟩:USQ)=p' at V d D y;have O:ussK.cells p'=[.slice a0 y0.length b0]:=by rw[←hP];rfl
   have I:=hO.below Z;obtain⟨e0,f0⟩:=I.cell k c 0 _ (by rw[W];rfl);have ad:∀j,k*ussK.size+j=k+j:=fun j=>by rw[show k*ussK.size=k from Nat.mul_one k]
   rw[ad]at e0 f0;rw[Nat.add_zero]at e0 f0;have z:=I.1;have hQ:=HQ.out;rw[hQ]at z;have A:=z1m z (k) [.slice a0 y0.length b0];rw[←O]at A;have T:∀x∈ussK.fp (.slice (some ⟨w.heap.size,0,none⟩) ps.length ps.length) qs,x<wr.heap.size:=hO.lt;have ab:w.heap.size∈ussK.fp (.slice (some ⟨w.heap.size,0,none⟩) ps.length ps.length) qs:=by simp[Kind.fp,blk,Value.ownBlock]
   have av:w.heap.size<wr.heap.size:=T _ ab;have E:=HN.out;have L:∀x∈ussK.foot p',x∉ussK.fp (.slice (some ⟨w.heap.size,0,none⟩) ps.length ps.length) qs:=fun x hx an=>by have:=y x hx;have:=T x an;omega
   have N:ussK.Own (w2.setCell ⟨w.heap.size,k,none⟩ (.slice a0 y0.length b0)) (.slice (some ⟨w.heap.size,0,none⟩) ps.length ps.length) (qs.set k p'):=by
    refine Kind.Own.put I k c p' ?_ (Out.setCell _ _ _ _) ?_ d ?_
    ·rw[hQ];rw[show k*ussK.size=k from Nat.mul_one k];rw[O]at A⊢;exact A
    ·intro q hq x hx ai;simp only[Kind.fp,blk,Value.ownBlock,Option.toList,List.cons_append,List.nil_append,List.nodup_cons]at E;exact E.1 (List.mem_flatMap.2 ⟨q,hq,ai▸hx⟩)
    ·intro x hx ai;have:=y x hx;omega
   have R:Hid (ussK.Own (w2.setCell ⟨w.heap.size,k,none⟩ (.slice a0 y0.length b0)) (.slice (some ⟨w.heap.size,0,none⟩) ps.length ps.length) (qs.set k p')∧Below w.heap.size w (w2.setCell ⟨w.heap.size,k,none⟩ (.slice a0 y0.length b0))):=by
    refine⟨N,?_⟩;have ak:=hb.trans (Z.mono hb.size);exact(ak.setCell (p:=⟨w.heap.size,k,none⟩) (Nat.le_refl _) _)
   have R1:Hid ((ussK.fp (.slice (some ⟨w.heap.size,0,none⟩) ps.length ps.length) (qs.set k p')).Nodup):=z12 E k c p' (by rw[W];rfl) D L;have R2:Hid (∀x∈ussK.fp (.slice (some ⟨w.heap.size,0,none⟩) ps.length ps.length) (qs.set k p'),w.heap.size≤x):=by
    intro x hx;simp only[Kind.fp,List.mem_append]at hx;rcases hx with hx|hx
    ·exact HG.out x (by simp only[Kind.fp,List.mem_append];exact Or.inl hx)
    ·rcases z1e c hx with hx|hx
     ·exact HG.out x (by simp only[Kind.fp,List.mem_append];exact Or.inr hx)
     ·have:=y x hx;omega
   have R3:Hid (∀j (hj:j<(qs.set k p').length),k+1≤j→(qs.set k p')[j]=(⟨.slice none 0 0,[]⟩:USQ)):=fun j hj aw=>by
    rw[List.getElem_set_ne (by omega)];exact HZ.out j (by simpa using hj) (by omega)
   have R4:Hid ((qs.set k p').length=ps.length):=by rw[List.length_set];exact HQ.out
   have R5:Hid (((qs.set k p').take (k+1)).map USQ.e=(ps.take (k+1)).map USQ.e):=X.out p' V;clear N A z hQ I hO HN HG HZ HE HQ X E L d D y T ab hb W ag ah V ad O hP
   go_wp2
   go_roundw
   case rel=>exact⟨k+1,qs.set k p',by omega,by go_num,R4.out,R5.out,R3.out,R.out.1,R1.out,R2.out,R.out.2⟩
   case measure=>simp[intOf];omega
  ·have al:k=ps.length:=by omega
   subst al;have hQ:=HQ.out;have hE:=HE.out;rw[List.take_length,List.take_of_length_le (by omega)]at hE;clear HE HZ
   go_wp2
   go_ret;exact⟨_,qs,rfl,hE,hO,HN.out,HG.out,hb⟩
structure RepQ where
 vd:Value
 done:List TxnQ
 vb:Value
 base:List ItemD
 vt:Value
 tent:List TxnQ
 vu:Value
 undos:List USQ
 vn:Value
 now:List ItemD
structure RepE where
 done:List TxnD
 base:List ItemD
 tent:List TxnD
 undos:List (List UndoD)
 now:List ItemD
def RepQ.e(p:RepQ):RepE:=⟨p.done.map TxnQ.e,p.base,p.tent.map TxnQ.e,p.undos.map USQ.e,p.now⟩
def repK:Kind RepQ where
 ty:=73
 size:=5
 cells p:=[p.vd,p.vb,p.vt,p.vu,p.vn]
 own w p:=txnK.Own w p.vd p.done∧itemK.Own w p.vb p.base∧txnK.Own w p.vt p.tent∧ussK.Own w p.vu p.undos∧itemK.Own w p.vn p.now
 rd w p:=txnK.At w p.vd p.done∧itemK.At w p.vb p.base∧txnK.At w p.vt p.tent∧ussK.At w p.vu p.undos∧itemK.At w p.vn p.now
 foot p:=txnK.fp p.vd p.done++(itemK.fp p.vb p.base++(txnK.fp p.vt p.tent++(ussK.fp p.vu p.undos++itemK.fp p.vn p.now)))
 len _:=rfl
 own_rd h:=⟨h.1.at,h.2.1.at,h.2.2.1.at,h.2.2.2.1.at,h.2.2.2.2.at⟩
 own_out h ho hd:=⟨h.1.out ho (fun k hk=>hd k (List.mem_append_left _ hk)),h.2.1.out ho (fun k hk=>hd k (List.mem_append_right _ (List.mem_append_left _ hk))),h.2.2.1.out ho (fun k hk=>hd k (List.mem_append_right _ (List.mem_append_right _ (List.mem_append_left _ hk)))),h.2.2.2.1.out ho (fun k hk=>hd k (List.mem_append_right _ (List.mem_append_right _ (List.mem_append_right _ (List.mem_append_left _ hk))))),h.2.2.2.2.out ho (fun k hk=>hd k (List.mem_append_right _ (List.mem_append_right _ (List.mem_append_right _ (List.mem_append_right _ hk)))))⟩
 own_lt h k hk:=by
  rcases List.mem_append.1 hk with hk|hk
  ·exact h.1.lt k hk
  rcases List.mem_append.1 hk with hk|hk
  ·exact h.2.1.lt k hk
  rcases List.mem_append.1 hk with hk|hk
  ·exact h.2.2.1.lt k hk
  rcases List.mem_append.1 hk with hk|hk
  ·exact h.2.2.2.1.lt k hk
  ·exact h.2.2.2.2.lt k hk
 rd_below h hb:=⟨h.1.below hb,h.2.1.below hb,h.2.2.1.below hb,h.2.2.2.1.below hb,h.2.2.2.2.below hb⟩
def RepQ.n(p:RepQ):Nat:=(p.done.length+nmL TxnQ.n p.done)+p.base.length+(p.tent.length+nmL TxnQ.n p.tent)+(p.undos.length+nmL USQ.n p.undos)+p.now.length
def RepQ.wf(p:RepQ):Prop:=(p.done.length≤9223372036854775807∧∀q∈p.done,TxnQ.wf q)∧p.base.length≤9223372036854775807∧(p.tent.length≤9223372036854775807∧∀q∈p.tent,TxnQ.wf q)∧(p.undos.length≤9223372036854775807∧∀q∈p.undos,USQ.wf q)∧p.now.length≤9223372036854775807
theorem z7M(p:RepQ)(c:Int)(w:World)(h:repK.rd w p)(hn:RepQ.wf p)(h0:0≤c)(h1:c≤1048576):
  Calls Tryz.prog 52 #[.agg #[p.vd,p.vb,p.vt,p.vu,p.vn],.int .i64 c] w fun e w'=>∃r:Int,e=.returned (.int .i64 r)∧(¬r<0→(RepQ.n p:Int)+r=c)∧Below w.heap.size w w':=by
 obtain⟨vd,done,vb,base,vt,x,vu,d,vn,y⟩:=p;obtain⟨V,X,Y,Z,aa⟩:txnK.At w vd done∧itemK.At w vb base∧txnK.At w vt x∧ussK.At w vu d∧itemK.At w vn y:=h;obtain⟨z,ab,A,C,ad⟩:(done.length≤9223372036854775807∧∀p∈done,TxnQ.wf p)∧base.length≤9223372036854775807∧(x.length≤9223372036854775807∧∀p∈x,TxnQ.wf p)∧(d.length≤9223372036854775807∧∀p∈d,USQ.wf p)∧y.length≤9223372036854775807:=hn;obtain⟨a0,k0,rfl⟩:=V.shape;obtain⟨a1,k1,rfl⟩:=X.shape;obtain⟨a2,k2,rfl⟩:=Y.shape;obtain⟨a3,k3,rfl⟩:=Z.shape;obtain⟨a4,k4,rfl⟩:=aa.shape;have B:=Blk.new w 65 #[.slice a0 done.length k0,.slice a1 base.length k1,.slice a2 x.length k2,.slice a3 d.length k3,.slice a4 y.length k4];have hB:Below w.heap.size w (w.alloc (.cells #[.slice a0 done.length k0,.slice a1 base.length k1,.slice a2 x.length k2,.slice a3 d.length k3,.slice a4 y.length k4] 65)):=by go_grown
 dsimp only[RepQ.n];go_enter Tryz.func52,Tryz.ntmps52
 go_wp2_with fail
 generalize w.alloc (.cells #[.slice a0 done.length k0,.slice a1 base.length k1,.slice a2 x.length k2,.slice a3 d.length k3,.slice a4 y.length k4] 65)=W at*;refine(z5M _ done c W (V.below hB) z.1 z.2 (by omega) (by omega)).mono ?_;rintro e w0 ⟨r0,rfl,ae,D⟩;replace B:=B.below D;replace hB:=hB.trans (D.mono hB.size);clear D;by_cases M:r0<0
 ·go_wp2
  go_ret;exact⟨_,rfl,fun h=>by omega,hB⟩
 have aj:=ae M;clear ae;have p1:=B.cell 1 _ rfl
 go_wp2_with fail
 clear p1;refine(z6F _ base r0 w0 (X.below hB) ab (by omega) (by omega)).mono ?_;rintro e w1 ⟨r1,rfl,af,E⟩;replace B:=B.below E;replace hB:=hB.trans (E.mono hB.size);clear E;by_cases N:r1<0
 ·go_wp2
  go_ret;exact⟨_,rfl,fun h=>by omega,hB⟩
 have ak:=af N;clear af;have p2:=B.cell 2 _ rfl
 go_wp2_with fail
 clear p2;refine(z5M _ x r1 w1 (Y.below hB) A.1 A.2 (by omega) (by omega)).mono ?_;rintro e w2 ⟨r2,rfl,ag,I⟩;replace B:=B.below I;replace hB:=hB.trans (I.mono hB.size);clear I;by_cases O:r2<0
 ·go_wp2
  go_ret;exact⟨_,rfl,fun h=>by omega,hB⟩
 have al:=ag O;clear ag;have p3:=B.cell 3 _ rfl
 go_wp2_with fail
 clear p3;refine(q2W _ d r2 w2 (Z.below hB) C.1 C.2 (by omega) (by omega)).mono ?_;rintro e w3 ⟨r3,rfl,ah,J⟩;replace B:=B.below J;replace hB:=hB.trans (J.mono hB.size);clear J;by_cases T:r3<0
 ·go_wp2
  go_ret;exact⟨_,rfl,fun h=>by omega,hB⟩
 have am:=ah T;clear ah;have p4:=B.cell 4 _ rfl
 go_wp2_with fail
 clear p4;refine(z6F _ y r3 w3 (aa.below hB) ad (by omega) (by omega)).mono ?_;rintro e w4 ⟨r4,rfl,ai,L⟩;replace B:=B.below L;replace hB:=hB.trans (L.mono hB.size);clear L;by_cases U:r4<0
 ·go_wp2
  go_ret;exact⟨_,rfl,fun h=>by omega,hB⟩
 have an:=ai U;clear ai
 go_wp2
 go_ret;exact⟨_,rfl,fun _=>by omega,hB⟩
theorem z7N(p p':RepQ)(w:World)(h:repK.rd w p)(h':repK.rd w p')(he:p.e=p'.e)(hl:RepQ.n p≤1048576):
  Calls Tryz.prog 74 #[.agg #[p.vd,p.vb,p.vt,p.vu,p.vn],.agg #[p'.vd,p'.vb,p'.vt,p'.vu,p'.vn]] w fun e w'=>e=.returned (.bool true)∧Below w.heap.size w w':=by
 obtain⟨vd,done,vb,base,vt,A,vu,d,vn,z⟩:=p;obtain⟨an,x,am,M,ap,y,aq,c,ao,al⟩:=p';simp only[RepQ.e,RepE.mk.injEq]at he;obtain⟨N,ar,O,T,au⟩:=he;dsimp only[RepQ.n]at hl;obtain⟨aa,ab,ad,ae,af⟩:txnK.At w vd done∧itemK.At w vb base∧txnK.At w vt A∧ussK.At w vu d∧itemK.At w vn z:=h;obtain⟨U,V,X,Y,Z⟩:txnK.At w an x∧itemK.At w am M∧txnK.At w ap y∧ussK.At w aq c∧itemK.At w ao al:=h';subst ar;subst au;have ag:=fun w h1 h2=>z5N vd an done x w h1 h2 N (by omega)
 have ah:=fun w h1 h2=>z6H vb am base w h1 h2 (by omega)
 have ai:=fun w h1 h2=>z5N vt ap A y w h1 h2 O (by omega)
 have aj:=fun w h1 h2=>q2X vu aq d c w h1 h2 T (by omega)
 have ak:=fun w h1 h2=>z6H vn ao z w h1 h2 (by omega)
 obtain⟨a0,k0,rfl⟩:=aa.shape;obtain⟨b0,m0,rfl⟩:=U.shape;obtain⟨a1,k1,rfl⟩:=ab.shape;obtain⟨b1,m1,rfl⟩:=V.shape;obtain⟨a2,k2,rfl⟩:=ad.shape;obtain⟨b2,m2,rfl⟩:=X.shape;obtain⟨a3,k3,rfl⟩:=ae.shape;obtain⟨b3,m3,rfl⟩:=Y.shape;obtain⟨a4,k4,rfl⟩:=af.shape;obtain⟨b4,m4,rfl⟩:=Z.shape;have B:=(Blk.new w 73 #[.slice a0 done.length k0,.slice a1 base.length k1,.slice a2 A.length k2,.slice a3 d.length k3,.slice a4 z.length k4]).below (w':=(w.alloc (.cells #[.slice a0 done.length k0,.slice a1 base.length k1,.slice a2 A.length k2,.slice a3 d.length k3,.slice a4 z.length k4] 73)).alloc (.cells #[.slice b0 x.length m0,.slice b1 base.length m1,.slice b2 y.length m2,.slice b3 c.length m3,.slice b4 z.length m4] 73)) (by go_grown);have C:=Blk.new (w.alloc (.cells #[.slice a0 done.length k0,.slice a1 base.length k1,.slice a2 A.length k2,.slice a3 d.length k3,.slice a4 z.length k4] 73)) 73 #[.slice b0 x.length m0,.slice b1 base.length m1,.slice b2 y.length m2,.slice b3 c.length m3,.slice b4 z.length m4];have hB:Below w.heap.size w ((w.alloc (.cells #[.slice a0 done.length k0,.slice a1 base.length k1,.slice a2 A.length k2,.slice a3 d.length k3,.slice a4 z.length k4] 73)).alloc (.cells #[.slice b0 x.length m0,.slice b1 base.length m1,.slice b2 y.length m2,.slice b3 c.length m3,.slice b4 z.length m4] 73)):=by go_grown
 rw[World.size_alloc]at C;clear N O T;go_enter Tryz.func74,Tryz.ntmps74
 go_wp2_with fail
 generalize (w.alloc (.cells #[.slice a0 done.length k0,.slice a1 base.length k1,.slice a2 A.length k2,.slice a3 d.length k3,.slice a4 z.length k4] 73)).alloc (.cells #[.slice b0 x.length m0,.slice b1 base.length m1,.slice b2 y.length m2,.slice b3 c.length m3,.slice b4 z.length m4] 73)=W at*;refine(ag W (aa.below hB) (U.below hB)).mono ?_;rintro e w0 ⟨rfl,D⟩;replace B:=B.below D;replace C:=C.below D;replace hB:=hB.trans (D.mono hB.size);clear D ag;have p1:=B.cell 1 _ rfl;have q1:=C.cell 1 _ rfl
 go_wp2_with fail
 clear p1 q1;refine(ah w0 (ab.below hB) (V.below hB)).mono ?_;rintro e w1 ⟨rfl,E⟩;replace B:=B.below E;replace C:=C.below E;replace hB:=hB.trans (E.mono hB.size);clear E ah;have p2:=B.cell 2 _ rfl;have q2:=C.cell 2 _ rfl
 go_wp2_with fail
 clear p2 q2;refine(ai w1 (ad.below hB) (X.below hB)).mono ?_;rintro e w2 ⟨rfl,I⟩;replace B:=B.below I;replace C:=C.below I;replace hB:=hB.trans (I.mono hB.size);clear I ai;have p3:=B.cell 3 _ rfl;have q3:=C.cell 3 _ rfl
 go_wp2_with fail
 clear p3 q3;refine(aj w2 (ae.below hB) (Y.below hB)).mono ?_;rintro e w3 ⟨rfl,J⟩;replace B:=B.below J;replace C:=C.below J;replace hB:=hB.trans (J.mono hB.size);clear J aj;have p4:=B.cell 4 _ rfl;have q4:=C.cell 4 _ rfl
 go_wp2_with fail
 clear p4 q4;refine(ak w3 (af.below hB) (Z.below hB)).mono ?_;rintro e w4 ⟨rfl,L⟩;replace B:=B.below L;replace C:=C.below L;replace hB:=hB.trans (L.mono hB.size);clear L ak
 go_wp2
 go_ret;exact⟨rfl,hB⟩
theorem z4p{A B:List Nat}{m:Nat}(hA:∀k∈A,k<m)(hB:∀k∈B,m≤k):∀a∈A,∀b∈B,a≠b:=fun a ha b hb e=>by
 have:=hA a ha;have:=hB b hb;omega
theorem z7O(p:RepQ)(w:World)(h:repK.rd w p)(hl:RepQ.n p≤1048576):
  Calls Tryz.prog 60 #[.agg #[p.vd,p.vb,p.vt,p.vu,p.vn]] w fun e w'=>∃p':RepQ,e=.returned (.agg #[p'.vd,p'.vb,p'.vt,p'.vu,p'.vn])∧p'.e=p.e∧repK.own w' p'∧(repK.foot p').Nodup∧(∀k∈repK.foot p',w.heap.size≤k)∧Below w.heap.size w w':=by
 obtain⟨vd,done,vb,base,vt,E,vu,c,vn,y⟩:=p;dsimp only[RepQ.n]at hl;obtain⟨N,O,T,U,V⟩:txnK.At w vd done∧itemK.At w vb base∧txnK.At w vt E∧ussK.At w vu c∧itemK.At w vn y:=h;have X:=fun w h1=>z5O vd done w h1 (by omega)
 have Y:=fun w h1=>z6G vb base w h1 (by omega)
 have Z:=fun w h1=>z5O vt E w h1 (by omega)
 have aa:=fun w h1=>q2Y vu c w h1 (by omega)
 have ab:=fun w h1=>z6G vn y w h1 (by omega)
 obtain⟨a0,k0,rfl⟩:=N.shape;obtain⟨a1,k1,rfl⟩:=O.shape;obtain⟨a2,k2,rfl⟩:=T.shape;obtain⟨a3,k3,rfl⟩:=U.shape;obtain⟨a4,k4,rfl⟩:=V.shape;have B:=(Blk.new w 65 #[.slice a0 done.length k0,.slice a1 base.length k1,.slice a2 E.length k2,.slice a3 c.length k3,.slice a4 y.length k4]).below (w':=((w.alloc (.cells #[.slice a0 done.length k0,.slice a1 base.length k1,.slice a2 E.length k2,.slice a3 c.length k3,.slice a4 y.length k4] 65)).alloc (.cells #[.slice none 0 0,.slice none 0 0,.slice none 0 0,.slice none 0 0,.slice none 0 0] 73)).alloc (.cells #[.slice none 0 0,.slice none 0 0,.slice none 0 0,.slice none 0 0,.slice none 0 0] 73)) (by go_grown);have C:=(Blk.new (w.alloc (.cells #[.slice a0 done.length k0,.slice a1 base.length k1,.slice a2 E.length k2,.slice a3 c.length k3,.slice a4 y.length k4] 65)) 73 #[.slice none 0 0,.slice none 0 0,.slice none 0 0,.slice none 0 0,.slice none 0 0]).below (w':=((w.alloc (.cells #[.slice a0 done.length k0,.slice a1 base.length k1,.slice a2 E.length k2,.slice a3 c.length k3,.slice a4 y.length k4] 65)).alloc (.cells #[.slice none 0 0,.slice none 0 0,.slice none 0 0,.slice none 0 0,.slice none 0 0] 73)).alloc (.cells #[.slice none 0 0,.slice none 0 0,.slice none 0 0,.slice none 0 0,.slice none 0 0] 73)) (by go_grown);have D:=Blk.new ((w.alloc (.cells #[.slice a0 done.length k0,.slice a1 base.length k1,.slice a2 E.length k2,.slice a3 c.length k3,.slice a4 y.length k4] 65)).alloc (.cells #[.slice none 0 0,.slice none 0 0,.slice none 0 0,.slice none 0 0,.slice none 0 0] 73)) 73 #[.slice none 0 0,.slice none 0 0,.slice none 0 0,.slice none 0 0,.slice none 0 0];have hB:Below w.heap.size w (((w.alloc (.cells #[.slice a0 done.length k0,.slice a1 base.length k1,.slice a2 E.length k2,.slice a3 c.length k3,.slice a4 y.length k4] 65)).alloc (.cells #[.slice none 0 0,.slice none 0 0,.slice none 0 0,.slice none 0 0,.slice none 0 0] 73)).alloc (.cells #[.slice none 0 0,.slice none 0 0,.slice none 0 0,.slice none 0 0,.slice none 0 0] 73)):=by go_grown
 simp only[World.size_alloc]at C D;have hS:w.heap.size+3≤(((w.alloc (.cells #[.slice a0 done.length k0,.slice a1 base.length k1,.slice a2 E.length k2,.slice a3 c.length k3,.slice a4 y.length k4] 65)).alloc (.cells #[.slice none 0 0,.slice none 0 0,.slice none 0 0,.slice none 0 0,.slice none 0 0] 73)).alloc (.cells #[.slice none 0 0,.slice none 0 0,.slice none 0 0,.slice none 0 0,.slice none 0 0] 73)).heap.size:=by simp only[World.size_alloc];omega
 go_enter Tryz.func60,Tryz.ntmps60
 go_wp2_with fail
 generalize ((w.alloc (.cells #[.slice a0 done.length k0,.slice a1 base.length k1,.slice a2 E.length k2,.slice a3 c.length k3,.slice a4 y.length k4] 65)).alloc (.cells #[.slice none 0 0,.slice none 0 0,.slice none 0 0,.slice none 0 0,.slice none 0 0] 73)).alloc (.cells #[.slice none 0 0,.slice none 0 0,.slice none 0 0,.slice none 0 0,.slice none 0 0] 73)=W at*;refine(X W (N.below hB)).mono ?_;rintro e y0 ⟨v0,q0,rfl,E0,O0,N0,G0,hb⟩;replace B:=B.below hb;replace C:=C.below hb;replace D:=D.below hb;replace hB:=hB.trans (hb.mono hB.size);have s0:=hb.size;obtain⟨x0,z0,rfl⟩:=O0.shape;clear hb X;have p1:=B.cell 1 _ rfl;have d0:=D.cell 0 _ rfl;have f0:=D.frozen 0
 go_wp2_with fail
 clear p1 d0 f0;have U0:=(Out.refl [w.heap.size+1,w.heap.size+1+1] y0).set (b:=w.heap.size+1+1) (j:=0) (u:=.slice x0 q0.length z0) (by simp);replace D:=D.set 0 (.slice x0 q0.length z0);replace B:=B.other (b':=w.heap.size+1+1) (by omega) 0 (.slice x0 q0.length z0);replace C:=C.other (b':=w.heap.size+1+1) (by omega) 0 (.slice x0 q0.length z0);replace hB:=hB.setCell (p:=⟨w.heap.size+1+1,0,none⟩) (by show w.heap.size≤w.heap.size+1+1;omega) (.slice x0 q0.length z0);simp only[pjE]at D;have t0:=U0.size;generalize y0.setCell ⟨w.heap.size+1+1,0,none⟩ (.slice x0 q0.length z0)=V0 at*;refine(Y V0 (O.below hB)).mono ?_;rintro e y1 ⟨v1,rfl,O1,N1,G1,hb⟩;replace U0:=U0.call hb;replace B:=B.below hb;replace C:=C.below hb;replace D:=D.below hb;replace hB:=hB.trans (hb.mono hB.size);have s1:=hb.size;obtain⟨x1,z1,rfl⟩:=O1.shape;clear hb Y;have p2:=B.cell 2 _ rfl;have d1:=D.cell 1 _ rfl;have f1:=D.frozen 1
 go_wp2_with fail
 clear p2 d1 f1;have U1:=(Out.refl [w.heap.size+1,w.heap.size+1+1] y1).set (b:=w.heap.size+1+1) (j:=1) (u:=.slice x1 base.length z1) (by simp);replace U0:=U0.set (b:=w.heap.size+1+1) (j:=1) (u:=.slice x1 base.length z1) (by simp);replace D:=D.set 1 (.slice x1 base.length z1);replace B:=B.other (b':=w.heap.size+1+1) (by omega) 1 (.slice x1 base.length z1);replace C:=C.other (b':=w.heap.size+1+1) (by omega) 1 (.slice x1 base.length z1);replace hB:=hB.setCell (p:=⟨w.heap.size+1+1,1,none⟩) (by show w.heap.size≤w.heap.size+1+1;omega) (.slice x1 base.length z1);simp only[pjE]at D;have t1:=U1.size;generalize y1.setCell ⟨w.heap.size+1+1,1,none⟩ (.slice x1 base.length z1)=V1 at*;refine(Z V1 (T.below hB)).mono ?_;rintro e y2 ⟨v2,q2,rfl,E2,O2,N2,G2,hb⟩;replace U0:=U0.call hb;replace U1:=U1.call hb;replace B:=B.below hb;replace C:=C.below hb;replace D:=D.below hb;replace hB:=hB.trans (hb.mono hB.size);have s2:=hb.size;obtain⟨x2,z2,rfl⟩:=O2.shape;clear hb Z;have p3:=B.cell 3 _ rfl;have d2:=D.cell 2 _ rfl;have f2:=D.frozen 2
 go_wp2_with fail
 clear p3 d2 f2;have U2:=(Out.refl [w.heap.size+1,w.heap.size+1+1] y2).set (b:=w.heap.size+1+1) (j:=2) (u:=.slice x2 q2.length z2) (by simp);replace U0:=U0.set (b:=w.heap.size+1+1) (j:=2) (u:=.slice x2 q2.length z2) (by simp);replace U1:=U1.set (b:=w.heap.size+1+1) (j:=2) (u:=.slice x2 q2.length z2) (by simp);replace D:=D.set 2 (.slice x2 q2.length z2);replace B:=B.other (b':=w.heap.size+1+1) (by omega) 2 (.slice x2 q2.length z2);replace C:=C.other (b':=w.heap.size+1+1) (by omega) 2 (.slice x2 q2.length z2);replace hB:=hB.setCell (p:=⟨w.heap.size+1+1,2,none⟩) (by show w.heap.size≤w.heap.size+1+1;omega) (.slice x2 q2.length z2);simp only[pjE]at D;have t2:=U2.size;generalize y2.setCell ⟨w.heap.size+1+1,2,none⟩ (.slice x2 q2.length z2)=V2 at*;refine(aa V2 (U.below hB)).mono ?_;rintro e y3 ⟨v3,q3,rfl,E3,O3,N3,G3,hb⟩;replace U0:=U0.call hb;replace U1:=U1.call hb;replace U2:=U2.call hb;replace B:=B.below hb;replace C:=C.below hb;replace D:=D.below hb;replace hB:=hB.trans (hb.mono hB.size);have s3:=hb.size;obtain⟨x3,z3,rfl⟩:=O3.shape;clear hb aa;have p4:=B.cell 4 _ rfl;have d3:=D.cell 3 _ rfl;have f3:=D.frozen 3
 go_wp2_with fail
 clear p4 d3 f3;have U3:=(Out.refl [w.heap.size+1,w.heap.size+1+1] y3).set (b:=w.heap.size+1+1) (j:=3) (u:=.slice x3 q3.length z3) (by simp);replace U0:=U0.set (b:=w.heap.size+1+1) (j:=3) (u:=.slice x3 q3.length z3) (by simp);replace U1:=U1.set (b:=w.heap.size+1+1) (j:=3) (u:=.slice x3 q3.length z3) (by simp);replace U2:=U2.set (b:=w.heap.size+1+1) (j:=3) (u:=.slice x3 q3.length z3) (by simp);replace D:=D.set 3 (.slice x3 q3.length z3);replace B:=B.other (b':=w.heap.size+1+1) (by omega) 3 (.slice x3 q3.length z3);replace C:=C.other (b':=w.heap.size+1+1) (by omega) 3 (.slice x3 q3.length z3);replace hB:=hB.setCell (p:=⟨w.heap.size+1+1,3,none⟩) (by show w.heap.size≤w.heap.size+1+1;omega) (.slice x3 q3.length z3);simp only[pjE]at D;have t3:=U3.size;generalize y3.setCell ⟨w.heap.size+1+1,3,none⟩ (.slice x3 q3.length z3)=V3 at*;refine(ab V3 (V.below hB)).mono ?_;rintro e y4 ⟨v4,rfl,O4,N4,G4,hb⟩;replace U0:=U0.call hb;replace U1:=U1.call hb;replace U2:=U2.call hb;replace U3:=U3.call hb;replace B:=B.below hb;replace C:=C.below hb;replace D:=D.below hb;replace hB:=hB.trans (hb.mono hB.size);have s4:=hb.size;obtain⟨x4,z4,rfl⟩:=O4.shape;clear hb ab;clear B;have d0:=D.cell 0 _ rfl;have f0:=D.frozen 0;have c0:=C.cell 0 _ rfl;have g0:=C.frozen 0;have d1:=D.cell 1 _ rfl;have f1:=D.frozen 1;have c1:=C.cell 1 _ rfl;have g1:=C.frozen 1;have d2:=D.cell 2 _ rfl;have f2:=D.frozen 2;have c2:=C.cell 2 _ rfl;have g2:=C.frozen 2;have d3:=D.cell 3 _ rfl;have f3:=D.frozen 3;have c3:=C.cell 3 _ rfl;have g3:=C.frozen 3;have d4:=D.cell 4 _ rfl;have f4:=D.frozen 4;have c4:=C.cell 4 _ rfl;have g4:=C.frozen 4;have R:Hid (∀j u j' u' L M I J z A d x,repK.own ((((((y4.setCell ⟨w.heap.size+1+1,j,none⟩ u).setCell ⟨w.heap.size+1,j',none⟩ u').setCell ⟨w.heap.size+1,L,none⟩ M).setCell ⟨w.heap.size+1,I,none⟩ J).setCell ⟨w.heap.size+1,z,none⟩ A).setCell ⟨w.heap.size+1,d,none⟩ x) ⟨.slice x0 q0.length z0,q0,.slice x1 base.length z1,base,.slice x2 q2.length z2,q2,.slice x3 q3.length z3,q3,.slice x4 y.length z4,y⟩∧Below w.heap.size w ((((((y4.setCell ⟨w.heap.size+1+1,j,none⟩ u).setCell ⟨w.heap.size+1,j',none⟩ u').setCell ⟨w.heap.size+1,L,none⟩ M).setCell ⟨w.heap.size+1,I,none⟩ J).setCell ⟨w.heap.size+1,z,none⟩ A).setCell ⟨w.heap.size+1,d,none⟩ x)):=by
  intro j u j' u' L M I J z A d x;have X0:=((((((U0.set (b:=w.heap.size+1+1) (j:=j) (u:=u) (by simp)).set (b:=w.heap.size+1) (j:=j') (u:=u') (by simp)).set (b:=w.heap.size+1) (j:=L) (u:=M) (by simp)).set (b:=w.heap.size+1) (j:=I) (u:=J) (by simp)).set (b:=w.heap.size+1) (j:=z) (u:=A) (by simp)).set (b:=w.heap.size+1) (j:=d) (u:=x) (by simp))
  have X1:=((((((U1.set (b:=w.heap.size+1+1) (j:=j) (u:=u) (by simp)).set (b:=w.heap.size+1) (j:=j') (u:=u') (by simp)).set (b:=w.heap.size+1) (j:=L) (u:=M) (by simp)).set (b:=w.heap.size+1) (j:=I) (u:=J) (by simp)).set (b:=w.heap.size+1) (j:=z) (u:=A) (by simp)).set (b:=w.heap.size+1) (j:=d) (u:=x) (by simp))
  have X2:=((((((U2.set (b:=w.heap.size+1+1) (j:=j) (u:=u) (by simp)).set (b:=w.heap.size+1) (j:=j') (u:=u') (by simp)).set (b:=w.heap.size+1) (j:=L) (u:=M) (by simp)).set (b:=w.heap.size+1) (j:=I) (u:=J) (by simp)).set (b:=w.heap.size+1) (j:=z) (u:=A) (by simp)).set (b:=w.heap.size+1) (j:=d) (u:=x) (by simp))
  have X3:=((((((U3.set (b:=w.heap.size+1+1) (j:=j) (u:=u) (by simp)).set (b:=w.heap.size+1) (j:=j') (u:=u') (by simp)).set (b:=w.heap.size+1) (j:=L) (u:=M) (by simp)).set (b:=w.heap.size+1) (j:=I) (u:=J) (by simp)).set (b:=w.heap.size+1) (j:=z) (u:=A) (by simp)).set (b:=w.heap.size+1) (j:=d) (u:=x) (by simp))
  have X4:=(((((((Out.refl [w.heap.size+1,w.heap.size+1+1] y4).set (b:=w.heap.size+1+1) (j:=j) (u:=u) (by simp)).set (b:=w.heap.size+1) (j:=j') (u:=u') (by simp)).set (b:=w.heap.size+1) (j:=L) (u:=M) (by simp)).set (b:=w.heap.size+1) (j:=I) (u:=J) (by simp)).set (b:=w.heap.size+1) (j:=z) (u:=A) (by simp)).set (b:=w.heap.size+1) (j:=d) (u:=x) (by simp))
  refine⟨⟨O0.out X0 (fun k hk=>?_),O1.out X1 (fun k hk=>?_),O2.out X2 (fun k hk=>?_),O3.out X3 (fun k hk=>?_),O4.out X4 (fun k hk=>?_)⟩,?_⟩
  ·have:=G0 k hk;simp only[List.mem_cons,List.not_mem_nil,or_false];omega
  ·have:=G1 k hk;simp only[List.mem_cons,List.not_mem_nil,or_false];omega
  ·have:=G2 k hk;simp only[List.mem_cons,List.not_mem_nil,or_false];omega
  ·have:=G3 k hk;simp only[List.mem_cons,List.not_mem_nil,or_false];omega
  ·have:=G4 k hk;simp only[List.mem_cons,List.not_mem_nil,or_false];omega
  ·exact((((((hB.setCell (p:=⟨w.heap.size+1+1,j,none⟩) (by show w.heap.size≤w.heap.size+1+1;omega) u).setCell (p:=⟨w.heap.size+1,j',none⟩) (by show w.heap.size≤w.heap.size+1;omega) u').setCell (p:=⟨w.heap.size+1,L,none⟩) (by show w.heap.size≤w.heap.size+1;omega) M).setCell (p:=⟨w.heap.size+1,I,none⟩) (by show w.heap.size≤w.heap.size+1;omega) J).setCell (p:=⟨w.heap.size+1,z,none⟩) (by show w.heap.size≤w.heap.size+1;omega) A).setCell (p:=⟨w.heap.size+1,d,none⟩) (by show w.heap.size≤w.heap.size+1;omega) x)
 have R1:Hid ((repK.foot ⟨.slice x0 q0.length z0,q0,.slice x1 base.length z1,base,.slice x2 q2.length z2,q2,.slice x3 q3.length z3,q3,.slice x4 y.length z4,y⟩).Nodup∧(∀k∈repK.foot ⟨.slice x0 q0.length z0,q0,.slice x1 base.length z1,base,.slice x2 q2.length z2,q2,.slice x3 q3.length z3,q3,.slice x4 y.length z4,y⟩,w.heap.size≤k)):=by
  have L0:=O0.lt;have L1:=O1.lt;have L2:=O2.lt;have L3:=O3.lt;have L4:=O4.lt;have T0:=U0.size;have T1:=U1.size;have T2:=U2.size;have T3:=U3.size;refine⟨?_,?_⟩
  ·show List.Nodup (_++_);exact List.nodup_append.2 ⟨N0,List.nodup_append.2 ⟨N1,List.nodup_append.2 ⟨N2,List.nodup_append.2 ⟨N3,N4,z4p (m:=(V3).heap.size) (fun k hk=>by have:=L3 k hk;omega) (fun k hk=>by have:=G4 k hk;omega)⟩,z4p (m:=(V2).heap.size) (fun k hk=>by have:=L2 k hk;omega) (fun k hk=>by rcases List.mem_append.1 hk with hk|hk<;>first|(have:=G3 k hk;omega)|(have:=G4 k hk;omega))⟩,z4p (m:=(V1).heap.size) (fun k hk=>by have:=L1 k hk;omega) (fun k hk=>by rcases List.mem_append.1 hk with hk|hk<;>first|(have:=G2 k hk;omega)|(rcases List.mem_append.1 hk with hk|hk<;>first|(have:=G3 k hk;omega)|(have:=G4 k hk;omega)))⟩,z4p (m:=(V0).heap.size) (fun k hk=>by have:=L0 k hk;omega) (fun k hk=>by rcases List.mem_append.1 hk with hk|hk<;>first|(have:=G1 k hk;omega)|(rcases List.mem_append.1 hk with hk|hk<;>first|(have:=G2 k hk;omega)|(rcases List.mem_append.1 hk with hk|hk<;>first|(have:=G3 k hk;omega)|(have:=G4 k hk;omega))))⟩
  ·exact(fun k hk=>by rcases List.mem_append.1 hk with hk|hk<;>first|(have:=G0 k hk;omega)|(rcases List.mem_append.1 hk with hk|hk<;>first|(have:=G1 k hk;omega)|(rcases List.mem_append.1 hk with hk|hk<;>first|(have:=G2 k hk;omega)|(rcases List.mem_append.1 hk with hk|hk<;>first|(have:=G3 k hk;omega)|(have:=G4 k hk;omega)))))
 have R2:Hid (RepQ.e ⟨.slice x0 q0.length z0,q0,.slice x1 base.length z1,base,.slice x2 q2.length z2,q2,.slice x3 q3.length z3,q3,.slice x4 y.length z4,y⟩=RepQ.e ⟨.slice a0 done.length k0,done,.slice a1 base.length k1,base,.slice a2 E.length k2,E,.slice a3 c.length k3,c,.slice a4 y.length k4,y⟩):=show _=_ by simp only[RepQ.e,E0,E2,E3]
 clear O0 N0 G0 O1 N1 G1 O2 N2 G2 O3 N3 G3 O4 N4 G4 U0 U1 U2 U3 E0 E2 E3 hB C D N O T U V
 go_wp2
 exact bodyPost_ret (v:=.agg #[.slice x0 q0.length z0,.slice x1 base.length z1,.slice x2 q2.length z2,.slice x3 q3.length z3,.slice x4 y.length z4]) (by simp[results,Tryz.results60,go_sem,c0,c1,c2,c3,c4]) rfl ⟨⟨.slice x0 q0.length z0,q0,.slice x1 base.length z1,base,.slice x2 q2.length z2,q2,.slice x3 q3.length z3,q3,.slice x4 y.length z4,y⟩,rfl,R2.out,(R.out _ _ _ _ _ _ _ _ _ _ _ _).1,R1.out.1,R1.out.2,(R.out _ _ _ _ _ _ _ _ _ _ _ _).2⟩
def q4z:List Value:=[
 .int .i64 2,.int .i64 0,.int .i64 0,.int .i64 0,.bool true,.bool false,.int .i64 0,
 .int .i64 0,.int .i64 2,.int .i64 1,.int .i64 0,.bool true,.bool false,.int .i64 1,
 .int .i64 1,.int .i64 0,.int .i64 2,.int .i64 0,.bool false,.bool false,.int .i64 0,
 .int .i64 0,.int .i64 1,.int .i64 2,.int .i64 0,.bool false,.bool false,.int .i64 1,
 .int .i64 0,.int .i64 0,.int .i64 2,.int .i64 0,.bool false,.bool true,.int .i64 0]
def Rul(w:World):Prop:=∀i v,q4z[i]?=some v→w.cell? ⟨1,i,none⟩=some v
theorem Rul.below{w w':World}(h:Rul w)(hb:Below w.heap.size w w'):Rul w':=by
 intro i v hv;have h1:=h i v hv;rw[hb.cell (p:=⟨1,i,none⟩) (World.block_lt_of_cell? w ⟨1,i,none⟩ h1)];exact h1
abbrev fl(n:Int):Nat:=floatOfInt FloatKind.f64 n
theorem q2Z:∀a∈[(0:Int),1,2,3],∀b∈[(0:Int),1,2,3],(FloatKind.f64.format.order (fl a) (fl b)==some .gt||FloatKind.f64.format.order (fl a) (fl b)==some .eq)=decide (b≤a):=by decide+kernel
theorem q20:∀a∈[(0:Int),1,2,3],(FloatKind.f64.format.order (fl a) 0==some .gt)=decide (0<a):=by decide+kernel
theorem q1p{a:Int}(h:0≤a∧a≤3):a∈[(0:Int),1,2,3]:=by
 have:a=0∨a=1∨a=2∨a=3:=by omega
 rcases this with rfl|rfl|rfl|rfl<;>simp
theorem q2l{a b:Int}(ha:0≤a∧a≤3)(hb:0≤b∧b≤3):(FloatKind.f64.format.order (fl a) (fl b)==some .gt||FloatKind.f64.format.order (fl a) (fl b)==some .eq)=decide (b≤a):=q2Z a (q1p ha) b (q1p hb)
theorem q2m{a:Int}(ha:0≤a∧a≤3):(FloatKind.f64.format.order (fl a) 0==some .gt)=decide (0<a):=q20 a (q1p ha)
def q3F(zi oi pr:Int)(d k:Bool)(vl:Int):Value:=.agg #[.int .i64 zi,.int .i64 oi,.int .i64 pr,.int .i64 0,.bool d,.bool k,.int .i64 vl]
theorem q1z(zi oi pr:Int)(d k:Bool)(vl z o:Int)(w:World)(hzi:0≤zi∧zi≤3)(hoi:0≤oi∧oi≤3)(hz:0≤z∧z≤3)(ho:0≤o∧o≤3):
  Calls Tryz.prog 234 #[q3F zi oi pr d k vl,.complex .f64 (fl z) (fl o)] w fun e w'=>e=.returned (.bool (decide (zi≤z) && decide (oi≤o)))∧Below w.heap.size w w':=by
 have f1:=q2l hz hzi;have f2:=q2l ho hoi;unfold q3F;generalize fl z=z0 at f1⊢;generalize fl o=o0 at f2⊢;dsimp only[fl]at f1 f2;by_cases h1:zi≤z
 ·have d1:decide (zi≤z)=true:=decide_eq_true h1;rw[d1]at f1⊢;generalize decide (oi≤o)=t at f2⊢;clear h1 d1 hzi hoi hz ho;go_enter Tryz.func234,Tryz.ntmps234
  go_wp2
  go_ret;exact⟨by simp[f2],by go_grown⟩
 ·have d1:decide (zi≤z)=false:=decide_eq_false h1;rw[d1]at f1⊢;clear h1 d1 hzi hoi hz ho f2;go_enter Tryz.func234,Tryz.ntmps234
  go_wp2
  go_ret;exact⟨by simp,by go_grown⟩
def rz(k:Nat):Int:=[2,0,1,0,0].getD k 0
def ro(k:Nat):Int:=[0,2,0,1,0].getD k 0
def rp(k:Nat):Int:=[0,1,2,2,2].getD k 0
def rd(k:Nat):Bool:=[true,true,false,false,false].getD k false
def rc(k:Nat):Bool:=[false,false,false,false,true].getD k false
def rv(k:Nat):Int:=[0,1,0,1,0].getD k 0
def q3R(k:Nat):Value:=q3F (rz k) (ro k) (rp k) (rd k) (rc k) (rv k)
def q1A(k:Nat)(z o:Int):Bool:=decide (rz k≤z) && decide (ro k≤o)
def pick5(z o:Int):Nat:=if 2≤z then 0 else if 2≤o then 1 else if 1≤z then 2 else if 1≤o then 3 else 4
theorem q4A:∀z∈[(0:Int),1,2,3],∀o∈[(0:Int),1,2,3],pick5 z o≤4∧∀k,k<5→k≤pick5 z o→(q1A k z o=true→k=pick5 z o)∧(q1A k z o=false→k+1≤pick5 z o):=by decide+kernel
theorem q21{z o:Int}(hz:0≤z∧z≤3)(ho:0≤o∧o≤3):pick5 z o≤4∧∀k,k<5→k≤pick5 z o→(q1A k z o=true→k=pick5 z o)∧(q1A k z o=false→k+1≤pick5 z o):=q4A z (q1p hz) o (q1p ho)
theorem q3S{w:World}(h:Rul w)(k:Nat)(hk:k<5):w.cell? ⟨1,k*7,none⟩=some (.int .i64 (rz k))∧w.cell? ⟨1,k*7+1,none⟩=some (.int .i64 (ro k))∧w.cell? ⟨1,k*7+2,none⟩=some (.int .i64 (rp k))∧w.cell? ⟨1,k*7+3,none⟩=some (.int .i64 0)∧
  w.cell? ⟨1,k*7+4,none⟩=some (.bool (rd k))∧w.cell? ⟨1,k*7+5,none⟩=some (.bool (rc k))∧w.cell? ⟨1,k*7+6,none⟩=some (.int .i64 (rv k)):=by
 match k,hk with
 |0,_=>exact⟨h _ _ rfl,h _ _ rfl,h _ _ rfl,h _ _ rfl,h _ _ rfl,h _ _ rfl,h _ _ rfl⟩
 |1,_=>exact⟨h _ _ rfl,h _ _ rfl,h _ _ rfl,h _ _ rfl,h _ _ rfl,h _ _ rfl,h _ _ rfl⟩
 |2,_=>exact⟨h _ _ rfl,h _ _ rfl,h _ _ rfl,h _ _ rfl,h _ _ rfl,h _ _ rfl,h _ _ rfl⟩
 |3,_=>exact⟨h _ _ rfl,h _ _ rfl,h _ _ rfl,h _ _ rfl,h _ _ rfl,h _ _ rfl,h _ _ rfl⟩
 |4,_=>exact⟨h _ _ rfl,h _ _ rfl,h _ _ rfl,h _ _ rfl,h _ _ rfl,h _ _ rfl,h _ _ rfl⟩
theorem q4N(k:Nat)(hk:k<5):(0≤rz k∧rz k≤3)∧(0≤ro k∧ro k≤3):=by
 match k,hk with
 |0,_=>decide
 |1,_=>decide
 |2,_=>decide
 |3,_=>decide
 |4,_=>decide
theorem z4q(z o:Int)(w:World)(hG:Rul w)(hz:0≤z∧z≤3)(ho:0≤o∧o≤3):
  Calls Tryz.prog 218 #[.complex .f64 (fl z) (fl o)] w fun e w'=>e=.returned (q3R (pick5 z o))∧Below w.heap.size w w':=by
 obtain⟨hp,D⟩:=q21 hz ho;generalize hE:pick5 z o=E at hp D⊢;clear hE;have x:=fun k (hk:k<5) w=>q1z (rz k) (ro k) (rp k) (rd k) (rc k) (rv k) z o w (q4N k hk).1 (q4N k hk).2 hz ho
 generalize fl z=z0 at x⊢;generalize fl o=o0 at x⊢;go_enter Tryz.func218,Tryz.ntmps218
 go_wp2
 have Bx:=Blk.new w 317 #[.int .i64 0,.int .i64 0,.int .i64 0,.int .i64 0,.bool false,.bool false,.int .i64 0];have hB:Below w.heap.size w (w.alloc (.cells #[.int .i64 0,.int .i64 0,.int .i64 0,.int .i64 0,.bool false,.bool false,.int .i64 0] 317)):=by go_grown
 generalize w.alloc (.cells #[.int .i64 0,.int .i64 0,.int .i64 0,.int .i64 0,.bool false,.bool false,.int .i64 0] 317)=W at*;go_loopw[3] (fun i wr=>∃k:Nat,k<5∧k≤E∧i=.int .i64 k∧Below W.heap.size W wr) (fun i _=>5-(intOf i).toNat)
 case atStart=>exact⟨0,by omega,Nat.zero_le _,rfl,Below.refl _ _⟩
 case round=>
  obtain⟨k,hk,J,rfl,hb⟩:=hrel;replace hB:=hB.trans (hb.mono hB.size);replace Bx:=Bx.below hb;obtain⟨c0,c1,c2,c3,c4,c5,c6⟩:=q3S (hG.below hB) k hk;obtain⟨hy,hn⟩:=D k hk J;have HY:Hid (q1A k z o=true→k=E):=hy;have HN:Hid (q1A k z o=false→k+1≤E):=hn;have hf:=x k hk wr;rw[show(decide (rz k≤z) && decide (ro k≤o))=q1A k z o from rfl]at hf;clear x D hy hn;unfold q3F at hf;have HV:Hid (q3R k=.agg #[.int .i64 (rz k),.int .i64 (ro k),.int .i64 (rp k),.int .i64 0,.bool (rd k),.bool (rc k),.int .i64 (rv k)]):=rfl;generalize rz k=a0 at*;generalize ro k=a1 at*;generalize rp k=a2 at*;generalize rd k=a4 at*;generalize rc k=a5 at*;generalize rv k=a6 at*
  go_wp2_with fail
  refine hf.mono ?_;rintro e w2 ⟨rfl,c⟩;have d:=World.block_lt_of_cell? wr ⟨1,k*7,none⟩ c0;dsimp only at d;replace c0:=(c.cell (p:=⟨1,k*7,none⟩) d).trans c0;replace c1:=(c.cell (p:=⟨1,k*7+1,none⟩) d).trans c1;replace c2:=(c.cell (p:=⟨1,k*7+2,none⟩) d).trans c2;replace c3:=(c.cell (p:=⟨1,k*7+3,none⟩) d).trans c3;replace c4:=(c.cell (p:=⟨1,k*7+4,none⟩) d).trans c4;replace c5:=(c.cell (p:=⟨1,k*7+5,none⟩) d).trans c5;replace c6:=(c.cell (p:=⟨1,k*7+6,none⟩) d).trans c6;replace Bx:=Bx.below c;replace hB:=hB.trans (c.mono hB.size);replace hb:=hb.trans (c.mono hb.size);clear hf c d;by_cases A:q1A k z o=true
  ·have y:=HY.out A;clear HY HN;rw[A];obtain⟨p0,p1,p2,p3,p4,p5,p6⟩:=Bx.cel7;obtain⟨f0,f1,f2,f3,f4,f5,f6⟩:=Bx.frz7;have hV:Hid (q3R E=.agg #[.int .i64 a0,.int .i64 a1,.int .i64 a2,.int .i64 0,.bool a4,.bool a5,.int .i64 a6]):=by rw[←y];exact HV.out
   have I:=((((((hB.setCell (p:=⟨w.heap.size,0,none⟩) (Nat.le_refl _) (.int .i64 a0)).setCell (p:=⟨w.heap.size,1,none⟩) (Nat.le_refl _) (.int .i64 a1)).setCell (p:=⟨w.heap.size,2,none⟩) (Nat.le_refl _) (.int .i64 a2)).setCell (p:=⟨w.heap.size,3,none⟩) (Nat.le_refl _) (.int .i64 0)).setCell (p:=⟨w.heap.size,4,none⟩) (Nat.le_refl _) (.bool a4)).setCell (p:=⟨w.heap.size,5,none⟩) (Nat.le_refl _) (.bool a5)).setCell (p:=⟨w.heap.size,6,none⟩) (Nat.le_refl _) (.int .i64 a6);have HB:Hid (Below w.heap.size w _):=I;clear Bx hB hb I y HV
   go_wp2
   exact bodyPost_ret (v:=.agg #[.int .i64 a0,.int .i64 a1,.int .i64 a2,.int .i64 0,.bool a4,.bool a5,.int .i64 a6]) (by simp[results,Tryz.results218,go_sem,p0,p1,p2,p3,p4,p5,p6]) rfl ⟨by rw[hV.out],HB.out⟩
  ·have C:q1A k z o=false:=by simpa using A
   have y:=HN.out C;clear HY HN A;rw[C];clear c0 c1 c2 c3 c4 c5 c6 Bx hB
   go_wp2
   go_roundw
   case rel=>exact⟨k+1,by omega,y,by go_num,hb⟩
   case measure=>simp[intOf];omega
def z1Y(zs:List Int)(m:Int):Bool:=isQ m && (cnt m zs 3==0)
theorem z97{m:Int}(h:isQ m=true):inB m 0 7=true:=by
 unfold isQ at h;rw[Bool.and_eq_true]at h;exact h.1
theorem z37{zs:List Int}{m:Int}(h:z1Y zs m=true):inB m 0 7=true:=by
 unfold z1Y at h;rw[Bool.and_eq_true]at h;exact z97 h.1
theorem q4B(zs:List Int):vfault zs 2=vf zs 2:=by simp[vfault,inB]
theorem q3T(zs:List Int):vfault zs 1=vf zs 1:=by simp[vfault,inB]
theorem z4r(a:Option Addr)(cap:Nat)(zs:List Int)(m:Int)(w:World)(h:Row .i64 w a zs)(hl:zs.length=3):
  Calls Tryz.prog 217 #[.slice a 3 cap,.int .i64 m] w fun e w'=>e=.returned (.bool (z1Y zs m))∧w'=w:=by
 have hq:=z6t m w;have hvo:=z1s a cap zs 3 w h hl;unfold z1Y;by_cases h1:isQ m=true
 ·obtain⟨q1,q2,q3⟩:=z7A (z97 h1) zs 3;rw[h1]at hq⊢;rw[←q3];clear q1 q2 q3 h1;generalize vot zs 3=u at*;go_enter Tryz.func217,Tryz.ntmps217
  go_wp2_with (first|(go_at_call 233;refine hq.mono ?_;rintro e w' ⟨rfl,rfl⟩)|(go_at_call 178;refine hvo.mono ?_;rintro e w' ⟨rfl,rfl⟩))
  go_ret;exact⟨by simp,rfl⟩
 ·have h1':isQ m=false:=by simpa using h1
  rw[h1']at hq⊢;clear h1 h1';go_enter Tryz.func217,Tryz.ntmps217
  go_wp2_with (go_at_call 233;refine hq.mono ?_;rintro e w' ⟨rfl,rfl⟩)
  go_ret;exact⟨by simp,rfl⟩
theorem z13(a:Option Addr)(cap:Nat)(zs:List Int)(m:Int)(w:World)(h:Row .i64 w a zs)(hl:zs.length=3)(hm:inB m 0 7=true):
  Calls Tryz.prog 216 #[.slice a 3 cap,.int .i64 m] w fun e w'=>e=.returned (.complex .f64 (fl (cnt m zs 0)) (fl (cnt m zs 1)))∧w'=w:=by
 obtain⟨q1,q2,_⟩:=z7A hm zs 0;obtain⟨r1,r2,_⟩:=z7A hm zs 1;have hn0:=z1F _ w q1;have hn1:=z1F _ w r1;rw[q2]at hn0;rw[r2]at hn1;have hv0:=z1s a cap zs 0 w h hl;have hv1:=z1s a cap zs 1 w h hl;clear q1 q2 r1 r2;generalize vot zs 0=u0 at*;generalize vot zs 1=u1 at*;generalize cnt m zs 0=c0 at*;generalize cnt m zs 1=c1 at*;go_enter Tryz.func216,Tryz.ntmps216
 go_wp2_with fail
 refine hv0.mono ?_;rintro e w' ⟨rfl,hw⟩;replace hw:=hw.symm;subst hw
 go_wp2_with fail
 refine hn0.mono ?_;rintro e w' ⟨rfl,hw⟩;replace hw:=hw.symm;subst hw
 go_wp2_with fail
 refine hv1.mono ?_;rintro e w' ⟨rfl,hw⟩;replace hw:=hw.symm;subst hw
 go_wp2_with fail
 refine hn1.mono ?_;rintro e w' ⟨rfl,hw⟩;replace hw:=hw.symm;subst hw
 go_wp2
 go_ret;exact⟨rfl,rfl⟩
def pr2(z o:Int):Int:=if 2≤z then 0 else if 2≤o then 1 else 2
def pfC(zs:List Int)(m:Int):Int:=if vf zs 1=0 then(if z1Y zs m then 0 else 10)else vf zs 1
def pfV(zs:List Int)(m:Int):Int:=if pfC zs m=0 then pr2 (cnt m zs 0) (cnt m zs 1)else 0
theorem q3U:∀z∈[(0:Int),1,2,3],∀o∈[(0:Int),1,2,3],rp (pick5 z o)=pr2 z o:=by decide+kernel
theorem q22(a0 a1 a2 a3:Int)(a4 a5:Bool)(a6:Int)(w:World):(Instr.field 317 (.agg #[.int .i64 a0,.int .i64 a1,.int .i64 a2,.int .i64 a3,.bool a4,.bool a5,.int .i64 a6]) 2).run Tryz.prog w=.ok (.int .i64 a2) w:=by kernel_rfl
theorem q23(a0 a1 a2 a3:Int)(a4 a5:Bool)(a6:Int)(w:World):(Instr.field 317 (.agg #[.int .i64 a0,.int .i64 a1,.int .i64 a2,.int .i64 a3,.bool a4,.bool a5,.int .i64 a6]) 3).run Tryz.prog w=.ok (.agg #[.int .i64 a3,.bool a4,.bool a5,.int .i64 a6]) w:=by kernel_rfl
theorem z6I(a:Option Addr)(cap:Nat)(zs:List Int)(m:Int)(w:World)(hG:Rul w)(h:Row .i64 w a zs)(hm:zs.length≤9223372036854775807):
  Calls Tryz.prog 196 #[.slice a zs.length cap,.int .i64 m] w fun e w'=>e=.returned (.agg #[.int .i64 (pfC zs m),.int .i64 (pfV zs m)])∧Below w.heap.size w w':=by
 have hB:Below w.heap.size w (w.alloc (.cells #[.int .i64 0,.int .i64 0] 113)):=by go_grown
 have hv:=fun w h=>z0z a cap zs 1 w h hm
 rw[q3T]at hv;by_cases h0:vf zs 1=0
 ·have hl:=z0P h0;rw[h0]at hv;rw[hl]at hv⊢;have hh:=z4r a cap zs m _ (h.below hB) hl;by_cases h1:z1Y zs m=true
  ·have e1:pfC zs m=0:=by simp[pfC,h0,h1]
   have e2:pfV zs m=pr2 (cnt m zs 0) (cnt m zs 1):=by simp[pfV,e1]
   have e3:=q3U _ (q1p (z1T m zs 0)) _ (q1p (z1T m zs 1));have hc:=z13 a cap zs m _ (h.below hB) hl (z37 h1);have hr:=z4q _ _ _ (hG.below hB) (z1T m zs 0) (z1T m zs 1);rw[e1,e2,←e3];rw[h1]at hh;clear e1 e2 e3 h0 hl h1;unfold q3R q3F at hr;generalize pick5 (cnt m zs 0) (cnt m zs 1)=E at*;generalize fl (cnt m zs 0)=z0 at*;generalize fl (cnt m zs 1)=o0 at*;generalize rz E=a0 at*;generalize ro E=a1 at*;generalize rp E=a2 at*;generalize rd E=a4 at*;generalize rc E=a5 at*;generalize rv E=a6 at*;have Bx:=Blk.new w 113 #[.int .i64 0,.int .i64 0];have hv1:=hv _ (h.below hB);clear hv;go_enter Tryz.func196,Tryz.ntmps196
   go_wp2_with fail
   generalize w.alloc (.cells #[.int .i64 0,.int .i64 0] 113)=W at*;refine hv1.mono ?_;rintro e w' ⟨rfl,hw⟩;replace hw:=hw.symm;subst hw
   go_wp2_with fail
   refine hh.mono ?_;rintro e w' ⟨rfl,hw⟩;replace hw:=hw.symm;subst hw
   go_wp2_with fail
   refine hc.mono ?_;rintro e w' ⟨rfl,hw⟩;replace hw:=hw.symm;subst hw
   go_wp2_with fail
   refine hr.mono ?_;rintro e w' ⟨rfl,hb⟩;replace Bx:=Bx.below hb;replace hB:=hB.trans (hb.mono hB.size);obtain⟨p0,p1⟩:=Bx.cel2;obtain⟨f0,f1⟩:=Bx.frz2;have hfl:=q22 a0 a1 a2 0 a4 a5 a6 w';clear hb hv1 hh hc hr Bx
   go_wp2
   exact bodyPost_ret (v:=.agg #[.int .i64 0,.int .i64 a2]) (by simp[results,Tryz.results196,go_sem,p0,p1]) rfl ⟨rfl,(hB.setCell (p:=⟨w.heap.size,0,none⟩) (Nat.le_refl _) _).setCell (p:=⟨w.heap.size,1,none⟩) (Nat.le_refl _) _⟩
  ·have h1':z1Y zs m=false:=by simpa using h1
   have e1:pfC zs m=10:=by simp[pfC,h0,h1']
   have e2:pfV zs m=0:=by simp[pfV,e1]
   rw[e1,e2];rw[h1']at hh;clear e1 e2 h0 hl h1;go_enter Tryz.func196,Tryz.ntmps196
   go_wp2_with (first|(go_at_call 140;refine(hv _ (h.below (by go_grown))).mono ?_;rintro e w' ⟨rfl,rfl⟩)|(go_at_call 217;refine hh.mono ?_;rintro e w' ⟨rfl,rfl⟩))
   exact bodyPost_ret (v:=.agg #[.int .i64 10,.int .i64 0]) (by simp[results,Tryz.results196,go_sem]) rfl ⟨rfl,by go_grown⟩
 ·have e1:pfC zs m=vf zs 1:=by simp[pfC,h0]
  have e2:pfV zs m=0:=by simp[pfV,e1,h0]
  rw[e1,e2];clear e1 e2;have h0':(vf zs 1 !=0)=true:=by simpa using h0
  clear h0;generalize vf zs 1=c at*;go_enter Tryz.func196,Tryz.ntmps196
  go_wp2_with (go_at_call 140;refine(hv _ (h.below (by go_grown))).mono ?_;rintro e w' ⟨rfl,rfl⟩)
  exact bodyPost_ret (v:=.agg #[.int .i64 c,.int .i64 0]) (by simp[results,Tryz.results196,go_sem]) rfl ⟨rfl,by go_grown⟩
theorem z4s(a:Option Addr)(cap:Nat)(zs:List Int)(m:Int)(w:World)(h:Row .i64 w a zs)(hl:zs.length=3):
  Calls Tryz.prog 162 #[.slice a 3 cap,.int .i64 m] w fun e w'=>e=.returned (.bool (z1Y zs m))∧Below w.heap.size w w':=by
 have hq:=z6u m w;unfold z1Y;by_cases h1:isQ m=true
 ·have hvo:=fun w h=>z0B a cap zs m 3 w h hl (z97 h1)
  rw[h1]at hq⊢;clear h1;generalize cnt m zs 3=u at*;go_enter Tryz.func162,Tryz.ntmps162
  go_wp2_with fail
  refine hq.mono ?_;rintro e w1 ⟨rfl,b1⟩;have hv1:=hvo w1 (h.below b1);clear hvo hq
  go_wp2_with fail
  refine hv1.mono ?_;rintro e w2 ⟨rfl,b2⟩;replace b2:=b1.trans (b2.mono b1.size);clear hv1
  go_wp2
  go_ret;exact⟨by simp,b2⟩
 ·have h1':isQ m=false:=by simpa using h1
  rw[h1']at hq⊢;clear h1 h1';go_enter Tryz.func162,Tryz.ntmps162
  go_wp2_with (go_at_call 188;refine hq.mono ?_;rintro e w' ⟨rfl,b1⟩)
  go_ret;exact⟨by simp,b1⟩
theorem z48(a:Option Addr)(cap:Nat)(zs:List Int)(m:Int)(w:World)(h:Row .i64 w a zs)(hl:zs.length=3)(hm:inB m 0 7=true):
  Calls Tryz.prog 163 #[.slice a 3 cap,.int .i64 m] w fun e w'=>e=.returned (.int .i64 (pr2 (cnt m zs 0) (cnt m zs 1)))∧Below w.heap.size w w':=by
 have hc0:=fun w h=>z0B a cap zs m 0 w h hl hm
 have hc1:=fun w h=>z0B a cap zs m 1 w h hl hm
 generalize cnt m zs 0=z at*;generalize cnt m zs 1=o at*;generalize hE:pr2 z o=E;unfold pr2 at hE;have h0:=hc0 w h;clear hc0;by_cases hz:2≤z
 ·rw[if_pos hz]at hE;have HE:Hid (E=0):=hE.symm;clear hc1 hE;go_enter Tryz.func163,Tryz.ntmps163
  go_wp2
  refine wp_loop_rounds 1 ?_;rw[rounds_succ]
  go_wp2_with fail
  refine h0.mono ?_;rintro e w1 ⟨rfl,b1⟩;clear h0
  go_wp2
  go_ret;exact⟨by rw[HE.out];rfl,b1⟩
 ·rw[if_neg hz]at hE;have HE:Hid (E=if 2≤o then 1 else 2):=hE.symm;clear hE;go_enter Tryz.func163,Tryz.ntmps163
  go_wp2
  refine wp_loop_rounds 3 ?_;rw[rounds_succ]
  go_wp2_with fail
  refine h0.mono ?_;rintro e w1 ⟨rfl,b1⟩;have h1:=hc1 w1 (h.below b1);clear h0 hc1;by_cases ho:2≤o
  ·have HE2:Hid (E=1):=HE.out.trans (if_pos ho);clear HE
   go_wp2_with fail
   rw[rounds_succ]
   go_wp2_with fail
   refine h1.mono ?_;rintro e w2 ⟨rfl,b2⟩;replace b2:=b1.trans (b2.mono b1.size);clear h1
   go_wp2
   go_ret;exact⟨by rw[HE2.out];rfl,b2⟩
  ·have HE2:Hid (E=2):=HE.out.trans (if_neg ho);clear HE
   go_wp2_with fail
   rw[rounds_succ]
   go_wp2_with fail
   refine h1.mono ?_;rintro e w2 ⟨rfl,b2⟩;replace b2:=b1.trans (b2.mono b1.size);clear h1
   go_wp2
   rw[rounds_succ]
   go_wp2
   go_ret;exact⟨by rw[HE2.out];rfl,b2⟩
theorem z6J(a:Option Addr)(cap:Nat)(zs:List Int)(m:Int)(w:World)(h:Row .i64 w a zs)(hm:zs.length≤9223372036854775807):
  Calls Tryz.prog 131 #[.slice a zs.length cap,.int .i64 m] w fun e w'=>e=.returned (.agg #[.int .i64 (pfC zs m),.int .i64 (pfV zs m)])∧Below w.heap.size w w':=by
 obtain⟨C,hC⟩:∃C,pfC zs m=C:=⟨_,rfl⟩
 obtain⟨V,hV⟩:∃V,pfV zs m=V:=⟨_,rfl⟩
 have HC:Hid (pfC zs m=C∧pfV zs m=V):=And.intro hC hV;rw[hC,hV];clear hC hV;have hB:Below w.heap.size w (w.alloc (.cells #[.int .i64 0,.int .i64 0] 113)):=by go_grown
 have Bx:=Blk.new w 113 #[.int .i64 0,.int .i64 0];have hv:=z0Q a cap zs 1 _ (h.below hB) hm;go_enter Tryz.func131,Tryz.ntmps131
 go_wp2_with fail
 generalize w.alloc (.cells #[.int .i64 0,.int .i64 0] 113)=W at*;refine hv.mono ?_;rintro e w1 ⟨rfl,hb⟩;replace Bx:=Bx.below hb;replace hB:=hB.trans (hb.mono hB.size);clear hv hb;by_cases h0:vf zs 1=0
 ·have hl:=z0P h0;have hh:=z4s a cap zs m w1 (h.below hB) hl;rw[h0,hl];by_cases h1:z1Y zs m=true
  ·have HE:Hid (C=0∧V=pr2 (cnt m zs 0) (cnt m zs 1)):=by
    obtain⟨e1,e2⟩:=HC.out;have e3:pfC zs m=0:=by simp[pfC,h0,h1]
    exact⟨e1.symm.trans e3,e2.symm.trans (by simp[pfV,e3])⟩
   have hp:=fun w h=>z48 a cap zs m w h hl (z37 h1)
   rw[h1]at hh;clear h0 hl h1 HC;generalize pr2 (cnt m zs 0) (cnt m zs 1)=P at*
   go_wp2_with fail
   refine hh.mono ?_;rintro e w2 ⟨rfl,hb⟩;replace Bx:=Bx.below hb;replace hB:=hB.trans (hb.mono hB.size);have hp2:=hp w2 (h.below hB);clear hh hb hp
   go_wp2_with fail
   refine hp2.mono ?_;rintro e w3 ⟨rfl,hb⟩;replace Bx:=Bx.below hb;replace hB:=hB.trans (hb.mono hB.size);obtain⟨p0,p1⟩:=Bx.cel2;obtain⟨f0,f1⟩:=Bx.frz2;clear hp2 hb Bx
   go_wp2
   exact bodyPost_ret (v:=.agg #[.int .i64 0,.int .i64 P]) (by simp[results,Tryz.results131,go_sem,p0,p1]) rfl ⟨by rw[HE.out.1,HE.out.2],(hB.setCell (p:=⟨w.heap.size,0,none⟩) (Nat.le_refl _) _).setCell (p:=⟨w.heap.size,1,none⟩) (Nat.le_refl _) _⟩
  ·have h1':z1Y zs m=false:=by simpa using h1
   have HE:Hid (C=10∧V=0):=by
    obtain⟨e1,e2⟩:=HC.out;have e3:pfC zs m=10:=by simp[pfC,h0,h1']
    exact⟨e1.symm.trans e3,e2.symm.trans (by simp[pfV,e3])⟩
   rw[h1']at hh;clear h0 hl h1 HC
   go_wp2_with fail
   refine hh.mono ?_;rintro e w2 ⟨rfl,hb⟩;replace Bx:=Bx.below hb;replace hB:=hB.trans (hb.mono hB.size);obtain⟨p0,p1⟩:=Bx.cel2;obtain⟨f0,f1⟩:=Bx.frz2;clear hh hb Bx
   go_wp2
   exact bodyPost_ret (v:=.agg #[.int .i64 10,.int .i64 0]) (by simp[results,Tryz.results131,go_sem,p0,p1]) rfl ⟨by rw[HE.out.1,HE.out.2],(hB.setCell (p:=⟨w.heap.size,0,none⟩) (Nat.le_refl _) _).setCell (p:=⟨w.heap.size,1,none⟩) (Nat.le_refl _) _⟩
 ·have HE:Hid (C=vf zs 1∧V=0):=by
   obtain⟨e1,e2⟩:=HC.out;have e3:pfC zs m=vf zs 1:=by simp[pfC,h0]
   exact⟨e1.symm.trans e3,e2.symm.trans (by simp[pfV,e3,h0])⟩
  have h0':(vf zs 1 !=0)=true:=by simpa using h0
  clear h0 HC;generalize vf zs 1=c at*;obtain⟨p0,p1⟩:=Bx.cel2;obtain⟨f0,f1⟩:=Bx.frz2;clear Bx
  go_wp2
  exact bodyPost_ret (v:=.agg #[.int .i64 c,.int .i64 0]) (by simp[results,Tryz.results131,go_sem,p0,p1]) rfl ⟨by rw[HE.out.1,HE.out.2],(hB.setCell (p:=⟨w.heap.size,0,none⟩) (Nat.le_refl _) _).setCell (p:=⟨w.heap.size,1,none⟩) (Nat.le_refl _) _⟩
end Go.Proofs.YtljbililjlafcaaGreatDoor
