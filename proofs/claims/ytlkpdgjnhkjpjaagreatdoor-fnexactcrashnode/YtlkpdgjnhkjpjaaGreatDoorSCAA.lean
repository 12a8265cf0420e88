/- Texts joined,with what the laws reach alone. -/
import Derived.WalkKit
import Derived.WalkSpells
import Derived.WalkLawsBesides
import Derived.BigQuiet
import Derived.Handy
import Derived.Test.YtlkpdgjnhkjpjaaGreatDoorProg
set_option linter.unusedVariables false
set_option linter.unusedSimpArgs false
set_option maxRecDepth 100000
set_option maxHeartbeats 4000000
namespace Go.Proofs.YtlkpdgjnhkjpjaaGreatDoor
open Go.RowKit Go.BigFrame
theorem pjE{α:Type}:(∀ (l:List α) (i:Nat) (a:α),l.toArray.setIfInBounds i a=(l.set i a).toArray)∧(∀ (l:List α) (x a:α),(x::l).set 0 a=a::l)∧(∀ (l:List α) (x a:α) (n:Nat),(x::l).set (n+1) a=x::l.set n a):=
 ⟨fun _ _ _=>List.setIfInBounds_toArray ..,fun _ _ _=>rfl,fun _ _ _ _=>rfl⟩
theorem pgE{α:Type}:(∀ (l:List α) (i:Nat) (h:i<l.toArray.size),l.toArray[i]=l[i]'(by simpa using h))∧(∀ (l:List α) (x:α) (i:Nat) (h:i+1<(x::l).length),(x::l)[i+1]=l[i]'(Nat.lt_of_succ_lt_succ h))∧(∀ (l:List α) (x:α) (h:0<(x::l).length),(x::l)[0]=x):=
 ⟨fun _ _ _=>List.getElem_toArray ..,fun _ _ _ _=>List.getElem_cons_succ ..,fun _ _ _=>rfl⟩
def Row(k:IntKind)(w:World)(a:Option Addr)(zs:List Int):Prop:=
 ∀i,i<zs.length→∃b off,a=some ⟨b,off,none⟩∧b<w.heap.size∧w.cell? ⟨b,off+i,none⟩=some (.int k (zs.getD i 0))
theorem Row.nil(k:IntKind)(w:World)(a:Option Addr):Row k w a []:=fun i h=>absurd h (Nat.not_lt_zero _)
theorem Row.below{k:IntKind}{w w':World}{a:Option Addr}{zs:List Int}(h:Row k w a zs)(hb:Below w.heap.size w w'):Row k w' a zs:=by
 intro i hi;obtain⟨b,off,ha,hlt,hc⟩:=h i hi;exact⟨b,off,ha,Nat.lt_of_lt_of_le hlt hb.size,by rw[hb.cell (p:=⟨b,off+i,none⟩) hlt];exact hc⟩
theorem Row.own{k:IntKind}{w:World}{base e n c:Nat}{a:Option Addr}{zs:List Int}(h:w.ownsRow base e 1 (.slice a n c) n (zs.map (Value.int k))):Row k w a zs:=by
 have hlen:zs.length=n:=by simpa using h.1
 intro i hi;rcases h.2 with⟨he,hn⟩|⟨g,cap,cur,he,hb,hg,r⟩
 ·omega
 ·simp only[Value.slice.injEq,true_and]at he;obtain⟨rfl,rfl⟩:=he;refine⟨g,0,rfl,(Array.getElem?_eq_some_iff.1 hg).1,?_⟩;have:=h.cellAt i (by omega);rw[Nat.zero_add,this];simp[List.getD,hi]
theorem q5P{W w1:World}(hb:Below W.heap.size W w1):(∀b o,b<W.heap.size→w1.cell? ⟨b,o,none⟩=W.cell? ⟨b,o,none⟩)∧(∀b o,b<W.heap.size→w1.frozen? ⟨b,o,none⟩=W.frozen? ⟨b,o,none⟩):=
 ⟨fun b o h=>hb.cell (p:=⟨b,o,none⟩) h,fun b o h=>hb.frozen (p:=⟨b,o,none⟩) h⟩
theorem z0a{w w':World}{base e size n:Nat}{v:Value}{xs:List Value}(h:w.ownsRow base e size v n xs)(hb:Below w.heap.size w w'):w'.ownsRow base e size v n xs:=by
 refine⟨h.1,?_⟩;rcases h.2 with h2|⟨g,cap,cur,hv,hg,hh,r⟩
 ·exact Or.inl h2
 ·exact Or.inr ⟨g,cap,cur,hv,hg,by rw[hb.block g (Array.getElem?_eq_some_iff.1 hh).1];exact hh,r⟩
theorem z0g{w:World}{base e size n:Nat}{v:Value}{xs:List Value}(h:w.ownsRow base e size v n xs):∃a k,v=.slice a n k:=by
 rcases h.2 with⟨rfl,rfl⟩|⟨g,cap,cur,rfl,r⟩
 ·exact⟨_,_,rfl⟩
 ·exact⟨_,_,rfl⟩
theorem z0o{w:World}{base base' e size n:Nat}{v:Value}{xs:List Value}(h:w.ownsRow base e size v n xs)(hb:base'≤base):w.ownsRow base' e size v n xs:=by
 refine⟨h.1,?_⟩;rcases h.2 with h2|⟨g,cap,cur,hv,hg,r⟩
 ·exact Or.inl h2
 ·exact Or.inr ⟨g,cap,cur,hv,Nat.le_trans hb hg,r⟩
structure Box (w:World) (b:Nat) (x y:Value):Prop where
 fst:w.cell? ⟨b,0,none⟩=some x
 snd:w.cell? ⟨b,1,none⟩=some y
theorem Box.lt{w:World}{b:Nat}{x y:Value}(h:Box w b x y):b<w.heap.size:=World.block_lt_of_cell? w ⟨b,0,none⟩ h.fst
theorem Box.new(w:World)(x y:Value)(t:TypeId):Box (w.alloc (.cells #[x,y] t)) w.heap.size x y:=⟨by simp,by simp⟩
theorem Box.below{w w':World}{b:Nat}{x y:Value}(h:Box w b x y)(hb:Below w.heap.size w w'):Box w' b x y:=
 ⟨by rw[hb.cell (p:=⟨b,0,none⟩) h.lt];exact h.fst,by rw[hb.cell (p:=⟨b,1,none⟩) h.lt];exact h.snd⟩
theorem Box.alloc{w:World}{b:Nat}{x y:Value}(h:Box w b x y)(o:Obj):Box (w.alloc o) b x y:=h.below ((Below.refl _ _).alloc (Nat.le_refl _) o)
theorem Box.grown{w w':World}{b:Nat}{x y:Value}{row:Option Nat}(h:Box w b x y)(hg:w.grownBy w' row)(hne:some b≠row):Box w' b x y:=
 ⟨hg.cell h.fst hne,hg.cell h.snd hne⟩
def z3p(k:IntKind)(c:Int)(n:Nat):List Int:=(List.range n).map fun(i:Nat)=>k.wrap (c+(i:Int))
theorem z4g(k:IntKind)(c:Int)(n:Nat):(z3p k c n).length=n:=by simp[z3p]
theorem z93(k:IntKind)(c:Int)(n i:Nat)(h:i<n):(z3p k c n).getD i 0=k.wrap (c+(i:Int)):=by simp[z3p,List.getD,h]
def z94(zs:List Int)(k:IntKind)(xs:List Value)(i:Nat):List Value:=(zs.take i).map (Value.int k)++xs.drop i
theorem z7A(zs:List Int)(k:IntKind)(xs:List Value):z94 zs k xs 0=xs:=by simp[z94]
theorem z9y(zs:List Int)(k:IntKind)(xs:List Value)(h:xs.length=zs.length):z94 zs k xs zs.length=zs.map (Value.int k):=by
 have:xs.drop zs.length=[]:=List.drop_of_length_le (by omega);simp[z94,this]
theorem z7B(zs:List Int)(k:IntKind)(xs:List Value)(i:Nat)(h:xs.length=zs.length)(hi:i<zs.length):(z94 zs k xs i).set i (.int k (zs.getD i 0))=z94 zs k xs (i+1):=by
 apply List.ext_getElem?;intro j;simp only[z94,List.getElem?_set,List.getElem?_append,List.length_append,List.length_map,List.length_take,List.length_drop,List.getElem?_map,List.getElem?_drop,List.getElem?_take];by_cases hj:j=i
 ·subst hj;simp[Nat.min_eq_left (Nat.le_of_lt hi),hi,h,List.getD,Nat.min_eq_left (show j+1≤zs.length by omega)];omega
 ·rw[if_neg (by omega)];rw[Nat.min_eq_left (by omega),Nat.min_eq_left (by omega)];by_cases hlt:j<i
  ·simp[hlt,show j<i+1 by omega]
  ·rw[if_neg hlt,if_neg (by omega)]
   congr 1;omega
theorem z4Y(zs:List Int)(k:IntKind)(xs:List Value)(i:Nat)(h:xs.length=zs.length)(hi:i≤zs.length):(z94 zs k xs i).length=xs.length:=by
 simp[z94];omega
theorem z4Z:(Tryz.prog.info? 2).map (fun i=>(i.zero,i.size,i.bytes))=some (some (.int .i64 0),1,8):=by kernel_rfl
theorem q3Z(a:Option Addr)(cap:Nat)(zs:List Int)(w:World)(h:Row .i64 w a zs)(hl:zs.length≤1048576):
  Calls Tryz.prog 135 #[.slice a zs.length cap] w fun e w'=>∃g c,e=.returned (.slice (some ⟨g,0,none⟩) zs.length c)∧
   w'.ownsRow w.heap.size 2 1 (.slice (some ⟨g,0,none⟩) zs.length c) zs.length (zs.map (Value.int .i64))∧Below w.heap.size w w':=by
 obtain⟨i0,hi,U,V,W⟩:=info_parts z4Z;have y:i0.bytes*zs.length≤281474976710656:=by rw[W];omega
 have J:zs.length≤maxLen:=by unfold maxLen;omega
 go_enter Tryz.func135,Tryz.ntmps135
 go_wp2_with (at_make;refine wpList_make_full _ rfl _ _ 115 rfl w.heap.size 2 i0 (.int .i64 0) 1 Tryz.underlying115 hi U V _ _ _ _ zs.length rfl rfl rfl rfl y J (Nat.le_refl _) ?_)
 intro w1 x C;have d:(madeCells #[Value.int .i64 0] zs.length).toList.length=zs.length:=by simp[size_madeCells]
 have M:Below w.heap.size w w1:=(Below.refl _ _).grown C (Nat.le_refl _) (by simp);generalize (madeCells #[Value.int .i64 0] zs.length).toList=ys at x d;rw[←z7A zs .i64 ys]at x
 go_wp2
 go_loopw[4] (fun i wr=>∃k:Nat,k≤zs.length∧i=.int .i64 k∧wr.ownsRow w.heap.size 2 1 (.slice (some ⟨w.heap.size,0,none⟩) zs.length zs.length) zs.length (z94 zs .i64 ys k)∧Below w.heap.size w wr) (fun i _=>zs.length-(intOf i).toNat)
 case atStart=>exact⟨0,Nat.zero_le _,rfl,x,M⟩
 case round=>
  obtain⟨k,hk,rfl,ho,hb⟩:=hrel;by_cases I:k<zs.length
  ·obtain⟨b,L,rfl,N,hc⟩:=h k I;have O:wr.cell? ⟨b,L+k,none⟩=some (.int .i64 (zs.getD k 0)):=by rw[hb.cell (p:=⟨b,L+k,none⟩) N];exact hc
   have X:wr.frozen? ⟨w.heap.size,k,none⟩=false:=ho.frozenAt k;obtain⟨u,hu⟩:∃u,wr.cell? ⟨w.heap.size,k,none⟩=some u:=by
    rw[ho.cellAt k (by omega)];exact⟨_,List.getElem?_eq_getElem (by rw[z4Y _ _ _ _ d hk,d];exact I)⟩
   have A:=ho.stored k (.int .i64 (zs.getD k 0));rw[z7B zs .i64 ys k d I]at A;generalize zs.getD k 0=z at A O;have R:Hid ((wr.setCell ⟨w.heap.size,k,none⟩ (.int .i64 z)).ownsRow w.heap.size 2 1 (.slice (some ⟨w.heap.size,0,none⟩) zs.length zs.length) zs.length (z94 zs .i64 ys (k+1))∧Below w.heap.size w (wr.setCell ⟨w.heap.size,k,none⟩ (.int .i64 z))):=⟨A.1,hb.setCell (Nat.le_refl _) _⟩
   clear A hc
   go_wp2
   go_roundw
   case rel=>exact⟨k+1,by omega,by go_num,R.out.1,R.out.2⟩
   case measure=>simp[intOf];omega
  ·go_wp2
   go_ret;have T:k=zs.length:=by omega
   subst T;rw[z9y zs .i64 ys d]at ho;exact⟨_,_,rfl,ho,hb⟩
theorem q2L(a a':Option Addr)(cap cap':Nat)(zs:List Int)(w:World)(h:Row .i64 w a zs)(h':Row .i64 w a' zs)(hl:zs.length≤1099511627776):
  Calls Tryz.prog 140 #[.slice a zs.length cap,.slice a' zs.length cap'] w fun e w'=>e=.returned (.bool true)∧∃n,w'=w.drewN n:=by
 go_enter Tryz.func140,Tryz.ntmps140
 go_wp2
 go_loopw[5] (fun i wr=>∃k m:Nat,k≤zs.length∧i=.int .i64 k∧wr=w.drewN m) (fun i _=>zs.length-(intOf i).toNat)
 case atStart=>exact⟨0,0,Nat.zero_le _,rfl,rfl⟩
 case round=>
  obtain⟨k,m,hk,rfl,rfl⟩:=hrel;by_cases hlt:k<zs.length
  ·obtain⟨b,off,rfl,hbs,hc⟩:=h k hlt;obtain⟨b',off',rfl,hbs',hc'⟩:=h' k hlt;generalize zs.getD k 0=z at hc hc';have hne:(z !=z)=false:=by simp
   go_wp2
   go_quiet (fail)
   go_wp2
   go_roundw
   case rel=>exact⟨k+1,_,by omega,by go_num,rfl⟩
   case measure=>simp[intOf];omega
  ·go_wp2
   go_ret;exact⟨rfl,_,rfl⟩
theorem q01(base:Nat)(v:Value)(n:Nat)(xs:List Value)(c:Int)(w:World)(h:w.ownsRow base 2 1 v n xs)(hn:n≤1099511627776)(h0:0≤c)(h1:c≤1099511627776):
  Calls Tryz.prog 87 #[v,.int .i64 c] w fun e w'=>e=.returned (.int .i64 (c+n))∧w'.ownsRow base 2 1 v n ((z3p .i64 c n).map (Value.int .i64))∧w.grownBy w' v.ownBlock:=by
 have M:xs.length=n:=by simpa using h.1
 rcases h.2 with⟨rfl,rfl⟩|⟨g,cap,J,rfl,hb,hg,r⟩
 ·go_enter Tryz.func87,Tryz.ntmps87
  go_wp2
  refine wp_loop_rounds 1 ?_;rw[rounds_succ]
  go_wp2
  go_ret;exact⟨by simp,World.ownsRow_nil _ _ _ _,World.grownBy.refl _ _⟩
 ·clear hg r;have I:=z4g .i64 c n;rw[←z7A (z3p .i64 c n) .i64 xs]at h;go_enter Tryz.func87,Tryz.ntmps87
  go_wp2
  go_loopw[1,5] (fun j i wr=>∃k:Nat,k≤n∧j=.int .i64 (c+k)∧i=.int .i64 k∧wr.ownsRow base 2 1 (.slice (some ⟨g,0,none⟩) n cap) n (z94 (z3p .i64 c n) .i64 xs k)∧w.grownBy wr (some g)) (fun _ i _=>n-(intOf i).toNat)
  case atStart=>exact⟨0,Nat.zero_le _,by go_num,rfl,h,World.grownBy.refl _ _⟩
  case round=>
   obtain⟨k,hk,rfl,rfl,ho,x⟩:=hrel;by_cases C:k<n
   ·have L:wr.frozen? ⟨g,k,none⟩=false:=ho.frozenAt k;obtain⟨u,hu⟩:∃u,wr.cell? ⟨g,k,none⟩=some u:=by
     rw[ho.cellAt k (by omega)];exact⟨_,List.getElem?_eq_getElem (by rw[z4Y _ _ _ _ (by omega) (by omega)];omega)⟩
    have d:=ho.stored k (.int .i64 ((z3p .i64 c n).getD k 0));rw[z7B (z3p .i64 c n) .i64 xs k (by omega) (by omega),z93 _ _ _ _ C,IntWalk.i64_in _ (by omega)]at d;have R:Hid ((wr.setCell ⟨g,k,none⟩ (.int .i64 (c+(k:Int)))).ownsRow base 2 1 (.slice (some ⟨g,0,none⟩) n cap) n (z94 (z3p .i64 c n) .i64 xs (k+1))∧w.grownBy (wr.setCell ⟨g,k,none⟩ (.int .i64 (c+(k:Int)))) (some g)):=
     ⟨d.1,⟨d.2.os.trans x.os,d.2.tape.trans x.tape,d.2.output.trans x.output,Nat.le_trans x.size d.2.size,fun j hj z=>(d.2.block j (Nat.lt_of_lt_of_le hj x.size) z).trans (x.block j hj z)⟩⟩
    clear d
    go_wp2
    go_roundw
    case rel=>exact⟨k+1,by omega,by go_num,by go_num,R.out.1,R.out.2⟩
    case measure=>simp[intOf];omega
   ·go_wp2
    go_ret;have A:k=n:=by omega
    subst A;have y:=z9y (z3p .i64 c k) .i64 xs (by omega);rw[I]at y;rw[y]at ho;exact⟨rfl,ho,x⟩
def inB(v lo hi:Int):Bool:=decide (lo≤v∧v≤hi)
theorem z1f(v lo hi:Int)(w:World):
  Calls Tryz.prog 108 #[.int .i64 v,.int .i64 lo,.int .i64 hi] w fun e w'=>e=.returned (.bool (inB v lo hi))∧w'=w:=by
 by_cases h1:lo≤v<;>by_cases h2:v≤hi
 all_goals
  go_enter Tryz.func108,Tryz.ntmps108
  go_wp2
  go_ret;exact⟨by simp[inB,h1,h2],rfl⟩
theorem z0O(n lo hi:Int)(w:World):
  Calls Tryz.prog 62 #[.int .i64 n,.int .i64 lo,.int .i64 hi] w fun e w'=>e=.returned (.bool (inB n lo hi))∧w'=w:=by
 by_cases h1:lo≤n<;>by_cases h2:n≤hi
 all_goals
  go_enter Tryz.func62,Tryz.ntmps62
  go_wp2
  go_ret;exact⟨by simp[inB,h1,h2],rfl⟩
theorem q2M:(Tryz.prog.info? 2).map (fun i=>(i.zero,i.size,i.bytes))=some (some (.int .i64 0),1,8):=by kernel_rfl
def bitB(m:Int)(k:Nat):Bool:=decide (m / 2^k % 2=1)
def z2k(m:Int)(k:Nat):List Int:=((List.range k).filter (bitB m)).map fun(i:Nat)=>(i:Int)
theorem q02(m:Int)(k:Nat)(h:bitB m k=true):z2k m (k+1)=z2k m k++[(k:Int)]:=by simp[z2k,List.range_succ,List.filter_append,h]
theorem q2N(m:Int)(k:Nat)(h:bitB m k=false):z2k m (k+1)=z2k m k:=by simp[z2k,List.range_succ,List.filter_append,h]
theorem z9z(m:Int)(k:Nat):(z2k m k).length≤k:=by
 have:=List.length_filter_le (bitB m) (List.range k);simpa[z2k]using this
theorem q30(m:Int)(k:Nat)(h:0≤m):((m / 2^k).tmod 2==1)=bitB m k:=by
 have h2:0≤m / 2^k:=Int.ediv_nonneg h (by exact Int.le_of_lt (Int.pow_pos (by decide)));rw[Int.tmod_eq_emod_of_nonneg h2];simp[bitB,Bool.beq_eq_decide_eq]
theorem z40(m:Int)(k:Nat)(w:World)(h0:0≤m)(h1:m≤65535)(hk:k<16):
  Calls Tryz.prog 263 #[.int .i64 m,.int .i64 k] w fun e w'=>e=.returned (.bool (bitB m k))∧w'=w:=by
 go_enter Tryz.func263,Tryz.ntmps263
 go_wp2
 go_ret;exact⟨by simp[q30 m k h0],rfl⟩
theorem z95(m:Int)(w:World)(h0:0≤m)(h1:m≤65535):
  Calls Tryz.prog 318 #[.int .i64 m] w fun e w'=>∃a c,e=.returned (.slice a (z2k m 16).length c)∧w'.ownsRow w.heap.size 2 1 (.slice a (z2k m 16).length c) (z2k m 16).length ((z2k m 16).map (Value.int .i64))∧Below w.heap.size w w':=by
 obtain⟨i0,hi,I,J,L⟩:=info_parts q2M;go_enter Tryz.func318,Tryz.ntmps318
 go_wp2
 go_loopw[3,4] (fun v i wr=>∃k:Nat,k≤16∧i=.int .i64 k∧wr.ownsRow w.heap.size 2 1 v (z2k m k).length ((z2k m k).map (Value.int .i64))∧Below w.heap.size w wr) (fun _ i _=>16-(intOf i).toNat)
 case atStart=>exact⟨0,Nat.zero_le _,rfl,World.ownsRow_lit w #[] 0 (Nat.le_refl _) (by decide) rfl,by go_grown⟩
 case round=>
  obtain⟨k,hk,rfl,ho,hb⟩:=hrel;have M:=z9z m k;have N:=hb.size;by_cases A:k<16
  ·by_cases d:bitB m k=true
   ·go_wp2_with (first|(go_at_call 263;refine(z40 m k _ h0 h1 A).mono ?_;rintro e w' ⟨rfl,rfl⟩)|(at_builtin;refine wpList_append_own _ rfl _ _ 115 rfl w.heap.size 2 i0 (.int .i64 0) 1 8 Tryz.underlying115 hi I J L rfl (by decide) _ _ _ rfl (ho.alloc _) ⟨_,0,none⟩ 1 1 [.int .i64 k] rfl rfl ?c1 ?c2 ?c3 ?c4 ?c5 ?_))
    case c1=>exact cell_one_new _ _ _
    case c2=>intro u hu;simp at hu;subst hu;rfl
    case c3=>unfold maxLen;omega
    case c4=>omega
    case c5=>simp;omega
    intro v' w1 y x _;have R:Hid (w1.ownsRow w.heap.size 2 1 v' (z2k m (k+1)).length ((z2k m (k+1)).map (Value.int .i64))∧Below w.heap.size w w1):=by
     rw[q02 m k d];exact⟨by simpa using y,(hb.alloc hb.size _).grown x (by simp;omega) (fun j hj=>(ho.lt j hj).1)⟩
    clear y x ho
    go_wp2
    go_roundw
    case rel=>exact⟨k+1,by omega,by go_num,R.out.1,R.out.2⟩
    case measure=>simp[intOf];omega
   ·have z:bitB m k=false:=by simpa using d
    clear d;rw[←q2N m k z]at ho
    go_wp2_with (first|(go_at_call 263;refine(z40 m k _ h0 h1 A).mono ?_;rintro e w' ⟨rfl,rfl⟩))
    go_roundw
    case rel=>exact⟨k+1,by omega,by go_num,ho,hb⟩
    case measure=>simp[intOf];omega
  ·have C:k=16:=by omega
   subst C;obtain⟨a1,c1,rfl⟩:=z0g ho
   go_wp2
   go_ret;exact⟨_,_,rfl,ho,hb⟩
def vOk(most x:Int):Bool:=inB x 0 most||x==3
def vf(zs:List Int)(most:Int):Int:=if zs.length=3 then(if zs.all (vOk most)then 0 else 3)else 2
def vfault(zs:List Int)(most:Int):Int:=if inB most 1 2 then vf zs most else 3
def q0Z(p q r:Bool):Int:=p.toNat+q.toNat+r.toNat
def q3B(m:Int):Int:=q0Z (bitB m 0) (bitB m 1) (bitB m 2)
def cnt(m:Int)(zs:List Int)(v:Int):Int:=q0Z (bitB m 0 && (zs.getD 0 0==v)) (bitB m 1 && (zs.getD 1 0==v)) (bitB m 2 && (zs.getD 2 0==v))
def q31(p q r:Bool):Int:=p.toNat+2*q.toNat+4*r.toNat
def vot(zs:List Int)(v:Int):Int:=q31 (zs.getD 0 0==v) (zs.getD 1 0==v) (zs.getD 2 0==v)
def isQ(m:Int):Bool:=inB m 0 7 && decide (2≤q3B m)
theorem q32{m:Int}(h:inB m 0 7=true):m=0∨m=1∨m=2∨m=3∨m=4∨m=5∨m=6∨m=7:=by
 have:=of_decide_eq_true h;omega
theorem z96{zs:List Int}(h:zs.length=3):∃x y z,zs=[x,y,z]:=by
 match zs,h with
 |[x,y,z],_=>exact⟨x,y,z,rfl⟩
theorem z00{zs:List Int}{most:Int}(h:vf zs most=0):zs.length=3:=by
 unfold vf at h;split at h
 ·assumption
 ·simp at h
theorem q33(p q r:Bool):inB (q31 p q r) 0 7=true:=by cases p<;>cases q<;>cases r<;>decide
theorem q45(zs:List Int)(v:Int):inB (vot zs v) 0 7=true:=q33 _ _ _
theorem q2O(p q r:Bool):∀m∈[(0:Int),1,2,3,4,5,6,7],inB (bits .and .i64 m (q31 p q r)) 0 7=true∧q3B (bits .and .i64 m (q31 p q r))=q0Z (bitB m 0 && p) (bitB m 1 && q) (bitB m 2 && r)∧((bits .and .i64 m (q31 p q r))==0)=(q0Z (bitB m 0 && p) (bitB m 1 && q) (bitB m 2 && r)==0):=by
 cases p<;>cases q<;>cases r<;>decide+kernel
theorem z8K{m:Int}(h:inB m 0 7=true)(zs:List Int)(v:Int):inB (bits .and .i64 m (vot zs v)) 0 7=true∧q3B (bits .and .i64 m (vot zs v))=cnt m zs v∧((bits .and .i64 m (vot zs v))==0)=(cnt m zs v==0):=by
 refine q2O _ _ _ m ?_;rcases q32 h with rfl|rfl|rfl|rfl|rfl|rfl|rfl|rfl<;>simp
theorem q03(p q r:Bool):0≤q0Z p q r∧q0Z p q r≤3:=by cases p<;>cases q<;>cases r<;>decide
theorem z2j(m:Int)(zs:List Int)(v:Int):0≤cnt m zs v∧cnt m zs v≤3:=q03 _ _ _
theorem q46{m:Int}(h:inB m 0 7=true):((z2k m 16).length:Int)=q3B m:=by
 rcases q32 h with rfl|rfl|rfl|rfl|rfl|rfl|rfl|rfl<;>decide+kernel
theorem z6e(m:Int)(w:World):
  Calls Tryz.prog 328 #[.int .i64 m] w fun e w'=>e=.returned (.bool (inB m 0 7))∧w'=w:=by
 go_enter Tryz.func328,Tryz.ntmps328
 go_wp2_with (go_at_call 62;refine(z0O _ _ _ _).mono ?_;rintro e w' ⟨rfl,rfl⟩)
 go_ret;exact⟨rfl,rfl⟩
theorem z14(m:Int)(w:World)(h:inB m 0 7=true):
  Calls Tryz.prog 293 #[.int .i64 m] w fun e w'=>e=.returned (.int .i64 (q3B m))∧w'=w:=by
 rcases q32 h with rfl|rfl|rfl|rfl|rfl|rfl|rfl|rfl;all_goals
  clear h;go_enter Tryz.func293,Tryz.ntmps293
  go_wp2
  go_ret;exact⟨by kernel_rfl,rfl⟩
theorem z7C(m:Int)(w:World):
  Calls Tryz.prog 325 #[.int .i64 m] w fun e w'=>e=.returned (.bool (isQ m))∧w'=w:=by
 by_cases h:inB m 0 7=true
 ·have hn:=fun w=>z14 m w h
  go_enter Tryz.func325,Tryz.ntmps325
  go_wp2_with (first|(go_at_call 328;refine(z6e _ _).mono ?_;rintro e w' ⟨rfl,rfl⟩)|(go_at_call 293;refine(hn _).mono ?_;rintro e w' ⟨rfl,rfl⟩))
  go_ret;exact⟨by simp[isQ,h],rfl⟩
 ·have h':inB m 0 7=false:=by simpa using h
  clear h;go_enter Tryz.func325,Tryz.ntmps325
  go_wp2_with (go_at_call 328;refine(z6e _ _).mono ?_;rintro e w' ⟨rfl,rfl⟩)
  go_ret;exact⟨by simp[isQ,h'],rfl⟩
theorem z9A(zs:List Int)(p:Int→Bool)(k:Nat)(h:(zs.take k).all p=true)(hk:k<zs.length)(hx:p (zs.getD k 0)=true):(zs.take (k+1)).all p=true:=by
 rw[List.take_succ_eq_append_getElem hk,List.all_append,h];have e:zs[k]=zs.getD k 0:=by simp[List.getD,hk]
 rw[e,List.all_cons,hx];rfl
theorem q04(zs:List Int)(p:Int→Bool)(k:Nat)(hk:k<zs.length)(hx:p (zs.getD k 0)=false):zs.all p=false:=by
 rw[List.all_eq_false];exact⟨zs.getD k 0,by simp[List.getD,hk],by rw[hx];decide⟩
theorem z0A(a:Option Addr)(cap:Nat)(zs:List Int)(c:Int)(w:World)(h:Row .i64 w a zs)(hm:zs.length≤9223372036854775807):
  Calls Tryz.prog 274 #[.slice a zs.length cap,.int .i64 c] w fun e w'=>e=.returned (.int .i64 (vfault zs c))∧w'=w:=by
 by_cases x:inB c 1 2=true
 ·by_cases hl:zs.length=3
  ·have e0:vfault zs c=if zs.all (vOk c)then 0 else 3:=by simp[vfault,vf,x,hl]
   have E1:Hid (zs.all (vOk c)=true→vfault zs c=0):=fun h=>by rw[e0,h];rfl
   have E2:Hid (zs.all (vOk c)=false→vfault zs c=3):=fun h=>by rw[e0,h];rfl
   clear e0;generalize vfault zs c=E at E1 E2⊢;have C:((zs.length:Int) !=3)=false:=by simp[hl]
   go_enter Tryz.func274,Tryz.ntmps274
   go_wp2_with (go_at_call 62;refine(z0O _ _ _ _).mono ?_;rintro e w' ⟨rfl,rfl⟩)
   go_loop[15] (fun i=>∃k:Nat,k≤zs.length∧i=.int .i64 k∧(zs.take k).all (vOk c)=true) (fun i=>zs.length-(intOf i).toNat)
   case atStart=>exact⟨0,Nat.zero_le _,rfl,by simp⟩
   case round=>
    obtain⟨k,hk,rfl,d⟩:=hrel;by_cases y:k<zs.length
    ·obtain⟨b,L,rfl,J,hc⟩:=h k y;have hT:Hid (vOk c (zs.getD k 0)=true→(zs.take (k+1)).all (vOk c)=true):=fun hx=>z9A zs _ k d y hx
     have hF:Hid (vOk c (zs.getD k 0)=false→zs.all (vOk c)=false):=fun hx=>q04 zs _ k y hx
     clear d;generalize zs.getD k 0=z at hc hT hF;by_cases h1:inB z 0 c=true
     ·have hx:vOk c z=true:=by simp[vOk,h1]
      have R:Hid ((zs.take (k+1)).all (vOk c)=true):=hT.out hx;clear hT hF hx
      go_wp2_with (go_at_call 62;refine(z0O _ _ _ _).mono ?_;rintro e w' ⟨rfl,rfl⟩)
      go_round
      case rel=>exact⟨k+1,by omega,by go_num,R.out⟩
      case measure=>simp[intOf];omega
     ·have A:inB z 0 c=false:=by simpa using h1
      clear h1;by_cases h3:z=3
      ·subst h3;have hx:vOk c 3=true:=by simp[vOk]
       have R:Hid ((zs.take (k+1)).all (vOk c)=true):=hT.out hx;clear hT hF hx
       go_wp2_with (go_at_call 62;refine(z0O _ _ _ _).mono ?_;rintro e w' ⟨rfl,rfl⟩)
       go_round
       case rel=>exact⟨k+1,by omega,by go_num,R.out⟩
       case measure=>simp[intOf];omega
      ·have I:(z !=3)=true:=by simpa using h3
       have hx:vOk c z=false:=by simp[vOk,A,h3]
       have R:Hid (zs.all (vOk c)=false):=hF.out hx;clear hT hF hx h3
       go_wp2_with (go_at_call 62;refine(z0O _ _ _ _).mono ?_;rintro e w' ⟨rfl,rfl⟩)
       go_ret;exact⟨by rw[E2.out R.out];rfl,rfl⟩
    ·go_wp2
     go_ret;rw[List.take_of_length_le (by omega)]at d;exact⟨by rw[E1.out d];rfl,rfl⟩
  ·have e0:vfault zs c=2:=by simp[vfault,vf,x,hl]
   rw[e0];have C:((zs.length:Int) !=3)=true:=by simp;omega
   clear hl;go_enter Tryz.func274,Tryz.ntmps274
   go_wp2_with (go_at_call 62;refine(z0O _ _ _ _).mono ?_;rintro e w' ⟨rfl,rfl⟩)
   go_ret;exact⟨rfl,rfl⟩
 ·have h':inB c 1 2=false:=by simpa using x
  have e0:vfault zs c=3:=by simp[vfault,h']
  rw[e0];clear x;go_enter Tryz.func274,Tryz.ntmps274
  go_wp2_with (go_at_call 62;refine(z0O _ _ _ _).mono ?_;rintro e w' ⟨rfl,rfl⟩)
  go_ret;exact⟨rfl,rfl⟩
def votB(p q r:Bool)(k:Nat):Int:=q31 (decide (0<k) && p) (decide (1<k) && q) (decide (2<k) && r)
theorem q34(p q r:Bool)(k:Nat)(hk:k<3)(h:[p,q,r].getD k false=true):bits .or .i64 (votB p q r k) (wrap64 (2^k))=votB p q r (k+1):=by
 match k,hk with
 |0,_=>revert h;cases p<;>cases q<;>cases r<;>decide+kernel
 |1,_=>revert h;cases p<;>cases q<;>cases r<;>decide+kernel
 |2,_=>revert h;cases p<;>cases q<;>cases r<;>decide+kernel
theorem q35(p q r:Bool)(k:Nat)(hk:k<3)(h:[p,q,r].getD k false=false):votB p q r (k+1)=votB p q r k:=by
 match k,hk with
 |0,_=>revert h;cases p<;>cases q<;>cases r<;>decide+kernel
 |1,_=>revert h;cases p<;>cases q<;>cases r<;>decide+kernel
 |2,_=>revert h;cases p<;>cases q<;>cases r<;>decide+kernel
theorem q36(zs:List Int)(v:Int)(k:Nat)(hk:k<3):[zs.getD 0 0==v,zs.getD 1 0==v,zs.getD 2 0==v].getD k false=(zs.getD k 0==v):=by
 match k,hk with
 |0,_=>rfl
 |1,_=>rfl
 |2,_=>rfl
theorem z1J(a:Option Addr)(cap:Nat)(zs:List Int)(v:Int)(w:World)(h:Row .i64 w a zs)(hl:zs.length=3):
  Calls Tryz.prog 294 #[.slice a 3 cap,.int .i64 v] w fun e w'=>e=.returned (.int .i64 (vot zs v))∧w'=w:=by
 have x:=q36 zs v;have h3:vot zs v=votB (zs.getD 0 0==v) (zs.getD 1 0==v) (zs.getD 2 0==v) 3:=by simp[votB,vot]
 rw[h3];clear h3;generalize (zs.getD 0 0==v)=p at x⊢;generalize (zs.getD 1 0==v)=q at x⊢;generalize (zs.getD 2 0==v)=r at x⊢;generalize hE:votB p q r 3=E;go_enter Tryz.func294,Tryz.ntmps294
 go_wp2
 go_loop[5,10] (fun c i=>∃k:Nat,k≤3∧c=.int .i64 (votB p q r k)∧i=.int .i64 k) (fun _ i=>3-(intOf i).toNat)
 case atStart=>exact⟨0,Nat.zero_le _,rfl,rfl⟩
 case round=>
  obtain⟨k,hk,rfl,rfl⟩:=hrel;by_cases A:k<3
  ·obtain⟨b,L,rfl,J,hc⟩:=h k (by omega);have y:=x k A;by_cases hz:(zs.getD k 0==v)=true
   ·have R:Hid (bits .or .i64 (votB p q r k) (wrap64 (2^k))=votB p q r (k+1)):=q34 p q r k A (y.trans hz);clear y;generalize zs.getD k 0=z at hc hz;generalize votB p q r k=c at R⊢;generalize hd:votB p q r (k+1)=d at R
    go_wp2
    go_round
    case rel=>exact⟨k+1,by omega,by rw[hd,←R.out],by go_num⟩
    case measure=>simp[intOf];omega
   ·have C:(zs.getD k 0==v)=false:=by simpa using hz
    clear hz;have R:Hid (votB p q r k=votB p q r (k+1)):=(q35 p q r k A (y.trans C)).symm;clear y;generalize zs.getD k 0=z at hc C;generalize votB p q r k=c at R⊢
    go_wp2
    go_round
    case rel=>exact⟨k+1,by omega,by rw[R.out],by go_num⟩
    case measure=>simp[intOf];omega
  ·have I:k=3:=by omega
   subst I;rw[hE]
   go_wp2
   go_ret;exact⟨rfl,rfl⟩
theorem z97(m:Int)(w:World)(h:inB m 0 7=true):
  Calls Tryz.prog 303 #[.int .i64 m] w fun e w'=>e=.returned (.int .i64 (q3B m))∧Below w.heap.size w w':=by
 have hm:=of_decide_eq_true h;rw[←q46 h];have hle:=z9z m 16;have h1:=z95 m w hm.1 (by omega);generalize (z2k m 16).length=n at*;go_enter Tryz.func303,Tryz.ntmps303
 go_wp2_with fail
 refine h1.mono ?_;rintro e w1 ⟨a,c,rfl,ho,hb⟩;clear ho
 go_wp2
 go_ret;exact⟨rfl,hb⟩
theorem z7D(m:Int)(w:World):
  Calls Tryz.prog 295 #[.int .i64 m] w fun e w'=>e=.returned (.bool (isQ m))∧Below w.heap.size w w':=by
 by_cases h:inB m 0 7=true
 ·have hn:=fun w=>z97 m w h
  go_enter Tryz.func295,Tryz.ntmps295
  go_wp2_with (first|(go_at_call 108;refine(z1f _ _ _ _).mono ?_;rintro e w' ⟨rfl,rfl⟩)|(go_at_call 303;refine(hn _).mono ?_;rintro e w' ⟨rfl,hb⟩))
  go_ret;exact⟨by simp[isQ,h],hb⟩
 ·have h':inB m 0 7=false:=by simpa using h
  clear h;go_enter Tryz.func295,Tryz.ntmps295
  go_wp2_with (go_at_call 108;refine(z1f _ _ _ _).mono ?_;rintro e w' ⟨rfl,rfl⟩)
  go_ret;exact⟨by simp[isQ,h'],Below.refl _ _⟩
theorem z01(a:Option Addr)(cap:Nat)(zs:List Int)(c:Int)(w:World)(h:Row .i64 w a zs)(hm:zs.length≤9223372036854775807):
  Calls Tryz.prog 262 #[.slice a zs.length cap,.int .i64 c] w fun e w'=>e=.returned (.int .i64 (vf zs c))∧Below w.heap.size w w':=by
 by_cases hl:zs.length=3
 ·have e0:vf zs c=if zs.all (vOk c)then 0 else 3:=by simp[vf,hl]
  have E1:Hid (zs.all (vOk c)=true→vf zs c=0):=fun h=>by rw[e0,h];rfl
  have E2:Hid (zs.all (vOk c)=false→vf zs c=3):=fun h=>by rw[e0,h];rfl
  clear e0;generalize vf zs c=E at E1 E2⊢;rw[hl];go_enter Tryz.func262,Tryz.ntmps262
  go_wp2
  go_loop[5] (fun i=>∃k:Nat,k≤3∧i=.int .i64 k∧(zs.take k).all (vOk c)=true) (fun i=>3-(intOf i).toNat)
  case atStart=>exact⟨0,Nat.zero_le _,rfl,by simp⟩
  case round=>
   obtain⟨k,hk,rfl,d⟩:=hrel;by_cases A:k<3
   ·have x:k<zs.length:=by omega
    obtain⟨b,L,rfl,I,hc⟩:=h k x;have hT:Hid (vOk c (zs.getD k 0)=true→(zs.take (k+1)).all (vOk c)=true):=fun hx=>z9A zs _ k d x hx
    have hF:Hid (vOk c (zs.getD k 0)=false→zs.all (vOk c)=false):=fun hx=>q04 zs _ k x hx
    clear d;generalize zs.getD k 0=z at hc hT hF;by_cases h1:inB z 0 c=true
    ·have hx:vOk c z=true:=by simp[vOk,h1]
     have R:Hid ((zs.take (k+1)).all (vOk c)=true):=hT.out hx;clear hT hF hx
     go_wp2_with (go_at_call 108;refine(z1f _ _ _ _).mono ?_;rintro e w' ⟨rfl,rfl⟩)
     go_round
     case rel=>exact⟨k+1,by omega,by go_num,R.out⟩
     case measure=>simp[intOf];omega
    ·have y:inB z 0 c=false:=by simpa using h1
     clear h1;by_cases h3:z=3
     ·subst h3;have hx:vOk c 3=true:=by simp[vOk]
      have R:Hid ((zs.take (k+1)).all (vOk c)=true):=hT.out hx;clear hT hF hx
      go_wp2_with (go_at_call 108;refine(z1f _ _ _ _).mono ?_;rintro e w' ⟨rfl,rfl⟩)
      go_round
      case rel=>exact⟨k+1,by omega,by go_num,R.out⟩
      case measure=>simp[intOf];omega
     ·have C:(z !=3)=true:=by simpa using h3
      have hx:vOk c z=false:=by simp[vOk,y,h3]
      have R:Hid (zs.all (vOk c)=false):=hF.out hx;clear hT hF hx h3
      go_wp2_with (go_at_call 108;refine(z1f _ _ _ _).mono ?_;rintro e w' ⟨rfl,rfl⟩)
      go_ret;exact⟨by rw[E2.out R.out];rfl,Below.refl _ _⟩
   ·go_wp2
    go_ret;rw[List.take_of_length_le (by omega)]at d;exact⟨by rw[E1.out d];rfl,Below.refl _ _⟩
 ·have e0:vf zs c=2:=by simp[vf,hl]
  rw[e0];have J:((zs.length:Int) !=3)=true:=by simp;omega
  clear hl;go_enter Tryz.func262,Tryz.ntmps262
  go_wp2
  go_ret;exact⟨rfl,Below.refl _ _⟩
def cntB(p q r:Bool)(k:Nat):Int:=q0Z (decide (0<k) && p) (decide (1<k) && q) (decide (2<k) && r)
theorem q2P(p q r:Bool)(k:Nat)(hk:k<3)(h:[p,q,r].getD k false=true):cntB p q r k+1=cntB p q r (k+1):=by
 match k,hk with
 |0,_=>revert h;cases p<;>cases q<;>cases r<;>decide+kernel
 |1,_=>revert h;cases p<;>cases q<;>cases r<;>decide+kernel
 |2,_=>revert h;cases p<;>cases q<;>cases r<;>decide+kernel
theorem q37(p q r:Bool)(k:Nat)(hk:k<3)(h:[p,q,r].getD k false=false):cntB p q r (k+1)=cntB p q r k:=by
 match k,hk with
 |0,_=>revert h;cases p<;>cases q<;>cases r<;>decide+kernel
 |1,_=>revert h;cases p<;>cases q<;>cases r<;>decide+kernel
 |2,_=>revert h;cases p<;>cases q<;>cases r<;>decide+kernel
theorem q2Q(m:Int)(zs:List Int)(v:Int)(k:Nat)(hk:k<3):[bitB m 0 && (zs.getD 0 0==v),bitB m 1 && (zs.getD 1 0==v),bitB m 2 && (zs.getD 2 0==v)].getD k false=(bitB m k && (zs.getD k 0==v)):=by
 match k,hk with
 |0,_=>rfl
 |1,_=>rfl
 |2,_=>rfl
theorem z0C(a:Option Addr)(cap:Nat)(zs:List Int)(m v:Int)(w:World)(h:Row .i64 w a zs)(hl:zs.length=3)(hm:inB m 0 7=true):
  Calls Tryz.prog 223 #[.slice a 3 cap,.int .i64 m,.int .i64 v] w fun e w'=>e=.returned (.int .i64 (cnt m zs v))∧Below w.heap.size w w':=by
 have y:=q2Q m zs v;have N:=of_decide_eq_true hm;have h3:cnt m zs v=cntB (bitB m 0 && (zs.getD 0 0==v)) (bitB m 1 && (zs.getD 1 0==v)) (bitB m 2 && (zs.getD 2 0==v)) 3:=by simp[cntB,cnt]
 rw[h3];clear h3;generalize (bitB m 0 && (zs.getD 0 0==v))=p at y⊢;generalize (bitB m 1 && (zs.getD 1 0==v))=q at y⊢;generalize (bitB m 2 && (zs.getD 2 0==v))=r at y⊢;generalize hE:cntB p q r 3=E;have I:∀k,0≤cntB p q r k∧cntB p q r k≤3:=fun k=>q03 _ _ _
 go_enter Tryz.func223,Tryz.ntmps223
 go_wp2
 go_loopw[7,8] (fun c i wr=>∃k n:Nat,k≤3∧c=.int .i64 (cntB p q r k)∧i=.int .i64 k∧wr=w.drewN n) (fun _ i _=>3-(intOf i).toNat)
 case atStart=>exact⟨0,0,Nat.zero_le _,rfl,rfl,rfl⟩
 case round=>
  obtain⟨k,n,hk,rfl,rfl,rfl⟩:=hrel;by_cases J:k<3
  ·obtain⟨b,T,rfl,O,hc⟩:=h k (by omega);have C:=y k J;have L:=I k;have x:=fun w=>z40 m k w N.1 (by omega) (by omega)
   by_cases hz:(bitB m k && (zs.getD k 0==v))=true
   ·have R:Hid (cntB p q r k+1=cntB p q r (k+1)):=q2P p q r k J (C.trans hz);clear C;generalize zs.getD k 0=z at hc hz;generalize bitB m k=t at x hz;rw[Bool.and_eq_true]at hz;obtain⟨rfl,hz⟩:=hz;generalize cntB p q r k=c at R L⊢;generalize hd:cntB p q r (k+1)=d at R;clear y I
    go_wp2_with (go_at_call 263;refine(x _).mono ?_;rintro e w' ⟨rfl,rfl⟩)
    go_roundw
    case rel=>exact⟨k+1,_,by omega,by rw[hd,←R.out],by go_num,rfl⟩
    case measure=>simp[intOf];omega
   ·have A:(bitB m k && (zs.getD k 0==v))=false:=by simpa using hz
    clear hz;have R:Hid (cntB p q r k=cntB p q r (k+1)):=(q37 p q r k J (C.trans A)).symm;clear C;generalize zs.getD k 0=z at hc A;generalize bitB m k=t at x A;generalize cntB p q r k=c at R L⊢;clear y I
    cases t
    ·clear A
     go_wp2_with (go_at_call 263;refine(x _).mono ?_;rintro e w' ⟨rfl,rfl⟩)
     go_roundw
     case rel=>exact⟨k+1,_,by omega,by rw[R.out],by go_num,rfl⟩
     case measure=>simp[intOf];omega
    ·rw[Bool.true_and]at A
     go_wp2_with (go_at_call 263;refine(x _).mono ?_;rintro e w' ⟨rfl,rfl⟩)
     go_roundw
     case rel=>exact⟨k+1,_,by omega,by rw[R.out],by go_num,rfl⟩
     case measure=>simp[intOf];omega
  ·have M:k=3:=by omega
   subst M;rw[hE]
   go_wp2
   go_ret;exact⟨rfl,below_drewN (Below.refl _ _) _⟩
end Go.Proofs.YtlkpdgjnhkjpjaaGreatDoor
