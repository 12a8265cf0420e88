import Derived.WalkSpells
import Derived.WalkLawsBesides
import Derived.BigQuiet
import Derived.Handy
import Derived.Test.YtjjoahhnkpjolaaGreatDoorProg
set_option linter.unusedVariables false
set_option linter.unusedSimpArgs false
set_option maxRecDepth 100000
set_option maxHeartbeats 4000000
namespace Go.Proofs.YtjjoahhnkpjolaaGreatDoor
open Go.RowKit Go.BigFrame
open Nat renaming zero_le->Z
open IntKind renaming i64->K
open Value renaming int->S,slice->F
open Go.Proofs.Tryz renaming prog->G
open Go.Proofs.Tryz
theorem pjE{α:Type}:(∀ (l:List α) (i:Nat) (a:α),l.toArray.setIfInBounds i a=(l.set i a).toArray)∧(∀ (l:List α) (x a:α),(x::l).set 0 a=a::l)∧(∀ (l:List α) (x a:α) (n:Nat),(x::l).set (n+1) a=x::l.set n a):=
 ⟨fun _ _ _=>List.setIfInBounds_toArray ..,fun _ _ _=>rfl,fun _ _ _ _=>rfl⟩
theorem pgE{α:Type}:(∀ (l:List α) (i:Nat) (h:i<l.toArray.size),l.toArray[i]=l[i]'(by simpa using h))∧(∀ (l:List α) (x:α) (i:Nat) (h:i+1<(x::l).length),(x::l)[i+1]=l[i]'(Nat.lt_of_succ_lt_succ h))∧(∀ (l:List α) (x:α) (h:0<(x::l).length),(x::l)[0]=x):=
 ⟨fun _ _ _=>List.getElem_toArray ..,fun _ _ _ _=>List.getElem_cons_succ ..,fun _ _ _=>rfl⟩
def Row(k:IntKind)(w:World)(a:Option Addr)(zs:List Int):Prop:=
 ∀i,i<zs.length→∃b off,a=some ⟨b,off,none⟩∧b<w.heap.size∧w.cell? ⟨b,off+i,none⟩=some (.int k (zs.getD i 0))
theorem Row.nil(k:IntKind)(w:World)(a:Option Addr):Row k w a []:=fun i h=>absurd h (Nat.not_lt_zero _)
theorem Row.below{k:IntKind}{w w':World}{a:Option Addr}{zs:List Int}(h:Row k w a zs)(hb:Below w.heap.size w w'):Row k w' a zs:=by
 intro i hi;obtain⟨b,off,ha,hlt,hc⟩:=h i hi;exact⟨b,off,ha,Nat.lt_of_lt_of_le hlt hb.size,by rw[hb.cell (p:=⟨b,off+i,none⟩) hlt];exact hc⟩
theorem Row.own{k:IntKind}{w:World}{base e n c:Nat}{a:Option Addr}{zs:List Int}(h:w.ownsRow base e 1 (F a n c) n (zs.map (Value.int k))):Row k w a zs:=by
 have hlen:zs.length=n:=by simpa using h.1
 intro i hi;rcases h.2 with⟨he,hn⟩|⟨g,cap,cur,he,hb,hg,r⟩
 ·omega
 ·simp only[Value.slice.injEq,true_and]at he;obtain⟨rfl,rfl⟩:=he;refine⟨g,0,rfl,(Array.getElem?_eq_some_iff.1 hg).1,?_⟩;have:=h.cellAt i (by omega);rw[Nat.zero_add,this];simp[List.getD,hi]
theorem q6A{W w1:World}(hb:Below W.heap.size W w1):(∀b o,b<W.heap.size→w1.cell? ⟨b,o,none⟩=W.cell? ⟨b,o,none⟩)∧(∀b o,b<W.heap.size→w1.frozen? ⟨b,o,none⟩=W.frozen? ⟨b,o,none⟩):=
 ⟨fun b o h=>hb.cell (p:=⟨b,o,none⟩) h,fun b o h=>hb.frozen (p:=⟨b,o,none⟩) h⟩
theorem z0c{w w':World}{base e size n:Nat}{v:Value}{xs:List Value}(h:w.ownsRow base e size v n xs)(hb:Below w.heap.size w w'):w'.ownsRow base e size v n xs:=by
 refine⟨h.1,?_⟩;rcases h.2 with h2|⟨g,cap,cur,hv,hg,hh,r⟩
 ·exact Or.inl h2
 ·exact Or.inr ⟨g,cap,cur,hv,hg,by rw[hb.block g (Array.getElem?_eq_some_iff.1 hh).1];exact hh,r⟩
theorem z0f{w:World}{base e size n:Nat}{v:Value}{xs:List Value}(h:w.ownsRow base e size v n xs):∃a k,v=F a n k:=by
 rcases h.2 with⟨rfl,rfl⟩|⟨g,cap,cur,rfl,r⟩
 ·exact⟨_,_,rfl⟩
 ·exact⟨_,_,rfl⟩
theorem z0r{w:World}{base base' e size n:Nat}{v:Value}{xs:List Value}(h:w.ownsRow base e size v n xs)(hb:base'≤base):w.ownsRow base' e size v n xs:=by
 refine⟨h.1,?_⟩;rcases h.2 with h2|⟨g,cap,cur,hv,hg,r⟩
 ·exact Or.inl h2
 ·exact Or.inr ⟨g,cap,cur,hv,Nat.le_trans hb hg,r⟩
structure Box (w:World) (b:Nat) (x y:Value):Prop where
 fst:w.cell? ⟨b,0,none⟩=some x
 snd:w.cell? ⟨b,1,none⟩=some y
theorem Box.lt{w:World}{b:Nat}{x y:Value}(h:Box w b x y):b<w.heap.size:=World.block_lt_of_cell? w ⟨b,0,none⟩ h.fst
theorem Box.new(w:World)(x y:Value)(t:TypeId):Box (w.alloc (.cells #[x,y] t)) w.heap.size x y:=⟨by simp,by simp⟩
theorem Box.below{w w':World}{b:Nat}{x y:Value}(h:Box w b x y)(hb:Below w.heap.size w w'):Box w' b x y:=
 ⟨by rw[hb.cell (p:=⟨b,0,none⟩) h.lt];exact h.fst,by rw[hb.cell (p:=⟨b,1,none⟩) h.lt];exact h.snd⟩
theorem Box.alloc{w:World}{b:Nat}{x y:Value}(h:Box w b x y)(o:Obj):Box (w.alloc o) b x y:=h.below ((Below.refl _ _).alloc (Nat.le_refl _) o)
theorem Box.grown{w w':World}{b:Nat}{x y:Value}{row:Option Nat}(h:Box w b x y)(hg:w.grownBy w' row)(hne:some b≠row):Box w' b x y:=
 ⟨hg.cell h.fst hne,hg.cell h.snd hne⟩
def z3v(k:IntKind)(c:Int)(n:Nat):List Int:=(List.range n).map fun(i:Nat)=>k.wrap (c+(i:Int))
theorem z1W(k:IntKind)(c:Int)(n:Nat):(z3v k c n).length=n:=by simp[z3v]
theorem z6C(k:IntKind)(c:Int)(n i:Nat)(h:i<n):(z3v k c n).getD i 0=k.wrap (c+(i:Int)):=by simp[z3v,List.getD,h]
def q0I(zs:List Int)(k:IntKind)(xs:List Value)(i:Nat):List Value:=(zs.take i).map (Value.int k)++xs.drop i
theorem z7X(zs:List Int)(k:IntKind)(xs:List Value):q0I zs k xs 0=xs:=by simp[q0I]
theorem z94(zs:List Int)(k:IntKind)(xs:List Value)(h:xs.length=zs.length):q0I zs k xs zs.length=zs.map (Value.int k):=by
 have:xs.drop zs.length=[]:=List.drop_of_length_le (by omega);simp[q0I,this]
theorem z7Y(zs:List Int)(k:IntKind)(xs:List Value)(i:Nat)(h:xs.length=zs.length)(hi:i<zs.length):(q0I zs k xs i).set i (.int k (zs.getD i 0))=q0I zs k xs (i+1):=by
 apply List.ext_getElem?;intro j;simp only[q0I,List.getElem?_set,List.getElem?_append,List.length_append,List.length_map,List.length_take,List.length_drop,List.getElem?_map,List.getElem?_drop,List.getElem?_take];by_cases hj:j=i
 ·subst hj;simp[Nat.min_eq_left (Nat.le_of_lt hi),hi,h,List.getD,Nat.min_eq_left (show j+1≤zs.length by omega)];omega
 ·rw[if_neg (by omega)];rw[Nat.min_eq_left (by omega),Nat.min_eq_left (by omega)];by_cases hlt:j<i
  ·simp[hlt,show j<i+1 by omega]
  ·rw[if_neg hlt,if_neg (by omega)]
   congr 1;omega
theorem z5i(zs:List Int)(k:IntKind)(xs:List Value)(i:Nat)(h:xs.length=zs.length)(hi:i≤zs.length):(q0I zs k xs i).length=xs.length:=by
 simp[q0I];omega
theorem z60:(G.info? 2).map (fun i=>(i.zero,i.size,i.bytes))=some (some (S K 0),1,8):=by kernel_rfl
theorem q4M(a:Option Addr)(cap:Nat)(zs:List Int)(w:World)(h:Row .i64 w a zs)(hl:zs.length≤1048576):
  Calls G 78 #[F a zs.length cap] w fun e w'=>∃g c,e=.returned (F (some ⟨g,0,none⟩) zs.length c)∧
   w'.ownsRow w.heap.size 2 1 (F (some ⟨g,0,none⟩) zs.length c) zs.length (zs.map (Value.int .i64))∧Below w.heap.size w w':=by
 obtain⟨i0,hi,O,T,U⟩:=info_parts z60;have y:i0.bytes*zs.length≤281474976710656:=by rw[U];omega
 have E:zs.length≤maxLen:=by unfold maxLen;omega
 go_enter func78,ntmps78
 go_wp2_with (at_make;refine wpList_make_full _ rfl _ _ 75 rfl w.heap.size 2 i0 (S K 0) 1 Tryz.underlying75 hi O T _ _ _ _ zs.length rfl rfl rfl rfl y E (Nat.le_refl _) ?_)
 intro w1 x C;have d:(madeCells #[Value.int .i64 0] zs.length).toList.length=zs.length:=by simp[size_madeCells]
 have J:Below w.heap.size w w1:=(Below.refl _ _).grown C (Nat.le_refl _) (by simp);generalize (madeCells #[Value.int .i64 0] zs.length).toList=ys at x d;rw[←z7X zs .i64 ys]at x
 go_wp2
 go_loopw[4] (fun i wr=>∃k:Nat,k≤zs.length∧i=S K k∧wr.ownsRow w.heap.size 2 1 (F (some ⟨w.heap.size,0,none⟩) zs.length zs.length) zs.length (q0I zs .i64 ys k)∧Below w.heap.size w wr) (fun i _=>zs.length-(intOf i).toNat)
 case atStart=>exact⟨0,Z _,rfl,x,J⟩
 case round=>
  obtain⟨k,hk,rfl,ho,hb⟩:=hrel;by_cases D:k<zs.length
  ·obtain⟨b,I,rfl,L,hc⟩:=h k D;have M:wr.cell? ⟨b,I+k,none⟩=some (S K (zs.getD k 0)):=by rw[hb.cell (p:=⟨b,I+k,none⟩) L];exact hc
   have V:wr.frozen? ⟨w.heap.size,k,none⟩=false:=ho.frozenAt k;obtain⟨u,hu⟩:∃u,wr.cell? ⟨w.heap.size,k,none⟩=some u:=by
    rw[ho.cellAt k (by omega)];exact⟨_,List.getElem?_eq_getElem (by rw[z5i _ _ _ _ d hk,d];exact D)⟩
   have A:=ho.stored k (S K (zs.getD k 0));rw[z7Y zs .i64 ys k d D]at A;generalize zs.getD k 0=z at A M;have R:Hid ((wr.setCell ⟨w.heap.size,k,none⟩ (S K z)).ownsRow w.heap.size 2 1 (F (some ⟨w.heap.size,0,none⟩) zs.length zs.length) zs.length (q0I zs .i64 ys (k+1))∧Below w.heap.size w (wr.setCell ⟨w.heap.size,k,none⟩ (S K z))):=⟨A.1,hb.setCell (Nat.le_refl _) _⟩
   clear A hc
   go_wp2
   go_roundw
   case rel=>exact⟨k+1,by omega,by go_num,R.out.1,R.out.2⟩
   case measure=>simp[intOf];omega
  ·go_wp2
   go_ret;have N:k=zs.length:=by omega
   subst N;rw[z94 zs .i64 ys d]at ho;exact⟨_,_,rfl,ho,hb⟩
theorem q3x(a a':Option Addr)(cap cap':Nat)(zs:List Int)(w:World)(h:Row .i64 w a zs)(h':Row .i64 w a' zs)(hl:zs.length≤1099511627776):
  Calls G 91 #[F a zs.length cap,F a' zs.length cap'] w fun e w'=>e=.returned (.bool true)∧∃n,w'=w.drewN n:=by
 go_enter func91,ntmps91
 go_wp2
 go_loopw[5] (fun i wr=>∃k m:Nat,k≤zs.length∧i=S K k∧wr=w.drewN m) (fun i _=>zs.length-(intOf i).toNat)
 case atStart=>exact⟨0,0,Z _,rfl,rfl⟩
 case round=>
  obtain⟨k,m,hk,rfl,rfl⟩:=hrel;by_cases hlt:k<zs.length
  ·obtain⟨b,off,rfl,hbs,hc⟩:=h k hlt;obtain⟨b',off',rfl,hbs',hc'⟩:=h' k hlt;generalize zs.getD k 0=z at hc hc';have hne:(z !=z)=false:=by simp
   go_wp2
   go_quiet (fail)
   go_wp2
   go_roundw
   case rel=>exact⟨k+1,_,by omega,by go_num,rfl⟩
   case measure=>simp[intOf];omega
  ·go_wp2
   go_ret;exact⟨rfl,_,rfl⟩
theorem q1L(base:Nat)(v:Value)(n:Nat)(xs:List Value)(c:Int)(w:World)(h:w.ownsRow base 2 1 v n xs)(hn:n≤1099511627776)(h0:0≤c)(h1:c≤1099511627776):
  Calls G 60 #[v,S K c] w fun e w'=>e=.returned (S K (c+n))∧w'.ownsRow base 2 1 v n ((z3v .i64 c n).map (Value.int .i64))∧w.grownBy w' v.ownBlock:=by
 have J:xs.length=n:=by simpa using h.1
 rcases h.2 with⟨rfl,rfl⟩|⟨g,cap,E,rfl,hb,hg,r⟩
 ·go_enter func60,ntmps60
  go_wp2
  refine wp_loop_rounds 1 ?_;rw[rounds_succ]
  go_wp2
  go_ret;exact⟨by simp,World.ownsRow_nil _ _ _ _,World.grownBy.refl _ _⟩
 ·clear hg r;have D:=z1W .i64 c n;rw[←z7X (z3v .i64 c n) .i64 xs]at h;go_enter func60,ntmps60
  go_wp2
  go_loopw[1,5] (fun j i wr=>∃k:Nat,k≤n∧j=S K (c+k)∧i=S K k∧wr.ownsRow base 2 1 (F (some ⟨g,0,none⟩) n cap) n (q0I (z3v .i64 c n) .i64 xs k)∧w.grownBy wr (some g)) (fun _ i _=>n-(intOf i).toNat)
  case atStart=>exact⟨0,Z _,by go_num,rfl,h,World.grownBy.refl _ _⟩
  case round=>
   obtain⟨k,hk,rfl,rfl,ho,x⟩:=hrel;by_cases C:k<n
   ·have I:wr.frozen? ⟨g,k,none⟩=false:=ho.frozenAt k;obtain⟨u,hu⟩:∃u,wr.cell? ⟨g,k,none⟩=some u:=by
     rw[ho.cellAt k (by omega)];exact⟨_,List.getElem?_eq_getElem (by rw[z5i _ _ _ _ (by omega) (by omega)];omega)⟩
    have d:=ho.stored k (S K ((z3v .i64 c n).getD k 0));rw[z7Y (z3v .i64 c n) .i64 xs k (by omega) (by omega),z6C _ _ _ _ C,IntWalk.i64_in _ (by omega)]at d;have R:Hid ((wr.setCell ⟨g,k,none⟩ (S K (c+(k:Int)))).ownsRow base 2 1 (F (some ⟨g,0,none⟩) n cap) n (q0I (z3v .i64 c n) .i64 xs (k+1))∧w.grownBy (wr.setCell ⟨g,k,none⟩ (S K (c+(k:Int)))) (some g)):=
     ⟨d.1,⟨d.2.os.trans x.os,d.2.tape.trans x.tape,d.2.output.trans x.output,Nat.le_trans x.size d.2.size,fun j hj z=>(d.2.block j (Nat.lt_of_lt_of_le hj x.size) z).trans (x.block j hj z)⟩⟩
    clear d
    go_wp2
    go_roundw
    case rel=>exact⟨k+1,by omega,by go_num,by go_num,R.out.1,R.out.2⟩
    case measure=>simp[intOf];omega
   ·go_wp2
    go_ret;have A:k=n:=by omega
    subst A;have y:=z94 (z3v .i64 c k) .i64 xs (by omega);rw[D]at y;rw[y]at ho;exact⟨rfl,ho,x⟩
theorem q0J(a:Option Addr)(n cap:Nat)(c:Int)(w:World)(h:Row .i64 w a (z3v .i64 c n))(hn:n≤1099511627776)(h0:0≤c)(h1:c≤1099511627776):
  Calls G 104 #[F a n cap,S K c] w fun e w'=>e=.returned (S K (c+n))∧w'=w:=by
 go_enter func104,ntmps104
 go_wp2
 go_loop[1,5] (fun j i=>∃k:Nat,k≤n∧j=S K (c+k)∧i=S K k) (fun _ i=>n-(intOf i).toNat)
 case atStart=>exact⟨0,Z _,by go_num,rfl⟩
 case round=>
  obtain⟨k,hk,rfl,rfl⟩:=hrel;by_cases hlt:k<n
  ·obtain⟨b,off,rfl,hbs,hc⟩:=h k (by rw[z1W];exact hlt);rw[z6C _ _ _ _ hlt,IntWalk.i64_in _ (by omega)]at hc
   go_wp2
   go_round
   case rel=>exact⟨k+1,by omega,by go_num,by go_num⟩
   case measure=>simp[intOf];omega
  ·go_wp2
   go_ret;have hkl:k=n:=by omega
   subst hkl;exact⟨rfl,rfl⟩
def inB(v lo hi:Int):Bool:=decide (lo≤v∧v≤hi)
theorem z1o(v lo hi:Int)(w:World):
  Calls G 71 #[S K v,S K lo,S K hi] w fun e w'=>e=.returned (.bool (inB v lo hi))∧w'=w:=by
 by_cases h1:lo≤v<;>by_cases h2:v≤hi
 all_goals
  go_enter func71,ntmps71
  go_wp2
  go_ret;exact⟨by simp[inB,h1,h2],rfl⟩
theorem z0T(n lo hi:Int)(w:World):
  Calls G 47 #[S K n,S K lo,S K hi] w fun e w'=>e=.returned (.bool (inB n lo hi))∧w'=w:=by
 by_cases h1:lo≤n<;>by_cases h2:n≤hi
 all_goals
  go_enter func47,ntmps47
  go_wp2
  go_ret;exact⟨by simp[inB,h1,h2],rfl⟩
theorem q3y:(G.info? 2).map (fun i=>(i.zero,i.size,i.bytes))=some (some (S K 0),1,8):=by kernel_rfl
def bitB(m:Int)(k:Nat):Bool:=decide (m / 2^k % 2=1)
def z2x(m:Int)(k:Nat):List Int:=((List.range k).filter (bitB m)).map fun(i:Nat)=>(i:Int)
theorem q1M(m:Int)(k:Nat)(h:bitB m k=true):z2x m (k+1)=z2x m k++[(k:Int)]:=by simp[z2x,List.range_succ,List.filter_append,h]
theorem q3z(m:Int)(k:Nat)(h:bitB m k=false):z2x m (k+1)=z2x m k:=by simp[z2x,List.range_succ,List.filter_append,h]
theorem z95(m:Int)(k:Nat):(z2x m k).length≤k:=by
 have:=List.length_filter_le (bitB m) (List.range k);simpa[z2x]using this
theorem q4N(m:Int)(k:Nat)(h:0≤m):((m / 2^k).tmod 2==1)=bitB m k:=by
 have h2:0≤m / 2^k:=Int.ediv_nonneg h (by exact Int.le_of_lt (Int.pow_pos (by decide)));rw[Int.tmod_eq_emod_of_nonneg h2];simp[bitB,Bool.beq_eq_decide_eq]
theorem z5j(m:Int)(k:Nat)(w:World)(h0:0≤m)(h1:m≤65535)(hk:k<16):
  Calls G 156 #[S K m,S K k] w fun e w'=>e=.returned (.bool (bitB m k))∧w'=w:=by
 go_enter func156,ntmps156
 go_wp2
 go_ret;exact⟨by simp[q4N m k h0],rfl⟩
theorem q0K(m:Int)(w:World)(h0:0≤m)(h1:m≤65535):
  Calls G 276 #[S K m] w fun e w'=>∃a c,e=.returned (.slice a (z2x m 16).length c)∧w'.ownsRow w.heap.size 2 1 (.slice a (z2x m 16).length c) (z2x m 16).length ((z2x m 16).map (Value.int .i64))∧Below w.heap.size w w':=by
 obtain⟨i0,hi,D,E,I⟩:=info_parts q3y;go_enter func276,ntmps276
 go_wp2
 go_loopw[3,4] (fun v i wr=>∃k:Nat,k≤16∧i=S K k∧wr.ownsRow w.heap.size 2 1 v (z2x m k).length ((z2x m k).map (Value.int .i64))∧Below w.heap.size w wr) (fun _ i _=>16-(intOf i).toNat)
 case atStart=>exact⟨0,Z _,rfl,World.ownsRow_lit w #[] 0 (Nat.le_refl _) (by decide) rfl,by go_grown⟩
 case round=>
  obtain⟨k,hk,rfl,ho,hb⟩:=hrel;have J:=z95 m k;have L:=hb.size;by_cases A:k<16
  ·by_cases d:bitB m k=true
   ·go_wp2_with (first|(go_at_call 156;refine(z5j m k _ h0 h1 A).mono ?_;rintro e w' ⟨rfl,rfl⟩)|(at_builtin;refine wpList_append_own _ rfl _ _ 75 rfl w.heap.size 2 i0 (S K 0) 1 8 Tryz.underlying75 hi D E I rfl (by decide) _ _ _ rfl (ho.alloc _) ⟨_,0,none⟩ 1 1 [S K k] rfl rfl ?c1 ?c2 ?c3 ?c4 ?c5 ?_))
    case c1=>exact cell_one_new _ _ _
    case c2=>intro u hu;simp at hu;subst hu;rfl
    case c3=>unfold maxLen;omega
    case c4=>omega
    case c5=>simp;omega
    intro v' w1 y x _;have R:Hid (w1.ownsRow w.heap.size 2 1 v' (z2x m (k+1)).length ((z2x m (k+1)).map (Value.int .i64))∧Below w.heap.size w w1):=by
     rw[q1M m k d];exact⟨by simpa using y,(hb.alloc hb.size _).grown x (by simp;omega) (fun j hj=>(ho.lt j hj).1)⟩
    clear y x ho
    go_wp2
    go_roundw
    case rel=>exact⟨k+1,by omega,by go_num,R.out.1,R.out.2⟩
    case measure=>simp[intOf];omega
   ·have z:bitB m k=false:=by simpa using d
    clear d;rw[←q3z m k z]at ho
    go_wp2_with (first|(go_at_call 156;refine(z5j m k _ h0 h1 A).mono ?_;rintro e w' ⟨rfl,rfl⟩))
    go_roundw
    case rel=>exact⟨k+1,by omega,by go_num,ho,hb⟩
    case measure=>simp[intOf];omega
  ·have C:k=16:=by omega
   subst C;obtain⟨a1,c1,rfl⟩:=z0f ho
   go_wp2
   go_ret;exact⟨_,_,rfl,ho,hb⟩
def vOk(most x:Int):Bool:=inB x 0 most||x==3
def vf(zs:List Int)(most:Int):Int:=if zs.length=3 then(if zs.all (vOk most)then 0 else 3)else 2
def vfault(zs:List Int)(most:Int):Int:=if inB most 1 2 then vf zs most else 3
def q1J(p q r:Bool):Int:=p.toNat+q.toNat+r.toNat
def q4w(m:Int):Int:=q1J (bitB m 0) (bitB m 1) (bitB m 2)
def cnt(m:Int)(zs:List Int)(v:Int):Int:=q1J (bitB m 0 && (zs.getD 0 0==v)) (bitB m 1 && (zs.getD 1 0==v)) (bitB m 2 && (zs.getD 2 0==v))
def q4O(p q r:Bool):Int:=p.toNat+2*q.toNat+4*r.toNat
def vot(zs:List Int)(v:Int):Int:=q4O (zs.getD 0 0==v) (zs.getD 1 0==v) (zs.getD 2 0==v)
def isQ(m:Int):Bool:=inB m 0 7 && decide (2≤q4w m)
theorem q4P{m:Int}(h:inB m 0 7=true):m=0∨m=1∨m=2∨m=3∨m=4∨m=5∨m=6∨m=7:=by
 have:=of_decide_eq_true h;omega
theorem z7Z{zs:List Int}(h:zs.length=3):∃x y z,zs=[x,y,z]:=by
 match zs,h with
 |[x,y,z],_=>exact⟨x,y,z,rfl⟩
theorem z07{zs:List Int}{most:Int}(h:vf zs most=0):zs.length=3:=by
 unfold vf at h;split at h
 ·assumption
 ·simp at h
theorem q4Q(p q r:Bool):inB (q4O p q r) 0 7=true:=by cases p<;>cases q<;>cases r<;>decide
theorem q5S(zs:List Int)(v:Int):inB (vot zs v) 0 7=true:=q4Q _ _ _
theorem q3A(p q r:Bool):∀m∈[(0:Int),1,2,3,4,5,6,7],inB (bits .and .i64 m (q4O p q r)) 0 7=true∧q4w (bits .and .i64 m (q4O p q r))=q1J (bitB m 0 && p) (bitB m 1 && q) (bitB m 2 && r)∧((bits .and .i64 m (q4O p q r))==0)=(q1J (bitB m 0 && p) (bitB m 1 && q) (bitB m 2 && r)==0):=by
 cases p<;>cases q<;>cases r<;>decide+kernel
theorem z87{m:Int}(h:inB m 0 7=true)(zs:List Int)(v:Int):inB (bits .and .i64 m (vot zs v)) 0 7=true∧q4w (bits .and .i64 m (vot zs v))=cnt m zs v∧((bits .and .i64 m (vot zs v))==0)=(cnt m zs v==0):=by
 refine q3A _ _ _ m ?_;rcases q4P h with rfl|rfl|rfl|rfl|rfl|rfl|rfl|rfl<;>simp
theorem q1N(p q r:Bool):0≤q1J p q r∧q1J p q r≤3:=by cases p<;>cases q<;>cases r<;>decide
theorem z2v(m:Int)(zs:List Int)(v:Int):0≤cnt m zs v∧cnt m zs v≤3:=q1N _ _ _
theorem q5T{m:Int}(h:inB m 0 7=true):((z2x m 16).length:Int)=q4w m:=by
 rcases q4P h with rfl|rfl|rfl|rfl|rfl|rfl|rfl|rfl<;>decide+kernel
theorem z6D(m:Int)(w:World):
  Calls G 278 #[S K m] w fun e w'=>e=.returned (.bool (inB m 0 7))∧w'=w:=by
 go_enter func278,ntmps278
 go_wp2_with (go_at_call 47;refine(z0T _ _ _ _).mono ?_;rintro e w' ⟨rfl,rfl⟩)
 go_ret;exact⟨rfl,rfl⟩
theorem z2g(m:Int)(w:World)(h:inB m 0 7=true):
  Calls G 208 #[S K m] w fun e w'=>e=.returned (S K (q4w m))∧w'=w:=by
 rcases q4P h with rfl|rfl|rfl|rfl|rfl|rfl|rfl|rfl;all_goals
  clear h;go_enter func208,ntmps208
  go_wp2
  go_ret;exact⟨by kernel_rfl,rfl⟩
theorem z70(m:Int)(w:World):
  Calls G 271 #[S K m] w fun e w'=>e=.returned (.bool (isQ m))∧w'=w:=by
 by_cases h:inB m 0 7=true
 ·have hn:=fun w=>z2g m w h
  go_enter func271,ntmps271
  go_wp2_with (first|(go_at_call 278;refine(z6D _ _).mono ?_;rintro e w' ⟨rfl,rfl⟩)|(go_at_call 208;refine(hn _).mono ?_;rintro e w' ⟨rfl,rfl⟩))
  go_ret;exact⟨by simp[isQ,h],rfl⟩
 ·have h':inB m 0 7=false:=by simpa using h
  clear h;go_enter func271,ntmps271
  go_wp2_with (go_at_call 278;refine(z6D _ _).mono ?_;rintro e w' ⟨rfl,rfl⟩)
  go_ret;exact⟨by simp[isQ,h'],rfl⟩
theorem z96(zs:List Int)(p:Int→Bool)(k:Nat)(h:(zs.take k).all p=true)(hk:k<zs.length)(hx:p (zs.getD k 0)=true):(zs.take (k+1)).all p=true:=by
 rw[List.take_succ_eq_append_getElem hk,List.all_append,h];have e:zs[k]=zs.getD k 0:=by simp[List.getD,hk]
 rw[e,List.all_cons,hx];rfl
theorem q1O(zs:List Int)(p:Int→Bool)(k:Nat)(hk:k<zs.length)(hx:p (zs.getD k 0)=false):zs.all p=false:=by
 rw[List.all_eq_false];exact⟨zs.getD k 0,by simp[List.getD,hk],by rw[hx];decide⟩
theorem z0E(a:Option Addr)(cap:Nat)(zs:List Int)(c:Int)(w:World)(h:Row .i64 w a zs)(hm:zs.length≤9223372036854775807):
  Calls G 168 #[F a zs.length cap,S K c] w fun e w'=>e=.returned (S K (vfault zs c))∧w'=w:=by
 by_cases x:inB c 1 2=true
 ·by_cases hl:zs.length=3
  ·have e0:vfault zs c=if zs.all (vOk c)then 0 else 3:=by simp[vfault,vf,x,hl]
   have E1:Hid (zs.all (vOk c)=true→vfault zs c=0):=fun h=>by rw[e0,h];rfl
   have E2:Hid (zs.all (vOk c)=false→vfault zs c=3):=fun h=>by rw[e0,h];rfl
   clear e0;generalize vfault zs c=E at E1 E2⊢;have C:((zs.length:Int) !=3)=false:=by simp[hl]
   go_enter func168,ntmps168
   go_wp2_with (go_at_call 47;refine(z0T _ _ _ _).mono ?_;rintro e w' ⟨rfl,rfl⟩)
   go_loop[15] (fun i=>∃k:Nat,k≤zs.length∧i=S K k∧(zs.take k).all (vOk c)=true) (fun i=>zs.length-(intOf i).toNat)
   case atStart=>exact⟨0,Z _,rfl,by simp⟩
   case round=>
    obtain⟨k,hk,rfl,d⟩:=hrel;by_cases y:k<zs.length
    ·obtain⟨b,J,rfl,I,hc⟩:=h k y;have hT:Hid (vOk c (zs.getD k 0)=true→(zs.take (k+1)).all (vOk c)=true):=fun hx=>z96 zs _ k d y hx
     have hF:Hid (vOk c (zs.getD k 0)=false→zs.all (vOk c)=false):=fun hx=>q1O zs _ k y hx
     clear d;generalize zs.getD k 0=z at hc hT hF;by_cases h1:inB z 0 c=true
     ·have hx:vOk c z=true:=by simp[vOk,h1]
      have R:Hid ((zs.take (k+1)).all (vOk c)=true):=hT.out hx;clear hT hF hx
      go_wp2_with (go_at_call 47;refine(z0T _ _ _ _).mono ?_;rintro e w' ⟨rfl,rfl⟩)
      go_round
      case rel=>exact⟨k+1,by omega,by go_num,R.out⟩
      case measure=>simp[intOf];omega
     ·have A:inB z 0 c=false:=by simpa using h1
      clear h1;by_cases h3:z=3
      ·subst h3;have hx:vOk c 3=true:=by simp[vOk]
       have R:Hid ((zs.take (k+1)).all (vOk c)=true):=hT.out hx;clear hT hF hx
       go_wp2_with (go_at_call 47;refine(z0T _ _ _ _).mono ?_;rintro e w' ⟨rfl,rfl⟩)
       go_round
       case rel=>exact⟨k+1,by omega,by go_num,R.out⟩
       case measure=>simp[intOf];omega
      ·have D:(z !=3)=true:=by simpa using h3
       have hx:vOk c z=false:=by simp[vOk,A,h3]
       have R:Hid (zs.all (vOk c)=false):=hF.out hx;clear hT hF hx h3
       go_wp2_with (go_at_call 47;refine(z0T _ _ _ _).mono ?_;rintro e w' ⟨rfl,rfl⟩)
       go_ret;exact⟨by rw[E2.out R.out];rfl,rfl⟩
    ·go_wp2
     go_ret;rw[List.take_of_length_le (by omega)]at d;exact⟨by rw[E1.out d];rfl,rfl⟩
  ·have e0:vfault zs c=2:=by simp[vfault,vf,x,hl]
   rw[e0];have C:((zs.length:Int) !=3)=true:=by simp;omega
   clear hl;go_enter func168,ntmps168
   go_wp2_with (go_at_call 47;refine(z0T _ _ _ _).mono ?_;rintro e w' ⟨rfl,rfl⟩)
   go_ret;exact⟨rfl,rfl⟩
 ·have h':inB c 1 2=false:=by simpa using x
  have e0:vfault zs c=3:=by simp[vfault,h']
  rw[e0];clear x;go_enter func168,ntmps168
  go_wp2_with (go_at_call 47;refine(z0T _ _ _ _).mono ?_;rintro e w' ⟨rfl,rfl⟩)
  go_ret;exact⟨rfl,rfl⟩
def votB(p q r:Bool)(k:Nat):Int:=q4O (decide (0<k) && p) (decide (1<k) && q) (decide (2<k) && r)
theorem q4R(p q r:Bool)(k:Nat)(hk:k<3)(h:[p,q,r].getD k false=true):bits .or .i64 (votB p q r k) (wrap64 (2^k))=votB p q r (k+1):=by
 match k,hk with
 |0,_=>revert h;cases p<;>cases q<;>cases r<;>decide+kernel
 |1,_=>revert h;cases p<;>cases q<;>cases r<;>decide+kernel
 |2,_=>revert h;cases p<;>cases q<;>cases r<;>decide+kernel
theorem q4S(p q r:Bool)(k:Nat)(hk:k<3)(h:[p,q,r].getD k false=false):votB p q r (k+1)=votB p q r k:=by
 match k,hk with
 |0,_=>revert h;cases p<;>cases q<;>cases r<;>decide+kernel
 |1,_=>revert h;cases p<;>cases q<;>cases r<;>decide+kernel
 |2,_=>revert h;cases p<;>cases q<;>cases r<;>decide+kernel
theorem q4T(zs:List Int)(v:Int)(k:Nat)(hk:k<3):[zs.getD 0 0==v,zs.getD 1 0==v,zs.getD 2 0==v].getD k false=(zs.getD k 0==v):=by
 match k,hk with
 |0,_=>rfl
 |1,_=>rfl
 |2,_=>rfl
theorem z1X(a:Option Addr)(cap:Nat)(zs:List Int)(v:Int)(w:World)(h:Row .i64 w a zs)(hl:zs.length=3):
  Calls G 209 #[F a 3 cap,S K v] w fun e w'=>e=.returned (S K (vot zs v))∧w'=w:=by
 have x:=q4T zs v;have h3:vot zs v=votB (zs.getD 0 0==v) (zs.getD 1 0==v) (zs.getD 2 0==v) 3:=by simp[votB,vot]
 rw[h3];clear h3;generalize (zs.getD 0 0==v)=p at x⊢;generalize (zs.getD 1 0==v)=q at x⊢;generalize (zs.getD 2 0==v)=r at x⊢;generalize hE:votB p q r 3=E;go_enter func209,ntmps209
 go_wp2
 go_loop[5,10] (fun c i=>∃k:Nat,k≤3∧c=S K (votB p q r k)∧i=S K k) (fun _ i=>3-(intOf i).toNat)
 case atStart=>exact⟨0,Z _,rfl,rfl⟩
 case round=>
  obtain⟨k,hk,rfl,rfl⟩:=hrel;by_cases A:k<3
  ·obtain⟨b,J,rfl,I,hc⟩:=h k (by omega);have y:=x k A;by_cases hz:(zs.getD k 0==v)=true
   ·have R:Hid (bits .or .i64 (votB p q r k) (wrap64 (2^k))=votB p q r (k+1)):=q4R p q r k A (y.trans hz);clear y;generalize zs.getD k 0=z at hc hz;generalize votB p q r k=c at R⊢;generalize hd:votB p q r (k+1)=d at R
    go_wp2
    go_round
    case rel=>exact⟨k+1,by omega,by rw[hd,←R.out],by go_num⟩
    case measure=>simp[intOf];omega
   ·have C:(zs.getD k 0==v)=false:=by simpa using hz
    clear hz;have R:Hid (votB p q r k=votB p q r (k+1)):=(q4S p q r k A (y.trans C)).symm;clear y;generalize zs.getD k 0=z at hc C;generalize votB p q r k=c at R⊢
    go_wp2
    go_round
    case rel=>exact⟨k+1,by omega,by rw[R.out],by go_num⟩
    case measure=>simp[intOf];omega
  ·have D:k=3:=by omega
   subst D;rw[hE]
   go_wp2
   go_ret;exact⟨rfl,rfl⟩
theorem q0L(m:Int)(w:World)(h:inB m 0 7=true):
  Calls G 264 #[S K m] w fun e w'=>e=.returned (S K (q4w m))∧Below w.heap.size w w':=by
 have hm:=of_decide_eq_true h;rw[←q5T h];have hle:=z95 m 16;have h1:=q0K m w hm.1 (by omega);generalize (z2x m 16).length=n at*;go_enter func264,ntmps264
 go_wp2_with fail
 refine h1.mono ?_;rintro e w1 ⟨a,c,rfl,ho,hb⟩;clear ho
 go_wp2
 go_ret;exact⟨rfl,hb⟩
theorem z71(m:Int)(w:World):
  Calls G 239 #[S K m] w fun e w'=>e=.returned (.bool (isQ m))∧Below w.heap.size w w':=by
 by_cases h:inB m 0 7=true
 ·have hn:=fun w=>q0L m w h
  go_enter func239,ntmps239
  go_wp2_with (first|(go_at_call 71;refine(z1o _ _ _ _).mono ?_;rintro e w' ⟨rfl,rfl⟩)|(go_at_call 264;refine(hn _).mono ?_;rintro e w' ⟨rfl,hb⟩))
  go_ret;exact⟨by simp[isQ,h],hb⟩
 ·have h':inB m 0 7=false:=by simpa using h
  clear h;go_enter func239,ntmps239
  go_wp2_with (go_at_call 71;refine(z1o _ _ _ _).mono ?_;rintro e w' ⟨rfl,rfl⟩)
  go_ret;exact⟨by simp[isQ,h'],Below.refl _ _⟩
theorem z08(a:Option Addr)(cap:Nat)(zs:List Int)(c:Int)(w:World)(h:Row .i64 w a zs)(hm:zs.length≤9223372036854775807):
  Calls G 155 #[F a zs.length cap,S K c] w fun e w'=>e=.returned (S K (vf zs c))∧Below w.heap.size w w':=by
 by_cases hl:zs.length=3
 ·have e0:vf zs c=if zs.all (vOk c)then 0 else 3:=by simp[vf,hl]
  have E1:Hid (zs.all (vOk c)=true→vf zs c=0):=fun h=>by rw[e0,h];rfl
  have E2:Hid (zs.all (vOk c)=false→vf zs c=3):=fun h=>by rw[e0,h];rfl
  clear e0;generalize vf zs c=E at E1 E2⊢;rw[hl];go_enter func155,ntmps155
  go_wp2
  go_loop[5] (fun i=>∃k:Nat,k≤3∧i=S K k∧(zs.take k).all (vOk c)=true) (fun i=>3-(intOf i).toNat)
  case atStart=>exact⟨0,Z _,rfl,by simp⟩
  case round=>
   obtain⟨k,hk,rfl,d⟩:=hrel;by_cases A:k<3
   ·have x:k<zs.length:=by omega
    obtain⟨b,J,rfl,D,hc⟩:=h k x;have hT:Hid (vOk c (zs.getD k 0)=true→(zs.take (k+1)).all (vOk c)=true):=fun hx=>z96 zs _ k d x hx
    have hF:Hid (vOk c (zs.getD k 0)=false→zs.all (vOk c)=false):=fun hx=>q1O zs _ k x hx
    clear d;generalize zs.getD k 0=z at hc hT hF;by_cases h1:inB z 0 c=true
    ·have hx:vOk c z=true:=by simp[vOk,h1]
     have R:Hid ((zs.take (k+1)).all (vOk c)=true):=hT.out hx;clear hT hF hx
     go_wp2_with (go_at_call 71;refine(z1o _ _ _ _).mono ?_;rintro e w' ⟨rfl,rfl⟩)
     go_round
     case rel=>exact⟨k+1,by omega,by go_num,R.out⟩
     case measure=>simp[intOf];omega
    ·have y:inB z 0 c=false:=by simpa using h1
     clear h1;by_cases h3:z=3
     ·subst h3;have hx:vOk c 3=true:=by simp[vOk]
      have R:Hid ((zs.take (k+1)).all (vOk c)=true):=hT.out hx;clear hT hF hx
      go_wp2_with (go_at_call 71;refine(z1o _ _ _ _).mono ?_;rintro e w' ⟨rfl,rfl⟩)
      go_round
      case rel=>exact⟨k+1,by omega,by go_num,R.out⟩
      case measure=>simp[intOf];omega
     ·have C:(z !=3)=true:=by simpa using h3
      have hx:vOk c z=false:=by simp[vOk,y,h3]
      have R:Hid (zs.all (vOk c)=false):=hF.out hx;clear hT hF hx h3
      go_wp2_with (go_at_call 71;refine(z1o _ _ _ _).mono ?_;rintro e w' ⟨rfl,rfl⟩)
      go_ret;exact⟨by rw[E2.out R.out];rfl,Below.refl _ _⟩
   ·go_wp2
    go_ret;rw[List.take_of_length_le (by omega)]at d;exact⟨by rw[E1.out d];rfl,Below.refl _ _⟩
 ·have e0:vf zs c=2:=by simp[vf,hl]
  rw[e0];have I:((zs.length:Int) !=3)=true:=by simp;omega
  clear hl;go_enter func155,ntmps155
  go_wp2
  go_ret;exact⟨rfl,Below.refl _ _⟩
def cntB(p q r:Bool)(k:Nat):Int:=q1J (decide (0<k) && p) (decide (1<k) && q) (decide (2<k) && r)
theorem q3B(p q r:Bool)(k:Nat)(hk:k<3)(h:[p,q,r].getD k false=true):cntB p q r k+1=cntB p q r (k+1):=by
 match k,hk with
 |0,_=>revert h;cases p<;>cases q<;>cases r<;>decide+kernel
 |1,_=>revert h;cases p<;>cases q<;>cases r<;>decide+kernel
 |2,_=>revert h;cases p<;>cases q<;>cases r<;>decide+kernel
theorem q4U(p q r:Bool)(k:Nat)(hk:k<3)(h:[p,q,r].getD k false=false):cntB p q r (k+1)=cntB p q r k:=by
 match k,hk with
 |0,_=>revert h;cases p<;>cases q<;>cases r<;>decide+kernel
 |1,_=>revert h;cases p<;>cases q<;>cases r<;>decide+kernel
 |2,_=>revert h;cases p<;>cases q<;>cases r<;>decide+kernel
theorem q3C(m:Int)(zs:List Int)(v:Int)(k:Nat)(hk:k<3):[bitB m 0 && (zs.getD 0 0==v),bitB m 1 && (zs.getD 1 0==v),bitB m 2 && (zs.getD 2 0==v)].getD k false=(bitB m k && (zs.getD k 0==v)):=by
 match k,hk with
 |0,_=>rfl
 |1,_=>rfl
 |2,_=>rfl
theorem z0H(a:Option Addr)(cap:Nat)(zs:List Int)(m v:Int)(w:World)(h:Row .i64 w a zs)(hl:zs.length=3)(hm:inB m 0 7=true):
  Calls G 112 #[F a 3 cap,S K m,S K v] w fun e w'=>e=.returned (S K (cnt m zs v))∧Below w.heap.size w w':=by
 have y:=q3C m zs v;have M:=of_decide_eq_true hm;have h3:cnt m zs v=cntB (bitB m 0 && (zs.getD 0 0==v)) (bitB m 1 && (zs.getD 1 0==v)) (bitB m 2 && (zs.getD 2 0==v)) 3:=by simp[cntB,cnt]
 rw[h3];clear h3;generalize (bitB m 0 && (zs.getD 0 0==v))=p at y⊢;generalize (bitB m 1 && (zs.getD 1 0==v))=q at y⊢;generalize (bitB m 2 && (zs.getD 2 0==v))=r at y⊢;generalize hE:cntB p q r 3=E;have D:∀k,0≤cntB p q r k∧cntB p q r k≤3:=fun k=>q1N _ _ _
 go_enter func112,ntmps112
 go_wp2
 go_loopw[7,8] (fun c i wr=>∃k n:Nat,k≤3∧c=S K (cntB p q r k)∧i=S K k∧wr=w.drewN n) (fun _ i _=>3-(intOf i).toNat)
 case atStart=>exact⟨0,0,Z _,rfl,rfl,rfl⟩
 case round=>
  obtain⟨k,n,hk,rfl,rfl,rfl⟩:=hrel;by_cases I:k<3
  ·obtain⟨b,O,rfl,N,hc⟩:=h k (by omega);have C:=y k I;have J:=D k;have x:=fun w=>z5j m k w M.1 (by omega) (by omega)
   by_cases hz:(bitB m k && (zs.getD k 0==v))=true
   ·have R:Hid (cntB p q r k+1=cntB p q r (k+1)):=q3B p q r k I (C.trans hz);clear C;generalize zs.getD k 0=z at hc hz;generalize bitB m k=t at x hz;rw[Bool.and_eq_true]at hz;obtain⟨rfl,hz⟩:=hz;generalize cntB p q r k=c at R J⊢;generalize hd:cntB p q r (k+1)=d at R;clear y D
    go_wp2_with (go_at_call 156;refine(x _).mono ?_;rintro e w' ⟨rfl,rfl⟩)
    go_roundw
    case rel=>exact⟨k+1,_,by omega,by rw[hd,←R.out],by go_num,rfl⟩
    case measure=>simp[intOf];omega
   ·have A:(bitB m k && (zs.getD k 0==v))=false:=by simpa using hz
    clear hz;have R:Hid (cntB p q r k=cntB p q r (k+1)):=(q4U p q r k I (C.trans A)).symm;clear C;generalize zs.getD k 0=z at hc A;generalize bitB m k=t at x A;generalize cntB p q r k=c at R J⊢;clear y D
    cases t
    ·clear A
     go_wp2_with (go_at_call 156;refine(x _).mono ?_;rintro e w' ⟨rfl,rfl⟩)
     go_roundw
     case rel=>exact⟨k+1,_,by omega,by rw[R.out],by go_num,rfl⟩
     case measure=>simp[intOf];omega
    ·rw[Bool.true_and]at A
     go_wp2_with (go_at_call 156;refine(x _).mono ?_;rintro e w' ⟨rfl,rfl⟩)
     go_roundw
     case rel=>exact⟨k+1,_,by omega,by rw[R.out],by go_num,rfl⟩
     case measure=>simp[intOf];omega
  ·have L:k=3:=by omega
   subst L;rw[hE]
   go_wp2
   go_ret;exact⟨rfl,below_drewN (Below.refl _ _) _⟩
end Go.Proofs.YtjjoahhnkpjolaaGreatDoor
