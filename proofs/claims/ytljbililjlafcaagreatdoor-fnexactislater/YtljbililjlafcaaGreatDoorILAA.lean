/- Texts joined,with what the laws reach alone. -/
import Derived.WalkKit
import Derived.WalkSpells
import Derived.WalkLawsBesides
import Derived.BigQuiet
import Derived.Handy
import Derived.Test.YtljbililjlafcaaGreatDoorProg
import Derived.Deep.RegionHeld3
import Derived.Lib.SmallJoins
set_option linter.unusedVariables false
set_option linter.unusedSimpArgs false
set_option maxRecDepth 100000
set_option maxHeartbeats 4000000
namespace Go.Proofs.YtljbililjlafcaaGreatDoor
open Go.RowKit Go.BigFrame
theorem pjE{α:Type}:(∀ (l:List α) (i:Nat) (a:α),l.toArray.setIfInBounds i a=(l.set i a).toArray)∧(∀ (l:List α) (x a:α),(x::l).set 0 a=a::l)∧(∀ (l:List α) (x a:α) (n:Nat),(x::l).set (n+1) a=x::l.set n a):=
 ⟨fun _ _ _=>List.setIfInBounds_toArray ..,fun _ _ _=>rfl,fun _ _ _ _=>rfl⟩
theorem pgE{α:Type}:(∀ (l:List α) (i:Nat) (h:i<l.toArray.size),l.toArray[i]=l[i]'(by simpa using h))∧(∀ (l:List α) (x:α) (i:Nat) (h:i+1<(x::l).length),(x::l)[i+1]=l[i]'(Nat.lt_of_succ_lt_succ h))∧(∀ (l:List α) (x:α) (h:0<(x::l).length),(x::l)[0]=x):=
 ⟨fun _ _ _=>List.getElem_toArray ..,fun _ _ _ _=>List.getElem_cons_succ ..,fun _ _ _=>rfl⟩
def Row(k:IntKind)(w:World)(a:Option Addr)(zs:List Int):Prop:=
 ∀i,i<zs.length→∃b off,a=some ⟨b,off,none⟩∧b<w.heap.size∧w.cell? ⟨b,off+i,none⟩=some (.int k (zs.getD i 0))
theorem Row.nil(k:IntKind)(w:World)(a:Option Addr):Row k w a []:=fun i h=>absurd h (Nat.not_lt_zero _)
theorem Row.below{k:IntKind}{w w':World}{a:Option Addr}{zs:List Int}(h:Row k w a zs)(hb:Below w.heap.size w w'):Row k w' a zs:=by
 intro i hi;obtain⟨b,off,ha,hlt,hc⟩:=h i hi;exact⟨b,off,ha,Nat.lt_of_lt_of_le hlt hb.size,by rw[hb.cell (p:=⟨b,off+i,none⟩) hlt];exact hc⟩
theorem Row.own{k:IntKind}{w:World}{base e n c:Nat}{a:Option Addr}{zs:List Int}(h:w.ownsRow base e 1 (.slice a n c) n (zs.map (Value.int k))):Row k w a zs:=by
 have hlen:zs.length=n:=by simpa using h.1
 intro i hi;rcases h.2 with⟨he,hn⟩|⟨g,cap,cur,he,hb,hg,r⟩
 ·omega
 ·simp only[Value.slice.injEq,true_and]at he;obtain⟨rfl,rfl⟩:=he;refine⟨g,0,rfl,(Array.getElem?_eq_some_iff.1 hg).1,?_⟩;have:=h.cellAt i (by omega);rw[Nat.zero_add,this];simp[List.getD,hi]
theorem q4x{W w1:World}(hb:Below W.heap.size W w1):(∀b o,b<W.heap.size→w1.cell? ⟨b,o,none⟩=W.cell? ⟨b,o,none⟩)∧(∀b o,b<W.heap.size→w1.frozen? ⟨b,o,none⟩=W.frozen? ⟨b,o,none⟩):=
 ⟨fun b o h=>hb.cell (p:=⟨b,o,none⟩) h,fun b o h=>hb.frozen (p:=⟨b,o,none⟩) h⟩
theorem z0d{w w':World}{base e size n:Nat}{v:Value}{xs:List Value}(h:w.ownsRow base e size v n xs)(hb:Below w.heap.size w w'):w'.ownsRow base e size v n xs:=by
 refine⟨h.1,?_⟩;rcases h.2 with h2|⟨g,cap,cur,hv,hg,hh,r⟩
 ·exact Or.inl h2
 ·exact Or.inr ⟨g,cap,cur,hv,hg,by rw[hb.block g (Array.getElem?_eq_some_iff.1 hh).1];exact hh,r⟩
theorem z0g{w:World}{base e size n:Nat}{v:Value}{xs:List Value}(h:w.ownsRow base e size v n xs):∃a k,v=.slice a n k:=by
 rcases h.2 with⟨rfl,rfl⟩|⟨g,cap,cur,rfl,r⟩
 ·exact⟨_,_,rfl⟩
 ·exact⟨_,_,rfl⟩
theorem z0p{w:World}{base base' e size n:Nat}{v:Value}{xs:List Value}(h:w.ownsRow base e size v n xs)(hb:base'≤base):w.ownsRow base' e size v n xs:=by
 refine⟨h.1,?_⟩;rcases h.2 with h2|⟨g,cap,cur,hv,hg,r⟩
 ·exact Or.inl h2
 ·exact Or.inr ⟨g,cap,cur,hv,Nat.le_trans hb hg,r⟩
structure Box (w:World) (b:Nat) (x y:Value):Prop where
 fst:w.cell? ⟨b,0,none⟩=some x
 snd:w.cell? ⟨b,1,none⟩=some y
theorem Box.lt{w:World}{b:Nat}{x y:Value}(h:Box w b x y):b<w.heap.size:=World.block_lt_of_cell? w ⟨b,0,none⟩ h.fst
theorem Box.new(w:World)(x y:Value)(t:TypeId):Box (w.alloc (.cells #[x,y] t)) w.heap.size x y:=⟨by simp,by simp⟩
theorem Box.below{w w':World}{b:Nat}{x y:Value}(h:Box w b x y)(hb:Below w.heap.size w w'):Box w' b x y:=
 ⟨by rw[hb.cell (p:=⟨b,0,none⟩) h.lt];exact h.fst,by rw[hb.cell (p:=⟨b,1,none⟩) h.lt];exact h.snd⟩
theorem Box.alloc{w:World}{b:Nat}{x y:Value}(h:Box w b x y)(o:Obj):Box (w.alloc o) b x y:=h.below ((Below.refl _ _).alloc (Nat.le_refl _) o)
theorem Box.grown{w w':World}{b:Nat}{x y:Value}{row:Option Nat}(h:Box w b x y)(hg:w.grownBy w' row)(hne:some b≠row):Box w' b x y:=
 ⟨hg.cell h.fst hne,hg.cell h.snd hne⟩
def q3K(k:IntKind)(c:Int)(n:Nat):List Int:=(List.range n).map fun(i:Nat)=>k.wrap (c+(i:Int))
def z9N(zs:List Int)(k:IntKind)(xs:List Value)(i:Nat):List Value:=(zs.take i).map (Value.int k)++xs.drop i
theorem z9O(zs:List Int)(k:IntKind)(xs:List Value):z9N zs k xs 0=xs:=by simp[z9N]
theorem q1r(zs:List Int)(k:IntKind)(xs:List Value)(h:xs.length=zs.length):z9N zs k xs zs.length=zs.map (Value.int k):=by
 have:xs.drop zs.length=[]:=List.drop_of_length_le (by omega);simp[z9N,this]
theorem z9P(zs:List Int)(k:IntKind)(xs:List Value)(i:Nat)(h:xs.length=zs.length)(hi:i<zs.length):(z9N zs k xs i).set i (.int k (zs.getD i 0))=z9N zs k xs (i+1):=by
 apply List.ext_getElem?;intro j;simp only[z9N,List.getElem?_set,List.getElem?_append,List.length_append,List.length_map,List.length_take,List.length_drop,List.getElem?_map,List.getElem?_drop,List.getElem?_take];by_cases hj:j=i
 ·subst hj;simp[Nat.min_eq_left (Nat.le_of_lt hi),hi,h,List.getD,Nat.min_eq_left (show j+1≤zs.length by omega)];omega
 ·rw[if_neg (by omega)];rw[Nat.min_eq_left (by omega),Nat.min_eq_left (by omega)];by_cases hlt:j<i
  ·simp[hlt,show j<i+1 by omega]
  ·rw[if_neg hlt,if_neg (by omega)]
   congr 1;omega
theorem z7z(zs:List Int)(k:IntKind)(xs:List Value)(i:Nat)(h:xs.length=zs.length)(hi:i≤zs.length):(z9N zs k xs i).length=xs.length:=by
 simp[z9N];omega
theorem z5G:(Tryz.prog.info? 2).map (fun i=>(i.zero,i.size,i.bytes))=some (some (.int .i64 0),1,8):=by kernel_rfl
theorem q2F(a:Option Addr)(cap:Nat)(zs:List Int)(w:World)(h:Row .i64 w a zs)(hl:zs.length≤1048576):
  Calls Tryz.prog 59 #[.slice a zs.length cap] w fun e w'=>∃g c,e=.returned (.slice (some ⟨g,0,none⟩) zs.length c)∧
   w'.ownsRow w.heap.size 2 1 (.slice (some ⟨g,0,none⟩) zs.length c) zs.length (zs.map (Value.int .i64))∧Below w.heap.size w w':=by
 obtain⟨i0,hi,O,T,U⟩:=info_parts z5G;have y:i0.bytes*zs.length≤281474976710656:=by rw[U];omega
 have E:zs.length≤maxLen:=by unfold maxLen;omega
 go_enter Tryz.func59,Tryz.ntmps59
 go_wp2_with (at_make;refine wpList_make_full _ rfl _ _ 42 rfl w.heap.size 2 i0 (.int .i64 0) 1 Tryz.underlying42 hi O T _ _ _ _ zs.length rfl rfl rfl rfl y E (Nat.le_refl _) ?_)
 intro w1 x C;have d:(madeCells #[Value.int .i64 0] zs.length).toList.length=zs.length:=by simp[size_madeCells]
 have J:Below w.heap.size w w1:=(Below.refl _ _).grown C (Nat.le_refl _) (by simp);generalize (madeCells #[Value.int .i64 0] zs.length).toList=ys at x d;rw[←z9O zs .i64 ys]at x
 go_wp2
 go_loopw[4] (fun i wr=>∃k:Nat,k≤zs.length∧i=.int .i64 k∧wr.ownsRow w.heap.size 2 1 (.slice (some ⟨w.heap.size,0,none⟩) zs.length zs.length) zs.length (z9N zs .i64 ys k)∧Below w.heap.size w wr) (fun i _=>zs.length-(intOf i).toNat)
 case atStart=>exact⟨0,Nat.zero_le _,rfl,x,J⟩
 case round=>
  obtain⟨k,hk,rfl,ho,hb⟩:=hrel;by_cases D:k<zs.length
  ·obtain⟨b,I,rfl,L,hc⟩:=h k D;have M:wr.cell? ⟨b,I+k,none⟩=some (.int .i64 (zs.getD k 0)):=by rw[hb.cell (p:=⟨b,I+k,none⟩) L];exact hc
   have V:wr.frozen? ⟨w.heap.size,k,none⟩=false:=ho.frozenAt k;obtain⟨u,hu⟩:∃u,wr.cell? ⟨w.heap.size,k,none⟩=some u:=by
    rw[ho.cellAt k (by omega)];exact⟨_,List.getElem?_eq_getElem (by rw[z7z _ _ _ _ d hk,d];exact D)⟩
   have A:=ho.stored k (.int .i64 (zs.getD k 0));rw[z9P zs .i64 ys k d D]at A;generalize zs.getD k 0=z at A M;have R:Hid ((wr.setCell ⟨w.heap.size,k,none⟩ (.int .i64 z)).ownsRow w.heap.size 2 1 (.slice (some ⟨w.heap.size,0,none⟩) zs.length zs.length) zs.length (z9N zs .i64 ys (k+1))∧Below w.heap.size w (wr.setCell ⟨w.heap.size,k,none⟩ (.int .i64 z))):=⟨A.1,hb.setCell (Nat.le_refl _) _⟩
   clear A hc
   go_wp2
   go_roundw
   case rel=>exact⟨k+1,by omega,by go_num,R.out.1,R.out.2⟩
   case measure=>simp[intOf];omega
  ·go_wp2
   go_ret;have N:k=zs.length:=by omega
   subst N;rw[q1r zs .i64 ys d]at ho;exact⟨_,_,rfl,ho,hb⟩
theorem q1s(a a':Option Addr)(cap cap':Nat)(zs:List Int)(w:World)(h:Row .i64 w a zs)(h':Row .i64 w a' zs)(hl:zs.length≤1099511627776):
  Calls Tryz.prog 73 #[.slice a zs.length cap,.slice a' zs.length cap'] w fun e w'=>e=.returned (.bool true)∧∃n,w'=w.drewN n:=by
 go_enter Tryz.func73,Tryz.ntmps73
 go_wp2
 go_loopw[5] (fun i wr=>∃k m:Nat,k≤zs.length∧i=.int .i64 k∧wr=w.drewN m) (fun i _=>zs.length-(intOf i).toNat)
 case atStart=>exact⟨0,0,Nat.zero_le _,rfl,rfl⟩
 case round=>
  obtain⟨k,m,hk,rfl,rfl⟩:=hrel;by_cases hlt:k<zs.length
  ·obtain⟨b,off,rfl,hbs,hc⟩:=h k hlt;obtain⟨b',off',rfl,hbs',hc'⟩:=h' k hlt;generalize zs.getD k 0=z at hc hc';have hne:(z !=z)=false:=by simp
   go_wp2
   go_quiet (fail)
   go_wp2
   go_roundw
   case rel=>exact⟨k+1,_,by omega,by go_num,rfl⟩
   case measure=>simp[intOf];omega
  ·go_wp2
   go_ret;exact⟨rfl,_,rfl⟩
def inB(v lo hi:Int):Bool:=decide (lo≤v∧v≤hi)
theorem z04(v lo hi:Int)(w:World):
  Calls Tryz.prog 54 #[.int .i64 v,.int .i64 lo,.int .i64 hi] w fun e w'=>e=.returned (.bool (inB v lo hi))∧w'=w:=by
 by_cases h1:lo≤v<;>by_cases h2:v≤hi
 all_goals
  go_enter Tryz.func54,Tryz.ntmps54
  go_wp2
  go_ret;exact⟨by simp[inB,h1,h2],rfl⟩
theorem z0I(n lo hi:Int)(w:World):
  Calls Tryz.prog 64 #[.int .i64 n,.int .i64 lo,.int .i64 hi] w fun e w'=>e=.returned (.bool (inB n lo hi))∧w'=w:=by
 by_cases h1:lo≤n<;>by_cases h2:n≤hi
 all_goals
  go_enter Tryz.func64,Tryz.ntmps64
  go_wp2
  go_ret;exact⟨by simp[inB,h1,h2],rfl⟩
theorem q1t:(Tryz.prog.info? 2).map (fun i=>(i.zero,i.size,i.bytes))=some (some (.int .i64 0),1,8):=by kernel_rfl
def bitB(m:Int)(k:Nat):Bool:=decide (m / 2^k % 2=1)
def z1X(m:Int)(k:Nat):List Int:=((List.range k).filter (bitB m)).map fun(i:Nat)=>(i:Int)
theorem z9Q(m:Int)(k:Nat)(h:bitB m k=true):z1X m (k+1)=z1X m k++[(k:Int)]:=by simp[z1X,List.range_succ,List.filter_append,h]
theorem q1u(m:Int)(k:Nat)(h:bitB m k=false):z1X m (k+1)=z1X m k:=by simp[z1X,List.range_succ,List.filter_append,h]
theorem z8k(m:Int)(k:Nat):(z1X m k).length≤k:=by
 have:=List.length_filter_le (bitB m) (List.range k);simpa[z1X]using this
theorem q2G(m:Int)(k:Nat)(h:0≤m):((m / 2^k).tmod 2==1)=bitB m k:=by
 have h2:0≤m / 2^k:=Int.ediv_nonneg h (by exact Int.le_of_lt (Int.pow_pos (by decide)));rw[Int.tmod_eq_emod_of_nonneg h2];simp[bitB,Bool.beq_eq_decide_eq]
theorem z4e(m:Int)(k:Nat)(w:World)(h0:0≤m)(h1:m≤65535)(hk:k<16):
  Calls Tryz.prog 104 #[.int .i64 m,.int .i64 k] w fun e w'=>e=.returned (.bool (bitB m k))∧w'=w:=by
 go_enter Tryz.func104,Tryz.ntmps104
 go_wp2
 go_ret;exact⟨by simp[q2G m k h0],rfl⟩
theorem z8R(m:Int)(w:World)(h0:0≤m)(h1:m≤65535):
  Calls Tryz.prog 226 #[.int .i64 m] w fun e w'=>∃a c,e=.returned (.slice a (z1X m 16).length c)∧w'.ownsRow w.heap.size 2 1 (.slice a (z1X m 16).length c) (z1X m 16).length ((z1X m 16).map (Value.int .i64))∧Below w.heap.size w w':=by
 obtain⟨i0,hi,D,E,I⟩:=info_parts q1t;go_enter Tryz.func226,Tryz.ntmps226
 go_wp2
 go_loopw[3,4] (fun v i wr=>∃k:Nat,k≤16∧i=.int .i64 k∧wr.ownsRow w.heap.size 2 1 v (z1X m k).length ((z1X m k).map (Value.int .i64))∧Below w.heap.size w wr) (fun _ i _=>16-(intOf i).toNat)
 case atStart=>exact⟨0,Nat.zero_le _,rfl,World.ownsRow_lit w #[] 0 (Nat.le_refl _) (by decide) rfl,by go_grown⟩
 case round=>
  obtain⟨k,hk,rfl,ho,hb⟩:=hrel;have J:=z8k m k;have L:=hb.size;by_cases A:k<16
  ·by_cases d:bitB m k=true
   ·go_wp2_with (first|(go_at_call 104;refine(z4e m k _ h0 h1 A).mono ?_;rintro e w' ⟨rfl,rfl⟩)|(at_builtin;refine wpList_append_own _ rfl _ _ 42 rfl w.heap.size 2 i0 (.int .i64 0) 1 8 Tryz.underlying42 hi D E I rfl (by decide) _ _ _ rfl (ho.alloc _) ⟨_,0,none⟩ 1 1 [.int .i64 k] rfl rfl ?c1 ?c2 ?c3 ?c4 ?c5 ?_))
    case c1=>exact cell_one_new _ _ _
    case c2=>intro u hu;simp at hu;subst hu;rfl
    case c3=>unfold maxLen;omega
    case c4=>omega
    case c5=>simp;omega
    intro v' w1 y x _;have R:Hid (w1.ownsRow w.heap.size 2 1 v' (z1X m (k+1)).length ((z1X m (k+1)).map (Value.int .i64))∧Below w.heap.size w w1):=by
     rw[z9Q m k d];exact⟨by simpa using y,(hb.alloc hb.size _).grown x (by simp;omega) (fun j hj=>(ho.lt j hj).1)⟩
    clear y x ho
    go_wp2
    go_roundw
    case rel=>exact⟨k+1,by omega,by go_num,R.out.1,R.out.2⟩
    case measure=>simp[intOf];omega
   ·have z:bitB m k=false:=by simpa using d
    clear d;rw[←q1u m k z]at ho
    go_wp2_with (first|(go_at_call 104;refine(z4e m k _ h0 h1 A).mono ?_;rintro e w' ⟨rfl,rfl⟩))
    go_roundw
    case rel=>exact⟨k+1,by omega,by go_num,ho,hb⟩
    case measure=>simp[intOf];omega
  ·have C:k=16:=by omega
   subst C;obtain⟨a1,c1,rfl⟩:=z0g ho
   go_wp2
   go_ret;exact⟨_,_,rfl,ho,hb⟩
def vOk(most x:Int):Bool:=inB x 0 most||x==3
def vf(zs:List Int)(most:Int):Int:=if zs.length=3 then(if zs.all (vOk most)then 0 else 3)else 2
def vfault(zs:List Int)(most:Int):Int:=if inB most 1 2 then vf zs most else 3
def z9L(p q r:Bool):Int:=p.toNat+q.toNat+r.toNat
def q2k(m:Int):Int:=z9L (bitB m 0) (bitB m 1) (bitB m 2)
def cnt(m:Int)(zs:List Int)(v:Int):Int:=z9L (bitB m 0 && (zs.getD 0 0==v)) (bitB m 1 && (zs.getD 1 0==v)) (bitB m 2 && (zs.getD 2 0==v))
def q2H(p q r:Bool):Int:=p.toNat+2*q.toNat+4*r.toNat
def vot(zs:List Int)(v:Int):Int:=q2H (zs.getD 0 0==v) (zs.getD 1 0==v) (zs.getD 2 0==v)
def isQ(m:Int):Bool:=inB m 0 7 && decide (2≤q2k m)
theorem q2I{m:Int}(h:inB m 0 7=true):m=0∨m=1∨m=2∨m=3∨m=4∨m=5∨m=6∨m=7:=by
 have:=of_decide_eq_true h;omega
theorem z8S{zs:List Int}(h:zs.length=3):∃x y z,zs=[x,y,z]:=by
 match zs,h with
 |[x,y,z],_=>exact⟨x,y,z,rfl⟩
theorem z0P{zs:List Int}{most:Int}(h:vf zs most=0):zs.length=3:=by
 unfold vf at h;split at h
 ·assumption
 ·simp at h
theorem q2J(p q r:Bool):inB (q2H p q r) 0 7=true:=by cases p<;>cases q<;>cases r<;>decide
theorem q3L(zs:List Int)(v:Int):inB (vot zs v) 0 7=true:=q2J _ _ _
theorem q1v(p q r:Bool):∀m∈[(0:Int),1,2,3,4,5,6,7],inB (bits .and .i64 m (q2H p q r)) 0 7=true∧q2k (bits .and .i64 m (q2H p q r))=z9L (bitB m 0 && p) (bitB m 1 && q) (bitB m 2 && r)∧((bits .and .i64 m (q2H p q r))==0)=(z9L (bitB m 0 && p) (bitB m 1 && q) (bitB m 2 && r)==0):=by
 cases p<;>cases q<;>cases r<;>decide+kernel
theorem z7A{m:Int}(h:inB m 0 7=true)(zs:List Int)(v:Int):inB (bits .and .i64 m (vot zs v)) 0 7=true∧q2k (bits .and .i64 m (vot zs v))=cnt m zs v∧((bits .and .i64 m (vot zs v))==0)=(cnt m zs v==0):=by
 refine q1v _ _ _ m ?_;rcases q2I h with rfl|rfl|rfl|rfl|rfl|rfl|rfl|rfl<;>simp
theorem z9R(p q r:Bool):0≤z9L p q r∧z9L p q r≤3:=by cases p<;>cases q<;>cases r<;>decide
theorem z1T(m:Int)(zs:List Int)(v:Int):0≤cnt m zs v∧cnt m zs v≤3:=z9R _ _ _
theorem q3M{m:Int}(h:inB m 0 7=true):((z1X m 16).length:Int)=q2k m:=by
 rcases q2I h with rfl|rfl|rfl|rfl|rfl|rfl|rfl|rfl<;>decide+kernel
theorem z5o(m:Int)(w:World):
  Calls Tryz.prog 239 #[.int .i64 m] w fun e w'=>e=.returned (.bool (inB m 0 7))∧w'=w:=by
 go_enter Tryz.func239,Tryz.ntmps239
 go_wp2_with (go_at_call 64;refine(z0I _ _ _ _).mono ?_;rintro e w' ⟨rfl,rfl⟩)
 go_ret;exact⟨rfl,rfl⟩
theorem z1F(m:Int)(w:World)(h:inB m 0 7=true):
  Calls Tryz.prog 177 #[.int .i64 m] w fun e w'=>e=.returned (.int .i64 (q2k m))∧w'=w:=by
 rcases q2I h with rfl|rfl|rfl|rfl|rfl|rfl|rfl|rfl;all_goals
  clear h;go_enter Tryz.func177,Tryz.ntmps177
  go_wp2
  go_ret;exact⟨by kernel_rfl,rfl⟩
theorem z6t(m:Int)(w:World):
  Calls Tryz.prog 233 #[.int .i64 m] w fun e w'=>e=.returned (.bool (isQ m))∧w'=w:=by
 by_cases h:inB m 0 7=true
 ·have hn:=fun w=>z1F m w h
  go_enter Tryz.func233,Tryz.ntmps233
  go_wp2_with (first|(go_at_call 239;refine(z5o _ _).mono ?_;rintro e w' ⟨rfl,rfl⟩)|(go_at_call 177;refine(hn _).mono ?_;rintro e w' ⟨rfl,rfl⟩))
  go_ret;exact⟨by simp[isQ,h],rfl⟩
 ·have h':inB m 0 7=false:=by simpa using h
  clear h;go_enter Tryz.func233,Tryz.ntmps233
  go_wp2_with (go_at_call 239;refine(z5o _ _).mono ?_;rintro e w' ⟨rfl,rfl⟩)
  go_ret;exact⟨by simp[isQ,h'],rfl⟩
theorem z8l(zs:List Int)(p:Int→Bool)(k:Nat)(h:(zs.take k).all p=true)(hk:k<zs.length)(hx:p (zs.getD k 0)=true):(zs.take (k+1)).all p=true:=by
 rw[List.take_succ_eq_append_getElem hk,List.all_append,h];have e:zs[k]=zs.getD k 0:=by simp[List.getD,hk]
 rw[e,List.all_cons,hx];rfl
theorem z9S(zs:List Int)(p:Int→Bool)(k:Nat)(hk:k<zs.length)(hx:p (zs.getD k 0)=false):zs.all p=false:=by
 rw[List.all_eq_false];exact⟨zs.getD k 0,by simp[List.getD,hk],by rw[hx];decide⟩
theorem z0z(a:Option Addr)(cap:Nat)(zs:List Int)(c:Int)(w:World)(h:Row .i64 w a zs)(hm:zs.length≤9223372036854775807):
  Calls Tryz.prog 140 #[.slice a zs.length cap,.int .i64 c] w fun e w'=>e=.returned (.int .i64 (vfault zs c))∧w'=w:=by
 by_cases x:inB c 1 2=true
 ·by_cases hl:zs.length=3
  ·have e0:vfault zs c=if zs.all (vOk c)then 0 else 3:=by simp[vfault,vf,x,hl]
   have E1:Hid (zs.all (vOk c)=true→vfault zs c=0):=fun h=>by rw[e0,h];rfl
   have E2:Hid (zs.all (vOk c)=false→vfault zs c=3):=fun h=>by rw[e0,h];rfl
   clear e0;generalize vfault zs c=E at E1 E2⊢;have C:((zs.length:Int) !=3)=false:=by simp[hl]
   go_enter Tryz.func140,Tryz.ntmps140
   go_wp2_with (go_at_call 64;refine(z0I _ _ _ _).mono ?_;rintro e w' ⟨rfl,rfl⟩)
   go_loop[15] (fun i=>∃k:Nat,k≤zs.length∧i=.int .i64 k∧(zs.take k).all (vOk c)=true) (fun i=>zs.length-(intOf i).toNat)
   case atStart=>exact⟨0,Nat.zero_le _,rfl,by simp⟩
   case round=>
    obtain⟨k,hk,rfl,d⟩:=hrel;by_cases y:k<zs.length
    ·obtain⟨b,J,rfl,I,hc⟩:=h k y;have hT:Hid (vOk c (zs.getD k 0)=true→(zs.take (k+1)).all (vOk c)=true):=fun hx=>z8l zs _ k d y hx
     have hF:Hid (vOk c (zs.getD k 0)=false→zs.all (vOk c)=false):=fun hx=>z9S zs _ k y hx
     clear d;generalize zs.getD k 0=z at hc hT hF;by_cases h1:inB z 0 c=true
     ·have hx:vOk c z=true:=by simp[vOk,h1]
      have R:Hid ((zs.take (k+1)).all (vOk c)=true):=hT.out hx;clear hT hF hx
      go_wp2_with (go_at_call 64;refine(z0I _ _ _ _).mono ?_;rintro e w' ⟨rfl,rfl⟩)
      go_round
      case rel=>exact⟨k+1,by omega,by go_num,R.out⟩
      case measure=>simp[intOf];omega
     ·have A:inB z 0 c=false:=by simpa using h1
      clear h1;by_cases h3:z=3
      ·subst h3;have hx:vOk c 3=true:=by simp[vOk]
       have R:Hid ((zs.take (k+1)).all (vOk c)=true):=hT.out hx;clear hT hF hx
       go_wp2_with (go_at_call 64;refine(z0I _ _ _ _).mono ?_;rintro e w' ⟨rfl,rfl⟩)
       go_round
       case rel=>exact⟨k+1,by omega,by go_num,R.out⟩
       case measure=>simp[intOf];omega
      ·have D:(z !=3)=true:=by simpa using h3
       have hx:vOk c z=false:=by simp[vOk,A,h3]
       have R:Hid (zs.all (vOk c)=false):=hF.out hx;clear hT hF hx h3
       go_wp2_with (go_at_call 64;refine(z0I _ _ _ _).mono ?_;rintro e w' ⟨rfl,rfl⟩)
       go_ret;exact⟨by rw[E2.out R.out];rfl,rfl⟩
    ·go_wp2
     go_ret;rw[List.take_of_length_le (by omega)]at d;exact⟨by rw[E1.out d];rfl,rfl⟩
  ·have e0:vfault zs c=2:=by simp[vfault,vf,x,hl]
   rw[e0];have C:((zs.length:Int) !=3)=true:=by simp;omega
   clear hl;go_enter Tryz.func140,Tryz.ntmps140
   go_wp2_with (go_at_call 64;refine(z0I _ _ _ _).mono ?_;rintro e w' ⟨rfl,rfl⟩)
   go_ret;exact⟨rfl,rfl⟩
 ·have h':inB c 1 2=false:=by simpa using x
  have e0:vfault zs c=3:=by simp[vfault,h']
  rw[e0];clear x;go_enter Tryz.func140,Tryz.ntmps140
  go_wp2_with (go_at_call 64;refine(z0I _ _ _ _).mono ?_;rintro e w' ⟨rfl,rfl⟩)
  go_ret;exact⟨rfl,rfl⟩
def votB(p q r:Bool)(k:Nat):Int:=q2H (decide (0<k) && p) (decide (1<k) && q) (decide (2<k) && r)
theorem q2K(p q r:Bool)(k:Nat)(hk:k<3)(h:[p,q,r].getD k false=true):bits .or .i64 (votB p q r k) (wrap64 (2^k))=votB p q r (k+1):=by
 match k,hk with
 |0,_=>revert h;cases p<;>cases q<;>cases r<;>decide+kernel
 |1,_=>revert h;cases p<;>cases q<;>cases r<;>decide+kernel
 |2,_=>revert h;cases p<;>cases q<;>cases r<;>decide+kernel
theorem q2L(p q r:Bool)(k:Nat)(hk:k<3)(h:[p,q,r].getD k false=false):votB p q r (k+1)=votB p q r k:=by
 match k,hk with
 |0,_=>revert h;cases p<;>cases q<;>cases r<;>decide+kernel
 |1,_=>revert h;cases p<;>cases q<;>cases r<;>decide+kernel
 |2,_=>revert h;cases p<;>cases q<;>cases r<;>decide+kernel
theorem q2M(zs:List Int)(v:Int)(k:Nat)(hk:k<3):[zs.getD 0 0==v,zs.getD 1 0==v,zs.getD 2 0==v].getD k false=(zs.getD k 0==v):=by
 match k,hk with
 |0,_=>rfl
 |1,_=>rfl
 |2,_=>rfl
theorem z1s(a:Option Addr)(cap:Nat)(zs:List Int)(v:Int)(w:World)(h:Row .i64 w a zs)(hl:zs.length=3):
  Calls Tryz.prog 178 #[.slice a 3 cap,.int .i64 v] w fun e w'=>e=.returned (.int .i64 (vot zs v))∧w'=w:=by
 have x:=q2M zs v;have h3:vot zs v=votB (zs.getD 0 0==v) (zs.getD 1 0==v) (zs.getD 2 0==v) 3:=by simp[votB,vot]
 rw[h3];clear h3;generalize (zs.getD 0 0==v)=p at x⊢;generalize (zs.getD 1 0==v)=q at x⊢;generalize (zs.getD 2 0==v)=r at x⊢;generalize hE:votB p q r 3=E;go_enter Tryz.func178,Tryz.ntmps178
 go_wp2
 go_loop[5,10] (fun c i=>∃k:Nat,k≤3∧c=.int .i64 (votB p q r k)∧i=.int .i64 k) (fun _ i=>3-(intOf i).toNat)
 case atStart=>exact⟨0,Nat.zero_le _,rfl,rfl⟩
 case round=>
  obtain⟨k,hk,rfl,rfl⟩:=hrel;by_cases A:k<3
  ·obtain⟨b,J,rfl,I,hc⟩:=h k (by omega);have y:=x k A;by_cases hz:(zs.getD k 0==v)=true
   ·have R:Hid (bits .or .i64 (votB p q r k) (wrap64 (2^k))=votB p q r (k+1)):=q2K p q r k A (y.trans hz);clear y;generalize zs.getD k 0=z at hc hz;generalize votB p q r k=c at R⊢;generalize hd:votB p q r (k+1)=d at R
    go_wp2
    go_round
    case rel=>exact⟨k+1,by omega,by rw[hd,←R.out],by go_num⟩
    case measure=>simp[intOf];omega
   ·have C:(zs.getD k 0==v)=false:=by simpa using hz
    clear hz;have R:Hid (votB p q r k=votB p q r (k+1)):=(q2L p q r k A (y.trans C)).symm;clear y;generalize zs.getD k 0=z at hc C;generalize votB p q r k=c at R⊢
    go_wp2
    go_round
    case rel=>exact⟨k+1,by omega,by rw[R.out],by go_num⟩
    case measure=>simp[intOf];omega
  ·have D:k=3:=by omega
   subst D;rw[hE]
   go_wp2
   go_ret;exact⟨rfl,rfl⟩
theorem z8T(m:Int)(w:World)(h:inB m 0 7=true):
  Calls Tryz.prog 203 #[.int .i64 m] w fun e w'=>e=.returned (.int .i64 (q2k m))∧Below w.heap.size w w':=by
 have hm:=of_decide_eq_true h;rw[←q3M h];have hle:=z8k m 16;have h1:=z8R m w hm.1 (by omega);generalize (z1X m 16).length=n at*;go_enter Tryz.func203,Tryz.ntmps203
 go_wp2_with fail
 refine h1.mono ?_;rintro e w1 ⟨a,c,rfl,ho,hb⟩;clear ho
 go_wp2
 go_ret;exact⟨rfl,hb⟩
theorem z6u(m:Int)(w:World):
  Calls Tryz.prog 188 #[.int .i64 m] w fun e w'=>e=.returned (.bool (isQ m))∧Below w.heap.size w w':=by
 by_cases h:inB m 0 7=true
 ·have hn:=fun w=>z8T m w h
  go_enter Tryz.func188,Tryz.ntmps188
  go_wp2_with (first|(go_at_call 54;refine(z04 _ _ _ _).mono ?_;rintro e w' ⟨rfl,rfl⟩)|(go_at_call 203;refine(hn _).mono ?_;rintro e w' ⟨rfl,hb⟩))
  go_ret;exact⟨by simp[isQ,h],hb⟩
 ·have h':inB m 0 7=false:=by simpa using h
  clear h;go_enter Tryz.func188,Tryz.ntmps188
  go_wp2_with (go_at_call 54;refine(z04 _ _ _ _).mono ?_;rintro e w' ⟨rfl,rfl⟩)
  go_ret;exact⟨by simp[isQ,h'],Below.refl _ _⟩
theorem z0Q(a:Option Addr)(cap:Nat)(zs:List Int)(c:Int)(w:World)(h:Row .i64 w a zs)(hm:zs.length≤9223372036854775807):
  Calls Tryz.prog 103 #[.slice a zs.length cap,.int .i64 c] w fun e w'=>e=.returned (.int .i64 (vf zs c))∧Below w.heap.size w w':=by
 by_cases hl:zs.length=3
 ·have e0:vf zs c=if zs.all (vOk c)then 0 else 3:=by simp[vf,hl]
  have E1:Hid (zs.all (vOk c)=true→vf zs c=0):=fun h=>by rw[e0,h];rfl
  have E2:Hid (zs.all (vOk c)=false→vf zs c=3):=fun h=>by rw[e0,h];rfl
  clear e0;generalize vf zs c=E at E1 E2⊢;rw[hl];go_enter Tryz.func103,Tryz.ntmps103
  go_wp2
  go_loop[5] (fun i=>∃k:Nat,k≤3∧i=.int .i64 k∧(zs.take k).all (vOk c)=true) (fun i=>3-(intOf i).toNat)
  case atStart=>exact⟨0,Nat.zero_le _,rfl,by simp⟩
  case round=>
   obtain⟨k,hk,rfl,d⟩:=hrel;by_cases A:k<3
   ·have x:k<zs.length:=by omega
    obtain⟨b,J,rfl,D,hc⟩:=h k x;have hT:Hid (vOk c (zs.getD k 0)=true→(zs.take (k+1)).all (vOk c)=true):=fun hx=>z8l zs _ k d x hx
    have hF:Hid (vOk c (zs.getD k 0)=false→zs.all (vOk c)=false):=fun hx=>z9S zs _ k x hx
    clear d;generalize zs.getD k 0=z at hc hT hF;by_cases h1:inB z 0 c=true
    ·have hx:vOk c z=true:=by simp[vOk,h1]
     have R:Hid ((zs.take (k+1)).all (vOk c)=true):=hT.out hx;clear hT hF hx
     go_wp2_with (go_at_call 54;refine(z04 _ _ _ _).mono ?_;rintro e w' ⟨rfl,rfl⟩)
     go_round
     case rel=>exact⟨k+1,by omega,by go_num,R.out⟩
     case measure=>simp[intOf];omega
    ·have y:inB z 0 c=false:=by simpa using h1
     clear h1;by_cases h3:z=3
     ·subst h3;have hx:vOk c 3=true:=by simp[vOk]
      have R:Hid ((zs.take (k+1)).all (vOk c)=true):=hT.out hx;clear hT hF hx
      go_wp2_with (go_at_call 54;refine(z04 _ _ _ _).mono ?_;rintro e w' ⟨rfl,rfl⟩)
      go_round
      case rel=>exact⟨k+1,by omega,by go_num,R.out⟩
      case measure=>simp[intOf];omega
     ·have C:(z !=3)=true:=by simpa using h3
      have hx:vOk c z=false:=by simp[vOk,y,h3]
      have R:Hid (zs.all (vOk c)=false):=hF.out hx;clear hT hF hx h3
      go_wp2_with (go_at_call 54;refine(z04 _ _ _ _).mono ?_;rintro e w' ⟨rfl,rfl⟩)
      go_ret;exact⟨by rw[E2.out R.out];rfl,Below.refl _ _⟩
   ·go_wp2
    go_ret;rw[List.take_of_length_le (by omega)]at d;exact⟨by rw[E1.out d];rfl,Below.refl _ _⟩
 ·have e0:vf zs c=2:=by simp[vf,hl]
  rw[e0];have I:((zs.length:Int) !=3)=true:=by simp;omega
  clear hl;go_enter Tryz.func103,Tryz.ntmps103
  go_wp2
  go_ret;exact⟨rfl,Below.refl _ _⟩
def cntB(p q r:Bool)(k:Nat):Int:=z9L (decide (0<k) && p) (decide (1<k) && q) (decide (2<k) && r)
theorem q1w(p q r:Bool)(k:Nat)(hk:k<3)(h:[p,q,r].getD k false=true):cntB p q r k+1=cntB p q r (k+1):=by
 match k,hk with
 |0,_=>revert h;cases p<;>cases q<;>cases r<;>decide+kernel
 |1,_=>revert h;cases p<;>cases q<;>cases r<;>decide+kernel
 |2,_=>revert h;cases p<;>cases q<;>cases r<;>decide+kernel
theorem q2N(p q r:Bool)(k:Nat)(hk:k<3)(h:[p,q,r].getD k false=false):cntB p q r (k+1)=cntB p q r k:=by
 match k,hk with
 |0,_=>revert h;cases p<;>cases q<;>cases r<;>decide+kernel
 |1,_=>revert h;cases p<;>cases q<;>cases r<;>decide+kernel
 |2,_=>revert h;cases p<;>cases q<;>cases r<;>decide+kernel
theorem q1x(m:Int)(zs:List Int)(v:Int)(k:Nat)(hk:k<3):[bitB m 0 && (zs.getD 0 0==v),bitB m 1 && (zs.getD 1 0==v),bitB m 2 && (zs.getD 2 0==v)].getD k false=(bitB m k && (zs.getD k 0==v)):=by
 match k,hk with
 |0,_=>rfl
 |1,_=>rfl
 |2,_=>rfl
theorem z0B(a:Option Addr)(cap:Nat)(zs:List Int)(m v:Int)(w:World)(h:Row .i64 w a zs)(hl:zs.length=3)(hm:inB m 0 7=true):
  Calls Tryz.prog 80 #[.slice a 3 cap,.int .i64 m,.int .i64 v] w fun e w'=>e=.returned (.int .i64 (cnt m zs v))∧Below w.heap.size w w':=by
 have y:=q1x m zs v;have M:=of_decide_eq_true hm;have h3:cnt m zs v=cntB (bitB m 0 && (zs.getD 0 0==v)) (bitB m 1 && (zs.getD 1 0==v)) (bitB m 2 && (zs.getD 2 0==v)) 3:=by simp[cntB,cnt]
 rw[h3];clear h3;generalize (bitB m 0 && (zs.getD 0 0==v))=p at y⊢;generalize (bitB m 1 && (zs.getD 1 0==v))=q at y⊢;generalize (bitB m 2 && (zs.getD 2 0==v))=r at y⊢;generalize hE:cntB p q r 3=E;have D:∀k,0≤cntB p q r k∧cntB p q r k≤3:=fun k=>z9R _ _ _
 go_enter Tryz.func80,Tryz.ntmps80
 go_wp2
 go_loopw[7,8] (fun c i wr=>∃k n:Nat,k≤3∧c=.int .i64 (cntB p q r k)∧i=.int .i64 k∧wr=w.drewN n) (fun _ i _=>3-(intOf i).toNat)
 case atStart=>exact⟨0,0,Nat.zero_le _,rfl,rfl,rfl⟩
 case round=>
  obtain⟨k,n,hk,rfl,rfl,rfl⟩:=hrel;by_cases I:k<3
  ·obtain⟨b,O,rfl,N,hc⟩:=h k (by omega);have C:=y k I;have J:=D k;have x:=fun w=>z4e m k w M.1 (by omega) (by omega)
   by_cases hz:(bitB m k && (zs.getD k 0==v))=true
   ·have R:Hid (cntB p q r k+1=cntB p q r (k+1)):=q1w p q r k I (C.trans hz);clear C;generalize zs.getD k 0=z at hc hz;generalize bitB m k=t at x hz;rw[Bool.and_eq_true]at hz;obtain⟨rfl,hz⟩:=hz;generalize cntB p q r k=c at R J⊢;generalize hd:cntB p q r (k+1)=d at R;clear y D
    go_wp2_with (go_at_call 104;refine(x _).mono ?_;rintro e w' ⟨rfl,rfl⟩)
    go_roundw
    case rel=>exact⟨k+1,_,by omega,by rw[hd,←R.out],by go_num,rfl⟩
    case measure=>simp[intOf];omega
   ·have A:(bitB m k && (zs.getD k 0==v))=false:=by simpa using hz
    clear hz;have R:Hid (cntB p q r k=cntB p q r (k+1)):=(q2N p q r k I (C.trans A)).symm;clear C;generalize zs.getD k 0=z at hc A;generalize bitB m k=t at x A;generalize cntB p q r k=c at R J⊢;clear y D
    cases t
    ·clear A
     go_wp2_with (go_at_call 104;refine(x _).mono ?_;rintro e w' ⟨rfl,rfl⟩)
     go_roundw
     case rel=>exact⟨k+1,_,by omega,by rw[R.out],by go_num,rfl⟩
     case measure=>simp[intOf];omega
    ·rw[Bool.true_and]at A
     go_wp2_with (go_at_call 104;refine(x _).mono ?_;rintro e w' ⟨rfl,rfl⟩)
     go_roundw
     case rel=>exact⟨k+1,_,by omega,by rw[R.out],by go_num,rfl⟩
     case measure=>simp[intOf];omega
  ·have L:k=3:=by omega
   subst L;rw[hE]
   go_wp2
   go_ret;exact⟨rfl,below_drewN (Below.refl _ _) _⟩
def Lies(w:World)(a:Option Addr)(xs:List Value):Prop:=
 xs=[]∨∃b off,a=some ⟨b,off,none⟩∧b<w.heap.size∧∀i x,xs[i]?=some x→w.cell? ⟨b,off+i,none⟩=some x
theorem Lies.below{w w':World}{a:Option Addr}{xs:List Value}(h:Lies w a xs)(hb:Below w.heap.size w w'):Lies w' a xs:=by
 rcases h with h|⟨b,off,ha,hlt,hc⟩
 ·exact Or.inl h
 ·exact Or.inr ⟨b,off,ha,Nat.lt_of_lt_of_le hlt hb.size,fun i x hx=>by rw[hb.cell (p:=⟨b,off+i,none⟩) hlt];exact hc i x hx⟩
theorem Lies.own{w:World}{base e size n c:Nat}{a:Option Addr}{xs:List Value}(h:w.ownsRow base e size (.slice a n c) n xs):Lies w a xs:=by
 rcases h.2 with⟨he,hn⟩|⟨g,cap,cur,he,hb,hg,r⟩
 ·left;have:=h.1;rw[hn,Nat.zero_mul]at this;exact List.eq_nil_of_length_eq_zero this
 ·right;simp only[Value.slice.injEq,true_and]at he;obtain⟨rfl,rfl⟩:=he;refine⟨g,0,rfl,(Array.getElem?_eq_some_iff.1 hg).1,fun i x hx=>?_⟩;have hi:i<n*size:=by rw[←h.1];exact(List.getElem?_eq_some_iff.1 hx).1
  rw[Nat.zero_add,h.cellAt i hi,hx]
def z7w(zs xs:List Value)(k:Nat):List Value:=zs.take k++xs.drop k
theorem z4f(zs xs:List Value):z7w zs xs 0=xs:=by simp[z7w]
theorem z5H(zs xs:List Value)(k:Nat)(h:xs.length=zs.length)(hk:zs.length=k):z7w zs xs k=zs:=by
 have:xs.drop k=[]:=List.drop_of_length_le (by omega);simp[z7w,this,←hk];omega
theorem z1d(zs xs:List Value)(k:Nat)(v:Value)(h:xs.length=zs.length)(hv:zs[k]?=some v):(z7w zs xs k).set k v=z7w zs xs (k+1):=by
 have hk:k<zs.length:=(List.getElem?_eq_some_iff.1 hv).1;apply List.ext_getElem?;intro j;simp only[z7w,List.getElem?_set,List.getElem?_append,List.length_append,List.length_take,List.length_drop,List.getElem?_drop,List.getElem?_take];by_cases hj:j=k
 ·subst hj;simp[Nat.min_eq_left (Nat.le_of_lt hk),Nat.min_eq_left (show j+1≤zs.length by omega),hv];omega
 ·rw[if_neg (by omega),Nat.min_eq_left (by omega),Nat.min_eq_left (by omega)];by_cases hlt:j<k
  ·simp[hlt,show j<k+1 by omega]
  ·rw[if_neg hlt,if_neg (by omega)]
   congr 1;omega
structure ActD where
 kind:Int
 key:Int
 val:Int
def z0e:ActD:=⟨0,0,0⟩
def ActD.cells(x:ActD):List Value:=[.int .i64 x.kind,.int .i64 x.key,.int .i64 x.val]
def z0q(xs:List ActD):List Value:=xs.flatMap ActD.cells
def ActRow(w:World)(a:Option Addr)(xs:List ActD):Prop:=Lies w a (z0q xs)
theorem z0r(xs:List ActD):(z0q xs).length=xs.length*3:=by
 induction xs with
 |nil=>rfl
 |cons x xs ih=>simp only[z0q,List.flatMap_cons,List.length_append,List.length_cons]at ih⊢;rw[ih];simp[ActD.cells];omega
theorem z3z(xs:List ActD):∀ (i:Nat),i<xs.length→(z0q xs)[i*3]?=some (.int .i64 (xs.getD i z0e).kind)∧(z0q xs)[i*3+1]?=some (.int .i64 (xs.getD i z0e).key)∧(z0q xs)[i*3+2]?=some (.int .i64 (xs.getD i z0e).val):=by
 induction xs with
 |nil=>intro i h;simp at h
 |cons x xs ih=>
  intro i h
  cases i with
  |zero=>simp[z0q,ActD.cells]
  |succ i=>
   have e:z0q (x::xs)=x.cells++z0q xs:=rfl;have hl:x.cells.length=3:=rfl;obtain⟨h1,h2,h3⟩:=ih i (by simpa using h);rw[e,List.getElem?_append_right (by omega),List.getElem?_append_right (by omega),List.getElem?_append_right (by omega),hl,show(i+1)*3-3=i*3 by omega,show(i+1)*3+1-3=i*3+1 by omega,show(i+1)*3+2-3=i*3+2 by omega];simpa[List.getD]using⟨h1,h2,h3⟩
theorem ActRow.below{w w':World}{a:Option Addr}{xs:List ActD}(h:ActRow w a xs)(hb:Below w.heap.size w w'):ActRow w' a xs:=Lies.below h hb
theorem ActRow.at{w:World}{a:Option Addr}{xs:List ActD}(h:ActRow w a xs)(i:Nat)(hi:i<xs.length):
  ∃b off,a=some ⟨b,off,none⟩∧b<w.heap.size∧w.cell? ⟨b,off+i*3,none⟩=some (.int .i64 (xs.getD i z0e).kind)∧w.cell? ⟨b,off+i*3+1,none⟩=some (.int .i64 (xs.getD i z0e).key)∧w.cell? ⟨b,off+i*3+2,none⟩=some (.int .i64 (xs.getD i z0e).val):=by
 obtain⟨h1,h2,h3⟩:=z3z xs i hi;rcases h with h|⟨b,off,ha,hlt,hc⟩
 ·have:=z0r xs;rw[h]at this;simp at this;omega
 ·exact⟨b,off,ha,hlt,hc _ _ h1,by rw[Nat.add_assoc];exact hc _ _ h2,by rw[Nat.add_assoc];exact hc _ _ h3⟩
theorem z4g:(Tryz.prog.info? 118).map (fun i=>(i.zero,i.size,i.bytes))=some (some (.agg #[.int .i64 0,.int .i64 0,.int .i64 0]),3,24):=by kernel_rfl
theorem z9T(k y v:Int)(w:World):
  Calls Tryz.prog 137 #[.agg #[.int .i64 k,.int .i64 y,.int .i64 v]] w fun e w'=>e=.returned (.agg #[.int .i64 k,.int .i64 y,.int .i64 v])∧Below w.heap.size w w':=by
 go_enter Tryz.func137,Tryz.ntmps137
 go_wp2
 exact bodyPost_ret (v:=.agg #[.int .i64 k,.int .i64 y,.int .i64 v]) (by simp[results,Tryz.results137,go_sem]) rfl ⟨rfl,by go_grown⟩
theorem lay3{w:World}{base e g cap n k:Nat}{zs ys:List Value}{v0 v1 v2:Value}(ho:w.ownsRow base e 3 (.slice (some ⟨g,0,none⟩) n cap) n (z7w zs ys (k*3)))
  (hl:ys.length=zs.length) (hz:zs.length=n*3) (hk:k<n) (g0:zs[k*3]?=some v0) (g1:zs[k*3+1]?=some v1) (g2:zs[k*3+2]?=some v2):
  (((w.setCell ⟨g,k*3,none⟩ v0).setCell ⟨g,k*3+1,none⟩ v1).setCell ⟨g,k*3+2,none⟩ v2).ownsRow base e 3 (.slice (some ⟨g,0,none⟩) n cap) n (z7w zs ys ((k+1)*3))∧
  (w.frozen? ⟨g,k*3,none⟩=false∧w.frozen? ⟨g,k*3+1,none⟩=false∧w.frozen? ⟨g,k*3+2,none⟩=false)∧
  ((∃u,w.cell? ⟨g,k*3,none⟩=some u)∧(∃u,w.cell? ⟨g,k*3+1,none⟩=some u)∧(∃u,w.cell? ⟨g,k*3+2,none⟩=some u))∧
  (∀B a,Below B a w→B≤g→Below B a (((w.setCell ⟨g,k*3,none⟩ v0).setCell ⟨g,k*3+1,none⟩ v1).setCell ⟨g,k*3+2,none⟩ v2)):=by
 have hc:∀j,j<n*3→∃u,w.cell? ⟨g,j,none⟩=some u:=fun j hj=>by
  rw[ho.cellAt j hj];exact⟨_,List.getElem?_eq_getElem (by rw[ho.1];exact hj)⟩
 have s0:=(ho.stored (k*3) v0).1;rw[z1d _ _ _ _ hl g0]at s0;have s1:=(s0.stored (k*3+1) v1).1;rw[z1d _ _ _ _ hl g1]at s1;have s2:=(s1.stored (k*3+2) v2).1;rw[z1d _ _ _ _ hl g2,show k*3+2+1=(k+1)*3 by omega]at s2;exact⟨s2,⟨ho.frozenAt _,ho.frozenAt _,ho.frozenAt _⟩,⟨hc _ (by omega),hc _ (by omega),hc _ (by omega)⟩,fun B a h hB=>((h.setCell hB _).setCell hB _).setCell hB _⟩
theorem z8U(a:Option Addr)(cap:Nat)(zs:List ActD)(w:World)(h:ActRow w a zs)(hl:zs.length≤1048576):
  Calls Tryz.prog 112 #[.slice a zs.length cap] w fun e w'=>∃g c,e=.returned (.slice (some ⟨g,0,none⟩) zs.length c)∧
   w'.ownsRow w.heap.size 118 3 (.slice (some ⟨g,0,none⟩) zs.length c) zs.length (z0q zs)∧Below w.heap.size w w':=by
 obtain⟨i0,hi,X,Y,Z⟩:=info_parts z4g;have y:i0.bytes*zs.length≤281474976710656:=by rw[Z];omega
 have N:zs.length≤maxLen:=by unfold maxLen;omega
 have D:=z0r zs;go_enter Tryz.func112,Tryz.ntmps112
 go_wp2_with (at_make;refine wpList_make_full _ rfl _ _ 80 rfl w.heap.size 118 i0 (.agg #[.int .i64 0,.int .i64 0,.int .i64 0]) 3 Tryz.underlying80 hi X Y _ _ _ _ zs.length rfl rfl rfl rfl y N (Nat.le_refl _) ?_)
 intro w1 x E;have d:(madeCells #[Value.int .i64 0,.int .i64 0,.int .i64 0] (zs.length*3)).toList.length=(z0q zs).length:=by simp[size_madeCells,D]
 have T:Below w.heap.size w w1:=(Below.refl _ _).grown E (Nat.le_refl _) (by simp);generalize (madeCells #[Value.int .i64 0,.int .i64 0,.int .i64 0] (zs.length*3)).toList=ys at x d;rw[←z4f (z0q zs) ys]at x
 go_wp2
 go_loopw[4] (fun i wr=>∃k:Nat,k≤zs.length∧i=.int .i64 k∧wr.ownsRow w.heap.size 118 3 (.slice (some ⟨w.heap.size,0,none⟩) zs.length zs.length) zs.length (z7w (z0q zs) ys (k*3))∧Below w.heap.size w wr) (fun i _=>zs.length-(intOf i).toNat)
 case atStart=>exact⟨0,Nat.zero_le _,rfl,by simpa using x,T⟩
 case round=>
  obtain⟨k,hk,rfl,ho,hb⟩:=hrel;by_cases I:k<zs.length
  ·obtain⟨b,ab,rfl,aa,J,L,M⟩:=(h.below hb).at k I;obtain⟨g0,g1,g2⟩:=z3z zs k I;generalize zs.getD k z0e=z at J L M g0 g1 g2
   go_wp2_with fail
   refine(z9T _ _ _ _).mono ?_;rintro e w2 ⟨rfl,C⟩;replace ho:=z0d ho C;replace hb:=hb.trans (C.mono hb.size);clear J L M C;obtain⟨O,V,U,A⟩:=lay3 ho d D I g0 g1 g2;obtain⟨f0,f1,f2⟩:=V;obtain⟨⟨u0,e0⟩,⟨u1,e1⟩,⟨u2,e2⟩⟩:=U;have R:Hid (_∧_):=⟨O,A _ _ hb (Nat.le_refl _)⟩
   clear O A g0 g1 g2 ho
   go_wp2
   go_roundw
   case rel=>exact⟨k+1,by omega,by go_num,R.out.1,R.out.2⟩
   case measure=>simp[intOf];omega
  ·go_wp2
   go_ret;have W:k=zs.length:=by omega
   subst W;rw[z5H _ _ _ d D]at ho;exact⟨_,_,rfl,ho,hb⟩
structure Lat (w:World) where
 val:World
 isBelow:Below w.heap.size w val
structure LatB (B:Nat) (w:World) where
 val:World
 isBelow:Below B w val
def z3A:Op→Bool
 | .move _=>true
 | .assign _=>true
 | .pick _ _ _=>true
 | .load _ _=>true
 | .fieldAddr _ _ _=>true
 | .field _ _ _=>true
 | .binOp _ _ _ _ _=>true
 | .unOp _ _ _=>true
 | .convert _ _ _=>true
 | .indexAddr _ _ _=>true
 | .extract _ _=>true
 | .nilCheck _=>true
 | .build _ _=>true
 |_=>false
theorem z5I{P:Program}{s:Sem Value}{w w':World}{n:Next}(h:(do let x←s;pure (Next.value x):Sem Next).run P w=.ok n w'):∃v,n=.value v:=by
 rw[Sem.run_bind]at h
 cases hs:s.run P w with
 |ok x w1=>
  rw[hs]at h;simp[Result.andThen,Sem.run_pure]at h;exact⟨x,h.1.symm⟩
 |halt x w1=>
  rw[hs]at h;simp[Result.andThen]at h
theorem z6v{P:Program}{g:Program→Sem (Option Bool)}{u:Unsupported}{x:Value}{w w':World}{n:Next}
  (h:(do let p←program;let r←g p;if(r !=some false)=true then do unsupported u;pure (Next.value x)else pure (Next.value x):Sem Next).run P w=.ok n w'):∃v,n=.value v:=by
 simp only[Sem.run_bind,run_program,Result.andThen_ok]at h
 cases hs:(g P).run P w with
 |ok r w1=>
  rw[hs]at h;simp only[Result.andThen_ok]at h;split at h
  ·rw[Sem.run_bind]at h
   cases hu:(unsupported u:Sem Unit).run P w1 with
   |ok r w2=>rw[hu]at h;simp[Sem.run_pure]at h;exact⟨_,h.1.symm⟩
   |halt r w2=>rw[hu]at h;simp[Result.andThen]at h
  ·simp[Sem.run_pure]at h;exact⟨_,h.1.symm⟩
 |halt r w1=>rw[hs]at h;simp[Result.andThen]at h
theorem z4h{P:Program}{o:Oper}{ρ:Operand→Value}{w w':World}{n:Next}(hp:z3A o.op=true)(h:(execOp ρ o).run P w=.ok n w'):∃v,n=.value v:=by
  unfold execOp at h
  cases hop:o.op<;>rw[hop]at hp<;>simp only[z3A,Bool.false_eq_true]at hp<;>rw[hop]at h<;>dsimp only at h
  all_goals first
    |exact z5I h
    |(simp[Sem.run_pure]at h;exact⟨_,h.1.symm⟩)
    | (split at h
       all_goals first
         |(simp[Sem.run_pure]at h;exact⟨_,h.1.symm⟩)
         |(simp[go_sem]at h;done)
         | (split at h
            all_goals first
              |(simp[Sem.run_pure]at h;exact⟨_,h.1.symm⟩)
              |(simp[go_sem]at h;done)
              | (exact z6v (g:=fun p=>nilAhead (p.types.size + Made.depth) _ _ _) h)))
    | (rw [Sem.run_bind] at h
       revert h
       cases (asBool (ρ _)).run P w with
       |ok x w1=>intro h;simp[Result.andThen,Sem.run_pure]at h;exact⟨_,h.1.symm⟩
       | halt x w1=>intro h;simp [Result.andThen] at h)
section
variable {P:Program} {ops:Array Oper} {Q:Exit→Act→World→Prop} {S:World→Prop}
def z3T(ops:Array Oper):List Nat→Array Bool→Bool
 |[],_=>true
 |i::r,l=>Region.free .any ops l i && (Region.ready .any ops l).contains i && z3T ops r (l.setIfInBounds i true)
def z3f:List Nat→Array Bool→Array Bool
 |[],l=>l
 |i::r,l=>z3f r (l.setIfInBounds i true)
def z6s(rs:List (Nat × Nat)):List Nat:=rs.flatMap fun r=>(List.range r.2).map (r.1+ ·)
def z2A(l:List Oper)(rs:List (Nat × Nat)):List Oper:=rs.flatMap fun r=>(l.drop r.1).take r.2
theorem pkE:(∀ (l:List Oper) (rs:List (Nat × Nat)),z2A l rs=rs.flatMap fun r=>(l.drop r.1).take r.2)∧(∀l:List Oper,l.toArray.toList=l)∧
  (∀ (f:Nat × Nat→List Oper) (x:Nat × Nat) (xs:List (Nat × Nat)),(x::xs).flatMap f=f x++xs.flatMap f)∧(∀f:Nat × Nat→List Oper,List.flatMap f []=[])∧
  (∀ (o:Oper) (l:List Oper) (i:Nat),(o::l).drop (i+1)=l.drop i)∧(∀l:List Oper,l.drop 0=l)∧(∀ (o:Oper) (l:List Oper) (i:Nat),(o::l).take (i+1)=o::l.take i)∧(∀l:List Oper,l.take 0=[])∧
  (∀ (o:Oper) (l m:List Oper),(o::l)++m=o::(l++m))∧(∀l:List Oper,[]++l=l)∧(∀l:List Oper,l++[]=l):=
 ⟨fun _ _=>rfl,fun _=>rfl,fun _ _ _=>List.flatMap_cons,fun _=>rfl,fun _ _ _=>rfl,fun _=>rfl,fun _ _ _=>rfl,fun _=>rfl,fun _ _ _=>rfl,fun _=>rfl,fun _=>List.append_nil _⟩
theorem z9U(hs:Region.noSelect ops=true)(hQ:∀c a d v w,Q (.panic c) (a.put d v) w→Q (.panic c) a w):
  ∀ (A:List Nat) (os:List Oper) (l:Array Bool) (a:Act) (w:World) (y:Nat),A.map (ops[·]?)=os.map some→os.all (fun o=>z3A o.op)=true→z3T ops A l=true→S w→
   wpQuiet P ops S (fun a'=>wpAnyH P .any ops Q S y (z3f A l) a' w) os a→wpAnyH P .any ops Q S (y+A.length) l a w:=by
 intro A;induction A with
 |nil=>
  intro os l a w y z _ _ _ h
  cases os with
  |nil=>exact h
  |cons o os=>simp at z
 |cons i r ih=>
  intro os l a w y z C E hS h
  cases os with
  |nil=>simp at z
  |cons o os=>
   simp only[List.map_cons,List.cons.injEq]at z;simp only[List.all_cons,Bool.and_eq_true]at C;simp only[z3T,Bool.and_eq_true]at E;obtain⟨⟨hf,hr⟩,D⟩:=E;simp only[wpQuiet]at h;by_cases hw:Region.wanted o (yielded ops a.tmps)=true
   ·rw[if_pos hw]at h;obtain⟨v,hv,hk⟩:=h;refine wpAnyH_take (i:=i) (oi:=o) (v:=v) z.1 hs hf hr (fun c a w=>hQ c a _ _ w) (Or.inl ⟨hw,fun u hu=>?_⟩) hS (ih os _ _ w y z.2 C.2 D hS hk);have hq:=hv u hu;unfold Oper.quietAt at hq
    cases hrun:(execOp a.eval o).run P u with
    |ok n u'=>
     obtain⟨x,rfl⟩:=z4h C.1 hrun;rw[hrun]at hq;obtain⟨e1,e2⟩:=hq;rw[e1,e2]
    |halt x u'=>
     rw[hrun]at hq;exact hq.elim
   ·rw[if_neg hw]at h;have I:Region.wanted o (yielded ops a.tmps)=false:=by simpa using hw
    exact wpAnyH_take (i:=i) (oi:=o) (v:=undef) z.1 hs hf hr (fun c a w=>hQ c a _ _ w) (Or.inr ⟨I,rfl⟩) hS (ih os _ _ w y z.2 C.2 D hS h)
theorem z8V(hs:Region.noSelect ops=true)(hQ:∀c a d v w,Q (.panic c) (a.put d v) w→Q (.panic c) a w)(i:Nat)(d:Option Tmp){l:Array Bool}{a:Act}{w:World}{fuel:Nat}
  (hd:(ops[i]?).map (·.dst)=some d) (hok:z3T ops [i] l=true) (hw:(ops[i]?).map (fun o=>Region.wanted o (yielded ops a.tmps))=some false) (hS:S w)
  (h:wpAnyH P .any ops Q S fuel (z3f [i] l) (a.put d undef) w):wpAnyH P .any ops Q S (fuel+1) l a w:=by
 cases ho:ops[i]? with
 |none=>rw[ho]at hd;simp at hd
 |some o=>
  rw[ho]at hd hw;simp only[Option.map_some,Option.some.injEq]at hd hw;subst hd;simp only[z3T,Bool.and_eq_true,Bool.and_true]at hok;exact wpAnyH_take (i:=i) (oi:=o) (v:=undef) ho hs hok.1 hok.2 (fun c a w=>hQ c a _ _ w) (Or.inr ⟨hw,rfl⟩) hS h
theorem z8W(i:Nat)(d:Option Tmp)(f:Nat)(args:Array Value){l:Array Bool}{a:Act}{w:World}{fuel:Nat}
  (hd:(ops[i]?).map (·.dst)=some d) (hr:Region.ready .any ops l=[i]) (hw:(ops[i]?).map (fun o=>Region.wanted o (yielded ops a.tmps))=some true)
  (hrun:(ops[i]?).map (fun o=>(execOp a.eval o).run P w)=some (.ok (.enter f args) w))
  (hc:Calls P f args w (fun e w'=>∃v,e=.returned v∧S w'∧wpAnyH P .any ops Q S fuel (z3f [i] l) (a.put d v) w')):wpAnyH P .any ops Q S (fuel+1) l a w:=by
 cases ho:ops[i]? with
 |none=>rw[ho]at hd;simp at hd
 |some o=>
  rw[ho]at hd hw hrun;simp only[Option.map_some,Option.some.injEq]at hd hw hrun;subst hd;refine wpAnyH_all hr (by simp) (fun j hj=>?_);simp only[List.mem_singleton]at hj;subst hj;unfold wpOp;simp only[ho,hw,if_true];refine .inl ?_;unfold Oper.wp;rw[hrun];simp only[Oper.upon];refine hc.mono fun e w' he=>?_
  obtain⟨v,rfl,h1,h2⟩:=he;exact⟨h1,h2⟩
theorem z4i(rs:List (Nat × Nat))(fuel:Nat){F:Nat}{l:Array Bool}{a:Act}{w:World}(hF:F=fuel+(z6s rs).length)(hs:Region.noSelect ops=true)(hm:(z6s rs).map (ops[·]?)=(z2A ops.toList rs).map some)
  (hp:(z2A ops.toList rs).all (fun o=>z3A o.op)=true) (hok:z3T ops (z6s rs) l=true) (hS:S w)
  (h:wpQuiet P ops S (fun a'=>wpAnyH P .any ops (NoPanic Q) S fuel (z3f (z6s rs) l) a' w) (z2A ops.toList rs) a):wpAnyH P .any ops (NoPanic Q) S F l a w:=by
 subst hF;exact z9U hs (fun _ _ _ _ _ h=>h) (z6s rs) _ l a w fuel hm hp hok hS h
theorem q2O(i:Nat)(d:Option Tmp)(fuel:Nat){F:Nat}{l:Array Bool}{a:Act}{w:World}(hF:F=fuel+1)(hs:Region.noSelect ops=true)
  (hd:(ops[i]?).map (·.dst)=some d) (hok:z3T ops [i] l=true) (hw:(ops[i]?).map (fun o=>Region.wanted o (yielded ops a.tmps))=some false) (hS:S w)
  (h:wpAnyH P .any ops (NoPanic Q) S fuel (z3f [i] l) (a.put d undef) w):wpAnyH P .any ops (NoPanic Q) S F l a w:=by
 subst hF;exact z8V hs (fun _ _ _ _ _ h=>h) i d hd hok hw hS h
theorem z9V(i:Nat)(d:Option Tmp)(f:Nat)(args:Array Value)(fuel:Nat){F:Nat}{l:Array Bool}{a:Act}{w:World}(hF:F=fuel+1)
  (hd:(ops[i]?).map (·.dst)=some d) (hr:Region.ready .any ops l=[i]) (hw:(ops[i]?).map (fun o=>Region.wanted o (yielded ops a.tmps))=some true)
  (hrun:(ops[i]?).map (fun o=>(execOp a.eval o).run P w)=some (.ok (.enter f args) w))
  (hc:Calls P f args w (fun e w'=>∃v,e=.returned v∧S w'∧wpAnyH P .any ops (NoPanic Q) S fuel (z3f [i] l) (a.put d v) w')):wpAnyH P .any ops (NoPanic Q) S F l a w:=by
 subst hF;exact z8W i d f args hd hr hw hrun hc
theorem sgr(rs:List (Nat × Nat))(fuel:Nat){F:Nat}{l:Array Bool}{a:Act}{w:World}(h5:(F,Region.noSelect ops,(z6s rs).map (ops[·]?),(z2A ops.toList rs).all (fun o=>z3A o.op),z3T ops (z6s rs) l)=(fuel+(z6s rs).length,true,(z2A ops.toList rs).map some,true,true))(hS:S w)
  (h:wpQuiet P ops S (fun a'=>wpAnyH P .any ops (NoPanic Q) S fuel (z3f (z6s rs) l) a' w) (z2A ops.toList rs) a):wpAnyH P .any ops (NoPanic Q) S F l a w:=by
 simp only[Prod.mk.injEq]at h5;exact z4i rs fuel h5.1 h5.2.1 h5.2.2.1 h5.2.2.2.1 h5.2.2.2.2 hS h
theorem ska(i:Nat)(d:Option Tmp)(fuel:Nat){F:Nat}{l:Array Bool}{a:Act}{w:World}(h5:(F,Region.noSelect ops,(ops[i]?).map (·.dst),z3T ops [i] l,(ops[i]?).map (fun o=>Region.wanted o (yielded ops a.tmps)))=(fuel+1,true,some d,true,some false))(hS:S w)
  (h:wpAnyH P .any ops (NoPanic Q) S fuel (z3f [i] l) (a.put d undef) w):wpAnyH P .any ops (NoPanic Q) S F l a w:=by
 simp only[Prod.mk.injEq]at h5;exact q2O i d fuel h5.1 h5.2.1 h5.2.2.1 h5.2.2.2.1 h5.2.2.2.2 hS h
theorem cla(i:Nat)(d:Option Tmp)(f:Nat)(args:Array Value)(fuel:Nat){F:Nat}{l:Array Bool}{a:Act}{w:World}(h5:(F,(ops[i]?).map (·.dst),Region.ready .any ops l,(ops[i]?).map (fun o=>Region.wanted o (yielded ops a.tmps)),(ops[i]?).map (fun o=>(execOp a.eval o).run P w))=(fuel+1,some d,[i],some true,some (.ok (.enter f args) w)))
  (hc:Calls P f args w (fun e w'=>∃v,e=.returned v∧S w'∧wpAnyH P .any ops (NoPanic Q) S fuel (z3f [i] l) (a.put d v) w')):wpAnyH P .any ops (NoPanic Q) S F l a w:=by
 simp only[Prod.mk.injEq]at h5;exact z9V i d f args fuel h5.1 h5.2.1 h5.2.2.1 h5.2.2.2.1 h5.2.2.2.2 hc
def ThenGo(Q:Exit→Act→World→Prop)(K:Act→World→Prop):Exit→Act→World→Prop
 | .normal,a,w=>K a w
 |e,a,w=>NoPanic Q e a w
theorem ThenGo.to{K:Act→World→Prop}{a:Act}{w:World}(h:K a w):ThenGo Q K .normal a w:=h
theorem q3N(i:Nat)(o:Oper)(fuel:Nat){F:Nat}{l:Array Bool}{a:Act}{w:World}(hF:F=fuel+1)(ho:ops[i]?=some o)(hr:Region.ready .any ops l=[i])
  (h:wpList P ops (ThenGo Q (fun a' w'=>S w'∧wpAnyH P .any ops (NoPanic Q) S fuel (z3f [i] l) a' w')) [o] a w):wpAnyH P .any ops (NoPanic Q) S F l a w:=by
 subst hF;refine wpAnyH_all hr (by simp) (fun j hj=>?_);simp only[List.mem_singleton]at hj;subst hj;unfold wpOp;simp only[ho];simp only[wpList]at h;split at h
 ·rename_i hw
  rw[if_pos hw];rcases h with h|⟨h1,h2⟩
  ·left;unfold Oper.wp at h⊢;revert h;generalize (execOp a.eval o).run P w=r;intro h;unfold Oper.upon at h⊢;split at h
   ·exact h
   ·exact h
   ·exact h
   ·refine Calls.mono h fun e w' he=>?_
    cases e<;>exact he
   ·exact h
   ·exact h
   ·exact h
  ·exact Or.inr ⟨h1,h2⟩
 ·rename_i hw
  rw[if_neg hw];exact h
theorem ona(i:Nat){o:Oper}(fuel:Nat){F:Nat}{l:Array Bool}{a:Act}{w:World}(ho:ops[i]?=some o)(h2:(F,Region.ready .any ops l)=(fuel+1,[i]))
  (h:wpList P ops (ThenGo Q (fun a' w'=>S w'∧wpAnyH P .any ops (NoPanic Q) S fuel (z3f [i] l) a' w')) [o] a w):wpAnyH P .any ops (NoPanic Q) S F l a w:=by
 simp only[Prod.mk.injEq]at h2;exact q3N i o fuel h2.1 ho h2.2 h
theorem z0f{F:Nat}{l:Array Bool}{a:Act}{w:World}(hr:Region.ready .any ops l=[])(h:Q .normal a w):wpAnyH P .any ops (NoPanic Q) S F l a w:=wpAnyH_done hr (NoPanic.normal h) F
theorem z0b{id:Nat}{a:Act}{w:World}(hm:P.follows .mixedOrders=true)
  (h:wpAnyH P .any ops (NoPanic Q) S ops.size (Array.replicate ops.size false) a w.drew):(Code.region id ops true).wp P Q a w:=
 wp_region_noPanic (wp_region_held hm h)
theorem z7B:∀c a d v w,NoPanic Q (.panic c) (Act.put a d v) w→NoPanic Q (.panic c) a w:=fun _ _ _ _ _ h=>h
end
theorem z8X(k y v:Int)(w:World):
  Calls Tryz.prog 160 #[.agg #[.int .i64 k,.int .i64 y,.int .i64 v],.agg #[.int .i64 k,.int .i64 y,.int .i64 v]] w fun e w'=>e=.returned (.bool true)∧Below w.heap.size w w':=by
 have h0:(k !=k)=false:=by simp
 have h1:(y !=y)=false:=by simp
 have h2:(v !=v)=false:=by simp
 go_enter Tryz.func160,Tryz.ntmps160
 go_wp2
 go_ret;exact⟨rfl,by go_grown⟩
theorem z0a{w:World}{a:Addr}{v:Value}(h:w.cell? a=some v):∀u:Lat w,u.val.cell? a=some v:=fun u=>by
 rw[u.isBelow.cell (World.block_lt_of_cell? w a h)];exact h
theorem z7C(a a':Option Addr)(cap D:Nat)(zs:List ActD)(w:World)(h:ActRow w a zs)(h':ActRow w a' zs)(hl:zs.length≤1099511627776):
  Calls Tryz.prog 126 #[.slice a zs.length cap,.slice a' zs.length D] w fun e w'=>e=.returned (.bool true)∧Below w.heap.size w w':=by
 go_enter Tryz.func126,Tryz.ntmps126
 go_wp2
 go_loopw[5] (fun i wr=>∃k:Nat,k≤zs.length∧i=.int .i64 k∧Below w.heap.size w wr) (fun i _=>zs.length-(intOf i).toNat)
 case atStart=>exact⟨0,Nat.zero_le _,rfl,Below.refl _ _⟩
 case round=>
  obtain⟨k,hk,rfl,hb⟩:=hrel;by_cases I:k<zs.length
  ·obtain⟨b,O,rfl,N,c,d,x⟩:=(h.below hb).at k I;obtain⟨b',M,rfl,L,y,A,C⟩:=(h'.below hb).at k I;generalize zs.getD k z0e=z at c d x y A C;obtain⟨z0,z1,z2⟩:=z;have k0:=z0a c;have k1:=z0a d;have k2:=z0a x;have l0:=z0a y;have l1:=z0a A;have l2:=z0a C;clear c d x y A C;have hW:Below wr.heap.size wr wr.drew:=(Below.refl _ _).drew;have J:Nonempty (Lat wr):=⟨⟨wr,Below.refl _ _⟩⟩
   go_wp2_with fail
   refine z0b (S:=fun w'=>∃u:Lat wr,w'=u.val) (by kernel_rfl) ?_;refine z4i [(0,8)] 2 (by kernel_rfl) (by kernel_rfl) (by kernel_rfl) (by kernel_rfl) (by kernel_rfl) ⟨⟨_,hW⟩,rfl⟩ ?_;simp only[z2A,List.toList_toArray,List.flatMap_cons,List.flatMap_nil,List.drop_succ_cons,List.drop_zero,List.take_succ_cons,List.take_zero,List.cons_append,List.nil_append,List.append_nil];repeat go_big_quiet_step (fail)
   refine wpQuiet_nil ?_;refine z9V 8 (some 25) 160 #[.agg #[.int .i64 z0,.int .i64 z1,.int .i64 z2],.agg #[.int .i64 z0,.int .i64 z1,.int .i64 z2]] 1 (by kernel_rfl) (by kernel_rfl) (by kernel_rfl) (by kernel_rfl) (by kernel_rfl) ?_;refine(z8X _ _ _ _).mono ?_;rintro e w2 ⟨rfl,E⟩;replace hW:=hW.trans (E.mono hW.size);clear E;refine⟨_,rfl,⟨⟨_,hW⟩,rfl⟩,?_⟩;simp only[Act.put,List.setIfInBounds_toArray,List.set_cons_zero,List.set_cons_succ];refine z4i [(9,1)] 0 (by kernel_rfl) (by kernel_rfl) (by kernel_rfl) (by kernel_rfl) (by kernel_rfl) ⟨⟨_,hW⟩,rfl⟩ ?_;simp only[z2A,List.toList_toArray,List.flatMap_cons,List.flatMap_nil,List.drop_succ_cons,List.drop_zero,List.take_succ_cons,List.take_zero,List.cons_append,List.nil_append,List.append_nil];repeat go_big_quiet_step (fail)
   refine wpQuiet_nil ?_;refine z0f (by kernel_rfl) ?_;replace hb:=hb.trans (hW.mono hb.size);clear k0 k1 k2 l0 l1 l2 hW J
   go_wp2
   go_roundw
   case rel=>exact⟨k+1,by omega,by go_num,hb⟩
   case measure=>simp[intOf];omega
  ·go_wp2
   go_ret;exact⟨rfl,hb⟩
theorem z0o{w W w':World}(h:Below w.heap.size w W)(hb:Below W.heap.size W w'):Below w.heap.size w w':=h.trans (hb.mono h.size)
theorem z8Y(a:Option Addr)(n cap:Nat)(c:Int)(w:World)(hn:n≤9223372036854775807)(h0:0≤c)(h1:c≤1099511627776):
  Calls Tryz.prog 100 #[.slice a n cap,.int .i64 c] w fun e w'=>e=.returned (.int .i64 (if c-n<0 then -1 else c-n))∧w'=w:=by
 by_cases h:c-n<0
 ·rw[if_pos h];go_enter Tryz.func100,Tryz.ntmps100
  go_wp2
  go_ret;exact⟨rfl,rfl⟩
 ·rw[if_neg h];go_enter Tryz.func100,Tryz.ntmps100
  go_wp2
  go_ret;exact⟨rfl,rfl⟩
theorem z9W(i s q:Int)(a:Option Addr)(n cap:Nat)(c:Int)(w:World)(hn:n≤9223372036854775807)(h0:0≤c)(h1:c≤1099511627776):
  Calls Tryz.prog 75 #[.agg #[.int .i64 i,.int .i64 s,.int .i64 q,.slice a n cap],.int .i64 c] w fun e w'=>e=.returned (.int .i64 (if c-n<0 then -1 else c-n))∧Below w.heap.size w w':=by
 have hs:=fun w=>z8Y a n cap c w hn h0 h1
 by_cases h:c-n<0
 ·rw[if_pos h]at hs⊢;go_enter Tryz.func75,Tryz.ntmps75
  go_wp2_with (go_at_call 100;refine(hs _).mono ?_;rintro e w' ⟨rfl,rfl⟩)
  go_ret;exact⟨rfl,by go_grown⟩
 ·rw[if_neg h]at hs⊢;go_enter Tryz.func75,Tryz.ntmps75
  go_wp2_with (go_at_call 100;refine(hs _).mono ?_;rintro e w' ⟨rfl,rfl⟩)
  go_ret;exact⟨rfl,by go_grown⟩
theorem z9X(i s q:Int)(a:Option Addr)(cap:Nat)(zs:List ActD)(w:World)(h:ActRow w a zs)(hl:zs.length≤1048576):
  Calls Tryz.prog 87 #[.agg #[.int .i64 i,.int .i64 s,.int .i64 q,.slice a zs.length cap]] w fun e w'=>∃g c,e=.returned (.agg #[.int .i64 i,.int .i64 s,.int .i64 q,.slice (some ⟨g,0,none⟩) zs.length c])∧
   w'.ownsRow w.heap.size 118 3 (.slice (some ⟨g,0,none⟩) zs.length c) zs.length (z0q zs)∧Below w.heap.size w w':=by
 go_enter Tryz.func87,Tryz.ntmps87
 go_wp2_with (go_at_call 112;refine(z8U a cap zs _ (h.below (by go_grown)) hl).mono ?_;rintro e w' ⟨g,c,rfl,ho,hb⟩;obtain⟨hc,hf⟩:=q4x hb;have hz:w.heap.size+3≤w'.heap.size:=by have:=hb.size;simp at this;omega)
 simp only[World.size_alloc]at ho;refine bodyPost_ret (v:=.agg #[.int .i64 i,.int .i64 s,.int .i64 q,.slice (some ⟨g,0,none⟩) zs.length c]) (by simp[results,Tryz.results87,go_sem,hc]) rfl ⟨_,_,rfl,?_,?_⟩
 ·refine z0p (base:=w.heap.size+1+1+1) ?_ (by omega);repeat' (refine ownsRow_setCell_below ?_ (by dsimp only;omega) _)
  exact ho
 ·repeat' (refine Below.setCell ?_ (by dsimp only;omega) _)
  exact z0o (by go_grown) hb
theorem z8Z(i s q:Int)(a a':Option Addr)(cap cap':Nat)(zs:List ActD)(w:World)(h:ActRow w a zs)(h':ActRow w a' zs)(hl:zs.length≤1099511627776):
  Calls Tryz.prog 96 #[.agg #[.int .i64 i,.int .i64 s,.int .i64 q,.slice a zs.length cap],.agg #[.int .i64 i,.int .i64 s,.int .i64 q,.slice a' zs.length cap']] w fun e w'=>e=.returned (.bool true)∧Below w.heap.size w w':=by
 have h0:(i !=i)=false:=by simp
 have h1:(s !=s)=false:=by simp
 have h2:(q !=q)=false:=by simp
 go_enter Tryz.func96,Tryz.ntmps96
 go_wp2_with (go_at_call 126;refine(z7C a a' cap cap' zs _ (h.below (by go_grown)) (h'.below (by go_grown)) hl).mono ?_;rintro e w' ⟨rfl,hb⟩)
 go_ret;exact⟨rfl,z0o (by go_grown) hb⟩
def inW(n lo hi:Int):Bool:=decide (lo≤n) && decide (n≤hi)
def actF(x:ActD):Int:=
 if(inW x.kind 1 4=false)∨((x.kind==3)=true∧(x.val !=0)=true)then 1
 else if inW x.key 1 20=false∨inW x.val (-1000) 1000=false then 3 else 0
def z2q:List ActD→Int
 |[]=>0
 |x::r=>if actF x=0 then z2q r else actF x
def txnF(i s q:Int)(zs:List ActD):Int:=
 if inW i 1 200=false∨inW s 1 9=false∨inW q 1 99=false then 3
 else if zs.length<1∨4<zs.length then 2 else z2q zs
theorem z4j(zs:List ActD):∀k,(∀j,j<k→actF (zs.getD j z0e)=0)→k<zs.length→actF (zs.getD k z0e)≠0→z2q zs=actF (zs.getD k z0e):=by
 induction zs with
 |nil=>intro k _ h;simp at h
 |cons x r ih=>
  intro k h0 hk hne
  cases k with
  |zero=>simp[List.getD]at hne⊢;simp[z2q,hne]
  |succ k=>
   have hx:actF x=0:=by simpa[List.getD]using h0 0 (by omega)
   have:=ih k (fun j hj=>by simpa[List.getD]using h0 (j+1) (by omega)) (by simpa using hk) (by simpa[List.getD]using hne);simp only[z2q,hx,if_true];rw[this];simp[List.getD]
theorem z5p(zs:List ActD)(h:∀j,j<zs.length→actF (zs.getD j z0e)=0):z2q zs=0:=by
 induction zs with
 |nil=>rfl
 |cons x r ih=>
  have hx:actF x=0:=by simpa[List.getD]using h 0 (by simp)
  simp only[z2q,hx,if_true];exact ih (fun j hj=>by simpa[List.getD]using h (j+1) (by simpa using hj))
theorem z0E(n lo hi:Int)(w:World):
    Calls Tryz.prog 64 #[.int .i64 n,.int .i64 lo,.int .i64 hi] w fun e w'=>e=.returned (.bool (inW n lo hi))∧w'=w:=by
  unfold inW
  cases h1:decide (lo≤n)<;>cases h2:decide (n≤hi)<;>simp only[decide_eq_true_eq,decide_eq_false_iff_not]at h1 h2<;>
  (go_enter Tryz.func64,Tryz.ntmps64
   go_wp2
   go_ret;exact ⟨rfl,rfl⟩)
theorem z2K(n lo hi:Int)(w:World):
    Calls Tryz.prog 54 #[.int .i64 n,.int .i64 lo,.int .i64 hi] w fun e w'=>e=.returned (.bool (inW n lo hi))∧w'=w:=by
  unfold inW
  cases h1:decide (lo≤n)<;>cases h2:decide (n≤hi)<;>simp only[decide_eq_true_eq,decide_eq_false_iff_not]at h1 h2<;>
  (go_enter Tryz.func54,Tryz.ntmps54
   go_wp2
   go_ret;exact ⟨rfl,rfl⟩)
theorem z4k(k y v:Int):
  (inW k 1 4=false∧actF ⟨k,y,v⟩=1)∨(inW k 1 4=true∧(k==3)=true∧(v !=0)=true∧actF ⟨k,y,v⟩=1)∨
  (inW k 1 4=true∧(((k == 3)=true∧(v != 0)=false)∨(k == 3)=false) ∧
   ((inW y 1 20=false∧actF ⟨k,y,v⟩=3)∨(inW y 1 20=true∧inW v (-1000) 1000=false∧actF ⟨k,y,v⟩=3)∨(inW y 1 20=true∧inW v (-1000) 1000=true∧actF ⟨k,y,v⟩=0))):=by
 unfold actF
 cases h1:inW k 1 4<;>cases h2:(k==3)<;>cases h3:(v !=0)<;>cases h4:inW y 1 20<;>cases h5:inW v (-1000) 1000<;>simp[h1,h2,h3,h4,h5]
theorem z3B(k y v:Int)(w:World):
    Calls Tryz.prog 204 #[.agg #[.int .i64 k,.int .i64 y,.int .i64 v]] w fun e w'=>e=.returned (.int .i64 (actF ⟨k,y,v⟩))∧Below w.heap.size w w':=by
  rcases z4k k y v with⟨h1,h⟩|⟨h1,h2,h3,h⟩|⟨h1,⟨h2,h3⟩|h2,⟨h4,h⟩|⟨h4,h5,h⟩|⟨h4,h5,h⟩⟩<;>rw[h]<;>clear h<;>
  (go_enter Tryz.func204,Tryz.ntmps204
   go_wp2_with (go_at_call 64;refine(z0E _ _ _ _).mono ?_;rintro e w' ⟨rfl,rfl⟩)
   go_ret;exact ⟨rfl,by go_grown⟩)
theorem z6w(b o:Nat)(k y v:Int)(w:World)(h0:w.cell? ⟨b,o,none⟩=some (.int .i64 k))(h1:w.cell? ⟨b,o+1,none⟩=some (.int .i64 y))(h2:w.cell? ⟨b,o+2,none⟩=some (.int .i64 v)):
    Calls Tryz.prog 133 #[.pointer (some ⟨b,o,none⟩)] w fun e w'=>e=.returned (.int .i64 (actF ⟨k,y,v⟩))∧w'=w:=by
  rcases z4k k y v with⟨h1,h⟩|⟨h1,h2,h3,h⟩|⟨h1,⟨h2,h3⟩|h2,⟨h4,h⟩|⟨h4,h5,h⟩|⟨h4,h5,h⟩⟩<;>rw[h]<;>clear h<;>
  (go_enter Tryz.func133,Tryz.ntmps133
   go_wp2_with (go_at_call 54;refine(z2K _ _ _ _).mono ?_;rintro e w' ⟨rfl,rfl⟩)
   go_ret;exact ⟨rfl,rfl⟩)
theorem z4l(i s q:Int)(zs:List ActD):
  (inW i 1 200=false∧txnF i s q zs=3)∨(inW i 1 200=true∧inW s 1 9=false∧txnF i s q zs=3)∨(inW i 1 200=true∧inW s 1 9=true∧inW q 1 99=false∧txnF i s q zs=3)∨
  (inW i 1 200=true∧inW s 1 9=true∧inW q 1 99=true∧((zs.length<1∧txnF i s q zs=2)∨(4<zs.length∧txnF i s q zs=2)∨(¬zs.length<1∧¬4<zs.length∧txnF i s q zs=z2q zs))):=by
 unfold txnF
 cases h1:inW i 1 200<;>cases h2:inW s 1 9<;>cases h3:inW q 1 99<;>simp only[Bool.false_eq_true,Bool.true_eq_false,reduceCtorEq,if_true,if_false,false_or,or_false,true_or,or_true,false_and,true_and,and_true,and_false]
 by_cases h4:zs.length<1<;>by_cases h5:4<zs.length<;>simp only[h4,h5,if_true,if_false,or_true,true_or,or_false,false_or,not_true_eq_false,not_false_eq_true,false_and,true_and,and_self]
theorem z11(i s q:Int)(a:Option Addr)(cap:Nat)(zs:List ActD)(w:World)(h:ActRow w a zs)(hl:zs.length≤1048576):
    Calls Tryz.prog 191 #[.agg #[.int .i64 i,.int .i64 s,.int .i64 q,.slice a zs.length cap]] w fun e w'=>e=.returned (.int .i64 (txnF i s q zs))∧Below w.heap.size w w':=by
  rcases z4l i s q zs with⟨h1,h⟩|⟨h1,h2,h⟩|⟨h1,h2,h3,h⟩|⟨h1,h2,h3,⟨h4,h⟩|⟨h4,h⟩|⟨h4,h5,hf⟩⟩
  all_goals try
    (rw [h];clear h
     go_enter Tryz.func191,Tryz.ntmps191
     go_wp2_with (go_at_call 64;refine(z0E _ _ _ _).mono ?_;rintro e w' ⟨rfl,rfl⟩)
     go_ret;exact ⟨rfl,by go_grown⟩)
  rw[hf];clear hf;go_enter Tryz.func191,Tryz.ntmps191
  go_wp2_with (go_at_call 64;refine(z0E _ _ _ _).mono ?_;rintro e w' ⟨rfl,rfl⟩)
  go_loopw[35] (fun j wr=>∃k:Nat,k≤zs.length∧j=.int .i64 k∧Below w.heap.size w wr∧Hid (∀j,j<k→actF (zs.getD j z0e)=0)) (fun j _=>zs.length-(intOf j).toNat)
  case atStart=>exact⟨0,Nat.zero_le _,rfl,by go_grown,fun j hj=>absurd hj (Nat.not_lt_zero _)⟩
  case round=>
    obtain⟨k,hk,rfl,hb,HA⟩:=hrel;by_cases C:k<zs.length
    · obtain⟨b,N,rfl,L,x,y,A⟩:=(h.below hb).at k C;have M:=hb.size;by_cases hF:actF (zs.getD k z0e)=0
      · have HB:Hid (∀j,j<k+1→actF (zs.getD j z0e)=0):=by
          intro j hj;by_cases D:j=k
          · subst D;exact hF
          · exact HA.out j (by omega)
        have c:=z3B (zs.getD k z0e).kind (zs.getD k z0e).key (zs.getD k z0e).val;rw[show actF ⟨(zs.getD k z0e).kind,(zs.getD k z0e).key,(zs.getD k z0e).val⟩=0 from hF]at c;clear HA hF;generalize zs.getD k z0e=z at x y A c
        go_wp2_with (go_at_call 204;refine(c _).mono ?_;rintro e w' ⟨rfl,d⟩)
        go_roundw
        case rel=>exact⟨k+1,by omega,by go_num,z0o (by go_grown) d,HB⟩
        case measure=>simp[intOf];omega
      · have E:Hid (z2q zs=actF (zs.getD k z0e)):=z4j zs k HA.out C hF;have c:=z3B (zs.getD k z0e).kind (zs.getD k z0e).key (zs.getD k z0e).val;have J:(actF (zs.getD k z0e) !=0)=true:=by simpa using hF
        change∀w,Calls _ _ _ w fun e w'=>e=.returned (.int .i64 (actF (zs.getD k z0e)))∧_ at c
        clear HA hF;generalize actF (zs.getD k z0e)=r at c E J;generalize zs.getD k z0e=z at x y A c
        go_wp2_with (go_at_call 204;refine(c _).mono ?_;rintro e w' ⟨rfl,d⟩)
        go_ret;rw[E.out];exact⟨rfl,z0o (by go_grown) d⟩
    · have I:k=zs.length:=by omega
      subst I;have E:Hid (z2q zs=0):=z5p zs HA.out;clear HA
      go_wp2
      go_ret;rw[E.out];exact⟨rfl,hb⟩
structure Box4 (w:World) (b o:Nat) (x0 x1 x2 x3:Value):Prop where
 c0:w.cell? ⟨b,o,none⟩=some x0
 c1:w.cell? ⟨b,o+1,none⟩=some x1
 c2:w.cell? ⟨b,o+2,none⟩=some x2
 c3:w.cell? ⟨b,o+3,none⟩=some x3
theorem Box4.below{w w':World}{b o:Nat}{x0 x1 x2 x3:Value}(h:Box4 w b o x0 x1 x2 x3)(hb:Below w.heap.size w w'):Box4 w' b o x0 x1 x2 x3:=by
 have hlt:b<w.heap.size:=World.block_lt_of_cell? w ⟨b,o,none⟩ h.c0;exact⟨by rw[hb.cell (p:=⟨b,o,none⟩) hlt];exact h.c0,by rw[hb.cell (p:=⟨b,o+1,none⟩) hlt];exact h.c1,by rw[hb.cell (p:=⟨b,o+2,none⟩) hlt];exact h.c2,by rw[hb.cell (p:=⟨b,o+3,none⟩) hlt];exact h.c3⟩
theorem z4m(b o:Nat)(i s q:Int)(a:Option Addr)(cap:Nat)(zs:List ActD)(w:World)(hB:Box4 w b o (.int .i64 i) (.int .i64 s) (.int .i64 q) (.slice a zs.length cap))(h:ActRow w a zs)(hl:zs.length≤1048576):
    Calls Tryz.prog 107 #[.pointer (some ⟨b,o,none⟩)] w fun e w'=>e=.returned (.int .i64 (txnF i s q zs))∧w'=w:=by
  obtain⟨b0,b1,b2,b3⟩:=hB;rcases z4l i s q zs with⟨h1,h⟩|⟨h1,h2,h⟩|⟨h1,h2,h3,h⟩|⟨h1,h2,h3,⟨h4,h⟩|⟨h4,h⟩|⟨h4,h5,hf⟩⟩
  all_goals try
    (rw [h];clear h
     go_enter Tryz.func107,Tryz.ntmps107
     go_wp2_with (go_at_call 54;refine(z2K _ _ _ _).mono ?_;rintro e w' ⟨rfl,rfl⟩)
     go_ret;exact ⟨rfl,rfl⟩)
  rw[hf];clear hf;go_enter Tryz.func107,Tryz.ntmps107
  go_wp2_with (go_at_call 54;refine(z2K _ _ _ _).mono ?_;rintro e w' ⟨rfl,rfl⟩)
  clear b0 b1 b2
  go_loop[3] (fun j=>∃k:Nat,k≤zs.length∧j=.int .i64 k∧Hid (∀j,j<k→actF (zs.getD j z0e)=0)) (fun j=>zs.length-(intOf j).toNat)
  case atStart=>exact⟨0,Nat.zero_le _,rfl,fun j hj=>absurd hj (Nat.not_lt_zero _)⟩
  case round=>
    obtain⟨k,hk,rfl,HA⟩:=hrel;by_cases z:k<zs.length
    · obtain⟨b',A,rfl,J,d,x,y⟩:=h.at k z;by_cases hF:actF (zs.getD k z0e)=0
      · have HB:Hid (∀j,j<k+1→actF (zs.getD j z0e)=0):=by
          intro j hj;by_cases C:j=k
          · subst C;exact hF
          · exact HA.out j (by omega)
        have c:=z6w b' (A+k*3) (zs.getD k z0e).kind (zs.getD k z0e).key (zs.getD k z0e).val _ d x y;rw[show actF ⟨(zs.getD k z0e).kind,(zs.getD k z0e).key,(zs.getD k z0e).val⟩=0 from hF]at c;clear HA hF d x y
        go_wp2_with (go_at_call 133;refine c.mono ?_;rintro e w' ⟨rfl,rfl⟩)
        go_round
        case rel=>exact⟨k+1,by omega,by go_num,HB⟩
        case measure=>simp[intOf];omega
      · have E:Hid (z2q zs=actF (zs.getD k z0e)):=z4j zs k HA.out z hF;have c:=z6w b' (A+k*3) (zs.getD k z0e).kind (zs.getD k z0e).key (zs.getD k z0e).val _ d x y;have I:(actF (zs.getD k z0e) !=0)=true:=by simpa using hF
        change Calls _ _ _ _ fun e w'=>e=.returned (.int .i64 (actF (zs.getD k z0e)))∧_ at c
        clear HA hF d x y;generalize actF (zs.getD k z0e)=r at c E I
        go_wp2_with (go_at_call 133;refine c.mono ?_;rintro e w' ⟨rfl,rfl⟩)
        go_ret;rw[E.out];exact⟨rfl,rfl⟩
    · have D:k=zs.length:=by omega
      subst D;have E:Hid (z2q zs=0):=z5p zs HA.out;clear HA
      go_wp2
      go_ret;rw[E.out];exact⟨rfl,rfl⟩
theorem Box4.zero{w:World}{b:Nat}{x0 x1 x2 x3:Value}(h:Box4 w b 0 x0 x1 x2 x3):w.cell? ⟨b,0,none⟩=some x0∧w.cell? ⟨b,1,none⟩=some x1∧w.cell? ⟨b,2,none⟩=some x2∧w.cell? ⟨b,3,none⟩=some x3:=
 ⟨h.c0,by simpa using h.c1,by simpa using h.c2,by simpa using h.c3⟩
theorem Box4.lat{w:World}{b:Nat}{x0 x1 x2 x3:Value}(h:Box4 w b 0 x0 x1 x2 x3):(∀u:Lat w,u.val.cell? ⟨b,0,none⟩=some x0)∧(∀u:Lat w,u.val.cell? ⟨b,1,none⟩=some x1)∧(∀u:Lat w,u.val.cell? ⟨b,2,none⟩=some x2)∧(∀u:Lat w,u.val.cell? ⟨b,3,none⟩=some x3):=
 ⟨z0a h.zero.1,z0a h.zero.2.1,z0a h.zero.2.2.1,z0a h.zero.2.2.2⟩
def Blk(w:World)(b:Nat)(t:TypeId)(cs:Array Value):Prop:=w.heap[b]?=some (.cells cs t (0,0))
theorem Blk.lt{w:World}{b:Nat}{t:TypeId}{cs:Array Value}(h:Blk w b t cs):b<w.heap.size:=(Array.getElem?_eq_some_iff.1 h).1
theorem Blk.new(w:World)(t:TypeId)(cs:Array Value):Blk (w.alloc (.cells cs t)) w.heap.size t cs:=by
 show(w.heap.push _)[w.heap.size]?=_;simp
theorem Blk.below{w w':World}{b:Nat}{t:TypeId}{cs:Array Value}(h:Blk w b t cs)(hb:Below w.heap.size w w'):Blk w' b t cs:=(hb.block b h.lt).trans h
theorem Blk.grown{w w':World}{b:Nat}{t:TypeId}{cs:Array Value}{row:Option Nat}(h:Blk w b t cs)(hg:w.grownBy w' row)(hne:some b≠row):Blk w' b t cs:=(hg.block b h.lt hne).trans h
theorem Blk.cell{w:World}{b:Nat}{t:TypeId}{cs:Array Value}(h:Blk w b t cs)(j:Nat)(x:Value)(hx:cs[j]?=some x):w.cell? ⟨b,j,none⟩=some x:=by
 unfold Blk at h;simp[World.cell?,h,hx]
theorem Blk.frozen{w:World}{b:Nat}{t:TypeId}{cs:Array Value}(h:Blk w b t cs)(j:Nat):w.frozen? ⟨b,j,none⟩=false:=by
 unfold Blk at h;simp[World.frozen?,h]
theorem Blk.lat{w:World}{b:Nat}{t:TypeId}{cs:Array Value}(h:Blk w b t cs)(j:Nat)(x:Value)(hx:cs[j]?=some x):∀u:Lat w,u.val.cell? ⟨b,j,none⟩=some x:=z0a (h.cell j x hx)
structure Only (lo hi:Nat) (w w':World):Prop where
 os:w'.os=w.os
 tape:w'.tape=w.tape
 output:w'.output=w.output
 size:w.heap.size≤w'.heap.size
 block:∀k,k<w.heap.size→(k<lo∨hi≤k)→w'.heap[k]?=w.heap[k]?
theorem z2L{w w':World}{row:Option Nat}{lo hi:Nat}(hg:w.grownBy w' row)(h:∀g,row=some g→lo≤g∧g<hi):Only lo hi w w':=
 ⟨hg.os,hg.tape,hg.output,hg.size,fun k hk hc=>hg.block k hk (fun e=>by have:=h k e.symm;omega)⟩
theorem Only.refl(lo hi:Nat)(w:World):Only lo hi w w:=⟨rfl,rfl,rfl,Nat.le_refl _,fun _ _ _=>rfl⟩
theorem Only.trans{lo hi:Nat}{a b c:World}(h:Only lo hi a b)(k:Only lo hi b c):Only lo hi a c:=
 ⟨k.os.trans h.os,k.tape.trans h.tape,k.output.trans h.output,Nat.le_trans h.size k.size,fun i hi hc=>(k.block i (Nat.lt_of_lt_of_le hi h.size) hc).trans (h.block i hi hc)⟩
theorem Only.of_below{lo hi:Nat}{w w':World}(h:Below w.heap.size w w'):Only lo hi w w':=⟨h.os,h.tape,h.output,h.size,fun k hk _=>h.block k hk⟩
theorem z3g{B lo hi:Nat}{a w w':World}(h:Below B a w)(ho:Only lo hi w w')(hB:B≤lo)(hs:B≤w.heap.size):Below B a w':=
 ⟨ho.os.trans h.os,ho.tape.trans h.tape,ho.output.trans h.output,Nat.le_trans h.size ho.size,fun k hk=>(ho.block k (by omega) (Or.inl (by omega))).trans (h.block k hk)⟩
theorem z1G{w w':World}{lo hi base e size n:Nat}{v:Value}{xs:List Value}(h:w.ownsRow base e size v n xs)(ho:Only lo hi w w')(hb:hi≤base):w'.ownsRow base e size v n xs:=by
 refine⟨h.1,?_⟩;rcases h.2 with h2|⟨g,cap,cur,hv,hg,hh,r⟩
 ·exact Or.inl h2
 ·exact Or.inr ⟨g,cap,cur,hv,hg,by rw[ho.block g (Array.getElem?_eq_some_iff.1 hh).1 (Or.inr (by omega))];exact hh,r⟩
theorem z5q{w w':World}{base base' e e' n n' s s':Nat}{v v':Value}{xs xs':List Value}(h:w.ownsRow base e s v n xs)(h':w'.ownsRow base' e' s' v' n' xs')(hb:w.heap.size≤base'):v.ownBlock=none∨v.ownBlock≠v'.ownBlock:=by
 cases hv:v.ownBlock with
 |none=>exact Or.inl rfl
 |some g=>
  right;intro e;have h1:=(h.lt g hv).2;have h2:=(h'.lt g e.symm).1;omega
theorem z7D{w w':World}{base base' e e' n n' s s':Nat}{v v':Value}{xs xs':List Value}(h:w.ownsRow base e s v n xs)(h':w'.ownsRow base' e' s' v' n' xs')(hb:w.heap.size≤base'):v'.ownBlock=none∨v'.ownBlock≠v.ownBlock:=by
 rcases z5q h h' hb with e|e
 ·cases hv:v'.ownBlock with
  |none=>exact Or.inl rfl
  |some g=>right;rw[e];simp
 ·exact Or.inr (fun k=>e k.symm)
theorem z8m{w:World}{base e n b s:Nat}{v:Value}{xs:List Value}(h:w.ownsRow base e s v n xs)(hb:b<base∨w.heap.size≤b):some b≠v.ownBlock:=by
 intro e;have h1:=h.lt b e.symm;omega
theorem Blk.cel2{w:World}{b:Nat}{t:TypeId}{x0 x1:Value}{r:List Value}(h:Blk w b t (x0::x1::r).toArray):w.cell? ⟨b,0,none⟩=some x0∧w.cell? ⟨b,1,none⟩=some x1:=
 ⟨h.cell 0 _ rfl,h.cell 1 _ rfl⟩
theorem Blk.lts2{w:World}{b:Nat}{t:TypeId}{x0 x1:Value}{r:List Value}(h:Blk w b t (x0::x1::r).toArray):(∀u:Lat w,u.val.cell? ⟨b,0,none⟩=some x0)∧(∀u:Lat w,u.val.cell? ⟨b,1,none⟩=some x1):=
 ⟨h.lat 0 _ rfl,h.lat 1 _ rfl⟩
theorem Blk.frz2{w:World}{b:Nat}{t:TypeId}{cs:Array Value}(h:Blk w b t cs):w.frozen? ⟨b,0,none⟩=false∧w.frozen? ⟨b,1,none⟩=false:=
 ⟨h.frozen 0,h.frozen 1⟩
theorem Blk.cel3{w:World}{b:Nat}{t:TypeId}{x0 x1 x2:Value}{r:List Value}(h:Blk w b t (x0::x1::x2::r).toArray):w.cell? ⟨b,0,none⟩=some x0∧w.cell? ⟨b,1,none⟩=some x1∧w.cell? ⟨b,2,none⟩=some x2:=
 ⟨h.cell 0 _ rfl,h.cell 1 _ rfl,h.cell 2 _ rfl⟩
theorem Blk.frz3{w:World}{b:Nat}{t:TypeId}{cs:Array Value}(h:Blk w b t cs):w.frozen? ⟨b,0,none⟩=false∧w.frozen? ⟨b,1,none⟩=false∧w.frozen? ⟨b,2,none⟩=false:=
 ⟨h.frozen 0,h.frozen 1,h.frozen 2⟩
theorem Blk.cel4{w:World}{b:Nat}{t:TypeId}{x0 x1 x2 x3:Value}{r:List Value}(h:Blk w b t (x0::x1::x2::x3::r).toArray):w.cell? ⟨b,0,none⟩=some x0∧w.cell? ⟨b,1,none⟩=some x1∧w.cell? ⟨b,2,none⟩=some x2∧w.cell? ⟨b,3,none⟩=some x3:=
 ⟨h.cell 0 _ rfl,h.cell 1 _ rfl,h.cell 2 _ rfl,h.cell 3 _ rfl⟩
theorem Blk.lts4{w:World}{b:Nat}{t:TypeId}{x0 x1 x2 x3:Value}{r:List Value}(h:Blk w b t (x0::x1::x2::x3::r).toArray):(∀u:Lat w,u.val.cell? ⟨b,0,none⟩=some x0)∧(∀u:Lat w,u.val.cell? ⟨b,1,none⟩=some x1)∧(∀u:Lat w,u.val.cell? ⟨b,2,none⟩=some x2)∧(∀u:Lat w,u.val.cell? ⟨b,3,none⟩=some x3):=
 ⟨h.lat 0 _ rfl,h.lat 1 _ rfl,h.lat 2 _ rfl,h.lat 3 _ rfl⟩
theorem Blk.frz4{w:World}{b:Nat}{t:TypeId}{cs:Array Value}(h:Blk w b t cs):w.frozen? ⟨b,0,none⟩=false∧w.frozen? ⟨b,1,none⟩=false∧w.frozen? ⟨b,2,none⟩=false∧w.frozen? ⟨b,3,none⟩=false:=
 ⟨h.frozen 0,h.frozen 1,h.frozen 2,h.frozen 3⟩
theorem Blk.cel5{w:World}{b:Nat}{t:TypeId}{x0 x1 x2 x3 x4:Value}{r:List Value}(h:Blk w b t (x0::x1::x2::x3::x4::r).toArray):w.cell? ⟨b,0,none⟩=some x0∧w.cell? ⟨b,1,none⟩=some x1∧w.cell? ⟨b,2,none⟩=some x2∧w.cell? ⟨b,3,none⟩=some x3∧w.cell? ⟨b,4,none⟩=some x4:=
 ⟨h.cell 0 _ rfl,h.cell 1 _ rfl,h.cell 2 _ rfl,h.cell 3 _ rfl,h.cell 4 _ rfl⟩
theorem Blk.lts5{w:World}{b:Nat}{t:TypeId}{x0 x1 x2 x3 x4:Value}{r:List Value}(h:Blk w b t (x0::x1::x2::x3::x4::r).toArray):(∀u:Lat w,u.val.cell? ⟨b,0,none⟩=some x0)∧(∀u:Lat w,u.val.cell? ⟨b,1,none⟩=some x1)∧(∀u:Lat w,u.val.cell? ⟨b,2,none⟩=some x2)∧(∀u:Lat w,u.val.cell? ⟨b,3,none⟩=some x3)∧(∀u:Lat w,u.val.cell? ⟨b,4,none⟩=some x4):=
 ⟨h.lat 0 _ rfl,h.lat 1 _ rfl,h.lat 2 _ rfl,h.lat 3 _ rfl,h.lat 4 _ rfl⟩
theorem Blk.frz5{w:World}{b:Nat}{t:TypeId}{cs:Array Value}(h:Blk w b t cs):w.frozen? ⟨b,0,none⟩=false∧w.frozen? ⟨b,1,none⟩=false∧w.frozen? ⟨b,2,none⟩=false∧w.frozen? ⟨b,3,none⟩=false∧w.frozen? ⟨b,4,none⟩=false:=
 ⟨h.frozen 0,h.frozen 1,h.frozen 2,h.frozen 3,h.frozen 4⟩
theorem Blk.cel6{w:World}{b:Nat}{t:TypeId}{x0 x1 x2 x3 x4 x5:Value}{r:List Value}(h:Blk w b t (x0::x1::x2::x3::x4::x5::r).toArray):w.cell? ⟨b,0,none⟩=some x0∧w.cell? ⟨b,1,none⟩=some x1∧w.cell? ⟨b,2,none⟩=some x2∧w.cell? ⟨b,3,none⟩=some x3∧w.cell? ⟨b,4,none⟩=some x4∧w.cell? ⟨b,5,none⟩=some x5:=
 ⟨h.cell 0 _ rfl,h.cell 1 _ rfl,h.cell 2 _ rfl,h.cell 3 _ rfl,h.cell 4 _ rfl,h.cell 5 _ rfl⟩
theorem Blk.cel7{w:World}{b:Nat}{t:TypeId}{x0 x1 x2 x3 x4 x5 x6:Value}{r:List Value}(h:Blk w b t (x0::x1::x2::x3::x4::x5::x6::r).toArray):w.cell? ⟨b,0,none⟩=some x0∧w.cell? ⟨b,1,none⟩=some x1∧w.cell? ⟨b,2,none⟩=some x2∧w.cell? ⟨b,3,none⟩=some x3∧w.cell? ⟨b,4,none⟩=some x4∧w.cell? ⟨b,5,none⟩=some x5∧w.cell? ⟨b,6,none⟩=some x6:=
 ⟨h.cell 0 _ rfl,h.cell 1 _ rfl,h.cell 2 _ rfl,h.cell 3 _ rfl,h.cell 4 _ rfl,h.cell 5 _ rfl,h.cell 6 _ rfl⟩
theorem Blk.lts7{w:World}{b:Nat}{t:TypeId}{x0 x1 x2 x3 x4 x5 x6:Value}{r:List Value}(h:Blk w b t (x0::x1::x2::x3::x4::x5::x6::r).toArray):(∀u:Lat w,u.val.cell? ⟨b,0,none⟩=some x0)∧(∀u:Lat w,u.val.cell? ⟨b,1,none⟩=some x1)∧(∀u:Lat w,u.val.cell? ⟨b,2,none⟩=some x2)∧(∀u:Lat w,u.val.cell? ⟨b,3,none⟩=some x3)∧(∀u:Lat w,u.val.cell? ⟨b,4,none⟩=some x4)∧(∀u:Lat w,u.val.cell? ⟨b,5,none⟩=some x5)∧(∀u:Lat w,u.val.cell? ⟨b,6,none⟩=some x6):=
 ⟨h.lat 0 _ rfl,h.lat 1 _ rfl,h.lat 2 _ rfl,h.lat 3 _ rfl,h.lat 4 _ rfl,h.lat 5 _ rfl,h.lat 6 _ rfl⟩
theorem Blk.frz7{w:World}{b:Nat}{t:TypeId}{cs:Array Value}(h:Blk w b t cs):w.frozen? ⟨b,0,none⟩=false∧w.frozen? ⟨b,1,none⟩=false∧w.frozen? ⟨b,2,none⟩=false∧w.frozen? ⟨b,3,none⟩=false∧w.frozen? ⟨b,4,none⟩=false∧w.frozen? ⟨b,5,none⟩=false∧w.frozen? ⟨b,6,none⟩=false:=
 ⟨h.frozen 0,h.frozen 1,h.frozen 2,h.frozen 3,h.frozen 4,h.frozen 5,h.frozen 6⟩
theorem Blk.set{w:World}{b:Nat}{t:TypeId}{cs:Array Value}(h:Blk w b t cs)(j:Nat)(x:Value):Blk (w.setCell ⟨b,j,none⟩ x) b t (cs.setIfInBounds j x):=Go.Joins.block_setCell (i:=j) (v:=x) h
theorem Blk.other{w:World}{b b':Nat}{t:TypeId}{cs:Array Value}(h:Blk w b t cs)(hne:b≠b')(j:Nat)(x:Value):Blk (w.setCell ⟨b',j,none⟩ x) b t cs:=(Below.heap_setCell w ⟨b',j,none⟩ x b hne).trans h
end Go.Proofs.YtljbililjlafcaaGreatDoor
