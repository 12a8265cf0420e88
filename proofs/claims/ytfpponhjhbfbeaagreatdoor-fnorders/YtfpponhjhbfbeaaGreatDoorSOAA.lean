/- Texts joined,with what the laws reach alone. -/
import Derived.WalkKit
import Derived.WalkSpells
import Derived.WalkLawsBesides
import Derived.BigQuiet
import Derived.Handy
import Derived.Test.YtfpponhjhbfbeaaGreatDoorProg
set_option linter.unusedVariables false
set_option linter.unusedSimpArgs false
set_option maxRecDepth 100000
set_option maxHeartbeats 4000000
namespace Go.Proofs.YtfpponhjhbfbeaaGreatDoor
open Go.RowKit Go.BigFrame
theorem pjE{α:Type}:(∀ (l:List α) (i:Nat) (a:α),l.toArray.setIfInBounds i a=(l.set i a).toArray)∧(∀ (l:List α) (x a:α),(x::l).set 0 a=a::l)∧(∀ (l:List α) (x a:α) (n:Nat),(x::l).set (n+1) a=x::l.set n a):=
 ⟨fun _ _ _=>List.setIfInBounds_toArray ..,fun _ _ _=>rfl,fun _ _ _ _=>rfl⟩
theorem pgE{α:Type}:(∀ (l:List α) (i:Nat) (h:i<l.toArray.size),l.toArray[i]=l[i]'(by simpa using h))∧(∀ (l:List α) (x:α) (i:Nat) (h:i+1<(x::l).length),(x::l)[i+1]=l[i]'(Nat.lt_of_succ_lt_succ h))∧(∀ (l:List α) (x:α) (h:0<(x::l).length),(x::l)[0]=x):=
 ⟨fun _ _ _=>List.getElem_toArray ..,fun _ _ _ _=>List.getElem_cons_succ ..,fun _ _ _=>rfl⟩
def Row(k:IntKind)(w:World)(a:Option Addr)(zs:List Int):Prop:=
 ∀i,i<zs.length→∃b off,a=some ⟨b,off,none⟩∧b<w.heap.size∧w.cell? ⟨b,off+i,none⟩=some (.int k (zs.getD i 0))
theorem Row.nil(k:IntKind)(w:World)(a:Option Addr):Row k w a []:=fun i h=>absurd h (Nat.not_lt_zero _)
theorem Row.below{k:IntKind}{w w':World}{a:Option Addr}{zs:List Int}(h:Row k w a zs)(hb:Below w.heap.size w w'):Row k w' a zs:=by
 intro i hi;obtain⟨b,off,ha,hlt,hc⟩:=h i hi;exact⟨b,off,ha,Nat.lt_of_lt_of_le hlt hb.size,by rw[hb.cell (p:=⟨b,off+i,none⟩) hlt];exact hc⟩
theorem Row.own{k:IntKind}{w:World}{base e n c:Nat}{a:Option Addr}{zs:List Int}(h:w.ownsRow base e 1 (.slice a n c) n (zs.map (Value.int k))):Row k w a zs:=by
 have hlen:zs.length=n:=by simpa using h.1
 intro i hi;rcases h.2 with⟨he,hn⟩|⟨g,cap,cur,he,hb,hg,r⟩
 ·omega
 ·simp only[Value.slice.injEq,true_and]at he;obtain⟨rfl,rfl⟩:=he;refine⟨g,0,rfl,(Array.getElem?_eq_some_iff.1 hg).1,?_⟩;have:=h.cellAt i (by omega);rw[Nat.zero_add,this];simp[List.getD,hi]
theorem q0Z{k:IntKind}{w:World}{a:Option Addr}{len cap:Nat}{zs:List Int}
  (h:(a=none∧len=0∧cap=0∧zs=[])∨∃x,a=some x∧len≤cap∧cap≤maxLen∧zs.length=cap∧(∀i,i<zs.length→w.cell? (x.add i)=some (.int k (zs.getD i 0)))∧∀n∈zs,(Lit.int k n).wf=true):
  ∃ys:List Int,len=ys.length∧ys.length≤9223372036854775807∧Row k w a ys∧∀n∈ys,(Lit.int k n).wf=true:=by
 rcases h with⟨rfl,rfl,rfl,rfl⟩|⟨x,rfl,hl,hm,hz,hc,hw⟩
 ·exact⟨[],rfl,by simp,Row.nil _ _ _,by simp⟩
 ·refine⟨zs.take len,by simp;omega,by unfold maxLen at hm;simp;omega,?_,fun n hn=>hw n (List.mem_of_mem_take hn)⟩;intro i hi;simp at hi;have h1:=hc i (by omega);obtain⟨b,off,spot⟩:=x;have hspot:spot=none:=by simpa[Addr.add]using World.cell?_spot (hc 0 (by omega))
  subst hspot;have h2:w.cell? ⟨b,off+i,none⟩=some (.int k (zs.getD i 0)):=by rw[Addr.add_lit]at h1;exact h1
  refine⟨b,off,rfl,World.block_lt_of_cell? w _ h2,?_⟩;rw[h2];simp[List.getD,List.getElem?_take,show i<len by omega]
theorem z9Y{zs:List Int}(h:∀n∈zs,(Lit.int .u8 n).wf=true):∀i,0≤zs.getD i 0∧zs.getD i 0≤255:=by
 intro i;by_cases hi:i<zs.length
 ·have:=h (zs.getD i 0) (by simp[List.getD,hi]);exact bounds_u8 this
 ·simp[List.getD,List.getElem?_eq_none (show zs.length≤i by omega)]
theorem z0j{w w':World}{base e size n:Nat}{v:Value}{xs:List Value}(h:w.ownsRow base e size v n xs)(hb:Below w.heap.size w w'):w'.ownsRow base e size v n xs:=by
 refine⟨h.1,?_⟩;rcases h.2 with h2|⟨g,cap,cur,hv,hg,hh,r⟩
 ·exact Or.inl h2
 ·exact Or.inr ⟨g,cap,cur,hv,hg,by rw[hb.block g (Array.getElem?_eq_some_iff.1 hh).1];exact hh,r⟩
theorem z0l{w:World}{base e size n:Nat}{v:Value}{xs:List Value}(h:w.ownsRow base e size v n xs):∃a k,v=.slice a n k:=by
 rcases h.2 with⟨rfl,rfl⟩|⟨g,cap,cur,rfl,r⟩
 ·exact⟨_,_,rfl⟩
 ·exact⟨_,_,rfl⟩
theorem z0J{w:World}{base base' e size n:Nat}{v:Value}{xs:List Value}(h:w.ownsRow base e size v n xs)(hb:base'≤base):w.ownsRow base' e size v n xs:=by
 refine⟨h.1,?_⟩;rcases h.2 with h2|⟨g,cap,cur,hv,hg,r⟩
 ·exact Or.inl h2
 ·exact Or.inr ⟨g,cap,cur,hv,Nat.le_trans hb hg,r⟩
structure Box (w:World) (b:Nat) (x y:Value):Prop where
 fst:w.cell? ⟨b,0,none⟩=some x
 snd:w.cell? ⟨b,1,none⟩=some y
theorem Box.lt{w:World}{b:Nat}{x y:Value}(h:Box w b x y):b<w.heap.size:=World.block_lt_of_cell? w ⟨b,0,none⟩ h.fst
theorem Box.new(w:World)(x y:Value)(t:TypeId):Box (w.alloc (.cells #[x,y] t)) w.heap.size x y:=⟨by simp,by simp⟩
theorem Box.below{w w':World}{b:Nat}{x y:Value}(h:Box w b x y)(hb:Below w.heap.size w w'):Box w' b x y:=
 ⟨by rw[hb.cell (p:=⟨b,0,none⟩) h.lt];exact h.fst,by rw[hb.cell (p:=⟨b,1,none⟩) h.lt];exact h.snd⟩
theorem Box.alloc{w:World}{b:Nat}{x y:Value}(h:Box w b x y)(o:Obj):Box (w.alloc o) b x y:=h.below ((Below.refl _ _).alloc (Nat.le_refl _) o)
theorem Box.grown{w w':World}{b:Nat}{x y:Value}{row:Option Nat}(h:Box w b x y)(hg:w.grownBy w' row)(hne:some b≠row):Box w' b x y:=
 ⟨hg.cell h.fst hne,hg.cell h.snd hne⟩
def laid(zs:List Int)(k:IntKind)(xs:List Value)(i:Nat):List Value:=(zs.take i).map (Value.int k)++xs.drop i
theorem z7e:(Tryz.prog.info? 2).map (fun i=>(i.zero,i.size,i.bytes))=some (some (.int .i64 0),1,8):=by kernel_rfl
def inB(v lo hi:Int):Bool:=decide (lo≤v∧v≤hi)
theorem z0z(v lo hi:Int)(w:World):
  Calls Tryz.prog 48 #[.int .i64 v,.int .i64 lo,.int .i64 hi] w fun e w'=>e=.returned (.bool (inB v lo hi))∧w'=w:=by
 by_cases h1:lo≤v<;>by_cases h2:v≤hi
 all_goals
  go_enter Tryz.func48,Tryz.ntmps48
  go_wp2
  go_ret;exact⟨by simp[inB,h1,h2],rfl⟩
theorem z0H(n lo hi:Int)(w:World):
  Calls Tryz.prog 35 #[.int .i64 n,.int .i64 lo,.int .i64 hi] w fun e w'=>e=.returned (.bool (inB n lo hi))∧w'=w:=by
 by_cases h1:lo≤n<;>by_cases h2:n≤hi
 all_goals
  go_enter Tryz.func35,Tryz.ntmps35
  go_wp2
  go_ret;exact⟨by simp[inB,h1,h2],rfl⟩
theorem z8e:(Tryz.prog.info? 2).map (fun i=>(i.zero,i.size,i.bytes))=some (some (.int .i64 0),1,8):=by kernel_rfl
def bitB(m:Int)(k:Nat):Bool:=decide (m / 2^k % 2=1)
def z1R(m:Int)(k:Nat):List Int:=((List.range k).filter (bitB m)).map fun(i:Nat)=>(i:Int)
theorem z7f(m:Int)(k:Nat)(h:bitB m k=true):z1R m (k+1)=z1R m k++[(k:Int)]:=by simp[z1R,List.range_succ,List.filter_append,h]
theorem z8f(m:Int)(k:Nat)(h:bitB m k=false):z1R m (k+1)=z1R m k:=by simp[z1R,List.range_succ,List.filter_append,h]
theorem z6f(m:Int)(k:Nat):(z1R m k).length≤k:=by
 have:=List.length_filter_le (bitB m) (List.range k);simpa[z1R]using this
theorem z84(m:Int)(k:Nat)(h:0≤m):((m / 2^k).tmod 2==1)=bitB m k:=by
 have h2:0≤m / 2^k:=Int.ediv_nonneg h (by exact Int.le_of_lt (Int.pow_pos (by decide)));rw[Int.tmod_eq_emod_of_nonneg h2];simp[bitB,Bool.beq_eq_decide_eq]
theorem z3y(m:Int)(k:Nat)(w:World)(h0:0≤m)(h1:m≤65535)(hk:k<16):
  Calls Tryz.prog 137 #[.int .i64 m,.int .i64 k] w fun e w'=>e=.returned (.bool (bitB m k))∧w'=w:=by
 go_enter Tryz.func137,Tryz.ntmps137
 go_wp2
 go_ret;exact⟨by simp[z84 m k h0],rfl⟩
theorem z6I(m:Int)(w:World)(h0:0≤m)(h1:m≤65535):
  Calls Tryz.prog 190 #[.int .i64 m] w fun e w'=>∃a c,e=.returned (.slice a (z1R m 16).length c)∧w'.ownsRow w.heap.size 2 1 (.slice a (z1R m 16).length c) (z1R m 16).length ((z1R m 16).map (Value.int .i64))∧Below w.heap.size w w':=by
 obtain⟨i0,hi,hz0,hz1,hz2⟩:=info_parts z8e;go_enter Tryz.func190,Tryz.ntmps190
 go_wp2
 go_loopw[3,4] (fun v i wr=>∃k:Nat,k≤16∧i=.int .i64 k∧wr.ownsRow w.heap.size 2 1 v (z1R m k).length ((z1R m k).map (Value.int .i64))∧Below w.heap.size w wr) (fun _ i _=>16-(intOf i).toNat)
 case atStart=>exact⟨0,Nat.zero_le _,rfl,World.ownsRow_lit w #[] 0 (Nat.le_refl _) (by decide) rfl,by go_grown⟩
 case round=>
  obtain⟨k,hk,rfl,ho,hb⟩:=hrel;have hlen:=z6f m k;have hsz:=hb.size;by_cases hlt:k<16
  ·by_cases hbit:bitB m k=true
   ·go_wp2_with (first|(go_at_call 137;refine(z3y m k _ h0 h1 hlt).mono ?_;rintro e w' ⟨rfl,rfl⟩)|(at_builtin;refine wpList_append_own _ rfl _ _ 47 rfl w.heap.size 2 i0 (.int .i64 0) 1 8 Tryz.underlying47 hi hz0 hz1 hz2 rfl (by decide) _ _ _ rfl (ho.alloc _) ⟨_,0,none⟩ 1 1 [.int .i64 k] rfl rfl ?c1 ?c2 ?c3 ?c4 ?c5 ?_))
    case c1=>exact cell_one_new _ _ _
    case c2=>intro u hu;simp at hu;subst hu;rfl
    case c3=>unfold maxLen;omega
    case c4=>omega
    case c5=>simp;omega
    intro v' w1 hown hgrow _;have R:Hid (w1.ownsRow w.heap.size 2 1 v' (z1R m (k+1)).length ((z1R m (k+1)).map (Value.int .i64))∧Below w.heap.size w w1):=by
     rw[z7f m k hbit];exact⟨by simpa using hown,(hb.alloc hb.size _).grown hgrow (by simp;omega) (fun j hj=>(ho.lt j hj).1)⟩
    clear hown hgrow ho
    go_wp2
    go_roundw
    case rel=>exact⟨k+1,by omega,by go_num,R.out.1,R.out.2⟩
    case measure=>simp[intOf];omega
   ·have hbit':bitB m k=false:=by simpa using hbit
    clear hbit;rw[←z8f m k hbit']at ho
    go_wp2_with (first|(go_at_call 137;refine(z3y m k _ h0 h1 hlt).mono ?_;rintro e w' ⟨rfl,rfl⟩))
    go_roundw
    case rel=>exact⟨k+1,by omega,by go_num,ho,hb⟩
    case measure=>simp[intOf];omega
  ·have hkl:k=16:=by omega
   subst hkl;obtain⟨a1,c1,rfl⟩:=z0l ho
   go_wp2
   go_ret;exact⟨_,_,rfl,ho,hb⟩
def vOk(most x:Int):Bool:=inB x 0 most||x==3
def vf(zs:List Int)(most:Int):Int:=if zs.length=3 then(if zs.all (vOk most)then 0 else 3)else 2
def vfault(zs:List Int)(most:Int):Int:=if inB most 1 2 then vf zs most else 3
def z7b(p q r:Bool):Int:=p.toNat+q.toNat+r.toNat
def z8T(m:Int):Int:=z7b (bitB m 0) (bitB m 1) (bitB m 2)
def cnt(m:Int)(zs:List Int)(v:Int):Int:=z7b (bitB m 0 && (zs.getD 0 0==v)) (bitB m 1 && (zs.getD 1 0==v)) (bitB m 2 && (zs.getD 2 0==v))
def z85(p q r:Bool):Int:=p.toNat+2*q.toNat+4*r.toNat
def vot(zs:List Int)(v:Int):Int:=z85 (zs.getD 0 0==v) (zs.getD 1 0==v) (zs.getD 2 0==v)
def isQ(m:Int):Bool:=inB m 0 7 && decide (2≤z8T m)
theorem z86{m:Int}(h:inB m 0 7=true):m=0∨m=1∨m=2∨m=3∨m=4∨m=5∨m=6∨m=7:=by
 have:=of_decide_eq_true h;omega
theorem z37{zs:List Int}(h:zs.length=3):∃x y z,zs=[x,y,z]:=by
 match zs,h with
 |[x,y,z],_=>exact⟨x,y,z,rfl⟩
theorem z0y{zs:List Int}{most:Int}(h:vf zs most=0):zs.length=3:=by
 unfold vf at h;split at h
 ·assumption
 ·simp at h
theorem z87(p q r:Bool):inB (z85 p q r) 0 7=true:=by cases p<;>cases q<;>cases r<;>decide
theorem z9Z(zs:List Int)(v:Int):inB (vot zs v) 0 7=true:=z87 _ _ _
theorem z8g(p q r:Bool):∀m∈[(0:Int),1,2,3,4,5,6,7],inB (bits .and .i64 m (z85 p q r)) 0 7=true∧z8T (bits .and .i64 m (z85 p q r))=z7b (bitB m 0 && p) (bitB m 1 && q) (bitB m 2 && r)∧((bits .and .i64 m (z85 p q r))==0)=(z7b (bitB m 0 && p) (bitB m 1 && q) (bitB m 2 && r)==0):=by
 cases p<;>cases q<;>cases r<;>decide+kernel
theorem z5F{m:Int}(h:inB m 0 7=true)(zs:List Int)(v:Int):inB (bits .and .i64 m (vot zs v)) 0 7=true∧z8T (bits .and .i64 m (vot zs v))=cnt m zs v∧((bits .and .i64 m (vot zs v))==0)=(cnt m zs v==0):=by
 refine z8g _ _ _ m ?_;rcases z86 h with rfl|rfl|rfl|rfl|rfl|rfl|rfl|rfl<;>simp
theorem z7g(p q r:Bool):0≤z7b p q r∧z7b p q r≤3:=by cases p<;>cases q<;>cases r<;>decide
theorem z1O(m:Int)(zs:List Int)(v:Int):0≤cnt m zs v∧cnt m zs v≤3:=z7g _ _ _
theorem z90{m:Int}(h:inB m 0 7=true):((z1R m 16).length:Int)=z8T m:=by
 rcases z86 h with rfl|rfl|rfl|rfl|rfl|rfl|rfl|rfl<;>decide+kernel
theorem z4j(m:Int)(w:World):
  Calls Tryz.prog 192 #[.int .i64 m] w fun e w'=>e=.returned (.bool (inB m 0 7))∧w'=w:=by
 go_enter Tryz.func192,Tryz.ntmps192
 go_wp2_with (go_at_call 35;refine(z0H _ _ _ _).mono ?_;rintro e w' ⟨rfl,rfl⟩)
 go_ret;exact⟨rfl,rfl⟩
theorem z1C(m:Int)(w:World)(h:inB m 0 7=true):
  Calls Tryz.prog 152 #[.int .i64 m] w fun e w'=>e=.returned (.int .i64 (z8T m))∧w'=w:=by
 rcases z86 h with rfl|rfl|rfl|rfl|rfl|rfl|rfl|rfl;all_goals
  clear h;go_enter Tryz.func152,Tryz.ntmps152
  go_wp2
  go_ret;exact⟨by kernel_rfl,rfl⟩
theorem z40(m:Int)(w:World):
  Calls Tryz.prog 188 #[.int .i64 m] w fun e w'=>e=.returned (.bool (isQ m))∧w'=w:=by
 by_cases h:inB m 0 7=true
 ·have hn:=fun w=>z1C m w h
  go_enter Tryz.func188,Tryz.ntmps188
  go_wp2_with (first|(go_at_call 192;refine(z4j _ _).mono ?_;rintro e w' ⟨rfl,rfl⟩)|(go_at_call 152;refine(hn _).mono ?_;rintro e w' ⟨rfl,rfl⟩))
  go_ret;exact⟨by simp[isQ,h],rfl⟩
 ·have h':inB m 0 7=false:=by simpa using h
  clear h;go_enter Tryz.func188,Tryz.ntmps188
  go_wp2_with (go_at_call 192;refine(z4j _ _).mono ?_;rintro e w' ⟨rfl,rfl⟩)
  go_ret;exact⟨by simp[isQ,h'],rfl⟩
theorem z6g(zs:List Int)(p:Int→Bool)(k:Nat)(h:(zs.take k).all p=true)(hk:k<zs.length)(hx:p (zs.getD k 0)=true):(zs.take (k+1)).all p=true:=by
 rw[List.take_succ_eq_append_getElem hk,List.all_append,h];have e:zs[k]=zs.getD k 0:=by simp[List.getD,hk]
 rw[e,List.all_cons,hx];rfl
theorem z7h(zs:List Int)(p:Int→Bool)(k:Nat)(hk:k<zs.length)(hx:p (zs.getD k 0)=false):zs.all p=false:=by
 rw[List.all_eq_false];exact⟨zs.getD k 0,by simp[List.getD,hk],by rw[hx];decide⟩
theorem z0A(a:Option Addr)(cap:Nat)(zs:List Int)(most:Int)(w:World)(h:Row .i64 w a zs)(hm:zs.length≤9223372036854775807):
  Calls Tryz.prog 123 #[.slice a zs.length cap,.int .i64 most] w fun e w'=>e=.returned (.int .i64 (vfault zs most))∧w'=w:=by
 by_cases hin:inB most 1 2=true
 ·by_cases hl:zs.length=3
  ·have e0:vfault zs most=if zs.all (vOk most)then 0 else 3:=by simp[vfault,vf,hin,hl]
   have E1:Hid (zs.all (vOk most)=true→vfault zs most=0):=fun h=>by rw[e0,h];rfl
   have E2:Hid (zs.all (vOk most)=false→vfault zs most=3):=fun h=>by rw[e0,h];rfl
   clear e0;generalize vfault zs most=E at E1 E2⊢;have hl':((zs.length:Int) !=3)=false:=by simp[hl]
   go_enter Tryz.func123,Tryz.ntmps123
   go_wp2_with (go_at_call 35;refine(z0H _ _ _ _).mono ?_;rintro e w' ⟨rfl,rfl⟩)
   go_loop[15] (fun i=>∃k:Nat,k≤zs.length∧i=.int .i64 k∧(zs.take k).all (vOk most)=true) (fun i=>zs.length-(intOf i).toNat)
   case atStart=>exact⟨0,Nat.zero_le _,rfl,by simp⟩
   case round=>
    obtain⟨k,hk,rfl,hall⟩:=hrel;by_cases hlt:k<zs.length
    ·obtain⟨b,off,rfl,hbs,hc⟩:=h k hlt;have hT:Hid (vOk most (zs.getD k 0)=true→(zs.take (k+1)).all (vOk most)=true):=fun hx=>z6g zs _ k hall hlt hx
     have hF:Hid (vOk most (zs.getD k 0)=false→zs.all (vOk most)=false):=fun hx=>z7h zs _ k hlt hx
     clear hall;generalize zs.getD k 0=z at hc hT hF;by_cases h1:inB z 0 most=true
     ·have hx:vOk most z=true:=by simp[vOk,h1]
      have R:Hid ((zs.take (k+1)).all (vOk most)=true):=hT.out hx;clear hT hF hx
      go_wp2_with (go_at_call 35;refine(z0H _ _ _ _).mono ?_;rintro e w' ⟨rfl,rfl⟩)
      go_round
      case rel=>exact⟨k+1,by omega,by go_num,R.out⟩
      case measure=>simp[intOf];omega
     ·have h1':inB z 0 most=false:=by simpa using h1
      clear h1;by_cases h3:z=3
      ·subst h3;have hx:vOk most 3=true:=by simp[vOk]
       have R:Hid ((zs.take (k+1)).all (vOk most)=true):=hT.out hx;clear hT hF hx
       go_wp2_with (go_at_call 35;refine(z0H _ _ _ _).mono ?_;rintro e w' ⟨rfl,rfl⟩)
       go_round
       case rel=>exact⟨k+1,by omega,by go_num,R.out⟩
       case measure=>simp[intOf];omega
      ·have h3':(z !=3)=true:=by simpa using h3
       have hx:vOk most z=false:=by simp[vOk,h1',h3]
       have R:Hid (zs.all (vOk most)=false):=hF.out hx;clear hT hF hx h3
       go_wp2_with (go_at_call 35;refine(z0H _ _ _ _).mono ?_;rintro e w' ⟨rfl,rfl⟩)
       go_ret;exact⟨by rw[E2.out R.out];rfl,rfl⟩
    ·go_wp2
     go_ret;rw[List.take_of_length_le (by omega)]at hall;exact⟨by rw[E1.out hall];rfl,rfl⟩
  ·have e0:vfault zs most=2:=by simp[vfault,vf,hin,hl]
   rw[e0];have hl':((zs.length:Int) !=3)=true:=by simp;omega
   clear hl;go_enter Tryz.func123,Tryz.ntmps123
   go_wp2_with (go_at_call 35;refine(z0H _ _ _ _).mono ?_;rintro e w' ⟨rfl,rfl⟩)
   go_ret;exact⟨rfl,rfl⟩
 ·have h':inB most 1 2=false:=by simpa using hin
  have e0:vfault zs most=3:=by simp[vfault,h']
  rw[e0];clear hin;go_enter Tryz.func123,Tryz.ntmps123
  go_wp2_with (go_at_call 35;refine(z0H _ _ _ _).mono ?_;rintro e w' ⟨rfl,rfl⟩)
  go_ret;exact⟨rfl,rfl⟩
def votB(p q r:Bool)(k:Nat):Int:=z85 (decide (0<k) && p) (decide (1<k) && q) (decide (2<k) && r)
theorem z88(p q r:Bool)(k:Nat)(hk:k<3)(h:[p,q,r].getD k false=true):bits .or .i64 (votB p q r k) (wrap64 (2^k))=votB p q r (k+1):=by
 match k,hk with
 |0,_=>revert h;cases p<;>cases q<;>cases r<;>decide+kernel
 |1,_=>revert h;cases p<;>cases q<;>cases r<;>decide+kernel
 |2,_=>revert h;cases p<;>cases q<;>cases r<;>decide+kernel
theorem z89(p q r:Bool)(k:Nat)(hk:k<3)(h:[p,q,r].getD k false=false):votB p q r (k+1)=votB p q r k:=by
 match k,hk with
 |0,_=>revert h;cases p<;>cases q<;>cases r<;>decide+kernel
 |1,_=>revert h;cases p<;>cases q<;>cases r<;>decide+kernel
 |2,_=>revert h;cases p<;>cases q<;>cases r<;>decide+kernel
theorem z9a(zs:List Int)(v:Int)(k:Nat)(hk:k<3):[zs.getD 0 0==v,zs.getD 1 0==v,zs.getD 2 0==v].getD k false=(zs.getD k 0==v):=by
 match k,hk with
 |0,_=>rfl
 |1,_=>rfl
 |2,_=>rfl
theorem z1j(a:Option Addr)(cap:Nat)(zs:List Int)(v:Int)(w:World)(h:Row .i64 w a zs)(hl:zs.length=3):
  Calls Tryz.prog 153 #[.slice a 3 cap,.int .i64 v] w fun e w'=>e=.returned (.int .i64 (vot zs v))∧w'=w:=by
 have hat:=z9a zs v;have h3:vot zs v=votB (zs.getD 0 0==v) (zs.getD 1 0==v) (zs.getD 2 0==v) 3:=by simp[votB,vot]
 rw[h3];clear h3;generalize (zs.getD 0 0==v)=p at hat⊢;generalize (zs.getD 1 0==v)=q at hat⊢;generalize (zs.getD 2 0==v)=r at hat⊢;generalize hE:votB p q r 3=E;go_enter Tryz.func153,Tryz.ntmps153
 go_wp2
 go_loop[5,10] (fun c i=>∃k:Nat,k≤3∧c=.int .i64 (votB p q r k)∧i=.int .i64 k) (fun _ i=>3-(intOf i).toNat)
 case atStart=>exact⟨0,Nat.zero_le _,rfl,rfl⟩
 case round=>
  obtain⟨k,hk,rfl,rfl⟩:=hrel;by_cases hlt:k<3
  ·obtain⟨b,off,rfl,hbs,hc⟩:=h k (by omega);have hk2:=hat k hlt;by_cases hz:(zs.getD k 0==v)=true
   ·have R:Hid (bits .or .i64 (votB p q r k) (wrap64 (2^k))=votB p q r (k+1)):=z88 p q r k hlt (hk2.trans hz);clear hk2;generalize zs.getD k 0=z at hc hz;generalize votB p q r k=c at R⊢;generalize hd:votB p q r (k+1)=d at R
    go_wp2
    go_round
    case rel=>exact⟨k+1,by omega,by rw[hd,←R.out],by go_num⟩
    case measure=>simp[intOf];omega
   ·have hz':(zs.getD k 0==v)=false:=by simpa using hz
    clear hz;have R:Hid (votB p q r k=votB p q r (k+1)):=(z89 p q r k hlt (hk2.trans hz')).symm;clear hk2;generalize zs.getD k 0=z at hc hz';generalize votB p q r k=c at R⊢
    go_wp2
    go_round
    case rel=>exact⟨k+1,by omega,by rw[R.out],by go_num⟩
    case measure=>simp[intOf];omega
  ·have hkl:k=3:=by omega
   subst hkl;rw[hE]
   go_wp2
   go_ret;exact⟨rfl,rfl⟩
theorem z6J(m:Int)(w:World)(h:inB m 0 7=true):
  Calls Tryz.prog 181 #[.int .i64 m] w fun e w'=>e=.returned (.int .i64 (z8T m))∧Below w.heap.size w w':=by
 have hm:=of_decide_eq_true h;rw[←z90 h];have hle:=z6f m 16;have h1:=z6I m w hm.1 (by omega);generalize (z1R m 16).length=n at*;go_enter Tryz.func181,Tryz.ntmps181
 go_wp2_with fail
 refine h1.mono ?_;rintro e w1 ⟨a,c,rfl,ho,hb⟩;clear ho
 go_wp2
 go_ret;exact⟨rfl,hb⟩
theorem z42(m:Int)(w:World):
  Calls Tryz.prog 166 #[.int .i64 m] w fun e w'=>e=.returned (.bool (isQ m))∧Below w.heap.size w w':=by
 by_cases h:inB m 0 7=true
 ·have hn:=fun w=>z6J m w h
  go_enter Tryz.func166,Tryz.ntmps166
  go_wp2_with (first|(go_at_call 48;refine(z0z _ _ _ _).mono ?_;rintro e w' ⟨rfl,rfl⟩)|(go_at_call 181;refine(hn _).mono ?_;rintro e w' ⟨rfl,hb⟩))
  go_ret;exact⟨by simp[isQ,h],hb⟩
 ·have h':inB m 0 7=false:=by simpa using h
  clear h;go_enter Tryz.func166,Tryz.ntmps166
  go_wp2_with (go_at_call 48;refine(z0z _ _ _ _).mono ?_;rintro e w' ⟨rfl,rfl⟩)
  go_ret;exact⟨by simp[isQ,h'],Below.refl _ _⟩
theorem z0M(a:Option Addr)(cap:Nat)(zs:List Int)(most:Int)(w:World)(h:Row .i64 w a zs)(hm:zs.length≤9223372036854775807):
  Calls Tryz.prog 136 #[.slice a zs.length cap,.int .i64 most] w fun e w'=>e=.returned (.int .i64 (vf zs most))∧Below w.heap.size w w':=by
 by_cases hl:zs.length=3
 ·have e0:vf zs most=if zs.all (vOk most)then 0 else 3:=by simp[vf,hl]
  have E1:Hid (zs.all (vOk most)=true→vf zs most=0):=fun h=>by rw[e0,h];rfl
  have E2:Hid (zs.all (vOk most)=false→vf zs most=3):=fun h=>by rw[e0,h];rfl
  clear e0;generalize vf zs most=E at E1 E2⊢;rw[hl];go_enter Tryz.func136,Tryz.ntmps136
  go_wp2
  go_loop[5] (fun i=>∃k:Nat,k≤3∧i=.int .i64 k∧(zs.take k).all (vOk most)=true) (fun i=>3-(intOf i).toNat)
  case atStart=>exact⟨0,Nat.zero_le _,rfl,by simp⟩
  case round=>
   obtain⟨k,hk,rfl,hall⟩:=hrel;by_cases hlt3:k<3
   ·have hlt:k<zs.length:=by omega
    obtain⟨b,off,rfl,hbs,hc⟩:=h k hlt;have hT:Hid (vOk most (zs.getD k 0)=true→(zs.take (k+1)).all (vOk most)=true):=fun hx=>z6g zs _ k hall hlt hx
    have hF:Hid (vOk most (zs.getD k 0)=false→zs.all (vOk most)=false):=fun hx=>z7h zs _ k hlt hx
    clear hall;generalize zs.getD k 0=z at hc hT hF;by_cases h1:inB z 0 most=true
    ·have hx:vOk most z=true:=by simp[vOk,h1]
     have R:Hid ((zs.take (k+1)).all (vOk most)=true):=hT.out hx;clear hT hF hx
     go_wp2_with (go_at_call 48;refine(z0z _ _ _ _).mono ?_;rintro e w' ⟨rfl,rfl⟩)
     go_round
     case rel=>exact⟨k+1,by omega,by go_num,R.out⟩
     case measure=>simp[intOf];omega
    ·have h1':inB z 0 most=false:=by simpa using h1
     clear h1;by_cases h3:z=3
     ·subst h3;have hx:vOk most 3=true:=by simp[vOk]
      have R:Hid ((zs.take (k+1)).all (vOk most)=true):=hT.out hx;clear hT hF hx
      go_wp2_with (go_at_call 48;refine(z0z _ _ _ _).mono ?_;rintro e w' ⟨rfl,rfl⟩)
      go_round
      case rel=>exact⟨k+1,by omega,by go_num,R.out⟩
      case measure=>simp[intOf];omega
     ·have h3':(z !=3)=true:=by simpa using h3
      have hx:vOk most z=false:=by simp[vOk,h1',h3]
      have R:Hid (zs.all (vOk most)=false):=hF.out hx;clear hT hF hx h3
      go_wp2_with (go_at_call 48;refine(z0z _ _ _ _).mono ?_;rintro e w' ⟨rfl,rfl⟩)
      go_ret;exact⟨by rw[E2.out R.out];rfl,Below.refl _ _⟩
   ·go_wp2
    go_ret;rw[List.take_of_length_le (by omega)]at hall;exact⟨by rw[E1.out hall];rfl,Below.refl _ _⟩
 ·have e0:vf zs most=2:=by simp[vf,hl]
  rw[e0];have hl':((zs.length:Int) !=3)=true:=by simp;omega
  clear hl;go_enter Tryz.func136,Tryz.ntmps136
  go_wp2
  go_ret;exact⟨rfl,Below.refl _ _⟩
def cntB(p q r:Bool)(k:Nat):Int:=z7b (decide (0<k) && p) (decide (1<k) && q) (decide (2<k) && r)
theorem z8h(p q r:Bool)(k:Nat)(hk:k<3)(h:[p,q,r].getD k false=true):cntB p q r k+1=cntB p q r (k+1):=by
 match k,hk with
 |0,_=>revert h;cases p<;>cases q<;>cases r<;>decide+kernel
 |1,_=>revert h;cases p<;>cases q<;>cases r<;>decide+kernel
 |2,_=>revert h;cases p<;>cases q<;>cases r<;>decide+kernel
theorem z9b(p q r:Bool)(k:Nat)(hk:k<3)(h:[p,q,r].getD k false=false):cntB p q r (k+1)=cntB p q r k:=by
 match k,hk with
 |0,_=>revert h;cases p<;>cases q<;>cases r<;>decide+kernel
 |1,_=>revert h;cases p<;>cases q<;>cases r<;>decide+kernel
 |2,_=>revert h;cases p<;>cases q<;>cases r<;>decide+kernel
theorem z8i(m:Int)(zs:List Int)(v:Int)(k:Nat)(hk:k<3):[bitB m 0 && (zs.getD 0 0==v),bitB m 1 && (zs.getD 1 0==v),bitB m 2 && (zs.getD 2 0==v)].getD k false=(bitB m k && (zs.getD k 0==v)):=by
 match k,hk with
 |0,_=>rfl
 |1,_=>rfl
 |2,_=>rfl
theorem z0C(a:Option Addr)(cap:Nat)(zs:List Int)(m v:Int)(w:World)(h:Row .i64 w a zs)(hl:zs.length=3)(hm:inB m 0 7=true):
  Calls Tryz.prog 106 #[.slice a 3 cap,.int .i64 m,.int .i64 v] w fun e w'=>e=.returned (.int .i64 (cnt m zs v))∧Below w.heap.size w w':=by
 have hat:=z8i m zs v;have hmi:=of_decide_eq_true hm;have h3:cnt m zs v=cntB (bitB m 0 && (zs.getD 0 0==v)) (bitB m 1 && (zs.getD 1 0==v)) (bitB m 2 && (zs.getD 2 0==v)) 3:=by simp[cntB,cnt]
 rw[h3];clear h3;generalize (bitB m 0 && (zs.getD 0 0==v))=p at hat⊢;generalize (bitB m 1 && (zs.getD 1 0==v))=q at hat⊢;generalize (bitB m 2 && (zs.getD 2 0==v))=r at hat⊢;generalize hE:cntB p q r 3=E;have hci:∀k,0≤cntB p q r k∧cntB p q r k≤3:=fun k=>z7g _ _ _
 go_enter Tryz.func106,Tryz.ntmps106
 go_wp2
 go_loopw[7,8] (fun c i wr=>∃k n:Nat,k≤3∧c=.int .i64 (cntB p q r k)∧i=.int .i64 k∧wr=w.drewN n) (fun _ i _=>3-(intOf i).toNat)
 case atStart=>exact⟨0,0,Nat.zero_le _,rfl,rfl,rfl⟩
 case round=>
  obtain⟨k,n,hk,rfl,rfl,rfl⟩:=hrel;by_cases hlt:k<3
  ·obtain⟨b,off,rfl,hbs,hc⟩:=h k (by omega);have hk2:=hat k hlt;have hck:=hci k;have hhas:=fun w=>z3y m k w hmi.1 (by omega) (by omega)
   by_cases hz:(bitB m k && (zs.getD k 0==v))=true
   ·have R:Hid (cntB p q r k+1=cntB p q r (k+1)):=z8h p q r k hlt (hk2.trans hz);clear hk2;generalize zs.getD k 0=z at hc hz;generalize bitB m k=t at hhas hz;rw[Bool.and_eq_true]at hz;obtain⟨rfl,hz⟩:=hz;generalize cntB p q r k=c at R hck⊢;generalize hd:cntB p q r (k+1)=d at R;clear hat hci
    go_wp2_with (go_at_call 137;refine(hhas _).mono ?_;rintro e w' ⟨rfl,rfl⟩)
    go_roundw
    case rel=>exact⟨k+1,_,by omega,by rw[hd,←R.out],by go_num,rfl⟩
    case measure=>simp[intOf];omega
   ·have hz':(bitB m k && (zs.getD k 0==v))=false:=by simpa using hz
    clear hz;have R:Hid (cntB p q r k=cntB p q r (k+1)):=(z9b p q r k hlt (hk2.trans hz')).symm;clear hk2;generalize zs.getD k 0=z at hc hz';generalize bitB m k=t at hhas hz';generalize cntB p q r k=c at R hck⊢;clear hat hci
    cases t
    ·clear hz'
     go_wp2_with (go_at_call 137;refine(hhas _).mono ?_;rintro e w' ⟨rfl,rfl⟩)
     go_roundw
     case rel=>exact⟨k+1,_,by omega,by rw[R.out],by go_num,rfl⟩
     case measure=>simp[intOf];omega
    ·rw[Bool.true_and]at hz'
     go_wp2_with (go_at_call 137;refine(hhas _).mono ?_;rintro e w' ⟨rfl,rfl⟩)
     go_roundw
     case rel=>exact⟨k+1,_,by omega,by rw[R.out],by go_num,rfl⟩
     case measure=>simp[intOf];omega
  ·have hkl:k=3:=by omega
   subst hkl;rw[hE]
   go_wp2
   go_ret;exact⟨rfl,below_drewN (Below.refl _ _) _⟩
end Go.Proofs.YtfpponhjhbfbeaaGreatDoor
