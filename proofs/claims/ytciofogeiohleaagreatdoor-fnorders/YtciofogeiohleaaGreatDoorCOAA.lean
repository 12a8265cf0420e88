/- Texts joined,with what the laws reach alone. -/
import Derived.WalkKit
import Derived.WalkSpells
import Derived.WalkLawsBesides
import Derived.BigQuiet
import Derived.Handy
import Derived.Test.YtciofogeiohleaaGreatDoorProg
import Derived.Deep.RegionHeld3
import Derived.Lib.SmallJoins
set_option linter.unusedVariables false
set_option linter.unusedSimpArgs false
set_option maxRecDepth 100000
set_option maxHeartbeats 4000000
namespace Go.Proofs.YtciofogeiohleaaGreatDoor
open Go.RowKit Go.BigFrame
theorem pjE{α:Type}:(∀ (l:List α) (i:Nat) (a:α),l.toArray.setIfInBounds i a=(l.set i a).toArray)∧(∀ (l:List α) (x a:α),(x::l).set 0 a=a::l)∧(∀ (l:List α) (x a:α) (n:Nat),(x::l).set (n+1) a=x::l.set n a):=
 ⟨fun _ _ _=>List.setIfInBounds_toArray ..,fun _ _ _=>rfl,fun _ _ _ _=>rfl⟩
theorem pgE{α:Type}:(∀ (l:List α) (i:Nat) (h:i<l.toArray.size),l.toArray[i]=l[i]'(by simpa using h))∧(∀ (l:List α) (x:α) (i:Nat) (h:i+1<(x::l).length),(x::l)[i+1]=l[i]'(Nat.lt_of_succ_lt_succ h))∧(∀ (l:List α) (x:α) (h:0<(x::l).length),(x::l)[0]=x):=
 ⟨fun _ _ _=>List.getElem_toArray ..,fun _ _ _ _=>List.getElem_cons_succ ..,fun _ _ _=>rfl⟩
def Row(k:IntKind)(w:World)(a:Option Addr)(zs:List Int):Prop:=
 ∀i,i<zs.length→∃b off,a=some ⟨b,off,none⟩∧b<w.heap.size∧w.cell? ⟨b,off+i,none⟩=some (.int k (zs.getD i 0))
theorem Row.nil(k:IntKind)(w:World)(a:Option Addr):Row k w a []:=fun i h=>absurd h (Nat.not_lt_zero _)
theorem Row.below{k:IntKind}{w w':World}{a:Option Addr}{zs:List Int}(h:Row k w a zs)(hb:Below w.heap.size w w'):Row k w' a zs:=by
 intro i hi;obtain⟨b,off,ha,hlt,hc⟩:=h i hi;exact⟨b,off,ha,Nat.lt_of_lt_of_le hlt hb.size,by rw[hb.cell (p:=⟨b,off+i,none⟩) hlt];exact hc⟩
theorem Row.own{k:IntKind}{w:World}{base e n c:Nat}{a:Option Addr}{zs:List Int}(h:w.ownsRow base e 1 (.slice a n c) n (zs.map (Value.int k))):Row k w a zs:=by
 have hlen:zs.length=n:=by simpa using h.1
 intro i hi;rcases h.2 with⟨he,hn⟩|⟨g,cap,cur,he,hb,hg,r⟩
 ·omega
 ·simp only[Value.slice.injEq,true_and]at he;obtain⟨rfl,rfl⟩:=he;refine⟨g,0,rfl,(Array.getElem?_eq_some_iff.1 hg).1,?_⟩;have:=h.cellAt i (by omega);rw[Nat.zero_add,this];simp[List.getD,hi]
theorem q1K{k:IntKind}{w:World}{a:Option Addr}{len cap:Nat}{zs:List Int}
  (h:(a=none∧len=0∧cap=0∧zs=[])∨∃x,a=some x∧len≤cap∧cap≤maxLen∧zs.length=cap∧(∀i,i<zs.length→w.cell? (x.add i)=some (.int k (zs.getD i 0)))∧∀n∈zs,(Lit.int k n).wf=true):
  ∃ys:List Int,len=ys.length∧ys.length≤9223372036854775807∧Row k w a ys∧∀n∈ys,(Lit.int k n).wf=true:=by
 rcases h with⟨rfl,rfl,rfl,rfl⟩|⟨x,rfl,hl,hm,hz,hc,hw⟩
 ·exact⟨[],rfl,by simp,Row.nil _ _ _,by simp⟩
 ·refine⟨zs.take len,by simp;omega,by unfold maxLen at hm;simp;omega,?_,fun n hn=>hw n (List.mem_of_mem_take hn)⟩;intro i hi;simp at hi;have h1:=hc i (by omega);obtain⟨b,off,spot⟩:=x;have hspot:spot=none:=by simpa[Addr.add]using World.cell?_spot (hc 0 (by omega))
  subst hspot;have h2:w.cell? ⟨b,off+i,none⟩=some (.int k (zs.getD i 0)):=by rw[Addr.add_lit]at h1;exact h1
  refine⟨b,off,rfl,World.block_lt_of_cell? w _ h2,?_⟩;rw[h2];simp[List.getD,List.getElem?_take,show i<len by omega]
theorem q0G{zs:List Int}(h:∀n∈zs,(Lit.int .u8 n).wf=true):∀i,0≤zs.getD i 0∧zs.getD i 0≤255:=by
 intro i;by_cases hi:i<zs.length
 ·have:=h (zs.getD i 0) (by simp[List.getD,hi]);exact bounds_u8 this
 ·simp[List.getD,List.getElem?_eq_none (show zs.length≤i by omega)]
theorem z0n{w w':World}{base e size n:Nat}{v:Value}{xs:List Value}(h:w.ownsRow base e size v n xs)(hb:Below w.heap.size w w'):w'.ownsRow base e size v n xs:=by
 refine⟨h.1,?_⟩;rcases h.2 with h2|⟨g,cap,cur,hv,hg,hh,r⟩
 ·exact Or.inl h2
 ·exact Or.inr ⟨g,cap,cur,hv,hg,by rw[hb.block g (Array.getElem?_eq_some_iff.1 hh).1];exact hh,r⟩
theorem z0p{w:World}{base e size n:Nat}{v:Value}{xs:List Value}(h:w.ownsRow base e size v n xs):∃a k,v=.slice a n k:=by
 rcases h.2 with⟨rfl,rfl⟩|⟨g,cap,cur,rfl,r⟩
 ·exact⟨_,_,rfl⟩
 ·exact⟨_,_,rfl⟩
theorem z0R{w:World}{base base' e size n:Nat}{v:Value}{xs:List Value}(h:w.ownsRow base e size v n xs)(hb:base'≤base):w.ownsRow base' e size v n xs:=by
 refine⟨h.1,?_⟩;rcases h.2 with h2|⟨g,cap,cur,hv,hg,r⟩
 ·exact Or.inl h2
 ·exact Or.inr ⟨g,cap,cur,hv,Nat.le_trans hb hg,r⟩
structure Box (w:World) (b:Nat) (x y:Value):Prop where
 fst:w.cell? ⟨b,0,none⟩=some x
 snd:w.cell? ⟨b,1,none⟩=some y
theorem Box.lt{w:World}{b:Nat}{x y:Value}(h:Box w b x y):b<w.heap.size:=World.block_lt_of_cell? w ⟨b,0,none⟩ h.fst
theorem Box.new(w:World)(x y:Value)(t:TypeId):Box (w.alloc (.cells #[x,y] t)) w.heap.size x y:=⟨by simp,by simp⟩
theorem Box.below{w w':World}{b:Nat}{x y:Value}(h:Box w b x y)(hb:Below w.heap.size w w'):Box w' b x y:=
 ⟨by rw[hb.cell (p:=⟨b,0,none⟩) h.lt];exact h.fst,by rw[hb.cell (p:=⟨b,1,none⟩) h.lt];exact h.snd⟩
theorem Box.alloc{w:World}{b:Nat}{x y:Value}(h:Box w b x y)(o:Obj):Box (w.alloc o) b x y:=h.below ((Below.refl _ _).alloc (Nat.le_refl _) o)
theorem Box.grown{w w':World}{b:Nat}{x y:Value}{row:Option Nat}(h:Box w b x y)(hg:w.grownBy w' row)(hne:some b≠row):Box w' b x y:=
 ⟨hg.cell h.fst hne,hg.cell h.snd hne⟩
def laid(zs:List Int)(k:IntKind)(xs:List Value)(i:Nat):List Value:=(zs.take i).map (Value.int k)++xs.drop i
theorem z7P:(Tryz.prog.info? 2).map (fun i=>(i.zero,i.size,i.bytes))=some (some (.int .i64 0),1,8):=by kernel_rfl
def inB(v lo hi:Int):Bool:=decide (lo≤v∧v≤hi)
theorem z0E(v lo hi:Int)(w:World):
  Calls Tryz.prog 55 #[.int .i64 v,.int .i64 lo,.int .i64 hi] w fun e w'=>e=.returned (.bool (inB v lo hi))∧w'=w:=by
 by_cases h1:lo≤v<;>by_cases h2:v≤hi
 all_goals
  go_enter Tryz.func55,Tryz.ntmps55
  go_wp2
  go_ret;exact⟨by simp[inB,h1,h2],rfl⟩
theorem z0N(n lo hi:Int)(w:World):
  Calls Tryz.prog 38 #[.int .i64 n,.int .i64 lo,.int .i64 hi] w fun e w'=>e=.returned (.bool (inB n lo hi))∧w'=w:=by
 by_cases h1:lo≤n<;>by_cases h2:n≤hi
 all_goals
  go_enter Tryz.func38,Tryz.ntmps38
  go_wp2
  go_ret;exact⟨by simp[inB,h1,h2],rfl⟩
theorem z8U:(Tryz.prog.info? 2).map (fun i=>(i.zero,i.size,i.bytes))=some (some (.int .i64 0),1,8):=by kernel_rfl
def bitB(m:Int)(k:Nat):Bool:=decide (m / 2^k % 2=1)
def z18(m:Int)(k:Nat):List Int:=((List.range k).filter (bitB m)).map fun(i:Nat)=>(i:Int)
theorem z7Q(m:Int)(k:Nat)(h:bitB m k=true):z18 m (k+1)=z18 m k++[(k:Int)]:=by simp[z18,List.range_succ,List.filter_append,h]
theorem z8V(m:Int)(k:Nat)(h:bitB m k=false):z18 m (k+1)=z18 m k:=by simp[z18,List.range_succ,List.filter_append,h]
theorem z6N(m:Int)(k:Nat):(z18 m k).length≤k:=by
 have:=List.length_filter_le (bitB m) (List.range k);simpa[z18]using this
theorem z9M(m:Int)(k:Nat)(h:0≤m):((m / 2^k).tmod 2==1)=bitB m k:=by
 have h2:0≤m / 2^k:=Int.ediv_nonneg h (by exact Int.le_of_lt (Int.pow_pos (by decide)));rw[Int.tmod_eq_emod_of_nonneg h2];simp[bitB,Bool.beq_eq_decide_eq]
theorem z3Y(m:Int)(k:Nat)(w:World)(h0:0≤m)(h1:m≤65535)(hk:k<16):
  Calls Tryz.prog 164 #[.int .i64 m,.int .i64 k] w fun e w'=>e=.returned (.bool (bitB m k))∧w'=w:=by
 go_enter Tryz.func164,Tryz.ntmps164
 go_wp2
 go_ret;exact⟨by simp[z9M m k h0],rfl⟩
theorem z7g(m:Int)(w:World)(h0:0≤m)(h1:m≤65535):
  Calls Tryz.prog 247 #[.int .i64 m] w fun e w'=>∃a c,e=.returned (.slice a (z18 m 16).length c)∧w'.ownsRow w.heap.size 2 1 (.slice a (z18 m 16).length c) (z18 m 16).length ((z18 m 16).map (Value.int .i64))∧Below w.heap.size w w':=by
 obtain⟨i0,hi,z,A,C⟩:=info_parts z8U;go_enter Tryz.func247,Tryz.ntmps247
 go_wp2
 go_loopw[3,4] (fun v i wr=>∃k:Nat,k≤16∧i=.int .i64 k∧wr.ownsRow w.heap.size 2 1 v (z18 m k).length ((z18 m k).map (Value.int .i64))∧Below w.heap.size w wr) (fun _ i _=>16-(intOf i).toNat)
 case atStart=>exact⟨0,Nat.zero_le _,rfl,World.ownsRow_lit w #[] 0 (Nat.le_refl _) (by decide) rfl,by go_grown⟩
 case round=>
  obtain⟨k,hk,rfl,ho,hb⟩:=hrel;have D:=z6N m k;have E:=hb.size;by_cases x:k<16
  ·by_cases d:bitB m k=true
   ·go_wp2_with (first|(go_at_call 164;refine(z3Y m k _ h0 h1 x).mono ?_;rintro e w' ⟨rfl,rfl⟩)|(at_builtin;refine wpList_append_own _ rfl _ _ 47 rfl w.heap.size 2 i0 (.int .i64 0) 1 8 Tryz.underlying47 hi z A C rfl (by decide) _ _ _ rfl (ho.alloc _) ⟨_,0,none⟩ 1 1 [.int .i64 k] rfl rfl ?c1 ?c2 ?c3 ?c4 ?c5 ?_))
    case c1=>exact cell_one_new _ _ _
    case c2=>intro u hu;simp at hu;subst hu;rfl
    case c3=>unfold maxLen;omega
    case c4=>omega
    case c5=>simp;omega
    intro v' w1 r q _;have R:Hid (w1.ownsRow w.heap.size 2 1 v' (z18 m (k+1)).length ((z18 m (k+1)).map (Value.int .i64))∧Below w.heap.size w w1):=by
     rw[z7Q m k d];exact⟨by simpa using r,(hb.alloc hb.size _).grown q (by simp;omega) (fun j hj=>(ho.lt j hj).1)⟩
    clear r q ho
    go_wp2
    go_roundw
    case rel=>exact⟨k+1,by omega,by go_num,R.out.1,R.out.2⟩
    case measure=>simp[intOf];omega
   ·have s:bitB m k=false:=by simpa using d
    clear d;rw[←z8V m k s]at ho
    go_wp2_with (first|(go_at_call 164;refine(z3Y m k _ h0 h1 x).mono ?_;rintro e w' ⟨rfl,rfl⟩))
    go_roundw
    case rel=>exact⟨k+1,by omega,by go_num,ho,hb⟩
    case measure=>simp[intOf];omega
  ·have y:k=16:=by omega
   subst y;obtain⟨a1,c1,rfl⟩:=z0p ho
   go_wp2
   go_ret;exact⟨_,_,rfl,ho,hb⟩
def vOk(most x:Int):Bool:=inB x 0 most||x==3
def vf(zs:List Int)(most:Int):Int:=if zs.length=3 then(if zs.all (vOk most)then 0 else 3)else 2
def vfault(zs:List Int)(most:Int):Int:=if inB most 1 2 then vf zs most else 3
def z7L(p q r:Bool):Int:=p.toNat+q.toNat+r.toNat
def z9A(m:Int):Int:=z7L (bitB m 0) (bitB m 1) (bitB m 2)
def cnt(m:Int)(zs:List Int)(v:Int):Int:=z7L (bitB m 0 && (zs.getD 0 0==v)) (bitB m 1 && (zs.getD 1 0==v)) (bitB m 2 && (zs.getD 2 0==v))
def z9N(p q r:Bool):Int:=p.toNat+2*q.toNat+4*r.toNat
def vot(zs:List Int)(v:Int):Int:=z9N (zs.getD 0 0==v) (zs.getD 1 0==v) (zs.getD 2 0==v)
def isQ(m:Int):Bool:=inB m 0 7 && decide (2≤z9A m)
theorem z9O{m:Int}(h:inB m 0 7=true):m=0∨m=1∨m=2∨m=3∨m=4∨m=5∨m=6∨m=7:=by
 have:=of_decide_eq_true h;omega
theorem z4D{zs:List Int}(h:zs.length=3):∃x y z,zs=[x,y,z]:=by
 match zs,h with
 |[x,y,z],_=>exact⟨x,y,z,rfl⟩
theorem z0A{zs:List Int}{most:Int}(h:vf zs most=0):zs.length=3:=by
 unfold vf at h;split at h
 ·assumption
 ·simp at h
theorem z9P(p q r:Bool):inB (z9N p q r) 0 7=true:=by cases p<;>cases q<;>cases r<;>decide
theorem q0H(zs:List Int)(v:Int):inB (vot zs v) 0 7=true:=z9P _ _ _
theorem z8W(p q r:Bool):∀m∈[(0:Int),1,2,3,4,5,6,7],inB (bits .and .i64 m (z9N p q r)) 0 7=true∧z9A (bits .and .i64 m (z9N p q r))=z7L (bitB m 0 && p) (bitB m 1 && q) (bitB m 2 && r)∧((bits .and .i64 m (z9N p q r))==0)=(z7L (bitB m 0 && p) (bitB m 1 && q) (bitB m 2 && r)==0):=by
 cases p<;>cases q<;>cases r<;>decide+kernel
theorem z6f{m:Int}(h:inB m 0 7=true)(zs:List Int)(v:Int):inB (bits .and .i64 m (vot zs v)) 0 7=true∧z9A (bits .and .i64 m (vot zs v))=cnt m zs v∧((bits .and .i64 m (vot zs v))==0)=(cnt m zs v==0):=by
 refine z8W _ _ _ m ?_;rcases z9O h with rfl|rfl|rfl|rfl|rfl|rfl|rfl|rfl<;>simp
theorem z7R(p q r:Bool):0≤z7L p q r∧z7L p q r≤3:=by cases p<;>cases q<;>cases r<;>decide
theorem z15(m:Int)(zs:List Int)(v:Int):0≤cnt m zs v∧cnt m zs v≤3:=z7R _ _ _
theorem q0I{m:Int}(h:inB m 0 7=true):((z18 m 16).length:Int)=z9A m:=by
 rcases z9O h with rfl|rfl|rfl|rfl|rfl|rfl|rfl|rfl<;>decide+kernel
theorem z4N(m:Int)(w:World):
  Calls Tryz.prog 257 #[.int .i64 m] w fun e w'=>e=.returned (.bool (inB m 0 7))∧w'=w:=by
 go_enter Tryz.func257,Tryz.ntmps257
 go_wp2_with (go_at_call 38;refine(z0N _ _ _ _).mono ?_;rintro e w' ⟨rfl,rfl⟩)
 go_ret;exact⟨rfl,rfl⟩
theorem z1R(m:Int)(w:World)(h:inB m 0 7=true):
  Calls Tryz.prog 219 #[.int .i64 m] w fun e w'=>e=.returned (.int .i64 (z9A m))∧w'=w:=by
 rcases z9O h with rfl|rfl|rfl|rfl|rfl|rfl|rfl|rfl;all_goals
  clear h;go_enter Tryz.func219,Tryz.ntmps219
  go_wp2
  go_ret;exact⟨by kernel_rfl,rfl⟩
theorem z5z(m:Int)(w:World):
  Calls Tryz.prog 254 #[.int .i64 m] w fun e w'=>e=.returned (.bool (isQ m))∧w'=w:=by
 by_cases h:inB m 0 7=true
 ·have hn:=fun w=>z1R m w h
  go_enter Tryz.func254,Tryz.ntmps254
  go_wp2_with (first|(go_at_call 257;refine(z4N _ _).mono ?_;rintro e w' ⟨rfl,rfl⟩)|(go_at_call 219;refine(hn _).mono ?_;rintro e w' ⟨rfl,rfl⟩))
  go_ret;exact⟨by simp[isQ,h],rfl⟩
 ·have h':inB m 0 7=false:=by simpa using h
  clear h;go_enter Tryz.func254,Tryz.ntmps254
  go_wp2_with (go_at_call 257;refine(z4N _ _).mono ?_;rintro e w' ⟨rfl,rfl⟩)
  go_ret;exact⟨by simp[isQ,h'],rfl⟩
theorem z6O(zs:List Int)(p:Int→Bool)(k:Nat)(h:(zs.take k).all p=true)(hk:k<zs.length)(hx:p (zs.getD k 0)=true):(zs.take (k+1)).all p=true:=by
 rw[List.take_succ_eq_append_getElem hk,List.all_append,h];have e:zs[k]=zs.getD k 0:=by simp[List.getD,hk]
 rw[e,List.all_cons,hx];rfl
theorem z7S(zs:List Int)(p:Int→Bool)(k:Nat)(hk:k<zs.length)(hx:p (zs.getD k 0)=false):zs.all p=false:=by
 rw[List.all_eq_false];exact⟨zs.getD k 0,by simp[List.getD,hk],by rw[hx];decide⟩
theorem z0G(a:Option Addr)(cap:Nat)(zs:List Int)(c:Int)(w:World)(h:Row .i64 w a zs)(hm:zs.length≤9223372036854775807):
  Calls Tryz.prog 196 #[.slice a zs.length cap,.int .i64 c] w fun e w'=>e=.returned (.int .i64 (vfault zs c))∧w'=w:=by
 by_cases q:inB c 1 2=true
 ·by_cases hl:zs.length=3
  ·have e0:vfault zs c=if zs.all (vOk c)then 0 else 3:=by simp[vfault,vf,q,hl]
   have E1:Hid (zs.all (vOk c)=true→vfault zs c=0):=fun h=>by rw[e0,h];rfl
   have E2:Hid (zs.all (vOk c)=false→vfault zs c=3):=fun h=>by rw[e0,h];rfl
   clear e0;generalize vfault zs c=E at E1 E2⊢;have x:((zs.length:Int) !=3)=false:=by simp[hl]
   go_enter Tryz.func196,Tryz.ntmps196
   go_wp2_with (go_at_call 38;refine(z0N _ _ _ _).mono ?_;rintro e w' ⟨rfl,rfl⟩)
   go_loop[15] (fun i=>∃k:Nat,k≤zs.length∧i=.int .i64 k∧(zs.take k).all (vOk c)=true) (fun i=>zs.length-(intOf i).toNat)
   case atStart=>exact⟨0,Nat.zero_le _,rfl,by simp⟩
   case round=>
    obtain⟨k,hk,rfl,d⟩:=hrel;by_cases r:k<zs.length
    ·obtain⟨b,C,rfl,A,hc⟩:=h k r;have hT:Hid (vOk c (zs.getD k 0)=true→(zs.take (k+1)).all (vOk c)=true):=fun hx=>z6O zs _ k d r hx
     have hF:Hid (vOk c (zs.getD k 0)=false→zs.all (vOk c)=false):=fun hx=>z7S zs _ k r hx
     clear d;generalize zs.getD k 0=z at hc hT hF;by_cases h1:inB z 0 c=true
     ·have hx:vOk c z=true:=by simp[vOk,h1]
      have R:Hid ((zs.take (k+1)).all (vOk c)=true):=hT.out hx;clear hT hF hx
      go_wp2_with (go_at_call 38;refine(z0N _ _ _ _).mono ?_;rintro e w' ⟨rfl,rfl⟩)
      go_round
      case rel=>exact⟨k+1,by omega,by go_num,R.out⟩
      case measure=>simp[intOf];omega
     ·have s:inB z 0 c=false:=by simpa using h1
      clear h1;by_cases h3:z=3
      ·subst h3;have hx:vOk c 3=true:=by simp[vOk]
       have R:Hid ((zs.take (k+1)).all (vOk c)=true):=hT.out hx;clear hT hF hx
       go_wp2_with (go_at_call 38;refine(z0N _ _ _ _).mono ?_;rintro e w' ⟨rfl,rfl⟩)
       go_round
       case rel=>exact⟨k+1,by omega,by go_num,R.out⟩
       case measure=>simp[intOf];omega
      ·have y:(z !=3)=true:=by simpa using h3
       have hx:vOk c z=false:=by simp[vOk,s,h3]
       have R:Hid (zs.all (vOk c)=false):=hF.out hx;clear hT hF hx h3
       go_wp2_with (go_at_call 38;refine(z0N _ _ _ _).mono ?_;rintro e w' ⟨rfl,rfl⟩)
       go_ret;exact⟨by rw[E2.out R.out];rfl,rfl⟩
    ·go_wp2
     go_ret;rw[List.take_of_length_le (by omega)]at d;exact⟨by rw[E1.out d];rfl,rfl⟩
  ·have e0:vfault zs c=2:=by simp[vfault,vf,q,hl]
   rw[e0];have x:((zs.length:Int) !=3)=true:=by simp;omega
   clear hl;go_enter Tryz.func196,Tryz.ntmps196
   go_wp2_with (go_at_call 38;refine(z0N _ _ _ _).mono ?_;rintro e w' ⟨rfl,rfl⟩)
   go_ret;exact⟨rfl,rfl⟩
 ·have h':inB c 1 2=false:=by simpa using q
  have e0:vfault zs c=3:=by simp[vfault,h']
  rw[e0];clear q;go_enter Tryz.func196,Tryz.ntmps196
  go_wp2_with (go_at_call 38;refine(z0N _ _ _ _).mono ?_;rintro e w' ⟨rfl,rfl⟩)
  go_ret;exact⟨rfl,rfl⟩
def votB(p q r:Bool)(k:Nat):Int:=z9N (decide (0<k) && p) (decide (1<k) && q) (decide (2<k) && r)
theorem z9Q(p q r:Bool)(k:Nat)(hk:k<3)(h:[p,q,r].getD k false=true):bits .or .i64 (votB p q r k) (wrap64 (2^k))=votB p q r (k+1):=by
 match k,hk with
 |0,_=>revert h;cases p<;>cases q<;>cases r<;>decide+kernel
 |1,_=>revert h;cases p<;>cases q<;>cases r<;>decide+kernel
 |2,_=>revert h;cases p<;>cases q<;>cases r<;>decide+kernel
theorem z9R(p q r:Bool)(k:Nat)(hk:k<3)(h:[p,q,r].getD k false=false):votB p q r (k+1)=votB p q r k:=by
 match k,hk with
 |0,_=>revert h;cases p<;>cases q<;>cases r<;>decide+kernel
 |1,_=>revert h;cases p<;>cases q<;>cases r<;>decide+kernel
 |2,_=>revert h;cases p<;>cases q<;>cases r<;>decide+kernel
theorem z9S(zs:List Int)(v:Int)(k:Nat)(hk:k<3):[zs.getD 0 0==v,zs.getD 1 0==v,zs.getD 2 0==v].getD k false=(zs.getD k 0==v):=by
 match k,hk with
 |0,_=>rfl
 |1,_=>rfl
 |2,_=>rfl
theorem z1A(a:Option Addr)(cap:Nat)(zs:List Int)(v:Int)(w:World)(h:Row .i64 w a zs)(hl:zs.length=3):
  Calls Tryz.prog 220 #[.slice a 3 cap,.int .i64 v] w fun e w'=>e=.returned (.int .i64 (vot zs v))∧w'=w:=by
 have s:=z9S zs v;have h3:vot zs v=votB (zs.getD 0 0==v) (zs.getD 1 0==v) (zs.getD 2 0==v) 3:=by simp[votB,vot]
 rw[h3];clear h3;generalize (zs.getD 0 0==v)=p at s⊢;generalize (zs.getD 1 0==v)=q at s⊢;generalize (zs.getD 2 0==v)=r at s⊢;generalize hE:votB p q r 3=E;go_enter Tryz.func220,Tryz.ntmps220
 go_wp2
 go_loop[5,10] (fun c i=>∃k:Nat,k≤3∧c=.int .i64 (votB p q r k)∧i=.int .i64 k) (fun _ i=>3-(intOf i).toNat)
 case atStart=>exact⟨0,Nat.zero_le _,rfl,rfl⟩
 case round=>
  obtain⟨k,hk,rfl,rfl⟩:=hrel;by_cases y:k<3
  ·obtain⟨b,G,rfl,D,hc⟩:=h k (by omega);have x:=s k y;by_cases hz:(zs.getD k 0==v)=true
   ·have R:Hid (bits .or .i64 (votB p q r k) (wrap64 (2^k))=votB p q r (k+1)):=z9Q p q r k y (x.trans hz);clear x;generalize zs.getD k 0=z at hc hz;generalize votB p q r k=c at R⊢;generalize hd:votB p q r (k+1)=d at R
    go_wp2
    go_round
    case rel=>exact⟨k+1,by omega,by rw[hd,←R.out],by go_num⟩
    case measure=>simp[intOf];omega
   ·have A:(zs.getD k 0==v)=false:=by simpa using hz
    clear hz;have R:Hid (votB p q r k=votB p q r (k+1)):=(z9R p q r k y (x.trans A)).symm;clear x;generalize zs.getD k 0=z at hc A;generalize votB p q r k=c at R⊢
    go_wp2
    go_round
    case rel=>exact⟨k+1,by omega,by rw[R.out],by go_num⟩
    case measure=>simp[intOf];omega
  ·have C:k=3:=by omega
   subst C;rw[hE]
   go_wp2
   go_ret;exact⟨rfl,rfl⟩
theorem z7h(m:Int)(w:World)(h:inB m 0 7=true):
  Calls Tryz.prog 231 #[.int .i64 m] w fun e w'=>e=.returned (.int .i64 (z9A m))∧Below w.heap.size w w':=by
 have hm:=of_decide_eq_true h;rw[←q0I h];have hle:=z6N m 16;have h1:=z7g m w hm.1 (by omega);generalize (z18 m 16).length=n at*;go_enter Tryz.func231,Tryz.ntmps231
 go_wp2_with fail
 refine h1.mono ?_;rintro e w1 ⟨a,c,rfl,ho,hb⟩;clear ho
 go_wp2
 go_ret;exact⟨rfl,hb⟩
theorem z5A(m:Int)(w:World):
  Calls Tryz.prog 221 #[.int .i64 m] w fun e w'=>e=.returned (.bool (isQ m))∧Below w.heap.size w w':=by
 by_cases h:inB m 0 7=true
 ·have hn:=fun w=>z7h m w h
  go_enter Tryz.func221,Tryz.ntmps221
  go_wp2_with (first|(go_at_call 55;refine(z0E _ _ _ _).mono ?_;rintro e w' ⟨rfl,rfl⟩)|(go_at_call 231;refine(hn _).mono ?_;rintro e w' ⟨rfl,hb⟩))
  go_ret;exact⟨by simp[isQ,h],hb⟩
 ·have h':inB m 0 7=false:=by simpa using h
  clear h;go_enter Tryz.func221,Tryz.ntmps221
  go_wp2_with (go_at_call 55;refine(z0E _ _ _ _).mono ?_;rintro e w' ⟨rfl,rfl⟩)
  go_ret;exact⟨by simp[isQ,h'],Below.refl _ _⟩
theorem z0W(a:Option Addr)(cap:Nat)(zs:List Int)(c:Int)(w:World)(h:Row .i64 w a zs)(hm:zs.length≤9223372036854775807):
  Calls Tryz.prog 163 #[.slice a zs.length cap,.int .i64 c] w fun e w'=>e=.returned (.int .i64 (vf zs c))∧Below w.heap.size w w':=by
 by_cases hl:zs.length=3
 ·have e0:vf zs c=if zs.all (vOk c)then 0 else 3:=by simp[vf,hl]
  have E1:Hid (zs.all (vOk c)=true→vf zs c=0):=fun h=>by rw[e0,h];rfl
  have E2:Hid (zs.all (vOk c)=false→vf zs c=3):=fun h=>by rw[e0,h];rfl
  clear e0;generalize vf zs c=E at E1 E2⊢;rw[hl];go_enter Tryz.func163,Tryz.ntmps163
  go_wp2
  go_loop[5] (fun i=>∃k:Nat,k≤3∧i=.int .i64 k∧(zs.take k).all (vOk c)=true) (fun i=>3-(intOf i).toNat)
  case atStart=>exact⟨0,Nat.zero_le _,rfl,by simp⟩
  case round=>
   obtain⟨k,hk,rfl,d⟩:=hrel;by_cases s:k<3
   ·have q:k<zs.length:=by omega
    obtain⟨b,C,rfl,y,hc⟩:=h k q;have hT:Hid (vOk c (zs.getD k 0)=true→(zs.take (k+1)).all (vOk c)=true):=fun hx=>z6O zs _ k d q hx
    have hF:Hid (vOk c (zs.getD k 0)=false→zs.all (vOk c)=false):=fun hx=>z7S zs _ k q hx
    clear d;generalize zs.getD k 0=z at hc hT hF;by_cases h1:inB z 0 c=true
    ·have hx:vOk c z=true:=by simp[vOk,h1]
     have R:Hid ((zs.take (k+1)).all (vOk c)=true):=hT.out hx;clear hT hF hx
     go_wp2_with (go_at_call 55;refine(z0E _ _ _ _).mono ?_;rintro e w' ⟨rfl,rfl⟩)
     go_round
     case rel=>exact⟨k+1,by omega,by go_num,R.out⟩
     case measure=>simp[intOf];omega
    ·have r:inB z 0 c=false:=by simpa using h1
     clear h1;by_cases h3:z=3
     ·subst h3;have hx:vOk c 3=true:=by simp[vOk]
      have R:Hid ((zs.take (k+1)).all (vOk c)=true):=hT.out hx;clear hT hF hx
      go_wp2_with (go_at_call 55;refine(z0E _ _ _ _).mono ?_;rintro e w' ⟨rfl,rfl⟩)
      go_round
      case rel=>exact⟨k+1,by omega,by go_num,R.out⟩
      case measure=>simp[intOf];omega
     ·have x:(z !=3)=true:=by simpa using h3
      have hx:vOk c z=false:=by simp[vOk,r,h3]
      have R:Hid (zs.all (vOk c)=false):=hF.out hx;clear hT hF hx h3
      go_wp2_with (go_at_call 55;refine(z0E _ _ _ _).mono ?_;rintro e w' ⟨rfl,rfl⟩)
      go_ret;exact⟨by rw[E2.out R.out];rfl,Below.refl _ _⟩
   ·go_wp2
    go_ret;rw[List.take_of_length_le (by omega)]at d;exact⟨by rw[E1.out d];rfl,Below.refl _ _⟩
 ·have e0:vf zs c=2:=by simp[vf,hl]
  rw[e0];have A:((zs.length:Int) !=3)=true:=by simp;omega
  clear hl;go_enter Tryz.func163,Tryz.ntmps163
  go_wp2
  go_ret;exact⟨rfl,Below.refl _ _⟩
def cntB(p q r:Bool)(k:Nat):Int:=z7L (decide (0<k) && p) (decide (1<k) && q) (decide (2<k) && r)
theorem z8X(p q r:Bool)(k:Nat)(hk:k<3)(h:[p,q,r].getD k false=true):cntB p q r k+1=cntB p q r (k+1):=by
 match k,hk with
 |0,_=>revert h;cases p<;>cases q<;>cases r<;>decide+kernel
 |1,_=>revert h;cases p<;>cases q<;>cases r<;>decide+kernel
 |2,_=>revert h;cases p<;>cases q<;>cases r<;>decide+kernel
theorem z9T(p q r:Bool)(k:Nat)(hk:k<3)(h:[p,q,r].getD k false=false):cntB p q r (k+1)=cntB p q r k:=by
 match k,hk with
 |0,_=>revert h;cases p<;>cases q<;>cases r<;>decide+kernel
 |1,_=>revert h;cases p<;>cases q<;>cases r<;>decide+kernel
 |2,_=>revert h;cases p<;>cases q<;>cases r<;>decide+kernel
theorem z8Y(m:Int)(zs:List Int)(v:Int)(k:Nat)(hk:k<3):[bitB m 0 && (zs.getD 0 0==v),bitB m 1 && (zs.getD 1 0==v),bitB m 2 && (zs.getD 2 0==v)].getD k false=(bitB m k && (zs.getD k 0==v)):=by
 match k,hk with
 |0,_=>rfl
 |1,_=>rfl
 |2,_=>rfl
theorem z0I(a:Option Addr)(cap:Nat)(zs:List Int)(m v:Int)(w:World)(h:Row .i64 w a zs)(hl:zs.length=3)(hm:inB m 0 7=true):
  Calls Tryz.prog 109 #[.slice a 3 cap,.int .i64 m,.int .i64 v] w fun e w'=>e=.returned (.int .i64 (cnt m zs v))∧Below w.heap.size w w':=by
 have x:=z8Y m zs v;have J:=of_decide_eq_true hm;have h3:cnt m zs v=cntB (bitB m 0 && (zs.getD 0 0==v)) (bitB m 1 && (zs.getD 1 0==v)) (bitB m 2 && (zs.getD 2 0==v)) 3:=by simp[cntB,cnt]
 rw[h3];clear h3;generalize (bitB m 0 && (zs.getD 0 0==v))=p at x⊢;generalize (bitB m 1 && (zs.getD 1 0==v))=q at x⊢;generalize (bitB m 2 && (zs.getD 2 0==v))=r at x⊢;generalize hE:cntB p q r 3=E;have C:∀k,0≤cntB p q r k∧cntB p q r k≤3:=fun k=>z7R _ _ _
 go_enter Tryz.func109,Tryz.ntmps109
 go_wp2
 go_loopw[7,8] (fun c i wr=>∃k n:Nat,k≤3∧c=.int .i64 (cntB p q r k)∧i=.int .i64 k∧wr=w.drewN n) (fun _ i _=>3-(intOf i).toNat)
 case atStart=>exact⟨0,0,Nat.zero_le _,rfl,rfl,rfl⟩
 case round=>
  obtain⟨k,n,hk,rfl,rfl,rfl⟩:=hrel;by_cases D:k<3
  ·obtain⟨b,M,rfl,L,hc⟩:=h k (by omega);have A:=x k D;have G:=C k;have s:=fun w=>z3Y m k w J.1 (by omega) (by omega)
   by_cases hz:(bitB m k && (zs.getD k 0==v))=true
   ·have R:Hid (cntB p q r k+1=cntB p q r (k+1)):=z8X p q r k D (A.trans hz);clear A;generalize zs.getD k 0=z at hc hz;generalize bitB m k=t at s hz;rw[Bool.and_eq_true]at hz;obtain⟨rfl,hz⟩:=hz;generalize cntB p q r k=c at R G⊢;generalize hd:cntB p q r (k+1)=d at R;clear x C
    go_wp2_with (go_at_call 164;refine(s _).mono ?_;rintro e w' ⟨rfl,rfl⟩)
    go_roundw
    case rel=>exact⟨k+1,_,by omega,by rw[hd,←R.out],by go_num,rfl⟩
    case measure=>simp[intOf];omega
   ·have y:(bitB m k && (zs.getD k 0==v))=false:=by simpa using hz
    clear hz;have R:Hid (cntB p q r k=cntB p q r (k+1)):=(z9T p q r k D (A.trans y)).symm;clear A;generalize zs.getD k 0=z at hc y;generalize bitB m k=t at s y;generalize cntB p q r k=c at R G⊢;clear x C
    cases t
    ·clear y
     go_wp2_with (go_at_call 164;refine(s _).mono ?_;rintro e w' ⟨rfl,rfl⟩)
     go_roundw
     case rel=>exact⟨k+1,_,by omega,by rw[R.out],by go_num,rfl⟩
     case measure=>simp[intOf];omega
    ·rw[Bool.true_and]at y
     go_wp2_with (go_at_call 164;refine(s _).mono ?_;rintro e w' ⟨rfl,rfl⟩)
     go_roundw
     case rel=>exact⟨k+1,_,by omega,by rw[R.out],by go_num,rfl⟩
     case measure=>simp[intOf];omega
  ·have I:k=3:=by omega
   subst I;rw[hE]
   go_wp2
   go_ret;exact⟨rfl,below_drewN (Below.refl _ _) _⟩
def Lies(w:World)(a:Option Addr)(xs:List Value):Prop:=
 xs=[]∨∃b off,a=some ⟨b,off,none⟩∧b<w.heap.size∧∀i x,xs[i]?=some x→w.cell? ⟨b,off+i,none⟩=some x
theorem Lies.below{w w':World}{a:Option Addr}{xs:List Value}(h:Lies w a xs)(hb:Below w.heap.size w w'):Lies w' a xs:=by
 rcases h with h|⟨b,off,ha,hlt,hc⟩
 ·exact Or.inl h
 ·exact Or.inr ⟨b,off,ha,Nat.lt_of_lt_of_le hlt hb.size,fun i x hx=>by rw[hb.cell (p:=⟨b,off+i,none⟩) hlt];exact hc i x hx⟩
theorem Lies.own{w:World}{base e size n c:Nat}{a:Option Addr}{xs:List Value}(h:w.ownsRow base e size (.slice a n c) n xs):Lies w a xs:=by
 rcases h.2 with⟨he,hn⟩|⟨g,cap,cur,he,hb,hg,r⟩
 ·left;have:=h.1;rw[hn,Nat.zero_mul]at this;exact List.eq_nil_of_length_eq_zero this
 ·right;simp only[Value.slice.injEq,true_and]at he;obtain⟨rfl,rfl⟩:=he;refine⟨g,0,rfl,(Array.getElem?_eq_some_iff.1 hg).1,fun i x hx=>?_⟩;have hi:i<n*size:=by rw[←h.1];exact(List.getElem?_eq_some_iff.1 hx).1
  rw[Nat.zero_add,h.cellAt i hi,hx]
structure ActD where
 kind:Int
 key:Int
 val:Int
def z0i:ActD:=⟨0,0,0⟩
def ActD.cells(x:ActD):List Value:=[.int .i64 x.kind,.int .i64 x.key,.int .i64 x.val]
def z0j(xs:List ActD):List Value:=xs.flatMap ActD.cells
def ActRow(w:World)(a:Option Addr)(xs:List ActD):Prop:=Lies w a (z0j xs)
theorem z0J(xs:List ActD):(z0j xs).length=xs.length*3:=by
 induction xs with
 |nil=>rfl
 |cons x xs ih=>simp only[z0j,List.flatMap_cons,List.length_append,List.length_cons]at ih⊢;rw[ih];simp[ActD.cells];omega
theorem z5B(xs:List ActD):∀ (i:Nat),i<xs.length→(z0j xs)[i*3]?=some (.int .i64 (xs.getD i z0i).kind)∧(z0j xs)[i*3+1]?=some (.int .i64 (xs.getD i z0i).key)∧(z0j xs)[i*3+2]?=some (.int .i64 (xs.getD i z0i).val):=by
 induction xs with
 |nil=>intro i h;simp at h
 |cons x xs ih=>
  intro i h
  cases i with
  |zero=>simp[z0j,ActD.cells]
  |succ i=>
   have e:z0j (x::xs)=x.cells++z0j xs:=rfl;have hl:x.cells.length=3:=rfl;obtain⟨h1,h2,h3⟩:=ih i (by simpa using h);rw[e,List.getElem?_append_right (by omega),List.getElem?_append_right (by omega),List.getElem?_append_right (by omega),hl,show(i+1)*3-3=i*3 by omega,show(i+1)*3+1-3=i*3+1 by omega,show(i+1)*3+2-3=i*3+2 by omega];simpa[List.getD]using⟨h1,h2,h3⟩
theorem ActRow.below{w w':World}{a:Option Addr}{xs:List ActD}(h:ActRow w a xs)(hb:Below w.heap.size w w'):ActRow w' a xs:=Lies.below h hb
theorem ActRow.at{w:World}{a:Option Addr}{xs:List ActD}(h:ActRow w a xs)(i:Nat)(hi:i<xs.length):
  ∃b off,a=some ⟨b,off,none⟩∧b<w.heap.size∧w.cell? ⟨b,off+i*3,none⟩=some (.int .i64 (xs.getD i z0i).kind)∧w.cell? ⟨b,off+i*3+1,none⟩=some (.int .i64 (xs.getD i z0i).key)∧w.cell? ⟨b,off+i*3+2,none⟩=some (.int .i64 (xs.getD i z0i).val):=by
 obtain⟨h1,h2,h3⟩:=z5B xs i hi;rcases h with h|⟨b,off,ha,hlt,hc⟩
 ·have:=z0J xs;rw[h]at this;simp at this;omega
 ·exact⟨b,off,ha,hlt,hc _ _ h1,by rw[Nat.add_assoc];exact hc _ _ h2,by rw[Nat.add_assoc];exact hc _ _ h3⟩
theorem z20:(Tryz.prog.info? 163).map (fun i=>(i.zero,i.size,i.bytes))=some (some (.agg #[.int .i64 0,.int .i64 0,.int .i64 0]),3,24):=by kernel_rfl
structure Lat (w:World) where
 val:World
 isBelow:Below w.heap.size w val
def z3s:Op→Bool
 | .move _=>true
 | .assign _=>true
 | .pick _ _ _=>true
 | .load _ _=>true
 | .fieldAddr _ _ _=>true
 | .field _ _ _=>true
 | .binOp _ _ _ _ _=>true
 | .unOp _ _ _=>true
 | .convert _ _ _=>true
 | .indexAddr _ _ _=>true
 | .extract _ _=>true
 | .nilCheck _=>true
 | .build _ _=>true
 |_=>false
theorem z42{P:Program}{s:Sem Value}{w w':World}{n:Next}(h:(do let x←s;pure (Next.value x):Sem Next).run P w=.ok n w'):∃v,n=.value v:=by
 rw[Sem.run_bind]at h
 cases hs:s.run P w with
 |ok x w1=>
  rw[hs]at h;simp[Result.andThen,Sem.run_pure]at h;exact⟨x,h.1.symm⟩
 |halt x w1=>
  rw[hs]at h;simp[Result.andThen]at h
theorem z5C{P:Program}{g:Program→Sem (Option Bool)}{u:Unsupported}{x:Value}{w w':World}{n:Next}
  (h:(do let p←program;let r←g p;if(r !=some false)=true then do unsupported u;pure (Next.value x)else pure (Next.value x):Sem Next).run P w=.ok n w'):∃v,n=.value v:=by
 simp only[Sem.run_bind,run_program,Result.andThen_ok]at h
 cases hs:(g P).run P w with
 |ok r w1=>
  rw[hs]at h;simp only[Result.andThen_ok]at h;split at h
  ·rw[Sem.run_bind]at h
   cases hu:(unsupported u:Sem Unit).run P w1 with
   |ok r w2=>rw[hu]at h;simp[Sem.run_pure]at h;exact⟨_,h.1.symm⟩
   |halt r w2=>rw[hu]at h;simp[Result.andThen]at h
  ·simp[Sem.run_pure]at h;exact⟨_,h.1.symm⟩
 |halt r w1=>rw[hs]at h;simp[Result.andThen]at h
theorem z3Z{P:Program}{o:Oper}{ρ:Operand→Value}{w w':World}{n:Next}(hp:z3s o.op=true)(h:(execOp ρ o).run P w=.ok n w'):∃v,n=.value v:=by
  unfold execOp at h
  cases hop:o.op<;>rw[hop]at hp<;>simp only[z3s,Bool.false_eq_true]at hp<;>rw[hop]at h<;>dsimp only at h
  all_goals first
    |exact z42 h
    |(simp[Sem.run_pure]at h;exact⟨_,h.1.symm⟩)
    | (split at h
       all_goals first
         |(simp[Sem.run_pure]at h;exact⟨_,h.1.symm⟩)
         |(simp[go_sem]at h;done)
         | (split at h
            all_goals first
              |(simp[Sem.run_pure]at h;exact⟨_,h.1.symm⟩)
              |(simp[go_sem]at h;done)
              | (exact z5C (g:=fun p=>nilAhead (p.types.size + Made.depth) _ _ _) h)))
    | (rw [Sem.run_bind] at h
       revert h
       cases (asBool (ρ _)).run P w with
       |ok x w1=>intro h;simp[Result.andThen,Sem.run_pure]at h;exact⟨_,h.1.symm⟩
       | halt x w1=>intro h;simp [Result.andThen] at h)
section
variable {P:Program} {ops:Array Oper} {Q:Exit→Act→World→Prop} {S:World→Prop}
def z3H(ops:Array Oper):List Nat→Array Bool→Bool
 |[],_=>true
 |i::r,l=>Region.free .any ops l i && (Region.ready .any ops l).contains i && z3H ops r (l.setIfInBounds i true)
def z21:List Nat→Array Bool→Array Bool
 |[],l=>l
 |i::r,l=>z21 r (l.setIfInBounds i true)
def z5x(rs:List (Nat × Nat)):List Nat:=rs.flatMap fun r=>(List.range r.2).map (r.1+ ·)
def z24(l:List Oper)(rs:List (Nat × Nat)):List Oper:=rs.flatMap fun r=>(l.drop r.1).take r.2
theorem pkE:(∀ (l:List Oper) (rs:List (Nat × Nat)),z24 l rs=rs.flatMap fun r=>(l.drop r.1).take r.2)∧(∀l:List Oper,l.toArray.toList=l)∧
  (∀ (f:Nat × Nat→List Oper) (x:Nat × Nat) (xs:List (Nat × Nat)),(x::xs).flatMap f=f x++xs.flatMap f)∧(∀f:Nat × Nat→List Oper,List.flatMap f []=[])∧
  (∀ (o:Oper) (l:List Oper) (i:Nat),(o::l).drop (i+1)=l.drop i)∧(∀l:List Oper,l.drop 0=l)∧(∀ (o:Oper) (l:List Oper) (i:Nat),(o::l).take (i+1)=o::l.take i)∧(∀l:List Oper,l.take 0=[])∧
  (∀ (o:Oper) (l m:List Oper),(o::l)++m=o::(l++m))∧(∀l:List Oper,[]++l=l)∧(∀l:List Oper,l++[]=l):=
 ⟨fun _ _=>rfl,fun _=>rfl,fun _ _ _=>List.flatMap_cons,fun _=>rfl,fun _ _ _=>rfl,fun _=>rfl,fun _ _ _=>rfl,fun _=>rfl,fun _ _ _=>rfl,fun _=>rfl,fun _=>List.append_nil _⟩
theorem z7T(hs:Region.noSelect ops=true)(hQ:∀c a d v w,Q (.panic c) (a.put d v) w→Q (.panic c) a w):
  ∀ (y:List Nat) (os:List Oper) (l:Array Bool) (a:Act) (w:World) (q:Nat),y.map (ops[·]?)=os.map some→os.all (fun o=>z3s o.op)=true→z3H ops y l=true→S w→
   wpQuiet P ops S (fun a'=>wpAnyH P .any ops Q S q (z21 y l) a' w) os a→wpAnyH P .any ops Q S (q+y.length) l a w:=by
 intro y;induction y with
 |nil=>
  intro os l a w q s _ _ _ h
  cases os with
  |nil=>exact h
  |cons o os=>simp at s
 |cons i r ih=>
  intro os l a w q s z C hS h
  cases os with
  |nil=>simp at s
  |cons o os=>
   simp only[List.map_cons,List.cons.injEq]at s;simp only[List.all_cons,Bool.and_eq_true]at z;simp only[z3H,Bool.and_eq_true]at C;obtain⟨⟨hf,hr⟩,A⟩:=C;simp only[wpQuiet]at h;by_cases hw:Region.wanted o (yielded ops a.tmps)=true
   ·rw[if_pos hw]at h;obtain⟨v,hv,hk⟩:=h;refine wpAnyH_take (i:=i) (oi:=o) (v:=v) s.1 hs hf hr (fun c a w=>hQ c a _ _ w) (Or.inl ⟨hw,fun u hu=>?_⟩) hS (ih os _ _ w q s.2 z.2 A hS hk);have hq:=hv u hu;unfold Oper.quietAt at hq
    cases hrun:(execOp a.eval o).run P u with
    |ok n u'=>
     obtain⟨x,rfl⟩:=z3Z z.1 hrun;rw[hrun]at hq;obtain⟨e1,e2⟩:=hq;rw[e1,e2]
    |halt x u'=>
     rw[hrun]at hq;exact hq.elim
   ·rw[if_neg hw]at h;have D:Region.wanted o (yielded ops a.tmps)=false:=by simpa using hw
    exact wpAnyH_take (i:=i) (oi:=o) (v:=undef) s.1 hs hf hr (fun c a w=>hQ c a _ _ w) (Or.inr ⟨D,rfl⟩) hS (ih os _ _ w q s.2 z.2 A hS h)
theorem z7i(hs:Region.noSelect ops=true)(hQ:∀c a d v w,Q (.panic c) (a.put d v) w→Q (.panic c) a w)(i:Nat)(d:Option Tmp){l:Array Bool}{a:Act}{w:World}{fuel:Nat}
  (hd:(ops[i]?).map (·.dst)=some d) (hok:z3H ops [i] l=true) (hw:(ops[i]?).map (fun o=>Region.wanted o (yielded ops a.tmps))=some false) (hS:S w)
  (h:wpAnyH P .any ops Q S fuel (z21 [i] l) (a.put d undef) w):wpAnyH P .any ops Q S (fuel+1) l a w:=by
 cases ho:ops[i]? with
 |none=>rw[ho]at hd;simp at hd
 |some o=>
  rw[ho]at hd hw;simp only[Option.map_some,Option.some.injEq]at hd hw;subst hd;simp only[z3H,Bool.and_eq_true,Bool.and_true]at hok;exact wpAnyH_take (i:=i) (oi:=o) (v:=undef) ho hs hok.1 hok.2 (fun c a w=>hQ c a _ _ w) (Or.inr ⟨hw,rfl⟩) hS h
theorem z7j(i:Nat)(d:Option Tmp)(f:Nat)(args:Array Value){l:Array Bool}{a:Act}{w:World}{fuel:Nat}
  (hd:(ops[i]?).map (·.dst)=some d) (hr:Region.ready .any ops l=[i]) (hw:(ops[i]?).map (fun o=>Region.wanted o (yielded ops a.tmps))=some true)
  (hrun:(ops[i]?).map (fun o=>(execOp a.eval o).run P w)=some (.ok (.enter f args) w))
  (hc:Calls P f args w (fun e w'=>∃v,e=.returned v∧S w'∧wpAnyH P .any ops Q S fuel (z21 [i] l) (a.put d v) w')):wpAnyH P .any ops Q S (fuel+1) l a w:=by
 cases ho:ops[i]? with
 |none=>rw[ho]at hd;simp at hd
 |some o=>
  rw[ho]at hd hw hrun;simp only[Option.map_some,Option.some.injEq]at hd hw hrun;subst hd;refine wpAnyH_all hr (by simp) (fun j hj=>?_);simp only[List.mem_singleton]at hj;subst hj;unfold wpOp;simp only[ho,hw,if_true];refine .inl ?_;unfold Oper.wp;rw[hrun];simp only[Oper.upon];refine hc.mono fun e w' he=>?_
  obtain⟨v,rfl,h1,h2⟩:=he;exact⟨h1,h2⟩
theorem z7U(rs:List (Nat × Nat))(fuel:Nat){F:Nat}{l:Array Bool}{a:Act}{w:World}(hF:F=fuel+(z5x rs).length)(hs:Region.noSelect ops=true)(hm:(z5x rs).map (ops[·]?)=(z24 ops.toList rs).map some)
  (hp:(z24 ops.toList rs).all (fun o=>z3s o.op)=true) (hok:z3H ops (z5x rs) l=true) (hS:S w)
  (h:wpQuiet P ops S (fun a'=>wpAnyH P .any ops (NoPanic Q) S fuel (z21 (z5x rs) l) a' w) (z24 ops.toList rs) a):wpAnyH P .any ops (NoPanic Q) S F l a w:=by
 subst hF;exact z7T hs (fun _ _ _ _ _ h=>h) (z5x rs) _ l a w fuel hm hp hok hS h
theorem z9U(i:Nat)(d:Option Tmp)(fuel:Nat){F:Nat}{l:Array Bool}{a:Act}{w:World}(hF:F=fuel+1)(hs:Region.noSelect ops=true)
  (hd:(ops[i]?).map (·.dst)=some d) (hok:z3H ops [i] l=true) (hw:(ops[i]?).map (fun o=>Region.wanted o (yielded ops a.tmps))=some false) (hS:S w)
  (h:wpAnyH P .any ops (NoPanic Q) S fuel (z21 [i] l) (a.put d undef) w):wpAnyH P .any ops (NoPanic Q) S F l a w:=by
 subst hF;exact z7i hs (fun _ _ _ _ _ h=>h) i d hd hok hw hS h
theorem z9V(i:Nat)(d:Option Tmp)(f:Nat)(args:Array Value)(fuel:Nat){F:Nat}{l:Array Bool}{a:Act}{w:World}(hF:F=fuel+1)
  (hd:(ops[i]?).map (·.dst)=some d) (hr:Region.ready .any ops l=[i]) (hw:(ops[i]?).map (fun o=>Region.wanted o (yielded ops a.tmps))=some true)
  (hrun:(ops[i]?).map (fun o=>(execOp a.eval o).run P w)=some (.ok (.enter f args) w))
  (hc:Calls P f args w (fun e w'=>∃v,e=.returned v∧S w'∧wpAnyH P .any ops (NoPanic Q) S fuel (z21 [i] l) (a.put d v) w')):wpAnyH P .any ops (NoPanic Q) S F l a w:=by
 subst hF;exact z7j i d f args hd hr hw hrun hc
theorem sgr(rs:List (Nat × Nat))(fuel:Nat){F:Nat}{l:Array Bool}{a:Act}{w:World}(h5:(F,Region.noSelect ops,(z5x rs).map (ops[·]?),(z24 ops.toList rs).all (fun o=>z3s o.op),z3H ops (z5x rs) l)=(fuel+(z5x rs).length,true,(z24 ops.toList rs).map some,true,true))(hS:S w)
  (h:wpQuiet P ops S (fun a'=>wpAnyH P .any ops (NoPanic Q) S fuel (z21 (z5x rs) l) a' w) (z24 ops.toList rs) a):wpAnyH P .any ops (NoPanic Q) S F l a w:=by
 simp only[Prod.mk.injEq]at h5;exact z7U rs fuel h5.1 h5.2.1 h5.2.2.1 h5.2.2.2.1 h5.2.2.2.2 hS h
theorem ska(i:Nat)(d:Option Tmp)(fuel:Nat){F:Nat}{l:Array Bool}{a:Act}{w:World}(h5:(F,Region.noSelect ops,(ops[i]?).map (·.dst),z3H ops [i] l,(ops[i]?).map (fun o=>Region.wanted o (yielded ops a.tmps)))=(fuel+1,true,some d,true,some false))(hS:S w)
  (h:wpAnyH P .any ops (NoPanic Q) S fuel (z21 [i] l) (a.put d undef) w):wpAnyH P .any ops (NoPanic Q) S F l a w:=by
 simp only[Prod.mk.injEq]at h5;exact z9U i d fuel h5.1 h5.2.1 h5.2.2.1 h5.2.2.2.1 h5.2.2.2.2 hS h
theorem cla(i:Nat)(d:Option Tmp)(f:Nat)(args:Array Value)(fuel:Nat){F:Nat}{l:Array Bool}{a:Act}{w:World}(h5:(F,(ops[i]?).map (·.dst),Region.ready .any ops l,(ops[i]?).map (fun o=>Region.wanted o (yielded ops a.tmps)),(ops[i]?).map (fun o=>(execOp a.eval o).run P w))=(fuel+1,some d,[i],some true,some (.ok (.enter f args) w)))
  (hc:Calls P f args w (fun e w'=>∃v,e=.returned v∧S w'∧wpAnyH P .any ops (NoPanic Q) S fuel (z21 [i] l) (a.put d v) w')):wpAnyH P .any ops (NoPanic Q) S F l a w:=by
 simp only[Prod.mk.injEq]at h5;exact z9V i d f args fuel h5.1 h5.2.1 h5.2.2.1 h5.2.2.2.1 h5.2.2.2.2 hc
def ThenGo(Q:Exit→Act→World→Prop)(K:Act→World→Prop):Exit→Act→World→Prop
 | .normal,a,w=>K a w
 |e,a,w=>NoPanic Q e a w
theorem ThenGo.to{K:Act→World→Prop}{a:Act}{w:World}(h:K a w):ThenGo Q K .normal a w:=h
theorem q0J(i:Nat)(o:Oper)(fuel:Nat){F:Nat}{l:Array Bool}{a:Act}{w:World}(hF:F=fuel+1)(ho:ops[i]?=some o)(hr:Region.ready .any ops l=[i])
  (h:wpList P ops (ThenGo Q (fun a' w'=>S w'∧wpAnyH P .any ops (NoPanic Q) S fuel (z21 [i] l) a' w')) [o] a w):wpAnyH P .any ops (NoPanic Q) S F l a w:=by
 subst hF;refine wpAnyH_all hr (by simp) (fun j hj=>?_);simp only[List.mem_singleton]at hj;subst hj;unfold wpOp;simp only[ho];simp only[wpList]at h;split at h
 ·rename_i hw
  rw[if_pos hw];rcases h with h|⟨h1,h2⟩
  ·left;unfold Oper.wp at h⊢;revert h;generalize (execOp a.eval o).run P w=r;intro h;unfold Oper.upon at h⊢;split at h
   ·exact h
   ·exact h
   ·exact h
   ·refine Calls.mono h fun e w' he=>?_
    cases e<;>exact he
   ·exact h
   ·exact h
   ·exact h
  ·exact Or.inr ⟨h1,h2⟩
 ·rename_i hw
  rw[if_neg hw];exact h
theorem ona(i:Nat){o:Oper}(fuel:Nat){F:Nat}{l:Array Bool}{a:Act}{w:World}(ho:ops[i]?=some o)(h2:(F,Region.ready .any ops l)=(fuel+1,[i]))
  (h:wpList P ops (ThenGo Q (fun a' w'=>S w'∧wpAnyH P .any ops (NoPanic Q) S fuel (z21 [i] l) a' w')) [o] a w):wpAnyH P .any ops (NoPanic Q) S F l a w:=by
 simp only[Prod.mk.injEq]at h2;exact q0J i o fuel h2.1 ho h2.2 h
theorem z0e{F:Nat}{l:Array Bool}{a:Act}{w:World}(hr:Region.ready .any ops l=[])(h:Q .normal a w):wpAnyH P .any ops (NoPanic Q) S F l a w:=wpAnyH_done hr (NoPanic.normal h) F
theorem z0b{id:Nat}{a:Act}{w:World}(hm:P.follows .mixedOrders=true)
  (h:wpAnyH P .any ops (NoPanic Q) S ops.size (Array.replicate ops.size false) a w.drew):(Code.region id ops true).wp P Q a w:=
 wp_region_noPanic (wp_region_held hm h)
theorem z6g:∀c a d v w,NoPanic Q (.panic c) (Act.put a d v) w→NoPanic Q (.panic c) a w:=fun _ _ _ _ _ h=>h
end
theorem z0a{w:World}{a:Addr}{v:Value}(h:w.cell? a=some v):∀u:Lat w,u.val.cell? a=some v:=fun u=>by
 rw[u.isBelow.cell (World.block_lt_of_cell? w a h)];exact h
theorem z0u{w W w':World}(h:Below w.heap.size w W)(hb:Below W.heap.size W w'):Below w.heap.size w w':=h.trans (hb.mono h.size)
def inW(n lo hi:Int):Bool:=decide (lo≤n) && decide (n≤hi)
def actF(x:ActD):Int:=
 if(inW x.kind 1 4=false)∨((x.kind==3)=true∧(x.val !=0)=true)then 1
 else if inW x.key 1 20=false∨inW x.val (-1000) 1000=false then 3 else 0
def z2m:List ActD→Int
 |[]=>0
 |x::r=>if actF x=0 then z2m r else actF x
def txnF(i s q:Int)(zs:List ActD):Int:=
 if inW i 1 200=false∨inW s 1 9=false∨inW q 1 99=false then 3
 else if zs.length<1∨4<zs.length then 2 else z2m zs
theorem z30(zs:List ActD):∀k,(∀j,j<k→actF (zs.getD j z0i)=0)→k<zs.length→actF (zs.getD k z0i)≠0→z2m zs=actF (zs.getD k z0i):=by
 induction zs with
 |nil=>intro k _ h;simp at h
 |cons x r ih=>
  intro k h0 hk hne
  cases k with
  |zero=>simp[List.getD]at hne⊢;simp[z2m,hne]
  |succ k=>
   have hx:actF x=0:=by simpa[List.getD]using h0 0 (by omega)
   have:=ih k (fun j hj=>by simpa[List.getD]using h0 (j+1) (by omega)) (by simpa using hk) (by simpa[List.getD]using hne);simp only[z2m,hx,if_true];rw[this];simp[List.getD]
theorem z4O(zs:List ActD)(h:∀j,j<zs.length→actF (zs.getD j z0i)=0):z2m zs=0:=by
 induction zs with
 |nil=>rfl
 |cons x r ih=>
  have hx:actF x=0:=by simpa[List.getD]using h 0 (by simp)
  simp only[z2m,hx,if_true];exact ih (fun j hj=>by simpa[List.getD]using h (j+1) (by simpa using hj))
theorem z1B(n lo hi:Int)(w:World):
    Calls Tryz.prog 38 #[.int .i64 n,.int .i64 lo,.int .i64 hi] w fun e w'=>e=.returned (.bool (inW n lo hi))∧w'=w:=by
  unfold inW
  cases h1:decide (lo≤n)<;>cases h2:decide (n≤hi)<;>simp only[decide_eq_true_eq,decide_eq_false_iff_not]at h1 h2<;>
  (go_enter Tryz.func38,Tryz.ntmps38
   go_wp2
   go_ret;exact ⟨rfl,rfl⟩)
theorem z31(n lo hi:Int)(w:World):
    Calls Tryz.prog 55 #[.int .i64 n,.int .i64 lo,.int .i64 hi] w fun e w'=>e=.returned (.bool (inW n lo hi))∧w'=w:=by
  unfold inW
  cases h1:decide (lo≤n)<;>cases h2:decide (n≤hi)<;>simp only[decide_eq_true_eq,decide_eq_false_iff_not]at h1 h2<;>
  (go_enter Tryz.func55,Tryz.ntmps55
   go_wp2
   go_ret;exact ⟨rfl,rfl⟩)
theorem z5D(k y v:Int):
  (inW k 1 4=false∧actF ⟨k,y,v⟩=1)∨(inW k 1 4=true∧(k==3)=true∧(v !=0)=true∧actF ⟨k,y,v⟩=1)∨
  (inW k 1 4=true∧(((k == 3)=true∧(v != 0)=false)∨(k == 3)=false) ∧
   ((inW y 1 20=false∧actF ⟨k,y,v⟩=3)∨(inW y 1 20=true∧inW v (-1000) 1000=false∧actF ⟨k,y,v⟩=3)∨(inW y 1 20=true∧inW v (-1000) 1000=true∧actF ⟨k,y,v⟩=0))):=by
 unfold actF
 cases h1:inW k 1 4<;>cases h2:(k==3)<;>cases h3:(v !=0)<;>cases h4:inW y 1 20<;>cases h5:inW v (-1000) 1000<;>simp[h1,h2,h3,h4,h5]
theorem z3t(k y v:Int)(w:World):
    Calls Tryz.prog 191 #[.agg #[.int .i64 k,.int .i64 y,.int .i64 v]] w fun e w'=>e=.returned (.int .i64 (actF ⟨k,y,v⟩))∧Below w.heap.size w w':=by
  rcases z5D k y v with⟨h1,h⟩|⟨h1,h2,h3,h⟩|⟨h1,⟨h2,h3⟩|h2,⟨h4,h⟩|⟨h4,h5,h⟩|⟨h4,h5,h⟩⟩<;>rw[h]<;>clear h<;>
  (go_enter Tryz.func191,Tryz.ntmps191
   go_wp2_with (go_at_call 38;refine(z1B _ _ _ _).mono ?_;rintro e w' ⟨rfl,rfl⟩)
   go_ret;exact ⟨rfl,by go_grown⟩)
theorem z5E(b o:Nat)(k y v:Int)(w:World)(h0:w.cell? ⟨b,o,none⟩=some (.int .i64 k))(h1:w.cell? ⟨b,o+1,none⟩=some (.int .i64 y))(h2:w.cell? ⟨b,o+2,none⟩=some (.int .i64 v)):
    Calls Tryz.prog 189 #[.pointer (some ⟨b,o,none⟩)] w fun e w'=>e=.returned (.int .i64 (actF ⟨k,y,v⟩))∧w'=w:=by
  rcases z5D k y v with⟨h1,h⟩|⟨h1,h2,h3,h⟩|⟨h1,⟨h2,h3⟩|h2,⟨h4,h⟩|⟨h4,h5,h⟩|⟨h4,h5,h⟩⟩<;>rw[h]<;>clear h<;>
  (go_enter Tryz.func189,Tryz.ntmps189
   go_wp2_with (go_at_call 55;refine(z31 _ _ _ _).mono ?_;rintro e w' ⟨rfl,rfl⟩)
   go_ret;exact ⟨rfl,rfl⟩)
theorem z5F(i s q:Int)(zs:List ActD):
  (inW i 1 200=false∧txnF i s q zs=3)∨(inW i 1 200=true∧inW s 1 9=false∧txnF i s q zs=3)∨(inW i 1 200=true∧inW s 1 9=true∧inW q 1 99=false∧txnF i s q zs=3)∨
  (inW i 1 200=true∧inW s 1 9=true∧inW q 1 99=true∧((zs.length<1∧txnF i s q zs=2)∨(4<zs.length∧txnF i s q zs=2)∨(¬zs.length<1∧¬4<zs.length∧txnF i s q zs=z2m zs))):=by
 unfold txnF
 cases h1:inW i 1 200<;>cases h2:inW s 1 9<;>cases h3:inW q 1 99<;>simp only[Bool.false_eq_true,Bool.true_eq_false,reduceCtorEq,if_true,if_false,false_or,or_false,true_or,or_true,false_and,true_and,and_true,and_false]
 by_cases h4:zs.length<1<;>by_cases h5:4<zs.length<;>simp only[h4,h5,if_true,if_false,or_true,true_or,or_false,false_or,not_true_eq_false,not_false_eq_true,false_and,true_and,and_self]
theorem z3u(i s q:Int)(a:Option Addr)(cap:Nat)(zs:List ActD)(w:World)(h:ActRow w a zs)(hl:zs.length≤1048576):
    Calls Tryz.prog 145 #[.agg #[.int .i64 i,.int .i64 s,.int .i64 q,.slice a zs.length cap]] w fun e w'=>e=.returned (.int .i64 (txnF i s q zs))∧Below w.heap.size w w':=by
  rcases z5F i s q zs with⟨h1,h⟩|⟨h1,h2,h⟩|⟨h1,h2,h3,h⟩|⟨h1,h2,h3,⟨h4,h⟩|⟨h4,h⟩|⟨h4,h5,hf⟩⟩
  all_goals try
    (rw [h];clear h
     go_enter Tryz.func145,Tryz.ntmps145
     go_wp2_with (go_at_call 38;refine(z1B _ _ _ _).mono ?_;rintro e w' ⟨rfl,rfl⟩)
     go_ret;exact ⟨rfl,by go_grown⟩)
  rw[hf];clear hf;go_enter Tryz.func145,Tryz.ntmps145
  go_wp2_with (go_at_call 38;refine(z1B _ _ _ _).mono ?_;rintro e w' ⟨rfl,rfl⟩)
  go_loopw[35] (fun j wr=>∃k:Nat,k≤zs.length∧j=.int .i64 k∧Below w.heap.size w wr∧Hid (∀j,j<k→actF (zs.getD j z0i)=0)) (fun j _=>zs.length-(intOf j).toNat)
  case atStart=>exact⟨0,Nat.zero_le _,rfl,by go_grown,fun j hj=>absurd hj (Nat.not_lt_zero _)⟩
  case round=>
    obtain⟨k,hk,rfl,hb,HA⟩:=hrel;by_cases C:k<zs.length
    · obtain⟨b,M,rfl,J,x,y,A⟩:=(h.below hb).at k C;have L:=hb.size;by_cases hF:actF (zs.getD k z0i)=0
      · have HB:Hid (∀j,j<k+1→actF (zs.getD j z0i)=0):=by
          intro j hj;by_cases D:j=k
          · subst D;exact hF
          · exact HA.out j (by omega)
        have c:=z3t (zs.getD k z0i).kind (zs.getD k z0i).key (zs.getD k z0i).val;rw[show actF ⟨(zs.getD k z0i).kind,(zs.getD k z0i).key,(zs.getD k z0i).val⟩=0 from hF]at c;clear HA hF;generalize zs.getD k z0i=z at x y A c
        go_wp2_with (go_at_call 191;refine(c _).mono ?_;rintro e w' ⟨rfl,d⟩)
        go_roundw
        case rel=>exact⟨k+1,by omega,by go_num,z0u (by go_grown) d,HB⟩
        case measure=>simp[intOf];omega
      · have E:Hid (z2m zs=actF (zs.getD k z0i)):=z30 zs k HA.out C hF;have c:=z3t (zs.getD k z0i).kind (zs.getD k z0i).key (zs.getD k z0i).val;have I:(actF (zs.getD k z0i) !=0)=true:=by simpa using hF
        change∀w,Calls _ _ _ w fun e w'=>e=.returned (.int .i64 (actF (zs.getD k z0i)))∧_ at c
        clear HA hF;generalize actF (zs.getD k z0i)=r at c E I;generalize zs.getD k z0i=z at x y A c
        go_wp2_with (go_at_call 191;refine(c _).mono ?_;rintro e w' ⟨rfl,d⟩)
        go_ret;rw[E.out];exact⟨rfl,z0u (by go_grown) d⟩
    · have G:k=zs.length:=by omega
      subst G;have E:Hid (z2m zs=0):=z4O zs HA.out;clear HA
      go_wp2
      go_ret;rw[E.out];exact⟨rfl,hb⟩
structure Box4 (w:World) (b o:Nat) (x0 x1 x2 x3:Value):Prop where
 c0:w.cell? ⟨b,o,none⟩=some x0
 c1:w.cell? ⟨b,o+1,none⟩=some x1
 c2:w.cell? ⟨b,o+2,none⟩=some x2
 c3:w.cell? ⟨b,o+3,none⟩=some x3
theorem Box4.below{w w':World}{b o:Nat}{x0 x1 x2 x3:Value}(h:Box4 w b o x0 x1 x2 x3)(hb:Below w.heap.size w w'):Box4 w' b o x0 x1 x2 x3:=by
 have hlt:b<w.heap.size:=World.block_lt_of_cell? w ⟨b,o,none⟩ h.c0;exact⟨by rw[hb.cell (p:=⟨b,o,none⟩) hlt];exact h.c0,by rw[hb.cell (p:=⟨b,o+1,none⟩) hlt];exact h.c1,by rw[hb.cell (p:=⟨b,o+2,none⟩) hlt];exact h.c2,by rw[hb.cell (p:=⟨b,o+3,none⟩) hlt];exact h.c3⟩
theorem z6h(b o:Nat)(i s q:Int)(a:Option Addr)(cap:Nat)(zs:List ActD)(w:World)(hB:Box4 w b o (.int .i64 i) (.int .i64 s) (.int .i64 q) (.slice a zs.length cap))(h:ActRow w a zs)(hl:zs.length≤1048576):
    Calls Tryz.prog 142 #[.pointer (some ⟨b,o,none⟩)] w fun e w'=>e=.returned (.int .i64 (txnF i s q zs))∧w'=w:=by
  obtain⟨b0,b1,b2,b3⟩:=hB;rcases z5F i s q zs with⟨h1,h⟩|⟨h1,h2,h⟩|⟨h1,h2,h3,h⟩|⟨h1,h2,h3,⟨h4,h⟩|⟨h4,h⟩|⟨h4,h5,hf⟩⟩
  all_goals try
    (rw [h];clear h
     go_enter Tryz.func142,Tryz.ntmps142
     go_wp2_with (go_at_call 55;refine(z31 _ _ _ _).mono ?_;rintro e w' ⟨rfl,rfl⟩)
     go_ret;exact ⟨rfl,rfl⟩)
  rw[hf];clear hf;go_enter Tryz.func142,Tryz.ntmps142
  go_wp2_with (go_at_call 55;refine(z31 _ _ _ _).mono ?_;rintro e w' ⟨rfl,rfl⟩)
  clear b0 b1 b2
  go_loop[3] (fun j=>∃k:Nat,k≤zs.length∧j=.int .i64 k∧Hid (∀j,j<k→actF (zs.getD j z0i)=0)) (fun j=>zs.length-(intOf j).toNat)
  case atStart=>exact⟨0,Nat.zero_le _,rfl,fun j hj=>absurd hj (Nat.not_lt_zero _)⟩
  case round=>
    obtain⟨k,hk,rfl,HA⟩:=hrel;by_cases z:k<zs.length
    · obtain⟨b',A,rfl,I,d,x,y⟩:=h.at k z;by_cases hF:actF (zs.getD k z0i)=0
      · have HB:Hid (∀j,j<k+1→actF (zs.getD j z0i)=0):=by
          intro j hj;by_cases C:j=k
          · subst C;exact hF
          · exact HA.out j (by omega)
        have c:=z5E b' (A+k*3) (zs.getD k z0i).kind (zs.getD k z0i).key (zs.getD k z0i).val _ d x y;rw[show actF ⟨(zs.getD k z0i).kind,(zs.getD k z0i).key,(zs.getD k z0i).val⟩=0 from hF]at c;clear HA hF d x y
        go_wp2_with (go_at_call 189;refine c.mono ?_;rintro e w' ⟨rfl,rfl⟩)
        go_round
        case rel=>exact⟨k+1,by omega,by go_num,HB⟩
        case measure=>simp[intOf];omega
      · have E:Hid (z2m zs=actF (zs.getD k z0i)):=z30 zs k HA.out z hF;have c:=z5E b' (A+k*3) (zs.getD k z0i).kind (zs.getD k z0i).key (zs.getD k z0i).val _ d x y;have G:(actF (zs.getD k z0i) !=0)=true:=by simpa using hF
        change Calls _ _ _ _ fun e w'=>e=.returned (.int .i64 (actF (zs.getD k z0i)))∧_ at c
        clear HA hF d x y;generalize actF (zs.getD k z0i)=r at c E G
        go_wp2_with (go_at_call 189;refine c.mono ?_;rintro e w' ⟨rfl,rfl⟩)
        go_ret;rw[E.out];exact⟨rfl,rfl⟩
    · have D:k=zs.length:=by omega
      subst D;have E:Hid (z2m zs=0):=z4O zs HA.out;clear HA
      go_wp2
      go_ret;rw[E.out];exact⟨rfl,rfl⟩
theorem Box4.zero{w:World}{b:Nat}{x0 x1 x2 x3:Value}(h:Box4 w b 0 x0 x1 x2 x3):w.cell? ⟨b,0,none⟩=some x0∧w.cell? ⟨b,1,none⟩=some x1∧w.cell? ⟨b,2,none⟩=some x2∧w.cell? ⟨b,3,none⟩=some x3:=
 ⟨h.c0,by simpa using h.c1,by simpa using h.c2,by simpa using h.c3⟩
theorem Box4.lat{w:World}{b:Nat}{x0 x1 x2 x3:Value}(h:Box4 w b 0 x0 x1 x2 x3):(∀u:Lat w,u.val.cell? ⟨b,0,none⟩=some x0)∧(∀u:Lat w,u.val.cell? ⟨b,1,none⟩=some x1)∧(∀u:Lat w,u.val.cell? ⟨b,2,none⟩=some x2)∧(∀u:Lat w,u.val.cell? ⟨b,3,none⟩=some x3):=
 ⟨z0a h.zero.1,z0a h.zero.2.1,z0a h.zero.2.2.1,z0a h.zero.2.2.2⟩
def Blk(w:World)(b:Nat)(t:TypeId)(cs:Array Value):Prop:=w.heap[b]?=some (.cells cs t (0,0))
theorem Blk.lt{w:World}{b:Nat}{t:TypeId}{cs:Array Value}(h:Blk w b t cs):b<w.heap.size:=(Array.getElem?_eq_some_iff.1 h).1
theorem Blk.new(w:World)(t:TypeId)(cs:Array Value):Blk (w.alloc (.cells cs t)) w.heap.size t cs:=by
 show(w.heap.push _)[w.heap.size]?=_;simp
theorem Blk.below{w w':World}{b:Nat}{t:TypeId}{cs:Array Value}(h:Blk w b t cs)(hb:Below w.heap.size w w'):Blk w' b t cs:=(hb.block b h.lt).trans h
theorem Blk.grown{w w':World}{b:Nat}{t:TypeId}{cs:Array Value}{row:Option Nat}(h:Blk w b t cs)(hg:w.grownBy w' row)(hne:some b≠row):Blk w' b t cs:=(hg.block b h.lt hne).trans h
theorem Blk.cell{w:World}{b:Nat}{t:TypeId}{cs:Array Value}(h:Blk w b t cs)(j:Nat)(x:Value)(hx:cs[j]?=some x):w.cell? ⟨b,j,none⟩=some x:=by
 unfold Blk at h;simp[World.cell?,h,hx]
theorem Blk.frozen{w:World}{b:Nat}{t:TypeId}{cs:Array Value}(h:Blk w b t cs)(j:Nat):w.frozen? ⟨b,j,none⟩=false:=by
 unfold Blk at h;simp[World.frozen?,h]
theorem Blk.lat{w:World}{b:Nat}{t:TypeId}{cs:Array Value}(h:Blk w b t cs)(j:Nat)(x:Value)(hx:cs[j]?=some x):∀u:Lat w,u.val.cell? ⟨b,j,none⟩=some x:=z0a (h.cell j x hx)
structure Only (lo hi:Nat) (w w':World):Prop where
 os:w'.os=w.os
 tape:w'.tape=w.tape
 output:w'.output=w.output
 size:w.heap.size≤w'.heap.size
 block:∀k,k<w.heap.size→(k<lo∨hi≤k)→w'.heap[k]?=w.heap[k]?
theorem Only.refl(lo hi:Nat)(w:World):Only lo hi w w:=⟨rfl,rfl,rfl,Nat.le_refl _,fun _ _ _=>rfl⟩
theorem Only.trans{lo hi:Nat}{a b c:World}(h:Only lo hi a b)(k:Only lo hi b c):Only lo hi a c:=
 ⟨k.os.trans h.os,k.tape.trans h.tape,k.output.trans h.output,Nat.le_trans h.size k.size,fun i hi hc=>(k.block i (Nat.lt_of_lt_of_le hi h.size) hc).trans (h.block i hi hc)⟩
theorem Only.of_below{lo hi:Nat}{w w':World}(h:Below w.heap.size w w'):Only lo hi w w':=⟨h.os,h.tape,h.output,h.size,fun k hk _=>h.block k hk⟩
theorem z2F{w:World}{base e n b s:Nat}{v:Value}{xs:List Value}(h:w.ownsRow base e s v n xs)(hb:b<base∨w.heap.size≤b):some b≠v.ownBlock:=by
 intro e;have h1:=h.lt b e.symm;omega
theorem Blk.cel2{w:World}{b:Nat}{t:TypeId}{x0 x1:Value}{r:List Value}(h:Blk w b t (x0::x1::r).toArray):w.cell? ⟨b,0,none⟩=some x0∧w.cell? ⟨b,1,none⟩=some x1:=
 ⟨h.cell 0 _ rfl,h.cell 1 _ rfl⟩
theorem Blk.lts2{w:World}{b:Nat}{t:TypeId}{x0 x1:Value}{r:List Value}(h:Blk w b t (x0::x1::r).toArray):(∀u:Lat w,u.val.cell? ⟨b,0,none⟩=some x0)∧(∀u:Lat w,u.val.cell? ⟨b,1,none⟩=some x1):=
 ⟨h.lat 0 _ rfl,h.lat 1 _ rfl⟩
theorem Blk.frz2{w:World}{b:Nat}{t:TypeId}{cs:Array Value}(h:Blk w b t cs):w.frozen? ⟨b,0,none⟩=false∧w.frozen? ⟨b,1,none⟩=false:=
 ⟨h.frozen 0,h.frozen 1⟩
theorem Blk.cel3{w:World}{b:Nat}{t:TypeId}{x0 x1 x2:Value}{r:List Value}(h:Blk w b t (x0::x1::x2::r).toArray):w.cell? ⟨b,0,none⟩=some x0∧w.cell? ⟨b,1,none⟩=some x1∧w.cell? ⟨b,2,none⟩=some x2:=
 ⟨h.cell 0 _ rfl,h.cell 1 _ rfl,h.cell 2 _ rfl⟩
theorem Blk.frz3{w:World}{b:Nat}{t:TypeId}{cs:Array Value}(h:Blk w b t cs):w.frozen? ⟨b,0,none⟩=false∧w.frozen? ⟨b,1,none⟩=false∧w.frozen? ⟨b,2,none⟩=false:=
 ⟨h.frozen 0,h.frozen 1,h.frozen 2⟩
theorem Blk.cel4{w:World}{b:Nat}{t:TypeId}{x0 x1 x2 x3:Value}{r:List Value}(h:Blk w b t (x0::x1::x2::x3::r).toArray):w.cell? ⟨b,0,none⟩=some x0∧w.cell? ⟨b,1,none⟩=some x1∧w.cell? ⟨b,2,none⟩=some x2∧w.cell? ⟨b,3,none⟩=some x3:=
 ⟨h.cell 0 _ rfl,h.cell 1 _ rfl,h.cell 2 _ rfl,h.cell 3 _ rfl⟩
theorem Blk.frz4{w:World}{b:Nat}{t:TypeId}{cs:Array Value}(h:Blk w b t cs):w.frozen? ⟨b,0,none⟩=false∧w.frozen? ⟨b,1,none⟩=false∧w.frozen? ⟨b,2,none⟩=false∧w.frozen? ⟨b,3,none⟩=false:=
 ⟨h.frozen 0,h.frozen 1,h.frozen 2,h.frozen 3⟩
theorem Blk.cel6{w:World}{b:Nat}{t:TypeId}{x0 x1 x2 x3 x4 x5:Value}{r:List Value}(h:Blk w b t (x0::x1::x2::x3::x4::x5::r).toArray):w.cell? ⟨b,0,none⟩=some x0∧w.cell? ⟨b,1,none⟩=some x1∧w.cell? ⟨b,2,none⟩=some x2∧w.cell? ⟨b,3,none⟩=some x3∧w.cell? ⟨b,4,none⟩=some x4∧w.cell? ⟨b,5,none⟩=some x5:=
 ⟨h.cell 0 _ rfl,h.cell 1 _ rfl,h.cell 2 _ rfl,h.cell 3 _ rfl,h.cell 4 _ rfl,h.cell 5 _ rfl⟩
theorem Blk.cel7{w:World}{b:Nat}{t:TypeId}{x0 x1 x2 x3 x4 x5 x6:Value}{r:List Value}(h:Blk w b t (x0::x1::x2::x3::x4::x5::x6::r).toArray):w.cell? ⟨b,0,none⟩=some x0∧w.cell? ⟨b,1,none⟩=some x1∧w.cell? ⟨b,2,none⟩=some x2∧w.cell? ⟨b,3,none⟩=some x3∧w.cell? ⟨b,4,none⟩=some x4∧w.cell? ⟨b,5,none⟩=some x5∧w.cell? ⟨b,6,none⟩=some x6:=
 ⟨h.cell 0 _ rfl,h.cell 1 _ rfl,h.cell 2 _ rfl,h.cell 3 _ rfl,h.cell 4 _ rfl,h.cell 5 _ rfl,h.cell 6 _ rfl⟩
theorem Blk.frz7{w:World}{b:Nat}{t:TypeId}{cs:Array Value}(h:Blk w b t cs):w.frozen? ⟨b,0,none⟩=false∧w.frozen? ⟨b,1,none⟩=false∧w.frozen? ⟨b,2,none⟩=false∧w.frozen? ⟨b,3,none⟩=false∧w.frozen? ⟨b,4,none⟩=false∧w.frozen? ⟨b,5,none⟩=false∧w.frozen? ⟨b,6,none⟩=false:=
 ⟨h.frozen 0,h.frozen 1,h.frozen 2,h.frozen 3,h.frozen 4,h.frozen 5,h.frozen 6⟩
theorem Blk.cel9{w:World}{b:Nat}{t:TypeId}{x0 x1 x2 x3 x4 x5 x6 x7 x8:Value}{r:List Value}(h:Blk w b t (x0::x1::x2::x3::x4::x5::x6::x7::x8::r).toArray):w.cell? ⟨b,0,none⟩=some x0∧w.cell? ⟨b,1,none⟩=some x1∧w.cell? ⟨b,2,none⟩=some x2∧w.cell? ⟨b,3,none⟩=some x3∧w.cell? ⟨b,4,none⟩=some x4∧w.cell? ⟨b,5,none⟩=some x5∧w.cell? ⟨b,6,none⟩=some x6∧w.cell? ⟨b,7,none⟩=some x7∧w.cell? ⟨b,8,none⟩=some x8:=
 ⟨h.cell 0 _ rfl,h.cell 1 _ rfl,h.cell 2 _ rfl,h.cell 3 _ rfl,h.cell 4 _ rfl,h.cell 5 _ rfl,h.cell 6 _ rfl,h.cell 7 _ rfl,h.cell 8 _ rfl⟩
theorem Blk.set{w:World}{b:Nat}{t:TypeId}{cs:Array Value}(h:Blk w b t cs)(j:Nat)(x:Value):Blk (w.setCell ⟨b,j,none⟩ x) b t (cs.setIfInBounds j x):=Go.Joins.block_setCell (i:=j) (v:=x) h
theorem Blk.other{w:World}{b b':Nat}{t:TypeId}{cs:Array Value}(h:Blk w b t cs)(hne:b≠b')(j:Nat)(x:Value):Blk (w.setCell ⟨b',j,none⟩ x) b t cs:=(Below.heap_setCell w ⟨b',j,none⟩ x b hne).trans h
def q0K:List Value:=[
 .int .i64 2,.int .i64 0,.int .i64 0,.int .i64 0,.bool true,.bool false,.int .i64 0,
 .int .i64 0,.int .i64 2,.int .i64 1,.int .i64 0,.bool true,.bool false,.int .i64 1,
 .int .i64 1,.int .i64 0,.int .i64 2,.int .i64 0,.bool false,.bool false,.int .i64 0,
 .int .i64 0,.int .i64 1,.int .i64 2,.int .i64 0,.bool false,.bool false,.int .i64 1,
 .int .i64 0,.int .i64 0,.int .i64 2,.int .i64 0,.bool false,.bool true,.int .i64 0]
def Rul(w:World):Prop:=∀i v,q0K[i]?=some v→w.cell? ⟨2,i,none⟩=some v
theorem Rul.below{w w':World}(h:Rul w)(hb:Below w.heap.size w w'):Rul w':=by
 intro i v hv;have h1:=h i v hv;rw[hb.cell (p:=⟨2,i,none⟩) (World.block_lt_of_cell? w ⟨2,i,none⟩ h1)];exact h1
abbrev fl(n:Int):Nat:=floatOfInt FloatKind.f64 n
theorem z9W:∀a∈[(0:Int),1,2,3],∀b∈[(0:Int),1,2,3],(FloatKind.f64.format.order (fl a) (fl b)==some .gt||FloatKind.f64.format.order (fl a) (fl b)==some .eq)=decide (b≤a):=by decide+kernel
theorem z9X:∀a∈[(0:Int),1,2,3],(FloatKind.f64.format.order (fl a) 0==some .gt)=decide (0<a):=by decide+kernel
theorem z8S{a:Int}(h:0≤a∧a≤3):a∈[(0:Int),1,2,3]:=by
 have:a=0∨a=1∨a=2∨a=3:=by omega
 rcases this with rfl|rfl|rfl|rfl<;>simp
theorem z9B{a b:Int}(ha:0≤a∧a≤3)(hb:0≤b∧b≤3):(FloatKind.f64.format.order (fl a) (fl b)==some .gt||FloatKind.f64.format.order (fl a) (fl b)==some .eq)=decide (b≤a):=z9W a (z8S ha) b (z8S hb)
theorem z9C{a:Int}(ha:0≤a∧a≤3):(FloatKind.f64.format.order (fl a) 0==some .gt)=decide (0<a):=z9X a (z8S ha)
def q0C(zi oi pr:Int)(d k:Bool)(vl:Int):Value:=.agg #[.int .i64 zi,.int .i64 oi,.int .i64 pr,.int .i64 0,.bool d,.bool k,.int .i64 vl]
theorem z8Z(zi oi pr:Int)(d k:Bool)(vl z o:Int)(w:World)(hzi:0≤zi∧zi≤3)(hoi:0≤oi∧oi≤3)(hz:0≤z∧z≤3)(ho:0≤o∧o≤3):
  Calls Tryz.prog 255 #[q0C zi oi pr d k vl,.complex .f64 (fl z) (fl o)] w fun e w'=>e=.returned (.bool (decide (zi≤z) && decide (oi≤o)))∧Below w.heap.size w w':=by
 have f1:=z9B hz hzi;have f2:=z9B ho hoi;unfold q0C;generalize fl z=z0 at f1⊢;generalize fl o=o0 at f2⊢;dsimp only[fl]at f1 f2;by_cases h1:zi≤z
 ·have d1:decide (zi≤z)=true:=decide_eq_true h1;rw[d1]at f1⊢;generalize decide (oi≤o)=t at f2⊢;clear h1 d1 hzi hoi hz ho;go_enter Tryz.func255,Tryz.ntmps255
  go_wp2
  go_ret;exact⟨by simp[f2],by go_grown⟩
 ·have d1:decide (zi≤z)=false:=decide_eq_false h1;rw[d1]at f1⊢;clear h1 d1 hzi hoi hz ho f2;go_enter Tryz.func255,Tryz.ntmps255
  go_wp2
  go_ret;exact⟨by simp,by go_grown⟩
def rz(k:Nat):Int:=[2,0,1,0,0].getD k 0
def ro(k:Nat):Int:=[0,2,0,1,0].getD k 0
def rp(k:Nat):Int:=[0,1,2,2,2].getD k 0
def rd(k:Nat):Bool:=[true,true,false,false,false].getD k false
def rc(k:Nat):Bool:=[false,false,false,false,true].getD k false
def rv(k:Nat):Int:=[0,1,0,1,0].getD k 0
def q0L(k:Nat):Value:=q0C (rz k) (ro k) (rp k) (rd k) (rc k) (rv k)
def z80(k:Nat)(z o:Int):Bool:=decide (rz k≤z) && decide (ro k≤o)
def pick5(z o:Int):Nat:=if 2≤z then 0 else if 2≤o then 1 else if 1≤z then 2 else if 1≤o then 3 else 4
theorem q1v:∀z∈[(0:Int),1,2,3],∀o∈[(0:Int),1,2,3],pick5 z o≤4∧∀k,k<5→k≤pick5 z o→(z80 k z o=true→k=pick5 z o)∧(z80 k z o=false→k+1≤pick5 z o):=by decide+kernel
theorem z9Y{z o:Int}(hz:0≤z∧z≤3)(ho:0≤o∧o≤3):pick5 z o≤4∧∀k,k<5→k≤pick5 z o→(z80 k z o=true→k=pick5 z o)∧(z80 k z o=false→k+1≤pick5 z o):=q1v z (z8S hz) o (z8S ho)
theorem q0M{w:World}(h:Rul w)(k:Nat)(hk:k<5):w.cell? ⟨2,k*7,none⟩=some (.int .i64 (rz k))∧w.cell? ⟨2,k*7+1,none⟩=some (.int .i64 (ro k))∧w.cell? ⟨2,k*7+2,none⟩=some (.int .i64 (rp k))∧w.cell? ⟨2,k*7+3,none⟩=some (.int .i64 0)∧
  w.cell? ⟨2,k*7+4,none⟩=some (.bool (rd k))∧w.cell? ⟨2,k*7+5,none⟩=some (.bool (rc k))∧w.cell? ⟨2,k*7+6,none⟩=some (.int .i64 (rv k)):=by
 match k,hk with
 |0,_=>exact⟨h _ _ rfl,h _ _ rfl,h _ _ rfl,h _ _ rfl,h _ _ rfl,h _ _ rfl,h _ _ rfl⟩
 |1,_=>exact⟨h _ _ rfl,h _ _ rfl,h _ _ rfl,h _ _ rfl,h _ _ rfl,h _ _ rfl,h _ _ rfl⟩
 |2,_=>exact⟨h _ _ rfl,h _ _ rfl,h _ _ rfl,h _ _ rfl,h _ _ rfl,h _ _ rfl,h _ _ rfl⟩
 |3,_=>exact⟨h _ _ rfl,h _ _ rfl,h _ _ rfl,h _ _ rfl,h _ _ rfl,h _ _ rfl,h _ _ rfl⟩
 |4,_=>exact⟨h _ _ rfl,h _ _ rfl,h _ _ rfl,h _ _ rfl,h _ _ rfl,h _ _ rfl,h _ _ rfl⟩
theorem q1L(k:Nat)(hk:k<5):(0≤rz k∧rz k≤3)∧(0≤ro k∧ro k≤3):=by
 match k,hk with
 |0,_=>decide
 |1,_=>decide
 |2,_=>decide
 |3,_=>decide
 |4,_=>decide
theorem z33(z o:Int)(w:World)(hG:Rul w)(hz:0≤z∧z≤3)(ho:0≤o∧o≤3):
  Calls Tryz.prog 246 #[.complex .f64 (fl z) (fl o)] w fun e w'=>e=.returned (q0L (pick5 z o))∧Below w.heap.size w w':=by
 obtain⟨hp,y⟩:=z9Y hz ho;generalize hE:pick5 z o=E at hp y⊢;clear hE;have q:=fun k (hk:k<5) w=>z8Z (rz k) (ro k) (rp k) (rd k) (rc k) (rv k) z o w (q1L k hk).1 (q1L k hk).2 hz ho
 generalize fl z=z0 at q⊢;generalize fl o=o0 at q⊢;go_enter Tryz.func246,Tryz.ntmps246
 go_wp2
 have Bx:=Blk.new w 314 #[.int .i64 0,.int .i64 0,.int .i64 0,.int .i64 0,.bool false,.bool false,.int .i64 0];have hB:Below w.heap.size w (w.alloc (.cells #[.int .i64 0,.int .i64 0,.int .i64 0,.int .i64 0,.bool false,.bool false,.int .i64 0] 314)):=by go_grown
 generalize w.alloc (.cells #[.int .i64 0,.int .i64 0,.int .i64 0,.int .i64 0,.bool false,.bool false,.int .i64 0] 314)=W at*;go_loopw[3] (fun i wr=>∃k:Nat,k<5∧k≤E∧i=.int .i64 k∧Below W.heap.size W wr) (fun i _=>5-(intOf i).toNat)
 case atStart=>exact⟨0,by omega,Nat.zero_le _,rfl,Below.refl _ _⟩
 case round=>
  obtain⟨k,hk,C,rfl,hb⟩:=hrel;replace hB:=hB.trans (hb.mono hB.size);replace Bx:=Bx.below hb;obtain⟨c0,c1,c2,c3,c4,c5,c6⟩:=q0M (hG.below hB) k hk;obtain⟨hy,hn⟩:=y k hk C;have HY:Hid (z80 k z o=true→k=E):=hy;have HN:Hid (z80 k z o=false→k+1≤E):=hn;have hf:=q k hk wr;rw[show(decide (rz k≤z) && decide (ro k≤o))=z80 k z o from rfl]at hf;clear q y hy hn;unfold q0C at hf;have HV:Hid (q0L k=.agg #[.int .i64 (rz k),.int .i64 (ro k),.int .i64 (rp k),.int .i64 0,.bool (rd k),.bool (rc k),.int .i64 (rv k)]):=rfl;generalize rz k=a0 at*;generalize ro k=a1 at*;generalize rp k=a2 at*;generalize rd k=a4 at*;generalize rc k=a5 at*;generalize rv k=a6 at*
  go_wp2_with fail
  refine hf.mono ?_;rintro e w2 ⟨rfl,c⟩;have d:=World.block_lt_of_cell? wr ⟨2,k*7,none⟩ c0;dsimp only at d;replace c0:=(c.cell (p:=⟨2,k*7,none⟩) d).trans c0;replace c1:=(c.cell (p:=⟨2,k*7+1,none⟩) d).trans c1;replace c2:=(c.cell (p:=⟨2,k*7+2,none⟩) d).trans c2;replace c3:=(c.cell (p:=⟨2,k*7+3,none⟩) d).trans c3;replace c4:=(c.cell (p:=⟨2,k*7+4,none⟩) d).trans c4;replace c5:=(c.cell (p:=⟨2,k*7+5,none⟩) d).trans c5;replace c6:=(c.cell (p:=⟨2,k*7+6,none⟩) d).trans c6;replace Bx:=Bx.below c;replace hB:=hB.trans (c.mono hB.size);replace hb:=hb.trans (c.mono hb.size);clear hf c d;by_cases s:z80 k z o=true
  ·have r:=HY.out s;clear HY HN;rw[s];obtain⟨p0,p1,p2,p3,p4,p5,p6⟩:=Bx.cel7;obtain⟨f0,f1,f2,f3,f4,f5,f6⟩:=Bx.frz7;have hV:Hid (q0L E=.agg #[.int .i64 a0,.int .i64 a1,.int .i64 a2,.int .i64 0,.bool a4,.bool a5,.int .i64 a6]):=by rw[←r];exact HV.out
   have A:=((((((hB.setCell (p:=⟨w.heap.size,0,none⟩) (Nat.le_refl _) (.int .i64 a0)).setCell (p:=⟨w.heap.size,1,none⟩) (Nat.le_refl _) (.int .i64 a1)).setCell (p:=⟨w.heap.size,2,none⟩) (Nat.le_refl _) (.int .i64 a2)).setCell (p:=⟨w.heap.size,3,none⟩) (Nat.le_refl _) (.int .i64 0)).setCell (p:=⟨w.heap.size,4,none⟩) (Nat.le_refl _) (.bool a4)).setCell (p:=⟨w.heap.size,5,none⟩) (Nat.le_refl _) (.bool a5)).setCell (p:=⟨w.heap.size,6,none⟩) (Nat.le_refl _) (.int .i64 a6);have HB:Hid (Below w.heap.size w _):=A;clear Bx hB hb A r HV
   go_wp2
   exact bodyPost_ret (v:=.agg #[.int .i64 a0,.int .i64 a1,.int .i64 a2,.int .i64 0,.bool a4,.bool a5,.int .i64 a6]) (by simp[results,Tryz.results246,go_sem,p0,p1,p2,p3,p4,p5,p6]) rfl ⟨by rw[hV.out],HB.out⟩
  ·have x:z80 k z o=false:=by simpa using s
   have r:=HN.out x;clear HY HN s;rw[x];clear c0 c1 c2 c3 c4 c5 c6 Bx hB
   go_wp2
   go_roundw
   case rel=>exact⟨k+1,by omega,r,by go_num,hb⟩
   case measure=>simp[intOf];omega
def z1E(zs:List Int)(m:Int):Bool:=isQ m && (cnt m zs 3==0)
theorem z7V{m:Int}(h:isQ m=true):inB m 0 7=true:=by
 unfold isQ at h;rw[Bool.and_eq_true]at h;exact h.1
theorem z2h{zs:List Int}{m:Int}(h:z1E zs m=true):inB m 0 7=true:=by
 unfold z1E at h;rw[Bool.and_eq_true]at h;exact z7V h.1
theorem q1w(zs:List Int):vfault zs 2=vf zs 2:=by simp[vfault,inB]
theorem q0N(zs:List Int):vfault zs 1=vf zs 1:=by simp[vfault,inB]
theorem z34(a:Option Addr)(cap:Nat)(zs:List Int)(m:Int)(w:World)(h:Row .i64 w a zs)(hl:zs.length=3):
  Calls Tryz.prog 245 #[.slice a 3 cap,.int .i64 m] w fun e w'=>e=.returned (.bool (z1E zs m))∧w'=w:=by
 have hq:=z5z m w;have hvo:=z1A a cap zs 3 w h hl;unfold z1E;by_cases h1:isQ m=true
 ·obtain⟨q1,q2,q3⟩:=z6f (z7V h1) zs 3;rw[h1]at hq⊢;rw[←q3];clear q1 q2 q3 h1;generalize vot zs 3=u at*;go_enter Tryz.func245,Tryz.ntmps245
  go_wp2_with (first|(go_at_call 254;refine hq.mono ?_;rintro e w' ⟨rfl,rfl⟩)|(go_at_call 220;refine hvo.mono ?_;rintro e w' ⟨rfl,rfl⟩))
  go_ret;exact⟨by simp,rfl⟩
 ·have h1':isQ m=false:=by simpa using h1
  rw[h1']at hq⊢;clear h1 h1';go_enter Tryz.func245,Tryz.ntmps245
  go_wp2_with (go_at_call 254;refine hq.mono ?_;rintro e w' ⟨rfl,rfl⟩)
  go_ret;exact⟨by simp,rfl⟩
theorem z19(a:Option Addr)(cap:Nat)(zs:List Int)(m:Int)(w:World)(h:Row .i64 w a zs)(hl:zs.length=3)(hm:inB m 0 7=true):
  Calls Tryz.prog 244 #[.slice a 3 cap,.int .i64 m] w fun e w'=>e=.returned (.complex .f64 (fl (cnt m zs 0)) (fl (cnt m zs 1)))∧w'=w:=by
 obtain⟨q1,q2,_⟩:=z6f hm zs 0;obtain⟨r1,r2,_⟩:=z6f hm zs 1;have hn0:=z1R _ w q1;have hn1:=z1R _ w r1;rw[q2]at hn0;rw[r2]at hn1;have hv0:=z1A a cap zs 0 w h hl;have hv1:=z1A a cap zs 1 w h hl;clear q1 q2 r1 r2;generalize vot zs 0=u0 at*;generalize vot zs 1=u1 at*;generalize cnt m zs 0=c0 at*;generalize cnt m zs 1=c1 at*;go_enter Tryz.func244,Tryz.ntmps244
 go_wp2_with fail
 refine hv0.mono ?_;rintro e w' ⟨rfl,hw⟩;replace hw:=hw.symm;subst hw
 go_wp2_with fail
 refine hn0.mono ?_;rintro e w' ⟨rfl,hw⟩;replace hw:=hw.symm;subst hw
 go_wp2_with fail
 refine hv1.mono ?_;rintro e w' ⟨rfl,hw⟩;replace hw:=hw.symm;subst hw
 go_wp2_with fail
 refine hn1.mono ?_;rintro e w' ⟨rfl,hw⟩;replace hw:=hw.symm;subst hw
 go_wp2
 go_ret;exact⟨rfl,rfl⟩
def pr2(z o:Int):Int:=if 2≤z then 0 else if 2≤o then 1 else 2
def pfC(zs:List Int)(m:Int):Int:=if vf zs 1=0 then(if z1E zs m then 0 else 10)else vf zs 1
def pfV(zs:List Int)(m:Int):Int:=if pfC zs m=0 then pr2 (cnt m zs 0) (cnt m zs 1)else 0
theorem q0O:∀z∈[(0:Int),1,2,3],∀o∈[(0:Int),1,2,3],rp (pick5 z o)=pr2 z o:=by decide+kernel
theorem z9Z(a0 a1 a2 a3:Int)(a4 a5:Bool)(a6:Int)(w:World):(Instr.field 314 (.agg #[.int .i64 a0,.int .i64 a1,.int .i64 a2,.int .i64 a3,.bool a4,.bool a5,.int .i64 a6]) 2).run Tryz.prog w=.ok (.int .i64 a2) w:=by kernel_rfl
theorem z90(a0 a1 a2 a3:Int)(a4 a5:Bool)(a6:Int)(w:World):(Instr.field 314 (.agg #[.int .i64 a0,.int .i64 a1,.int .i64 a2,.int .i64 a3,.bool a4,.bool a5,.int .i64 a6]) 3).run Tryz.prog w=.ok (.agg #[.int .i64 a3,.bool a4,.bool a5,.int .i64 a6]) w:=by kernel_rfl
theorem z5G(a:Option Addr)(cap:Nat)(zs:List Int)(m:Int)(w:World)(hG:Rul w)(h:Row .i64 w a zs)(hm:zs.length≤9223372036854775807):
  Calls Tryz.prog 229 #[.slice a zs.length cap,.int .i64 m] w fun e w'=>e=.returned (.agg #[.int .i64 (pfC zs m),.int .i64 (pfV zs m)])∧Below w.heap.size w w':=by
 have hB:Below w.heap.size w (w.alloc (.cells #[.int .i64 0,.int .i64 0] 38)):=by go_grown
 have hv:=fun w h=>z0G a cap zs 1 w h hm
 rw[q0N]at hv;by_cases h0:vf zs 1=0
 ·have hl:=z0A h0;rw[h0]at hv;rw[hl]at hv⊢;have hh:=z34 a cap zs m _ (h.below hB) hl;by_cases h1:z1E zs m=true
  ·have e1:pfC zs m=0:=by simp[pfC,h0,h1]
   have e2:pfV zs m=pr2 (cnt m zs 0) (cnt m zs 1):=by simp[pfV,e1]
   have e3:=q0O _ (z8S (z15 m zs 0)) _ (z8S (z15 m zs 1));have hc:=z19 a cap zs m _ (h.below hB) hl (z2h h1);have hr:=z33 _ _ _ (hG.below hB) (z15 m zs 0) (z15 m zs 1);rw[e1,e2,←e3];rw[h1]at hh;clear e1 e2 e3 h0 hl h1;unfold q0L q0C at hr;generalize pick5 (cnt m zs 0) (cnt m zs 1)=E at*;generalize fl (cnt m zs 0)=z0 at*;generalize fl (cnt m zs 1)=o0 at*;generalize rz E=a0 at*;generalize ro E=a1 at*;generalize rp E=a2 at*;generalize rd E=a4 at*;generalize rc E=a5 at*;generalize rv E=a6 at*;have Bx:=Blk.new w 38 #[.int .i64 0,.int .i64 0];have hv1:=hv _ (h.below hB);clear hv;go_enter Tryz.func229,Tryz.ntmps229
   go_wp2_with fail
   generalize w.alloc (.cells #[.int .i64 0,.int .i64 0] 38)=W at*;refine hv1.mono ?_;rintro e w' ⟨rfl,hw⟩;replace hw:=hw.symm;subst hw
   go_wp2_with fail
   refine hh.mono ?_;rintro e w' ⟨rfl,hw⟩;replace hw:=hw.symm;subst hw
   go_wp2_with fail
   refine hc.mono ?_;rintro e w' ⟨rfl,hw⟩;replace hw:=hw.symm;subst hw
   go_wp2_with fail
   refine hr.mono ?_;rintro e w' ⟨rfl,hb⟩;replace Bx:=Bx.below hb;replace hB:=hB.trans (hb.mono hB.size);obtain⟨p0,p1⟩:=Bx.cel2;obtain⟨f0,f1⟩:=Bx.frz2;have hfl:=z9Z a0 a1 a2 0 a4 a5 a6 w';clear hb hv1 hh hc hr Bx
   go_wp2
   exact bodyPost_ret (v:=.agg #[.int .i64 0,.int .i64 a2]) (by simp[results,Tryz.results229,go_sem,p0,p1]) rfl ⟨rfl,(hB.setCell (p:=⟨w.heap.size,0,none⟩) (Nat.le_refl _) _).setCell (p:=⟨w.heap.size,1,none⟩) (Nat.le_refl _) _⟩
  ·have h1':z1E zs m=false:=by simpa using h1
   have e1:pfC zs m=10:=by simp[pfC,h0,h1']
   have e2:pfV zs m=0:=by simp[pfV,e1]
   rw[e1,e2];rw[h1']at hh;clear e1 e2 h0 hl h1;go_enter Tryz.func229,Tryz.ntmps229
   go_wp2_with (first|(go_at_call 196;refine(hv _ (h.below (by go_grown))).mono ?_;rintro e w' ⟨rfl,rfl⟩)|(go_at_call 245;refine hh.mono ?_;rintro e w' ⟨rfl,rfl⟩))
   exact bodyPost_ret (v:=.agg #[.int .i64 10,.int .i64 0]) (by simp[results,Tryz.results229,go_sem]) rfl ⟨rfl,by go_grown⟩
 ·have e1:pfC zs m=vf zs 1:=by simp[pfC,h0]
  have e2:pfV zs m=0:=by simp[pfV,e1,h0]
  rw[e1,e2];clear e1 e2;have h0':(vf zs 1 !=0)=true:=by simpa using h0
  clear h0;generalize vf zs 1=c at*;go_enter Tryz.func229,Tryz.ntmps229
  go_wp2_with (go_at_call 196;refine(hv _ (h.below (by go_grown))).mono ?_;rintro e w' ⟨rfl,rfl⟩)
  exact bodyPost_ret (v:=.agg #[.int .i64 c,.int .i64 0]) (by simp[results,Tryz.results229,go_sem]) rfl ⟨rfl,by go_grown⟩
theorem z37(a:Option Addr)(cap:Nat)(zs:List Int)(m:Int)(w:World)(h:Row .i64 w a zs)(hl:zs.length=3):
  Calls Tryz.prog 200 #[.slice a 3 cap,.int .i64 m] w fun e w'=>e=.returned (.bool (z1E zs m))∧Below w.heap.size w w':=by
 have hq:=z5A m w;unfold z1E;by_cases h1:isQ m=true
 ·have hvo:=fun w h=>z0I a cap zs m 3 w h hl (z7V h1)
  rw[h1]at hq⊢;clear h1;generalize cnt m zs 3=u at*;go_enter Tryz.func200,Tryz.ntmps200
  go_wp2_with fail
  refine hq.mono ?_;rintro e w1 ⟨rfl,b1⟩;have hv1:=hvo w1 (h.below b1);clear hvo hq
  go_wp2_with fail
  refine hv1.mono ?_;rintro e w2 ⟨rfl,b2⟩;replace b2:=b1.trans (b2.mono b1.size);clear hv1
  go_wp2
  go_ret;exact⟨by simp,b2⟩
 ·have h1':isQ m=false:=by simpa using h1
  rw[h1']at hq⊢;clear h1 h1';go_enter Tryz.func200,Tryz.ntmps200
  go_wp2_with (go_at_call 221;refine hq.mono ?_;rintro e w' ⟨rfl,b1⟩)
  go_ret;exact⟨by simp,b1⟩
theorem z4E(a:Option Addr)(cap:Nat)(zs:List Int)(m:Int)(w:World)(h:Row .i64 w a zs)(hl:zs.length=3)(hm:inB m 0 7=true):
  Calls Tryz.prog 201 #[.slice a 3 cap,.int .i64 m] w fun e w'=>e=.returned (.int .i64 (pr2 (cnt m zs 0) (cnt m zs 1)))∧Below w.heap.size w w':=by
 have hc0:=fun w h=>z0I a cap zs m 0 w h hl hm
 have hc1:=fun w h=>z0I a cap zs m 1 w h hl hm
 generalize cnt m zs 0=z at*;generalize cnt m zs 1=o at*;generalize hE:pr2 z o=E;unfold pr2 at hE;have h0:=hc0 w h;clear hc0;by_cases hz:2≤z
 ·rw[if_pos hz]at hE;have HE:Hid (E=0):=hE.symm;clear hc1 hE;go_enter Tryz.func201,Tryz.ntmps201
  go_wp2
  refine wp_loop_rounds 1 ?_;rw[rounds_succ]
  go_wp2_with fail
  refine h0.mono ?_;rintro e w1 ⟨rfl,b1⟩;clear h0
  go_wp2
  go_ret;exact⟨by rw[HE.out];rfl,b1⟩
 ·rw[if_neg hz]at hE;have HE:Hid (E=if 2≤o then 1 else 2):=hE.symm;clear hE;go_enter Tryz.func201,Tryz.ntmps201
  go_wp2
  refine wp_loop_rounds 3 ?_;rw[rounds_succ]
  go_wp2_with fail
  refine h0.mono ?_;rintro e w1 ⟨rfl,b1⟩;have h1:=hc1 w1 (h.below b1);clear h0 hc1;by_cases ho:2≤o
  ·have HE2:Hid (E=1):=HE.out.trans (if_pos ho);clear HE
   go_wp2_with fail
   rw[rounds_succ]
   go_wp2_with fail
   refine h1.mono ?_;rintro e w2 ⟨rfl,b2⟩;replace b2:=b1.trans (b2.mono b1.size);clear h1
   go_wp2
   go_ret;exact⟨by rw[HE2.out];rfl,b2⟩
  ·have HE2:Hid (E=2):=HE.out.trans (if_neg ho);clear HE
   go_wp2_with fail
   rw[rounds_succ]
   go_wp2_with fail
   refine h1.mono ?_;rintro e w2 ⟨rfl,b2⟩;replace b2:=b1.trans (b2.mono b1.size);clear h1
   go_wp2
   rw[rounds_succ]
   go_wp2
   go_ret;exact⟨by rw[HE2.out];rfl,b2⟩
theorem z3v(a:Option Addr)(cap:Nat)(zs:List Int)(m:Int)(w:World)(h:Row .i64 w a zs)(hm:zs.length≤9223372036854775807):
  Calls Tryz.prog 172 #[.slice a zs.length cap,.int .i64 m] w fun e w'=>e=.returned (.agg #[.int .i64 (pfC zs m),.int .i64 (pfV zs m)])∧Below w.heap.size w w':=by
 obtain⟨C,hC⟩:∃C,pfC zs m=C:=⟨_,rfl⟩
 obtain⟨V,hV⟩:∃V,pfV zs m=V:=⟨_,rfl⟩
 have HC:Hid (pfC zs m=C∧pfV zs m=V):=And.intro hC hV;rw[hC,hV];clear hC hV;have hB:Below w.heap.size w (w.alloc (.cells #[.int .i64 0,.int .i64 0] 38)):=by go_grown
 have Bx:=Blk.new w 38 #[.int .i64 0,.int .i64 0];have hv:=z0W a cap zs 1 _ (h.below hB) hm;go_enter Tryz.func172,Tryz.ntmps172
 go_wp2_with fail
 generalize w.alloc (.cells #[.int .i64 0,.int .i64 0] 38)=W at*;refine hv.mono ?_;rintro e w1 ⟨rfl,hb⟩;replace Bx:=Bx.below hb;replace hB:=hB.trans (hb.mono hB.size);clear hv hb;by_cases h0:vf zs 1=0
 ·have hl:=z0A h0;have hh:=z37 a cap zs m w1 (h.below hB) hl;rw[h0,hl];by_cases h1:z1E zs m=true
  ·have HE:Hid (C=0∧V=pr2 (cnt m zs 0) (cnt m zs 1)):=by
    obtain⟨e1,e2⟩:=HC.out;have e3:pfC zs m=0:=by simp[pfC,h0,h1]
    exact⟨e1.symm.trans e3,e2.symm.trans (by simp[pfV,e3])⟩
   have hp:=fun w h=>z4E a cap zs m w h hl (z2h h1)
   rw[h1]at hh;clear h0 hl h1 HC;generalize pr2 (cnt m zs 0) (cnt m zs 1)=P at*
   go_wp2_with fail
   refine hh.mono ?_;rintro e w2 ⟨rfl,hb⟩;replace Bx:=Bx.below hb;replace hB:=hB.trans (hb.mono hB.size);have hp2:=hp w2 (h.below hB);clear hh hb hp
   go_wp2_with fail
   refine hp2.mono ?_;rintro e w3 ⟨rfl,hb⟩;replace Bx:=Bx.below hb;replace hB:=hB.trans (hb.mono hB.size);obtain⟨p0,p1⟩:=Bx.cel2;obtain⟨f0,f1⟩:=Bx.frz2;clear hp2 hb Bx
   go_wp2
   exact bodyPost_ret (v:=.agg #[.int .i64 0,.int .i64 P]) (by simp[results,Tryz.results172,go_sem,p0,p1]) rfl ⟨by rw[HE.out.1,HE.out.2],(hB.setCell (p:=⟨w.heap.size,0,none⟩) (Nat.le_refl _) _).setCell (p:=⟨w.heap.size,1,none⟩) (Nat.le_refl _) _⟩
  ·have h1':z1E zs m=false:=by simpa using h1
   have HE:Hid (C=10∧V=0):=by
    obtain⟨e1,e2⟩:=HC.out;have e3:pfC zs m=10:=by simp[pfC,h0,h1']
    exact⟨e1.symm.trans e3,e2.symm.trans (by simp[pfV,e3])⟩
   rw[h1']at hh;clear h0 hl h1 HC
   go_wp2_with fail
   refine hh.mono ?_;rintro e w2 ⟨rfl,hb⟩;replace Bx:=Bx.below hb;replace hB:=hB.trans (hb.mono hB.size);obtain⟨p0,p1⟩:=Bx.cel2;obtain⟨f0,f1⟩:=Bx.frz2;clear hh hb Bx
   go_wp2
   exact bodyPost_ret (v:=.agg #[.int .i64 10,.int .i64 0]) (by simp[results,Tryz.results172,go_sem,p0,p1]) rfl ⟨by rw[HE.out.1,HE.out.2],(hB.setCell (p:=⟨w.heap.size,0,none⟩) (Nat.le_refl _) _).setCell (p:=⟨w.heap.size,1,none⟩) (Nat.le_refl _) _⟩
 ·have HE:Hid (C=vf zs 1∧V=0):=by
   obtain⟨e1,e2⟩:=HC.out;have e3:pfC zs m=vf zs 1:=by simp[pfC,h0]
   exact⟨e1.symm.trans e3,e2.symm.trans (by simp[pfV,e3,h0])⟩
  have h0':(vf zs 1 !=0)=true:=by simpa using h0
  clear h0 HC;generalize vf zs 1=c at*;obtain⟨p0,p1⟩:=Bx.cel2;obtain⟨f0,f1⟩:=Bx.frz2;clear Bx
  go_wp2
  exact bodyPost_ret (v:=.agg #[.int .i64 c,.int .i64 0]) (by simp[results,Tryz.results172,go_sem,p0,p1]) rfl ⟨by rw[HE.out.1,HE.out.2],(hB.setCell (p:=⟨w.heap.size,0,none⟩) (Nat.le_refl _) _).setCell (p:=⟨w.heap.size,1,none⟩) (Nat.le_refl _) _⟩
end Go.Proofs.YtciofogeiohleaaGreatDoor
