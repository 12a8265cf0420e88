/- Texts joined,with what the laws reach alone. -/
import Derived.Test.YtlkpdgjnhkjpjaaGreatDoorSCAG
import Derived.Laws.StructEq
import Derived.Deep.Slices
import Derived.Deep.Strs
import Derived.ProofKit
import Derived.Test.YtlkpdgjnhkjpjaaGreatDoorRows
import Derived.Lib.LaidU8
import Derived.OpenVars
import Derived.LaidMore
import Derived.Stop.LaidErr
import Derived.Stop.Joined
set_option linter.unusedVariables false
set_option linter.unusedSimpArgs false
set_option maxRecDepth 100000
set_option maxHeartbeats 4000000
namespace Go.Proofs.YtlkpdgjnhkjpjaaGreatDoor
open Go.RowKit Go.BigFrame
def z1V(x y:ItemD):Bool:=(x.key==y.key) && (x.val==y.val)
def sameIs:List ItemD→List ItemD→Bool
 |[],[]=>true
 |x::r,y::s=>z1V x y && sameIs r s
 |_,_=>false
theorem z4w{α:Type}{f:α→α→Bool}{g:List α→List α→Bool}(h0:g [] []=true)(h1:∀x r y s,g (x::r) (y::s)=(f x y && g r s))(h2:∀x r,g (x::r) []=false)(h3:∀y s,g [] (y::s)=false):
  ∀a b,a.length≠b.length→g a b=false:=by
 intro a;induction a with
 |nil=>intro b h;cases b with|nil=>simp at h|cons y s=>exact h3 y s
 |cons x r ih=>intro b h;cases b with|nil=>exact h2 x r|cons y s=>rw[h1,ih s (by simpa using h)];simp
theorem z4x{α:Type}{f:α→α→Bool}{g:List α→List α→Bool}(d:α)(h1:∀x r y s,g (x::r) (y::s)=(f x y && g r s)):
  ∀a b k,a.length=b.length→k<a.length→f (a.getD k d) (b.getD k d)=false→g a b=false:=by
 intro a;induction a with
 |nil=>intro b k _ h;simp at h
 |cons x r ih=>
  intro b k hl hk hf
  cases b with
  |nil=>simp at hl
  |cons y s=>
   rw[h1]
   cases k with
   |zero=>simp[List.getD]at hf;simp[hf]
   |succ k=>rw[ih s k (by simpa using hl) (by simpa using hk) (by simpa[List.getD]using hf)];simp
theorem z4y{α:Type}{f:α→α→Bool}{g:List α→List α→Bool}(d:α)(h0:g [] []=true)(h1:∀x r y s,g (x::r) (y::s)=(f x y && g r s)):
  ∀a b,a.length=b.length→(∀k,k<a.length→f (a.getD k d) (b.getD k d)=true)→g a b=true:=by
 intro a;induction a with
 |nil=>intro b hl _;cases b with|nil=>exact h0|cons y s=>simp at hl
 |cons x r ih=>
  intro b hl hf
  cases b with
  |nil=>simp at hl
  |cons y s=>
   rw[h1,ih s (by simpa using hl) (fun k hk=>by simpa[List.getD]using hf (k+1) (by simpa using hk))];have:=hf 0 (by simp);simp[List.getD]at this;simp[this]
theorem z8e{xs ys:List ItemD}(h:sameIs xs ys=true):xs=ys:=by
 induction xs generalizing ys with
 |nil=>cases ys with|nil=>rfl|cons y s=>simp[sameIs]at h
 |cons x r ih=>
  cases ys with
  |nil=>simp[sameIs]at h
  |cons y s=>
   obtain⟨x0,x1⟩:=x;obtain⟨y0,y1⟩:=y;simp[sameIs,z1V]at h;rw[ih h.2,h.1.1,h.1.2]
theorem z2M(x0 x1 y0 y1:Int)(w:World):(binOp .neq 119 (.agg #[.int .i64 x0,.int .i64 x1]) (.agg #[.int .i64 y0,.int .i64 y1])).run Tryz.prog w=.ok (.bool (!z1V ⟨x0,x1⟩ ⟨y0,y1⟩)) w:=by
 rw[run_neq_struct,run_equalIn_struct (P:=Tryz.prog) w 9999 119 _ _ (by kernel_rfl) (by kernel_rfl)];have c1:Tryz.prog.cellsOf 2=1:=by kernel_rfl
 cases h0:(x0==y0)<;>cases h1:(x1==y1)<;>simp[Program.fieldsOf,Tryz.underlying119,Op.eqFields,go_sem,Tryz.underlying2,h0,h1,z1V,c1]
theorem q0z(a a':Option Addr)(cap d:Nat)(xs ys:List ItemD)(w:World)(h:ItemRow w a xs)(h':ItemRow w a' ys)(hl:xs.length≤1048576)(T:ys.length≤1048576):
  Calls Tryz.prog 78 #[.slice a xs.length cap,.slice a' ys.length d] w fun e w'=>e=.returned (.bool (sameIs xs ys))∧Below w.heap.size w w':=by
 by_cases c:xs.length=ys.length
 case neg=>
  have E:sameIs xs ys=false:=z4w (f:=z1V) rfl (fun _ _ _ _=>rfl) (fun _ _=>rfl) (fun _ _=>rfl) xs ys c;rw[E];have hd:((xs.length:Int) !=(ys.length:Int))=true:=by simp;omega
  go_enter Tryz.func78,Tryz.ntmps78
  go_wp2
  go_ret;exact⟨rfl,Below.refl _ _⟩
 case pos=>
  have hd:((xs.length:Int) !=(ys.length:Int))=false:=by simp[c]
  have HL:Hid (xs.length=ys.length):=c;clear c;go_enter Tryz.func78,Tryz.ntmps78
  go_wp2
  go_loopw[13] (fun i wr=>∃k m:Nat,k≤xs.length∧i=.int .i64 k∧wr=w.drewN m∧Hid (∀j,j<k→z1V (xs.getD j z0b) (ys.getD j z0b)=true)) (fun i _=>xs.length-(intOf i).toNat)
  case atStart=>exact⟨0,0,Nat.zero_le _,rfl,rfl,fun j hj=>absurd hj (Nat.not_lt_zero _)⟩
  case round=>
   obtain⟨k,m,hk,rfl,rfl,HA⟩:=hrel;by_cases I:k<xs.length
   ·have J:k<ys.length:=by have:=HL.out;omega
    obtain⟨b,U,rfl,O,x,y⟩:=h.at k I;obtain⟨b',N,rfl,M,A,C⟩:=h'.at k J
    cases hs:z1V (xs.getD k z0b) (ys.getD k z0b)
    case false=>
     have E:Hid (sameIs xs ys=false):=z4x (f:=z1V) z0b (fun _ _ _ _=>rfl) xs ys k HL.out I hs;have hr:=z2M (xs.getD k z0b).key (xs.getD k z0b).val (ys.getD k z0b).key (ys.getD k z0b).val;rw[show z1V ⟨(xs.getD k z0b).key,(xs.getD k z0b).val⟩ ⟨(ys.getD k z0b).key,(ys.getD k z0b).val⟩=false from hs,Bool.not_false]at hr;clear HA hs;generalize xs.getD k z0b=z at x y hr;generalize ys.getD k z0b=z' at A C hr
     go_wp2
     go_quiet (fail)
     go_wp2
     go_ret;rw[E.out];exact⟨rfl,(Below.refl _ _).trans ⟨rfl,rfl,rfl,Nat.le_refl _,fun _ _=>rfl⟩⟩
    case true=>
     have HB:Hid (∀j,j<k+1→z1V (xs.getD j z0b) (ys.getD j z0b)=true):=by
      intro j hj;by_cases L:j=k
      ·subst L;exact hs
      ·exact HA.out j (by omega)
     have hr:=z2M (xs.getD k z0b).key (xs.getD k z0b).val (ys.getD k z0b).key (ys.getD k z0b).val;rw[show z1V ⟨(xs.getD k z0b).key,(xs.getD k z0b).val⟩ ⟨(ys.getD k z0b).key,(ys.getD k z0b).val⟩=true from hs,Bool.not_true]at hr;clear HA hs;generalize xs.getD k z0b=z at x y hr;generalize ys.getD k z0b=z' at A C hr
     go_wp2
     go_quiet (fail)
     go_wp2
     go_roundw
     case rel=>exact⟨k+1,_,by omega,by go_num,rfl,HB⟩
     case measure=>simp[intOf];omega
   ·have E:Hid (sameIs xs ys=true):=z4y (f:=z1V) z0b rfl (fun _ _ _ _=>rfl) xs ys HL.out (fun j hj=>HA.out j (by omega));clear HA
    go_wp2
    go_ret;rw[E.out];exact⟨rfl,(Below.refl _ _).trans ⟨rfl,rfl,rfl,Nat.le_refl _,fun _ _=>rfl⟩⟩
theorem z1W(a a':Option Addr)(cap d:Nat)(xs ys:List ItemD)(w:World)(h:ItemRow w a xs)(h':ItemRow w a' ys)(hl:xs.length≤1048576)(T:ys.length≤1048576):
  Calls Tryz.prog 226 #[.slice a xs.length cap,.slice a' ys.length d] w fun e w'=>e=.returned (.bool (sameIs xs ys))∧Below w.heap.size w w':=by
 by_cases c:xs.length=ys.length
 case neg=>
  have E:sameIs xs ys=false:=z4w (f:=z1V) rfl (fun _ _ _ _=>rfl) (fun _ _=>rfl) (fun _ _=>rfl) xs ys c;rw[E];have hd:((xs.length:Int) !=(ys.length:Int))=true:=by simp;omega
  go_enter Tryz.func226,Tryz.ntmps226
  go_wp2
  go_ret;exact⟨rfl,Below.refl _ _⟩
 case pos=>
  have hd:((xs.length:Int) !=(ys.length:Int))=false:=by simp[c]
  have HL:Hid (xs.length=ys.length):=c;clear c;go_enter Tryz.func226,Tryz.ntmps226
  go_wp2
  go_loopw[5] (fun i wr=>∃k m:Nat,k≤xs.length∧i=.int .i64 k∧wr=w.drewN m∧Hid (∀j,j<k→z1V (xs.getD j z0b) (ys.getD j z0b)=true)) (fun i _=>xs.length-(intOf i).toNat)
  case atStart=>exact⟨0,0,Nat.zero_le _,rfl,rfl,fun j hj=>absurd hj (Nat.not_lt_zero _)⟩
  case round=>
   obtain⟨k,m,hk,rfl,rfl,HA⟩:=hrel;by_cases I:k<xs.length
   ·have J:k<ys.length:=by have:=HL.out;omega
    obtain⟨b,U,rfl,O,x,y⟩:=h.at k I;obtain⟨b',N,rfl,M,A,C⟩:=h'.at k J
    cases hs:z1V (xs.getD k z0b) (ys.getD k z0b)
    case false=>
     have E:Hid (sameIs xs ys=false):=z4x (f:=z1V) z0b (fun _ _ _ _=>rfl) xs ys k HL.out I hs;have hr:=z2M (xs.getD k z0b).key (xs.getD k z0b).val (ys.getD k z0b).key (ys.getD k z0b).val;rw[show z1V ⟨(xs.getD k z0b).key,(xs.getD k z0b).val⟩ ⟨(ys.getD k z0b).key,(ys.getD k z0b).val⟩=false from hs,Bool.not_false]at hr;clear HA hs;generalize xs.getD k z0b=z at x y hr;generalize ys.getD k z0b=z' at A C hr
     go_wp2
     go_quiet (fail)
     go_wp2
     go_ret;rw[E.out];exact⟨rfl,(Below.refl _ _).trans ⟨rfl,rfl,rfl,Nat.le_refl _,fun _ _=>rfl⟩⟩
    case true=>
     have HB:Hid (∀j,j<k+1→z1V (xs.getD j z0b) (ys.getD j z0b)=true):=by
      intro j hj;by_cases L:j=k
      ·subst L;exact hs
      ·exact HA.out j (by omega)
     have hr:=z2M (xs.getD k z0b).key (xs.getD k z0b).val (ys.getD k z0b).key (ys.getD k z0b).val;rw[show z1V ⟨(xs.getD k z0b).key,(xs.getD k z0b).val⟩ ⟨(ys.getD k z0b).key,(ys.getD k z0b).val⟩=true from hs,Bool.not_true]at hr;clear HA hs;generalize xs.getD k z0b=z at x y hr;generalize ys.getD k z0b=z' at A C hr
     go_wp2
     go_quiet (fail)
     go_wp2
     go_roundw
     case rel=>exact⟨k+1,_,by omega,by go_num,rfl,HB⟩
     case measure=>simp[intOf];omega
   ·have E:Hid (sameIs xs ys=true):=z4y (f:=z1V) z0b rfl (fun _ _ _ _=>rfl) xs ys HL.out (fun j hj=>HA.out j (by omega));clear HA
    go_wp2
    go_ret;rw[E.out];exact⟨rfl,(Below.refl _ _).trans ⟨rfl,rfl,rfl,Nat.le_refl _,fun _ _=>rfl⟩⟩
theorem z1X(a a':Option Addr)(cap cap':Nat)(xs ys:List ItemD)(w:World)(h:ItemRow w a xs)(h':ItemRow w a' ys)(hl:xs.length≤1048576)(hl':ys.length≤1048576):
  Calls Tryz.prog 34 #[.slice a xs.length cap,.slice a' ys.length cap'] w fun e w'=>e=.returned (.bool (sameIs xs ys))∧Below w.heap.size w w':=by
 have hq:=fun w h h'=>q0z a a' cap cap' xs ys w h h' hl hl'
 generalize sameIs xs ys=r at hq;go_enter Tryz.func34,Tryz.ntmps34
 go_wp2_with fail
 refine(hq _ h h').mono ?_;rintro e w' ⟨rfl,hb⟩
 go_wp2
 go_ret;exact⟨rfl,hb⟩
section
open Go.Deep Go.ChangeShapes Go.WideShapes
theorem q0A{α:Type}{c:Nat}(css:List (List α))(hc:∀l∈css,l.length=c):∀ (j:Nat) (x:α),css.flatten[j]?=some x→∃i r,j=i*c+r∧r<c∧i<css.length∧(css.getD i [])[r]?=some x:=by
 induction css with
 |nil=>intro j x h;simp at h
 |cons l css ih=>
  intro j x h;have hl:l.length=c:=hc l (by simp);rw[List.flatten_cons]at h;by_cases hj:j<c
  ·rw[List.getElem?_append_left (by omega)]at h;exact⟨0,j,by omega,hj,by simp,by simpa[List.getD]using h⟩
  ·rw[List.getElem?_append_right (by omega),hl]at h;obtain⟨i,r,e1,e2,e3,e4⟩:=ih (fun l hl=>hc l (by simp[hl])) _ _ h;refine⟨i+1,r,?_,e2,by simpa using e3,by simpa[List.getD]using e4⟩;rw[Nat.add_mul];omega
section
variable {H:Type} {enc:TypeId × Value→H} {P:Program} {w:World} {base:Nat} {spare:Nat→Bool} {held:Bool}
theorem z9P{t e:TypeId}{c J:Nat}{cs:List Value}{x:DataW H × List MemPlace}(ht:P.underlying t=some (.slice e))(hc:P.cellsOf e=c)(M:0<c)(h:DataW.trod enc P w base spare held J t cs=some x):
  ∃ (a:Option Addr) (cap n:Nat) (A:List (List Value)),cs=[.slice a A.length cap]∧A.length≤9223372036854775807∧Lies w a A.flatten∧∀l∈A,l.length=c∧∃y,DataW.trod enc P w base spare held n e l=some y:=by
 rcases open_slice ht h with⟨rfl,_⟩|⟨a,d,cap,m,n,D,Pl,rfl,hb,hl,hm,V,rfl,hx⟩
 ·exact⟨none,0,0,[],rfl,by simp,Or.inl rfl,by simp⟩
 have U:d≤m:=by rw[V];split<;>omega
 rw[hc]at hx;obtain⟨f,hf⟩:=choose_lt (α:=List Value) (p:=fun i l=>w.cells? base (a.add (i*c)) c=some l∧DataW.trod enc P w base spare held n e l=some (D i,Pl i)) (fun i hi=>hx i (Nat.lt_of_lt_of_le hi U));have z:∀i,i<d→(f i).length=c:=fun i hi=>(World.cells?_some (hf i hi).1).2.1
 have L:∀l∈(List.range d).map f,l.length=c:=by
  intro l hl;obtain⟨i,hi,rfl⟩:=List.mem_map.1 hl;exact z i (List.mem_range.1 hi)
 refine⟨some a,cap,n,(List.range d).map f,by simp,?_,?_,?_⟩
 ·unfold maxLen at hm;simp;omega
 ·by_cases h0:d=0
  ·subst h0;exact Or.inl rfl
  ·right;have C:=(World.cells?_some (hf 0 (by omega)).1).2.2 0 M;obtain⟨v,hv⟩:∃v,(f 0)[0]?=some v:=⟨_,List.getElem?_eq_getElem (by rw[z 0 (by omega)];exact M)⟩
   rw[hv,add_add]at C;obtain⟨b,X,T⟩:=a;have I:T=none:=by simpa[Addr.add]using World.cell?_spot C
   subst I;refine⟨b,X,rfl,by simpa[Addr.add_lit]using World.block_lt_of_cell? w _ C,?_⟩;intro j x hj;obtain⟨i,r,rfl,hr,hi,W⟩:=q0A _ L j x hj;have N:i<d:=by simpa using hi
   have O:(f i)[r]?=some x:=by simpa[List.getD,N]using W
   have:=(World.cells?_some (hf i N).1).2.2 r hr;rw[add_add,Addr.add_lit,O]at this;exact this
 ·intro l hl;obtain⟨i,hi,rfl⟩:=List.mem_map.1 hl;exact⟨z i (List.mem_range.1 hi),_,(hf i (List.mem_range.1 hi)).2⟩
end
theorem q3c{α β:Type}{p:β→α→Prop}{q:α→Prop}(f:β→α)(l:List α)(h:∀x∈l,∃b,x=f b):∃bs:List β,l=bs.map f:=by
 induction l with
 |nil=>exact⟨[],rfl⟩
 |cons x l ih=>
  obtain⟨bs,rfl⟩:=ih (fun x hx=>h x (by simp[hx]));obtain⟨b,rfl⟩:=h x (by simp);exact⟨b::bs,rfl⟩
section
variable {H:Type} {enc:TypeId × Value→H} {w:World} {base:Nat} {spare:Nat→Bool} {held:Bool}
theorem q3d{fuel:Nat}{cs:List Value}{x:DataW H × List MemPlace}(h:DataW.trod enc Tryz.prog w base spare held fuel 207 cs=some x):∃z:ActD,cs=z.cells:=by
 obtain⟨y0,y1,y2,n,_,hl,h0,h1,h2⟩:=trod_struct3 Tryz.underlying207 h;rw[show Tryz.prog.cellsOf 207=3 by kernel_rfl]at hl;have e:Tryz.prog.cellsOf 2=1:=by kernel_rfl
 match cs,hl with
 |[c0,c1,c2],_=>
  simp only[e,List.drop_zero,List.drop_succ_cons,List.take_succ_cons,List.take_zero]at h0 h1 h2;obtain⟨k,e0,_⟩:=DataW.trod_int Tryz.underlying2 h0;obtain⟨y,e1,_⟩:=DataW.trod_int Tryz.underlying2 h1;obtain⟨v,e2,_⟩:=DataW.trod_int Tryz.underlying2 h2;simp only[List.cons.injEq,and_true]at e0 e1 e2;exact⟨⟨k,y,v⟩,by rw[e0,e1,e2];rfl⟩
theorem q1T{fuel:Nat}{cs:List Value}{x:DataW H × List MemPlace}(h:DataW.trod enc Tryz.prog w base spare held fuel 74 cs=some x):
  ∃ (a:Option Addr) (cap:Nat) (zs:List ActD),cs=[.slice a zs.length cap]∧zs.length≤9223372036854775807∧ActRow w a zs:=by
 obtain⟨a,cap,n,css,rfl,hl,hL,hc⟩:=z9P Tryz.underlying74 (show Tryz.prog.cellsOf 207=3 by kernel_rfl) (by omega) h;obtain⟨zs,rfl⟩:=q3c (p:=fun _ _=>True) (q:=fun _=>True) ActD.cells css (fun l hl=>by obtain⟨_,y,hy⟩:=hc l hl;exact q3d hy);refine⟨a,cap,zs,by simp,by simpa using hl,?_⟩;rw[←List.flatMap_def]at hL;exact hL
theorem z7b{fuel:Nat}{cs:List Value}{x:DataW H × List MemPlace}(h:DataW.trod enc Tryz.prog w base spare held fuel 76 cs=some x):
  ∃ (i s q:Int) (a:Option Addr) (cap:Nat) (zs:List ActD),cs=[.int .i64 i,.int .i64 s,.int .i64 q,.slice a zs.length cap]∧zs.length≤9223372036854775807∧ActRow w a zs:=by
 obtain⟨y0,y1,y2,y3,n,_,hl,h0,h1,h2,h3⟩:=Go.Joins.trod_struct4 Tryz.underlying76 h;rw[show Tryz.prog.cellsOf 76=4 by kernel_rfl]at hl;have e:Tryz.prog.cellsOf 2=1:=by kernel_rfl
 have e':Tryz.prog.cellsOf 74=1:=by kernel_rfl
 match cs,hl with
 |[c0,c1,c2,c3],_=>
  simp only[e,e',List.drop_zero,List.drop_succ_cons,List.take_succ_cons,List.take_zero]at h0 h1 h2 h3;obtain⟨k,e0,_⟩:=DataW.trod_int Tryz.underlying2 h0;obtain⟨y,e1,_⟩:=DataW.trod_int Tryz.underlying2 h1;obtain⟨v,e2,_⟩:=DataW.trod_int Tryz.underlying2 h2;obtain⟨a,cap,zs,e3,hz,hA⟩:=q1T h3;simp only[List.cons.injEq,and_true]at e0 e1 e2 e3;exact⟨k,y,v,a,cap,zs,by rw[e0,e1,e2,e3],hz,hA⟩
end
section
variable {H:Type} {enc:TypeId × Value→H} {w:World} {base:Nat} {spare:Nat→Bool} {held:Bool}
theorem q1U{α β:Type}(f:β→α)(q:β→Prop)(l:List α)(h:∀x∈l,∃b,x=f b∧q b):∃bs:List β,l=bs.map f∧∀b∈bs,q b:=by
 induction l with
 |nil=>exact⟨[],rfl,by simp⟩
 |cons x l ih=>
  obtain⟨bs,rfl,hq⟩:=ih (fun x hx=>h x (by simp[hx]));obtain⟨b,rfl,hb⟩:=h x (by simp);exact⟨b::bs,rfl,by intro c hc;rcases List.mem_cons.1 hc with rfl|hc;exact hb;exact hq c hc⟩
end
section
variable {H:Type} {enc:TypeId × Value→H} {w:World} {base:Nat} {spare:Nat→Bool} {held:Bool}
theorem z1G{P:Type}(K:Kind P)(q:P→Prop){t e:TypeId}{fuel:Nat}{cs:List Value}{x:DataW H × List MemPlace}(ht:Tryz.prog.underlying t=some (.slice e))(hc:Tryz.prog.cellsOf e=K.size)(hc0:0<K.size)
  (hel:∀ (n:Nat) (l:List Value) y,DataW.trod enc Tryz.prog w base spare held n e l=some y→∃p:P,l=K.cells p∧K.rd w p∧q p) (h:DataW.trod enc Tryz.prog w base spare held fuel t cs=some x):
  ∃ (v:Value) (ps:List P),cs=[v]∧K.At w v ps∧ps.length≤9223372036854775807∧∀p∈ps,q p:=by
 obtain⟨a,cap,n,css,rfl,hl,hL,hcs⟩:=z9P ht hc hc0 h;obtain ⟨ps,rfl,hq⟩:=q1U K.cells (fun p=>K.rd w p∧q p) css (fun l hl=>by
  obtain⟨_,y,hy⟩:=hcs l hl;obtain⟨p,h1,h2,h3⟩:=hel n l y hy;exact ⟨p,h1,h2,h3⟩)
 rw[←List.flatMap_def]at hL;refine⟨.slice a (ps.map K.cells).length cap,ps,rfl,⟨a,cap,by rw[List.length_map],hL,fun p hp=>(hq p hp).1⟩,by simpa using hl,fun p hp=>(hq p hp).2⟩
theorem q3e(n:Nat)(l:List Value)(y:DataW H × List MemPlace)(h:DataW.trod enc Tryz.prog w base spare held n 2 l=some y):∃p:Int,l=intK.cells p∧intK.rd w p∧True:=by
 obtain⟨k,e,_⟩:=DataW.trod_int Tryz.underlying2 h;exact⟨k,e,trivial,trivial⟩
theorem z37{fuel:Nat}{cs:List Value}{x:DataW H × List MemPlace}(h:DataW.trod enc Tryz.prog w base spare held fuel 115 cs=some x):
  ∃ (v:Value) (zs:List Int),cs=[v]∧intK.At w v zs∧zs.length≤9223372036854775807:=by
 obtain⟨v,ps,h1,h2,h3,_⟩:=z1G intK (fun _=>True) Tryz.underlying115 (by kernel_rfl) (by decide) q3e h;exact⟨v,ps,h1,h2,h3⟩
theorem q1V(n:Nat)(l:List Value)(y:DataW H × List MemPlace)(h:DataW.trod enc Tryz.prog w base spare held n 76 l=some y):∃p:TxnQ,l=txnK.cells p∧txnK.rd w p∧TxnQ.wf p:=by
 obtain⟨i,s,q,a,cap,zs,e,hz,hA⟩:=z7b h;exact⟨⟨i,s,q,.slice a zs.length cap,zs⟩,e,q4a hA,hz⟩
theorem z38{fuel:Nat}{cs:List Value}{x:DataW H × List MemPlace}(h:DataW.trod enc Tryz.prog w base spare held fuel 57 cs=some x):
  ∃ (v:Value) (ps:List TxnQ),cs=[v]∧txnK.At w v ps∧ps.length≤9223372036854775807∧∀p∈ps,TxnQ.wf p:=
 z1G txnK TxnQ.wf Tryz.underlying57 (by kernel_rfl) (by decide) q1V h
theorem z9h(n:Nat)(l:List Value)(y:DataW H × List MemPlace)(h:DataW.trod enc Tryz.prog w base spare held n 265 l=some y):∃p:RoundQ,l=roundK.cells p∧roundK.rd w p∧RoundQ.wf p:=by
 obtain⟨y0,y1,n,_,hl,h0,h1⟩:=trod_struct2 Tryz.underlying265 h;rw[show Tryz.prog.cellsOf 265=2 by kernel_rfl]at hl;have e:Tryz.prog.cellsOf 115=1:=by kernel_rfl
 match l,hl with
 |[c0,c1],_=>
  simp only[e,List.drop_zero,List.drop_succ_cons,List.take_succ_cons,List.take_zero]at h0 h1;obtain⟨v0,z0,e0,a0,l0⟩:=z37 h0;obtain⟨v1,z1,e1,a1,l1⟩:=z37 h1;simp only[List.cons.injEq,and_true]at e0 e1;exact⟨⟨v0,z0,v1,z1⟩,by rw[e0,e1];rfl,⟨a0,a1⟩,⟨l0,l1⟩⟩
theorem z8f{fuel:Nat}{cs:List Value}{x:DataW H × List MemPlace}(h:DataW.trod enc Tryz.prog w base spare held fuel 121 cs=some x):
  ∃ (v:Value) (ps:List RoundQ),cs=[v]∧roundK.At w v ps∧ps.length≤9223372036854775807∧∀p∈ps,RoundQ.wf p:=
 z1G roundK RoundQ.wf Tryz.underlying121 (by kernel_rfl) (by decide) z9h h
theorem z55{fuel:Nat}{cs:List Value}{x:DataW H × List MemPlace}(h:DataW.trod enc Tryz.prog w base spare held fuel 123 cs=some x):
  ∃p:InstQ,cs=[.bool p.has,p.vb,p.vr,p.vd]∧instK.rd w p∧p.wf:=by
 obtain⟨y0,y1,y2,y3,n,_,hl,h0,h1,h2,h3⟩:=Go.Joins.trod_struct4 Tryz.underlying123 h;rw[show Tryz.prog.cellsOf 123=4 by kernel_rfl]at hl;have e:Tryz.prog.cellsOf 4=1:=by kernel_rfl
 have e':Tryz.prog.cellsOf 57=1:=by kernel_rfl
 have e2:Tryz.prog.cellsOf 121=1:=by kernel_rfl
 have e3:Tryz.prog.cellsOf 115=1:=by kernel_rfl
 match cs,hl with
 |[c0,c1,c2,c3],_=>
  simp only[e,e',e2,e3,List.drop_zero,List.drop_succ_cons,List.take_succ_cons,List.take_zero]at h0 h1 h2 h3;obtain⟨k,e0,_⟩:=DataW.trod_bool Tryz.underlying4 h0;obtain⟨v1,z1,e1,a1,l1,w1⟩:=z38 h1;obtain⟨v2,z2,e2,a2,l2,w2⟩:=z8f h2;obtain⟨v3,z3,e3,a3,l3⟩:=z37 h3;simp only[List.cons.injEq,and_true]at e0 e1 e2 e3;exact⟨⟨k,v1,z1,v2,z2,v3,z3⟩,by rw[e0,e1,e2,e3],⟨a1,a2,a3⟩,⟨⟨l1,w1⟩,⟨l2,w2⟩,l3⟩⟩
end
end
section
open Go.ChangeShapes Go.WideShapes
theorem gRul : Tryz.prog.globalNamed "loop.example/g00631/impl.rules" = some 1 := by kernel_rfl
theorem tRul:(Tryz.prog.globals[1]?).map (·.type)=some 402:=by kernel_rfl
theorem q5p:Tryz.prog.cellsOf 393=7:=by kernel_rfl
theorem cCh:Tryz.prog.cellsOf 277=4:=by kernel_rfl
theorem cI:Tryz.prog.cellsOf 2=1:=by kernel_rfl
theorem cB:Tryz.prog.cellsOf 4=1:=by kernel_rfl
section
variable {H:Type} {enc:TypeId × Value→H} {w:World} {base:Nat} {spare:Nat→Bool} {held:Bool}
theorem z8g{fuel:Nat}{cs:List Value}{c v:Int}{d k:Bool}{q:List MemPlace}(h:DataW.trod enc Tryz.prog w base spare held fuel 277 cs=some (.agg [.lit (.int .i64 c),.lit (.bool d),.lit (.bool k),.lit (.int .i64 v)],q)):cs=[.int .i64 c,.bool d,.bool k,.int .i64 v]:=by
 obtain⟨y0,y1,y2,y3,n,hx,hl,h0,h1,h2,h3⟩:=Go.Joins.trod_struct4 Tryz.underlying277 h;rw[cCh]at hl;simp only[Prod.mk.injEq,DataW.agg.injEq,List.cons.injEq,and_true]at hx;obtain⟨⟨x0,x1,x2,x3⟩,_⟩:=hx
 match cs,hl with
 |[c0,c1,c2,c3],_=>
  simp only[cI,cB,List.drop_zero,List.drop_succ_cons,List.take_succ_cons,List.take_zero]at h0 h1 h2 h3;obtain⟨n0,e0,g0,_⟩:=DataW.trod_int Tryz.underlying2 h0;obtain⟨n1,e1,g1⟩:=DataW.trod_bool Tryz.underlying4 h1;obtain⟨n2,e2,g2⟩:=DataW.trod_bool Tryz.underlying4 h2;obtain⟨n3,e3,g3,_⟩:=DataW.trod_int Tryz.underlying2 h3;simp only[List.cons.injEq,and_true]at e0 e1 e2 e3;rw[g0]at x0;rw[g1]at x1;rw[g2]at x2;rw[g3]at x3;simp at x0 x1 x2 x3;rw[e0,e1,e2,e3,x0,x1,x2,x3]
theorem z1Y{fuel:Nat}{cs:List Value}{z o p c v:Int}{d k:Bool}{q:List MemPlace}(h:DataW.trod enc Tryz.prog w base spare held fuel 393 cs=some (.agg [.lit (.int .i64 z),.lit (.int .i64 o),.lit (.int .i64 p),.agg [.lit (.int .i64 c),.lit (.bool d),.lit (.bool k),.lit (.int .i64 v)]],q)):
  cs=[.int .i64 z,.int .i64 o,.int .i64 p,.int .i64 c,.bool d,.bool k,.int .i64 v]:=by
 obtain⟨y0,y1,y2,y3,n,hx,hl,h0,h1,h2,h3⟩:=Go.Joins.trod_struct4 Tryz.underlying393 h;rw[q5p]at hl;simp only[Prod.mk.injEq,DataW.agg.injEq,List.cons.injEq,and_true]at hx;obtain⟨⟨x0,x1,x2,x3⟩,_⟩:=hx
 match cs,hl with
 |[c0,c1,c2,c3,c4,c5,c6],_=>
  simp only[cI,cCh,List.drop_zero,List.drop_succ_cons,List.take_succ_cons,List.take_zero]at h0 h1 h2 h3;obtain⟨n0,e0,g0,_⟩:=DataW.trod_int Tryz.underlying2 h0;obtain⟨n1,e1,g1,_⟩:=DataW.trod_int Tryz.underlying2 h1;obtain⟨n2,e2,g2,_⟩:=DataW.trod_int Tryz.underlying2 h2;obtain⟨y30,y31⟩:=y3;dsimp only at x3;rw[←x3]at h3;have e3:=z8g h3;simp only[List.cons.injEq,and_true]at e0 e1 e2 e3;rw[g0]at x0;rw[g1]at x1;rw[g2]at x2;simp at x0 x1 x2;obtain⟨e3,e4,e5,e6⟩:=e3;rw[e0,e1,e2,e3,e4,e5,e6,x0,x1,x2]
end
end
def z1H(x y:ActD):Bool:=(x.kind==y.kind) && ((x.key==y.key) && (x.val==y.val))
def sameAs:List ActD→List ActD→Bool
 |[],[]=>true
 |x::r,y::s=>z1H x y && sameAs r s
 |_,_=>false
def z1j(x y:TxnD):Bool:=(x.id==y.id) && (x.session==y.session) && (x.seq==y.seq) && sameAs x.acts y.acts
def sameTs:List TxnD→List TxnD→Bool
 |[],[]=>true
 |x::r,y::s=>z1j x y && sameTs r s
 |_,_=>false
theorem z2N{α:Type}{f:α→α→Bool}{g:List α→List α→Bool}(h0:g [] []=true)(h1:∀x r y s,g (x::r) (y::s)=(f x y && g r s))(h2:∀x r,g (x::r) []=false)(h3:∀y s,g [] (y::s)=false):
  ∀a b,a.length≠b.length→g a b=false:=by
 intro a;induction a with
 |nil=>intro b h;cases b with|nil=>simp at h|cons y s=>exact h3 y s
 |cons x r ih=>intro b h;cases b with|nil=>exact h2 x r|cons y s=>rw[h1,ih s (by simpa using h)];simp
theorem z2O{α:Type}{f:α→α→Bool}{g:List α→List α→Bool}(d:α)(h1:∀x r y s,g (x::r) (y::s)=(f x y && g r s)):
  ∀a b k,a.length=b.length→k<a.length→f (a.getD k d) (b.getD k d)=false→g a b=false:=by
 intro a;induction a with
 |nil=>intro b k _ h;simp at h
 |cons x r ih=>
  intro b k hl hk hf
  cases b with
  |nil=>simp at hl
  |cons y s=>
   rw[h1]
   cases k with
   |zero=>simp[List.getD]at hf;simp[hf]
   |succ k=>rw[ih s k (by simpa using hl) (by simpa using hk) (by simpa[List.getD]using hf)];simp
theorem z2P{α:Type}{f:α→α→Bool}{g:List α→List α→Bool}(d:α)(h0:g [] []=true)(h1:∀x r y s,g (x::r) (y::s)=(f x y && g r s)):
  ∀a b,a.length=b.length→(∀k,k<a.length→f (a.getD k d) (b.getD k d)=true)→g a b=true:=by
 intro a;induction a with
 |nil=>intro b hl _;cases b with|nil=>exact h0|cons y s=>simp at hl
 |cons x r ih=>
  intro b hl hf
  cases b with
  |nil=>simp at hl
  |cons y s=>
   rw[h1,ih s (by simpa using hl) (fun k hk=>by simpa[List.getD]using hf (k+1) (by simpa using hk))];have:=hf 0 (by simp);simp[List.getD]at this;simp[this]
theorem z5s(x0 x1 x2 y0 y1 y2:Int)(w:World):(binOp .neq 144 (.agg #[.int .i64 x0,.int .i64 x1,.int .i64 x2]) (.agg #[.int .i64 y0,.int .i64 y1,.int .i64 y2])).run Tryz.prog w=.ok (.bool (!z1H ⟨x0,x1,x2⟩ ⟨y0,y1,y2⟩)) w:=by
 rw[run_neq_struct,run_equalIn_struct (P:=Tryz.prog) w 9999 144 _ _ (by kernel_rfl) (by kernel_rfl)];have c1:Tryz.prog.cellsOf 2=1:=by kernel_rfl
 cases h0:(x0==y0)<;>cases h1:(x1==y1)<;>cases h2:(x2==y2)<;>simp[Program.fieldsOf,Tryz.underlying144,Op.eqFields,go_sem,Tryz.underlying2,h0,h1,h2,z1H,c1]
theorem q0B(a a':Option Addr)(cap d:Nat)(xs ys:List ActD)(w:World)(h:ActRow w a xs)(h':ActRow w a' ys)(hl:xs.length≤1048576)(V:ys.length≤1048576):
  Calls Tryz.prog 114 #[.slice a xs.length cap,.slice a' ys.length d] w fun e w'=>e=.returned (.bool (sameAs xs ys))∧Below w.heap.size w w':=by
 by_cases c:xs.length=ys.length
 case neg=>
  have E:sameAs xs ys=false:=z2N (f:=z1H) rfl (fun _ _ _ _=>rfl) (fun _ _=>rfl) (fun _ _=>rfl) xs ys c;rw[E];have hd:((xs.length:Int) !=(ys.length:Int))=true:=by simp;omega
  go_enter Tryz.func114,Tryz.ntmps114
  go_wp2
  go_ret;exact⟨rfl,Below.refl _ _⟩
 case pos=>
  have hd:((xs.length:Int) !=(ys.length:Int))=false:=by simp[c]
  have HL:Hid (xs.length=ys.length):=c;clear c;go_enter Tryz.func114,Tryz.ntmps114
  go_wp2
  go_loopw[13] (fun i wr=>∃k m:Nat,k≤xs.length∧i=.int .i64 k∧wr=w.drewN m∧Hid (∀j,j<k→z1H (xs.getD j z0d) (ys.getD j z0d)=true)) (fun i _=>xs.length-(intOf i).toNat)
  case atStart=>exact⟨0,0,Nat.zero_le _,rfl,rfl,fun j hj=>absurd hj (Nat.not_lt_zero _)⟩
  case round=>
   obtain⟨k,m,hk,rfl,rfl,HA⟩:=hrel;by_cases L:k<xs.length
   ·have M:k<ys.length:=by have:=HL.out;omega
    obtain⟨b,W,rfl,U,x,y,A⟩:=h.at k L;obtain⟨b',T,rfl,O,C,I,J⟩:=h'.at k M
    cases hs:z1H (xs.getD k z0d) (ys.getD k z0d)
    case false=>
     have E:Hid (sameAs xs ys=false):=z2O (f:=z1H) z0d (fun _ _ _ _=>rfl) xs ys k HL.out L hs;have hr:=z5s (xs.getD k z0d).kind (xs.getD k z0d).key (xs.getD k z0d).val (ys.getD k z0d).kind (ys.getD k z0d).key (ys.getD k z0d).val;rw[show z1H ⟨(xs.getD k z0d).kind,(xs.getD k z0d).key,(xs.getD k z0d).val⟩ ⟨(ys.getD k z0d).kind,(ys.getD k z0d).key,(ys.getD k z0d).val⟩=false from hs,Bool.not_false]at hr;clear HA hs;generalize xs.getD k z0d=z at x y A hr;generalize ys.getD k z0d=z' at C I J hr
     go_wp2
     go_quiet (fail)
     go_wp2
     go_ret;rw[E.out];exact⟨rfl,⟨rfl,rfl,rfl,Nat.le_refl _,fun _ _=>rfl⟩⟩
    case true=>
     have HB:Hid (∀j,j<k+1→z1H (xs.getD j z0d) (ys.getD j z0d)=true):=by
      intro j hj;by_cases N:j=k
      ·subst N;exact hs
      ·exact HA.out j (by omega)
     have hr:=z5s (xs.getD k z0d).kind (xs.getD k z0d).key (xs.getD k z0d).val (ys.getD k z0d).kind (ys.getD k z0d).key (ys.getD k z0d).val;rw[show z1H ⟨(xs.getD k z0d).kind,(xs.getD k z0d).key,(xs.getD k z0d).val⟩ ⟨(ys.getD k z0d).kind,(ys.getD k z0d).key,(ys.getD k z0d).val⟩=true from hs,Bool.not_true]at hr;clear HA hs;generalize xs.getD k z0d=z at x y A hr;generalize ys.getD k z0d=z' at C I J hr
     go_wp2
     go_quiet (fail)
     go_wp2
     go_roundw
     case rel=>exact⟨k+1,_,by omega,by go_num,rfl,HB⟩
     case measure=>simp[intOf];omega
   ·have E:Hid (sameAs xs ys=true):=z2P (f:=z1H) z0d rfl (fun _ _ _ _=>rfl) xs ys HL.out (fun j hj=>HA.out j (by omega));clear HA
    go_wp2
    go_ret;rw[E.out];exact⟨rfl,⟨rfl,rfl,rfl,Nat.le_refl _,fun _ _=>rfl⟩⟩
theorem z39(x y:TxnD):((x.id==y.id)=false∧z1j x y=false)∨((x.id==y.id)=true∧(x.session==y.session)=false∧z1j x y=false)∨((x.id==y.id)=true∧(x.session==y.session)=true∧(x.seq==y.seq)=false∧z1j x y=false)∨
  ((x.id==y.id)=true∧(x.session==y.session)=true∧(x.seq==y.seq)=true∧z1j x y=sameAs x.acts y.acts):=by
 unfold z1j
 cases h1:(x.id==y.id)<;>cases h2:(x.session==y.session)<;>cases h3:(x.seq==y.seq)<;>simp
theorem z7c(x y:TxnD)(a a':Option Addr)(cap cap':Nat)(w:World)(h:ActRow w a x.acts)(h':ActRow w a' y.acts)(hl:x.acts.length≤1048576)(hl':y.acts.length≤1048576):
    Calls Tryz.prog 65 #[.agg #[.int .i64 x.id,.int .i64 x.session,.int .i64 x.seq,.slice a x.acts.length cap],.agg #[.int .i64 y.id,.int .i64 y.session,.int .i64 y.seq,.slice a' y.acts.length cap']] w fun e w'=>e=.returned (.bool (z1j x y))∧Below w.heap.size w w':=by
  have hq:=fun w h h'=>q0B a a' cap cap' x.acts y.acts w h h' hl hl'
  rcases z39 x y with⟨h1,e⟩|⟨h1,h2,e⟩|⟨h1,h2,h3,e⟩|⟨h1,h2,h3,e⟩<;>rw[e]<;>clear e;all_goals
    (generalize sameAs x.acts y.acts=r at hq
     obtain⟨x0,x1,x2,xs⟩:=x;obtain⟨y0,y1,y2,ys⟩:=y;dsimp only at *)
  all_goals
    (go_enter Tryz.func65,Tryz.ntmps65
     go_wp2_with (go_at_call 114;refine(hq _ (h.below (by go_grown)) (h'.below (by go_grown))).mono ?_;rintro e w' ⟨rfl,hb⟩)
     go_ret)
  · exact⟨rfl,by go_grown⟩
  · exact⟨rfl,by go_grown⟩
  · exact⟨rfl,by go_grown⟩
  · exact⟨rfl,z0s (by go_grown) hb⟩
theorem z7d(v v':Value)(xs ys:List TxnD)(w:World)(h:TxnsAt w v xs)(h':TxnsAt w v' ys)(hl:xs.length+z5c xs≤1048576)(ah:ys.length+z5c ys≤1048576):
  Calls Tryz.prog 64 #[v,v',.func (.func 65) #[] #[]] w fun e w'=>e=.returned (.bool (sameTs xs ys))∧Below w.heap.size w w':=by
 obtain⟨a,cap,rfl⟩:=h.shape;obtain⟨a',ae,rfl⟩:=h'.shape;by_cases d:xs.length=ys.length
 case neg=>
  have E:sameTs xs ys=false:=z2N (f:=z1j) rfl (fun _ _ _ _=>rfl) (fun _ _=>rfl) (fun _ _=>rfl) xs ys d;rw[E];have hd:((xs.length:Int) !=(ys.length:Int))=true:=by simp;omega
  go_enter Tryz.func64,Tryz.ntmps64
  go_wp2
  go_ret;exact⟨rfl,Below.refl _ _⟩
 case pos=>
  have hd:((xs.length:Int) !=(ys.length:Int))=false:=by simp[d]
  have HL:Hid (xs.length=ys.length):=d;clear d;go_enter Tryz.func64,Tryz.ntmps64
  go_wp2
  go_loopw[17] (fun i wr=>∃k:Nat,k≤xs.length∧i=.int .i64 k∧Below w.heap.size w wr∧Hid (∀j,j<k→z1j (xs.getD j z0k) (ys.getD j z0k)=true)) (fun i _=>xs.length-(intOf i).toNat)
  case atStart=>exact⟨0,Nat.zero_le _,rfl,Below.refl _ _,fun j hj=>absurd hj (Nat.not_lt_zero _)⟩
  case round=>
   obtain⟨k,hk,rfl,hb,HA⟩:=hrel;by_cases V:k<xs.length
   ·have U:k<ys.length:=by have:=HL.out;omega
    obtain⟨b,aj,aa,cc,rfl,ag,y,A,C,I,hA⟩:=(h.below hb).at k V;obtain⟨b',af,X,Y,rfl,W,J,L,M,N,c⟩:=(h'.below hb).at k U;have T:(xs.getD k z0k).acts.length≤z5c xs:=z1b (by simp[List.getD,V]);have x:(ys.getD k z0k).acts.length≤z5c ys:=z1b (by simp[List.getD,U]);have hq:=fun w h h'=>z7c (xs.getD k z0k) (ys.getD k z0k) aa X cc Y w h h' (by omega) (by omega)
    have ai:=hb.size;have Z:∀ (o:Obj) (j:Nat),(wr.alloc o).cell? ⟨b',j,none⟩=wr.cell? ⟨b',j,none⟩:=fun o j=>(show Below wr.heap.size wr (wr.alloc o) by go_grown).cell (p:=⟨b',j,none⟩) W
    cases hs:z1j (xs.getD k z0k) (ys.getD k z0k)
    case false=>
     have E:Hid (sameTs xs ys=false):=z2O (f:=z1j) z0k (fun _ _ _ _=>rfl) xs ys k HL.out V hs;rw[hs]at hq;clear HA hs;generalize xs.getD k z0k=z at y A C I hA hq T;generalize ys.getD k z0k=z' at J L M N c hq x;obtain⟨z0,z1,z2,zs⟩:=z;obtain⟨y0,y1,y2,us⟩:=z';dsimp only at y A C I hA J L M N c hq T x
     go_wp2_with fail
     refine(hq _ (hA.below (by go_grown)) (c.below (by go_grown))).mono ?_;rintro e w2 ⟨rfl,O⟩
     go_wp2
     go_ret;rw[E.out];exact⟨rfl,z0s (z0s hb (by go_grown)) O⟩
    case true=>
     have HB:Hid (∀j,j<k+1→z1j (xs.getD j z0k) (ys.getD j z0k)=true):=by
      intro j hj;by_cases ad:j=k
      ·subst ad;exact hs
      ·exact HA.out j (by omega)
     rw[hs]at hq;clear HA hs;generalize xs.getD k z0k=z at y A C I hA hq T;generalize ys.getD k z0k=z' at J L M N c hq x;obtain⟨z0,z1,z2,zs⟩:=z;obtain⟨y0,y1,y2,us⟩:=z';dsimp only at y A C I hA J L M N c hq T x
     go_wp2_with fail
     refine(hq _ (hA.below (by go_grown)) (c.below (by go_grown))).mono ?_;rintro e w2 ⟨rfl,O⟩;have ab:=z0s (z0s hb (by go_grown)) O;clear O Z y A C I J L M N hA c hq
     go_wp2
     go_roundw
     case rel=>exact⟨k+1,by omega,by go_num,ab,HB⟩
     case measure=>simp[intOf];omega
   ·have E:Hid (sameTs xs ys=true):=z2P (f:=z1j) z0k rfl (fun _ _ _ _=>rfl) xs ys HL.out (fun j hj=>HA.out j (by omega));clear HA
    go_wp2
    go_ret;rw[E.out];exact⟨rfl,hb⟩
theorem z1y(v v':Value)(xs ys:List TxnD)(w:World)(h:TxnsAt w v xs)(h':TxnsAt w v' ys)(hl:xs.length+z5c xs≤1048576)(hl':ys.length+z5c ys≤1048576):
  Calls Tryz.prog 18 #[v,v'] w fun e w'=>e=.returned (.bool (sameTs xs ys))∧Below w.heap.size w w':=by
 have hq:=z7d v v' xs ys w h h' hl hl';generalize sameTs xs ys=r at hq;go_enter Tryz.func18,Tryz.ntmps18
 go_wp2_with fail
 refine hq.mono ?_;rintro e w2 ⟨rfl,hb⟩
 go_wp2
 go_ret;exact⟨rfl,hb⟩
theorem z9i(x y:TxnD):((x.id !=y.id)=true∧z1j x y=false)∨((x.id !=y.id)=false∧(x.session !=y.session)=true∧z1j x y=false)∨((x.id !=y.id)=false∧(x.session !=y.session)=false∧(x.seq !=y.seq)=true∧z1j x y=false)∨
  ((x.id !=y.id)=false∧(x.session !=y.session)=false∧(x.seq !=y.seq)=false∧((x.acts.length:Int) !=(y.acts.length:Int))=true∧z1j x y=false)∨
  ((x.id !=y.id)=false∧(x.session !=y.session)=false∧(x.seq !=y.seq)=false∧((x.acts.length:Int) !=(y.acts.length:Int))=false∧z1j x y=sameAs x.acts y.acts):=by
 by_cases hl:x.acts.length=y.acts.length
 ·rcases z39 x y with⟨h1,e⟩|⟨h1,h2,e⟩|⟨h1,h2,h3,e⟩|⟨h1,h2,h3,e⟩<;>simp[bne, *]
 ·have hs:sameAs x.acts y.acts=false:=z2N (f:=z1H) rfl (fun _ _ _ _=>rfl) (fun _ _=>rfl) (fun _ _=>rfl) _ _ hl;have hl2:¬((x.acts.length:Int)=(y.acts.length:Int)):=by omega
  rcases z39 x y with⟨h1,e⟩|⟨h1,h2,e⟩|⟨h1,h2,h3,e⟩|⟨h1,h2,h3,e⟩<;>simp[bne, *]
theorem q0C(x y:TxnD)(b o b' o':Nat)(a a':Option Addr)(cap d:Nat)(w:World)(hB:Box4 w b o (.int .i64 x.id) (.int .i64 x.session) (.int .i64 x.seq) (.slice a x.acts.length cap))(T:Box4 w b' o' (.int .i64 y.id) (.int .i64 y.session) (.int .i64 y.seq) (.slice a' y.acts.length d))
  (h:ActRow w a x.acts) (h':ActRow w a' y.acts) (hl:x.acts.length≤1048576) (Z:y.acts.length≤1048576):
  Calls Tryz.prog 172 #[.pointer (some ⟨b,o,none⟩),.pointer (some ⟨b',o',none⟩)] w fun e w'=>e=.returned (.bool (z1j x y))∧Below w.heap.size w w':=by
 obtain⟨c0,c1,c2,c3⟩:=hB;obtain⟨d0,d1,d2,d3⟩:=T;rcases z9i x y with⟨h1,e⟩|⟨h1,h2,e⟩|⟨h1,h2,h3,e⟩|⟨h1,h2,h3,h4,e⟩|⟨h1,h2,h3,h4,e⟩<;>rw[e]<;>clear e<;>obtain⟨x0,x1,x2,xs⟩:=x<;>obtain⟨y0,y1,y2,ys⟩:=y<;>dsimp only at*
 ·go_enter Tryz.func172,Tryz.ntmps172
  go_wp2_with fail
  go_quiet (fail)
  go_wp2
  go_ret;exact⟨rfl,⟨rfl,rfl,rfl,Nat.le_refl _,fun _ _=>rfl⟩⟩
 ·go_enter Tryz.func172,Tryz.ntmps172
  go_wp2_with fail
  go_quiet (fail)
  go_wp2
  go_ret;exact⟨rfl,⟨rfl,rfl,rfl,Nat.le_refl _,fun _ _=>rfl⟩⟩
 ·go_enter Tryz.func172,Tryz.ntmps172
  go_wp2_with fail
  go_quiet (fail)
  go_wp2
  go_ret;exact⟨rfl,⟨rfl,rfl,rfl,Nat.le_refl _,fun _ _=>rfl⟩⟩
 ·go_enter Tryz.func172,Tryz.ntmps172
  go_wp2_with fail
  go_quiet (fail)
  go_wp2
  go_ret;exact⟨rfl,⟨rfl,rfl,rfl,Nat.le_refl _,fun _ _=>rfl⟩⟩
 ·have c:xs.length=ys.length:=by simp at h4;omega
  have HL:Hid (xs.length=ys.length):=c;clear c;go_enter Tryz.func172,Tryz.ntmps172
  go_wp2_with fail
  go_quiet (fail)
  go_wp2
  go_loopw[5] (fun i wr=>∃k m:Nat,k≤xs.length∧i=.int .i64 k∧wr=w.drewN m∧Hid (∀j,j<k→z1H (xs.getD j z0d) (ys.getD j z0d)=true)) (fun i _=>xs.length-(intOf i).toNat)
  case atStart=>exact⟨0,_,Nat.zero_le _,rfl,rfl,fun j hj=>absurd hj (Nat.not_lt_zero _)⟩
  case round=>
   obtain⟨k,m,hk,rfl,rfl,HA⟩:=hrel;by_cases N:k<xs.length
   ·have O:k<ys.length:=by have:=HL.out;omega
    obtain⟨bb,aa,rfl,Y,A,C,I⟩:=h.at k N;obtain⟨X,W,rfl,V,J,L,M⟩:=h'.at k O;have hr:=z5s (xs.getD k z0d).kind (xs.getD k z0d).key (xs.getD k z0d).val (ys.getD k z0d).kind (ys.getD k z0d).key (ys.getD k z0d).val
    cases hs:z1H (xs.getD k z0d) (ys.getD k z0d)
    case false=>
     have E:Hid (sameAs xs ys=false):=z2O (f:=z1H) z0d (fun _ _ _ _=>rfl) xs ys k HL.out N hs;rw[show z1H ⟨(xs.getD k z0d).kind,(xs.getD k z0d).key,(xs.getD k z0d).val⟩ ⟨(ys.getD k z0d).kind,(ys.getD k z0d).key,(ys.getD k z0d).val⟩=false from hs,Bool.not_false]at hr;clear HA hs;generalize xs.getD k z0d=z at A C I hr;generalize ys.getD k z0d=z' at J L M hr
     go_wp2
     go_quiet (fail)
     go_wp2
     go_ret;rw[E.out];exact⟨rfl,⟨rfl,rfl,rfl,Nat.le_refl _,fun _ _=>rfl⟩⟩
    case true=>
     have HB:Hid (∀j,j<k+1→z1H (xs.getD j z0d) (ys.getD j z0d)=true):=by
      intro j hj;by_cases U:j=k
      ·subst U;exact hs
      ·exact HA.out j (by omega)
     rw[show z1H ⟨(xs.getD k z0d).kind,(xs.getD k z0d).key,(xs.getD k z0d).val⟩ ⟨(ys.getD k z0d).kind,(ys.getD k z0d).key,(ys.getD k z0d).val⟩=true from hs,Bool.not_true]at hr;clear HA hs;generalize xs.getD k z0d=z at A C I hr;generalize ys.getD k z0d=z' at J L M hr
     go_wp2
     go_quiet (fail)
     go_wp2
     go_roundw
     case rel=>exact⟨k+1,_,by omega,by go_num,rfl,HB⟩
     case measure=>simp[intOf];omega
   ·have E:Hid (sameAs xs ys=true):=z2P (f:=z1H) z0d rfl (fun _ _ _ _=>rfl) xs ys HL.out (fun j hj=>HA.out j (by omega));clear HA
    go_wp2
    go_ret;rw[E.out];exact⟨rfl,⟨rfl,rfl,rfl,Nat.le_refl _,fun _ _=>rfl⟩⟩
theorem z1z(v v':Value)(xs ys:List TxnD)(w:World)(h:TxnsAt w v xs)(h':TxnsAt w v' ys)(hl:xs.length+z5c xs≤1048576)(ai:ys.length+z5c ys≤1048576):
  Calls Tryz.prog 110 #[v,v'] w fun e w'=>e=.returned (.bool (sameTs xs ys))∧Below w.heap.size w w':=by
 obtain⟨a,cap,rfl⟩:=h.shape;obtain⟨a',af,rfl⟩:=h'.shape;by_cases c:xs.length=ys.length
 case neg=>
  have E:sameTs xs ys=false:=z2N (f:=z1j) rfl (fun _ _ _ _=>rfl) (fun _ _=>rfl) (fun _ _=>rfl) xs ys c;rw[E];have hd:((xs.length:Int) !=(ys.length:Int))=true:=by simp;omega
  go_enter Tryz.func110,Tryz.ntmps110
  go_wp2
  go_ret;exact⟨rfl,Below.refl _ _⟩
 case pos=>
  have hd:((xs.length:Int) !=(ys.length:Int))=false:=by simp[c]
  have HL:Hid (xs.length=ys.length):=c;clear c;go_enter Tryz.func110,Tryz.ntmps110
  go_wp2
  go_loopw[5] (fun i wr=>∃k:Nat,k≤xs.length∧i=.int .i64 k∧Below w.heap.size w wr∧Hid (∀j,j<k→z1j (xs.getD j z0k) (ys.getD j z0k)=true)) (fun i _=>xs.length-(intOf i).toNat)
  case atStart=>exact⟨0,Nat.zero_le _,rfl,Below.refl _ _,fun j hj=>absurd hj (Nat.not_lt_zero _)⟩
  case round=>
   obtain⟨k,hk,rfl,hb,HA⟩:=hrel;by_cases C:k<xs.length
   ·have z:k<ys.length:=by have:=HL.out;omega
    obtain⟨b,y,aa,cc,rfl,ah,N,O,T,U,hA⟩:=(h.below hb).at k C;obtain⟨b',d,ab,ad,rfl,ag,V,W,X,Y,J⟩:=(h'.below hb).at k z;have Z:(xs.getD k z0k).acts.length≤z5c xs:=z1b (by simp[List.getD,C]);have A:(ys.getD k z0k).acts.length≤z5c ys:=z1b (by simp[List.getD,z]);have L:Box4 wr b (y+k*4) _ _ _ _:=⟨N,O,T,U⟩
    have M:Box4 wr b' (d+k*4) _ _ _ _:=⟨V,W,X,Y⟩
    have hq:=fun(w':World) (hW:Below wr.heap.size wr w')=>q0C (xs.getD k z0k) (ys.getD k z0k) b (y+k*4) b' (d+k*4) aa ab cc ad w' (L.below hW) (M.below hW) (hA.below hW) (J.below hW) (by omega) (by omega)
    clear L M hA J N O T U V W X Y
    cases hs:z1j (xs.getD k z0k) (ys.getD k z0k)
    case false=>
     have E:Hid (sameTs xs ys=false):=z2O (f:=z1j) z0k (fun _ _ _ _=>rfl) xs ys k HL.out C hs;rw[hs]at hq;clear HA hs Z A;have hW:Below wr.heap.size wr wr.drew:=(Below.refl _ _).drew;have I:Nonempty (Lat wr):=⟨⟨wr,Below.refl _ _⟩⟩
     go_wp2_with fail
     refine z0e (S:=fun w'=>∃u:Lat wr,w'=u.val) (by kernel_rfl) ?_;refine sgr [(0,6)] 2 (by kernel_rfl) ⟨⟨_,hW⟩,rfl⟩ ?_;simp only[pkE];repeat go_big_quiet_step (fail)
     refine wpQuiet_nil ?_;refine cla 6 (some 23) 172 #[.pointer (some ⟨b,y+k*4,none⟩),.pointer (some ⟨b',d+k*4,none⟩)] 1 (by kernel_rfl) ?_;refine(hq _ hW).mono ?_;rintro e w2 ⟨rfl,x⟩;replace hW:=hW.trans (x.mono hW.size);clear x hq;refine⟨_,rfl,⟨⟨_,hW⟩,rfl⟩,?_⟩;simp only[Act.put,pjE];refine sgr [(7,1)] 0 (by kernel_rfl) ⟨⟨_,hW⟩,rfl⟩ ?_;simp only[pkE];repeat go_big_quiet_step (fail)
     refine wpQuiet_nil ?_;refine z0i (by kernel_rfl) ?_;replace hb:=hb.trans (hW.mono hb.size);clear hW I
     go_wp2
     go_ret;rw[E.out];exact⟨rfl,hb⟩
    case true=>
     have HB:Hid (∀j,j<k+1→z1j (xs.getD j z0k) (ys.getD j z0k)=true):=by
      intro j hj;by_cases ae:j=k
      ·subst ae;exact hs
      ·exact HA.out j (by omega)
     rw[hs]at hq;clear HA hs Z A;have hW:Below wr.heap.size wr wr.drew:=(Below.refl _ _).drew;have I:Nonempty (Lat wr):=⟨⟨wr,Below.refl _ _⟩⟩
     go_wp2_with fail
     refine z0e (S:=fun w'=>∃u:Lat wr,w'=u.val) (by kernel_rfl) ?_;refine sgr [(0,6)] 2 (by kernel_rfl) ⟨⟨_,hW⟩,rfl⟩ ?_;simp only[pkE];repeat go_big_quiet_step (fail)
     refine wpQuiet_nil ?_;refine cla 6 (some 23) 172 #[.pointer (some ⟨b,y+k*4,none⟩),.pointer (some ⟨b',d+k*4,none⟩)] 1 (by kernel_rfl) ?_;refine(hq _ hW).mono ?_;rintro e w2 ⟨rfl,x⟩;replace hW:=hW.trans (x.mono hW.size);clear x hq;refine⟨_,rfl,⟨⟨_,hW⟩,rfl⟩,?_⟩;simp only[Act.put,pjE];refine sgr [(7,1)] 0 (by kernel_rfl) ⟨⟨_,hW⟩,rfl⟩ ?_;simp only[pkE];repeat go_big_quiet_step (fail)
     refine wpQuiet_nil ?_;refine z0i (by kernel_rfl) ?_;replace hb:=hb.trans (hW.mono hb.size);clear hW I
     go_wp2
     go_roundw
     case rel=>exact⟨k+1,by omega,by go_num,hb,HB⟩
     case measure=>simp[intOf];omega
   ·have E:Hid (sameTs xs ys=true):=z2P (f:=z1j) z0k rfl (fun _ _ _ _=>rfl) xs ys HL.out (fun j hj=>HA.out j (by omega));clear HA
    go_wp2
    go_ret;rw[E.out];exact⟨rfl,hb⟩
def q5Y:Value→Option Addr
 | .slice a _ _=>a
 |_=>none
def q6b:Value→Nat
 | .slice _ _ k=>k
 |_=>0
def TxnQ.p'(q:TxnQ):TxnP:=⟨q.e,q5Y q.va,q6b q.va⟩
theorem TxnQ.p_cells'{w:World}{q:TxnQ}(h:actK.At w q.va q.acts):q.p'.cells=txnK.cells q:=by
 obtain⟨a,c,e⟩:=h.shape;show [_,_,_,_]=[_,_,_,_]
 simp only[TxnP.sl,TxnQ.p',TxnQ.e,e,q5Y,q6b]
theorem z0v{w:World}{v:Value}{ps:List TxnQ}(h:txnK.At w v ps):TxnsAt w v (ps.map TxnQ.e):=by
 obtain⟨a,cap,e,hL,hr⟩:=h;refine⟨a,cap,ps.map TxnQ.p',by rw[List.length_map];exact e,by simp only[List.map_map];rfl,?_,?_⟩
 ·have e2:z0S (ps.map TxnQ.p')=txnK.row ps:=by
   clear hL e;induction ps with
   |nil=>rfl
   |cons q r ih=>
    have h1:q.p'.cells=txnK.cells q:=TxnQ.p_cells' (hr q (by simp));have h2:=ih (fun p hp=>hr p (List.mem_cons_of_mem _ hp));show q.p'.cells++z0S (r.map TxnQ.p')=txnK.cells q++txnK.row r;rw[h1,h2]
  rw[e2];exact hL
 ·intro p hp;obtain⟨q,hq,rfl⟩:=List.mem_map.1 hp;have h1:actK.At w q.va q.acts:=hr q hq;obtain⟨a',c',e',hl',_⟩:=h1;show ActRow w (q5Y q.va) q.acts;rw[e'];exact hl'
theorem z07(ps:List TxnQ):z5c (ps.map TxnQ.e)=nmL TxnQ.n ps:=by
 simp only[z5c,nmL,List.map_map];rfl
end Go.Proofs.YtlkpdgjnhkjpjaaGreatDoor
