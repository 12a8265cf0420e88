import Derived.Test.YtlkpdgjnhkjpjaaGreatDoorSUAG
import Derived.Test.YtlkpdgjnhkjpjaaGreatDoorRows
import Derived.Lib.LaidU8
import Derived.OpenVars
import Derived.LaidMore
import Derived.Stop.LaidErr
import Derived.Stop.Joined
set_option linter.unusedVariables false
set_option linter.unusedSimpArgs false
set_option maxRecDepth 100000
set_option maxHeartbeats 4000000
namespace Go.Proofs.YtlkpdgjnhkjpjaaGreatDoor
open Go.RowKit Go.BigFrame
open Nat renaming le_refl->Q,zero_le->R
open List renaming getD->B
open Value renaming slice->F
open Go.Proofs.Tryz renaming prog->G
open Go.Proofs.Tryz
def z14(x y:ItemD):Bool:=(x.key==y.key) && (x.val==y.val)
def sameIs:List ItemD→List ItemD→Bool
 |[],[]=>true
 |x::r,y::s=>z14 x y && sameIs r s
 |_,_=>false
theorem z4F{α:Type}{f:α→α→Bool}{g:List α→List α→Bool}(h0:g [] []=true)(h1:∀x r y s,g (x::r) (y::s)=(f x y && g r s))(h2:∀x r,g (x::r) []=false)(h3:∀y s,g [] (y::s)=false):
  ∀a b,a.length≠b.length→g a b=false:=by
 intro a;induction a with
 |nil=>intro b h;cases b with|nil=>simp at h|cons y s=>exact h3 y s
 |cons x r ih=>intro b h;cases b with|nil=>exact h2 x r|cons y s=>rw[h1,ih s (by simpa using h)];simp
theorem z4G{α:Type}{f:α→α→Bool}{g:List α→List α→Bool}(d:α)(h1:∀x r y s,g (x::r) (y::s)=(f x y && g r s)):
  ∀a b k,a.length=b.length→k<a.length→f (a.getD k d) (b.getD k d)=false→g a b=false:=by
 intro a;induction a with
 |nil=>intro b k _ h;simp at h
 |cons x r ih=>
  intro b k hl hk hf
  cases b with
  |nil=>simp at hl
  |cons y s=>
   rw[h1]
   cases k with
   |zero=>simp[B]at hf;simp[hf]
   |succ k=>rw[ih s k (by simpa using hl) (by simpa using hk) (by simpa[B]using hf)];simp
theorem z4H{α:Type}{f:α→α→Bool}{g:List α→List α→Bool}(d:α)(h0:g [] []=true)(h1:∀x r y s,g (x::r) (y::s)=(f x y && g r s)):
  ∀a b,a.length=b.length→(∀k,k<a.length→f (a.getD k d) (b.getD k d)=true)→g a b=true:=by
 intro a;induction a with
 |nil=>intro b hl _;cases b with|nil=>exact h0|cons y s=>simp at hl
 |cons x r ih=>
  intro b hl hf
  cases b with
  |nil=>simp at hl
  |cons y s=>
   rw[h1,ih s (by simpa using hl) (fun k hk=>by simpa[B]using hf (k+1) (by simpa using hk))];have:=hf 0 (by simp);simp[B]at this;simp[this]
theorem z9L(xs:List ItemD):sameIs xs xs=true:=by
 induction xs with
 |nil=>rfl
 |cons x r ih=>simp[sameIs,z14,ih]
theorem z8C{xs ys:List ItemD}(h:sameIs xs ys=true):xs=ys:=by
 induction xs generalizing ys with
 |nil=>cases ys with|nil=>rfl|cons y s=>simp[sameIs]at h
 |cons x r ih=>
  cases ys with
  |nil=>simp[sameIs]at h
  |cons y s=>
   obtain⟨x0,x1⟩:=x;obtain⟨y0,y1⟩:=y;simp[sameIs,z14]at h;rw[ih h.2,h.1.1,h.1.2]
theorem z2U(x0 x1 y0 y1:Int)(w:World):(binOp .neq 119 (.agg #[.int .i64 x0,.int .i64 x1]) (.agg #[.int .i64 y0,.int .i64 y1])).run G w=.ok (.bool (!z14 ⟨x0,x1⟩ ⟨y0,y1⟩)) w:=by
 rw[run_neq_struct,run_equalIn_struct (P:=G) w 9999 119 _ _ (by kernel_rfl) (by kernel_rfl)];have c1:G.cellsOf 2=1:=by kernel_rfl
 cases h0:(x0==y0)<;>cases h1:(x1==y1)<;>simp[Program.fieldsOf,Tryz.underlying119,Op.eqFields,go_sem,Tryz.underlying2,h0,h1,z14,c1]
theorem q1a(a a':Option Addr)(cap d:Nat)(xs ys:List ItemD)(w:World)(h:ItemRow w a xs)(h':ItemRow w a' ys)(hl:xs.length≤1048576)(O:ys.length≤1048576):
  Calls G 78 #[F a xs.length cap,F a' ys.length d] w fun e w'=>e=.returned (.bool (sameIs xs ys))∧Below w.heap.size w w':=by
 by_cases c:xs.length=ys.length
 case neg=>
  have E:sameIs xs ys=false:=z4F (f:=z14) rfl (fun _ _ _ _=>rfl) (fun _ _=>rfl) (fun _ _=>rfl) xs ys c;rw[E];have hd:((xs.length:Int) !=(ys.length:Int))=true:=by simp;omega
  go_enter func78,ntmps78
  go_wp2
  go_ret;exact⟨rfl,Below.refl _ _⟩
 case pos=>
  have hd:((xs.length:Int) !=(ys.length:Int))=false:=by simp[c]
  have HL:Hid (xs.length=ys.length):=c;clear c;go_enter func78,ntmps78
  go_wp2
  go_loopw[13] (fun i wr=>∃k m:Nat,k≤xs.length∧i=.int .i64 k∧wr=w.drewN m∧Hid (∀j,j<k→z14 (xs.getD j z0c) (ys.getD j z0c)=true)) (fun i _=>xs.length-(intOf i).toNat)
  case atStart=>exact⟨0,0,R _,rfl,rfl,fun j hj=>absurd hj (Nat.not_lt_zero _)⟩
  case round=>
   obtain⟨k,m,hk,rfl,rfl,HA⟩:=hrel;by_cases D:k<xs.length
   ·have I:k<ys.length:=by have:=HL.out;omega
    obtain⟨b,T,rfl,N,x,y⟩:=h.at k D;obtain⟨b',M,rfl,L,A,C⟩:=h'.at k I
    cases hs:z14 (xs.getD k z0c) (ys.getD k z0c)
    case false=>
     have E:Hid (sameIs xs ys=false):=z4G (f:=z14) z0c (fun _ _ _ _=>rfl) xs ys k HL.out D hs;have hr:=z2U (xs.getD k z0c).key (xs.getD k z0c).val (ys.getD k z0c).key (ys.getD k z0c).val;rw[show z14 ⟨(xs.getD k z0c).key,(xs.getD k z0c).val⟩ ⟨(ys.getD k z0c).key,(ys.getD k z0c).val⟩=false from hs,Bool.not_false]at hr;clear HA hs;generalize xs.getD k z0c=z at x y hr;generalize ys.getD k z0c=z' at A C hr
     go_wp2
     go_quiet (fail)
     go_wp2
     go_ret;rw[E.out];exact⟨rfl,(Below.refl _ _).trans ⟨rfl,rfl,rfl,Q _,fun _ _=>rfl⟩⟩
    case true=>
     have HB:Hid (∀j,j<k+1→z14 (xs.getD j z0c) (ys.getD j z0c)=true):=by
      intro j hj;by_cases J:j=k
      ·subst J;exact hs
      ·exact HA.out j (by omega)
     have hr:=z2U (xs.getD k z0c).key (xs.getD k z0c).val (ys.getD k z0c).key (ys.getD k z0c).val;rw[show z14 ⟨(xs.getD k z0c).key,(xs.getD k z0c).val⟩ ⟨(ys.getD k z0c).key,(ys.getD k z0c).val⟩=true from hs,Bool.not_true]at hr;clear HA hs;generalize xs.getD k z0c=z at x y hr;generalize ys.getD k z0c=z' at A C hr
     go_wp2
     go_quiet (fail)
     go_wp2
     go_roundw
     case rel=>exact⟨k+1,_,by omega,by go_num,rfl,HB⟩
     case measure=>simp[intOf];omega
   ·have E:Hid (sameIs xs ys=true):=z4H (f:=z14) z0c rfl (fun _ _ _ _=>rfl) xs ys HL.out (fun j hj=>HA.out j (by omega));clear HA
    go_wp2
    go_ret;rw[E.out];exact⟨rfl,(Below.refl _ _).trans ⟨rfl,rfl,rfl,Q _,fun _ _=>rfl⟩⟩
theorem z19(a a':Option Addr)(cap d:Nat)(xs ys:List ItemD)(w:World)(h:ItemRow w a xs)(h':ItemRow w a' ys)(hl:xs.length≤1048576)(O:ys.length≤1048576):
  Calls G 226 #[F a xs.length cap,F a' ys.length d] w fun e w'=>e=.returned (.bool (sameIs xs ys))∧Below w.heap.size w w':=by
 by_cases c:xs.length=ys.length
 case neg=>
  have E:sameIs xs ys=false:=z4F (f:=z14) rfl (fun _ _ _ _=>rfl) (fun _ _=>rfl) (fun _ _=>rfl) xs ys c;rw[E];have hd:((xs.length:Int) !=(ys.length:Int))=true:=by simp;omega
  go_enter func226,ntmps226
  go_wp2
  go_ret;exact⟨rfl,Below.refl _ _⟩
 case pos=>
  have hd:((xs.length:Int) !=(ys.length:Int))=false:=by simp[c]
  have HL:Hid (xs.length=ys.length):=c;clear c;go_enter func226,ntmps226
  go_wp2
  go_loopw[5] (fun i wr=>∃k m:Nat,k≤xs.length∧i=.int .i64 k∧wr=w.drewN m∧Hid (∀j,j<k→z14 (xs.getD j z0c) (ys.getD j z0c)=true)) (fun i _=>xs.length-(intOf i).toNat)
  case atStart=>exact⟨0,0,R _,rfl,rfl,fun j hj=>absurd hj (Nat.not_lt_zero _)⟩
  case round=>
   obtain⟨k,m,hk,rfl,rfl,HA⟩:=hrel;by_cases D:k<xs.length
   ·have I:k<ys.length:=by have:=HL.out;omega
    obtain⟨b,T,rfl,N,x,y⟩:=h.at k D;obtain⟨b',M,rfl,L,A,C⟩:=h'.at k I
    cases hs:z14 (xs.getD k z0c) (ys.getD k z0c)
    case false=>
     have E:Hid (sameIs xs ys=false):=z4G (f:=z14) z0c (fun _ _ _ _=>rfl) xs ys k HL.out D hs;have hr:=z2U (xs.getD k z0c).key (xs.getD k z0c).val (ys.getD k z0c).key (ys.getD k z0c).val;rw[show z14 ⟨(xs.getD k z0c).key,(xs.getD k z0c).val⟩ ⟨(ys.getD k z0c).key,(ys.getD k z0c).val⟩=false from hs,Bool.not_false]at hr;clear HA hs;generalize xs.getD k z0c=z at x y hr;generalize ys.getD k z0c=z' at A C hr
     go_wp2
     go_quiet (fail)
     go_wp2
     go_ret;rw[E.out];exact⟨rfl,(Below.refl _ _).trans ⟨rfl,rfl,rfl,Q _,fun _ _=>rfl⟩⟩
    case true=>
     have HB:Hid (∀j,j<k+1→z14 (xs.getD j z0c) (ys.getD j z0c)=true):=by
      intro j hj;by_cases J:j=k
      ·subst J;exact hs
      ·exact HA.out j (by omega)
     have hr:=z2U (xs.getD k z0c).key (xs.getD k z0c).val (ys.getD k z0c).key (ys.getD k z0c).val;rw[show z14 ⟨(xs.getD k z0c).key,(xs.getD k z0c).val⟩ ⟨(ys.getD k z0c).key,(ys.getD k z0c).val⟩=true from hs,Bool.not_true]at hr;clear HA hs;generalize xs.getD k z0c=z at x y hr;generalize ys.getD k z0c=z' at A C hr
     go_wp2
     go_quiet (fail)
     go_wp2
     go_roundw
     case rel=>exact⟨k+1,_,by omega,by go_num,rfl,HB⟩
     case measure=>simp[intOf];omega
   ·have E:Hid (sameIs xs ys=true):=z4H (f:=z14) z0c rfl (fun _ _ _ _=>rfl) xs ys HL.out (fun j hj=>HA.out j (by omega));clear HA
    go_wp2
    go_ret;rw[E.out];exact⟨rfl,(Below.refl _ _).trans ⟨rfl,rfl,rfl,Q _,fun _ _=>rfl⟩⟩
theorem z2a(a a':Option Addr)(cap cap':Nat)(xs ys:List ItemD)(w:World)(h:ItemRow w a xs)(h':ItemRow w a' ys)(hl:xs.length≤1048576)(hl':ys.length≤1048576):
  Calls G 34 #[F a xs.length cap,F a' ys.length cap'] w fun e w'=>e=.returned (.bool (sameIs xs ys))∧Below w.heap.size w w':=by
 have hq:=fun w h h'=>q1a a a' cap cap' xs ys w h h' hl hl'
 generalize sameIs xs ys=r at hq;go_enter func34,ntmps34
 go_wp2_with fail
 refine(hq _ h h').mono ?_;rintro e w' ⟨rfl,hb⟩
 go_wp2
 go_ret;exact⟨rfl,hb⟩
section
open Go.Deep Go.ChangeShapes Go.WideShapes
theorem q1b{α:Type}{c:Nat}(css:List (List α))(hc:∀l∈css,l.length=c):∀ (j:Nat) (x:α),css.flatten[j]?=some x→∃i r,j=i*c+r∧r<c∧i<css.length∧(css.getD i [])[r]?=some x:=by
 induction css with
 |nil=>intro j x h;simp at h
 |cons l css ih=>
  intro j x h;have hl:l.length=c:=hc l (by simp);rw[List.flatten_cons]at h;by_cases hj:j<c
  ·rw[List.getElem?_append_left (by omega)]at h;exact⟨0,j,by omega,hj,by simp,by simpa[B]using h⟩
  ·rw[List.getElem?_append_right (by omega),hl]at h;obtain⟨i,r,e1,e2,e3,e4⟩:=ih (fun l hl=>hc l (by simp[hl])) _ _ h;refine⟨i+1,r,?_,e2,by simpa using e3,by simpa[B]using e4⟩;rw[Nat.add_mul];omega
section
variable {H:Type} {enc:TypeId × Value→H} {P:Program} {w:World} {base:Nat} {spare:Nat→Bool} {held:Bool}
theorem q0n{t e:TypeId}{c I:Nat}{cs:List Value}{x:DataW H × List MemPlace}(ht:P.underlying t=some (.slice e))(hc:P.cellsOf e=c)(L:0<c)(h:DataW.trod enc P w base spare held I t cs=some x):
  ∃ (a:Option Addr) (cap n:Nat) (A:List (List Value)),cs=[F a A.length cap]∧A.length≤9223372036854775807∧Lies w a A.flatten∧∀l∈A,l.length=c∧∃y,DataW.trod enc P w base spare held n e l=some y:=by
 rcases open_slice ht h with⟨rfl,_⟩|⟨a,d,cap,m,n,D,Pl,rfl,hb,hl,hm,U,rfl,hx⟩
 ·exact⟨none,0,0,[],rfl,by simp,Or.inl rfl,by simp⟩
 have T:d≤m:=by rw[U];split<;>omega
 rw[hc]at hx;obtain⟨f,hf⟩:=choose_lt (α:=List Value) (p:=fun i l=>w.cells? base (a.add (i*c)) c=some l∧DataW.trod enc P w base spare held n e l=some (D i,Pl i)) (fun i hi=>hx i (Nat.lt_of_lt_of_le hi T));have z:∀i,i<d→(f i).length=c:=fun i hi=>(World.cells?_some (hf i hi).1).2.1
 have J:∀l∈(List.range d).map f,l.length=c:=by
  intro l hl;obtain⟨i,hi,rfl⟩:=List.mem_map.1 hl;exact z i (List.mem_range.1 hi)
 refine⟨some a,cap,n,(List.range d).map f,by simp,?_,?_,?_⟩
 ·unfold maxLen at hm;simp;omega
 ·by_cases h0:d=0
  ·subst h0;exact Or.inl rfl
  ·right;have C:=(World.cells?_some (hf 0 (by omega)).1).2.2 0 L;obtain⟨v,hv⟩:∃v,(f 0)[0]?=some v:=⟨_,List.getElem?_eq_getElem (by rw[z 0 (by omega)];exact L)⟩
   rw[hv,add_add]at C;obtain⟨b,W,O⟩:=a;have E:O=none:=by simpa[Addr.add]using World.cell?_spot C
   subst E;refine⟨b,W,rfl,by simpa[Addr.add_lit]using World.block_lt_of_cell? w _ C,?_⟩;intro j x hj;obtain⟨i,r,rfl,hr,hi,V⟩:=q1b _ J j x hj;have M:i<d:=by simpa using hi
   have N:(f i)[r]?=some x:=by simpa[B,M]using V
   have:=(World.cells?_some (hf i M).1).2.2 r hr;rw[add_add,Addr.add_lit,N]at this;exact this
 ·intro l hl;obtain⟨i,hi,rfl⟩:=List.mem_map.1 hl;exact⟨z i (List.mem_range.1 hi),_,(hf i (List.mem_range.1 hi)).2⟩
end
theorem q30{α β:Type}{p:β→α→Prop}{q:α→Prop}(f:β→α)(l:List α)(h:∀x∈l,∃b,x=f b):∃bs:List β,l=bs.map f:=by
 induction l with
 |nil=>exact⟨[],rfl⟩
 |cons x l ih=>
  obtain⟨bs,rfl⟩:=ih (fun x hx=>h x (by simp[hx]));obtain⟨b,rfl⟩:=h x (by simp);exact⟨b::bs,rfl⟩
section
variable {H:Type} {enc:TypeId × Value→H} {w:World} {base:Nat} {spare:Nat→Bool} {held:Bool}
theorem q31{fuel:Nat}{cs:List Value}{x:DataW H × List MemPlace}(h:DataW.trod enc G w base spare held fuel 207 cs=some x):∃z:ActD,cs=z.cells:=by
 obtain⟨y0,y1,y2,n,_,hl,h0,h1,h2⟩:=trod_struct3 Tryz.underlying207 h;rw[show G.cellsOf 207=3 by kernel_rfl]at hl;have e:G.cellsOf 2=1:=by kernel_rfl
 match cs,hl with
 |[c0,c1,c2],_=>
  simp only[e,List.drop_zero,List.drop_succ_cons,List.take_succ_cons,List.take_zero]at h0 h1 h2;obtain⟨k,e0,_⟩:=DataW.trod_int Tryz.underlying2 h0;obtain⟨y,e1,_⟩:=DataW.trod_int Tryz.underlying2 h1;obtain⟨v,e2,_⟩:=DataW.trod_int Tryz.underlying2 h2;simp only[List.cons.injEq,and_true]at e0 e1 e2;exact⟨⟨k,y,v⟩,by rw[e0,e1,e2];rfl⟩
theorem q2w{fuel:Nat}{cs:List Value}{x:DataW H × List MemPlace}(h:DataW.trod enc G w base spare held fuel 74 cs=some x):
  ∃ (a:Option Addr) (cap:Nat) (zs:List ActD),cs=[F a zs.length cap]∧zs.length≤9223372036854775807∧ActRow w a zs:=by
 obtain⟨a,cap,n,css,rfl,hl,hL,hc⟩:=q0n Tryz.underlying74 (show G.cellsOf 207=3 by kernel_rfl) (by omega) h;obtain⟨zs,rfl⟩:=q30 (p:=fun _ _=>True) (q:=fun _=>True) ActD.cells css (fun l hl=>by obtain⟨_,y,hy⟩:=hc l hl;exact q31 hy);refine⟨a,cap,zs,by simp,by simpa using hl,?_⟩;rw[←List.flatMap_def]at hL;exact hL
theorem z7p{fuel:Nat}{cs:List Value}{x:DataW H × List MemPlace}(h:DataW.trod enc G w base spare held fuel 76 cs=some x):
  ∃ (i s q:Int) (a:Option Addr) (cap:Nat) (zs:List ActD),cs=[.int .i64 i,.int .i64 s,.int .i64 q,F a zs.length cap]∧zs.length≤9223372036854775807∧ActRow w a zs:=by
 obtain⟨y0,y1,y2,y3,n,_,hl,h0,h1,h2,h3⟩:=Go.Joins.trod_struct4 Tryz.underlying76 h;rw[show G.cellsOf 76=4 by kernel_rfl]at hl;have e:G.cellsOf 2=1:=by kernel_rfl
 have e':G.cellsOf 74=1:=by kernel_rfl
 match cs,hl with
 |[c0,c1,c2,c3],_=>
  simp only[e,e',List.drop_zero,List.drop_succ_cons,List.take_succ_cons,List.take_zero]at h0 h1 h2 h3;obtain⟨k,e0,_⟩:=DataW.trod_int Tryz.underlying2 h0;obtain⟨y,e1,_⟩:=DataW.trod_int Tryz.underlying2 h1;obtain⟨v,e2,_⟩:=DataW.trod_int Tryz.underlying2 h2;obtain⟨a,cap,zs,e3,hz,hA⟩:=q2w h3;simp only[List.cons.injEq,and_true]at e0 e1 e2 e3;exact⟨k,y,v,a,cap,zs,by rw[e0,e1,e2,e3],hz,hA⟩
end
section
variable {H:Type} {enc:TypeId × Value→H} {w:World} {base:Nat} {spare:Nat→Bool} {held:Bool}
theorem q2x{α β:Type}(f:β→α)(q:β→Prop)(l:List α)(h:∀x∈l,∃b,x=f b∧q b):∃bs:List β,l=bs.map f∧∀b∈bs,q b:=by
 induction l with
 |nil=>exact⟨[],rfl,by simp⟩
 |cons x l ih=>
  obtain⟨bs,rfl,hq⟩:=ih (fun x hx=>h x (by simp[hx]));obtain⟨b,rfl,hb⟩:=h x (by simp);exact⟨b::bs,rfl,by intro c hc;rcases List.mem_cons.1 hc with rfl|hc;exact hb;exact hq c hc⟩
end
section
variable {H:Type} {enc:TypeId × Value→H} {w:World} {base:Nat} {spare:Nat→Bool} {held:Bool}
theorem z1S{P:Type}(K:Kind P)(q:P→Prop){t e:TypeId}{fuel:Nat}{cs:List Value}{x:DataW H × List MemPlace}(ht:G.underlying t=some (.slice e))(hc:G.cellsOf e=K.size)(hc0:0<K.size)
  (hel:∀ (n:Nat) (l:List Value) y,DataW.trod enc G w base spare held n e l=some y→∃p:P,l=K.cells p∧K.rd w p∧q p) (h:DataW.trod enc G w base spare held fuel t cs=some x):
  ∃ (v:Value) (ps:List P),cs=[v]∧K.At w v ps∧ps.length≤9223372036854775807∧∀p∈ps,q p:=by
 obtain⟨a,cap,n,css,rfl,hl,hL,hcs⟩:=q0n ht hc hc0 h;obtain ⟨ps,rfl,hq⟩:=q2x K.cells (fun p=>K.rd w p∧q p) css (fun l hl=>by
  obtain⟨_,y,hy⟩:=hcs l hl;obtain⟨p,h1,h2,h3⟩:=hel n l y hy;exact ⟨p,h1,h2,h3⟩)
 rw[←List.flatMap_def]at hL;refine⟨.slice a (ps.map K.cells).length cap,ps,rfl,⟨a,cap,by rw[List.length_map],hL,fun p hp=>(hq p hp).1⟩,by simpa using hl,fun p hp=>(hq p hp).2⟩
theorem q32(n:Nat)(l:List Value)(y:DataW H × List MemPlace)(h:DataW.trod enc G w base spare held n 2 l=some y):∃p:Int,l=intK.cells p∧intK.rd w p∧True:=by
 obtain⟨k,e,_⟩:=DataW.trod_int Tryz.underlying2 h;exact⟨k,e,trivial,trivial⟩
theorem z4h{fuel:Nat}{cs:List Value}{x:DataW H × List MemPlace}(h:DataW.trod enc G w base spare held fuel 115 cs=some x):
  ∃ (v:Value) (zs:List Int),cs=[v]∧intK.At w v zs∧zs.length≤9223372036854775807:=by
 obtain⟨v,ps,h1,h2,h3,_⟩:=z1S intK (fun _=>True) Tryz.underlying115 (by kernel_rfl) (by decide) q32 h;exact⟨v,ps,h1,h2,h3⟩
theorem q2y(n:Nat)(l:List Value)(y:DataW H × List MemPlace)(h:DataW.trod enc G w base spare held n 76 l=some y):∃p:TxnQ,l=txnK.cells p∧txnK.rd w p∧TxnQ.wf p:=by
 obtain⟨i,s,q,a,cap,zs,e,hz,hA⟩:=z7p h;exact⟨⟨i,s,q,F a zs.length cap,zs⟩,e,q4X hA,hz⟩
theorem z4i{fuel:Nat}{cs:List Value}{x:DataW H × List MemPlace}(h:DataW.trod enc G w base spare held fuel 57 cs=some x):
  ∃ (v:Value) (ps:List TxnQ),cs=[v]∧txnK.At w v ps∧ps.length≤9223372036854775807∧∀p∈ps,TxnQ.wf p:=
 z1S txnK TxnQ.wf Tryz.underlying57 (by kernel_rfl) (by decide) q2y h
theorem z9M(n:Nat)(l:List Value)(y:DataW H × List MemPlace)(h:DataW.trod enc G w base spare held n 265 l=some y):∃p:RoundQ,l=roundK.cells p∧roundK.rd w p∧RoundQ.wf p:=by
 obtain⟨y0,y1,n,_,hl,h0,h1⟩:=trod_struct2 Tryz.underlying265 h;rw[show G.cellsOf 265=2 by kernel_rfl]at hl;have e:G.cellsOf 115=1:=by kernel_rfl
 match l,hl with
 |[c0,c1],_=>
  simp only[e,List.drop_zero,List.drop_succ_cons,List.take_succ_cons,List.take_zero]at h0 h1;obtain⟨v0,z0,e0,a0,l0⟩:=z4h h0;obtain⟨v1,z1,e1,a1,l1⟩:=z4h h1;simp only[List.cons.injEq,and_true]at e0 e1;exact⟨⟨v0,z0,v1,z1⟩,by rw[e0,e1];rfl,⟨a0,a1⟩,⟨l0,l1⟩⟩
theorem z8D{fuel:Nat}{cs:List Value}{x:DataW H × List MemPlace}(h:DataW.trod enc G w base spare held fuel 121 cs=some x):
  ∃ (v:Value) (ps:List RoundQ),cs=[v]∧roundK.At w v ps∧ps.length≤9223372036854775807∧∀p∈ps,RoundQ.wf p:=
 z1S roundK RoundQ.wf Tryz.underlying121 (by kernel_rfl) (by decide) z9M h
theorem z6h{fuel:Nat}{cs:List Value}{x:DataW H × List MemPlace}(h:DataW.trod enc G w base spare held fuel 123 cs=some x):
  ∃p:InstQ,cs=[.bool p.has,p.vb,p.vr,p.vd]∧instK.rd w p∧p.wf:=by
 obtain⟨y0,y1,y2,y3,n,_,hl,h0,h1,h2,h3⟩:=Go.Joins.trod_struct4 Tryz.underlying123 h;rw[show G.cellsOf 123=4 by kernel_rfl]at hl;have e:G.cellsOf 4=1:=by kernel_rfl
 have e':G.cellsOf 57=1:=by kernel_rfl
 have e2:G.cellsOf 121=1:=by kernel_rfl
 have e3:G.cellsOf 115=1:=by kernel_rfl
 match cs,hl with
 |[c0,c1,c2,c3],_=>
  simp only[e,e',e2,e3,List.drop_zero,List.drop_succ_cons,List.take_succ_cons,List.take_zero]at h0 h1 h2 h3;obtain⟨k,e0,_⟩:=DataW.trod_bool Tryz.underlying4 h0;obtain⟨v1,z1,e1,a1,l1,w1⟩:=z4i h1;obtain⟨v2,z2,e2,a2,l2,w2⟩:=z8D h2;obtain⟨v3,z3,e3,a3,l3⟩:=z4h h3;simp only[List.cons.injEq,and_true]at e0 e1 e2 e3;exact⟨⟨k,v1,z1,v2,z2,v3,z3⟩,by rw[e0,e1,e2,e3],⟨a1,a2,a3⟩,⟨⟨l1,w1⟩,⟨l2,w2⟩,l3⟩⟩
end
end
section
open Go.ChangeShapes Go.WideShapes
theorem gRul : G.globalNamed "loop.example/g00631/impl.rules" = some 1 := by kernel_rfl
theorem tRul:(G.globals[1]?).map (·.type)=some 402:=by kernel_rfl
theorem q6p:G.cellsOf 393=7:=by kernel_rfl
theorem cCh:G.cellsOf 277=4:=by kernel_rfl
theorem cI:G.cellsOf 2=1:=by kernel_rfl
theorem cB:G.cellsOf 4=1:=by kernel_rfl
section
variable {H:Type} {enc:TypeId × Value→H} {w:World} {base:Nat} {spare:Nat→Bool} {held:Bool}
theorem z8E{fuel:Nat}{cs:List Value}{c v:Int}{d k:Bool}{q:List MemPlace}(h:DataW.trod enc G w base spare held fuel 277 cs=some (.agg [.lit (.int .i64 c),.lit (.bool d),.lit (.bool k),.lit (.int .i64 v)],q)):cs=[.int .i64 c,.bool d,.bool k,.int .i64 v]:=by
 obtain⟨y0,y1,y2,y3,n,hx,hl,h0,h1,h2,h3⟩:=Go.Joins.trod_struct4 Tryz.underlying277 h;rw[cCh]at hl;simp only[Prod.mk.injEq,DataW.agg.injEq,List.cons.injEq,and_true]at hx;obtain⟨⟨x0,x1,x2,x3⟩,_⟩:=hx
 match cs,hl with
 |[c0,c1,c2,c3],_=>
  simp only[cI,cB,List.drop_zero,List.drop_succ_cons,List.take_succ_cons,List.take_zero]at h0 h1 h2 h3;obtain⟨n0,e0,g0,_⟩:=DataW.trod_int Tryz.underlying2 h0;obtain⟨n1,e1,g1⟩:=DataW.trod_bool Tryz.underlying4 h1;obtain⟨n2,e2,g2⟩:=DataW.trod_bool Tryz.underlying4 h2;obtain⟨n3,e3,g3,_⟩:=DataW.trod_int Tryz.underlying2 h3;simp only[List.cons.injEq,and_true]at e0 e1 e2 e3;rw[g0]at x0;rw[g1]at x1;rw[g2]at x2;rw[g3]at x3;simp at x0 x1 x2 x3;rw[e0,e1,e2,e3,x0,x1,x2,x3]
theorem z2b{fuel:Nat}{cs:List Value}{z o p c v:Int}{d k:Bool}{q:List MemPlace}(h:DataW.trod enc G w base spare held fuel 393 cs=some (.agg [.lit (.int .i64 z),.lit (.int .i64 o),.lit (.int .i64 p),.agg [.lit (.int .i64 c),.lit (.bool d),.lit (.bool k),.lit (.int .i64 v)]],q)):
  cs=[.int .i64 z,.int .i64 o,.int .i64 p,.int .i64 c,.bool d,.bool k,.int .i64 v]:=by
 obtain⟨y0,y1,y2,y3,n,hx,hl,h0,h1,h2,h3⟩:=Go.Joins.trod_struct4 Tryz.underlying393 h;rw[q6p]at hl;simp only[Prod.mk.injEq,DataW.agg.injEq,List.cons.injEq,and_true]at hx;obtain⟨⟨x0,x1,x2,x3⟩,_⟩:=hx
 match cs,hl with
 |[c0,c1,c2,c3,c4,c5,c6],_=>
  simp only[cI,cCh,List.drop_zero,List.drop_succ_cons,List.take_succ_cons,List.take_zero]at h0 h1 h2 h3;obtain⟨n0,e0,g0,_⟩:=DataW.trod_int Tryz.underlying2 h0;obtain⟨n1,e1,g1,_⟩:=DataW.trod_int Tryz.underlying2 h1;obtain⟨n2,e2,g2,_⟩:=DataW.trod_int Tryz.underlying2 h2;obtain⟨y30,y31⟩:=y3;dsimp only at x3;rw[←x3]at h3;have e3:=z8E h3;simp only[List.cons.injEq,and_true]at e0 e1 e2 e3;rw[g0]at x0;rw[g1]at x1;rw[g2]at x2;simp at x0 x1 x2;obtain⟨e3,e4,e5,e6⟩:=e3;rw[e0,e1,e2,e3,e4,e5,e6,x0,x1,x2]
end
end
def z1N(x y:ActD):Bool:=(x.kind==y.kind) && ((x.key==y.key) && (x.val==y.val))
def sameAs:List ActD→List ActD→Bool
 |[],[]=>true
 |x::r,y::s=>z1N x y && sameAs r s
 |_,_=>false
def z0B(x y:TxnD):Bool:=(x.id==y.id) && (x.session==y.session) && (x.seq==y.seq) && sameAs x.acts y.acts
def sameTs:List TxnD→List TxnD→Bool
 |[],[]=>true
 |x::r,y::s=>z0B x y && sameTs r s
 |_,_=>false
theorem z2V{α:Type}{f:α→α→Bool}{g:List α→List α→Bool}(h0:g [] []=true)(h1:∀x r y s,g (x::r) (y::s)=(f x y && g r s))(h2:∀x r,g (x::r) []=false)(h3:∀y s,g [] (y::s)=false):
  ∀a b,a.length≠b.length→g a b=false:=by
 intro a;induction a with
 |nil=>intro b h;cases b with|nil=>simp at h|cons y s=>exact h3 y s
 |cons x r ih=>intro b h;cases b with|nil=>exact h2 x r|cons y s=>rw[h1,ih s (by simpa using h)];simp
theorem z2W{α:Type}{f:α→α→Bool}{g:List α→List α→Bool}(d:α)(h1:∀x r y s,g (x::r) (y::s)=(f x y && g r s)):
  ∀a b k,a.length=b.length→k<a.length→f (a.getD k d) (b.getD k d)=false→g a b=false:=by
 intro a;induction a with
 |nil=>intro b k _ h;simp at h
 |cons x r ih=>
  intro b k hl hk hf
  cases b with
  |nil=>simp at hl
  |cons y s=>
   rw[h1]
   cases k with
   |zero=>simp[B]at hf;simp[hf]
   |succ k=>rw[ih s k (by simpa using hl) (by simpa using hk) (by simpa[B]using hf)];simp
theorem z2X{α:Type}{f:α→α→Bool}{g:List α→List α→Bool}(d:α)(h0:g [] []=true)(h1:∀x r y s,g (x::r) (y::s)=(f x y && g r s)):
  ∀a b,a.length=b.length→(∀k,k<a.length→f (a.getD k d) (b.getD k d)=true)→g a b=true:=by
 intro a;induction a with
 |nil=>intro b hl _;cases b with|nil=>exact h0|cons y s=>simp at hl
 |cons x r ih=>
  intro b hl hf
  cases b with
  |nil=>simp at hl
  |cons y s=>
   rw[h1,ih s (by simpa using hl) (fun k hk=>by simpa[B]using hf (k+1) (by simpa using hk))];have:=hf 0 (by simp);simp[B]at this;simp[this]
theorem z5y(x0 x1 x2 y0 y1 y2:Int)(w:World):(binOp .neq 144 (.agg #[.int .i64 x0,.int .i64 x1,.int .i64 x2]) (.agg #[.int .i64 y0,.int .i64 y1,.int .i64 y2])).run G w=.ok (.bool (!z1N ⟨x0,x1,x2⟩ ⟨y0,y1,y2⟩)) w:=by
 rw[run_neq_struct,run_equalIn_struct (P:=G) w 9999 144 _ _ (by kernel_rfl) (by kernel_rfl)];have c1:G.cellsOf 2=1:=by kernel_rfl
 cases h0:(x0==y0)<;>cases h1:(x1==y1)<;>cases h2:(x2==y2)<;>simp[Program.fieldsOf,Tryz.underlying144,Op.eqFields,go_sem,Tryz.underlying2,h0,h1,h2,z1N,c1]
theorem q1c(a a':Option Addr)(cap d:Nat)(xs ys:List ActD)(w:World)(h:ActRow w a xs)(h':ActRow w a' ys)(hl:xs.length≤1048576)(U:ys.length≤1048576):
  Calls G 114 #[F a xs.length cap,F a' ys.length d] w fun e w'=>e=.returned (.bool (sameAs xs ys))∧Below w.heap.size w w':=by
 by_cases c:xs.length=ys.length
 case neg=>
  have E:sameAs xs ys=false:=z2V (f:=z1N) rfl (fun _ _ _ _=>rfl) (fun _ _=>rfl) (fun _ _=>rfl) xs ys c;rw[E];have hd:((xs.length:Int) !=(ys.length:Int))=true:=by simp;omega
  go_enter func114,ntmps114
  go_wp2
  go_ret;exact⟨rfl,Below.refl _ _⟩
 case pos=>
  have hd:((xs.length:Int) !=(ys.length:Int))=false:=by simp[c]
  have HL:Hid (xs.length=ys.length):=c;clear c;go_enter func114,ntmps114
  go_wp2
  go_loopw[13] (fun i wr=>∃k m:Nat,k≤xs.length∧i=.int .i64 k∧wr=w.drewN m∧Hid (∀j,j<k→z1N (xs.getD j z0f) (ys.getD j z0f)=true)) (fun i _=>xs.length-(intOf i).toNat)
  case atStart=>exact⟨0,0,R _,rfl,rfl,fun j hj=>absurd hj (Nat.not_lt_zero _)⟩
  case round=>
   obtain⟨k,m,hk,rfl,rfl,HA⟩:=hrel;by_cases J:k<xs.length
   ·have L:k<ys.length:=by have:=HL.out;omega
    obtain⟨b,V,rfl,T,x,y,A⟩:=h.at k J;obtain⟨b',O,rfl,N,C,D,I⟩:=h'.at k L
    cases hs:z1N (xs.getD k z0f) (ys.getD k z0f)
    case false=>
     have E:Hid (sameAs xs ys=false):=z2W (f:=z1N) z0f (fun _ _ _ _=>rfl) xs ys k HL.out J hs;have hr:=z5y (xs.getD k z0f).kind (xs.getD k z0f).key (xs.getD k z0f).val (ys.getD k z0f).kind (ys.getD k z0f).key (ys.getD k z0f).val;rw[show z1N ⟨(xs.getD k z0f).kind,(xs.getD k z0f).key,(xs.getD k z0f).val⟩ ⟨(ys.getD k z0f).kind,(ys.getD k z0f).key,(ys.getD k z0f).val⟩=false from hs,Bool.not_false]at hr;clear HA hs;generalize xs.getD k z0f=z at x y A hr;generalize ys.getD k z0f=z' at C D I hr
     go_wp2
     go_quiet (fail)
     go_wp2
     go_ret;rw[E.out];exact⟨rfl,⟨rfl,rfl,rfl,Q _,fun _ _=>rfl⟩⟩
    case true=>
     have HB:Hid (∀j,j<k+1→z1N (xs.getD j z0f) (ys.getD j z0f)=true):=by
      intro j hj;by_cases M:j=k
      ·subst M;exact hs
      ·exact HA.out j (by omega)
     have hr:=z5y (xs.getD k z0f).kind (xs.getD k z0f).key (xs.getD k z0f).val (ys.getD k z0f).kind (ys.getD k z0f).key (ys.getD k z0f).val;rw[show z1N ⟨(xs.getD k z0f).kind,(xs.getD k z0f).key,(xs.getD k z0f).val⟩ ⟨(ys.getD k z0f).kind,(ys.getD k z0f).key,(ys.getD k z0f).val⟩=true from hs,Bool.not_true]at hr;clear HA hs;generalize xs.getD k z0f=z at x y A hr;generalize ys.getD k z0f=z' at C D I hr
     go_wp2
     go_quiet (fail)
     go_wp2
     go_roundw
     case rel=>exact⟨k+1,_,by omega,by go_num,rfl,HB⟩
     case measure=>simp[intOf];omega
   ·have E:Hid (sameAs xs ys=true):=z2X (f:=z1N) z0f rfl (fun _ _ _ _=>rfl) xs ys HL.out (fun j hj=>HA.out j (by omega));clear HA
    go_wp2
    go_ret;rw[E.out];exact⟨rfl,⟨rfl,rfl,rfl,Q _,fun _ _=>rfl⟩⟩
theorem z4j(x y:TxnD):((x.id==y.id)=false∧z0B x y=false)∨((x.id==y.id)=true∧(x.session==y.session)=false∧z0B x y=false)∨((x.id==y.id)=true∧(x.session==y.session)=true∧(x.seq==y.seq)=false∧z0B x y=false)∨
  ((x.id==y.id)=true∧(x.session==y.session)=true∧(x.seq==y.seq)=true∧z0B x y=sameAs x.acts y.acts):=by
 unfold z0B
 cases h1:(x.id==y.id)<;>cases h2:(x.session==y.session)<;>cases h3:(x.seq==y.seq)<;>simp
theorem z3R(x y:TxnD)(a a':Option Addr)(cap cap':Nat)(w:World)(h:ActRow w a x.acts)(h':ActRow w a' y.acts)(hl:x.acts.length≤1048576)(hl':y.acts.length≤1048576):
    Calls G 65 #[.agg #[.int .i64 x.id,.int .i64 x.session,.int .i64 x.seq,F a x.acts.length cap],.agg #[.int .i64 y.id,.int .i64 y.session,.int .i64 y.seq,F a' y.acts.length cap']] w fun e w'=>e=.returned (.bool (z0B x y))∧Below w.heap.size w w':=by
  have hq:=fun w h h'=>q1c a a' cap cap' x.acts y.acts w h h' hl hl'
  rcases z4j x y with⟨h1,e⟩|⟨h1,h2,e⟩|⟨h1,h2,h3,e⟩|⟨h1,h2,h3,e⟩<;>rw[e]<;>clear e;all_goals
    (generalize sameAs x.acts y.acts=r at hq
     obtain⟨x0,x1,x2,xs⟩:=x;obtain⟨y0,y1,y2,ys⟩:=y;dsimp only at *)
  all_goals
    (go_enter func65,ntmps65
     go_wp2_with (go_at_call 114;refine(hq _ (h.below (by go_grown)) (h'.below (by go_grown))).mono ?_;rintro e w' ⟨rfl,hb⟩)
     go_ret)
  · exact⟨rfl,by go_grown⟩
  · exact⟨rfl,by go_grown⟩
  · exact⟨rfl,by go_grown⟩
  · exact⟨rfl,z0l (by go_grown) hb⟩
theorem z7q(v v':Value)(xs ys:List TxnD)(w:World)(h:TxnsAt w v xs)(h':TxnsAt w v' ys)(hl:xs.length+z56 xs≤1048576)(ag:ys.length+z56 ys≤1048576):
  Calls G 64 #[v,v',.func (.func 65) #[] #[]] w fun e w'=>e=.returned (.bool (sameTs xs ys))∧Below w.heap.size w w':=by
 obtain⟨a,cap,rfl⟩:=h.shape;obtain⟨a',ad,rfl⟩:=h'.shape;by_cases d:xs.length=ys.length
 case neg=>
  have E:sameTs xs ys=false:=z2V (f:=z0B) rfl (fun _ _ _ _=>rfl) (fun _ _=>rfl) (fun _ _=>rfl) xs ys d;rw[E];have hd:((xs.length:Int) !=(ys.length:Int))=true:=by simp;omega
  go_enter func64,ntmps64
  go_wp2
  go_ret;exact⟨rfl,Below.refl _ _⟩
 case pos=>
  have hd:((xs.length:Int) !=(ys.length:Int))=false:=by simp[d]
  have HL:Hid (xs.length=ys.length):=d;clear d;go_enter func64,ntmps64
  go_wp2
  go_loopw[17] (fun i wr=>∃k:Nat,k≤xs.length∧i=.int .i64 k∧Below w.heap.size w wr∧Hid (∀j,j<k→z0B (xs.getD j z0m) (ys.getD j z0m)=true)) (fun i _=>xs.length-(intOf i).toNat)
  case atStart=>exact⟨0,R _,rfl,Below.refl _ _,fun j hj=>absurd hj (Nat.not_lt_zero _)⟩
  case round=>
   obtain⟨k,hk,rfl,hb,HA⟩:=hrel;by_cases U:k<xs.length
   ·have T:k<ys.length:=by have:=HL.out;omega
    obtain⟨b,ai,aa,cc,rfl,af,y,A,C,D,hA⟩:=(h.below hb).at k U;obtain⟨b',ae,W,X,rfl,V,I,J,L,M,c⟩:=(h'.below hb).at k T;have O:(xs.getD k z0m).acts.length≤z56 xs:=z1w (by simp[B,U]);have x:(ys.getD k z0m).acts.length≤z56 ys:=z1w (by simp[B,T]);have hq:=fun w h h'=>z3R (xs.getD k z0m) (ys.getD k z0m) aa W cc X w h h' (by omega) (by omega)
    have ah:=hb.size;have Y:∀ (o:Obj) (j:Nat),(wr.alloc o).cell? ⟨b',j,none⟩=wr.cell? ⟨b',j,none⟩:=fun o j=>(show Below wr.heap.size wr (wr.alloc o) by go_grown).cell (p:=⟨b',j,none⟩) V
    cases hs:z0B (xs.getD k z0m) (ys.getD k z0m)
    case false=>
     have E:Hid (sameTs xs ys=false):=z2W (f:=z0B) z0m (fun _ _ _ _=>rfl) xs ys k HL.out U hs;rw[hs]at hq;clear HA hs;generalize xs.getD k z0m=z at y A C D hA hq O;generalize ys.getD k z0m=z' at I J L M c hq x;obtain⟨z0,z1,z2,zs⟩:=z;obtain⟨y0,y1,y2,us⟩:=z';dsimp only at y A C D hA I J L M c hq O x
     go_wp2_with fail
     refine(hq _ (hA.below (by go_grown)) (c.below (by go_grown))).mono ?_;rintro e w2 ⟨rfl,N⟩
     go_wp2
     go_ret;rw[E.out];exact⟨rfl,z0l (z0l hb (by go_grown)) N⟩
    case true=>
     have HB:Hid (∀j,j<k+1→z0B (xs.getD j z0m) (ys.getD j z0m)=true):=by
      intro j hj;by_cases ab:j=k
      ·subst ab;exact hs
      ·exact HA.out j (by omega)
     rw[hs]at hq;clear HA hs;generalize xs.getD k z0m=z at y A C D hA hq O;generalize ys.getD k z0m=z' at I J L M c hq x;obtain⟨z0,z1,z2,zs⟩:=z;obtain⟨y0,y1,y2,us⟩:=z';dsimp only at y A C D hA I J L M c hq O x
     go_wp2_with fail
     refine(hq _ (hA.below (by go_grown)) (c.below (by go_grown))).mono ?_;rintro e w2 ⟨rfl,N⟩;have Z:=z0l (z0l hb (by go_grown)) N;clear N Y y A C D I J L M hA c hq
     go_wp2
     go_roundw
     case rel=>exact⟨k+1,by omega,by go_num,Z,HB⟩
     case measure=>simp[intOf];omega
   ·have E:Hid (sameTs xs ys=true):=z2X (f:=z0B) z0m rfl (fun _ _ _ _=>rfl) xs ys HL.out (fun j hj=>HA.out j (by omega));clear HA
    go_wp2
    go_ret;rw[E.out];exact⟨rfl,hb⟩
theorem z1I(v v':Value)(xs ys:List TxnD)(w:World)(h:TxnsAt w v xs)(h':TxnsAt w v' ys)(hl:xs.length+z56 xs≤1048576)(hl':ys.length+z56 ys≤1048576):
  Calls G 18 #[v,v'] w fun e w'=>e=.returned (.bool (sameTs xs ys))∧Below w.heap.size w w':=by
 have hq:=z7q v v' xs ys w h h' hl hl';generalize sameTs xs ys=r at hq;go_enter func18,ntmps18
 go_wp2_with fail
 refine hq.mono ?_;rintro e w2 ⟨rfl,hb⟩
 go_wp2
 go_ret;exact⟨rfl,hb⟩
theorem z9N(x y:TxnD):((x.id !=y.id)=true∧z0B x y=false)∨((x.id !=y.id)=false∧(x.session !=y.session)=true∧z0B x y=false)∨((x.id !=y.id)=false∧(x.session !=y.session)=false∧(x.seq !=y.seq)=true∧z0B x y=false)∨
  ((x.id !=y.id)=false∧(x.session !=y.session)=false∧(x.seq !=y.seq)=false∧((x.acts.length:Int) !=(y.acts.length:Int))=true∧z0B x y=false)∨
  ((x.id !=y.id)=false∧(x.session !=y.session)=false∧(x.seq !=y.seq)=false∧((x.acts.length:Int) !=(y.acts.length:Int))=false∧z0B x y=sameAs x.acts y.acts):=by
 by_cases hl:x.acts.length=y.acts.length
 ·rcases z4j x y with⟨h1,e⟩|⟨h1,h2,e⟩|⟨h1,h2,h3,e⟩|⟨h1,h2,h3,e⟩<;>simp[bne, *]
 ·have hs:sameAs x.acts y.acts=false:=z2V (f:=z1N) rfl (fun _ _ _ _=>rfl) (fun _ _=>rfl) (fun _ _=>rfl) _ _ hl;have hl2:¬((x.acts.length:Int)=(y.acts.length:Int)):=by omega
  rcases z4j x y with⟨h1,e⟩|⟨h1,h2,e⟩|⟨h1,h2,h3,e⟩|⟨h1,h2,h3,e⟩<;>simp[bne, *]
theorem z6D(x y:TxnD)(b o b' o':Nat)(a a':Option Addr)(cap d:Nat)(w:World)(hB:Box4 w b o (.int .i64 x.id) (.int .i64 x.session) (.int .i64 x.seq) (F a x.acts.length cap))(O:Box4 w b' o' (.int .i64 y.id) (.int .i64 y.session) (.int .i64 y.seq) (F a' y.acts.length d))
  (h:ActRow w a x.acts) (h':ActRow w a' y.acts) (hl:x.acts.length≤1048576) (Y:y.acts.length≤1048576):
  Calls G 172 #[.pointer (some ⟨b,o,none⟩),.pointer (some ⟨b',o',none⟩)] w fun e w'=>e=.returned (.bool (z0B x y))∧Below w.heap.size w w':=by
 obtain⟨c0,c1,c2,c3⟩:=hB;obtain⟨d0,d1,d2,d3⟩:=O;rcases z9N x y with⟨h1,e⟩|⟨h1,h2,e⟩|⟨h1,h2,h3,e⟩|⟨h1,h2,h3,h4,e⟩|⟨h1,h2,h3,h4,e⟩<;>rw[e]<;>clear e<;>obtain⟨x0,x1,x2,xs⟩:=x<;>obtain⟨y0,y1,y2,ys⟩:=y<;>dsimp only at*
 ·go_enter func172,ntmps172
  go_wp2_with fail
  go_quiet (fail)
  go_wp2
  go_ret;exact⟨rfl,⟨rfl,rfl,rfl,Q _,fun _ _=>rfl⟩⟩
 ·go_enter func172,ntmps172
  go_wp2_with fail
  go_quiet (fail)
  go_wp2
  go_ret;exact⟨rfl,⟨rfl,rfl,rfl,Q _,fun _ _=>rfl⟩⟩
 ·go_enter func172,ntmps172
  go_wp2_with fail
  go_quiet (fail)
  go_wp2
  go_ret;exact⟨rfl,⟨rfl,rfl,rfl,Q _,fun _ _=>rfl⟩⟩
 ·go_enter func172,ntmps172
  go_wp2_with fail
  go_quiet (fail)
  go_wp2
  go_ret;exact⟨rfl,⟨rfl,rfl,rfl,Q _,fun _ _=>rfl⟩⟩
 ·have c:xs.length=ys.length:=by simp at h4;omega
  have HL:Hid (xs.length=ys.length):=c;clear c;go_enter func172,ntmps172
  go_wp2_with fail
  go_quiet (fail)
  go_wp2
  go_loopw[5] (fun i wr=>∃k m:Nat,k≤xs.length∧i=.int .i64 k∧wr=w.drewN m∧Hid (∀j,j<k→z1N (xs.getD j z0f) (ys.getD j z0f)=true)) (fun i _=>xs.length-(intOf i).toNat)
  case atStart=>exact⟨0,_,R _,rfl,rfl,fun j hj=>absurd hj (Nat.not_lt_zero _)⟩
  case round=>
   obtain⟨k,m,hk,rfl,rfl,HA⟩:=hrel;by_cases M:k<xs.length
   ·have N:k<ys.length:=by have:=HL.out;omega
    obtain⟨bb,Z,rfl,X,A,C,D⟩:=h.at k M;obtain⟨W,V,rfl,U,I,J,L⟩:=h'.at k N;have hr:=z5y (xs.getD k z0f).kind (xs.getD k z0f).key (xs.getD k z0f).val (ys.getD k z0f).kind (ys.getD k z0f).key (ys.getD k z0f).val
    cases hs:z1N (xs.getD k z0f) (ys.getD k z0f)
    case false=>
     have E:Hid (sameAs xs ys=false):=z2W (f:=z1N) z0f (fun _ _ _ _=>rfl) xs ys k HL.out M hs;rw[show z1N ⟨(xs.getD k z0f).kind,(xs.getD k z0f).key,(xs.getD k z0f).val⟩ ⟨(ys.getD k z0f).kind,(ys.getD k z0f).key,(ys.getD k z0f).val⟩=false from hs,Bool.not_false]at hr;clear HA hs;generalize xs.getD k z0f=z at A C D hr;generalize ys.getD k z0f=z' at I J L hr
     go_wp2
     go_quiet (fail)
     go_wp2
     go_ret;rw[E.out];exact⟨rfl,⟨rfl,rfl,rfl,Q _,fun _ _=>rfl⟩⟩
    case true=>
     have HB:Hid (∀j,j<k+1→z1N (xs.getD j z0f) (ys.getD j z0f)=true):=by
      intro j hj;by_cases T:j=k
      ·subst T;exact hs
      ·exact HA.out j (by omega)
     rw[show z1N ⟨(xs.getD k z0f).kind,(xs.getD k z0f).key,(xs.getD k z0f).val⟩ ⟨(ys.getD k z0f).kind,(ys.getD k z0f).key,(ys.getD k z0f).val⟩=true from hs,Bool.not_true]at hr;clear HA hs;generalize xs.getD k z0f=z at A C D hr;generalize ys.getD k z0f=z' at I J L hr
     go_wp2
     go_quiet (fail)
     go_wp2
     go_roundw
     case rel=>exact⟨k+1,_,by omega,by go_num,rfl,HB⟩
     case measure=>simp[intOf];omega
   ·have E:Hid (sameAs xs ys=true):=z2X (f:=z1N) z0f rfl (fun _ _ _ _=>rfl) xs ys HL.out (fun j hj=>HA.out j (by omega));clear HA
    go_wp2
    go_ret;rw[E.out];exact⟨rfl,⟨rfl,rfl,rfl,Q _,fun _ _=>rfl⟩⟩
theorem z1J(v v':Value)(xs ys:List TxnD)(w:World)(h:TxnsAt w v xs)(h':TxnsAt w v' ys)(hl:xs.length+z56 xs≤1048576)(ah:ys.length+z56 ys≤1048576):
  Calls G 110 #[v,v'] w fun e w'=>e=.returned (.bool (sameTs xs ys))∧Below w.heap.size w w':=by
 obtain⟨a,cap,rfl⟩:=h.shape;obtain⟨a',ae,rfl⟩:=h'.shape;by_cases c:xs.length=ys.length
 case neg=>
  have E:sameTs xs ys=false:=z2V (f:=z0B) rfl (fun _ _ _ _=>rfl) (fun _ _=>rfl) (fun _ _=>rfl) xs ys c;rw[E];have hd:((xs.length:Int) !=(ys.length:Int))=true:=by simp;omega
  go_enter func110,ntmps110
  go_wp2
  go_ret;exact⟨rfl,Below.refl _ _⟩
 case pos=>
  have hd:((xs.length:Int) !=(ys.length:Int))=false:=by simp[c]
  have HL:Hid (xs.length=ys.length):=c;clear c;go_enter func110,ntmps110
  go_wp2
  go_loopw[5] (fun i wr=>∃k:Nat,k≤xs.length∧i=.int .i64 k∧Below w.heap.size w wr∧Hid (∀j,j<k→z0B (xs.getD j z0m) (ys.getD j z0m)=true)) (fun i _=>xs.length-(intOf i).toNat)
  case atStart=>exact⟨0,R _,rfl,Below.refl _ _,fun j hj=>absurd hj (Nat.not_lt_zero _)⟩
  case round=>
   obtain⟨k,hk,rfl,hb,HA⟩:=hrel;by_cases C:k<xs.length
   ·have z:k<ys.length:=by have:=HL.out;omega
    obtain⟨b,y,aa,cc,rfl,ag,M,N,O,T,hA⟩:=(h.below hb).at k C;obtain⟨b',d,Z,ab,rfl,af,U,V,W,X,I⟩:=(h'.below hb).at k z;have Y:(xs.getD k z0m).acts.length≤z56 xs:=z1w (by simp[B,C]);have A:(ys.getD k z0m).acts.length≤z56 ys:=z1w (by simp[B,z]);have J:Box4 wr b (y+k*4) _ _ _ _:=⟨M,N,O,T⟩
    have L:Box4 wr b' (d+k*4) _ _ _ _:=⟨U,V,W,X⟩
    have hq:=fun(w':World) (hW:Below wr.heap.size wr w')=>z6D (xs.getD k z0m) (ys.getD k z0m) b (y+k*4) b' (d+k*4) aa Z cc ab w' (J.below hW) (L.below hW) (hA.below hW) (I.below hW) (by omega) (by omega)
    clear J L hA I M N O T U V W X
    cases hs:z0B (xs.getD k z0m) (ys.getD k z0m)
    case false=>
     have E:Hid (sameTs xs ys=false):=z2W (f:=z0B) z0m (fun _ _ _ _=>rfl) xs ys k HL.out C hs;rw[hs]at hq;clear HA hs Y A;have hW:Below wr.heap.size wr wr.drew:=(Below.refl _ _).drew;have D:Nonempty (Lat wr):=⟨⟨wr,Below.refl _ _⟩⟩
     go_wp2_with fail
     refine z0a (S:=fun w'=>∃u:Lat wr,w'=u.val) (by kernel_rfl) ?_;refine sgr [(0,6)] 2 (by kernel_rfl) ⟨⟨_,hW⟩,rfl⟩ ?_;simp only[pkE];repeat go_big_quiet_step (fail)
     refine wpQuiet_nil ?_;refine cla 6 (some 23) 172 #[.pointer (some ⟨b,y+k*4,none⟩),.pointer (some ⟨b',d+k*4,none⟩)] 1 (by kernel_rfl) ?_;refine(hq _ hW).mono ?_;rintro e w2 ⟨rfl,x⟩;replace hW:=hW.trans (x.mono hW.size);clear x hq;refine⟨_,rfl,⟨⟨_,hW⟩,rfl⟩,?_⟩;simp only[Act.put,pjE];refine sgr [(7,1)] 0 (by kernel_rfl) ⟨⟨_,hW⟩,rfl⟩ ?_;simp only[pkE];repeat go_big_quiet_step (fail)
     refine wpQuiet_nil ?_;refine z0e (by kernel_rfl) ?_;replace hb:=hb.trans (hW.mono hb.size);clear hW D
     go_wp2
     go_ret;rw[E.out];exact⟨rfl,hb⟩
    case true=>
     have HB:Hid (∀j,j<k+1→z0B (xs.getD j z0m) (ys.getD j z0m)=true):=by
      intro j hj;by_cases ad:j=k
      ·subst ad;exact hs
      ·exact HA.out j (by omega)
     rw[hs]at hq;clear HA hs Y A;have hW:Below wr.heap.size wr wr.drew:=(Below.refl _ _).drew;have D:Nonempty (Lat wr):=⟨⟨wr,Below.refl _ _⟩⟩
     go_wp2_with fail
     refine z0a (S:=fun w'=>∃u:Lat wr,w'=u.val) (by kernel_rfl) ?_;refine sgr [(0,6)] 2 (by kernel_rfl) ⟨⟨_,hW⟩,rfl⟩ ?_;simp only[pkE];repeat go_big_quiet_step (fail)
     refine wpQuiet_nil ?_;refine cla 6 (some 23) 172 #[.pointer (some ⟨b,y+k*4,none⟩),.pointer (some ⟨b',d+k*4,none⟩)] 1 (by kernel_rfl) ?_;refine(hq _ hW).mono ?_;rintro e w2 ⟨rfl,x⟩;replace hW:=hW.trans (x.mono hW.size);clear x hq;refine⟨_,rfl,⟨⟨_,hW⟩,rfl⟩,?_⟩;simp only[Act.put,pjE];refine sgr [(7,1)] 0 (by kernel_rfl) ⟨⟨_,hW⟩,rfl⟩ ?_;simp only[pkE];repeat go_big_quiet_step (fail)
     refine wpQuiet_nil ?_;refine z0e (by kernel_rfl) ?_;replace hb:=hb.trans (hW.mono hb.size);clear hW D
     go_wp2
     go_roundw
     case rel=>exact⟨k+1,by omega,by go_num,hb,HB⟩
     case measure=>simp[intOf];omega
   ·have E:Hid (sameTs xs ys=true):=z2X (f:=z0B) z0m rfl (fun _ _ _ _=>rfl) xs ys HL.out (fun j hj=>HA.out j (by omega));clear HA
    go_wp2
    go_ret;rw[E.out];exact⟨rfl,hb⟩
def q6Z:Value→Option Addr
 | F a _ _=>a
 |_=>none
def q7f:Value→Nat
 | F _ _ k=>k
 |_=>0
def TxnQ.p'(q:TxnQ):TxnP:=⟨q.e,q6Z q.va,q7f q.va⟩
theorem TxnQ.p_cells'{w:World}{q:TxnQ}(h:actK.At w q.va q.acts):q.p'.cells=txnK.cells q:=by
 obtain⟨a,c,e⟩:=h.shape;show [_,_,_,_]=[_,_,_,_]
 simp only[TxnP.sl,TxnQ.p',TxnQ.e,e,q6Z,q7f]
theorem z0C{w:World}{v:Value}{ps:List TxnQ}(h:txnK.At w v ps):TxnsAt w v (ps.map TxnQ.e):=by
 obtain⟨a,cap,e,hL,hr⟩:=h;refine⟨a,cap,ps.map TxnQ.p',by rw[List.length_map];exact e,by simp only[List.map_map];rfl,?_,?_⟩
 ·have e2:z0V (ps.map TxnQ.p')=txnK.row ps:=by
   clear hL e;induction ps with
   |nil=>rfl
   |cons q r ih=>
    have h1:q.p'.cells=txnK.cells q:=TxnQ.p_cells' (hr q (by simp));have h2:=ih (fun p hp=>hr p (List.mem_cons_of_mem _ hp));show q.p'.cells++z0V (r.map TxnQ.p')=txnK.cells q++txnK.row r;rw[h1,h2]
  rw[e2];exact hL
 ·intro p hp;obtain⟨q,hq,rfl⟩:=List.mem_map.1 hp;have h1:actK.At w q.va q.acts:=hr q hq;obtain⟨a',c',e',hl',_⟩:=h1;show ActRow w (q6Z q.va) q.acts;rw[e'];exact hl'
theorem z1k(ps:List TxnQ):z56 (ps.map TxnQ.e)=nmL TxnQ.n ps:=by
 simp only[z56,nmL,List.map_map];rfl
end Go.Proofs.YtlkpdgjnhkjpjaaGreatDoor
