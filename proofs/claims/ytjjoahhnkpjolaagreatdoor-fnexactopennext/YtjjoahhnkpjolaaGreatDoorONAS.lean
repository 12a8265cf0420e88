import Derived.Test.YtjjoahhnkpjolaaGreatDoorONAO
import Derived.Test.YtjjoahhnkpjolaaGreatDoorRows
import Derived.Lib.LaidU8
import Derived.OpenVars
import Derived.LaidMore
import Derived.Stop.LaidErr
import Derived.Stop.Joined
set_option linter.unusedVariables false
set_option linter.unusedSimpArgs false
set_option maxRecDepth 100000
set_option maxHeartbeats 4000000
namespace Go.Proofs.YtjjoahhnkpjolaaGreatDoor
open Go.RowKit Go.BigFrame
open Nat renaming le_refl->R,zero_le->B
open List renaming getD->u
open IntKind renaming i64->G
open Value renaming int->F,slice->Q
open Go.Proofs.Tryz renaming prog->S
open Go.Proofs.Tryz
def z16(x y:UndoD):Bool:=(x.key==y.key) && ((x.was==y.was) && (x.val==y.val))
def sameUs:List UndoD→List UndoD→Bool
 |[],[]=>true
 |x::r,y::s=>z16 x y && sameUs r s
 |_,_=>false
theorem z4S{α:Type}{f:α→α→Bool}{g:List α→List α→Bool}(h0:g [] []=true)(h1:∀x r y s,g (x::r) (y::s)=(f x y && g r s))(h2:∀x r,g (x::r) []=false)(h3:∀y s,g [] (y::s)=false):
  ∀a b,a.length≠b.length→g a b=false:=by
 intro a;induction a with
 |nil=>intro b h;cases b with|nil=>simp at h|cons y s=>exact h3 y s
 |cons x r ih=>intro b h;cases b with|nil=>exact h2 x r|cons y s=>rw[h1,ih s (by simpa using h)];simp
theorem z4T{α:Type}{f:α→α→Bool}{g:List α→List α→Bool}(d:α)(h1:∀x r y s,g (x::r) (y::s)=(f x y && g r s)):
  ∀a b k,a.length=b.length→k<a.length→f (a.getD k d) (b.getD k d)=false→g a b=false:=by
 intro a;induction a with
 |nil=>intro b k _ h;simp at h
 |cons x r ih=>
  intro b k hl hk hf
  cases b with
  |nil=>simp at hl
  |cons y s=>
   rw[h1]
   cases k with
   |zero=>simp[u]at hf;simp[hf]
   |succ k=>rw[ih s k (by simpa using hl) (by simpa using hk) (by simpa[u]using hf)];simp
theorem z4U{α:Type}{f:α→α→Bool}{g:List α→List α→Bool}(d:α)(h0:g [] []=true)(h1:∀x r y s,g (x::r) (y::s)=(f x y && g r s)):
  ∀a b,a.length=b.length→(∀k,k<a.length→f (a.getD k d) (b.getD k d)=true)→g a b=true:=by
 intro a;induction a with
 |nil=>intro b hl _;cases b with|nil=>exact h0|cons y s=>simp at hl
 |cons x r ih=>
  intro b hl hf
  cases b with
  |nil=>simp at hl
  |cons y s=>
   rw[h1,ih s (by simpa using hl) (fun k hk=>by simpa[u]using hf (k+1) (by simpa using hk))];have:=hf 0 (by simp);simp[u]at this;simp[this]
theorem z2X(x0:Int)(x1:Bool)(x2 y0:Int)(y1:Bool)(y2:Int)(w:World):(binOp .neq 223 (.agg #[F G x0,.bool x1,F G x2]) (.agg #[F G y0,.bool y1,F G y2])).run S w=.ok (.bool (!z16 ⟨x0,x1,x2⟩ ⟨y0,y1,y2⟩)) w:=by
 rw[run_neq_struct,run_equalIn_struct (P:=S) w 9999 223 _ _ (by kernel_rfl) (by kernel_rfl)];have c1:S.cellsOf 2=1:=by kernel_rfl
 have c2:S.cellsOf 4=1:=by kernel_rfl
 cases h0:(x0==y0)<;>cases h1:(x1==y1)<;>cases h2:(x2==y2)<;>simp[Program.fieldsOf,Tryz.underlying223,Op.eqFields,go_sem,Tryz.underlying2,Tryz.underlying4,h0,h1,h2,z16,c1,c2]
theorem q1d(a a':Option Addr)(cap d:Nat)(xs ys:List UndoD)(w:World)(h:UndoRow w a xs)(h':UndoRow w a' ys)(hl:xs.length≤1048576)(U:ys.length≤1048576):
  Calls S 215 #[Q a xs.length cap,Q a' ys.length d] w fun e w'=>e=.returned (.bool (sameUs xs ys))∧Below w.heap.size w w':=by
 by_cases c:xs.length=ys.length
 case neg=>
  have E:sameUs xs ys=false:=z4S (f:=z16) rfl (fun _ _ _ _=>rfl) (fun _ _=>rfl) (fun _ _=>rfl) xs ys c;rw[E];have hd:((xs.length:Int) !=(ys.length:Int))=true:=by simp;omega
  go_enter func215,ntmps215
  go_wp2
  go_ret;exact⟨rfl,Below.refl _ _⟩
 case pos=>
  have hd:((xs.length:Int) !=(ys.length:Int))=false:=by simp[c]
  have HL:Hid (xs.length=ys.length):=c;clear c;go_enter func215,ntmps215
  go_wp2
  go_loopw[13] (fun i wr=>∃k m:Nat,k≤xs.length∧i=F G k∧wr=w.drewN m∧Hid (∀j,j<k→z16 (xs.getD j z0j) (ys.getD j z0j)=true)) (fun i _=>xs.length-(intOf i).toNat)
  case atStart=>exact⟨0,0,B _,rfl,rfl,fun j hj=>absurd hj (Nat.not_lt_zero _)⟩
  case round=>
   obtain⟨k,m,hk,rfl,rfl,HA⟩:=hrel;by_cases J:k<xs.length
   ·have L:k<ys.length:=by have:=HL.out;omega
    obtain⟨b,V,rfl,T,x,y,A⟩:=h.at k J;obtain⟨b',O,rfl,N,C,D,I⟩:=h'.at k L
    cases hs:z16 (xs.getD k z0j) (ys.getD k z0j)
    case false=>
     have E:Hid (sameUs xs ys=false):=z4T (f:=z16) z0j (fun _ _ _ _=>rfl) xs ys k HL.out J hs;have hr:=z2X (xs.getD k z0j).key (xs.getD k z0j).was (xs.getD k z0j).val (ys.getD k z0j).key (ys.getD k z0j).was (ys.getD k z0j).val;rw[show z16 ⟨(xs.getD k z0j).key,(xs.getD k z0j).was,(xs.getD k z0j).val⟩ ⟨(ys.getD k z0j).key,(ys.getD k z0j).was,(ys.getD k z0j).val⟩=false from hs,Bool.not_false]at hr;clear HA hs;generalize xs.getD k z0j=z at x y A hr;generalize ys.getD k z0j=z' at C D I hr
     go_wp2
     go_quiet (fail)
     go_wp2
     go_ret;rw[E.out];exact⟨rfl,(Below.refl _ _).trans ⟨rfl,rfl,rfl,R _,fun _ _=>rfl⟩⟩
    case true=>
     have HB:Hid (∀j,j<k+1→z16 (xs.getD j z0j) (ys.getD j z0j)=true):=by
      intro j hj;by_cases M:j=k
      ·subst M;exact hs
      ·exact HA.out j (by omega)
     have hr:=z2X (xs.getD k z0j).key (xs.getD k z0j).was (xs.getD k z0j).val (ys.getD k z0j).key (ys.getD k z0j).was (ys.getD k z0j).val;rw[show z16 ⟨(xs.getD k z0j).key,(xs.getD k z0j).was,(xs.getD k z0j).val⟩ ⟨(ys.getD k z0j).key,(ys.getD k z0j).was,(ys.getD k z0j).val⟩=true from hs,Bool.not_true]at hr;clear HA hs;generalize xs.getD k z0j=z at x y A hr;generalize ys.getD k z0j=z' at C D I hr
     go_wp2
     go_quiet (fail)
     go_wp2
     go_roundw
     case rel=>exact⟨k+1,_,by omega,by go_num,rfl,HB⟩
     case measure=>simp[intOf];omega
   ·have E:Hid (sameUs xs ys=true):=z4U (f:=z16) z0j rfl (fun _ _ _ _=>rfl) xs ys HL.out (fun j hj=>HA.out j (by omega));clear HA
    go_wp2
    go_ret;rw[E.out];exact⟨rfl,(Below.refl _ _).trans ⟨rfl,rfl,rfl,R _,fun _ _=>rfl⟩⟩
theorem z40(a a':Option Addr)(cap d:Nat)(xs ys:List UndoD)(w:World)(h:UndoRow w a xs)(h':UndoRow w a' ys)(hl:xs.length≤1048576)(U:ys.length≤1048576):
  Calls S 198 #[Q a xs.length cap,Q a' ys.length d] w fun e w'=>e=.returned (.bool (sameUs xs ys))∧Below w.heap.size w w':=by
 by_cases c:xs.length=ys.length
 case neg=>
  have E:sameUs xs ys=false:=z4S (f:=z16) rfl (fun _ _ _ _=>rfl) (fun _ _=>rfl) (fun _ _=>rfl) xs ys c;rw[E];have hd:((xs.length:Int) !=(ys.length:Int))=true:=by simp;omega
  go_enter func198,ntmps198
  go_wp2
  go_ret;exact⟨rfl,Below.refl _ _⟩
 case pos=>
  have hd:((xs.length:Int) !=(ys.length:Int))=false:=by simp[c]
  have HL:Hid (xs.length=ys.length):=c;clear c;go_enter func198,ntmps198
  go_wp2
  go_loopw[5] (fun i wr=>∃k m:Nat,k≤xs.length∧i=F G k∧wr=w.drewN m∧Hid (∀j,j<k→z16 (xs.getD j z0j) (ys.getD j z0j)=true)) (fun i _=>xs.length-(intOf i).toNat)
  case atStart=>exact⟨0,0,B _,rfl,rfl,fun j hj=>absurd hj (Nat.not_lt_zero _)⟩
  case round=>
   obtain⟨k,m,hk,rfl,rfl,HA⟩:=hrel;by_cases J:k<xs.length
   ·have L:k<ys.length:=by have:=HL.out;omega
    obtain⟨b,V,rfl,T,x,y,A⟩:=h.at k J;obtain⟨b',O,rfl,N,C,D,I⟩:=h'.at k L
    cases hs:z16 (xs.getD k z0j) (ys.getD k z0j)
    case false=>
     have E:Hid (sameUs xs ys=false):=z4T (f:=z16) z0j (fun _ _ _ _=>rfl) xs ys k HL.out J hs;have hr:=z2X (xs.getD k z0j).key (xs.getD k z0j).was (xs.getD k z0j).val (ys.getD k z0j).key (ys.getD k z0j).was (ys.getD k z0j).val;rw[show z16 ⟨(xs.getD k z0j).key,(xs.getD k z0j).was,(xs.getD k z0j).val⟩ ⟨(ys.getD k z0j).key,(ys.getD k z0j).was,(ys.getD k z0j).val⟩=false from hs,Bool.not_false]at hr;clear HA hs;generalize xs.getD k z0j=z at x y A hr;generalize ys.getD k z0j=z' at C D I hr
     go_wp2
     go_quiet (fail)
     go_wp2
     go_ret;rw[E.out];exact⟨rfl,(Below.refl _ _).trans ⟨rfl,rfl,rfl,R _,fun _ _=>rfl⟩⟩
    case true=>
     have HB:Hid (∀j,j<k+1→z16 (xs.getD j z0j) (ys.getD j z0j)=true):=by
      intro j hj;by_cases M:j=k
      ·subst M;exact hs
      ·exact HA.out j (by omega)
     have hr:=z2X (xs.getD k z0j).key (xs.getD k z0j).was (xs.getD k z0j).val (ys.getD k z0j).key (ys.getD k z0j).was (ys.getD k z0j).val;rw[show z16 ⟨(xs.getD k z0j).key,(xs.getD k z0j).was,(xs.getD k z0j).val⟩ ⟨(ys.getD k z0j).key,(ys.getD k z0j).was,(ys.getD k z0j).val⟩=true from hs,Bool.not_true]at hr;clear HA hs;generalize xs.getD k z0j=z at x y A hr;generalize ys.getD k z0j=z' at C D I hr
     go_wp2
     go_quiet (fail)
     go_wp2
     go_roundw
     case rel=>exact⟨k+1,_,by omega,by go_num,rfl,HB⟩
     case measure=>simp[intOf];omega
   ·have E:Hid (sameUs xs ys=true):=z4U (f:=z16) z0j rfl (fun _ _ _ _=>rfl) xs ys HL.out (fun j hj=>HA.out j (by omega));clear HA
    go_wp2
    go_ret;rw[E.out];exact⟨rfl,(Below.refl _ _).trans ⟨rfl,rfl,rfl,R _,fun _ _=>rfl⟩⟩
theorem z42(a a':Option Addr)(cap cap':Nat)(xs ys:List UndoD)(w:World)(h:UndoRow w a xs)(h':UndoRow w a' ys)(hl:xs.length≤1048576)(hl':ys.length≤1048576):
  Calls S 179 #[Q a xs.length cap,Q a' ys.length cap'] w fun e w'=>e=.returned (.bool (sameUs xs ys))∧Below w.heap.size w w':=by
 have hq:=fun w h h'=>q1d a a' cap cap' xs ys w h h' hl hl'
 generalize sameUs xs ys=r at hq;go_enter func179,ntmps179
 go_wp2_with fail
 refine(hq _ h h').mono ?_;rintro e w' ⟨rfl,hb⟩
 go_wp2
 go_ret;exact⟨rfl,hb⟩
def z2a(x y:ItemD):Bool:=(x.key==y.key) && (x.val==y.val)
def sameIs:List ItemD→List ItemD→Bool
 |[],[]=>true
 |x::r,y::s=>z2a x y && sameIs r s
 |_,_=>false
theorem z4V{α:Type}{f:α→α→Bool}{g:List α→List α→Bool}(h0:g [] []=true)(h1:∀x r y s,g (x::r) (y::s)=(f x y && g r s))(h2:∀x r,g (x::r) []=false)(h3:∀y s,g [] (y::s)=false):
  ∀a b,a.length≠b.length→g a b=false:=by
 intro a;induction a with
 |nil=>intro b h;cases b with|nil=>simp at h|cons y s=>exact h3 y s
 |cons x r ih=>intro b h;cases b with|nil=>exact h2 x r|cons y s=>rw[h1,ih s (by simpa using h)];simp
theorem z4W{α:Type}{f:α→α→Bool}{g:List α→List α→Bool}(d:α)(h1:∀x r y s,g (x::r) (y::s)=(f x y && g r s)):
  ∀a b k,a.length=b.length→k<a.length→f (a.getD k d) (b.getD k d)=false→g a b=false:=by
 intro a;induction a with
 |nil=>intro b k _ h;simp at h
 |cons x r ih=>
  intro b k hl hk hf
  cases b with
  |nil=>simp at hl
  |cons y s=>
   rw[h1]
   cases k with
   |zero=>simp[u]at hf;simp[hf]
   |succ k=>rw[ih s k (by simpa using hl) (by simpa using hk) (by simpa[u]using hf)];simp
theorem z4X{α:Type}{f:α→α→Bool}{g:List α→List α→Bool}(d:α)(h0:g [] []=true)(h1:∀x r y s,g (x::r) (y::s)=(f x y && g r s)):
  ∀a b,a.length=b.length→(∀k,k<a.length→f (a.getD k d) (b.getD k d)=true)→g a b=true:=by
 intro a;induction a with
 |nil=>intro b hl _;cases b with|nil=>exact h0|cons y s=>simp at hl
 |cons x r ih=>
  intro b hl hf
  cases b with
  |nil=>simp at hl
  |cons y s=>
   rw[h1,ih s (by simpa using hl) (fun k hk=>by simpa[u]using hf (k+1) (by simpa using hk))];have:=hf 0 (by simp);simp[u]at this;simp[this]
theorem z8C{xs ys:List ItemD}(h:sameIs xs ys=true):xs=ys:=by
 induction xs generalizing ys with
 |nil=>cases ys with|nil=>rfl|cons y s=>simp[sameIs]at h
 |cons x r ih=>
  cases ys with
  |nil=>simp[sameIs]at h
  |cons y s=>
   obtain⟨x0,x1⟩:=x;obtain⟨y0,y1⟩:=y;simp[sameIs,z2a]at h;rw[ih h.2,h.1.1,h.1.2]
theorem z2Y(x0 x1 y0 y1:Int)(w:World):(binOp .neq 173 (.agg #[F G x0,F G x1]) (.agg #[F G y0,F G y1])).run S w=.ok (.bool (!z2a ⟨x0,x1⟩ ⟨y0,y1⟩)) w:=by
 rw[run_neq_struct,run_equalIn_struct (P:=S) w 9999 173 _ _ (by kernel_rfl) (by kernel_rfl)];have c1:S.cellsOf 2=1:=by kernel_rfl
 cases h0:(x0==y0)<;>cases h1:(x1==y1)<;>simp[Program.fieldsOf,Tryz.underlying173,Op.eqFields,go_sem,Tryz.underlying2,h0,h1,z2a,c1]
theorem q1e(a a':Option Addr)(cap d:Nat)(xs ys:List ItemD)(w:World)(h:ItemRow w a xs)(h':ItemRow w a' ys)(hl:xs.length≤1048576)(O:ys.length≤1048576):
  Calls S 214 #[Q a xs.length cap,Q a' ys.length d] w fun e w'=>e=.returned (.bool (sameIs xs ys))∧Below w.heap.size w w':=by
 by_cases c:xs.length=ys.length
 case neg=>
  have E:sameIs xs ys=false:=z4V (f:=z2a) rfl (fun _ _ _ _=>rfl) (fun _ _=>rfl) (fun _ _=>rfl) xs ys c;rw[E];have hd:((xs.length:Int) !=(ys.length:Int))=true:=by simp;omega
  go_enter func214,ntmps214
  go_wp2
  go_ret;exact⟨rfl,Below.refl _ _⟩
 case pos=>
  have hd:((xs.length:Int) !=(ys.length:Int))=false:=by simp[c]
  have HL:Hid (xs.length=ys.length):=c;clear c;go_enter func214,ntmps214
  go_wp2
  go_loopw[13] (fun i wr=>∃k m:Nat,k≤xs.length∧i=F G k∧wr=w.drewN m∧Hid (∀j,j<k→z2a (xs.getD j z0b) (ys.getD j z0b)=true)) (fun i _=>xs.length-(intOf i).toNat)
  case atStart=>exact⟨0,0,B _,rfl,rfl,fun j hj=>absurd hj (Nat.not_lt_zero _)⟩
  case round=>
   obtain⟨k,m,hk,rfl,rfl,HA⟩:=hrel;by_cases D:k<xs.length
   ·have I:k<ys.length:=by have:=HL.out;omega
    obtain⟨b,T,rfl,N,x,y⟩:=h.at k D;obtain⟨b',M,rfl,L,A,C⟩:=h'.at k I
    cases hs:z2a (xs.getD k z0b) (ys.getD k z0b)
    case false=>
     have E:Hid (sameIs xs ys=false):=z4W (f:=z2a) z0b (fun _ _ _ _=>rfl) xs ys k HL.out D hs;have hr:=z2Y (xs.getD k z0b).key (xs.getD k z0b).val (ys.getD k z0b).key (ys.getD k z0b).val;rw[show z2a ⟨(xs.getD k z0b).key,(xs.getD k z0b).val⟩ ⟨(ys.getD k z0b).key,(ys.getD k z0b).val⟩=false from hs,Bool.not_false]at hr;clear HA hs;generalize xs.getD k z0b=z at x y hr;generalize ys.getD k z0b=z' at A C hr
     go_wp2
     go_quiet (fail)
     go_wp2
     go_ret;rw[E.out];exact⟨rfl,(Below.refl _ _).trans ⟨rfl,rfl,rfl,R _,fun _ _=>rfl⟩⟩
    case true=>
     have HB:Hid (∀j,j<k+1→z2a (xs.getD j z0b) (ys.getD j z0b)=true):=by
      intro j hj;by_cases J:j=k
      ·subst J;exact hs
      ·exact HA.out j (by omega)
     have hr:=z2Y (xs.getD k z0b).key (xs.getD k z0b).val (ys.getD k z0b).key (ys.getD k z0b).val;rw[show z2a ⟨(xs.getD k z0b).key,(xs.getD k z0b).val⟩ ⟨(ys.getD k z0b).key,(ys.getD k z0b).val⟩=true from hs,Bool.not_true]at hr;clear HA hs;generalize xs.getD k z0b=z at x y hr;generalize ys.getD k z0b=z' at A C hr
     go_wp2
     go_quiet (fail)
     go_wp2
     go_roundw
     case rel=>exact⟨k+1,_,by omega,by go_num,rfl,HB⟩
     case measure=>simp[intOf];omega
   ·have E:Hid (sameIs xs ys=true):=z4X (f:=z2a) z0b rfl (fun _ _ _ _=>rfl) xs ys HL.out (fun j hj=>HA.out j (by omega));clear HA
    go_wp2
    go_ret;rw[E.out];exact⟨rfl,(Below.refl _ _).trans ⟨rfl,rfl,rfl,R _,fun _ _=>rfl⟩⟩
theorem z2b(a a':Option Addr)(cap d:Nat)(xs ys:List ItemD)(w:World)(h:ItemRow w a xs)(h':ItemRow w a' ys)(hl:xs.length≤1048576)(O:ys.length≤1048576):
  Calls S 162 #[Q a xs.length cap,Q a' ys.length d] w fun e w'=>e=.returned (.bool (sameIs xs ys))∧Below w.heap.size w w':=by
 by_cases c:xs.length=ys.length
 case neg=>
  have E:sameIs xs ys=false:=z4V (f:=z2a) rfl (fun _ _ _ _=>rfl) (fun _ _=>rfl) (fun _ _=>rfl) xs ys c;rw[E];have hd:((xs.length:Int) !=(ys.length:Int))=true:=by simp;omega
  go_enter func162,ntmps162
  go_wp2
  go_ret;exact⟨rfl,Below.refl _ _⟩
 case pos=>
  have hd:((xs.length:Int) !=(ys.length:Int))=false:=by simp[c]
  have HL:Hid (xs.length=ys.length):=c;clear c;go_enter func162,ntmps162
  go_wp2
  go_loopw[5] (fun i wr=>∃k m:Nat,k≤xs.length∧i=F G k∧wr=w.drewN m∧Hid (∀j,j<k→z2a (xs.getD j z0b) (ys.getD j z0b)=true)) (fun i _=>xs.length-(intOf i).toNat)
  case atStart=>exact⟨0,0,B _,rfl,rfl,fun j hj=>absurd hj (Nat.not_lt_zero _)⟩
  case round=>
   obtain⟨k,m,hk,rfl,rfl,HA⟩:=hrel;by_cases D:k<xs.length
   ·have I:k<ys.length:=by have:=HL.out;omega
    obtain⟨b,T,rfl,N,x,y⟩:=h.at k D;obtain⟨b',M,rfl,L,A,C⟩:=h'.at k I
    cases hs:z2a (xs.getD k z0b) (ys.getD k z0b)
    case false=>
     have E:Hid (sameIs xs ys=false):=z4W (f:=z2a) z0b (fun _ _ _ _=>rfl) xs ys k HL.out D hs;have hr:=z2Y (xs.getD k z0b).key (xs.getD k z0b).val (ys.getD k z0b).key (ys.getD k z0b).val;rw[show z2a ⟨(xs.getD k z0b).key,(xs.getD k z0b).val⟩ ⟨(ys.getD k z0b).key,(ys.getD k z0b).val⟩=false from hs,Bool.not_false]at hr;clear HA hs;generalize xs.getD k z0b=z at x y hr;generalize ys.getD k z0b=z' at A C hr
     go_wp2
     go_quiet (fail)
     go_wp2
     go_ret;rw[E.out];exact⟨rfl,(Below.refl _ _).trans ⟨rfl,rfl,rfl,R _,fun _ _=>rfl⟩⟩
    case true=>
     have HB:Hid (∀j,j<k+1→z2a (xs.getD j z0b) (ys.getD j z0b)=true):=by
      intro j hj;by_cases J:j=k
      ·subst J;exact hs
      ·exact HA.out j (by omega)
     have hr:=z2Y (xs.getD k z0b).key (xs.getD k z0b).val (ys.getD k z0b).key (ys.getD k z0b).val;rw[show z2a ⟨(xs.getD k z0b).key,(xs.getD k z0b).val⟩ ⟨(ys.getD k z0b).key,(ys.getD k z0b).val⟩=true from hs,Bool.not_true]at hr;clear HA hs;generalize xs.getD k z0b=z at x y hr;generalize ys.getD k z0b=z' at A C hr
     go_wp2
     go_quiet (fail)
     go_wp2
     go_roundw
     case rel=>exact⟨k+1,_,by omega,by go_num,rfl,HB⟩
     case measure=>simp[intOf];omega
   ·have E:Hid (sameIs xs ys=true):=z4X (f:=z2a) z0b rfl (fun _ _ _ _=>rfl) xs ys HL.out (fun j hj=>HA.out j (by omega));clear HA
    go_wp2
    go_ret;rw[E.out];exact⟨rfl,(Below.refl _ _).trans ⟨rfl,rfl,rfl,R _,fun _ _=>rfl⟩⟩
theorem z2c(a a':Option Addr)(cap cap':Nat)(xs ys:List ItemD)(w:World)(h:ItemRow w a xs)(h':ItemRow w a' ys)(hl:xs.length≤1048576)(hl':ys.length≤1048576):
  Calls S 177 #[Q a xs.length cap,Q a' ys.length cap'] w fun e w'=>e=.returned (.bool (sameIs xs ys))∧Below w.heap.size w w':=by
 have hq:=fun w h h'=>q1e a a' cap cap' xs ys w h h' hl hl'
 generalize sameIs xs ys=r at hq;go_enter func177,ntmps177
 go_wp2_with fail
 refine(hq _ h h').mono ?_;rintro e w' ⟨rfl,hb⟩
 go_wp2
 go_ret;exact⟨rfl,hb⟩
section
open Go.Deep Go.ChangeShapes Go.WideShapes
theorem q1f{α:Type}{c:Nat}(css:List (List α))(hc:∀l∈css,l.length=c):∀ (j:Nat) (x:α),css.flatten[j]?=some x→∃i r,j=i*c+r∧r<c∧i<css.length∧(css.getD i [])[r]?=some x:=by
 induction css with
 |nil=>intro j x h;simp at h
 |cons l css ih=>
  intro j x h;have hl:l.length=c:=hc l (by simp);rw[List.flatten_cons]at h;by_cases hj:j<c
  ·rw[List.getElem?_append_left (by omega)]at h;exact⟨0,j,by omega,hj,by simp,by simpa[u]using h⟩
  ·rw[List.getElem?_append_right (by omega),hl]at h;obtain⟨i,r,e1,e2,e3,e4⟩:=ih (fun l hl=>hc l (by simp[hl])) _ _ h;refine⟨i+1,r,?_,e2,by simpa using e3,by simpa[u]using e4⟩;rw[Nat.add_mul];omega
section
variable {H:Type} {enc:TypeId × Value→H} {P:Program} {w:World} {base:Nat} {spare:Nat→Bool} {held:Bool}
theorem q0p{t e:TypeId}{c I:Nat}{cs:List Value}{x:DataW H × List MemPlace}(ht:P.underlying t=some (.slice e))(hc:P.cellsOf e=c)(L:0<c)(h:DataW.trod enc P w base spare held I t cs=some x):
  ∃ (a:Option Addr) (cap n:Nat) (A:List (List Value)),cs=[Q a A.length cap]∧A.length≤9223372036854775807∧Lies w a A.flatten∧∀l∈A,l.length=c∧∃y,DataW.trod enc P w base spare held n e l=some y:=by
 rcases open_slice ht h with⟨rfl,_⟩|⟨a,d,cap,m,n,D,Pl,rfl,hb,hl,hm,U,rfl,hx⟩
 ·exact⟨none,0,0,[],rfl,by simp,Or.inl rfl,by simp⟩
 have T:d≤m:=by rw[U];split<;>omega
 rw[hc]at hx;obtain⟨f,hf⟩:=choose_lt (α:=List Value) (p:=fun i l=>w.cells? base (a.add (i*c)) c=some l∧DataW.trod enc P w base spare held n e l=some (D i,Pl i)) (fun i hi=>hx i (Nat.lt_of_lt_of_le hi T));have z:∀i,i<d→(f i).length=c:=fun i hi=>(World.cells?_some (hf i hi).1).2.1
 have J:∀l∈(List.range d).map f,l.length=c:=by
  intro l hl;obtain⟨i,hi,rfl⟩:=List.mem_map.1 hl;exact z i (List.mem_range.1 hi)
 refine⟨some a,cap,n,(List.range d).map f,by simp,?_,?_,?_⟩
 ·unfold maxLen at hm;simp;omega
 ·by_cases h0:d=0
  ·subst h0;exact Or.inl rfl
  ·right;have C:=(World.cells?_some (hf 0 (by omega)).1).2.2 0 L;obtain⟨v,hv⟩:∃v,(f 0)[0]?=some v:=⟨_,List.getElem?_eq_getElem (by rw[z 0 (by omega)];exact L)⟩
   rw[hv,add_add]at C;obtain⟨b,W,O⟩:=a;have E:O=none:=by simpa[Addr.add]using World.cell?_spot C
   subst E;refine⟨b,W,rfl,by simpa[Addr.add_lit]using World.block_lt_of_cell? w _ C,?_⟩;intro j x hj;obtain⟨i,r,rfl,hr,hi,V⟩:=q1f _ J j x hj;have M:i<d:=by simpa using hi
   have N:(f i)[r]?=some x:=by simpa[u,M]using V
   have:=(World.cells?_some (hf i M).1).2.2 r hr;rw[add_add,Addr.add_lit,N]at this;exact this
 ·intro l hl;obtain⟨i,hi,rfl⟩:=List.mem_map.1 hl;exact⟨z i (List.mem_range.1 hi),_,(hf i (List.mem_range.1 hi)).2⟩
end
theorem q34{α β:Type}{p:β→α→Prop}{q:α→Prop}(f:β→α)(l:List α)(h:∀x∈l,∃b,x=f b):∃bs:List β,l=bs.map f:=by
 induction l with
 |nil=>exact⟨[],rfl⟩
 |cons x l ih=>
  obtain⟨bs,rfl⟩:=ih (fun x hx=>h x (by simp[hx]));obtain⟨b,rfl⟩:=h x (by simp);exact⟨b::bs,rfl⟩
section
variable {H:Type} {enc:TypeId × Value→H} {w:World} {base:Nat} {spare:Nat→Bool} {held:Bool}
theorem q35{fuel:Nat}{cs:List Value}{x:DataW H × List MemPlace}(h:DataW.trod enc S w base spare held fuel 286 cs=some x):∃z:ActD,cs=z.cells:=by
 obtain⟨y0,y1,y2,n,_,hl,h0,h1,h2⟩:=trod_struct3 Tryz.underlying286 h;rw[show S.cellsOf 286=3 by kernel_rfl]at hl;have e:S.cellsOf 2=1:=by kernel_rfl
 match cs,hl with
 |[c0,c1,c2],_=>
  simp only[e,List.drop_zero,List.drop_succ_cons,List.take_succ_cons,List.take_zero]at h0 h1 h2;obtain⟨k,e0,_⟩:=DataW.trod_int Tryz.underlying2 h0;obtain⟨y,e1,_⟩:=DataW.trod_int Tryz.underlying2 h1;obtain⟨v,e2,_⟩:=DataW.trod_int Tryz.underlying2 h2;simp only[List.cons.injEq,and_true]at e0 e1 e2;exact⟨⟨k,y,v⟩,by rw[e0,e1,e2];rfl⟩
theorem q2B{fuel:Nat}{cs:List Value}{x:DataW H × List MemPlace}(h:DataW.trod enc S w base spare held fuel 177 cs=some x):
  ∃ (a:Option Addr) (cap:Nat) (zs:List ActD),cs=[Q a zs.length cap]∧zs.length≤9223372036854775807∧ActRow w a zs:=by
 obtain⟨a,cap,n,css,rfl,hl,hL,hc⟩:=q0p Tryz.underlying177 (show S.cellsOf 286=3 by kernel_rfl) (by omega) h;obtain⟨zs,rfl⟩:=q34 (p:=fun _ _=>True) (q:=fun _=>True) ActD.cells css (fun l hl=>by obtain⟨_,y,hy⟩:=hc l hl;exact q35 hy);refine⟨a,cap,zs,by simp,by simpa using hl,?_⟩;rw[←List.flatMap_def]at hL;exact hL
theorem z7z{fuel:Nat}{cs:List Value}{x:DataW H × List MemPlace}(h:DataW.trod enc S w base spare held fuel 179 cs=some x):
  ∃ (i s q:Int) (a:Option Addr) (cap:Nat) (zs:List ActD),cs=[F G i,F G s,F G q,Q a zs.length cap]∧zs.length≤9223372036854775807∧ActRow w a zs:=by
 obtain⟨y0,y1,y2,y3,n,_,hl,h0,h1,h2,h3⟩:=Go.Joins.trod_struct4 Tryz.underlying179 h;rw[show S.cellsOf 179=4 by kernel_rfl]at hl;have e:S.cellsOf 2=1:=by kernel_rfl
 have e':S.cellsOf 177=1:=by kernel_rfl
 match cs,hl with
 |[c0,c1,c2,c3],_=>
  simp only[e,e',List.drop_zero,List.drop_succ_cons,List.take_succ_cons,List.take_zero]at h0 h1 h2 h3;obtain⟨k,e0,_⟩:=DataW.trod_int Tryz.underlying2 h0;obtain⟨y,e1,_⟩:=DataW.trod_int Tryz.underlying2 h1;obtain⟨v,e2,_⟩:=DataW.trod_int Tryz.underlying2 h2;obtain⟨a,cap,zs,e3,hz,hA⟩:=q2B h3;simp only[List.cons.injEq,and_true]at e0 e1 e2 e3;exact⟨k,y,v,a,cap,zs,by rw[e0,e1,e2,e3],hz,hA⟩
end
section
variable {H:Type} {enc:TypeId × Value→H} {w:World} {base:Nat} {spare:Nat→Bool} {held:Bool}
theorem q2C{α β:Type}(f:β→α)(q:β→Prop)(l:List α)(h:∀x∈l,∃b,x=f b∧q b):∃bs:List β,l=bs.map f∧∀b∈bs,q b:=by
 induction l with
 |nil=>exact⟨[],rfl,by simp⟩
 |cons x l ih=>
  obtain⟨bs,rfl,hq⟩:=ih (fun x hx=>h x (by simp[hx]));obtain⟨b,rfl,hb⟩:=h x (by simp);exact⟨b::bs,rfl,by intro c hc;rcases List.mem_cons.1 hc with rfl|hc;exact hb;exact hq c hc⟩
end
section
variable {H:Type} {enc:TypeId × Value→H} {w:World} {base:Nat} {spare:Nat→Bool} {held:Bool}
theorem z1I{P:Type}(K:Kind P)(q:P→Prop){t e:TypeId}{fuel:Nat}{cs:List Value}{x:DataW H × List MemPlace}(ht:S.underlying t=some (.slice e))(hc:S.cellsOf e=K.size)(hc0:0<K.size)
  (hel:∀ (n:Nat) (l:List Value) y,DataW.trod enc S w base spare held n e l=some y→∃p:P,l=K.cells p∧K.rd w p∧q p) (h:DataW.trod enc S w base spare held fuel t cs=some x):
  ∃ (v:Value) (ps:List P),cs=[v]∧K.At w v ps∧ps.length≤9223372036854775807∧∀p∈ps,q p:=by
 obtain⟨a,cap,n,css,rfl,hl,hL,hcs⟩:=q0p ht hc hc0 h;obtain ⟨ps,rfl,hq⟩:=q2C K.cells (fun p=>K.rd w p∧q p) css (fun l hl=>by
  obtain⟨_,y,hy⟩:=hcs l hl;obtain⟨p,h1,h2,h3⟩:=hel n l y hy;exact ⟨p,h1,h2,h3⟩)
 rw[←List.flatMap_def]at hL;refine⟨.slice a (ps.map K.cells).length cap,ps,rfl,⟨a,cap,by rw[List.length_map],hL,fun p hp=>(hq p hp).1⟩,by simpa using hl,fun p hp=>(hq p hp).2⟩
theorem q36(n:Nat)(l:List Value)(y:DataW H × List MemPlace)(h:DataW.trod enc S w base spare held n 2 l=some y):∃p:Int,l=intK.cells p∧intK.rd w p∧True:=by
 obtain⟨k,e,_⟩:=DataW.trod_int Tryz.underlying2 h;exact⟨k,e,trivial,trivial⟩
theorem z4w{fuel:Nat}{cs:List Value}{x:DataW H × List MemPlace}(h:DataW.trod enc S w base spare held fuel 75 cs=some x):
  ∃ (v:Value) (zs:List Int),cs=[v]∧intK.At w v zs∧zs.length≤9223372036854775807:=by
 obtain⟨v,ps,h1,h2,h3,_⟩:=z1I intK (fun _=>True) Tryz.underlying75 (by kernel_rfl) (by decide) q36 h;exact⟨v,ps,h1,h2,h3⟩
theorem q2D(n:Nat)(l:List Value)(y:DataW H × List MemPlace)(h:DataW.trod enc S w base spare held n 179 l=some y):∃p:TxnQ,l=txnK.cells p∧txnK.rd w p∧TxnQ.wf p:=by
 obtain⟨i,s,q,a,cap,zs,e,hz,hA⟩:=z7z h;exact⟨⟨i,s,q,Q a zs.length cap,zs⟩,e,q4W hA,hz⟩
theorem z4x{fuel:Nat}{cs:List Value}{x:DataW H × List MemPlace}(h:DataW.trod enc S w base spare held fuel 73 cs=some x):
  ∃ (v:Value) (ps:List TxnQ),cs=[v]∧txnK.At w v ps∧ps.length≤9223372036854775807∧∀p∈ps,TxnQ.wf p:=
 z1I txnK TxnQ.wf Tryz.underlying73 (by kernel_rfl) (by decide) q2D h
theorem z9H(n:Nat)(l:List Value)(y:DataW H × List MemPlace)(h:DataW.trod enc S w base spare held n 181 l=some y):∃p:RoundQ,l=roundK.cells p∧roundK.rd w p∧RoundQ.wf p:=by
 obtain⟨y0,y1,n,_,hl,h0,h1⟩:=trod_struct2 Tryz.underlying181 h;rw[show S.cellsOf 181=2 by kernel_rfl]at hl;have e:S.cellsOf 75=1:=by kernel_rfl
 match l,hl with
 |[c0,c1],_=>
  simp only[e,List.drop_zero,List.drop_succ_cons,List.take_succ_cons,List.take_zero]at h0 h1;obtain⟨v0,z0,e0,a0,l0⟩:=z4w h0;obtain⟨v1,z1,e1,a1,l1⟩:=z4w h1;simp only[List.cons.injEq,and_true]at e0 e1;exact⟨⟨v0,z0,v1,z1⟩,by rw[e0,e1];rfl,⟨a0,a1⟩,⟨l0,l1⟩⟩
theorem z8D{fuel:Nat}{cs:List Value}{x:DataW H × List MemPlace}(h:DataW.trod enc S w base spare held fuel 74 cs=some x):
  ∃ (v:Value) (ps:List RoundQ),cs=[v]∧roundK.At w v ps∧ps.length≤9223372036854775807∧∀p∈ps,RoundQ.wf p:=
 z1I roundK RoundQ.wf Tryz.underlying74 (by kernel_rfl) (by decide) z9H h
theorem z6s{fuel:Nat}{cs:List Value}{x:DataW H × List MemPlace}(h:DataW.trod enc S w base spare held fuel 77 cs=some x):
  ∃p:InstQ,cs=[.bool p.has,p.vb,p.vr,p.vd]∧instK.rd w p∧p.wf:=by
 obtain⟨y0,y1,y2,y3,n,_,hl,h0,h1,h2,h3⟩:=Go.Joins.trod_struct4 Tryz.underlying77 h;rw[show S.cellsOf 77=4 by kernel_rfl]at hl;have e:S.cellsOf 4=1:=by kernel_rfl
 have e':S.cellsOf 73=1:=by kernel_rfl
 have e2:S.cellsOf 74=1:=by kernel_rfl
 have e3:S.cellsOf 75=1:=by kernel_rfl
 match cs,hl with
 |[c0,c1,c2,c3],_=>
  simp only[e,e',e2,e3,List.drop_zero,List.drop_succ_cons,List.take_succ_cons,List.take_zero]at h0 h1 h2 h3;obtain⟨k,e0,_⟩:=DataW.trod_bool Tryz.underlying4 h0;obtain⟨v1,z1,e1,a1,l1,w1⟩:=z4x h1;obtain⟨v2,z2,e2,a2,l2,w2⟩:=z8D h2;obtain⟨v3,z3,e3,a3,l3⟩:=z4w h3;simp only[List.cons.injEq,and_true]at e0 e1 e2 e3;exact⟨⟨k,v1,z1,v2,z2,v3,z3⟩,by rw[e0,e1,e2,e3],⟨a1,a2,a3⟩,⟨⟨l1,w1⟩,⟨l2,w2⟩,l3⟩⟩
end
end
section
open Go.ChangeShapes Go.WideShapes
theorem gRul : S.globalNamed "loop.example/g00631/impl.rules" = some 2 := by kernel_rfl
theorem tRul:(S.globals[2]?).map (·.type)=some 366:=by kernel_rfl
theorem q6d:S.cellsOf 351=7:=by kernel_rfl
theorem cCh:S.cellsOf 109=4:=by kernel_rfl
theorem cI:S.cellsOf 2=1:=by kernel_rfl
theorem cB:S.cellsOf 4=1:=by kernel_rfl
section
variable {H:Type} {enc:TypeId × Value→H} {w:World} {base:Nat} {spare:Nat→Bool} {held:Bool}
theorem z8E{fuel:Nat}{cs:List Value}{c v:Int}{d k:Bool}{q:List MemPlace}(h:DataW.trod enc S w base spare held fuel 109 cs=some (.agg [.lit (.int .i64 c),.lit (.bool d),.lit (.bool k),.lit (.int .i64 v)],q)):cs=[.int .i64 c,.bool d,.bool k,.int .i64 v]:=by
 obtain⟨y0,y1,y2,y3,n,hx,hl,h0,h1,h2,h3⟩:=Go.Joins.trod_struct4 Tryz.underlying109 h;rw[cCh]at hl;simp only[Prod.mk.injEq,DataW.agg.injEq,List.cons.injEq,and_true]at hx;obtain⟨⟨x0,x1,x2,x3⟩,_⟩:=hx
 match cs,hl with
 |[c0,c1,c2,c3],_=>
  simp only[cI,cB,List.drop_zero,List.drop_succ_cons,List.take_succ_cons,List.take_zero]at h0 h1 h2 h3;obtain⟨n0,e0,g0,_⟩:=DataW.trod_int Tryz.underlying2 h0;obtain⟨n1,e1,g1⟩:=DataW.trod_bool Tryz.underlying4 h1;obtain⟨n2,e2,g2⟩:=DataW.trod_bool Tryz.underlying4 h2;obtain⟨n3,e3,g3,_⟩:=DataW.trod_int Tryz.underlying2 h3;simp only[List.cons.injEq,and_true]at e0 e1 e2 e3;rw[g0]at x0;rw[g1]at x1;rw[g2]at x2;rw[g3]at x3;simp at x0 x1 x2 x3;rw[e0,e1,e2,e3,x0,x1,x2,x3]
theorem z2d{fuel:Nat}{cs:List Value}{z o p c v:Int}{d k:Bool}{q:List MemPlace}(h:DataW.trod enc S w base spare held fuel 351 cs=some (.agg [.lit (.int .i64 z),.lit (.int .i64 o),.lit (.int .i64 p),.agg [.lit (.int .i64 c),.lit (.bool d),.lit (.bool k),.lit (.int .i64 v)]],q)):
  cs=[F G z,F G o,F G p,F G c,.bool d,.bool k,F G v]:=by
 obtain⟨y0,y1,y2,y3,n,hx,hl,h0,h1,h2,h3⟩:=Go.Joins.trod_struct4 Tryz.underlying351 h;rw[q6d]at hl;simp only[Prod.mk.injEq,DataW.agg.injEq,List.cons.injEq,and_true]at hx;obtain⟨⟨x0,x1,x2,x3⟩,_⟩:=hx
 match cs,hl with
 |[c0,c1,c2,c3,c4,c5,c6],_=>
  simp only[cI,cCh,List.drop_zero,List.drop_succ_cons,List.take_succ_cons,List.take_zero]at h0 h1 h2 h3;obtain⟨n0,e0,g0,_⟩:=DataW.trod_int Tryz.underlying2 h0;obtain⟨n1,e1,g1,_⟩:=DataW.trod_int Tryz.underlying2 h1;obtain⟨n2,e2,g2,_⟩:=DataW.trod_int Tryz.underlying2 h2;obtain⟨y30,y31⟩:=y3;dsimp only at x3;rw[←x3]at h3;have e3:=z8E h3;simp only[List.cons.injEq,and_true]at e0 e1 e2 e3;rw[g0]at x0;rw[g1]at x1;rw[g2]at x2;simp at x0 x1 x2;obtain⟨e3,e4,e5,e6⟩:=e3;rw[e0,e1,e2,e3,e4,e5,e6,x0,x1,x2]
end
end
def z1U(x y:ActD):Bool:=(x.kind==y.kind) && ((x.key==y.key) && (x.val==y.val))
def sameAs:List ActD→List ActD→Bool
 |[],[]=>true
 |x::r,y::s=>z1U x y && sameAs r s
 |_,_=>false
def z1t(x y:TxnD):Bool:=(x.id==y.id) && (x.session==y.session) && (x.seq==y.seq) && sameAs x.acts y.acts
def sameTs:List TxnD→List TxnD→Bool
 |[],[]=>true
 |x::r,y::s=>z1t x y && sameTs r s
 |_,_=>false
theorem z2Z{α:Type}{f:α→α→Bool}{g:List α→List α→Bool}(h0:g [] []=true)(h1:∀x r y s,g (x::r) (y::s)=(f x y && g r s))(h2:∀x r,g (x::r) []=false)(h3:∀y s,g [] (y::s)=false):
  ∀a b,a.length≠b.length→g a b=false:=by
 intro a;induction a with
 |nil=>intro b h;cases b with|nil=>simp at h|cons y s=>exact h3 y s
 |cons x r ih=>intro b h;cases b with|nil=>exact h2 x r|cons y s=>rw[h1,ih s (by simpa using h)];simp
theorem z20{α:Type}{f:α→α→Bool}{g:List α→List α→Bool}(d:α)(h1:∀x r y s,g (x::r) (y::s)=(f x y && g r s)):
  ∀a b k,a.length=b.length→k<a.length→f (a.getD k d) (b.getD k d)=false→g a b=false:=by
 intro a;induction a with
 |nil=>intro b k _ h;simp at h
 |cons x r ih=>
  intro b k hl hk hf
  cases b with
  |nil=>simp at hl
  |cons y s=>
   rw[h1]
   cases k with
   |zero=>simp[u]at hf;simp[hf]
   |succ k=>rw[ih s k (by simpa using hl) (by simpa using hk) (by simpa[u]using hf)];simp
theorem z21{α:Type}{f:α→α→Bool}{g:List α→List α→Bool}(d:α)(h0:g [] []=true)(h1:∀x r y s,g (x::r) (y::s)=(f x y && g r s)):
  ∀a b,a.length=b.length→(∀k,k<a.length→f (a.getD k d) (b.getD k d)=true)→g a b=true:=by
 intro a;induction a with
 |nil=>intro b hl _;cases b with|nil=>exact h0|cons y s=>simp at hl
 |cons x r ih=>
  intro b hl hf
  cases b with
  |nil=>simp at hl
  |cons y s=>
   rw[h1,ih s (by simpa using hl) (fun k hk=>by simpa[u]using hf (k+1) (by simpa using hk))];have:=hf 0 (by simp);simp[u]at this;simp[this]
theorem z5O(x0 x1 x2 y0 y1 y2:Int)(w:World):(binOp .neq 210 (.agg #[F G x0,F G x1,F G x2]) (.agg #[F G y0,F G y1,F G y2])).run S w=.ok (.bool (!z1U ⟨x0,x1,x2⟩ ⟨y0,y1,y2⟩)) w:=by
 rw[run_neq_struct,run_equalIn_struct (P:=S) w 9999 210 _ _ (by kernel_rfl) (by kernel_rfl)];have c1:S.cellsOf 2=1:=by kernel_rfl
 cases h0:(x0==y0)<;>cases h1:(x1==y1)<;>cases h2:(x2==y2)<;>simp[Program.fieldsOf,Tryz.underlying210,Op.eqFields,go_sem,Tryz.underlying2,h0,h1,h2,z1U,c1]
theorem q1g(a a':Option Addr)(cap d:Nat)(xs ys:List ActD)(w:World)(h:ActRow w a xs)(h':ActRow w a' ys)(hl:xs.length≤1048576)(U:ys.length≤1048576):
  Calls S 136 #[Q a xs.length cap,Q a' ys.length d] w fun e w'=>e=.returned (.bool (sameAs xs ys))∧Below w.heap.size w w':=by
 by_cases c:xs.length=ys.length
 case neg=>
  have E:sameAs xs ys=false:=z2Z (f:=z1U) rfl (fun _ _ _ _=>rfl) (fun _ _=>rfl) (fun _ _=>rfl) xs ys c;rw[E];have hd:((xs.length:Int) !=(ys.length:Int))=true:=by simp;omega
  go_enter func136,ntmps136
  go_wp2
  go_ret;exact⟨rfl,Below.refl _ _⟩
 case pos=>
  have hd:((xs.length:Int) !=(ys.length:Int))=false:=by simp[c]
  have HL:Hid (xs.length=ys.length):=c;clear c;go_enter func136,ntmps136
  go_wp2
  go_loopw[13] (fun i wr=>∃k m:Nat,k≤xs.length∧i=F G k∧wr=w.drewN m∧Hid (∀j,j<k→z1U (xs.getD j z0e) (ys.getD j z0e)=true)) (fun i _=>xs.length-(intOf i).toNat)
  case atStart=>exact⟨0,0,B _,rfl,rfl,fun j hj=>absurd hj (Nat.not_lt_zero _)⟩
  case round=>
   obtain⟨k,m,hk,rfl,rfl,HA⟩:=hrel;by_cases J:k<xs.length
   ·have L:k<ys.length:=by have:=HL.out;omega
    obtain⟨b,V,rfl,T,x,y,A⟩:=h.at k J;obtain⟨b',O,rfl,N,C,D,I⟩:=h'.at k L
    cases hs:z1U (xs.getD k z0e) (ys.getD k z0e)
    case false=>
     have E:Hid (sameAs xs ys=false):=z20 (f:=z1U) z0e (fun _ _ _ _=>rfl) xs ys k HL.out J hs;have hr:=z5O (xs.getD k z0e).kind (xs.getD k z0e).key (xs.getD k z0e).val (ys.getD k z0e).kind (ys.getD k z0e).key (ys.getD k z0e).val;rw[show z1U ⟨(xs.getD k z0e).kind,(xs.getD k z0e).key,(xs.getD k z0e).val⟩ ⟨(ys.getD k z0e).kind,(ys.getD k z0e).key,(ys.getD k z0e).val⟩=false from hs,Bool.not_false]at hr;clear HA hs;generalize xs.getD k z0e=z at x y A hr;generalize ys.getD k z0e=z' at C D I hr
     go_wp2
     go_quiet (fail)
     go_wp2
     go_ret;rw[E.out];exact⟨rfl,⟨rfl,rfl,rfl,R _,fun _ _=>rfl⟩⟩
    case true=>
     have HB:Hid (∀j,j<k+1→z1U (xs.getD j z0e) (ys.getD j z0e)=true):=by
      intro j hj;by_cases M:j=k
      ·subst M;exact hs
      ·exact HA.out j (by omega)
     have hr:=z5O (xs.getD k z0e).kind (xs.getD k z0e).key (xs.getD k z0e).val (ys.getD k z0e).kind (ys.getD k z0e).key (ys.getD k z0e).val;rw[show z1U ⟨(xs.getD k z0e).kind,(xs.getD k z0e).key,(xs.getD k z0e).val⟩ ⟨(ys.getD k z0e).kind,(ys.getD k z0e).key,(ys.getD k z0e).val⟩=true from hs,Bool.not_true]at hr;clear HA hs;generalize xs.getD k z0e=z at x y A hr;generalize ys.getD k z0e=z' at C D I hr
     go_wp2
     go_quiet (fail)
     go_wp2
     go_roundw
     case rel=>exact⟨k+1,_,by omega,by go_num,rfl,HB⟩
     case measure=>simp[intOf];omega
   ·have E:Hid (sameAs xs ys=true):=z21 (f:=z1U) z0e rfl (fun _ _ _ _=>rfl) xs ys HL.out (fun j hj=>HA.out j (by omega));clear HA
    go_wp2
    go_ret;rw[E.out];exact⟨rfl,⟨rfl,rfl,rfl,R _,fun _ _=>rfl⟩⟩
theorem z4y(x y:TxnD):((x.id==y.id)=false∧z1t x y=false)∨((x.id==y.id)=true∧(x.session==y.session)=false∧z1t x y=false)∨((x.id==y.id)=true∧(x.session==y.session)=true∧(x.seq==y.seq)=false∧z1t x y=false)∨
  ((x.id==y.id)=true∧(x.session==y.session)=true∧(x.seq==y.seq)=true∧z1t x y=sameAs x.acts y.acts):=by
 unfold z1t
 cases h1:(x.id==y.id)<;>cases h2:(x.session==y.session)<;>cases h3:(x.seq==y.seq)<;>simp
theorem z7A(x y:TxnD)(a a':Option Addr)(cap cap':Nat)(w:World)(h:ActRow w a x.acts)(h':ActRow w a' y.acts)(hl:x.acts.length≤1048576)(hl':y.acts.length≤1048576):
    Calls S 85 #[.agg #[F G x.id,F G x.session,F G x.seq,Q a x.acts.length cap],.agg #[F G y.id,F G y.session,F G y.seq,Q a' y.acts.length cap']] w fun e w'=>e=.returned (.bool (z1t x y))∧Below w.heap.size w w':=by
  have hq:=fun w h h'=>q1g a a' cap cap' x.acts y.acts w h h' hl hl'
  rcases z4y x y with⟨h1,e⟩|⟨h1,h2,e⟩|⟨h1,h2,h3,e⟩|⟨h1,h2,h3,e⟩<;>rw[e]<;>clear e;all_goals
    (generalize sameAs x.acts y.acts=r at hq
     obtain⟨x0,x1,x2,xs⟩:=x;obtain⟨y0,y1,y2,ys⟩:=y;dsimp only at *)
  all_goals
    (go_enter func85,ntmps85
     go_wp2_with (go_at_call 136;refine(hq _ (h.below (by go_grown)) (h'.below (by go_grown))).mono ?_;rintro e w' ⟨rfl,hb⟩)
     go_ret)
  · exact⟨rfl,by go_grown⟩
  · exact⟨rfl,by go_grown⟩
  · exact⟨rfl,by go_grown⟩
  · exact⟨rfl,z0v (by go_grown) hb⟩
theorem z7B(v v':Value)(xs ys:List TxnD)(w:World)(h:TxnsAt w v xs)(h':TxnsAt w v' ys)(hl:xs.length+z6g xs≤1048576)(ag:ys.length+z6g ys≤1048576):
  Calls S 84 #[v,v',.func (.func 85) #[] #[]] w fun e w'=>e=.returned (.bool (sameTs xs ys))∧Below w.heap.size w w':=by
 obtain⟨a,cap,rfl⟩:=h.shape;obtain⟨a',ad,rfl⟩:=h'.shape;by_cases d:xs.length=ys.length
 case neg=>
  have E:sameTs xs ys=false:=z2Z (f:=z1t) rfl (fun _ _ _ _=>rfl) (fun _ _=>rfl) (fun _ _=>rfl) xs ys d;rw[E];have hd:((xs.length:Int) !=(ys.length:Int))=true:=by simp;omega
  go_enter func84,ntmps84
  go_wp2
  go_ret;exact⟨rfl,Below.refl _ _⟩
 case pos=>
  have hd:((xs.length:Int) !=(ys.length:Int))=false:=by simp[d]
  have HL:Hid (xs.length=ys.length):=d;clear d;go_enter func84,ntmps84
  go_wp2
  go_loopw[17] (fun i wr=>∃k:Nat,k≤xs.length∧i=F G k∧Below w.heap.size w wr∧Hid (∀j,j<k→z1t (xs.getD j z0m) (ys.getD j z0m)=true)) (fun i _=>xs.length-(intOf i).toNat)
  case atStart=>exact⟨0,B _,rfl,Below.refl _ _,fun j hj=>absurd hj (Nat.not_lt_zero _)⟩
  case round=>
   obtain⟨k,hk,rfl,hb,HA⟩:=hrel;by_cases U:k<xs.length
   ·have T:k<ys.length:=by have:=HL.out;omega
    obtain⟨b,ai,aa,cc,rfl,af,y,A,C,D,hA⟩:=(h.below hb).at k U;obtain⟨b',ae,W,X,rfl,V,I,J,L,M,c⟩:=(h'.below hb).at k T;have O:(xs.getD k z0m).acts.length≤z6g xs:=z1x (by simp[u,U]);have x:(ys.getD k z0m).acts.length≤z6g ys:=z1x (by simp[u,T]);have hq:=fun w h h'=>z7A (xs.getD k z0m) (ys.getD k z0m) aa W cc X w h h' (by omega) (by omega)
    have ah:=hb.size;have Y:∀ (o:Obj) (j:Nat),(wr.alloc o).cell? ⟨b',j,none⟩=wr.cell? ⟨b',j,none⟩:=fun o j=>(show Below wr.heap.size wr (wr.alloc o) by go_grown).cell (p:=⟨b',j,none⟩) V
    cases hs:z1t (xs.getD k z0m) (ys.getD k z0m)
    case false=>
     have E:Hid (sameTs xs ys=false):=z20 (f:=z1t) z0m (fun _ _ _ _=>rfl) xs ys k HL.out U hs;rw[hs]at hq;clear HA hs;generalize xs.getD k z0m=z at y A C D hA hq O;generalize ys.getD k z0m=z' at I J L M c hq x;obtain⟨z0,z1,z2,zs⟩:=z;obtain⟨y0,y1,y2,us⟩:=z';dsimp only at y A C D hA I J L M c hq O x
     go_wp2_with fail
     refine(hq _ (hA.below (by go_grown)) (c.below (by go_grown))).mono ?_;rintro e w2 ⟨rfl,N⟩
     go_wp2
     go_ret;rw[E.out];exact⟨rfl,z0v (z0v hb (by go_grown)) N⟩
    case true=>
     have HB:Hid (∀j,j<k+1→z1t (xs.getD j z0m) (ys.getD j z0m)=true):=by
      intro j hj;by_cases ab:j=k
      ·subst ab;exact hs
      ·exact HA.out j (by omega)
     rw[hs]at hq;clear HA hs;generalize xs.getD k z0m=z at y A C D hA hq O;generalize ys.getD k z0m=z' at I J L M c hq x;obtain⟨z0,z1,z2,zs⟩:=z;obtain⟨y0,y1,y2,us⟩:=z';dsimp only at y A C D hA I J L M c hq O x
     go_wp2_with fail
     refine(hq _ (hA.below (by go_grown)) (c.below (by go_grown))).mono ?_;rintro e w2 ⟨rfl,N⟩;have Z:=z0v (z0v hb (by go_grown)) N;clear N Y y A C D I J L M hA c hq
     go_wp2
     go_roundw
     case rel=>exact⟨k+1,by omega,by go_num,Z,HB⟩
     case measure=>simp[intOf];omega
   ·have E:Hid (sameTs xs ys=true):=z21 (f:=z1t) z0m rfl (fun _ _ _ _=>rfl) xs ys HL.out (fun j hj=>HA.out j (by omega));clear HA
    go_wp2
    go_ret;rw[E.out];exact⟨rfl,hb⟩
theorem z1M(v v':Value)(xs ys:List TxnD)(w:World)(h:TxnsAt w v xs)(h':TxnsAt w v' ys)(hl:xs.length+z6g xs≤1048576)(hl':ys.length+z6g ys≤1048576):
  Calls S 49 #[v,v'] w fun e w'=>e=.returned (.bool (sameTs xs ys))∧Below w.heap.size w w':=by
 have hq:=z7B v v' xs ys w h h' hl hl';generalize sameTs xs ys=r at hq;go_enter func49,ntmps49
 go_wp2_with fail
 refine hq.mono ?_;rintro e w2 ⟨rfl,hb⟩
 go_wp2
 go_ret;exact⟨rfl,hb⟩
theorem z9I(x y:TxnD):((x.id !=y.id)=true∧z1t x y=false)∨((x.id !=y.id)=false∧(x.session !=y.session)=true∧z1t x y=false)∨((x.id !=y.id)=false∧(x.session !=y.session)=false∧(x.seq !=y.seq)=true∧z1t x y=false)∨
  ((x.id !=y.id)=false∧(x.session !=y.session)=false∧(x.seq !=y.seq)=false∧((x.acts.length:Int) !=(y.acts.length:Int))=true∧z1t x y=false)∨
  ((x.id !=y.id)=false∧(x.session !=y.session)=false∧(x.seq !=y.seq)=false∧((x.acts.length:Int) !=(y.acts.length:Int))=false∧z1t x y=sameAs x.acts y.acts):=by
 by_cases hl:x.acts.length=y.acts.length
 ·rcases z4y x y with⟨h1,e⟩|⟨h1,h2,e⟩|⟨h1,h2,h3,e⟩|⟨h1,h2,h3,e⟩<;>simp[bne, *]
 ·have hs:sameAs x.acts y.acts=false:=z2Z (f:=z1U) rfl (fun _ _ _ _=>rfl) (fun _ _=>rfl) (fun _ _=>rfl) _ _ hl;have hl2:¬((x.acts.length:Int)=(y.acts.length:Int)):=by omega
  rcases z4y x y with⟨h1,e⟩|⟨h1,h2,e⟩|⟨h1,h2,h3,e⟩|⟨h1,h2,h3,e⟩<;>simp[bne, *]
theorem q1h(x y:TxnD)(b o b' o':Nat)(a a':Option Addr)(cap d:Nat)(w:World)(hB:Box4 w b o (F G x.id) (F G x.session) (F G x.seq) (Q a x.acts.length cap))(O:Box4 w b' o' (F G y.id) (F G y.session) (F G y.seq) (Q a' y.acts.length d))
  (h:ActRow w a x.acts) (h':ActRow w a' y.acts) (hl:x.acts.length≤1048576) (Y:y.acts.length≤1048576):
  Calls S 119 #[.pointer (some ⟨b,o,none⟩),.pointer (some ⟨b',o',none⟩)] w fun e w'=>e=.returned (.bool (z1t x y))∧Below w.heap.size w w':=by
 obtain⟨c0,c1,c2,c3⟩:=hB;obtain⟨d0,d1,d2,d3⟩:=O;rcases z9I x y with⟨h1,e⟩|⟨h1,h2,e⟩|⟨h1,h2,h3,e⟩|⟨h1,h2,h3,h4,e⟩|⟨h1,h2,h3,h4,e⟩<;>rw[e]<;>clear e<;>obtain⟨x0,x1,x2,xs⟩:=x<;>obtain⟨y0,y1,y2,ys⟩:=y<;>dsimp only at*
 ·go_enter func119,ntmps119
  go_wp2_with fail
  go_quiet (fail)
  go_wp2
  go_ret;exact⟨rfl,⟨rfl,rfl,rfl,R _,fun _ _=>rfl⟩⟩
 ·go_enter func119,ntmps119
  go_wp2_with fail
  go_quiet (fail)
  go_wp2
  go_ret;exact⟨rfl,⟨rfl,rfl,rfl,R _,fun _ _=>rfl⟩⟩
 ·go_enter func119,ntmps119
  go_wp2_with fail
  go_quiet (fail)
  go_wp2
  go_ret;exact⟨rfl,⟨rfl,rfl,rfl,R _,fun _ _=>rfl⟩⟩
 ·go_enter func119,ntmps119
  go_wp2_with fail
  go_quiet (fail)
  go_wp2
  go_ret;exact⟨rfl,⟨rfl,rfl,rfl,R _,fun _ _=>rfl⟩⟩
 ·have c:xs.length=ys.length:=by simp at h4;omega
  have HL:Hid (xs.length=ys.length):=c;clear c;go_enter func119,ntmps119
  go_wp2_with fail
  go_quiet (fail)
  go_wp2
  go_loopw[5] (fun i wr=>∃k m:Nat,k≤xs.length∧i=F G k∧wr=w.drewN m∧Hid (∀j,j<k→z1U (xs.getD j z0e) (ys.getD j z0e)=true)) (fun i _=>xs.length-(intOf i).toNat)
  case atStart=>exact⟨0,_,B _,rfl,rfl,fun j hj=>absurd hj (Nat.not_lt_zero _)⟩
  case round=>
   obtain⟨k,m,hk,rfl,rfl,HA⟩:=hrel;by_cases M:k<xs.length
   ·have N:k<ys.length:=by have:=HL.out;omega
    obtain⟨bb,Z,rfl,X,A,C,D⟩:=h.at k M;obtain⟨W,V,rfl,U,I,J,L⟩:=h'.at k N;have hr:=z5O (xs.getD k z0e).kind (xs.getD k z0e).key (xs.getD k z0e).val (ys.getD k z0e).kind (ys.getD k z0e).key (ys.getD k z0e).val
    cases hs:z1U (xs.getD k z0e) (ys.getD k z0e)
    case false=>
     have E:Hid (sameAs xs ys=false):=z20 (f:=z1U) z0e (fun _ _ _ _=>rfl) xs ys k HL.out M hs;rw[show z1U ⟨(xs.getD k z0e).kind,(xs.getD k z0e).key,(xs.getD k z0e).val⟩ ⟨(ys.getD k z0e).kind,(ys.getD k z0e).key,(ys.getD k z0e).val⟩=false from hs,Bool.not_false]at hr;clear HA hs;generalize xs.getD k z0e=z at A C D hr;generalize ys.getD k z0e=z' at I J L hr
     go_wp2
     go_quiet (fail)
     go_wp2
     go_ret;rw[E.out];exact⟨rfl,⟨rfl,rfl,rfl,R _,fun _ _=>rfl⟩⟩
    case true=>
     have HB:Hid (∀j,j<k+1→z1U (xs.getD j z0e) (ys.getD j z0e)=true):=by
      intro j hj;by_cases T:j=k
      ·subst T;exact hs
      ·exact HA.out j (by omega)
     rw[show z1U ⟨(xs.getD k z0e).kind,(xs.getD k z0e).key,(xs.getD k z0e).val⟩ ⟨(ys.getD k z0e).kind,(ys.getD k z0e).key,(ys.getD k z0e).val⟩=true from hs,Bool.not_true]at hr;clear HA hs;generalize xs.getD k z0e=z at A C D hr;generalize ys.getD k z0e=z' at I J L hr
     go_wp2
     go_quiet (fail)
     go_wp2
     go_roundw
     case rel=>exact⟨k+1,_,by omega,by go_num,rfl,HB⟩
     case measure=>simp[intOf];omega
   ·have E:Hid (sameAs xs ys=true):=z21 (f:=z1U) z0e rfl (fun _ _ _ _=>rfl) xs ys HL.out (fun j hj=>HA.out j (by omega));clear HA
    go_wp2
    go_ret;rw[E.out];exact⟨rfl,⟨rfl,rfl,rfl,R _,fun _ _=>rfl⟩⟩
end Go.Proofs.YtjjoahhnkpjolaaGreatDoor
