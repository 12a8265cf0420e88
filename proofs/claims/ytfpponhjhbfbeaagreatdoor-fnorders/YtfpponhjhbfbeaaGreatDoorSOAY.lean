/- Texts joined,with what the laws reach alone. -/
import Derived.Test.YtfpponhjhbfbeaaGreatDoorSOAX
import Derived.Test.YtfpponhjhbfbeaaGreatDoorSOAQ
set_option linter.unusedVariables false
set_option linter.unusedSimpArgs false
set_option maxRecDepth 100000
set_option maxHeartbeats 8000000
namespace Go.Proofs.YtfpponhjhbfbeaaGreatDoor
open Go.RowKit Go.BigFrame
def z1u(x y:ActD):Bool:=(x.kind==y.kind) && ((x.key==y.key) && (x.val==y.val))
def sameAs:List ActD→List ActD→Bool
 |[],[]=>true
 |x::r,y::s=>z1u x y && sameAs r s
 |_,_=>false
def z07(x y:TxnD):Bool:=(x.id==y.id) && (x.session==y.session) && (x.seq==y.seq) && sameAs x.acts y.acts
def sameTs:List TxnD→List TxnD→Bool
 |[],[]=>true
 |x::r,y::s=>z07 x y && sameTs r s
 |_,_=>false
theorem z3v{α:Type}{f:α→α→Bool}{g:List α→List α→Bool}(h0:g [] []=true)(h1:∀x r y s,g (x::r) (y::s)=(f x y && g r s))(h2:∀x r,g (x::r) []=false)(h3:∀y s,g [] (y::s)=false):
  ∀a b,a.length≠b.length→g a b=false:=by
 intro a;induction a with
 |nil=>intro b h;cases b with|nil=>simp at h|cons y s=>exact h3 y s
 |cons x r ih=>intro b h;cases b with|nil=>exact h2 x r|cons y s=>rw[h1,ih s (by simpa using h)];simp
theorem z3w{α:Type}{f:α→α→Bool}{g:List α→List α→Bool}(d:α)(h1:∀x r y s,g (x::r) (y::s)=(f x y && g r s)):
  ∀a b k,a.length=b.length→k<a.length→f (a.getD k d) (b.getD k d)=false→g a b=false:=by
 intro a;induction a with
 |nil=>intro b k _ h;simp at h
 |cons x r ih=>
  intro b k hl hk hf
  cases b with
  |nil=>simp at hl
  |cons y s=>
   rw[h1]
   cases k with
   |zero=>simp[List.getD]at hf;simp[hf]
   |succ k=>rw[ih s k (by simpa using hl) (by simpa using hk) (by simpa[List.getD]using hf)];simp
theorem z3x{α:Type}{f:α→α→Bool}{g:List α→List α→Bool}(d:α)(h0:g [] []=true)(h1:∀x r y s,g (x::r) (y::s)=(f x y && g r s)):
  ∀a b,a.length=b.length→(∀k,k<a.length→f (a.getD k d) (b.getD k d)=true)→g a b=true:=by
 intro a;induction a with
 |nil=>intro b hl _;cases b with|nil=>exact h0|cons y s=>simp at hl
 |cons x r ih=>
  intro b hl hf
  cases b with
  |nil=>simp at hl
  |cons y s=>
   rw[h1,ih s (by simpa using hl) (fun k hk=>by simpa[List.getD]using hf (k+1) (by simpa using hk))];have:=hf 0 (by simp);simp[List.getD]at this;simp[this]
theorem z3Z(x0 x1 x2 y0 y1 y2:Int)(w:World):(binOp .neq 137 (.agg #[.int .i64 x0,.int .i64 x1,.int .i64 x2]) (.agg #[.int .i64 y0,.int .i64 y1,.int .i64 y2])).run Tryz.prog w=.ok (.bool (!z1u ⟨x0,x1,x2⟩ ⟨y0,y1,y2⟩)) w:=by
 rw[run_neq_struct,run_equalIn_struct (P:=Tryz.prog) w 9999 137 _ _ (by kernel_rfl) (by kernel_rfl)];have c1:Tryz.prog.cellsOf 2=1:=by kernel_rfl
 cases h0:(x0==y0)<;>cases h1:(x1==y1)<;>cases h2:(x2==y2)<;>simp[Program.fieldsOf,Tryz.underlying137,Op.eqFields,go_sem,Tryz.underlying2,h0,h1,h2,z1u,c1]
theorem z60(a a':Option Addr)(cap cap':Nat)(xs ys:List ActD)(w:World)(h:ActRow w a xs)(h':ActRow w a' ys)(hl:xs.length≤1048576)(hl':ys.length≤1048576):
  Calls Tryz.prog 84 #[.slice a xs.length cap,.slice a' ys.length cap'] w fun e w'=>e=.returned (.bool (sameAs xs ys))∧Below w.heap.size w w':=by
 by_cases hlen:xs.length=ys.length
 case neg=>
  have E:sameAs xs ys=false:=z3v (f:=z1u) rfl (fun _ _ _ _=>rfl) (fun _ _=>rfl) (fun _ _=>rfl) xs ys hlen;rw[E];have hd:((xs.length:Int) !=(ys.length:Int))=true:=by simp;omega
  go_enter Tryz.func84,Tryz.ntmps84
  go_wp2
  go_ret;exact⟨rfl,Below.refl _ _⟩
 case pos=>
  have hd:((xs.length:Int) !=(ys.length:Int))=false:=by simp[hlen]
  have HL:Hid (xs.length=ys.length):=hlen;clear hlen;go_enter Tryz.func84,Tryz.ntmps84
  go_wp2
  go_loopw[13] (fun i wr=>∃k m:Nat,k≤xs.length∧i=.int .i64 k∧wr=w.drewN m∧Hid (∀j,j<k→z1u (xs.getD j z0e) (ys.getD j z0e)=true)) (fun i _=>xs.length-(intOf i).toNat)
  case atStart=>exact⟨0,0,Nat.zero_le _,rfl,rfl,fun j hj=>absurd hj (Nat.not_lt_zero _)⟩
  case round=>
   obtain⟨k,m,hk,rfl,rfl,HA⟩:=hrel;by_cases hlt:k<xs.length
   ·have hlt':k<ys.length:=by have:=HL.out;omega
    obtain⟨b,off,rfl,hbs,hc0,hc1,hc2⟩:=h.at k hlt;obtain⟨b',off',rfl,hbs',hd0,hd1,hd2⟩:=h'.at k hlt'
    cases hs:z1u (xs.getD k z0e) (ys.getD k z0e)
    case false=>
     have E:Hid (sameAs xs ys=false):=z3w (f:=z1u) z0e (fun _ _ _ _=>rfl) xs ys k HL.out hlt hs;have hr:=z3Z (xs.getD k z0e).kind (xs.getD k z0e).key (xs.getD k z0e).val (ys.getD k z0e).kind (ys.getD k z0e).key (ys.getD k z0e).val;rw[show z1u ⟨(xs.getD k z0e).kind,(xs.getD k z0e).key,(xs.getD k z0e).val⟩ ⟨(ys.getD k z0e).kind,(ys.getD k z0e).key,(ys.getD k z0e).val⟩=false from hs,Bool.not_false]at hr;clear HA hs;generalize xs.getD k z0e=z at hc0 hc1 hc2 hr;generalize ys.getD k z0e=z' at hd0 hd1 hd2 hr
     go_wp2
     go_quiet (fail)
     go_wp2
     go_ret;rw[E.out];exact⟨rfl,⟨rfl,rfl,rfl,Nat.le_refl _,fun _ _=>rfl⟩⟩
    case true=>
     have HB:Hid (∀j,j<k+1→z1u (xs.getD j z0e) (ys.getD j z0e)=true):=by
      intro j hj;by_cases hjk:j=k
      ·subst hjk;exact hs
      ·exact HA.out j (by omega)
     have hr:=z3Z (xs.getD k z0e).kind (xs.getD k z0e).key (xs.getD k z0e).val (ys.getD k z0e).kind (ys.getD k z0e).key (ys.getD k z0e).val;rw[show z1u ⟨(xs.getD k z0e).kind,(xs.getD k z0e).key,(xs.getD k z0e).val⟩ ⟨(ys.getD k z0e).kind,(ys.getD k z0e).key,(ys.getD k z0e).val⟩=true from hs,Bool.not_true]at hr;clear HA hs;generalize xs.getD k z0e=z at hc0 hc1 hc2 hr;generalize ys.getD k z0e=z' at hd0 hd1 hd2 hr
     go_wp2
     go_quiet (fail)
     go_wp2
     go_roundw
     case rel=>exact⟨k+1,_,by omega,by go_num,rfl,HB⟩
     case measure=>simp[intOf];omega
   ·have E:Hid (sameAs xs ys=true):=z3x (f:=z1u) z0e rfl (fun _ _ _ _=>rfl) xs ys HL.out (fun j hj=>HA.out j (by omega));clear HA
    go_wp2
    go_ret;rw[E.out];exact⟨rfl,⟨rfl,rfl,rfl,Nat.le_refl _,fun _ _=>rfl⟩⟩
theorem z2S(x y:TxnD):((x.id==y.id)=false∧z07 x y=false)∨((x.id==y.id)=true∧(x.session==y.session)=false∧z07 x y=false)∨((x.id==y.id)=true∧(x.session==y.session)=true∧(x.seq==y.seq)=false∧z07 x y=false)∨
  ((x.id==y.id)=true∧(x.session==y.session)=true∧(x.seq==y.seq)=true∧z07 x y=sameAs x.acts y.acts):=by
 unfold z07
 cases h1:(x.id==y.id)<;>cases h2:(x.session==y.session)<;>cases h3:(x.seq==y.seq)<;>simp
theorem z4S(x y:TxnD)(a a':Option Addr)(cap cap':Nat)(w:World)(h:ActRow w a x.acts)(h':ActRow w a' y.acts)(hl:x.acts.length≤1048576)(hl':y.acts.length≤1048576):
    Calls Tryz.prog 52 #[.agg #[.int .i64 x.id,.int .i64 x.session,.int .i64 x.seq,.slice a x.acts.length cap],.agg #[.int .i64 y.id,.int .i64 y.session,.int .i64 y.seq,.slice a' y.acts.length cap']] w fun e w'=>e=.returned (.bool (z07 x y))∧Below w.heap.size w w':=by
  have hq:=fun w h h'=>z60 a a' cap cap' x.acts y.acts w h h' hl hl'
  rcases z2S x y with⟨h1,e⟩|⟨h1,h2,e⟩|⟨h1,h2,h3,e⟩|⟨h1,h2,h3,e⟩<;>rw[e]<;>clear e;all_goals
    (generalize sameAs x.acts y.acts=r at hq
     obtain⟨x0,x1,x2,xs⟩:=x;obtain⟨y0,y1,y2,ys⟩:=y;dsimp only at *)
  all_goals
    (go_enter Tryz.func52,Tryz.ntmps52
     go_wp2_with (go_at_call 84;refine(hq _ (h.below (by go_grown)) (h'.below (by go_grown))).mono ?_;rintro e w' ⟨rfl,hb⟩)
     go_ret)
  · exact⟨rfl,by go_grown⟩
  · exact⟨rfl,by go_grown⟩
  · exact⟨rfl,by go_grown⟩
  · exact⟨rfl,z0B (by go_grown) hb⟩
theorem z4T(v v':Value)(xs ys:List TxnD)(w:World)(h:TxnsAt w v xs)(h':TxnsAt w v' ys)(hl:xs.length+z4a xs≤1048576)(hl':ys.length+z4a ys≤1048576):
  Calls Tryz.prog 51 #[v,v',.func (.func 52) #[] #[]] w fun e w'=>e=.returned (.bool (sameTs xs ys))∧Below w.heap.size w w':=by
 obtain⟨a,cap,rfl⟩:=h.shape;obtain⟨a',cap',rfl⟩:=h'.shape;by_cases hlen:xs.length=ys.length
 case neg=>
  have E:sameTs xs ys=false:=z3v (f:=z07) rfl (fun _ _ _ _=>rfl) (fun _ _=>rfl) (fun _ _=>rfl) xs ys hlen;rw[E];have hd:((xs.length:Int) !=(ys.length:Int))=true:=by simp;omega
  go_enter Tryz.func51,Tryz.ntmps51
  go_wp2
  go_ret;exact⟨rfl,Below.refl _ _⟩
 case pos=>
  have hd:((xs.length:Int) !=(ys.length:Int))=false:=by simp[hlen]
  have HL:Hid (xs.length=ys.length):=hlen;clear hlen;go_enter Tryz.func51,Tryz.ntmps51
  go_wp2
  go_loopw[17] (fun i wr=>∃k:Nat,k≤xs.length∧i=.int .i64 k∧Below w.heap.size w wr∧Hid (∀j,j<k→z07 (xs.getD j z0o) (ys.getD j z0o)=true)) (fun i _=>xs.length-(intOf i).toNat)
  case atStart=>exact⟨0,Nat.zero_le _,rfl,Below.refl _ _,fun j hj=>absurd hj (Nat.not_lt_zero _)⟩
  case round=>
   obtain⟨k,hk,rfl,hb,HA⟩:=hrel;by_cases hlt:k<xs.length
   ·have hlt':k<ys.length:=by have:=HL.out;omega
    obtain⟨b,off,aa,cc,rfl,hbs,hc0,hc1,hc2,hc3,hA⟩:=(h.below hb).at k hlt;obtain⟨b',off',aa',cc',rfl,hbs',hd0,hd1,hd2,hd3,hA'⟩:=(h'.below hb).at k hlt';have hzl:(xs.getD k z0o).acts.length≤z4a xs:=z03 (by simp[List.getD,hlt]);have hzl':(ys.getD k z0o).acts.length≤z4a ys:=z03 (by simp[List.getD,hlt']);have hq:=fun w h h'=>z4S (xs.getD k z0o) (ys.getD k z0o) aa aa' cc cc' w h h' (by omega) (by omega)
    have hs5:=hb.size;have hal:∀ (o:Obj) (j:Nat),(wr.alloc o).cell? ⟨b',j,none⟩=wr.cell? ⟨b',j,none⟩:=fun o j=>(show Below wr.heap.size wr (wr.alloc o) by go_grown).cell (p:=⟨b',j,none⟩) hbs'
    cases hs:z07 (xs.getD k z0o) (ys.getD k z0o)
    case false=>
     have E:Hid (sameTs xs ys=false):=z3w (f:=z07) z0o (fun _ _ _ _=>rfl) xs ys k HL.out hlt hs;rw[hs]at hq;clear HA hs;generalize xs.getD k z0o=z at hc0 hc1 hc2 hc3 hA hq hzl;generalize ys.getD k z0o=z' at hd0 hd1 hd2 hd3 hA' hq hzl';obtain⟨z0,z1,z2,zs⟩:=z;obtain⟨y0,y1,y2,us⟩:=z';dsimp only at hc0 hc1 hc2 hc3 hA hd0 hd1 hd2 hd3 hA' hq hzl hzl'
     go_wp2_with fail
     refine(hq _ (hA.below (by go_grown)) (hA'.below (by go_grown))).mono ?_;rintro e w2 ⟨rfl,hb2⟩
     go_wp2
     go_ret;rw[E.out];exact⟨rfl,z0B (z0B hb (by go_grown)) hb2⟩
    case true=>
     have HB:Hid (∀j,j<k+1→z07 (xs.getD j z0o) (ys.getD j z0o)=true):=by
      intro j hj;by_cases hjk:j=k
      ·subst hjk;exact hs
      ·exact HA.out j (by omega)
     rw[hs]at hq;clear HA hs;generalize xs.getD k z0o=z at hc0 hc1 hc2 hc3 hA hq hzl;generalize ys.getD k z0o=z' at hd0 hd1 hd2 hd3 hA' hq hzl';obtain⟨z0,z1,z2,zs⟩:=z;obtain⟨y0,y1,y2,us⟩:=z';dsimp only at hc0 hc1 hc2 hc3 hA hd0 hd1 hd2 hd3 hA' hq hzl hzl'
     go_wp2_with fail
     refine(hq _ (hA.below (by go_grown)) (hA'.below (by go_grown))).mono ?_;rintro e w2 ⟨rfl,hb2⟩;have hb3:=z0B (z0B hb (by go_grown)) hb2;clear hb2 hal hc0 hc1 hc2 hc3 hd0 hd1 hd2 hd3 hA hA' hq
     go_wp2
     go_roundw
     case rel=>exact⟨k+1,by omega,by go_num,hb3,HB⟩
     case measure=>simp[intOf];omega
   ·have E:Hid (sameTs xs ys=true):=z3x (f:=z07) z0o rfl (fun _ _ _ _=>rfl) xs ys HL.out (fun j hj=>HA.out j (by omega));clear HA
    go_wp2
    go_ret;rw[E.out];exact⟨rfl,hb⟩
theorem z1P(v v':Value)(xs ys:List TxnD)(w:World)(h:TxnsAt w v xs)(h':TxnsAt w v' ys)(hl:xs.length+z4a xs≤1048576)(hl':ys.length+z4a ys≤1048576):
  Calls Tryz.prog 21 #[v,v'] w fun e w'=>e=.returned (.bool (sameTs xs ys))∧Below w.heap.size w w':=by
 have hq:=z4T v v' xs ys w h h' hl hl';generalize sameTs xs ys=r at hq;go_enter Tryz.func21,Tryz.ntmps21
 go_wp2_with fail
 refine hq.mono ?_;rintro e w2 ⟨rfl,hb⟩
 go_wp2
 go_ret;exact⟨rfl,hb⟩
theorem z58(x y:TxnD):((x.id !=y.id)=true∧z07 x y=false)∨((x.id !=y.id)=false∧(x.session !=y.session)=true∧z07 x y=false)∨((x.id !=y.id)=false∧(x.session !=y.session)=false∧(x.seq !=y.seq)=true∧z07 x y=false)∨
  ((x.id !=y.id)=false∧(x.session !=y.session)=false∧(x.seq !=y.seq)=false∧((x.acts.length:Int) !=(y.acts.length:Int))=true∧z07 x y=false)∨
  ((x.id !=y.id)=false∧(x.session !=y.session)=false∧(x.seq !=y.seq)=false∧((x.acts.length:Int) !=(y.acts.length:Int))=false∧z07 x y=sameAs x.acts y.acts):=by
 by_cases hl:x.acts.length=y.acts.length
 ·rcases z2S x y with⟨h1,e⟩|⟨h1,h2,e⟩|⟨h1,h2,h3,e⟩|⟨h1,h2,h3,e⟩<;>simp[bne, *]
 ·have hs:sameAs x.acts y.acts=false:=z3v (f:=z1u) rfl (fun _ _ _ _=>rfl) (fun _ _=>rfl) (fun _ _=>rfl) _ _ hl;have hl2:¬((x.acts.length:Int)=(y.acts.length:Int)):=by omega
  rcases z2S x y with⟨h1,e⟩|⟨h1,h2,e⟩|⟨h1,h2,h3,e⟩|⟨h1,h2,h3,e⟩<;>simp[bne, *]
theorem z61(x y:TxnD)(b o b' o':Nat)(a a':Option Addr)(cap cap':Nat)(w:World)(hB:Box4 w b o (.int .i64 x.id) (.int .i64 x.session) (.int .i64 x.seq) (.slice a x.acts.length cap))(hB':Box4 w b' o' (.int .i64 y.id) (.int .i64 y.session) (.int .i64 y.seq) (.slice a' y.acts.length cap'))
  (h:ActRow w a x.acts) (h':ActRow w a' y.acts) (hl:x.acts.length≤1048576) (hl':y.acts.length≤1048576):
  Calls Tryz.prog 118 #[.pointer (some ⟨b,o,none⟩),.pointer (some ⟨b',o',none⟩)] w fun e w'=>e=.returned (.bool (z07 x y))∧Below w.heap.size w w':=by
 obtain⟨c0,c1,c2,c3⟩:=hB;obtain⟨d0,d1,d2,d3⟩:=hB';rcases z58 x y with⟨h1,e⟩|⟨h1,h2,e⟩|⟨h1,h2,h3,e⟩|⟨h1,h2,h3,h4,e⟩|⟨h1,h2,h3,h4,e⟩<;>rw[e]<;>clear e<;>obtain⟨x0,x1,x2,xs⟩:=x<;>obtain⟨y0,y1,y2,ys⟩:=y<;>dsimp only at*
 ·go_enter Tryz.func118,Tryz.ntmps118
  go_wp2_with fail
  go_quiet (fail)
  go_wp2
  go_ret;exact⟨rfl,⟨rfl,rfl,rfl,Nat.le_refl _,fun _ _=>rfl⟩⟩
 ·go_enter Tryz.func118,Tryz.ntmps118
  go_wp2_with fail
  go_quiet (fail)
  go_wp2
  go_ret;exact⟨rfl,⟨rfl,rfl,rfl,Nat.le_refl _,fun _ _=>rfl⟩⟩
 ·go_enter Tryz.func118,Tryz.ntmps118
  go_wp2_with fail
  go_quiet (fail)
  go_wp2
  go_ret;exact⟨rfl,⟨rfl,rfl,rfl,Nat.le_refl _,fun _ _=>rfl⟩⟩
 ·go_enter Tryz.func118,Tryz.ntmps118
  go_wp2_with fail
  go_quiet (fail)
  go_wp2
  go_ret;exact⟨rfl,⟨rfl,rfl,rfl,Nat.le_refl _,fun _ _=>rfl⟩⟩
 ·have hlen:xs.length=ys.length:=by simp at h4;omega
  have HL:Hid (xs.length=ys.length):=hlen;clear hlen;go_enter Tryz.func118,Tryz.ntmps118
  go_wp2_with fail
  go_quiet (fail)
  go_wp2
  go_loopw[5] (fun i wr=>∃k m:Nat,k≤xs.length∧i=.int .i64 k∧wr=w.drewN m∧Hid (∀j,j<k→z1u (xs.getD j z0e) (ys.getD j z0e)=true)) (fun i _=>xs.length-(intOf i).toNat)
  case atStart=>exact⟨0,_,Nat.zero_le _,rfl,rfl,fun j hj=>absurd hj (Nat.not_lt_zero _)⟩
  case round=>
   obtain⟨k,m,hk,rfl,rfl,HA⟩:=hrel;by_cases hlt:k<xs.length
   ·have hlt':k<ys.length:=by have:=HL.out;omega
    obtain⟨bb,off,rfl,hbs,hc0,hc1,hc2⟩:=h.at k hlt;obtain⟨bb',off',rfl,hbs',hd0,hd1,hd2⟩:=h'.at k hlt';have hr:=z3Z (xs.getD k z0e).kind (xs.getD k z0e).key (xs.getD k z0e).val (ys.getD k z0e).kind (ys.getD k z0e).key (ys.getD k z0e).val
    cases hs:z1u (xs.getD k z0e) (ys.getD k z0e)
    case false=>
     have E:Hid (sameAs xs ys=false):=z3w (f:=z1u) z0e (fun _ _ _ _=>rfl) xs ys k HL.out hlt hs;rw[show z1u ⟨(xs.getD k z0e).kind,(xs.getD k z0e).key,(xs.getD k z0e).val⟩ ⟨(ys.getD k z0e).kind,(ys.getD k z0e).key,(ys.getD k z0e).val⟩=false from hs,Bool.not_false]at hr;clear HA hs;generalize xs.getD k z0e=z at hc0 hc1 hc2 hr;generalize ys.getD k z0e=z' at hd0 hd1 hd2 hr
     go_wp2
     go_quiet (fail)
     go_wp2
     go_ret;rw[E.out];exact⟨rfl,⟨rfl,rfl,rfl,Nat.le_refl _,fun _ _=>rfl⟩⟩
    case true=>
     have HB:Hid (∀j,j<k+1→z1u (xs.getD j z0e) (ys.getD j z0e)=true):=by
      intro j hj;by_cases hjk:j=k
      ·subst hjk;exact hs
      ·exact HA.out j (by omega)
     rw[show z1u ⟨(xs.getD k z0e).kind,(xs.getD k z0e).key,(xs.getD k z0e).val⟩ ⟨(ys.getD k z0e).kind,(ys.getD k z0e).key,(ys.getD k z0e).val⟩=true from hs,Bool.not_true]at hr;clear HA hs;generalize xs.getD k z0e=z at hc0 hc1 hc2 hr;generalize ys.getD k z0e=z' at hd0 hd1 hd2 hr
     go_wp2
     go_quiet (fail)
     go_wp2
     go_roundw
     case rel=>exact⟨k+1,_,by omega,by go_num,rfl,HB⟩
     case measure=>simp[intOf];omega
   ·have E:Hid (sameAs xs ys=true):=z3x (f:=z1u) z0e rfl (fun _ _ _ _=>rfl) xs ys HL.out (fun j hj=>HA.out j (by omega));clear HA
    go_wp2
    go_ret;rw[E.out];exact⟨rfl,⟨rfl,rfl,rfl,Nat.le_refl _,fun _ _=>rfl⟩⟩
def q0T:Value→Option Addr
 | .slice a _ _=>a
 |_=>none
def q02:Value→Nat
 | .slice _ _ k=>k
 |_=>0
def TxnQ.p'(q:TxnQ):TxnP:=⟨q.e,q0T q.va,q02 q.va⟩
theorem TxnQ.p_cells'{w:World}{q:TxnQ}(h:actK.At w q.va q.acts):q.p'.cells=txnK.cells q:=by
 obtain⟨a,c,e⟩:=h.shape;show [_,_,_,_]=[_,_,_,_]
 simp only[TxnP.sl,TxnQ.p',TxnQ.e,e,q0T,q02]
theorem z1f{w:World}{v:Value}{ps:List TxnQ}(h:txnK.At w v ps):TxnsAt w v (ps.map TxnQ.e):=by
 obtain⟨a,cap,e,hL,hr⟩:=h;refine⟨a,cap,ps.map TxnQ.p',by rw[List.length_map];exact e,by simp only[List.map_map];rfl,?_,?_⟩
 ·have e2:z0w (ps.map TxnQ.p')=txnK.row ps:=by
   clear hL e;induction ps with
   |nil=>rfl
   |cons q r ih=>
    have h1:q.p'.cells=txnK.cells q:=TxnQ.p_cells' (hr q (by simp));have h2:=ih (fun p hp=>hr p (List.mem_cons_of_mem _ hp));show q.p'.cells++z0w (r.map TxnQ.p')=txnK.cells q++txnK.row r;rw[h1,h2]
  rw[e2];exact hL
 ·intro p hp;obtain⟨q,hq,rfl⟩:=List.mem_map.1 hp;have h1:actK.At w q.va q.acts:=hr q hq;obtain⟨a',c',e',hl',_⟩:=h1;show ActRow w (q0T q.va) q.acts;rw[e'];exact hl'
theorem z15(ps:List TxnQ):z4a (ps.map TxnQ.e)=nmL TxnQ.n ps:=by
 simp only[z4a,nmL,List.map_map];rfl
theorem z3k(v v':Value)(xs ys:List TxnD)(w:World)(h:TxnsAt w v xs)(h':TxnsAt w v' ys)(hl:xs.length+z4a xs≤1048576)(hl':ys.length+z4a ys≤1048576):
  Calls Tryz.prog 81 #[v,v'] w fun e w'=>e=.returned (.bool (sameTs xs ys))∧Below w.heap.size w w':=by
 obtain⟨a,cap,rfl⟩:=h.shape;obtain⟨a',cap',rfl⟩:=h'.shape;by_cases hlen:xs.length=ys.length
 case neg=>
  have E:sameTs xs ys=false:=z3v (f:=z07) rfl (fun _ _ _ _=>rfl) (fun _ _=>rfl) (fun _ _=>rfl) xs ys hlen;rw[E];have hd:((xs.length:Int) !=(ys.length:Int))=true:=by simp;omega
  go_enter Tryz.func81,Tryz.ntmps81
  go_wp2
  go_ret;exact⟨rfl,Below.refl _ _⟩
 case pos=>
  have hd:((xs.length:Int) !=(ys.length:Int))=false:=by simp[hlen]
  have HL:Hid (xs.length=ys.length):=hlen;clear hlen;go_enter Tryz.func81,Tryz.ntmps81
  go_wp2
  go_loopw[5] (fun i wr=>∃k:Nat,k≤xs.length∧i=.int .i64 k∧Below w.heap.size w wr∧Hid (∀j,j<k→z07 (xs.getD j z0o) (ys.getD j z0o)=true)) (fun i _=>xs.length-(intOf i).toNat)
  case atStart=>exact⟨0,Nat.zero_le _,rfl,Below.refl _ _,fun j hj=>absurd hj (Nat.not_lt_zero _)⟩
  case round=>
   obtain⟨k,hk,rfl,hb,HA⟩:=hrel;by_cases hlt:k<xs.length
   ·have hlt':k<ys.length:=by have:=HL.out;omega
    obtain⟨b,off,aa,cc,rfl,hbs,hc0,hc1,hc2,hc3,hA⟩:=(h.below hb).at k hlt;obtain⟨b',off',aa',cc',rfl,hbs',hd0,hd1,hd2,hd3,hA'⟩:=(h'.below hb).at k hlt';have hzl:(xs.getD k z0o).acts.length≤z4a xs:=z03 (by simp[List.getD,hlt]);have hzl':(ys.getD k z0o).acts.length≤z4a ys:=z03 (by simp[List.getD,hlt']);have hBx:Box4 wr b (off+k*4) _ _ _ _:=⟨hc0,hc1,hc2,hc3⟩
    have hBy:Box4 wr b' (off'+k*4) _ _ _ _:=⟨hd0,hd1,hd2,hd3⟩
    have hq:=fun(w':World) (hW:Below wr.heap.size wr w')=>z61 (xs.getD k z0o) (ys.getD k z0o) b (off+k*4) b' (off'+k*4) aa aa' cc cc' w' (hBx.below hW) (hBy.below hW) (hA.below hW) (hA'.below hW) (by omega) (by omega)
    clear hBx hBy hA hA' hc0 hc1 hc2 hc3 hd0 hd1 hd2 hd3
    cases hs:z07 (xs.getD k z0o) (ys.getD k z0o)
    case false=>
     have E:Hid (sameTs xs ys=false):=z3w (f:=z07) z0o (fun _ _ _ _=>rfl) xs ys k HL.out hlt hs;rw[hs]at hq;clear HA hs hzl hzl';have hW:Below wr.heap.size wr wr.drew:=(Below.refl _ _).drew;have hne:Nonempty (Lat wr):=⟨⟨wr,Below.refl _ _⟩⟩
     go_wp2_with fail
     refine z0i (S:=fun w'=>∃u:Lat wr,w'=u.val) (by kernel_rfl) ?_;refine sgr [(0,6)] 2 (by kernel_rfl) ⟨⟨_,hW⟩,rfl⟩ ?_;simp only[pkE];repeat go_big_quiet_step (fail)
     refine wpQuiet_nil ?_;refine cla 6 (some 23) 118 #[.pointer (some ⟨b,off+k*4,none⟩),.pointer (some ⟨b',off'+k*4,none⟩)] 1 (by kernel_rfl) ?_;refine(hq _ hW).mono ?_;rintro e w2 ⟨rfl,hb2⟩;replace hW:=hW.trans (hb2.mono hW.size);clear hb2 hq;refine⟨_,rfl,⟨⟨_,hW⟩,rfl⟩,?_⟩;simp only[Act.put,pjE];refine sgr [(7,1)] 0 (by kernel_rfl) ⟨⟨_,hW⟩,rfl⟩ ?_;simp only[pkE];repeat go_big_quiet_step (fail)
     refine wpQuiet_nil ?_;refine z0n (by kernel_rfl) ?_;replace hb:=hb.trans (hW.mono hb.size);clear hW hne
     go_wp2
     go_ret;rw[E.out];exact⟨rfl,hb⟩
    case true=>
     have HB:Hid (∀j,j<k+1→z07 (xs.getD j z0o) (ys.getD j z0o)=true):=by
      intro j hj;by_cases hjk:j=k
      ·subst hjk;exact hs
      ·exact HA.out j (by omega)
     rw[hs]at hq;clear HA hs hzl hzl';have hW:Below wr.heap.size wr wr.drew:=(Below.refl _ _).drew;have hne:Nonempty (Lat wr):=⟨⟨wr,Below.refl _ _⟩⟩
     go_wp2_with fail
     refine z0i (S:=fun w'=>∃u:Lat wr,w'=u.val) (by kernel_rfl) ?_;refine sgr [(0,6)] 2 (by kernel_rfl) ⟨⟨_,hW⟩,rfl⟩ ?_;simp only[pkE];repeat go_big_quiet_step (fail)
     refine wpQuiet_nil ?_;refine cla 6 (some 23) 118 #[.pointer (some ⟨b,off+k*4,none⟩),.pointer (some ⟨b',off'+k*4,none⟩)] 1 (by kernel_rfl) ?_;refine(hq _ hW).mono ?_;rintro e w2 ⟨rfl,hb2⟩;replace hW:=hW.trans (hb2.mono hW.size);clear hb2 hq;refine⟨_,rfl,⟨⟨_,hW⟩,rfl⟩,?_⟩;simp only[Act.put,pjE];refine sgr [(7,1)] 0 (by kernel_rfl) ⟨⟨_,hW⟩,rfl⟩ ?_;simp only[pkE];repeat go_big_quiet_step (fail)
     refine wpQuiet_nil ?_;refine z0n (by kernel_rfl) ?_;replace hb:=hb.trans (hW.mono hb.size);clear hW hne
     go_wp2
     go_roundw
     case rel=>exact⟨k+1,by omega,by go_num,hb,HB⟩
     case measure=>simp[intOf];omega
   ·have E:Hid (sameTs xs ys=true):=z3x (f:=z07) z0o rfl (fun _ _ _ _=>rfl) xs ys HL.out (fun j hj=>HA.out j (by omega));clear HA
    go_wp2
    go_ret;rw[E.out];exact⟨rfl,hb⟩
def diV(ds:List InstE):Int:=if ordF ds=0 then(decN ds:Int)else 0
theorem z4U(ps:List InstQ)(hlt:ps.length-1<ps.length):z9F (ps.map InstQ.e)=InstQ.e ps[ps.length-1]:=by
 unfold z9F;rw[List.length_map];exact z3Y ps _ hlt
theorem z0S(v:Value)(ps:List InstQ)(w:World)(hG:Rul w)(h:instK.At w v ps)(hl:(ps.length+nmL InstQ.n ps)≤1048576):
  Calls Tryz.prog 12 #[v] w fun e w'=>e=.returned (.agg #[.int .i64 (ordF (ps.map InstQ.e)),.int .i64 (diV (ps.map InstQ.e))])∧Below w.heap.size w w':=by
 have hof:=fun w hG h=>z02 v ps w hG h hl
 have HO:Hid (ordF (ps.map InstQ.e)=0→1≤ps.length∧ps.length≤4∧∀q∈ps,insF (InstQ.e q)=0):=fun h0=>by
  have:=((z06 _).1 h0).1;rw[List.length_map]at this;exact⟨this.1,this.2,fun q hq=>z1L h0 _ (List.mem_map.2 ⟨q,hq,rfl⟩)⟩
 have HV:Hid ((ordF (ps.map InstQ.e)=0→diV (ps.map InstQ.e)=(decN (ps.map InstQ.e):Int))∧(ordF (ps.map InstQ.e)≠0→diV (ps.map InstQ.e)=0)):=⟨fun h0=>if_pos h0,fun h0=>if_neg h0⟩
 obtain⟨a,cap,rfl⟩:=h.shape;generalize ordF (ps.map InstQ.e)=C at*;generalize diV (ps.map InstQ.e)=V at*;have hB:Below w.heap.size w (w.alloc (.cells #[.int .i64 0,.int .i64 0] 38)):=by go_grown
 have Rb:=Blk.new w 38 #[.int .i64 0,.int .i64 0];go_enter Tryz.func12,Tryz.ntmps12
 go_wp2_with fail
 generalize w.alloc (.cells #[.int .i64 0,.int .i64 0] 38)=W at*;refine(hof W (hG.below hB) (h.below hB)).mono ?_;rintro e w1 ⟨rfl,hb⟩;replace hB:=hB.trans (hb.mono hB.size);replace Rb:=Rb.below hb;clear hb hof;by_cases hC:C=0
 ·obtain⟨h1,h4,hin⟩:=HO.out hC;have hv:=HV.out.1 hC;subst hC;have hlt:ps.length-1<ps.length:=by omega
  have hin2:=hin _ (List.getElem_mem hlt);have hoc:=q0o (InstQ.e ps[ps.length-1]);have HV3:Hid (outV (InstQ.e ps[ps.length-1]).dec=3→V=(ps.length:Int)-1):=fun h3=>by
   rw[hv];unfold decN;rw[z4U ps hlt,if_pos h3,List.length_map];omega
  have HVn:Hid (outV (InstQ.e ps[ps.length-1]).dec≠3→V=(ps.length:Int)):=fun h3=>by
   rw[hv];unfold decN;rw[z4U ps hlt,if_neg h3,List.length_map]
  rw[hin2]at hoc;have hn:InstQ.n ps[ps.length-1]≤1048576:=by have:=z4w ps _ hlt;omega
  have hho0:=z2c ps[ps.length-1];have hho:=fun w hG h=>hho0 w hG h hn
  clear hho0 hin hin2 hv HV HO hn;obtain⟨b,off,rfl,hbs,hc,hrd⟩:=(h.below hB).cell (by decide) (ps.length-1) hlt;have hc':∀j x,(instK.cells ps[ps.length-1])[j]?=some x→w1.cell? ⟨b,off+(ps.length-1)*4+j,none⟩=some x:=hc;have c0:=hc' 0 (.bool ps[ps.length-1].has) rfl;have c1:=hc' 1 ps[ps.length-1].vb rfl;have c2:=hc' 2 ps[ps.length-1].vr rfl;have c3:=hc' 3 ps[ps.length-1].vd rfl;rw[Nat.add_zero]at c0;clear hc hc';have hidx:((ps.length:Int)-1).toNat=ps.length-1:=by omega
  generalize ocC (InstQ.e ps[ps.length-1])=OC at*;generalize outV (InstQ.e ps[ps.length-1]).dec=OV at*;generalize ps[ps.length-1]=p at*;generalize hm:ps.length-1=m at*;have hpl:(ps.length:Int)-1=(m:Int):=by omega
  have hpl2:ps.length=m+1:=by omega
  rw[hpl]at HV3;rw[hpl2]at h4 HVn⊢;rw[hpl2]at*;clear hm hidx hpl hpl2;obtain⟨has,vb,batch,vr,rounds,vd,dec⟩:=p;obtain⟨ba,bk,rfl⟩:∃a c,vb=.slice a batch.length c:=hrd.1.shape;obtain⟨va,vk,rfl⟩:∃a c,vr=.slice a rounds.length c:=hrd.2.1.shape;obtain⟨da,dk,rfl⟩:∃a c,vd=.slice a dec.length c:=hrd.2.2.shape;dsimp only at c0 c1 c2 c3 hho;have q0:=Rb.cell 0 _ rfl;have q1:=Rb.cell 1 _ rfl;have f0:=Rb.frozen 0;have f1:=Rb.frozen 1;clear q0 q1 f0 f1
  go_wp2_with fail
  refine(hho w1 (hG.below hB) hrd).mono ?_;rintro e w3 ⟨rfl,hb3⟩;replace hB:=hB.trans (hb3.mono hB.size);replace Rb:=Rb.below hb3;have q0:=Rb.cell 0 _ rfl;have q1:=Rb.cell 1 _ rfl;have f0:=Rb.frozen 0;have f1:=Rb.frozen 1;clear hb3 hho c0 c1 c2 c3;by_cases hO:OV=3
  ·have e1:(OC==0)=false:=by rw[hoc,hO];rfl
   have E1:Hid (V=(m:Int)):=HV3.out hO;clear hoc HV3 HVn
   go_wp2
   exact bodyPost_ret (v:=.agg #[.int .i64 0,.int .i64 m]) (by simp[results,Tryz.results12,go_sem,q0,q1]) rfl ⟨by rw[E1.out],(hB.setCell (p:=⟨w.heap.size,0,none⟩) (Nat.le_refl _) _).setCell (p:=⟨w.heap.size,1,none⟩) (Nat.le_refl _) _⟩
  ·have e1:(OC==0)=true:=by
    rw[hoc];have:(OV !=3)=true:=by simpa using hO
    rw[this];rfl
   have E1:Hid (V=(m:Int)+1):=by have:=HVn.out hO;exact this.trans (by omega)
   clear hoc HV3 HVn
   go_wp2
   exact bodyPost_ret (v:=.agg #[.int .i64 0,.int .i64 ((m:Int)+1)]) (by simp[results,Tryz.results12,go_sem,q0,q1]) rfl ⟨by rw[E1.out],(hB.setCell (p:=⟨w.heap.size,0,none⟩) (Nat.le_refl _) _).setCell (p:=⟨w.heap.size,1,none⟩) (Nat.le_refl _) _⟩
 ·have E1:Hid (V=0):=HV.out.2 hC;have hC':(C !=0)=true:=by simpa using hC
  have q0:=Rb.cell 0 _ rfl;have q1:=Rb.cell 1 _ rfl;have f0:=Rb.frozen 0;have f1:=Rb.frozen 1;clear HV HO
  go_wp2
  exact bodyPost_ret (v:=.agg #[.int .i64 C,.int .i64 0]) (by simp[results,Tryz.results12,go_sem,q0,q1]) rfl ⟨by rw[E1.out],(hB.setCell (p:=⟨w.heap.size,0,none⟩) (Nat.le_refl _) _).setCell (p:=⟨w.heap.size,1,none⟩) (Nat.le_refl _) _⟩
theorem z1N(v:Value)(ps:List InstQ)(w:World)(h:instK.At w v ps)(hl:(ps.length+nmL InstQ.n ps)≤1048576)(h1:1≤ps.length)(h4:ps.length≤4):
  Calls Tryz.prog 45 #[v] w fun e w'=>e=.returned (.int .i64 (decN (ps.map InstQ.e)))∧Below w.heap.size w w':=by
 obtain⟨a,cap,rfl⟩:=h.shape;have hlt:ps.length-1<ps.length:=by omega
 obtain⟨V,hv⟩:∃V:Int,(decN (ps.map InstQ.e):Int)=V:=⟨_,rfl⟩
 have HV3:Hid (outV ps[ps.length-1].dec=3→V=(ps.length:Int)-1):=fun h3=>by
  rw[←hv];unfold decN;rw[z4U ps hlt,if_pos (show outV (InstQ.e ps[ps.length-1]).dec=3 from h3),List.length_map];omega
 have HVn:Hid (outV ps[ps.length-1].dec≠3→V=(ps.length:Int)):=fun h3=>by
  rw[←hv];unfold decN;rw[z4U ps hlt,if_neg (show¬outV (InstQ.e ps[ps.length-1]).dec=3 from h3),List.length_map]
 rw[hv];have hn:InstQ.n ps[ps.length-1]≤1048576:=by have:=z4w ps _ hlt;omega
 obtain⟨b,off,rfl,hbs,hP⟩:=z4R h (ps.length-1) hlt;have hho0:=z0L b (off+(ps.length-1)*4) ps[ps.length-1];have hho:=hho0 w hP hn;clear hho0 hn hv h;generalize outV ps[ps.length-1].dec=OV at*;generalize ps[ps.length-1]=p at*;generalize hm:ps.length-1=m at*;have hpl:(ps.length:Int)-1=(m:Int):=by omega
 have hpl2:ps.length=m+1:=by omega
 rw[hpl]at HV3;rw[hpl2]at h4 HVn⊢;clear hm hpl hpl2 hl h1 hlt;go_enter Tryz.func45,Tryz.ntmps45
 go_wp2_with fail
 refine hho.mono ?_;rintro e w3 ⟨rfl,hw⟩;replace hw:=hw.symm;subst hw;clear hho hP;by_cases hO:OV=3
 ·have e1:(OV==3)=true:=by simpa using hO
  have E1:Hid (V=(m:Int)):=HV3.out hO;clear HV3 HVn hO
  go_wp2
  go_ret;exact⟨by rw[E1.out];rfl,Below.refl _ _⟩
 ·have e1:(OV==3)=false:=by simpa using hO
  have E1:Hid (V=(m:Int)+1):=by have:=HVn.out hO;exact this.trans (by omega)
  clear HV3 HVn hO
  go_wp2
  go_ret;exact⟨by rw[E1.out];rfl,Below.refl _ _⟩
theorem z2T(v:Value)(ps:List InstQ)(w:World)(h:instK.At w v ps)(hl:(ps.length+nmL InstQ.n ps)≤1048576):
  Calls Tryz.prog 13 #[v] w fun e w'=>e=.returned (.agg #[.int .i64 (ordF (ps.map InstQ.e)),.int .i64 (diV (ps.map InstQ.e))])∧Below w.heap.size w w':=by
 have hof:=fun w h=>z1M v ps w h hl
 have hld:=fun w h h1 h4=>z1N v ps w h hl h1 h4
 have HO:Hid (ordF (ps.map InstQ.e)=0→1≤ps.length∧ps.length≤4):=fun h0=>by
  have:=((z06 _).1 h0).1;rw[List.length_map]at this;exact this
 have HV:Hid ((ordF (ps.map InstQ.e)=0→diV (ps.map InstQ.e)=(decN (ps.map InstQ.e):Int))∧(ordF (ps.map InstQ.e)≠0→diV (ps.map InstQ.e)=0)):=⟨fun h0=>if_pos h0,fun h0=>if_neg h0⟩
 obtain⟨a,cap,rfl⟩:=h.shape;generalize ordF (ps.map InstQ.e)=C at*;generalize diV (ps.map InstQ.e)=V at*;generalize (decN (ps.map InstQ.e):Int)=M at*;have hB:Below w.heap.size w (w.alloc (.cells #[.int .i64 0,.int .i64 0] 38)):=by go_grown
 have Rb:=Blk.new w 38 #[.int .i64 0,.int .i64 0];go_enter Tryz.func13,Tryz.ntmps13
 go_wp2_with fail
 generalize w.alloc (.cells #[.int .i64 0,.int .i64 0] 38)=W at*;refine(hof W (h.below hB)).mono ?_;rintro e w1 ⟨rfl,hb⟩;replace hB:=hB.trans (hb.mono hB.size);replace Rb:=Rb.below hb;clear hb hof;by_cases hC:C=0
 ·obtain⟨h1,h4⟩:=HO.out hC;have E1:Hid (V=M):=HV.out.1 hC;subst hC;clear HV HO
  go_wp2_with fail
  refine(hld w1 (h.below hB) h1 h4).mono ?_;rintro e w3 ⟨rfl,hb3⟩;replace hB:=hB.trans (hb3.mono hB.size);replace Rb:=Rb.below hb3;have q0:=Rb.cell 0 _ rfl;have q1:=Rb.cell 1 _ rfl;have f0:=Rb.frozen 0;have f1:=Rb.frozen 1;clear hb3 hld
  go_wp2
  exact bodyPost_ret (v:=.agg #[.int .i64 0,.int .i64 M]) (by simp[results,Tryz.results13,go_sem,q0,q1]) rfl ⟨by rw[E1.out],(hB.setCell (p:=⟨w.heap.size,0,none⟩) (Nat.le_refl _) _).setCell (p:=⟨w.heap.size,1,none⟩) (Nat.le_refl _) _⟩
 ·have E1:Hid (V=0):=HV.out.2 hC;have hC':(C !=0)=true:=by simpa using hC
  have q0:=Rb.cell 0 _ rfl;have q1:=Rb.cell 1 _ rfl;have f0:=Rb.frozen 0;have f1:=Rb.frozen 1;clear HV HO hld
  go_wp2
  exact bodyPost_ret (v:=.agg #[.int .i64 C,.int .i64 0]) (by simp[results,Tryz.results13,go_sem,q0,q1]) rfl ⟨by rw[E1.out],(hB.setCell (p:=⟨w.heap.size,0,none⟩) (Nat.le_refl _) _).setCell (p:=⟨w.heap.size,1,none⟩) (Nat.le_refl _) _⟩
theorem z62(v:Value)(ps:List InstQ)(w:World)(h:instK.At w v ps)(hlow:(∀p∈ps,(∀t∈p.batch,0<t.acts.length)∧(∀r∈p.rounds,0<r.rep.length∧0<r.pro.length)∧0<p.dec.length))(hl:(ps.length+nmL InstQ.n ps)≤1048576):
  Calls Tryz.prog 79 #[v] w fun e w'=>∃v' qs,e=.returned v'∧qs.map InstQ.e=ps.map InstQ.e∧instK.Own w' v' qs∧(instK.fp v' qs).Nodup∧(∀k∈instK.fp v' qs,w.heap.size≤k)∧Below w.heap.size w w':=by
 obtain⟨a,cap,rfl⟩:=h.shape;obtain⟨i0,hi,hz0,hz1,hz2⟩:=info_parts z01;have ho:=World.ownsRow_lit (e:=49) (size:=4) w #[] 0 (Nat.le_refl _) (by decide) rfl;have hn1:instK.Own (w.alloc (.cells #[] 49)) (.slice (some ⟨w.heap.size,0,none⟩) 0 0) ([]:List InstQ):=⟨(z0U ho).1,fun p hp=>by simp at hp⟩
 have hb0:Below w.heap.size w (w.alloc (.cells #[] 49)):=by go_grown
 have HN0:Hid ((instK.fp (.slice (some ⟨w.heap.size,0,none⟩) 0 0) ([]:List InstQ)).Nodup∧∀k∈instK.fp (.slice (some ⟨w.heap.size,0,none⟩) 0 0) ([]:List InstQ),w.heap.size≤k):=by
  refine⟨?_,?_⟩
  ·simp[Kind.fp,blk,Value.ownBlock]
  ·simp[Kind.fp,blk,Value.ownBlock]
 clear ho;go_enter Tryz.func79,Tryz.ntmps79
 go_wp2
 go_loopw[3,4] (fun v j wr=>∃ (k:Nat) (qs:List InstQ),k≤ps.length∧j=.int .i64 k∧Hid (qs.map InstQ.e=(ps.take k).map InstQ.e)∧instK.Own wr v qs∧Hid ((instK.fp v qs).Nodup∧∀k∈instK.fp v qs,w.heap.size≤k)∧Below w.heap.size w wr) (fun _ j _=>ps.length-(intOf j).toNat)
 case atStart=>exact⟨0,[],Nat.zero_le _,rfl,(rfl:_=_),hn1,HN0,hb0⟩
 case round=>
  clear HN0 hn1 hb0;obtain⟨k,qs,hk,rfl,HE,hO,HN,hb⟩:=hrel;obtain⟨sa,sc,rfl⟩:=hO.shape;have HQL:Hid (qs.length=k):=by
   have:=congrArg List.length HE.out;rw[List.length_map,List.length_map,List.length_take]at this;show qs.length=k;omega
  by_cases hlt:k<ps.length
  ·obtain⟨b,off,rfl,hbs,hc,hrd⟩:=(h.below hb).cell (by decide) k hlt;have hc':∀j x,(instK.cells ps[k])[j]?=some x→wr.cell? ⟨b,off+k*4+j,none⟩=some x:=hc;have c0:=hc' 0 (.bool ps[k].has) rfl;have c1:=hc' 1 ps[k].vb rfl;have c2:=hc' 2 ps[k].vr rfl;have c3:=hc' 3 ps[k].vd rfl;rw[Nat.add_zero]at c0;have hzl:=z4b InstQ.n ps k hlt;have hlow1:=hlow _ (List.getElem_mem hlt);have HPE:Hid (∀p':InstQ,p'.e=InstQ.e ps[k]→(qs++[p']).map InstQ.e=(ps.take (k+1)).map InstQ.e):=fun p' hp'=>by
    rw[List.take_succ_eq_append_getElem hlt,List.map_append,List.map_append,HE.out,List.map_singleton,List.map_singleton,hp']
   clear hc hc';have hcl0:=z1x ps[k];have hcl:=fun w h=>hcl0 w h (by omega) hlow1.1 hlow1.2.1 hlow1.2.2
   clear hcl0 HE;generalize ps[k]=p at*;obtain⟨has,vb,batch,vr,rounds,vd,dec⟩:=p;obtain⟨ba,bk,rfl⟩:∃a c,vb=.slice a batch.length c:=hrd.1.shape;obtain⟨va,vk,rfl⟩:∃a c,vr=.slice a rounds.length c:=hrd.2.1.shape;obtain⟨da,dk,rfl⟩:∃a c,vd=.slice a dec.length c:=hrd.2.2.shape;dsimp only at c0 c1 c2 c3 hcl
   go_wp2_with fail
   clear c0 c1 c2 c3;have HLT:Hid (∀x∈instK.fp (.slice sa qs.length sc) qs,x<wr.heap.size):=hO.lt;have HYS:Hid (w.heap.size≤wr.heap.size):=hb.size;refine(hcl wr hrd).mono ?_;rintro e w2 ⟨q,rfl,eq,oq,nq,gq,hb2⟩;replace hO:=hO.below hb2;replace hb:=hb.trans (hb2.mono hb.size);have h2s:=hb2.size;clear hcl hb2;obtain⟨qh,qvb,qb,qvr,qr,qvd,qd⟩:=q;obtain⟨x1,y1,rfl⟩:∃a c,qvb=.slice a qb.length c:=oq.1.shape;obtain⟨x2,y2,rfl⟩:∃a c,qvr=.slice a qr.length c:=oq.2.1.shape;obtain⟨x3,y3,rfl⟩:∃a c,qvd=.slice a qd.length c:=oq.2.2.shape;have hbA:Below w2.heap.size w2 (w2.alloc (.cells #[.bool qh,.slice x1 qb.length y1,.slice x2 qr.length y2,.slice x3 qd.length y3] 49)):=by go_grown
   have hOA:=hO.below hbA;have hPA:=instK.own_out (F:=[]) oq (Out.of_below hbA) (fun _ _=>by simp);have hbB:=hb.trans (hbA.mono hb.size);have hYA:wr.heap.size≤(w2.alloc (.cells #[.bool qh,.slice x1 qb.length y1,.slice x2 qr.length y2,.slice x3 qd.length y3] 49)).heap.size:=by have:=hbA.size;omega
   clear hO oq;have hrow0:=hOA.1
   go_wp2_with (at_builtin;refine wpList_append_own_at _ rfl _ _ 24 rfl 0 49 i0 (.agg #[.bool false,.slice none 0 0,.slice none 0 0,.slice none 0 0]) 4 80 Tryz.underlying24 hi hz0 hz1 hz2 rfl (by decide) _ qs.length (instK.row qs) rfl hrow0 ⟨w2.heap.size,0,none⟩ 1 1 [.bool qh,.slice x1 qb.length y1,.slice x2 qr.length y2,.slice x3 qd.length y3] rfl rfl ?c1 ?c2 ?c3 ?c4 ?c5 ?_)
   all_goals try(case c1=>intro j u hj;match j,hj with|0,hj=>simp at hj;subst hj;simp[Addr.add]|1,hj=>simp at hj;subst hj;simp[Addr.add]|2,hj=>simp at hj;subst hj;simp[Addr.add]|3,hj=>simp at hj;subst hj;simp[Addr.add])
   all_goals try(case c2=>intro u hu;simp at hu;rcases hu with rfl|rfl|rfl|rfl<;>rfl)
   all_goals try(case c3=>have:=HQL.out;unfold maxLen;omega)
   all_goals try(case c4=>have:=HQL.out;omega)
   all_goals try(case c5=>first|omega|simp)
   intro v' w5 hown hgrow hnil hat;clear hnil hrow0;rw[show w2.heap.size+1=(w2.alloc (.cells #[.bool qh,.slice x1 qb.length y1,.slice x2 qr.length y2,.slice x3 qd.length y3] 49)).heap.size from(World.size_alloc _ _).symm]at hat;generalize hwA:w2.alloc (.cells #[.bool qh,.slice x1 qb.length y1,.slice x2 qr.length y2,.slice x3 qd.length y3] 49)=WA at*;clear hwA;obtain⟨hO5,hn5,hlo5,hou⟩:=hOA.snoc (p:=(⟨qh,.slice x1 qb.length y1,qb,.slice x2 qr.length y2,qr,.slice x3 qd.length y3,qd⟩:InstQ)) HN.out.1 HN.out.2 hPA nq (fun x hx hx'=>by have:=HLT.out x hx';have:=gq x hx;omega) (fun x hx=>by have:=gq x hx;have:=HYS.out;omega) hbB.size hown hgrow hat;have hb5:Below w.heap.size w w5:=Out.keep hbB hou hbB.size (fun x hx=>HN.out.2 x (by simp only[Kind.fp,List.mem_append];exact Or.inl hx));have HE5:Hid ((qs++[(⟨qh,.slice x1 qb.length y1,qb,.slice x2 qr.length y2,qr,.slice x3 qd.length y3,qd⟩:InstQ)]).map InstQ.e=(ps.take (k+1)).map InstQ.e):=HPE.out _ eq;have HN5:Hid ((instK.fp v' (qs++[(⟨qh,.slice x1 qb.length y1,qb,.slice x2 qr.length y2,qr,.slice x3 qd.length y3,qd⟩:InstQ)])).Nodup∧∀k∈instK.fp v' (qs++[(⟨qh,.slice x1 qb.length y1,qb,.slice x2 qr.length y2,qr,.slice x3 qd.length y3,qd⟩:InstQ)]),w.heap.size≤k):=⟨hn5,hlo5⟩
   clear HPE HN HLT HYS hPA hOA hbB hown hgrow hat hou hn5 hlo5 hrd hb hbA hzl hlow1 hYA gq nq eq
   go_wp2
   go_roundw
   case rel=>exact⟨k+1,_,by omega,by go_num,HE5,hO5,HN5,hb5⟩
   case measure=>simp[intOf];omega
  ·have hkl:k=ps.length:=by omega
   subst hkl;have hE:=HE.out;rw[List.take_length]at hE;clear HE
   go_wp2
   go_ret;exact⟨_,qs,rfl,hE,hO,HN.out.1,HN.out.2,hb⟩
def niC(ds:List InstE):Int:=if ordF ds=0 then(if decN ds<ds.length then 8 else if ds.length=4 then 7 else 0)else ordF ds
def niO(ds:List InstE):List InstE:=if niC ds=0 then ds++[z5E]else []
theorem z30(ds:List InstE):(ordF ds≠0∧niC ds=ordF ds∧niO ds=[])∨(ordF ds=0∧decN ds<ds.length∧niC ds=8∧niO ds=[])∨(ordF ds=0∧¬decN ds<ds.length∧ds.length=4∧niC ds=7∧niO ds=[])∨(ordF ds=0∧¬decN ds<ds.length∧ds.length≠4∧niC ds=0∧niO ds=ds++[z5E]):=by
 unfold niO niC;by_cases h0:ordF ds=0
 ·by_cases h1:decN ds<ds.length
  ·right;left;simp[h0,h1]
  ·by_cases h4:ds.length=4
   ·right;right;left;refine⟨h0,h1,h4,?_,?_⟩
    ·rw[if_pos h0,if_neg h1,if_pos h4]
    ·rw[if_pos h0,if_neg h1,if_pos h4,if_neg (by decide)]
   ·right;right;right;refine⟨h0,h1,h4,?_,?_⟩
    ·rw[if_pos h0,if_neg h1,if_neg h4]
    ·rw[if_pos h0,if_neg h1,if_neg h4,if_pos rfl]
 ·left;simp[h0]
theorem z9K(c0 c1:Int)(c2 c3:Bool)(c4:Int)(c5:Bool)(a1 a2 a3:Option Addr)(l1 k1 l2 k2 l3 k3:Nat)(w:World):(Instr.field 60 (.agg #[.int .i64 c0,.int .i64 c1,.bool c2,.bool c3,.int .i64 c4,.bool c5,.slice a1 l1 k1,.slice a2 l2 k2,.slice a3 l3 k3]) 2).run Tryz.prog w=.ok (.agg #[.bool c5,.slice a1 l1 k1,.slice a2 l2 k2,.slice a3 l3 k3]) w:=by kernel_rfl
theorem z18(v:Value)(ps:List InstQ)(w:World)(hG:RulO w)(h:instK.At w v ps)(hl:(ps.length+nmL InstQ.n ps)≤1048576):
  Calls Tryz.prog 10 #[v] w fun e w'=>∃ (v':Value) (qs:List InstQ),e=.returned (.agg #[.int .i64 (niC (ps.map InstQ.e)),v'])∧qs.map InstQ.e=niO (ps.map InstQ.e)∧instK.Own w' v' qs∧(instK.fp v' qs).Nodup∧(∀k∈instK.fp v' qs,w.heap.size≤k)∧Below w.heap.size w w':=by
 have hof:=fun w hG h=>z0S v ps w hG h hl
 have HO:Hid (ordF (ps.map InstQ.e)=0→1≤ps.length∧ps.length≤4∧∀q∈ps,insF (InstQ.e q)=0):=fun h0=>by
  have:=((z06 _).1 h0).1;rw[List.length_map]at this;exact⟨this.1,this.2,fun q hq=>z1L h0 _ (List.mem_map.2 ⟨q,hq,rfl⟩)⟩
 have hco:=fun w h hlow=>z4e v ps w h hlow hl
 obtain⟨a,cap,rfl⟩:=h.shape;obtain⟨i0,hi,hz0,hz1,hz2⟩:=info_parts z01;have hw:=z30 (ps.map InstQ.e);have HDV:Hid (ordF (ps.map InstQ.e)=0→diV (ps.map InstQ.e)=(decN (ps.map InstQ.e):Int)):=fun h0=>if_pos h0
 have hdl:=z3X (ps.map InstQ.e);rw[List.length_map]at hw hdl;generalize niC (ps.map InstQ.e)=D at*;generalize niO (ps.map InstQ.e)=O at*;have HEP:Hid (∀q1:List InstQ,∀q:InstQ,q1.map InstQ.e=ps.map InstQ.e→q.e=z5E→(q1++[q]).map InstQ.e=ps.map InstQ.e++[z5E]):=fun q1 q h1 h2=>by rw[List.map_append,h1,List.map_singleton,h2]
 have HLE:Hid (∀q1:List InstQ,q1.map InstQ.e=ps.map InstQ.e→q1.length=ps.length):=fun q1 h1=>by simpa using congrArg List.length h1
 generalize ordF (ps.map InstQ.e)=C at*;generalize diV (ps.map InstQ.e)=V at*;generalize decN (ps.map InstQ.e)=M at*;generalize ps.map InstQ.e=ds at*;have hB:Below w.heap.size w (w.alloc (.cells #[.int .i64 0,.slice none 0 0] 33)):=by go_grown
 have Rb:=Blk.new w 33 #[.int .i64 0,.slice none 0 0];go_enter Tryz.func10,Tryz.ntmps10
 go_wp2_with fail
 generalize w.alloc (.cells #[.int .i64 0,.slice none 0 0] 33)=W at*;refine(hof W (hG.below hB).r (h.below hB)).mono ?_;rintro e w1 ⟨rfl,hb⟩;have hbA:Below w1.heap.size w1 (w1.alloc (.cells #[.int .i64 C,.int .i64 V] 38)):=by go_grown
 replace hB:=hB.trans (hb.mono hB.size);replace hB:=hB.trans (hbA.mono hB.size);replace Rb:=(Rb.below hb).below hbA;have Dk:=Blk.new w1 38 #[.int .i64 C,.int .i64 V];clear hb hof hbA;rcases hw with⟨hC,e1,e2⟩|⟨hC,hM,e1,e2⟩|⟨hC,hM,h4,e1,e2⟩|⟨hC,hM,h4,e1,e2⟩
 ·have hC':(C !=0)=true:=by simpa using hC
  have E1:Hid (D=C∧O=[]):=⟨e1,e2⟩
  clear e1 e2 HEP HLE HO HDV hC;have q0:=Rb.cell 0 _ rfl;have q1:=Rb.cell 1 _ rfl;have f0:=Rb.frozen 0;have f1:=Rb.frozen 1;obtain⟨hn1,hn2⟩:=Kind.own_nil (K:=instK) w;clear hn1
  go_wp2
  exact bodyPost_ret (v:=.agg #[.int .i64 C,.slice none 0 0]) (by simp[results,Tryz.results10,go_sem,q0,q1]) rfl ⟨.slice none 0 0,[],by rw[E1.out.1],by rw[E1.out.2];rfl,(Kind.own_nil _).1,by rw[hn2];simp,by rw[hn2];simp,(hB.setCell (p:=⟨w.heap.size,0,none⟩) (Nat.le_refl _) _).setCell (p:=⟨w.heap.size,1,none⟩) (Nat.le_refl _) _⟩
 ·have E1:Hid (D=8∧O=[]):=⟨e1,e2⟩
  have hV:=HDV.out hC;subst hC hV;have hM':(M:Int)<(ps.length:Int):=by omega
  clear e1 e2 HEP HLE HO HDV hM;have q0:=Rb.cell 0 _ rfl;have q1:=Rb.cell 1 _ rfl;have f0:=Rb.frozen 0;have f1:=Rb.frozen 1;obtain⟨hn1,hn2⟩:=Kind.own_nil (K:=instK) w;clear hn1
  go_wp2
  exact bodyPost_ret (v:=.agg #[.int .i64 8,.slice none 0 0]) (by simp[results,Tryz.results10,go_sem,q0,q1]) rfl ⟨.slice none 0 0,[],by rw[E1.out.1],by rw[E1.out.2];rfl,(Kind.own_nil _).1,by rw[hn2];simp,by rw[hn2];simp,(hB.setCell (p:=⟨w.heap.size,0,none⟩) (Nat.le_refl _) _).setCell (p:=⟨w.heap.size,1,none⟩) (Nat.le_refl _) _⟩
 ·have E1:Hid (D=7∧O=[]):=⟨e1,e2⟩
  have hV:=HDV.out hC;subst hC hV;have hM':¬(M:Int)<(ps.length:Int):=by omega
  have h4':((ps.length:Int)==4)=true:=by rw[h4];rfl
  clear e1 e2 HEP HLE HO HDV hM h4;have q0:=Rb.cell 0 _ rfl;have q1:=Rb.cell 1 _ rfl;have f0:=Rb.frozen 0;have f1:=Rb.frozen 1;obtain⟨hn1,hn2⟩:=Kind.own_nil (K:=instK) w;clear hn1
  go_wp2
  exact bodyPost_ret (v:=.agg #[.int .i64 7,.slice none 0 0]) (by simp[results,Tryz.results10,go_sem,q0,q1]) rfl ⟨.slice none 0 0,[],by rw[E1.out.1],by rw[E1.out.2];rfl,(Kind.own_nil _).1,by rw[hn2];simp,by rw[hn2];simp,(hB.setCell (p:=⟨w.heap.size,0,none⟩) (Nat.le_refl _) _).setCell (p:=⟨w.heap.size,1,none⟩) (Nat.le_refl _) _⟩
 ·have HC0:Hid (D=0):=e1;obtain⟨p1,p4,hin⟩:=HO.out hC;have hV:=HDV.out hC;have hlow:=fun q hq=>z2l (hin q hq)
  subst hC hV;have hM':¬(M:Int)<(ps.length:Int):=by omega
  have h4':((ps.length:Int)==4)=false:=by simpa using(show¬(ps.length:Int)=4 by omega)
  clear e1 HO HDV hM h4 hin;have hlt:=Dk.lt
  go_wp2_with fail
  have hWB:w.heap.size+1≤(w1.alloc (.cells #[.int .i64 0,.int .i64 M] 38)).heap.size:=by have:=Rb.lt;omega
  generalize w1.alloc (.cells #[.int .i64 0,.int .i64 M] 38)=WB at*;refine(hco WB (h.below hB) hlow).mono ?_;rintro e Y ⟨vq,qs,rfl,eqs,hO,hn0,hlo0,hbY⟩;obtain⟨sa,sc,rfl⟩:=hO.shape;have hqn:=HLE.out qs eqs;have HQL:Hid (qs.length≤4):=show _≤_ by omega
  have HLT:Hid (∀x∈instK.fp (.slice sa qs.length sc) qs,x<Y.heap.size):=hO.lt;have HYS:Hid (WB.heap.size≤Y.heap.size):=hbY.size;have HN:Hid ((instK.fp (.slice sa qs.length sc) qs).Nodup∧∀k∈instK.fp (.slice sa qs.length sc) qs,WB.heap.size≤k):=⟨hn0,hlo0⟩
  clear hn0 hlo0 hco hlow hqn
  go_wp2_with fail
  refine(z2n Y ((hG.below hB).o.below hbY)).mono ?_;rintro e w2 ⟨q,rfl,eq,oq,nq,gq,hb2⟩;have HQ5:Hid (_=O):=(HEP.out qs q eqs eq).trans e2.symm;replace hO:=hO.below hb2;have hb:=hbY.trans (hb2.mono hbY.size);have h2s:=hb2.size;have Rw:=Rb;clear hb2 hbY Rb Dk HEP HLE eqs eq e2;obtain⟨qh,qvb,qb,qvr,qr,qvd,qd⟩:=q;obtain⟨x1,y1,rfl⟩:∃a c,qvb=.slice a qb.length c:=oq.1.shape;obtain⟨x2,y2,rfl⟩:∃a c,qvr=.slice a qr.length c:=oq.2.1.shape;obtain⟨x3,y3,rfl⟩:∃a c,qvd=.slice a qd.length c:=oq.2.2.shape;have hfi:=z9K 0 0 false false 0 qh x1 x2 x3 qb.length y1 qr.length y2 qd.length y3;simp only[z9W];have hbA:Below w2.heap.size w2 (w2.alloc (.cells #[.bool qh,.slice x1 qb.length y1,.slice x2 qr.length y2,.slice x3 qd.length y3] 49)):=by go_grown
  have hOA:=hO.below hbA;have hPA:=instK.own_out (F:=[]) oq (Out.of_below hbA) (fun _ _=>by simp);have hbB:=hb.trans (hbA.mono hb.size);have hYA:Y.heap.size≤(w2.alloc (.cells #[.bool qh,.slice x1 qb.length y1,.slice x2 qr.length y2,.slice x3 qd.length y3] 49)).heap.size:=by have:=hbA.size;omega
  clear hO oq;have hrow0:=hOA.1
  go_wp2_with (at_builtin;refine wpList_append_own_at _ rfl _ _ 24 rfl 0 49 i0 (.agg #[.bool false,.slice none 0 0,.slice none 0 0,.slice none 0 0]) 4 80 Tryz.underlying24 hi hz0 hz1 hz2 rfl (by decide) _ qs.length (instK.row qs) rfl hrow0 ⟨w2.heap.size,0,none⟩ 1 1 [.bool qh,.slice x1 qb.length y1,.slice x2 qr.length y2,.slice x3 qd.length y3] rfl rfl ?c1 ?c2 ?c3 ?c4 ?c5 ?_)
  all_goals try(case c1=>intro j u hj;match j,hj with|0,hj=>simp at hj;subst hj;simp[Addr.add]|1,hj=>simp at hj;subst hj;simp[Addr.add]|2,hj=>simp at hj;subst hj;simp[Addr.add]|3,hj=>simp at hj;subst hj;simp[Addr.add])
  all_goals try(case c2=>intro u hu;simp at hu;rcases hu with rfl|rfl|rfl|rfl<;>rfl)
  all_goals try(case c3=>have:=HQL.out;unfold maxLen;omega)
  all_goals try(case c4=>have:=HQL.out;omega)
  all_goals try(case c5=>first|omega|simp)
  intro v' w5 hown hgrow hnil hat;clear hnil hrow0;rw[show w2.heap.size+1=(w2.alloc (.cells #[.bool qh,.slice x1 qb.length y1,.slice x2 qr.length y2,.slice x3 qd.length y3] 49)).heap.size from(World.size_alloc _ _).symm]at hat;generalize hwA:w2.alloc (.cells #[.bool qh,.slice x1 qb.length y1,.slice x2 qr.length y2,.slice x3 qd.length y3] 49)=WA at*;clear hwA;obtain⟨hO5,hn5,hlo5,hou⟩:=hOA.snoc (p:=(⟨qh,.slice x1 qb.length y1,qb,.slice x2 qr.length y2,qr,.slice x3 qd.length y3,qd⟩:InstQ)) HN.out.1 HN.out.2 hPA nq (fun x hx hx'=>by have:=HLT.out x hx';have:=gq x hx;omega) (fun x hx=>by have:=gq x hx;have:=HYS.out;omega) hbB.size hown hgrow hat;have hb5:Below WB.heap.size WB w5:=Out.keep hbB hou hbB.size (fun x hx=>HN.out.2 x (by simp only[Kind.fp,List.mem_append];exact Or.inl hx));obtain⟨xa,xc,hsh⟩:=hO5.shape;subst hsh;have R5:=Rw.below hb5;have q0:=R5.cell 0 _ rfl;have q1:=R5.cell 1 _ rfl;have f0:=R5.frozen 0;have f1:=R5.frozen 1;generalize hQ5:qs++[(⟨qh,.slice x1 qb.length y1,qb,.slice x2 qr.length y2,qr,.slice x3 qd.length y3,qd⟩:InstQ)]=Q5 at*;have HFIN:Hid (∀u u',instK.Own ((w5.setCell ⟨w.heap.size,0,none⟩ u).setCell ⟨w.heap.size,1,none⟩ u') (.slice xa Q5.length xc) Q5∧Below w.heap.size w ((w5.setCell ⟨w.heap.size,0,none⟩ u).setCell ⟨w.heap.size,1,none⟩ u')):=fun u u'=>by
   refine⟨hO5.out (((Out.refl [w.heap.size] w5).set (b:=w.heap.size) (j:=0) (u:=u) (by simp)).set (b:=w.heap.size) (j:=1) (u:=u') (by simp)) (fun k hk=>by have:=hlo5 k hk;simp only[List.mem_singleton];omega),?_⟩;have hbb:=hB.trans (hb5.mono hB.size);exact(hbb.setCell (p:=⟨w.heap.size,0,none⟩) (Nat.le_refl _) _).setCell (p:=⟨w.heap.size,1,none⟩) (Nat.le_refl _) _
  have HL5:Hid ((instK.fp (.slice xa Q5.length xc) Q5).Nodup∧∀k∈instK.fp (.slice xa Q5.length xc) Q5,w.heap.size≤k):=⟨hn5,fun k hk=>by have:=hlo5 k hk;omega⟩
  clear hO5 hn5 hlo5 hb5 hB Rw R5 hou hown hgrow hat hOA hPA hbB hbA
  go_wp2
  exact bodyPost_ret (v:=.agg #[.int .i64 0,.slice xa Q5.length xc]) (by simp[results,Tryz.results10,go_sem,q0,q1]) rfl ⟨.slice xa Q5.length xc,Q5,by rw[HC0.out],HQ5.out,(HFIN.out _ _).1,HL5.out.1,HL5.out.2,(HFIN.out _ _).2⟩
theorem q0q{qs ps:List TxnQ}(h:qs.map TxnQ.e=ps.map TxnQ.e):qs.length+nmL TxnQ.n qs=ps.length+nmL TxnQ.n ps:=by
 have t1:qs.length=ps.length:=by simpa using congrArg List.length h
 have t2:nmL TxnQ.n qs=nmL TxnQ.n ps:=by
  have:=congrArg (fun l=>nmL (fun d:TxnD=>d.acts.length) l) h;simp only[nmL,List.map_map]at this;exact this
 omega
end Go.Proofs.YtfpponhjhbfbeaaGreatDoor
