/- Texts joined,with what the laws reach alone. -/
import Derived.Test.YtciofogeiohleaaGreatDoorCOAM
import Derived.Test.YtciofogeiohleaaGreatDoorCOAL
import Derived.Deep.Slices
import Derived.Deep.Strs
import Derived.ProofKit
import Derived.Test.YtciofogeiohleaaGreatDoorRows
import Derived.Lib.LaidU8
import Derived.OpenVars
import Derived.LaidMore
import Derived.Stop.LaidErr
import Derived.Stop.Joined
set_option linter.unusedVariables false
set_option linter.unusedSimpArgs false
set_option maxRecDepth 100000
set_option maxHeartbeats 8000000
namespace Go.Proofs.YtciofogeiohleaaGreatDoor
open Go.RowKit Go.BigFrame
theorem q0m(c v:Int)(w:World):(Instr.field 38 (.agg #[.int .i64 c,.int .i64 v]) 0).run Tryz.prog w=.ok (.int .i64 c) w:=by kernel_rfl
theorem q0n(c v:Int)(w:World):(Instr.field 38 (.agg #[.int .i64 c,.int .i64 v]) 1).run Tryz.prog w=.ok (.int .i64 v) w:=by kernel_rfl
theorem q06(x:InstE):(ocC x==0)=((insF x==0) && (outV x.dec !=3)):=by
 unfold ocC;by_cases h0:insF x=0
 ·rw[if_pos h0,h0];by_cases h3:outV x.dec=3
  ·rw[if_pos h3,h3];rfl
  ·rw[if_neg h3];have:(outV x.dec !=3)=true:=by simpa using h3
   rw[this];rfl
 ·rw[if_neg h0];have:(insF x==0)=false:=by simpa using h0
  rw[this];rfl
theorem z4u(ps:List InstQ)(k:Nat)(hk:k<ps.length):(ps.map InstQ.e).getD k z0D=InstQ.e ps[k]:=by simp[List.getD,hk]
theorem z3F(ps:List InstQ)(k:Nat)(hk:k<ps.length):InstQ.n ps[k]≤nmL InstQ.n ps:=z2J InstQ.n ps k hk
theorem z3V{w:World}{a:Option Addr}{n cap:Nat}{ps:List InstQ}(h:instK.At w (.slice a n cap) ps)(k:Nat)(hk:k<ps.length):∃b off,a=some ⟨b,off,none⟩∧b<w.heap.size∧InstP w b (off+k*4) ps[k]:=by
 obtain⟨b,off,e,hb,hc,hrd⟩:=h.cell (by decide) k hk;have hc':∀j x,(instK.cells ps[k])[j]?=some x→w.cell? ⟨b,off+k*4+j,none⟩=some x:=hc;exact⟨b,off,e,hb,⟨hc' 0 (.bool ps[k].has) rfl,hc' 1 ps[k].vb rfl,hc' 2 ps[k].vr rfl,hc' 3 ps[k].vd rfl⟩,hrd⟩
theorem z2t(p:InstQ)(w:World)(hG:Rul w)(h:instK.rd w p)(hl:p.n≤1048576):
  Calls Tryz.prog 47 #[.agg #[.bool p.has,p.vb,p.vr,p.vd]] w fun e w'=>e=.returned (.bool (ocC p.e==0))∧Below w.heap.size w w':=by
 have r:=fun w hG h=>z2g p w hG h hl
 have s:=fun(w':World) hb=>instK.rd_below (w':=w') h hb
 generalize ocC p.e=D at*;generalize ocV p.e=E at*;obtain⟨has,vb,q,vr,d,vd,dec⟩:=p;obtain⟨ba,bk,rfl⟩:∃a c,vb=.slice a q.length c:=h.1.shape;obtain⟨va,vk,rfl⟩:∃a c,vr=.slice a d.length c:=h.2.1.shape;obtain⟨da,dk,rfl⟩:∃a c,vd=.slice a dec.length c:=h.2.2.shape;dsimp only at r s;have y:=q0m D E;have hB:Below w.heap.size w (w.alloc (.cells #[.bool has,.slice ba q.length bk,.slice va d.length vk,.slice da dec.length dk] 49)):=by go_grown
 go_enter Tryz.func47,Tryz.ntmps47
 go_wp2_with fail
 generalize w.alloc (.cells #[.bool has,.slice ba q.length bk,.slice va d.length vk,.slice da dec.length dk] 49)=W at*;refine(r W (hG.below hB) (s W hB)).mono ?_;rintro e w1 ⟨rfl,x⟩;replace hB:=hB.trans (x.mono hB.size)
 go_wp2
 go_ret;exact⟨rfl,hB⟩
theorem z0L(v:Value)(ps:List InstQ)(w:World)(hG:Rul w)(h:instK.At w v ps)(hl:(ps.length+nmL InstQ.n ps)≤1048576):
  Calls Tryz.prog 16 #[v] w fun e w'=>e=.returned (.int .i64 (ordF (ps.map InstQ.e)))∧Below w.heap.size w w':=by
 obtain⟨a,cap,rfl⟩:=h.shape;generalize hE:ordF (ps.map InstQ.e)=E;have HE:Hid (ordF (ps.map InstQ.e)=E):=hE;clear hE;by_cases r:ps.length<1∨4<ps.length
 ·have E1:Hid (E=2):=by
   have:=HE.out;unfold ordF at this;rw[if_pos (by simpa using r)]at this;exact this.symm
  clear HE;rcases r with r|r
  ·go_enter Tryz.func16,Tryz.ntmps16
   go_wp2
   go_ret;exact⟨by rw[E1.out];rfl,Below.refl _ _⟩
  ·have h1:¬ps.length<1:=by omega
   go_enter Tryz.func16,Tryz.ntmps16
   go_wp2
   go_ret;exact⟨by rw[E1.out];rfl,Below.refl _ _⟩
 ·have HG:Hid (E=z1u (ps.map InstQ.e)):=by
   have:=HE.out;unfold ordF at this;rw[if_neg (by simpa using r)]at this;exact this.symm
  have h1:¬ps.length<1:=by omega
  have h4:ps.length≤4:=by omega
  clear HE r;go_enter Tryz.func16,Tryz.ntmps16
  go_wp2
  go_loopw[16] (fun i wr=>∃k:Nat,k≤ps.length∧i=.int .i64 k∧Hid (E=z1u ((ps.map InstQ.e).drop k))∧Below w.heap.size w wr) (fun i _=>ps.length-(intOf i).toNat)
  case atStart=>exact⟨0,Nat.zero_le _,rfl,HG,Below.refl _ _⟩
  case round=>
   clear HG;obtain⟨k,hk,rfl,HG,hb⟩:=hrel;by_cases L:k<ps.length
   ·have A:=z4u ps k L;have y:Hid (insF (InstQ.e ps[k])≠0→E=insF (InstQ.e ps[k])):=fun hx=>by
     rw[HG.out,z51 _ k (by simpa using L) (by rw[A];exact hx),A]
    have z:Hid (k+1<ps.length→insF (InstQ.e ps[k])=0→outV (InstQ.e ps[k]).dec=3→E=8):=fun h1 h2 h3=>by
     rw[HG.out,z4X _ k (by simpa using h1) (by rw[A];exact h2) (by rw[A];exact h3)]
    have q:Hid (insF (InstQ.e ps[k])=0→¬(k+1<ps.length∧outV (InstQ.e ps[k]).dec=3)→E=z1u ((ps.map InstQ.e).drop (k+1))):=fun h2 h3=>by
     rw[HG.out,z4Y _ k (by simpa using L) (by rw[A];exact h2) (by rw[A];simpa using h3)]
    have hn:InstQ.n ps[k]≤1048576:=by have:=z3F ps k L;omega
    have T:=z1i ps[k];have O:=z2t ps[k];have U:=fun w hG h=>T w hG h hn
    have J:=fun w hG h=>O w hG h hn
    clear T O;have D:=q06 (InstQ.e ps[k]);clear A HG;obtain⟨b,ab,rfl,ae,hc,N⟩:=(h.below hb).cell (by decide) k L;have I:∀j x,(instK.cells ps[k])[j]?=some x→wr.cell? ⟨b,ab+k*4+j,none⟩=some x:=hc;have c0:=I 0 (.bool ps[k].has) rfl;have c1:=I 1 ps[k].vb rfl;have c2:=I 2 ps[k].vr rfl;have c3:=I 3 ps[k].vd rfl;rw[Nat.add_zero]at c0;clear hc I;have V:=fun(w':World) hb=>instK.rd_below (w':=w') N hb
    generalize ocC (InstQ.e ps[k])=OC at*;generalize outV (InstQ.e ps[k]).dec=OV at*;generalize insF (InstQ.e ps[k])=C at*;generalize ps[k]=p at*;obtain⟨has,vb,s,vr,d,vd,dec⟩:=p;obtain⟨ba,bk,rfl⟩:∃a c,vb=.slice a s.length c:=N.1.shape;obtain⟨va,vk,rfl⟩:∃a c,vr=.slice a d.length c:=N.2.1.shape;obtain⟨da,dk,rfl⟩:∃a c,vd=.slice a dec.length c:=N.2.2.shape;dsimp only at c0 c1 c2 c3 U J V;have G:Below wr.heap.size wr (wr.alloc (.cells #[.bool has,.slice ba s.length bk,.slice va d.length vk,.slice da dec.length dk] 49)):=by go_grown
    have Bk:=Blk.new wr 49 #[.bool has,.slice ba s.length bk,.slice va d.length vk,.slice da dec.length dk];have W:=V _ G
    go_wp2_with fail
    generalize wr.alloc (.cells #[.bool has,.slice ba s.length bk,.slice va d.length vk,.slice da dec.length dk] 49)=W1 at*;refine(U W1 (hG.below (hb.trans (G.mono hb.size))) W).mono ?_;rintro e w2 ⟨rfl,M⟩;have Z:=instK.rd_below W M;replace Bk:=Bk.below M;replace hb:=(hb.trans (G.mono hb.size)).trans (M.mono (hb.trans (G.mono hb.size)).size);clear G M W U c0 c1 c2 c3 V;by_cases hC:C=0
    ·subst hC;by_cases Y:k+1<ps.length
     ·have aa:(k:Int)<(ps.length:Int)-1:=by omega
      obtain⟨p0,p1,p2,p3⟩:=Bk.cel4
      go_wp2_with fail
      refine(J w2 (hG.below hb) Z).mono ?_;rintro e w3 ⟨rfl,X⟩;replace hb:=hb.trans (X.mono hb.size);clear X J p0 p1 p2 p3 Bk Z;by_cases hO:OV=3
      ·have e1:(OC==0)=false:=by rw[D,hO];rfl
       have E1:Hid (E=8):=z.out Y (by simp) hO;clear D z q y
       go_wp2
       go_ret;exact⟨by rw[E1.out];rfl,hb⟩
      ·have e1:(OC==0)=true:=by
        rw[D];have:(OV !=3)=true:=by simpa using hO
        rw[this];rfl
       have E1:Hid (E=z1u ((ps.map InstQ.e).drop (k+1))):=q.out (by simp) (fun h=>hO h.2);clear D z q y
       go_wp2
       go_roundw
       case rel=>exact⟨k+1,by omega,by go_num,E1.out,hb⟩
       case measure=>simp[intOf];omega
     ·have aa:¬(k:Int)<(ps.length:Int)-1:=by omega
      have E1:Hid (E=z1u ((ps.map InstQ.e).drop (k+1))):=q.out (by simp) (fun h=>Y h.1);clear D z q y J
      go_wp2
      go_roundw
      case rel=>exact⟨k+1,by omega,by go_num,E1.out,hb⟩
      case measure=>simp[intOf];omega
    ·have ad:(C !=0)=true:=by simpa using hC
     have E1:Hid (E=C):=y.out hC;clear D z q y J
     go_wp2
     go_ret;exact⟨by rw[E1.out];rfl,hb⟩
   ·have E1:Hid (E=0):=by rw[HG.out];exact z52 _ k (by simp;omega)
    clear HG
    go_wp2
    go_ret;exact⟨by rw[E1.out];rfl,hb⟩
theorem z1v(v:Value)(ps:List InstQ)(w:World)(h:instK.At w v ps)(hl:(ps.length+nmL InstQ.n ps)≤1048576):
  Calls Tryz.prog 48 #[v] w fun e w'=>e=.returned (.int .i64 (ordF (ps.map InstQ.e)))∧Below w.heap.size w w':=by
 obtain⟨a,cap,rfl⟩:=h.shape;generalize hE:ordF (ps.map InstQ.e)=E;have HE:Hid (ordF (ps.map InstQ.e)=E):=hE;clear hE;by_cases q:ps.length<1∨4<ps.length
 ·have E1:Hid (E=2):=by
   have:=HE.out;unfold ordF at this;rw[if_pos (by simpa using q)]at this;exact this.symm
  clear HE;rcases q with q|q
  ·go_enter Tryz.func48,Tryz.ntmps48
   go_wp2
   go_ret;exact⟨by rw[E1.out];rfl,Below.refl _ _⟩
  ·have h1:¬ps.length<1:=by omega
   go_enter Tryz.func48,Tryz.ntmps48
   go_wp2
   go_ret;exact⟨by rw[E1.out];rfl,Below.refl _ _⟩
 ·have HG:Hid (E=z1u (ps.map InstQ.e)):=by
   have:=HE.out;unfold ordF at this;rw[if_neg (by simpa using q)]at this;exact this.symm
  have h1:¬ps.length<1:=by omega
  have h4:ps.length≤4:=by omega
  clear HE q;go_enter Tryz.func48,Tryz.ntmps48
  go_wp2
  go_loopw[3] (fun i wr=>∃k:Nat,k≤ps.length∧i=.int .i64 k∧Hid (E=z1u ((ps.map InstQ.e).drop k))∧Below w.heap.size w wr) (fun i _=>ps.length-(intOf i).toNat)
  case atStart=>exact⟨0,Nat.zero_le _,rfl,HG,Below.refl _ _⟩
  case round=>
   clear HG;obtain⟨k,hk,rfl,HG,hb⟩:=hrel;by_cases x:k<ps.length
   ·have s:=z4u ps k x;have r:Hid (insF (InstQ.e ps[k])≠0→E=insF (InstQ.e ps[k])):=fun hx=>by
     rw[HG.out,z51 _ k (by simpa using x) (by rw[s];exact hx),s]
    have d:Hid (k+1<ps.length→insF (InstQ.e ps[k])=0→outV (InstQ.e ps[k]).dec=3→E=8):=fun h1 h2 h3=>by
     rw[HG.out,z4X _ k (by simpa using h1) (by rw[s];exact h2) (by rw[s];exact h3)]
    have c:Hid (insF (InstQ.e ps[k])=0→¬(k+1<ps.length∧outV (InstQ.e ps[k]).dec=3)→E=z1u ((ps.map InstQ.e).drop (k+1))):=fun h2 h3=>by
     rw[HG.out,z4Y _ k (by simpa using x) (by rw[s];exact h2) (by rw[s];simpa using h3)]
    obtain⟨b,L,rfl,T,hP⟩:=z3V (h.below hb) k x;have hn:InstQ.n ps[k]≤1048576:=by have:=z3F ps k x;omega
    have A:=z2B b (L+k*4) ps[k];have z:=z0U b (L+k*4) ps[k];have G:=fun w hP=>A w hP hn
    have y:=fun w hP=>z w hP hn
    clear A z;have J:outV (InstQ.e ps[k]).dec=outV ps[k].dec:=rfl;rw[J]at d c;clear s HG J;generalize outV ps[k].dec=OV at*;generalize insF (InstQ.e ps[k])=C at*;generalize ps[k]=p at*
    go_wp2_with fail
    refine(G wr hP).mono ?_;rintro e w2 ⟨rfl,D⟩;replace hP:=hP.below D;replace hb:=hb.trans (D.mono hb.size);clear D G;by_cases hC:C=0
    ·subst hC;by_cases I:k+1<ps.length
     ·have N:(k:Int)<(ps.length:Int)-1:=by omega
      go_wp2_with fail
      refine(y w2 hP).mono ?_;rintro e w3 ⟨rfl,hw⟩;replace hw:=hw.symm;subst hw;clear y hP;by_cases hO:OV=3
      ·have E1:Hid (E=8):=d.out I (by simp) hO;have M:(OV==3)=true:=by simpa using hO
       clear d c r hO
       go_wp2
       go_ret;exact⟨by rw[E1.out];rfl,hb⟩
      ·have M:(OV==3)=false:=by simpa using hO
       have E1:Hid (E=z1u ((ps.map InstQ.e).drop (k+1))):=c.out (by simp) (fun h=>hO h.2);clear d c r hO
       go_wp2
       go_roundw
       case rel=>exact⟨k+1,by omega,by go_num,E1.out,hb⟩
       case measure=>simp[intOf];omega
     ·have N:¬(k:Int)<(ps.length:Int)-1:=by omega
      have E1:Hid (E=z1u ((ps.map InstQ.e).drop (k+1))):=c.out (by simp) (fun h=>I h.1);clear d c r y
      go_wp2
      go_roundw
      case rel=>exact⟨k+1,by omega,by go_num,E1.out,hb⟩
      case measure=>simp[intOf];omega
    ·have O:(C !=0)=true:=by simpa using hC
     have E1:Hid (E=C):=r.out hC;clear d c r y
     go_wp2
     go_ret;exact⟨by rw[E1.out];rfl,hb⟩
   ·have E1:Hid (E=0):=by rw[HG.out];exact z52 _ k (by simp;omega)
    clear HG
    go_wp2
    go_ret;exact⟨by rw[E1.out];rfl,hb⟩
section
open Go.Deep Go.ChangeShapes Go.WideShapes
end
section
open Go.ChangeShapes Go.WideShapes
theorem gRul : Tryz.prog.globalNamed "loop.example/g00631/impl.rules" = some 2 := by kernel_rfl
theorem tRul:(Tryz.prog.globals[2]?).map (·.type)=some 323:=by kernel_rfl
theorem q0o:Tryz.prog.cellsOf 314=7:=by kernel_rfl
theorem cCh:Tryz.prog.cellsOf 81=4:=by kernel_rfl
theorem cI:Tryz.prog.cellsOf 2=1:=by kernel_rfl
theorem cB:Tryz.prog.cellsOf 4=1:=by kernel_rfl
section
variable {H:Type} {enc:TypeId × Value→H} {w:World} {base:Nat} {spare:Nat→Bool} {held:Bool}
theorem z54{fuel:Nat}{cs:List Value}{c v:Int}{d k:Bool}{q:List MemPlace}(h:DataW.trod enc Tryz.prog w base spare held fuel 81 cs=some (.agg [.lit (.int .i64 c),.lit (.bool d),.lit (.bool k),.lit (.int .i64 v)],q)):cs=[.int .i64 c,.bool d,.bool k,.int .i64 v]:=by
 obtain⟨y0,y1,y2,y3,n,hx,hl,h0,h1,h2,h3⟩:=Go.Joins.trod_struct4 Tryz.underlying81 h;rw[cCh]at hl;simp only[Prod.mk.injEq,DataW.agg.injEq,List.cons.injEq,and_true]at hx;obtain⟨⟨x0,x1,x2,x3⟩,_⟩:=hx
 match cs,hl with
 |[c0,c1,c2,c3],_=>
  simp only[cI,cB,List.drop_zero,List.drop_succ_cons,List.take_succ_cons,List.take_zero]at h0 h1 h2 h3;obtain⟨n0,e0,g0,_⟩:=DataW.trod_int Tryz.underlying2 h0;obtain⟨n1,e1,g1⟩:=DataW.trod_bool Tryz.underlying4 h1;obtain⟨n2,e2,g2⟩:=DataW.trod_bool Tryz.underlying4 h2;obtain⟨n3,e3,g3,_⟩:=DataW.trod_int Tryz.underlying2 h3;simp only[List.cons.injEq,and_true]at e0 e1 e2 e3;rw[g0]at x0;rw[g1]at x1;rw[g2]at x2;rw[g3]at x3;simp at x0 x1 x2 x3;rw[e0,e1,e2,e3,x0,x1,x2,x3]
theorem z0V{fuel:Nat}{cs:List Value}{z o p c v:Int}{d k:Bool}{q:List MemPlace}(h:DataW.trod enc Tryz.prog w base spare held fuel 314 cs=some (.agg [.lit (.int .i64 z),.lit (.int .i64 o),.lit (.int .i64 p),.agg [.lit (.int .i64 c),.lit (.bool d),.lit (.bool k),.lit (.int .i64 v)]],q)):
  cs=[.int .i64 z,.int .i64 o,.int .i64 p,.int .i64 c,.bool d,.bool k,.int .i64 v]:=by
 obtain⟨y0,y1,y2,y3,n,hx,hl,h0,h1,h2,h3⟩:=Go.Joins.trod_struct4 Tryz.underlying314 h;rw[q0o]at hl;simp only[Prod.mk.injEq,DataW.agg.injEq,List.cons.injEq,and_true]at hx;obtain⟨⟨x0,x1,x2,x3⟩,_⟩:=hx
 match cs,hl with
 |[c0,c1,c2,c3,c4,c5,c6],_=>
  simp only[cI,cCh,List.drop_zero,List.drop_succ_cons,List.take_succ_cons,List.take_zero]at h0 h1 h2 h3;obtain⟨n0,e0,g0,_⟩:=DataW.trod_int Tryz.underlying2 h0;obtain⟨n1,e1,g1,_⟩:=DataW.trod_int Tryz.underlying2 h1;obtain⟨n2,e2,g2,_⟩:=DataW.trod_int Tryz.underlying2 h2;obtain⟨y30,y31⟩:=y3;dsimp only at x3;rw[←x3]at h3;have e3:=z54 h3;simp only[List.cons.injEq,and_true]at e0 e1 e2 e3;rw[g0]at x0;rw[g1]at x1;rw[g2]at x2;simp at x0 x1 x2;obtain⟨e3,e4,e5,e6⟩:=e3;rw[e0,e1,e2,e3,e4,e5,e6,x0,x1,x2]
end
end
def z1w(x y:ActD):Bool:=(x.kind==y.kind) && ((x.key==y.key) && (x.val==y.val))
def sameAs:List ActD→List ActD→Bool
 |[],[]=>true
 |x::r,y::s=>z1w x y && sameAs r s
 |_,_=>false
def z1c(x y:TxnD):Bool:=(x.id==y.id) && (x.session==y.session) && (x.seq==y.seq) && sameAs x.acts y.acts
def sameTs:List TxnD→List TxnD→Bool
 |[],[]=>true
 |x::r,y::s=>z1c x y && sameTs r s
 |_,_=>false
theorem z11{α:Type}{f:α→α→Bool}{g:List α→List α→Bool}(h0:g [] []=true)(h1:∀x r y s,g (x::r) (y::s)=(f x y && g r s))(h2:∀x r,g (x::r) []=false)(h3:∀y s,g [] (y::s)=false):
  ∀a b,a.length≠b.length→g a b=false:=by
 intro a;induction a with
 |nil=>intro b h;cases b with|nil=>simp at h|cons y s=>exact h3 y s
 |cons x r ih=>intro b h;cases b with|nil=>exact h2 x r|cons y s=>rw[h1,ih s (by simpa using h)];simp
theorem z12{α:Type}{f:α→α→Bool}{g:List α→List α→Bool}(d:α)(h1:∀x r y s,g (x::r) (y::s)=(f x y && g r s)):
  ∀a b k,a.length=b.length→k<a.length→f (a.getD k d) (b.getD k d)=false→g a b=false:=by
 intro a;induction a with
 |nil=>intro b k _ h;simp at h
 |cons x r ih=>
  intro b k hl hk hf
  cases b with
  |nil=>simp at hl
  |cons y s=>
   rw[h1]
   cases k with
   |zero=>simp[List.getD]at hf;simp[hf]
   |succ k=>rw[ih s k (by simpa using hl) (by simpa using hk) (by simpa[List.getD]using hf)];simp
theorem z13{α:Type}{f:α→α→Bool}{g:List α→List α→Bool}(d:α)(h0:g [] []=true)(h1:∀x r y s,g (x::r) (y::s)=(f x y && g r s)):
  ∀a b,a.length=b.length→(∀k,k<a.length→f (a.getD k d) (b.getD k d)=true)→g a b=true:=by
 intro a;induction a with
 |nil=>intro b hl _;cases b with|nil=>exact h0|cons y s=>simp at hl
 |cons x r ih=>
  intro b hl hf
  cases b with
  |nil=>simp at hl
  |cons y s=>
   rw[h1,ih s (by simpa using hl) (fun k hk=>by simpa[List.getD]using hf (k+1) (by simpa using hk))];have:=hf 0 (by simp);simp[List.getD]at this;simp[this]
theorem z4v(x0 x1 x2 y0 y1 y2:Int)(w:World):(binOp .neq 163 (.agg #[.int .i64 x0,.int .i64 x1,.int .i64 x2]) (.agg #[.int .i64 y0,.int .i64 y1,.int .i64 y2])).run Tryz.prog w=.ok (.bool (!z1w ⟨x0,x1,x2⟩ ⟨y0,y1,y2⟩)) w:=by
 rw[run_neq_struct,run_equalIn_struct (P:=Tryz.prog) w 9999 163 _ _ (by kernel_rfl) (by kernel_rfl)];have c1:Tryz.prog.cellsOf 2=1:=by kernel_rfl
 cases h0:(x0==y0)<;>cases h1:(x1==y1)<;>cases h2:(x2==y2)<;>simp[Program.fieldsOf,Tryz.underlying163,Op.eqFields,go_sem,Tryz.underlying2,h0,h1,h2,z1w,c1]
theorem z7w(a a':Option Addr)(cap d:Nat)(xs ys:List ActD)(w:World)(h:ActRow w a xs)(h':ActRow w a' ys)(hl:xs.length≤1048576)(M:ys.length≤1048576):
  Calls Tryz.prog 101 #[.slice a xs.length cap,.slice a' ys.length d] w fun e w'=>e=.returned (.bool (sameAs xs ys))∧Below w.heap.size w w':=by
 by_cases c:xs.length=ys.length
 case neg=>
  have E:sameAs xs ys=false:=z11 (f:=z1w) rfl (fun _ _ _ _=>rfl) (fun _ _=>rfl) (fun _ _=>rfl) xs ys c;rw[E];have hd:((xs.length:Int) !=(ys.length:Int))=true:=by simp;omega
  go_enter Tryz.func101,Tryz.ntmps101
  go_wp2
  go_ret;exact⟨rfl,Below.refl _ _⟩
 case pos=>
  have hd:((xs.length:Int) !=(ys.length:Int))=false:=by simp[c]
  have HL:Hid (xs.length=ys.length):=c;clear c;go_enter Tryz.func101,Tryz.ntmps101
  go_wp2
  go_loopw[13] (fun i wr=>∃k m:Nat,k≤xs.length∧i=.int .i64 k∧wr=w.drewN m∧Hid (∀j,j<k→z1w (xs.getD j z0i) (ys.getD j z0i)=true)) (fun i _=>xs.length-(intOf i).toNat)
  case atStart=>exact⟨0,0,Nat.zero_le _,rfl,rfl,fun j hj=>absurd hj (Nat.not_lt_zero _)⟩
  case round=>
   obtain⟨k,m,hk,rfl,rfl,HA⟩:=hrel;by_cases C:k<xs.length
   ·have D:k<ys.length:=by have:=HL.out;omega
    obtain⟨b,N,rfl,L,q,r,s⟩:=h.at k C;obtain⟨b',J,rfl,I,x,y,A⟩:=h'.at k D
    cases hs:z1w (xs.getD k z0i) (ys.getD k z0i)
    case false=>
     have E:Hid (sameAs xs ys=false):=z12 (f:=z1w) z0i (fun _ _ _ _=>rfl) xs ys k HL.out C hs;have hr:=z4v (xs.getD k z0i).kind (xs.getD k z0i).key (xs.getD k z0i).val (ys.getD k z0i).kind (ys.getD k z0i).key (ys.getD k z0i).val;rw[show z1w ⟨(xs.getD k z0i).kind,(xs.getD k z0i).key,(xs.getD k z0i).val⟩ ⟨(ys.getD k z0i).kind,(ys.getD k z0i).key,(ys.getD k z0i).val⟩=false from hs,Bool.not_false]at hr;clear HA hs;generalize xs.getD k z0i=z at q r s hr;generalize ys.getD k z0i=z' at x y A hr
     go_wp2
     go_quiet (fail)
     go_wp2
     go_ret;rw[E.out];exact⟨rfl,⟨rfl,rfl,rfl,Nat.le_refl _,fun _ _=>rfl⟩⟩
    case true=>
     have HB:Hid (∀j,j<k+1→z1w (xs.getD j z0i) (ys.getD j z0i)=true):=by
      intro j hj;by_cases G:j=k
      ·subst G;exact hs
      ·exact HA.out j (by omega)
     have hr:=z4v (xs.getD k z0i).kind (xs.getD k z0i).key (xs.getD k z0i).val (ys.getD k z0i).kind (ys.getD k z0i).key (ys.getD k z0i).val;rw[show z1w ⟨(xs.getD k z0i).kind,(xs.getD k z0i).key,(xs.getD k z0i).val⟩ ⟨(ys.getD k z0i).kind,(ys.getD k z0i).key,(ys.getD k z0i).val⟩=true from hs,Bool.not_true]at hr;clear HA hs;generalize xs.getD k z0i=z at q r s hr;generalize ys.getD k z0i=z' at x y A hr
     go_wp2
     go_quiet (fail)
     go_wp2
     go_roundw
     case rel=>exact⟨k+1,_,by omega,by go_num,rfl,HB⟩
     case measure=>simp[intOf];omega
   ·have E:Hid (sameAs xs ys=true):=z13 (f:=z1w) z0i rfl (fun _ _ _ _=>rfl) xs ys HL.out (fun j hj=>HA.out j (by omega));clear HA
    go_wp2
    go_ret;rw[E.out];exact⟨rfl,⟨rfl,rfl,rfl,Nat.le_refl _,fun _ _=>rfl⟩⟩
theorem z3i(x y:TxnD):((x.id==y.id)=false∧z1c x y=false)∨((x.id==y.id)=true∧(x.session==y.session)=false∧z1c x y=false)∨((x.id==y.id)=true∧(x.session==y.session)=true∧(x.seq==y.seq)=false∧z1c x y=false)∨
  ((x.id==y.id)=true∧(x.session==y.session)=true∧(x.seq==y.seq)=true∧z1c x y=sameAs x.acts y.acts):=by
 unfold z1c
 cases h1:(x.id==y.id)<;>cases h2:(x.session==y.session)<;>cases h3:(x.seq==y.seq)<;>simp
theorem z5n(x y:TxnD)(a a':Option Addr)(cap cap':Nat)(w:World)(h:ActRow w a x.acts)(h':ActRow w a' y.acts)(hl:x.acts.length≤1048576)(hl':y.acts.length≤1048576):
    Calls Tryz.prog 53 #[.agg #[.int .i64 x.id,.int .i64 x.session,.int .i64 x.seq,.slice a x.acts.length cap],.agg #[.int .i64 y.id,.int .i64 y.session,.int .i64 y.seq,.slice a' y.acts.length cap']] w fun e w'=>e=.returned (.bool (z1c x y))∧Below w.heap.size w w':=by
  have hq:=fun w h h'=>z7w a a' cap cap' x.acts y.acts w h h' hl hl'
  rcases z3i x y with⟨h1,e⟩|⟨h1,h2,e⟩|⟨h1,h2,h3,e⟩|⟨h1,h2,h3,e⟩<;>rw[e]<;>clear e;all_goals
    (generalize sameAs x.acts y.acts=r at hq
     obtain⟨x0,x1,x2,xs⟩:=x;obtain⟨y0,y1,y2,ys⟩:=y;dsimp only at *)
  all_goals
    (go_enter Tryz.func53,Tryz.ntmps53
     go_wp2_with (go_at_call 101;refine(hq _ (h.below (by go_grown)) (h'.below (by go_grown))).mono ?_;rintro e w' ⟨rfl,hb⟩)
     go_ret)
  · exact⟨rfl,by go_grown⟩
  · exact⟨rfl,by go_grown⟩
  · exact⟨rfl,by go_grown⟩
  · exact⟨rfl,z0u (by go_grown) hb⟩
theorem z2Q(v v':Value)(xs ys:List TxnD)(w:World)(h:TxnsAt w v xs)(h':TxnsAt w v' ys)(hl:xs.length+z4G xs≤1048576)(ab:ys.length+z4G ys≤1048576):
  Calls Tryz.prog 58 #[v,v',.func (.func 53) #[] #[]] w fun e w'=>e=.returned (.bool (sameTs xs ys))∧Below w.heap.size w w':=by
 obtain⟨a,cap,rfl⟩:=h.shape;obtain⟨a',X,rfl⟩:=h'.shape;by_cases d:xs.length=ys.length
 case neg=>
  have E:sameTs xs ys=false:=z11 (f:=z1c) rfl (fun _ _ _ _=>rfl) (fun _ _=>rfl) (fun _ _=>rfl) xs ys d;rw[E];have hd:((xs.length:Int) !=(ys.length:Int))=true:=by simp;omega
  go_enter Tryz.func58,Tryz.ntmps58
  go_wp2
  go_ret;exact⟨rfl,Below.refl _ _⟩
 case pos=>
  have hd:((xs.length:Int) !=(ys.length:Int))=false:=by simp[d]
  have HL:Hid (xs.length=ys.length):=d;clear d;go_enter Tryz.func58,Tryz.ntmps58
  go_wp2
  go_loopw[17] (fun i wr=>∃k:Nat,k≤xs.length∧i=.int .i64 k∧Below w.heap.size w wr∧Hid (∀j,j<k→z1c (xs.getD j z0q) (ys.getD j z0q)=true)) (fun i _=>xs.length-(intOf i).toNat)
  case atStart=>exact⟨0,Nat.zero_le _,rfl,Below.refl _ _,fun j hj=>absurd hj (Nat.not_lt_zero _)⟩
  case round=>
   obtain⟨k,hk,rfl,hb,HA⟩:=hrel;by_cases M:k<xs.length
   ·have L:k<ys.length:=by have:=HL.out;omega
    obtain⟨b,ae,aa,cc,rfl,Z,r,s,x,y,hA⟩:=(h.below hb).at k M;obtain⟨b',Y,O,T,rfl,N,A,C,D,G,c⟩:=(h'.below hb).at k L;have J:(xs.getD k z0q).acts.length≤z4G xs:=z1e (by simp[List.getD,M]);have q:(ys.getD k z0q).acts.length≤z4G ys:=z1e (by simp[List.getD,L]);have hq:=fun w h h'=>z5n (xs.getD k z0q) (ys.getD k z0q) aa O cc T w h h' (by omega) (by omega)
    have ad:=hb.size;have U:∀ (o:Obj) (j:Nat),(wr.alloc o).cell? ⟨b',j,none⟩=wr.cell? ⟨b',j,none⟩:=fun o j=>(show Below wr.heap.size wr (wr.alloc o) by go_grown).cell (p:=⟨b',j,none⟩) N
    cases hs:z1c (xs.getD k z0q) (ys.getD k z0q)
    case false=>
     have E:Hid (sameTs xs ys=false):=z12 (f:=z1c) z0q (fun _ _ _ _=>rfl) xs ys k HL.out M hs;rw[hs]at hq;clear HA hs;generalize xs.getD k z0q=z at r s x y hA hq J;generalize ys.getD k z0q=z' at A C D G c hq q;obtain⟨z0,z1,z2,zs⟩:=z;obtain⟨y0,y1,y2,us⟩:=z';dsimp only at r s x y hA A C D G c hq J q
     go_wp2_with fail
     refine(hq _ (hA.below (by go_grown)) (c.below (by go_grown))).mono ?_;rintro e w2 ⟨rfl,I⟩
     go_wp2
     go_ret;rw[E.out];exact⟨rfl,z0u (z0u hb (by go_grown)) I⟩
    case true=>
     have HB:Hid (∀j,j<k+1→z1c (xs.getD j z0q) (ys.getD j z0q)=true):=by
      intro j hj;by_cases W:j=k
      ·subst W;exact hs
      ·exact HA.out j (by omega)
     rw[hs]at hq;clear HA hs;generalize xs.getD k z0q=z at r s x y hA hq J;generalize ys.getD k z0q=z' at A C D G c hq q;obtain⟨z0,z1,z2,zs⟩:=z;obtain⟨y0,y1,y2,us⟩:=z';dsimp only at r s x y hA A C D G c hq J q
     go_wp2_with fail
     refine(hq _ (hA.below (by go_grown)) (c.below (by go_grown))).mono ?_;rintro e w2 ⟨rfl,I⟩;have V:=z0u (z0u hb (by go_grown)) I;clear I U r s x y A C D G hA c hq
     go_wp2
     go_roundw
     case rel=>exact⟨k+1,by omega,by go_num,V,HB⟩
     case measure=>simp[intOf];omega
   ·have E:Hid (sameTs xs ys=true):=z13 (f:=z1c) z0q rfl (fun _ _ _ _=>rfl) xs ys HL.out (fun j hj=>HA.out j (by omega));clear HA
    go_wp2
    go_ret;rw[E.out];exact⟨rfl,hb⟩
theorem z1n(v v':Value)(xs ys:List TxnD)(w:World)(h:TxnsAt w v xs)(h':TxnsAt w v' ys)(hl:xs.length+z4G xs≤1048576)(hl':ys.length+z4G ys≤1048576):
  Calls Tryz.prog 22 #[v,v'] w fun e w'=>e=.returned (.bool (sameTs xs ys))∧Below w.heap.size w w':=by
 have hq:=z2Q v v' xs ys w h h' hl hl';generalize sameTs xs ys=r at hq;go_enter Tryz.func22,Tryz.ntmps22
 go_wp2_with fail
 refine hq.mono ?_;rintro e w2 ⟨rfl,hb⟩
 go_wp2
 go_ret;exact⟨rfl,hb⟩
theorem z6D(x y:TxnD):((x.id !=y.id)=true∧z1c x y=false)∨((x.id !=y.id)=false∧(x.session !=y.session)=true∧z1c x y=false)∨((x.id !=y.id)=false∧(x.session !=y.session)=false∧(x.seq !=y.seq)=true∧z1c x y=false)∨
  ((x.id !=y.id)=false∧(x.session !=y.session)=false∧(x.seq !=y.seq)=false∧((x.acts.length:Int) !=(y.acts.length:Int))=true∧z1c x y=false)∨
  ((x.id !=y.id)=false∧(x.session !=y.session)=false∧(x.seq !=y.seq)=false∧((x.acts.length:Int) !=(y.acts.length:Int))=false∧z1c x y=sameAs x.acts y.acts):=by
 by_cases hl:x.acts.length=y.acts.length
 ·rcases z3i x y with⟨h1,e⟩|⟨h1,h2,e⟩|⟨h1,h2,h3,e⟩|⟨h1,h2,h3,e⟩<;>simp[bne, *]
 ·have hs:sameAs x.acts y.acts=false:=z11 (f:=z1w) rfl (fun _ _ _ _=>rfl) (fun _ _=>rfl) (fun _ _=>rfl) _ _ hl;have hl2:¬((x.acts.length:Int)=(y.acts.length:Int)):=by omega
  rcases z3i x y with⟨h1,e⟩|⟨h1,h2,e⟩|⟨h1,h2,h3,e⟩|⟨h1,h2,h3,e⟩<;>simp[bne, *]
theorem z7x(x y:TxnD)(b o b' o':Nat)(a a':Option Addr)(cap d:Nat)(w:World)(hB:Box4 w b o (.int .i64 x.id) (.int .i64 x.session) (.int .i64 x.seq) (.slice a x.acts.length cap))(J:Box4 w b' o' (.int .i64 y.id) (.int .i64 y.session) (.int .i64 y.seq) (.slice a' y.acts.length d))
  (h:ActRow w a x.acts) (h':ActRow w a' y.acts) (hl:x.acts.length≤1048576) (U:y.acts.length≤1048576):
  Calls Tryz.prog 160 #[.pointer (some ⟨b,o,none⟩),.pointer (some ⟨b',o',none⟩)] w fun e w'=>e=.returned (.bool (z1c x y))∧Below w.heap.size w w':=by
 obtain⟨c0,c1,c2,c3⟩:=hB;obtain⟨d0,d1,d2,d3⟩:=J;rcases z6D x y with⟨h1,e⟩|⟨h1,h2,e⟩|⟨h1,h2,h3,e⟩|⟨h1,h2,h3,h4,e⟩|⟨h1,h2,h3,h4,e⟩<;>rw[e]<;>clear e<;>obtain⟨x0,x1,x2,xs⟩:=x<;>obtain⟨y0,y1,y2,ys⟩:=y<;>dsimp only at*
 ·go_enter Tryz.func160,Tryz.ntmps160
  go_wp2_with fail
  go_quiet (fail)
  go_wp2
  go_ret;exact⟨rfl,⟨rfl,rfl,rfl,Nat.le_refl _,fun _ _=>rfl⟩⟩
 ·go_enter Tryz.func160,Tryz.ntmps160
  go_wp2_with fail
  go_quiet (fail)
  go_wp2
  go_ret;exact⟨rfl,⟨rfl,rfl,rfl,Nat.le_refl _,fun _ _=>rfl⟩⟩
 ·go_enter Tryz.func160,Tryz.ntmps160
  go_wp2_with fail
  go_quiet (fail)
  go_wp2
  go_ret;exact⟨rfl,⟨rfl,rfl,rfl,Nat.le_refl _,fun _ _=>rfl⟩⟩
 ·go_enter Tryz.func160,Tryz.ntmps160
  go_wp2_with fail
  go_quiet (fail)
  go_wp2
  go_ret;exact⟨rfl,⟨rfl,rfl,rfl,Nat.le_refl _,fun _ _=>rfl⟩⟩
 ·have c:xs.length=ys.length:=by simp at h4;omega
  have HL:Hid (xs.length=ys.length):=c;clear c;go_enter Tryz.func160,Tryz.ntmps160
  go_wp2_with fail
  go_quiet (fail)
  go_wp2
  go_loopw[5] (fun i wr=>∃k m:Nat,k≤xs.length∧i=.int .i64 k∧wr=w.drewN m∧Hid (∀j,j<k→z1w (xs.getD j z0i) (ys.getD j z0i)=true)) (fun i _=>xs.length-(intOf i).toNat)
  case atStart=>exact⟨0,_,Nat.zero_le _,rfl,rfl,fun j hj=>absurd hj (Nat.not_lt_zero _)⟩
  case round=>
   obtain⟨k,m,hk,rfl,rfl,HA⟩:=hrel;by_cases G:k<xs.length
   ·have I:k<ys.length:=by have:=HL.out;omega
    obtain⟨bb,V,rfl,T,q,r,s⟩:=h.at k G;obtain⟨O,N,rfl,M,A,C,D⟩:=h'.at k I;have hr:=z4v (xs.getD k z0i).kind (xs.getD k z0i).key (xs.getD k z0i).val (ys.getD k z0i).kind (ys.getD k z0i).key (ys.getD k z0i).val
    cases hs:z1w (xs.getD k z0i) (ys.getD k z0i)
    case false=>
     have E:Hid (sameAs xs ys=false):=z12 (f:=z1w) z0i (fun _ _ _ _=>rfl) xs ys k HL.out G hs;rw[show z1w ⟨(xs.getD k z0i).kind,(xs.getD k z0i).key,(xs.getD k z0i).val⟩ ⟨(ys.getD k z0i).kind,(ys.getD k z0i).key,(ys.getD k z0i).val⟩=false from hs,Bool.not_false]at hr;clear HA hs;generalize xs.getD k z0i=z at q r s hr;generalize ys.getD k z0i=z' at A C D hr
     go_wp2
     go_quiet (fail)
     go_wp2
     go_ret;rw[E.out];exact⟨rfl,⟨rfl,rfl,rfl,Nat.le_refl _,fun _ _=>rfl⟩⟩
    case true=>
     have HB:Hid (∀j,j<k+1→z1w (xs.getD j z0i) (ys.getD j z0i)=true):=by
      intro j hj;by_cases L:j=k
      ·subst L;exact hs
      ·exact HA.out j (by omega)
     rw[show z1w ⟨(xs.getD k z0i).kind,(xs.getD k z0i).key,(xs.getD k z0i).val⟩ ⟨(ys.getD k z0i).kind,(ys.getD k z0i).key,(ys.getD k z0i).val⟩=true from hs,Bool.not_true]at hr;clear HA hs;generalize xs.getD k z0i=z at q r s hr;generalize ys.getD k z0i=z' at A C D hr
     go_wp2
     go_quiet (fail)
     go_wp2
     go_roundw
     case rel=>exact⟨k+1,_,by omega,by go_num,rfl,HB⟩
     case measure=>simp[intOf];omega
   ·have E:Hid (sameAs xs ys=true):=z13 (f:=z1w) z0i rfl (fun _ _ _ _=>rfl) xs ys HL.out (fun j hj=>HA.out j (by omega));clear HA
    go_wp2
    go_ret;rw[E.out];exact⟨rfl,⟨rfl,rfl,rfl,Nat.le_refl _,fun _ _=>rfl⟩⟩
def q1E:Value→Option Addr
 | .slice a _ _=>a
 |_=>none
def q1N:Value→Nat
 | .slice _ _ k=>k
 |_=>0
def TxnQ.p'(q:TxnQ):TxnP:=⟨q.e,q1E q.va,q1N q.va⟩
theorem TxnQ.p_cells'{w:World}{q:TxnQ}(h:actK.At w q.va q.acts):q.p'.cells=txnK.cells q:=by
 obtain⟨a,c,e⟩:=h.shape;show [_,_,_,_]=[_,_,_,_]
 simp only[TxnP.sl,TxnQ.p',TxnQ.e,e,q1E,q1N]
theorem z0o{w:World}{v:Value}{ps:List TxnQ}(h:txnK.At w v ps):TxnsAt w v (ps.map TxnQ.e):=by
 obtain⟨a,cap,e,hL,hr⟩:=h;refine⟨a,cap,ps.map TxnQ.p',by rw[List.length_map];exact e,by simp only[List.map_map];rfl,?_,?_⟩
 ·have e2:z0B (ps.map TxnQ.p')=txnK.row ps:=by
   clear hL e;induction ps with
   |nil=>rfl
   |cons q r ih=>
    have h1:q.p'.cells=txnK.cells q:=TxnQ.p_cells' (hr q (by simp));have h2:=ih (fun p hp=>hr p (List.mem_cons_of_mem _ hp));show q.p'.cells++z0B (r.map TxnQ.p')=txnK.cells q++txnK.row r;rw[h1,h2]
  rw[e2];exact hL
 ·intro p hp;obtain⟨q,hq,rfl⟩:=List.mem_map.1 hp;have h1:actK.At w q.va q.acts:=hr q hq;obtain⟨a',c',e',hl',_⟩:=h1;show ActRow w (q1E q.va) q.acts;rw[e'];exact hl'
theorem z07(ps:List TxnQ):z4G (ps.map TxnQ.e)=nmL TxnQ.n ps:=by
 simp only[z4G,nmL,List.map_map];rfl
theorem z16(v v':Value)(xs ys:List TxnD)(w:World)(h:TxnsAt w v xs)(h':TxnsAt w v' ys)(hl:xs.length+z4G xs≤1048576)(ad:ys.length+z4G ys≤1048576):
  Calls Tryz.prog 102 #[v,v'] w fun e w'=>e=.returned (.bool (sameTs xs ys))∧Below w.heap.size w w':=by
 obtain⟨a,cap,rfl⟩:=h.shape;obtain⟨a',Y,rfl⟩:=h'.shape;by_cases c:xs.length=ys.length
 case neg=>
  have E:sameTs xs ys=false:=z11 (f:=z1c) rfl (fun _ _ _ _=>rfl) (fun _ _=>rfl) (fun _ _=>rfl) xs ys c;rw[E];have hd:((xs.length:Int) !=(ys.length:Int))=true:=by simp;omega
  go_enter Tryz.func102,Tryz.ntmps102
  go_wp2
  go_ret;exact⟨rfl,Below.refl _ _⟩
 case pos=>
  have hd:((xs.length:Int) !=(ys.length:Int))=false:=by simp[c]
  have HL:Hid (xs.length=ys.length):=c;clear c;go_enter Tryz.func102,Tryz.ntmps102
  go_wp2
  go_loopw[5] (fun i wr=>∃k:Nat,k≤xs.length∧i=.int .i64 k∧Below w.heap.size w wr∧Hid (∀j,j<k→z1c (xs.getD j z0q) (ys.getD j z0q)=true)) (fun i _=>xs.length-(intOf i).toNat)
  case atStart=>exact⟨0,Nat.zero_le _,rfl,Below.refl _ _,fun j hj=>absurd hj (Nat.not_lt_zero _)⟩
  case round=>
   obtain⟨k,hk,rfl,hb,HA⟩:=hrel;by_cases y:k<xs.length
   ·have s:k<ys.length:=by have:=HL.out;omega
    obtain⟨b,r,aa,cc,rfl,ab,G,I,J,L,hA⟩:=(h.below hb).at k y;obtain⟨b',d,V,W,rfl,Z,M,N,O,T,A⟩:=(h'.below hb).at k s;have U:(xs.getD k z0q).acts.length≤z4G xs:=z1e (by simp[List.getD,y]);have x:(ys.getD k z0q).acts.length≤z4G ys:=z1e (by simp[List.getD,s]);have C:Box4 wr b (r+k*4) _ _ _ _:=⟨G,I,J,L⟩
    have D:Box4 wr b' (d+k*4) _ _ _ _:=⟨M,N,O,T⟩
    have hq:=fun(w':World) (hW:Below wr.heap.size wr w')=>z7x (xs.getD k z0q) (ys.getD k z0q) b (r+k*4) b' (d+k*4) aa V cc W w' (C.below hW) (D.below hW) (hA.below hW) (A.below hW) (by omega) (by omega)
    clear C D hA A G I J L M N O T
    cases hs:z1c (xs.getD k z0q) (ys.getD k z0q)
    case false=>
     have E:Hid (sameTs xs ys=false):=z12 (f:=z1c) z0q (fun _ _ _ _=>rfl) xs ys k HL.out y hs;rw[hs]at hq;clear HA hs U x;have hW:Below wr.heap.size wr wr.drew:=(Below.refl _ _).drew;have z:Nonempty (Lat wr):=⟨⟨wr,Below.refl _ _⟩⟩
     go_wp2_with fail
     refine z0b (S:=fun w'=>∃u:Lat wr,w'=u.val) (by kernel_rfl) ?_;refine sgr [(0,6)] 2 (by kernel_rfl) ⟨⟨_,hW⟩,rfl⟩ ?_;simp only[pkE];repeat go_big_quiet_step (fail)
     refine wpQuiet_nil ?_;refine cla 6 (some 23) 160 #[.pointer (some ⟨b,r+k*4,none⟩),.pointer (some ⟨b',d+k*4,none⟩)] 1 (by kernel_rfl) ?_;refine(hq _ hW).mono ?_;rintro e w2 ⟨rfl,q⟩;replace hW:=hW.trans (q.mono hW.size);clear q hq;refine⟨_,rfl,⟨⟨_,hW⟩,rfl⟩,?_⟩;simp only[Act.put,pjE];refine sgr [(7,1)] 0 (by kernel_rfl) ⟨⟨_,hW⟩,rfl⟩ ?_;simp only[pkE];repeat go_big_quiet_step (fail)
     refine wpQuiet_nil ?_;refine z0e (by kernel_rfl) ?_;replace hb:=hb.trans (hW.mono hb.size);clear hW z
     go_wp2
     go_ret;rw[E.out];exact⟨rfl,hb⟩
    case true=>
     have HB:Hid (∀j,j<k+1→z1c (xs.getD j z0q) (ys.getD j z0q)=true):=by
      intro j hj;by_cases X:j=k
      ·subst X;exact hs
      ·exact HA.out j (by omega)
     rw[hs]at hq;clear HA hs U x;have hW:Below wr.heap.size wr wr.drew:=(Below.refl _ _).drew;have z:Nonempty (Lat wr):=⟨⟨wr,Below.refl _ _⟩⟩
     go_wp2_with fail
     refine z0b (S:=fun w'=>∃u:Lat wr,w'=u.val) (by kernel_rfl) ?_;refine sgr [(0,6)] 2 (by kernel_rfl) ⟨⟨_,hW⟩,rfl⟩ ?_;simp only[pkE];repeat go_big_quiet_step (fail)
     refine wpQuiet_nil ?_;refine cla 6 (some 23) 160 #[.pointer (some ⟨b,r+k*4,none⟩),.pointer (some ⟨b',d+k*4,none⟩)] 1 (by kernel_rfl) ?_;refine(hq _ hW).mono ?_;rintro e w2 ⟨rfl,q⟩;replace hW:=hW.trans (q.mono hW.size);clear q hq;refine⟨_,rfl,⟨⟨_,hW⟩,rfl⟩,?_⟩;simp only[Act.put,pjE];refine sgr [(7,1)] 0 (by kernel_rfl) ⟨⟨_,hW⟩,rfl⟩ ?_;simp only[pkE];repeat go_big_quiet_step (fail)
     refine wpQuiet_nil ?_;refine z0e (by kernel_rfl) ?_;replace hb:=hb.trans (hW.mono hb.size);clear hW z
     go_wp2
     go_roundw
     case rel=>exact⟨k+1,by omega,by go_num,hb,HB⟩
     case measure=>simp[intOf];omega
   ·have E:Hid (sameTs xs ys=true):=z13 (f:=z1c) z0q rfl (fun _ _ _ _=>rfl) xs ys HL.out (fun j hj=>HA.out j (by omega));clear HA
    go_wp2
    go_ret;rw[E.out];exact⟨rfl,hb⟩
def diV(ds:List InstE):Int:=if ordF ds=0 then(decN ds:Int)else 0
theorem z3j(ps:List InstQ)(hlt:ps.length-1<ps.length):z1z (ps.map InstQ.e)=InstQ.e ps[ps.length-1]:=by
 unfold z1z;rw[List.length_map];exact z4u ps _ hlt
theorem z0H(v:Value)(ps:List InstQ)(w:World)(hG:Rul w)(h:instK.At w v ps)(hl:(ps.length+nmL InstQ.n ps)≤1048576):
  Calls Tryz.prog 13 #[v] w fun e w'=>e=.returned (.agg #[.int .i64 (ordF (ps.map InstQ.e)),.int .i64 (diV (ps.map InstQ.e))])∧Below w.heap.size w w':=by
 have T:=fun w hG h=>z0L v ps w hG h hl
 have HO:Hid (ordF (ps.map InstQ.e)=0→1≤ps.length∧ps.length≤4∧∀q∈ps,insF (InstQ.e q)=0):=fun h0=>by
  have:=((z0P _).1 h0).1;rw[List.length_map]at this;exact⟨this.1,this.2,fun q hq=>z1m h0 _ (List.mem_map.2 ⟨q,hq,rfl⟩)⟩
 have HV:Hid ((ordF (ps.map InstQ.e)=0→diV (ps.map InstQ.e)=(decN (ps.map InstQ.e):Int))∧(ordF (ps.map InstQ.e)≠0→diV (ps.map InstQ.e)=0)):=⟨fun h0=>if_pos h0,fun h0=>if_neg h0⟩
 obtain⟨a,cap,rfl⟩:=h.shape;generalize ordF (ps.map InstQ.e)=C at*;generalize diV (ps.map InstQ.e)=V at*;have hB:Below w.heap.size w (w.alloc (.cells #[.int .i64 0,.int .i64 0] 38)):=by go_grown
 have Rb:=Blk.new w 38 #[.int .i64 0,.int .i64 0];go_enter Tryz.func13,Tryz.ntmps13
 go_wp2_with fail
 generalize w.alloc (.cells #[.int .i64 0,.int .i64 0] 38)=W at*;refine(T W (hG.below hB) (h.below hB)).mono ?_;rintro e w1 ⟨rfl,hb⟩;replace hB:=hB.trans (hb.mono hB.size);replace Rb:=Rb.below hb;clear hb T;by_cases hC:C=0
 ·obtain⟨h1,h4,O⟩:=HO.out hC;have hv:=HV.out.1 hC;subst hC;have r:ps.length-1<ps.length:=by omega
  have I:=O _ (List.getElem_mem r);have s:=q06 (InstQ.e ps[ps.length-1]);have z:Hid (outV (InstQ.e ps[ps.length-1]).dec=3→V=(ps.length:Int)-1):=fun h3=>by
   rw[hv];unfold decN;rw[z3j ps r,if_pos h3,List.length_map];omega
  have A:Hid (outV (InstQ.e ps[ps.length-1]).dec≠3→V=(ps.length:Int)):=fun h3=>by
   rw[hv];unfold decN;rw[z3j ps r,if_neg h3,List.length_map]
  rw[I]at s;have hn:InstQ.n ps[ps.length-1]≤1048576:=by have:=z3F ps _ r;omega
  have G:=z2t ps[ps.length-1];have M:=fun w hG h=>G w hG h hn
  clear G O I hv HV HO hn;obtain⟨b,X,rfl,Z,hc,D⟩:=(h.below hB).cell (by decide) (ps.length-1) r;have d:∀j x,(instK.cells ps[ps.length-1])[j]?=some x→w1.cell? ⟨b,X+(ps.length-1)*4+j,none⟩=some x:=hc;have c0:=d 0 (.bool ps[ps.length-1].has) rfl;have c1:=d 1 ps[ps.length-1].vb rfl;have c2:=d 2 ps[ps.length-1].vr rfl;have c3:=d 3 ps[ps.length-1].vd rfl;rw[Nat.add_zero]at c0;clear hc d;have N:((ps.length:Int)-1).toNat=ps.length-1:=by omega
  generalize ocC (InstQ.e ps[ps.length-1])=OC at*;generalize outV (InstQ.e ps[ps.length-1]).dec=OV at*;generalize ps[ps.length-1]=p at*;generalize hm:ps.length-1=m at*;have U:(ps.length:Int)-1=(m:Int):=by omega
  have y:ps.length=m+1:=by omega
  rw[U]at z;rw[y]at h4 A⊢;rw[y]at*;clear hm N U y;obtain⟨has,vb,J,vr,E,vd,dec⟩:=p;obtain⟨ba,bk,rfl⟩:∃a c,vb=.slice a J.length c:=D.1.shape;obtain⟨va,vk,rfl⟩:∃a c,vr=.slice a E.length c:=D.2.1.shape;obtain⟨da,dk,rfl⟩:∃a c,vd=.slice a dec.length c:=D.2.2.shape;dsimp only at c0 c1 c2 c3 M;obtain⟨q0,q1⟩:=Rb.cel2;obtain⟨f0,f1⟩:=Rb.frz2;clear q0 q1 f0 f1
  go_wp2_with fail
  refine(M w1 (hG.below hB) D).mono ?_;rintro e w3 ⟨rfl,L⟩;replace hB:=hB.trans (L.mono hB.size);replace Rb:=Rb.below L;obtain⟨q0,q1⟩:=Rb.cel2;obtain⟨f0,f1⟩:=Rb.frz2;clear L M c0 c1 c2 c3;by_cases hO:OV=3
  ·have e1:(OC==0)=false:=by rw[s,hO];rfl
   have E1:Hid (V=(m:Int)):=z.out hO;clear s z A
   go_wp2
   exact bodyPost_ret (v:=.agg #[.int .i64 0,.int .i64 m]) (by simp[results,Tryz.results13,go_sem,q0,q1]) rfl ⟨by rw[E1.out],(hB.setCell (p:=⟨w.heap.size,0,none⟩) (Nat.le_refl _) _).setCell (p:=⟨w.heap.size,1,none⟩) (Nat.le_refl _) _⟩
  ·have e1:(OC==0)=true:=by
    rw[s];have:(OV !=3)=true:=by simpa using hO
    rw[this];rfl
   have E1:Hid (V=(m:Int)+1):=by have:=A.out hO;exact this.trans (by omega)
   clear s z A
   go_wp2
   exact bodyPost_ret (v:=.agg #[.int .i64 0,.int .i64 ((m:Int)+1)]) (by simp[results,Tryz.results13,go_sem,q0,q1]) rfl ⟨by rw[E1.out],(hB.setCell (p:=⟨w.heap.size,0,none⟩) (Nat.le_refl _) _).setCell (p:=⟨w.heap.size,1,none⟩) (Nat.le_refl _) _⟩
 ·have E1:Hid (V=0):=HV.out.2 hC;have Y:(C !=0)=true:=by simpa using hC
  obtain⟨q0,q1⟩:=Rb.cel2;obtain⟨f0,f1⟩:=Rb.frz2;clear HV HO
  go_wp2
  exact bodyPost_ret (v:=.agg #[.int .i64 C,.int .i64 0]) (by simp[results,Tryz.results13,go_sem,q0,q1]) rfl ⟨by rw[E1.out],(hB.setCell (p:=⟨w.heap.size,0,none⟩) (Nat.le_refl _) _).setCell (p:=⟨w.heap.size,1,none⟩) (Nat.le_refl _) _⟩
theorem z4Z(v:Value)(ps:List InstQ)(w:World)(h:instK.At w v ps)(ad:(∀p∈ps,(∀t∈p.batch,0<t.acts.length)∧(∀r∈p.rounds,0<r.rep.length∧0<r.pro.length)∧0<p.dec.length))(hl:(ps.length+nmL InstQ.n ps)≤1048576):
  Calls Tryz.prog 65 #[v] w fun e w'=>∃v' qs,e=.returned v'∧qs.map InstQ.e=ps.map InstQ.e∧instK.Own w' v' qs∧(instK.fp v' qs).Nodup∧(∀k∈instK.fp v' qs,w.heap.size≤k)∧Below w.heap.size w w':=by
 obtain⟨a,cap,rfl⟩:=h.shape;obtain⟨i0,hi,ar,au,av⟩:=info_parts z0Y;have ho:=World.ownsRow_lit (e:=49) (size:=4) w #[] 0 (Nat.le_refl _) (by decide) rfl;have ae:instK.Own (w.alloc (.cells #[] 49)) (.slice (some ⟨w.heap.size,0,none⟩) 0 0) ([]:List InstQ):=⟨(z04 ho).1,fun p hp=>by simp at hp⟩
 have ab:Below w.heap.size w (w.alloc (.cells #[] 49)):=by go_grown
 have W:Hid ((instK.fp (.slice (some ⟨w.heap.size,0,none⟩) 0 0) ([]:List InstQ)).Nodup∧∀k∈instK.fp (.slice (some ⟨w.heap.size,0,none⟩) 0 0) ([]:List InstQ),w.heap.size≤k):=by
  refine⟨?_,?_⟩
  ·simp[Kind.fp,blk,Value.ownBlock]
  ·simp[Kind.fp,blk,Value.ownBlock]
 clear ho;go_enter Tryz.func65,Tryz.ntmps65
 go_wp2
 go_loopw[3,4] (fun v j wr=>∃ (k:Nat) (qs:List InstQ),k≤ps.length∧j=.int .i64 k∧Hid (qs.map InstQ.e=(ps.take k).map InstQ.e)∧instK.Own wr v qs∧Hid ((instK.fp v qs).Nodup∧∀k∈instK.fp v qs,w.heap.size≤k)∧Below w.heap.size w wr) (fun _ j _=>ps.length-(intOf j).toNat)
 case atStart=>exact⟨0,[],Nat.zero_le _,rfl,(rfl:_=_),ae,W,ab⟩
 case round=>
  clear W ae ab;obtain⟨k,qs,hk,rfl,HE,hO,HN,hb⟩:=hrel;obtain⟨sa,sc,rfl⟩:=hO.shape;have Y:Hid (qs.length=k):=by
   have:=congrArg List.length HE.out;rw[List.length_map,List.length_map,List.length_take]at this;show qs.length=k;omega
  by_cases G:k<ps.length
  ·obtain⟨b,ax,rfl,aC,hc,A⟩:=(h.below hb).cell (by decide) k G;have y:∀j x,(instK.cells ps[k])[j]?=some x→wr.cell? ⟨b,ax+k*4+j,none⟩=some x:=hc;have c0:=y 0 (.bool ps[k].has) rfl;have c1:=y 1 ps[k].vb rfl;have c2:=y 2 ps[k].vr rfl;have c3:=y 3 ps[k].vd rfl;rw[Nat.add_zero]at c0;have aw:=z2J InstQ.n ps k G;have d:=ad _ (List.getElem_mem G);have X:Hid (∀p':InstQ,p'.e=InstQ.e ps[k]→(qs++[p']).map InstQ.e=(ps.take (k+1)).map InstQ.e):=fun p' ao=>by
    rw[List.take_succ_eq_append_getElem G,List.map_append,List.map_append,HE.out,List.map_singleton,List.map_singleton,ao]
   clear hc y;have J:=z1q ps[k];have U:=fun w h=>J w h (by omega) d.1 d.2.1 d.2.2
   clear J HE;generalize ps[k]=p at*;obtain⟨has,vb,N,vr,I,vd,dec⟩:=p;obtain⟨ba,bk,rfl⟩:∃a c,vb=.slice a N.length c:=A.1.shape;obtain⟨va,vk,rfl⟩:∃a c,vr=.slice a I.length c:=A.2.1.shape;obtain⟨da,dk,rfl⟩:∃a c,vd=.slice a dec.length c:=A.2.2.shape;dsimp only at c0 c1 c2 c3 U
   go_wp2_with fail
   clear c0 c1 c2 c3;have V:Hid (∀x∈instK.fp (.slice sa qs.length sc) qs,x<wr.heap.size):=hO.lt;have Z:Hid (w.heap.size≤wr.heap.size):=hb.size;refine(U wr A).mono ?_;rintro e w2 ⟨q,rfl,eq,oq,nq,gq,D⟩;replace hO:=hO.below D;replace hb:=hb.trans (D.mono hb.size);have aB:=D.size;clear U D;obtain⟨qh,ay,qb,aA,qr,az,qd⟩:=q;obtain⟨x1,y1,rfl⟩:∃a c,ay=.slice a qb.length c:=oq.1.shape;obtain⟨x2,y2,rfl⟩:∃a c,aA=.slice a qr.length c:=oq.2.1.shape;obtain⟨x3,y3,rfl⟩:∃a c,az=.slice a qd.length c:=oq.2.2.shape;have s:Below w2.heap.size w2 (w2.alloc (.cells #[.bool qh,.slice x1 qb.length y1,.slice x2 qr.length y2,.slice x3 qd.length y3] 49)):=by go_grown
   have O:=hO.below s;have aa:=instK.own_out (F:=[]) oq (Out.of_below s) (fun _ _=>by simp);have E:=hb.trans (s.mono hb.size);have al:wr.heap.size≤(w2.alloc (.cells #[.bool qh,.slice x1 qb.length y1,.slice x2 qr.length y2,.slice x3 qd.length y3] 49)).heap.size:=by have:=s.size;omega
   clear hO oq;have C:=O.1
   go_wp2_with (at_builtin;refine wpList_append_own_at _ rfl _ _ 24 rfl 0 49 i0 (.agg #[.bool false,.slice none 0 0,.slice none 0 0,.slice none 0 0]) 4 80 Tryz.underlying24 hi ar au av rfl (by decide) _ qs.length (instK.row qs) rfl C ⟨w2.heap.size,0,none⟩ 1 1 [.bool qh,.slice x1 qb.length y1,.slice x2 qr.length y2,.slice x3 qd.length y3] rfl rfl ?c1 ?c2 ?c3 ?c4 ?c5 ?_)
   all_goals try(case c1=>intro j u hj;match j,hj with|0,hj=>simp at hj;subst hj;simp[Addr.add]|1,hj=>simp at hj;subst hj;simp[Addr.add]|2,hj=>simp at hj;subst hj;simp[Addr.add]|3,hj=>simp at hj;subst hj;simp[Addr.add])
   all_goals try(case c2=>intro u hu;simp at hu;rcases hu with rfl|rfl|rfl|rfl<;>rfl)
   all_goals try(case c3=>have:=Y.out;unfold maxLen;omega)
   all_goals try(case c4=>have:=Y.out;omega)
   all_goals try(case c5=>first|omega|simp)
   intro v' w5 M z ag T;clear ag C;rw[show w2.heap.size+1=(w2.alloc (.cells #[.bool qh,.slice x1 qb.length y1,.slice x2 qr.length y2,.slice x3 qd.length y3] 49)).heap.size from(World.size_alloc _ _).symm]at T;generalize ap:w2.alloc (.cells #[.bool qh,.slice x1 qb.length y1,.slice x2 qr.length y2,.slice x3 qd.length y3] 49)=WA at*;clear ap;obtain⟨ak,af,L,ah⟩:=O.snoc (p:=(⟨qh,.slice x1 qb.length y1,qb,.slice x2 qr.length y2,qr,.slice x3 qd.length y3,qd⟩:InstQ)) HN.out.1 HN.out.2 aa nq (fun x hx aq=>by have:=V.out x aq;have:=gq x hx;omega) (fun x hx=>by have:=gq x hx;have:=Z.out;omega) E.size M z T;have am:Below w.heap.size w w5:=Out.keep E ah E.size (fun x hx=>HN.out.2 x (by simp only[Kind.fp,List.mem_append];exact Or.inl hx));have ai:Hid ((qs++[(⟨qh,.slice x1 qb.length y1,qb,.slice x2 qr.length y2,qr,.slice x3 qd.length y3,qd⟩:InstQ)]).map InstQ.e=(ps.take (k+1)).map InstQ.e):=X.out _ eq;have aj:Hid ((instK.fp v' (qs++[(⟨qh,.slice x1 qb.length y1,qb,.slice x2 qr.length y2,qr,.slice x3 qd.length y3,qd⟩:InstQ)])).Nodup∧∀k∈instK.fp v' (qs++[(⟨qh,.slice x1 qb.length y1,qb,.slice x2 qr.length y2,qr,.slice x3 qd.length y3,qd⟩:InstQ)]),w.heap.size≤k):=⟨af,L⟩
   clear X HN V Z aa O E M z T ah af L A hb s aw d al gq nq eq
   go_wp2
   go_roundw
   case rel=>exact⟨k+1,_,by omega,by go_num,ai,ak,aj,am⟩
   case measure=>simp[intOf];omega
  ·have an:k=ps.length:=by omega
   subst an;have hE:=HE.out;rw[List.take_length]at hE;clear HE
   go_wp2
   go_ret;exact⟨_,qs,rfl,hE,hO,HN.out.1,HN.out.2,hb⟩
theorem q0p(q:InstQ):q.n=InstE.n q.e:=by
 unfold InstE.n z6j z1H InstQ.e;simp only[InstQ.n,List.length_map,nmL,List.map_map];rfl
theorem z4w{qs:List InstQ}(h:∀q∈qs,insF (InstQ.e q)=0):qs.length+nmL InstQ.n qs≤qs.length*61:=by
 have h1:=z1k InstQ.n 60 qs (fun q hq=>by rw[q0p];exact z0w (h q hq));omega
theorem Kind.At.take{P:Type}{K:Kind P}{w:World}{a:Option Addr}{n cap:Nat}{ps:List P}(h:K.At w (.slice a n cap) ps)(m:Nat)(hm:m≤ps.length):K.At w (.slice a m cap) (ps.take m):=by
 obtain⟨a',c,e,hl,hr⟩:=h;simp only[Value.slice.injEq]at e;obtain⟨rfl,_,rfl⟩:=e;refine⟨a,cap,by rw[List.length_take,Nat.min_eq_left hm],?_,fun p hp=>hr p (List.mem_of_mem_take hp)⟩;have er:K.row ps=K.row (ps.take m)++K.row (ps.drop m):=by
  unfold Kind.row;rw[←List.flatMap_append,List.take_append_drop]
 rcases hl with h0|⟨b,off,ha,hlt,hc⟩
 ·left;rw[er]at h0;exact(List.append_eq_nil_iff.1 h0).1
 ·right;refine⟨b,off,ha,hlt,fun j x hx=>hc j x ?_⟩;rw[er,List.getElem?_append_left (List.getElem?_eq_some_iff.1 hx).1];exact hx
theorem Kind.Own.cap{P:Type}{K:Kind P}{w:World}{a:Option Addr}{n cap:Nat}{ps:List P}(h:K.Own w (.slice a n cap) ps):n≤cap∧cap≤maxLen:=by
 rcases h.1.2 with⟨e,_⟩|⟨g,c,cur,e,_,_,h1,h2,_⟩
 ·simp only[Value.slice.injEq]at e;obtain⟨_,rfl,rfl⟩:=e;exact⟨Nat.le_refl _,by decide⟩
 ·simp only[Value.slice.injEq]at e;obtain⟨_,rfl,rfl⟩:=e;exact⟨h1,h2⟩
theorem z55{P:Type}{K:Kind P}{v:Value}{ps:List P}(h:(K.fp v ps).Nodup)(i:Nat)(hi:i<ps.length)(p:P)(hp:(K.foot p).Nodup)(hd:∀k∈K.foot p,k∉K.fp v ps):(K.fp v (ps.set i p)).Nodup:=by
 have e:ps=ps.take i++ps[i]::ps.drop (i+1):=by
  conv=>lhs;rw[←List.take_append_drop i ps,List.drop_eq_getElem_cons hi]
 have hA:K.fp v ps=blk v++((ps.take i).flatMap K.foot++(K.foot ps[i]++(ps.drop (i+1)).flatMap K.foot)):=by
  conv=>lhs;rw[e]
  simp only[Kind.fp,List.flatMap_append,List.flatMap_cons]
 rw[hA]at h hd;simp only[Kind.fp];rw[z7X ps i hi p];simp only[List.flatMap_append,List.flatMap_cons];generalize blk v=A at*;generalize (ps.take i).flatMap K.foot=B at*;generalize (ps.drop (i+1)).flatMap K.foot=C at*;generalize K.foot p=D at*;generalize K.foot ps[i]=E at*;simp only[List.nodup_append,List.mem_append]at h hd⊢;obtain⟨hA1,⟨hB1,⟨hE1,hC1,hEC⟩,hBC⟩,hABC⟩:=h;refine⟨hA1,⟨hB1,⟨hp,hC1,?_⟩,?_⟩,?_⟩
 ·rintro a ha b hb rfl;exact hd a ha (Or.inr (Or.inr (Or.inr hb)))
 ·rintro a ha b (hb|hb) rfl
  ·exact hd a hb (Or.inr (Or.inl ha))
  ·exact hBC a ha a (Or.inr hb) rfl
 ·rintro a ha b (hb|hb|hb) rfl
  ·exact hABC a ha a (Or.inl hb) rfl
  ·exact hd a hb (Or.inl ha)
  ·exact hABC a ha a (Or.inr (Or.inr hb)) rfl
theorem z7y(B b T:Nat)(w:World)(hS:Src B w b T)(hT:T≤300000):
  Calls Tryz.prog 91 #[.pointer (some ⟨b,0,none⟩)] w fun e w'=>∃ (v:Value) (ps:List InstQ),e=.returned v∧1≤ps.length∧ps.length≤4∧(∀p∈ps,insF (InstQ.e p)=0)∧instK.Own w' v ps∧(instK.fp v ps).Nodup∧(∀k∈instK.fp v ps,w.heap.size≤k)∧Src B w' b (T+12000)∧w.grownBy w' (some b):=by
 obtain⟨i0,al,an,ao,ap⟩:=info_parts z0Y;have aF:=hS.lt;obtain⟨ar,ay⟩:=z04 (World.ownsRow_lit (e:=49) (size:=4) w #[] 0 (Nat.le_refl _) (by decide) rfl);have hg:w.grownBy (w.alloc (.cells #[] 49)) (some b):=World.grownBy_alloc w _ _;replace hS:Src B (w.alloc (.cells #[] 49)) b T:=hS.below (by go_grown);have hR:instK.Own (w.alloc (.cells #[] 49)) (.slice (some ⟨w.heap.size,0,none⟩) 0 0) ([]:List InstQ):=⟨ar,fun p hp=>by simp at hp⟩
 have HN:Hid ((instK.fp (.slice (some ⟨w.heap.size,0,none⟩) 0 0) ([]:List InstQ)).Nodup∧∀k∈instK.fp (.slice (some ⟨w.heap.size,0,none⟩) 0 0) ([]:List InstQ),w.heap.size≤k):=by
  constructor
  ·simp[Kind.fp,blk,Value.ownBlock]
  ·intro k hk;simp[Kind.fp,blk,Value.ownBlock]at hk;omega
 go_enter Tryz.func91,Tryz.ntmps91
 go_wp2_with fail
 generalize w.alloc (.cells #[] 49)=W1 at*;refine(z0m B b T 4 W1 hS (by omega) (by omega)).mono ?_;rintro e w3 ⟨r,rfl,hr,G,A⟩;obtain⟨j0,rfl⟩:=Int.eq_ofNat_of_zero_le hr.1;have aq:j0≤3:=by have:=hr.2.1 (by omega);omega
 replace hR:=hR.out (Out.of_grown A) (fun k hk U => by
  simp only[Option.toList,List.mem_singleton]at U;have:=HN.out.2 k hk;omega)
 replace hg:=hg.trans A;replace hS:=G;clear A G hr ar ay
 go_wp2
 go_loopw[3,4] (fun v c wr=>∃ (j:Nat) (ps:List InstQ),c=.int .i64 j∧j≤3∧j+ps.length≤3∧Hid (∀p∈ps,insF (InstQ.e p)=0)∧instK.Own wr v ps∧Hid ((instK.fp v ps).Nodup∧∀k∈instK.fp v ps,w.heap.size≤k)∧Src B wr b (T+1+2600*(3-j))∧w.grownBy wr (some b)) (fun _ c _=>(intOf c).toNat)
 case atStart=>exact⟨j0,[],rfl,by omega,by simp;omega,(by intro p hp;simp at hp),hR,HN,hS.mono (by omega),hg⟩
 case round=>
  clear hR hS hg HN;obtain⟨j,ps,rfl,aE,hj,HP,hR,HN,hS,hg⟩:=hrel;have aG:=hg.size;obtain⟨a1,c1,rfl⟩:=hR.shape;by_cases aC:0<j
  ·go_wp2_with fail
   refine(z6A B b (T+1+2600*(3-j)) wr hS (by omega)).mono ?_;rintro e w4 ⟨q,rfl,hi,op,np,gp,G,A⟩;have HF:=hR.lt;replace hR:=hR.out (Out.of_grown A) (fun k hk U => by
    simp only[Option.toList,List.mem_singleton]at U;have:=HN.out.2 k hk;omega)
   replace hg:=hg.trans A;replace hS:=G;clear A G;have V:∀k∈instK.foot q,k∉instK.fp (.slice a1 ps.length c1) ps:=fun x hx ai=>by have:=gp x hx;have:=HF x ai;omega
   have az:q.n≤1048576:=by rw[z0F];have:=z0w hi;omega
   obtain⟨fh,fb,s,fr,y,fd,d⟩:=q;obtain⟨f1,f4,rfl⟩:∃a c,fb=.slice a s.length c:=op.1.shape;obtain⟨f2,f5,rfl⟩:∃a c,fr=.slice a y.length c:=op.2.1.shape;obtain⟨f3,f6,rfl⟩:∃a c,fd=.slice a d.length c:=op.2.2.shape;have ah:Below w4.heap.size w4 (w4.alloc (.cells #[.bool fh,.slice f1 s.length f4,.slice f2 y.length f5,.slice f3 d.length f6] 49)):=by go_grown
   have Bt:=Blk.new w4 49 #[.bool fh,.slice f1 s.length f4,.slice f2 y.length f5,.slice f3 d.length f6];have aw:=hg.size;replace hR:=hR.below ah;replace op:=instK.own_out (F:=[]) op (Out.of_below ah) (fun _ _=>by simp);replace hS:=hS.below ah;replace hg:=z0h hg (ah.mono aw);have aj:=z0U w4.heap.size 0 (⟨fh,.slice f1 s.length f4,s,.slice f2 y.length f5,y,.slice f3 d.length f6,d⟩:InstQ) _ (⟨⟨Bt.cell 0 _ rfl,Bt.cell 1 _ rfl,Bt.cell 2 _ rfl,Bt.cell 3 _ rfl⟩,instK.own_rd op⟩:InstP _ w4.heap.size 0 (⟨fh,.slice f1 s.length f4,s,.slice f2 y.length f5,y,.slice f3 d.length f6,d⟩:InstQ)) az;dsimp only at aj;clear ah HF
   go_wp2_with fail
   generalize w4.heap.size=H4 at*;generalize w4.alloc (.cells #[.bool fh,.slice f1 s.length f4,.slice f2 y.length f5,.slice f3 d.length f6] 49)=W4 at*;refine aj.mono ?_;rintro e w6 ⟨rfl,am⟩;replace am:=am.symm;subst am;generalize outV d=OV at*;by_cases ak:OV=3
   ·have au:(OV !=3)=false:=by rw[ak];rfl
    clear ak op aj Bt V
    go_wp2
    go_roundw
    case rel=>exact⟨j-1,ps,by go_num,by omega,by omega,HP,hR,HN,hS.mono (by omega),hg⟩
    case measure=>simp[intOf];omega
   ·have au:(OV !=3)=true:=by simpa using ak
    obtain⟨p0,p1,p2,p3⟩:=Bt.cel4;clear ak aj;have C:Below W4.heap.size W4 (W4.alloc (.cells #[.bool fh,.slice f1 s.length f4,.slice f2 y.length f5,.slice f3 d.length f6] 49)):=by go_grown
    have Z:=hg.size;have N:=hR.below C;have aa:=instK.own_out (F:=[]) op (Out.of_below C) (fun _ _=>by simp);have E:=N.1
    go_wp2_with (at_builtin;refine wpList_append_own_at _ rfl _ _ 24 rfl 0 49 i0 (.agg #[.bool false,.slice none 0 0,.slice none 0 0,.slice none 0 0]) 4 80 Tryz.underlying24 al an ao ap rfl (by decide) _ ps.length (instK.row ps) rfl E ⟨W4.heap.size,0,none⟩ 1 1 [.bool fh,.slice f1 s.length f4,.slice f2 y.length f5,.slice f3 d.length f6] rfl rfl ?c1 ?c2 ?c3 ?c4 ?c5 ?_)
    all_goals try(case c1=>intro j u hj;match j,hj with|0,hj=>simp at hj;subst hj;simp[Addr.add]|1,hj=>simp at hj;subst hj;simp[Addr.add]|2,hj=>simp at hj;subst hj;simp[Addr.add]|3,hj=>simp at hj;subst hj;simp[Addr.add])
    all_goals try(case c2=>intro u hu;simp at hu;rcases hu with rfl|rfl|rfl|rfl<;>rfl)
    all_goals try(case c3=>unfold maxLen;omega)
    all_goals try(case c4=>omega)
    all_goals try(case c5=>first|omega|(simp;omega))
    intro v' w8 J D Y W;obtain⟨ad,X,I,O⟩:=N.snoc (p:=(⟨fh,.slice f1 s.length f4,s,.slice f2 y.length f5,y,.slice f3 d.length f6,d⟩:InstQ)) (B:=w.heap.size) HN.out.1 HN.out.2 aa np V (fun x hx=>by have:=gp x hx;omega) (by simp;omega) J D (by rw[World.size_alloc];exact W);have M:Hid (_∧_):=And.intro X I;have z:∀k∈blk (.slice a1 ps.length c1),w.heap.size≤k:=fun k hk=>HN.out.2 k (by simp only[Kind.fp,List.mem_append];exact Or.inl hk)
    have af:=z0k (z0h hg (C.mono Z)) O z;have ae:=(hS.below C).out O (fun hk=>by have:=z b hk;omega) (fun k hk=>by have:=z k hk;omega);have L:Hid ((ps++[(⟨fh,.slice f1 s.length f4,s,.slice f2 y.length f5,y,.slice f3 d.length f6,d⟩:InstQ)]).length=ps.length+1):=show _=_ by simp
    have ab:Hid (∀p∈ps++[(⟨fh,.slice f1 s.length f4,s,.slice f2 y.length f5,y,.slice f3 d.length f6,d⟩:InstQ)],insF (InstQ.e p)=0):=by
     intro p hp;simp only[List.mem_append,List.mem_singleton]at hp;rcases hp with hp|rfl
     ·exact HP.out p hp
     ·exact hi
    clear p0 p1 p2 p3;clear hR N op aa J D W Y O C hg hS E X I z V gp np;generalize ps++[(⟨fh,.slice f1 s.length f4,s,.slice f2 y.length f5,y,.slice f3 d.length f6,d⟩:InstQ)]=ag at*
    go_wp2
    go_roundw
    case rel=>exact⟨j-1,ag,by go_num,by omega,by have:=L.out;omega,ab,ad,M,ae.mono (by omega),af⟩
    case measure=>simp[intOf];omega
  ·have aq:j=0:=by omega
   subst aq;have hS:Src B wr b (T+7801):=hS.mono (by omega);by_cases hz:ps.length=0
   ·have aB:((ps.length:Int)==0)=true:=by rw[hz];rfl
    have aA:ps.length≤3:=by omega
    have HZ:Hid (ps.length=0):=hz;clear hz
    go_wp2_with fail
    refine(z2j B b (T+7801) 20 wr hS (by omega) (by omega)).mono ?_;rintro e w4 ⟨q,rfl,hi,op,np,gp,G,A⟩;have HF:=hR.lt;have ax:=hg.size;replace hR:=hR.out (Out.of_grown A) (fun k hk U => by
     simp only[Option.toList,List.mem_singleton]at U;have:=HN.out.2 k hk;omega)
    replace hg:=hg.trans A;replace hS:=G;clear A G;have V:∀k∈instK.foot q,k∉instK.fp (.slice a1 ps.length c1) ps:=fun x hx ai=>by have:=gp x hx;have:=HF x ai;omega
    obtain⟨fh,fb,s,fr,y,fd,d⟩:=q;obtain⟨f1,f4,rfl⟩:∃a c,fb=.slice a s.length c:=op.1.shape;obtain⟨f2,f5,rfl⟩:∃a c,fr=.slice a y.length c:=op.2.1.shape;obtain⟨f3,f6,rfl⟩:∃a c,fd=.slice a d.length c:=op.2.2.shape;clear HF;have C:Below w4.heap.size w4 (w4.alloc (.cells #[.bool fh,.slice f1 s.length f4,.slice f2 y.length f5,.slice f3 d.length f6] 49)):=by go_grown
    have Z:=hg.size;have N:=hR.below C;have aa:=instK.own_out (F:=[]) op (Out.of_below C) (fun _ _=>by simp);have E:=N.1
    go_wp2_with (at_builtin;refine wpList_append_own_at _ rfl _ _ 24 rfl 0 49 i0 (.agg #[.bool false,.slice none 0 0,.slice none 0 0,.slice none 0 0]) 4 80 Tryz.underlying24 al an ao ap rfl (by decide) _ ps.length (instK.row ps) rfl E ⟨w4.heap.size,0,none⟩ 1 1 [.bool fh,.slice f1 s.length f4,.slice f2 y.length f5,.slice f3 d.length f6] rfl rfl ?c1 ?c2 ?c3 ?c4 ?c5 ?_)
    all_goals try(case c1=>intro j u hj;match j,hj with|0,hj=>simp at hj;subst hj;simp[Addr.add]|1,hj=>simp at hj;subst hj;simp[Addr.add]|2,hj=>simp at hj;subst hj;simp[Addr.add]|3,hj=>simp at hj;subst hj;simp[Addr.add])
    all_goals try(case c2=>intro u hu;simp at hu;rcases hu with rfl|rfl|rfl|rfl<;>rfl)
    all_goals try(case c3=>unfold maxLen;omega)
    all_goals try(case c4=>omega)
    all_goals try(case c5=>first|omega|(simp;omega))
    intro v' w8 J D Y W;obtain⟨ad,X,I,O⟩:=N.snoc (p:=(⟨fh,.slice f1 s.length f4,s,.slice f2 y.length f5,y,.slice f3 d.length f6,d⟩:InstQ)) (B:=w.heap.size) HN.out.1 HN.out.2 aa np V (fun x hx=>by have:=gp x hx;omega) (by simp;omega) J D (by rw[World.size_alloc];exact W);have M:Hid (_∧_):=And.intro X I;have z:∀k∈blk (.slice a1 ps.length c1),w.heap.size≤k:=fun k hk=>HN.out.2 k (by simp only[Kind.fp,List.mem_append];exact Or.inl hk)
    have af:=z0k (z0h hg (C.mono Z)) O z;have ae:=(hS.below C).out O (fun hk=>by have:=z b hk;omega) (fun k hk=>by have:=z k hk;omega);have L:Hid ((ps++[(⟨fh,.slice f1 s.length f4,s,.slice f2 y.length f5,y,.slice f3 d.length f6,d⟩:InstQ)]).length=ps.length+1):=show _=_ by simp
    have ab:Hid (∀p∈ps++[(⟨fh,.slice f1 s.length f4,s,.slice f2 y.length f5,y,.slice f3 d.length f6,d⟩:InstQ)],insF (InstQ.e p)=0):=by
     intro p hp;simp only[List.mem_append,List.mem_singleton]at hp;rcases hp with hp|rfl
     ·exact HP.out p hp
     ·exact hi
    clear hR N op aa J D W Y O C hg hS E X I z V gp np;generalize ps++[(⟨fh,.slice f1 s.length f4,s,.slice f2 y.length f5,y,.slice f3 d.length f6,d⟩:InstQ)]=ag at*
    go_wp2
    go_ret;first|exact⟨_,ag,rfl,by have:=L.out;omega,by have:=L.out;omega,ab.out,ad,M.out.1,M.out.2,ae.mono (by omega),af⟩|exact⟨_,rfl,ag,by have:=L.out;omega,by have:=L.out;omega,ab.out,ad,M.out.1,M.out.2,ae.mono (by omega),af⟩
   ·have aB:((ps.length:Int)==0)=false:=beq_eq_false_iff_ne.2 (by omega);have aH:(ps.length:Int)<4:=by omega
    have aD:ps.length<4:=by omega
    have aA:ps.length≤3:=by omega
    have av:1≤ps.length:=by omega
    clear hz
    go_wp2_with fail
    refine(z1Z B b (T+7801) 2 wr hS (by omega) (by omega)).mono ?_;rintro e w5 ⟨tt,rfl,G,A⟩;replace hR:=hR.out (Out.of_grown A) (fun k hk U => by
     simp only[Option.toList,List.mem_singleton]at U;have:=HN.out.2 k hk;omega)
    replace hg:=hg.trans A;replace hS:=G;clear G A
    cases tt with
    |false=>
     go_wp2
     go_ret;first|exact⟨_,ps,rfl,av,by omega,HP.out,hR,HN.out.1,HN.out.2,hS.mono (by omega),hg⟩|exact⟨_,rfl,ps,av,by omega,HP.out,hR,HN.out.1,HN.out.2,hS.mono (by omega),hg⟩
    |true=>
     go_wp2_with fail
     refine(z2j B b (T+7801+1) 20 w5 hS (by omega) (by omega)).mono ?_;rintro e w4 ⟨q,rfl,hi,op,np,gp,G,A⟩;have HF:=hR.lt;have ax:=hg.size;replace hR:=hR.out (Out.of_grown A) (fun k hk U => by
      simp only[Option.toList,List.mem_singleton]at U;have:=HN.out.2 k hk;omega)
     replace hg:=hg.trans A;replace hS:=G;clear A G;have V:∀k∈instK.foot q,k∉instK.fp (.slice a1 ps.length c1) ps:=fun x hx ai=>by have:=gp x hx;have:=HF x ai;omega
     obtain⟨fh,fb,s,fr,y,fd,d⟩:=q;obtain⟨f1,f4,rfl⟩:∃a c,fb=.slice a s.length c:=op.1.shape;obtain⟨f2,f5,rfl⟩:∃a c,fr=.slice a y.length c:=op.2.1.shape;obtain⟨f3,f6,rfl⟩:∃a c,fd=.slice a d.length c:=op.2.2.shape;clear HF;have C:Below w4.heap.size w4 (w4.alloc (.cells #[.bool fh,.slice f1 s.length f4,.slice f2 y.length f5,.slice f3 d.length f6] 49)):=by go_grown
     have Z:=hg.size;have N:=hR.below C;have aa:=instK.own_out (F:=[]) op (Out.of_below C) (fun _ _=>by simp);have E:=N.1
     go_wp2_with (at_builtin;refine wpList_append_own_at _ rfl _ _ 24 rfl 0 49 i0 (.agg #[.bool false,.slice none 0 0,.slice none 0 0,.slice none 0 0]) 4 80 Tryz.underlying24 al an ao ap rfl (by decide) _ ps.length (instK.row ps) rfl E ⟨w4.heap.size,0,none⟩ 1 1 [.bool fh,.slice f1 s.length f4,.slice f2 y.length f5,.slice f3 d.length f6] rfl rfl ?c1 ?c2 ?c3 ?c4 ?c5 ?_)
     all_goals try(case c1=>intro j u hj;match j,hj with|0,hj=>simp at hj;subst hj;simp[Addr.add]|1,hj=>simp at hj;subst hj;simp[Addr.add]|2,hj=>simp at hj;subst hj;simp[Addr.add]|3,hj=>simp at hj;subst hj;simp[Addr.add])
     all_goals try(case c2=>intro u hu;simp at hu;rcases hu with rfl|rfl|rfl|rfl<;>rfl)
     all_goals try(case c3=>unfold maxLen;omega)
     all_goals try(case c4=>omega)
     all_goals try(case c5=>first|omega|(simp;omega))
     intro v' w8 J D Y W;obtain⟨ad,X,I,O⟩:=N.snoc (p:=(⟨fh,.slice f1 s.length f4,s,.slice f2 y.length f5,y,.slice f3 d.length f6,d⟩:InstQ)) (B:=w.heap.size) HN.out.1 HN.out.2 aa np V (fun x hx=>by have:=gp x hx;omega) (by simp;omega) J D (by rw[World.size_alloc];exact W);have M:Hid (_∧_):=And.intro X I;have z:∀k∈blk (.slice a1 ps.length c1),w.heap.size≤k:=fun k hk=>HN.out.2 k (by simp only[Kind.fp,List.mem_append];exact Or.inl hk)
     have af:=z0k (z0h hg (C.mono Z)) O z;have ae:=(hS.below C).out O (fun hk=>by have:=z b hk;omega) (fun k hk=>by have:=z k hk;omega);have L:Hid ((ps++[(⟨fh,.slice f1 s.length f4,s,.slice f2 y.length f5,y,.slice f3 d.length f6,d⟩:InstQ)]).length=ps.length+1):=show _=_ by simp
     have ab:Hid (∀p∈ps++[(⟨fh,.slice f1 s.length f4,s,.slice f2 y.length f5,y,.slice f3 d.length f6,d⟩:InstQ)],insF (InstQ.e p)=0):=by
      intro p hp;simp only[List.mem_append,List.mem_singleton]at hp;rcases hp with hp|rfl
      ·exact HP.out p hp
      ·exact hi
     clear hR N op aa J D W Y O C hg hS E X I z V gp np;generalize ps++[(⟨fh,.slice f1 s.length f4,s,.slice f2 y.length f5,y,.slice f3 d.length f6,d⟩:InstQ)]=ag at*
     go_wp2
     go_ret;first|exact⟨_,ag,rfl,by have:=L.out;omega,by have:=L.out;omega,ab.out,ad,M.out.1,M.out.2,ae.mono (by omega),af⟩|exact⟨_,rfl,ag,by have:=L.out;omega,by have:=L.out;omega,ab.out,ad,M.out.1,M.out.2,ae.mono (by omega),af⟩
theorem z2k(B b T:Nat)(w:World)(hS:Src B w b T)(hT:T≤250000):
  Calls Tryz.prog 36 #[.pointer (some ⟨b,0,none⟩)] w fun e w'=>∃ (v:Value) (ps:List InstQ),e=.returned v∧ps.length≤5∧(∀p∈ps,InstQ.n p≤1000)∧instK.Own w' v ps∧(instK.fp v ps).Nodup∧(∀k∈instK.fp v ps,w.heap.size≤k)∧Src B w' b (T+15000)∧w.grownBy w' (some b):=by
 obtain⟨i0,aJ,aP,aQ,aR⟩:=info_parts z0Y;have aV:=hS.lt;go_enter Tryz.func36,Tryz.ntmps36
 go_wp2_with fail
 refine(z7y B b T w hS (by omega)).mono ?_;rintro e w1 ⟨v,ps,rfl,aW,aX,aB,hR,ay,av,C,hg⟩;replace hS:=C;have HN:Hid ((instK.fp v ps).Nodup∧∀k∈instK.fp v ps,w.heap.size≤k):=⟨ay,av⟩
 have HP:Hid (∀p∈ps,InstQ.n p≤1000):=fun p hp=>by rw[z0F];have:=z0w (aB p hp);omega
 clear C ay av aB;obtain⟨a1,c1,rfl⟩:=hR.shape
 go_wp2_with fail
 refine(z0m B b (T+12000) 12 w1 hS (by omega) (by omega)).mono ?_;rintro e wr ⟨r,rfl,hr,C,A⟩;replace hR:=hR.out (Out.of_grown A) (fun k hk M => by
  simp only[Option.toList,List.mem_singleton]at M;have:=HN.out.2 k hk;omega)
 replace hg:=hg.trans A;replace hS:=C;clear A C hr;have aY:=hg.size;by_cases N:r=0
 ·subst N
  go_wp2_with fail
  refine(z3h B b (T+12000+1) wr hS (by omega)).mono ?_;rintro e w4 ⟨q,rfl,hn,op,np,gp,C,A⟩;have HF:=hR.lt;replace hR:=hR.out (Out.of_grown A) (fun k hk M => by
   simp only[Option.toList,List.mem_singleton]at M;have:=HN.out.2 k hk;omega)
  replace hg:=hg.trans A;replace hS:=C;clear A C;have aA:∀k∈instK.foot q,k∉instK.fp (.slice a1 ps.length c1) ps:=fun x hx ah=>by have:=gp x hx;have:=HF x ah;omega
  obtain⟨fh,fb,d,fr,y,fd,s⟩:=q;obtain⟨f1,f4,rfl⟩:∃a c,fb=.slice a d.length c:=op.1.shape;obtain⟨f2,f5,rfl⟩:∃a c,fr=.slice a y.length c:=op.2.1.shape;obtain⟨f3,f6,rfl⟩:∃a c,fd=.slice a s.length c:=op.2.2.shape;clear HF;have I:Below w4.heap.size w4 (w4.alloc (.cells #[.bool fh,.slice f1 d.length f4,.slice f2 y.length f5,.slice f3 s.length f6] 49)):=by go_grown
  have aD:=hg.size;have ae:=hR.below I;have aE:=instK.own_out (F:=[]) op (Out.of_below I) (fun _ _=>by simp);have U:=ae.1
  go_wp2_with (at_builtin;refine wpList_append_own_at _ rfl _ _ 24 rfl 0 49 i0 (.agg #[.bool false,.slice none 0 0,.slice none 0 0,.slice none 0 0]) 4 80 Tryz.underlying24 aJ aP aQ aR rfl (by decide) _ ps.length (instK.row ps) rfl U ⟨w4.heap.size,0,none⟩ 1 1 [.bool fh,.slice f1 d.length f4,.slice f2 y.length f5,.slice f3 s.length f6] rfl rfl ?c1 ?c2 ?c3 ?c4 ?c5 ?_)
  all_goals try(case c1=>intro j u hj;match j,hj with|0,hj=>simp at hj;subst hj;simp[Addr.add]|1,hj=>simp at hj;subst hj;simp[Addr.add]|2,hj=>simp at hj;subst hj;simp[Addr.add]|3,hj=>simp at hj;subst hj;simp[Addr.add])
  all_goals try(case c2=>intro u hu;simp at hu;rcases hu with rfl|rfl|rfl|rfl<;>rfl)
  all_goals try(case c3=>unfold maxLen;omega)
  all_goals try(case c4=>omega)
  all_goals try(case c5=>first|omega|(simp;omega))
  intro v' w8 aa L az ap;obtain⟨an,ax,Z,E⟩:=ae.snoc (p:=(⟨fh,.slice f1 d.length f4,d,.slice f2 y.length f5,y,.slice f3 s.length f6,s⟩:InstQ)) (B:=w.heap.size) HN.out.1 HN.out.2 aE np aA (fun x hx=>by have:=gp x hx;omega) (by simp;omega) aa L (by rw[World.size_alloc];exact ap);have W:Hid (_∧_):=And.intro ax Z;have z:∀k∈blk (.slice a1 ps.length c1),w.heap.size≤k:=fun k hk=>HN.out.2 k (by simp only[Kind.fp,List.mem_append];exact Or.inl hk)
  have aq:=z0k (z0h hg (I.mono aD)) E z;have ao:=(hS.below I).out E (fun hk=>by have:=z b hk;omega) (fun k hk=>by have:=z k hk;omega);have aj:Hid ((ps++[(⟨fh,.slice f1 d.length f4,d,.slice f2 y.length f5,y,.slice f3 s.length f6,s⟩:InstQ)]).length=ps.length+1):=show _=_ by simp
  have G:Hid (∀p∈ps++[(⟨fh,.slice f1 d.length f4,d,.slice f2 y.length f5,y,.slice f3 s.length f6,s⟩:InstQ)],InstQ.n p≤1000):=by
   intro p hp;simp only[List.mem_append,List.mem_singleton]at hp;rcases hp with hp|rfl
   ·exact HP.out p hp
   ·exact hn
  clear hR ae op aE aa L ap az E I hg hS U ax Z z aA gp np;generalize ps++[(⟨fh,.slice f1 d.length f4,d,.slice f2 y.length f5,y,.slice f3 s.length f6,s⟩:InstQ)]=V at*
  go_wp2
  go_ret;first|exact⟨_,V,rfl,by have:=aj.out;omega,G.out,an,W.out.1,W.out.2,ao.mono (by omega),aq⟩|exact⟨_,rfl,V,by have:=aj.out;omega,G.out,an,W.out.1,W.out.2,ao.mono (by omega),aq⟩
 have ad:(r==0)=false:=by simpa using N
 by_cases Y:r=1
 ·subst Y;clear N ad hR;obtain⟨aL,aw⟩:=Kind.own_nil (K:=instK) wr
  go_wp2
  go_ret;have aM:(instK.fp (.slice none 0 0) ([]:List InstQ)).Nodup:=by rw[aw];exact List.nodup_nil
  have aN:∀k∈instK.fp (.slice none 0 0) ([]:List InstQ),w.heap.size≤k:=by rw[aw];intro k hk;simp at hk
  exact⟨.slice none 0 0,[],rfl,Nat.zero_le _,fun p hp=>by simp at hp,aL,aM,aN,hS.mono (by omega),hg⟩
 have aC:(r==1)=false:=by simpa using Y
 by_cases ag:r=2
 ·subst ag;clear N ad Y aC;obtain⟨g,rfl⟩:=hR.blkOf (by omega)
  go_wp2_with fail
  refine(z3h B b (T+12000+1) wr hS (by omega)).mono ?_;rintro e w4 ⟨q,rfl,hn,op,np,gp,C,A⟩;have HF:=hR.lt;have aT:=A.size;replace hR:=hR.out (Out.of_grown A) (fun k hk M => by
   simp only[Option.toList,List.mem_singleton]at M;have:=HN.out.2 k hk;omega)
  replace hg:=hg.trans A;replace hS:=C;clear A C;have D:0<ps.length:=by omega
  have J:∀k∈instK.foot q,k∉instK.fp (.slice (some ⟨g,0,none⟩) ps.length c1) ps:=fun x hx ah=>by have:=gp x hx;have:=HF x ah;omega
  have af:g∈instK.fp (.slice (some ⟨g,0,none⟩) ps.length c1) ps:=by simp[Kind.fp,blk,Value.ownBlock]
  have aU:=HN.out.2 g af;have X:Hid ((instK.fp (.slice (some ⟨g,0,none⟩) ps.length c1) (ps.set 0 q)).Nodup∧∀k∈instK.fp (.slice (some ⟨g,0,none⟩) ps.length c1) (ps.set 0 q),w.heap.size≤k):=by
   refine⟨z55 HN.out.1 0 D q np J,fun k hk=>?_⟩;simp only[Kind.fp,List.mem_append]at hk;rcases hk with hk|hk
   ·exact HN.out.2 k (by simp only[Kind.fp,List.mem_append];exact Or.inl hk)
   ·rcases z3y D hk with hk|hk
    ·exact HN.out.2 k (by simp only[Kind.fp,List.mem_append];exact Or.inr hk)
    ·have:=gp k hk;omega
  have au:∀q'∈ps,∀k∈instK.foot q',k≠g:=fun q' aO k hk e=>by
   have h1:=HN.out.1;simp only[Kind.fp,blk,Value.ownBlock,Option.toList,List.cons_append,List.nil_append,List.nodup_cons]at h1;exact h1.1 (List.mem_flatMap.2 ⟨q',aO,e▸hk⟩)
  have ar:∀k∈instK.foot q,k≠g:=fun k hk e=>J k hk (e▸af)
  have G:Hid (∀p∈ps.set 0 q,InstQ.n p≤1000):=by
   intro p hp;rcases List.mem_or_eq_of_mem_set hp with hp|rfl
   ·exact HP.out p hp
   ·exact hn
  obtain⟨fh,fb,d,fr,y,fd,s⟩:=q;obtain⟨f1,f4,rfl⟩:∃a c,fb=.slice a d.length c:=op.1.shape;obtain⟨f2,f5,rfl⟩:∃a c,fr=.slice a y.length c:=op.2.1.shape;obtain⟨f3,f6,rfl⟩:∃a c,fd=.slice a s.length c:=op.2.2.shape;obtain⟨d0,aF⟩:=hR.cell 0 D 0 (.bool ps[0].has) rfl;obtain⟨d1,aG⟩:=hR.cell 0 D 1 ps[0].vb rfl;obtain⟨d2,aH⟩:=hR.cell 0 D 2 ps[0].vr rfl;obtain⟨d3,aI⟩:=hR.cell 0 D 3 ps[0].vd rfl;have aK:∀j,0*instK.size+j=j:=fun j=>by omega
  rw[aK]at d0 aF d1 aG d2 aH d3 aI;have O:=z38 hR.1 0 [.bool fh,.slice f1 d.length f4,.slice f2 y.length f5,.slice f3 s.length f6];have E:Out [g] w4 ((((w4.setCell ⟨g,0,none⟩ (.bool fh)).setCell ⟨g,1,none⟩ (.slice f1 d.length f4)).setCell ⟨g,2,none⟩ (.slice f2 y.length f5)).setCell ⟨g,3,none⟩ (.slice f3 s.length f6)):=((Out.setCell _ _ _ _).trans (Out.setCell _ _ _ _)).trans (Out.setCell _ _ _ _)|>.trans (Out.setCell _ _ _ _);have ab:=hR.put (w':=((((w4.setCell ⟨g,0,none⟩ (.bool fh)).setCell ⟨g,1,none⟩ (.slice f1 d.length f4)).setCell ⟨g,2,none⟩ (.slice f2 y.length f5)).setCell ⟨g,3,none⟩ (.slice f3 s.length f6))) 0 D (⟨fh,.slice f1 d.length f4,d,.slice f2 y.length f5,y,.slice f3 s.length f6,s⟩:InstQ) (by simp[List.zipIdx_cons]at O;rw[Nat.zero_mul];exact O) E au op ar;have z:∀k∈[g],w.heap.size≤k:=fun k hk=>by simp only[List.mem_singleton]at hk;omega
  have am:Hid (Src B ((((w4.setCell ⟨g,0,none⟩ (.bool fh)).setCell ⟨g,1,none⟩ (.slice f1 d.length f4)).setCell ⟨g,2,none⟩ (.slice f2 y.length f5)).setCell ⟨g,3,none⟩ (.slice f3 s.length f6)) b (T+12000+1+2600)):=((hS.out E (fun hk=>by have:=z b hk;omega) (fun k hk=>by have:=z k hk;omega)).mono (by omega))
  have ai:Hid (w.grownBy ((((w4.setCell ⟨g,0,none⟩ (.bool fh)).setCell ⟨g,1,none⟩ (.slice f1 d.length f4)).setCell ⟨g,2,none⟩ (.slice f2 y.length f5)).setCell ⟨g,3,none⟩ (.slice f3 s.length f6)) (some b)):=z0k hg E z;have al:Hid (instK.Own ((((w4.setCell ⟨g,0,none⟩ (.bool fh)).setCell ⟨g,1,none⟩ (.slice f1 d.length f4)).setCell ⟨g,2,none⟩ (.slice f2 y.length f5)).setCell ⟨g,3,none⟩ (.slice f3 s.length f6)) (.slice (some ⟨g,0,none⟩) ps.length c1) (ps.set 0 (⟨fh,.slice f1 d.length f4,d,.slice f2 y.length f5,y,.slice f3 s.length f6,s⟩:InstQ))):=ab;have ak:Hid ((ps.set 0 (⟨fh,.slice f1 d.length f4,d,.slice f2 y.length f5,y,.slice f3 s.length f6,s⟩:InstQ)).length=ps.length):=show _=_ by simp
  clear O hR HN HF au ar J np gp op hg hS ab E z af HP;generalize ps.set 0 (⟨fh,.slice f1 d.length f4,d,.slice f2 y.length f5,y,.slice f3 s.length f6,s⟩:InstQ)=V at*
  go_wp2
  go_ret;first|exact⟨_,V,rfl,by have:=ak.out;omega,G.out,al.out,X.out.1,X.out.2,am.out.mono (by omega),ai.out⟩|exact⟨_,rfl,V,by have:=ak.out;omega,G.out,al.out,X.out.1,X.out.2,am.out.mono (by omega),ai.out⟩
 have aS:(r==2)=false:=by simpa using ag
 clear N Y ag
 go_wp2
 go_ret;first|exact⟨_,ps,rfl,by omega,HP.out,hR,HN.out.1,HN.out.2,hS.mono (by omega),hg⟩|exact⟨_,rfl,ps,by omega,HP.out,hR,HN.out.1,HN.out.2,hS.mono (by omega),hg⟩
section
variable {P:Type} {K:Kind P} {w w':World} {a:Option Addr} {n cap:Nat} {ps:List P}
theorem Kind.At.takeK(h:K.At w (.slice a n cap) ps)(m:Nat)(hm:m≤ps.length):K.At w (.slice a m cap) (ps.take m):=by
 obtain⟨a',c,e,hl,hr⟩:=h;simp only[Value.slice.injEq]at e;obtain⟨rfl,_,rfl⟩:=e;refine⟨a,cap,by rw[List.length_take,Nat.min_eq_left hm],?_,fun p hp=>hr p (List.mem_of_mem_take hp)⟩;have er:K.row ps=K.row (ps.take m)++K.row (ps.drop m):=by
  unfold Kind.row;rw[←List.flatMap_append,List.take_append_drop]
 rcases hl with h0|⟨b,off,ha,hlt,hc⟩
 ·left;rw[er]at h0;exact(List.append_eq_nil_iff.1 h0).1
 ·right;refine⟨b,off,ha,hlt,fun j x hx=>hc j x ?_⟩;rw[er,List.getElem?_append_left (List.getElem?_eq_some_iff.1 hx).1];exact hx
theorem Kind.Own.capK(h:K.Own w (.slice a n cap) ps):n≤cap∧cap≤maxLen:=by
 rcases h.1.2 with⟨e,_⟩|⟨g,c,cur,e,_,_,h1,h2,_⟩
 ·simp only[Value.slice.injEq]at e;obtain⟨_,rfl,rfl⟩:=e;exact⟨Nat.le_refl _,by decide⟩
 ·simp only[Value.slice.injEq]at e;obtain⟨_,rfl,rfl⟩:=e;exact⟨h1,h2⟩
theorem Kind.At.nilA(w:World)(a:Option Addr)(c':Nat):K.At w (.slice a 0 c') ([]:List P):=⟨a,c',rfl,Or.inl rfl,fun p hp=>by simp at hp⟩
theorem Kind.At.dropS(h:K.At w (.slice a n cap) ps)(m:Nat)(hm:m≤ps.length)(hcap:ps.length≤cap)(c':Nat):K.At w (.slice (if cap=m then a else a.map (·.add (m*K.size))) (ps.drop m).length c') (ps.drop m):=by
 by_cases hc:cap=m
 ·have hp:ps.drop m=[]:=List.drop_of_length_le (by omega);rw[if_pos hc,hp];exact Kind.At.nilA w a c'
 ·rw[if_neg hc]
  cases a with
  |none=>
   obtain⟨a',c,e,hl,hr⟩:=h;simp only[Value.slice.injEq]at e;obtain⟨rfl,_,rfl⟩:=e;rcases hl with h0|⟨b',off',ha,_⟩
   ·refine⟨none,c',rfl,Or.inl ?_,fun p hp=>hr p (List.mem_of_mem_drop hp)⟩;have er:K.row ps=K.row (ps.take m)++K.row (ps.drop m):=by
     unfold Kind.row;rw[←List.flatMap_append,List.take_append_drop]
    rw[er]at h0;exact(List.append_eq_nil_iff.1 h0).2
   ·simp at ha
  |some x=>
   obtain⟨a',c,e,hl,hr⟩:=h;simp only[Value.slice.injEq]at e;obtain⟨rfl,_,rfl⟩:=e;refine⟨_,c',rfl,?_,fun p hp=>hr p (List.mem_of_mem_drop hp)⟩;have er:K.row ps=K.row (ps.take m)++K.row (ps.drop m):=by
    unfold Kind.row;rw[←List.flatMap_append,List.take_append_drop]
   have hlen:(K.row (ps.take m)).length=m*K.size:=by rw[Kind.row_length,List.length_take,Nat.min_eq_left hm]
   rcases hl with h0|⟨b',off',ha,hlt,hc⟩
   ·left;rw[er]at h0;exact(List.append_eq_nil_iff.1 h0).2
   ·right;simp only[Option.some.injEq]at ha;subst ha;refine⟨b',off'+m*K.size,by simp[Addr.add],hlt,fun j y hy=>?_⟩;have h2:=hc (m*K.size+j) y (by rw[er,List.getElem?_append_right (by omega),hlen,show m*K.size+j-m*K.size=j by omega];exact hy);rw[←Nat.add_assoc]at h2;exact h2
theorem Kind.at_of_row{v:Value}{base e:Nat}(h:w.ownsRow base e K.size v ps.length (K.row ps))(hr:∀p∈ps,K.rd w p):K.At w v ps:=by
 obtain⟨a,c,rfl⟩:=z0p h;exact⟨a,c,rfl,Lies.own h,hr⟩
end
def z6E:Value→Prop
 | .slice _ n c=>n≤c∧c≤maxLen
 |_=>False
theorem Kind.Own.capOk{P:Type}{K:Kind P}{w:World}{v:Value}{ps:List P}(h:K.Own w v ps):z6E v:=by
 obtain⟨a,c,rfl⟩:=h.shape;exact h.capK
theorem TxnRow.cap{base:Nat}{w:World}{v:Value}{ps:List TxnP}(h:TxnRow base w v ps):z6E v:=by
 rcases h.1.2 with⟨rfl,_⟩|⟨g,c,cur,rfl,_,_,h1,h2,_⟩
 ·exact⟨Nat.le_refl _,by decide⟩
 ·exact⟨h1,h2⟩
theorem Kind.At.take'{P:Type}{K:Kind P}{w:World}{a:Option Addr}{n cap:Nat}{ps:List P}(h:K.At w (.slice a n cap) ps)(m:Nat)(hm:m≤ps.length):K.At w (.slice a m cap) (ps.take m):=by
 obtain⟨a',c,e,hl,hr⟩:=h;simp only[Value.slice.injEq]at e;obtain⟨rfl,_,rfl⟩:=e;refine⟨a,cap,by rw[List.length_take,Nat.min_eq_left hm],?_,fun p hp=>hr p (List.mem_of_mem_take hp)⟩;have er:K.row ps=K.row (ps.take m)++K.row (ps.drop m):=by
  unfold Kind.row;rw[←List.flatMap_append,List.take_append_drop]
 rcases hl with h0|⟨b,off,ha,hlt,hc⟩
 ·left;rw[er]at h0;exact(List.append_eq_nil_iff.1 h0).1
 ·right;refine⟨b,off,ha,hlt,fun j x hx=>hc j x ?_⟩;rw[er,List.getElem?_append_left (List.getElem?_eq_some_iff.1 hx).1];exact hx
theorem Kind.Own.cap'{P:Type}{K:Kind P}{w:World}{a:Option Addr}{n cap:Nat}{ps:List P}(h:K.Own w (.slice a n cap) ps):n≤cap∧cap≤maxLen:=by
 rcases h.1.2 with⟨e,_⟩|⟨g,c,cur,e,_,_,h1,h2,_⟩
 ·simp only[Value.slice.injEq]at e;obtain⟨_,rfl,rfl⟩:=e;exact⟨Nat.le_refl _,by decide⟩
 ·simp only[Value.slice.injEq]at e;obtain⟨_,rfl,rfl⟩:=e;exact⟨h1,h2⟩
def preT(xs ys:List TxnD):Bool:=decide (xs.length≤ys.length) && sameTs xs (ys.take xs.length)
theorem z5o(v v':Value)(xs ys:List TxnQ)(w:World)(h:txnK.At w v xs)(h':txnK.Own w v' ys)(hl:xs.length+nmL TxnQ.n xs≤1048576)(y:ys.length+nmL TxnQ.n ys≤1048576):
  Calls Tryz.prog 52 #[v,v',.func (.func 53) #[] #[]] w fun e w'=>e=.returned (.bool (preT (xs.map TxnQ.e) (ys.map TxnQ.e)))∧Below w.heap.size w w':=by
 obtain⟨a,cap,rfl⟩:=h.shape;obtain⟨a',c,rfl⟩:=h'.shape;obtain⟨hc,x⟩:=h'.cap';unfold preT;rw[List.length_map,List.length_map];by_cases d:xs.length≤ys.length
 ·have hd:decide (xs.length≤ys.length)=true:=decide_eq_true d;rw[hd,Bool.true_and];have hT:=h'.at.take' xs.length d;have hn:nmL TxnQ.n (ys.take xs.length)≤nmL TxnQ.n ys:=z5M TxnQ.n ys xs.length;have hq:=z2Q (.slice a xs.length cap) (.slice a' xs.length c) (xs.map TxnQ.e) ((ys.take xs.length).map TxnQ.e) w (z0o h) (z0o hT) (by rw[List.length_map,z07];omega) (by rw[List.length_map,z07,List.length_take];omega);rw[List.map_take]at hq;generalize sameTs (xs.map TxnQ.e) ((ys.map TxnQ.e).take xs.length)=E at*;have r:(xs.length:Int)≤(ys.length:Int):=by omega
  have A:xs.length≤c:=by omega
  have s:(xs.length:Int)≤(c:Int):=by omega
  have z:(0:Int)≤(xs.length:Int):=by omega
  clear hT hn hd;go_enter Tryz.func52,Tryz.ntmps52
  go_wp2_with fail
  refine hq.mono ?_;rintro e w2 ⟨rfl,q⟩
  go_wp2
  go_ret;exact⟨rfl,q⟩
 ·have hd:decide (xs.length≤ys.length)=false:=decide_eq_false d;rw[hd,Bool.false_and];have r:¬(xs.length:Int)≤(ys.length:Int):=by omega
  clear hd;go_enter Tryz.func52,Tryz.ntmps52
  go_wp2
  go_ret;exact⟨rfl,Below.refl _ _⟩
theorem z17(v v':Value)(xs ys:List TxnQ)(w:World)(h:txnK.At w v xs)(h':txnK.Own w v' ys)(hl:xs.length+nmL TxnQ.n xs≤1048576)(hl':ys.length+nmL TxnQ.n ys≤1048576):
  Calls Tryz.prog 17 #[v,v'] w fun e w'=>e=.returned (.bool (preT (xs.map TxnQ.e) (ys.map TxnQ.e)))∧Below w.heap.size w w':=by
 have hq:=z5o v v' xs ys w h h' hl hl';obtain⟨a,cap,rfl⟩:=h.shape;obtain⟨a',cap',rfl⟩:=h'.shape;generalize preT (xs.map TxnQ.e) (ys.map TxnQ.e)=E at*;go_enter Tryz.func17,Tryz.ntmps17
 go_wp2_with fail
 refine hq.mono ?_;rintro e w2 ⟨rfl,hb2⟩
 go_wp2
 go_ret;exact⟨rfl,hb2⟩
structure InstP' (w:World) (b o:Nat) (p:InstQ):Prop where
 box:Box4 w b o (.bool p.has) p.vb p.vr p.vd
 rd:instK.rd w p
theorem InstP'.below{w w':World}{b o:Nat}{p:InstQ}(h:InstP' w b o p)(hb:Below w.heap.size w w'):InstP' w' b o p:=⟨h.box.below hb,instK.rd_below h.rd hb⟩
theorem z4x(ds:List InstE)(k:Nat)(hk:k<ds.length):z2P (ds.take (k+1))=z2P (ds.take k)++(if outV (ds.getD k z0D).dec=1 then(ds.getD k z0D).batch else []):=by
 rw[List.take_succ_eq_append_getElem hk];unfold z2P;rw[List.flatMap_append];have e:ds.getD k z0D=ds[k]:=by simp[List.getD,hk]
 simp only[List.flatMap_cons,List.flatMap_nil,List.append_nil,e]
def dfC(ds:List InstE)(n:Int):Int:=if ordF ds=0 then(if 0≤n∧n≤(decN ds:Int)then 0 else 3)else ordF ds
def dfT(ds:List InstE)(n:Int):List TxnD:=if dfC ds n=0 then defL ds n.toNat else []
theorem z5p(ds:List InstE)(n:Int):(ordF ds≠0∧dfC ds n=ordF ds∧dfT ds n=[])∨(ordF ds=0∧¬(0≤n∧n≤(decN ds:Int))∧dfC ds n=3∧dfT ds n=[])∨(ordF ds=0∧(0≤n∧n≤(decN ds:Int))∧dfC ds n=0∧dfT ds n=defL ds n.toNat):=by
 unfold dfT dfC;by_cases h0:ordF ds=0
 ·by_cases h1:0≤n∧n≤(decN ds:Int)
  ·right;right;refine⟨h0,h1,?_,?_⟩
   ·rw[if_pos h0,if_pos h1]
   ·rw[if_pos h0,if_pos h1,if_pos rfl]
  ·right;left;refine⟨h0,h1,?_,?_⟩
   ·rw[if_pos h0,if_neg h1]
   ·rw[if_pos h0,if_neg h1,if_neg (by decide)]
 ·left;simp[h0]
theorem q1O{p:InstQ}(h:insF (InstQ.e p)=0):p.batch.length≤4:=by
 obtain⟨h0,_⟩:=z1p h;obtain⟨_,_,_,hb0,hb1⟩:=z05 h0
 cases hh:(InstQ.e p).has with
 |false=>
  have:=hb0 hh;have h2:p.batch.map TxnQ.e=[]:=this;have:p.batch=[]:=by simpa using h2
  rw[this];simp
 |true=>
  have:=hb1 hh;unfold batF at this;by_cases hl:(InstQ.e p).batch.length<1∨4<(InstQ.e p).batch.length
  ·rw[if_pos hl]at this;exact absurd this (by decide)
  ·have h2:(InstQ.e p).batch.length=p.batch.length:=by show(p.batch.map TxnQ.e).length=_;simp
   omega
theorem z1s{α:Type}{f:α→α→Bool}{g:List α→List α→Bool}(h0:g [] []=true)(h1:∀x r y s,g (x::r) (y::s)=(f x y && g r s))(hf:∀x,f x x=true):∀xs,g xs xs=true
 |[]=>h0
 |x::r=>by rw[h1,hf,z1s h0 h1 hf r];rfl
theorem z56(xs:List ActD):sameAs xs xs=true:=z1s (f:=z1w) rfl (fun _ _ _ _=>rfl) (fun x=>by simp[z1w]) xs
theorem z1D(xs:List TxnD):sameTs xs xs=true:=z1s (f:=z1c) rfl (fun _ _ _ _=>rfl) (fun x=>by simp[z1c,z56]) xs
theorem z8B(xs zs:List TxnD):preT xs (xs++zs)=true:=by
 unfold preT;rw[List.take_left']
 ·rw[z1D];simp
 ·rfl
end Go.Proofs.YtciofogeiohleaaGreatDoor
