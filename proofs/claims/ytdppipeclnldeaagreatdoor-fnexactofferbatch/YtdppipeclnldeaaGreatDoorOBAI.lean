import Derived.Test.YtdppipeclnldeaaGreatDoorOBAH
import Derived.Shelf.SlIterI.Nil
set_option linter.unusedVariables false
set_option linter.unusedSimpArgs false
set_option maxRecDepth 100000
set_option maxHeartbeats 4000000
namespace Go.Proofs.YtdppipeclnldeaaGreatDoor
open Go.RowKit Go.BigFrame
open InstQ renaming e->Va,n->Vb
open Nat renaming le_refl->Vc
open List renaming length_map->Vd
open IntKind renaming i64->It
open Value renaming int->Ki,slice->Sl
open Go.Proofs.Tryz renaming prog->Dp
open Go.Proofs.Tryz
structure CluQ where
 vo:Value
 ord:List InstQ
 vm:Value
 mem:List NodeQ
structure CluE where
 ord:List InstE
 mem:List NodeE
def CluQ.e(p:CluQ):CluE:=⟨p.ord.map Va,p.mem.map NodeQ.e⟩
def CluQ.n(p:CluQ):Nat:=(p.ord.length+nmL Vb p.ord)+(p.mem.length+nmL NodeQ.n p.mem)
def CluQ.wf(p:CluQ):Prop:=(p.ord.length≤9223372036854775807∧∀q∈p.ord,InstQ.wf q)∧(p.mem.length≤9223372036854775807∧∀q∈p.mem,NodeQ.wf q)
def cluK:Kind CluQ where
 ty:=30
 size:=2
 cells p:=[p.vo,p.vm]
 own w p:=instK.Own w p.vo p.ord∧nodeK.Own w p.vm p.mem
 rd w p:=instK.At w p.vo p.ord∧nodeK.At w p.vm p.mem
 foot p:=instK.fp p.vo p.ord++nodeK.fp p.vm p.mem
 len _:=rfl
 own_rd h:=⟨h.1.at,h.2.at⟩
 own_out h ho hd:=⟨h.1.out ho (fun k hk=>hd k (List.mem_append_left _ hk)),h.2.out ho (fun k hk=>hd k (List.mem_append_right _ hk))⟩
 own_lt h k hk:=by
  rcases List.mem_append.1 hk with hk|hk
  ·exact h.1.lt k hk
  ·exact h.2.lt k hk
 rd_below h hb:=⟨h.1.below hb,h.2.below hb⟩
theorem z9O(p:CluQ)(c:Int)(w:World)(h:cluK.rd w p)(hn:CluQ.wf p)(h0:0≤c)(h1:c≤1048576):
  Calls Dp 4 #[.agg #[p.vo,p.vm],Ki It c] w fun e w'=>∃r:Int,e=.returned (Ki It r)∧(¬r<0→(CluQ.n p:Int)+r=c)∧Below w.heap.size w w':=by
 obtain⟨vo,x,vm,d⟩:=p;obtain⟨I,J⟩:instK.At w vo x∧nodeK.At w vm d:=h;obtain⟨y,z⟩:(x.length≤9223372036854775807∧∀p∈x,InstQ.wf p)∧(d.length≤9223372036854775807∧∀p∈d,NodeQ.wf p):=hn;obtain⟨a0,k0,rfl⟩:=I.shape;obtain⟨a1,k1,rfl⟩:=J.shape;have B:=Blk.new w 25 #[Sl a0 x.length k0,Sl a1 d.length k1];have hB:Below w.heap.size w (w.alloc (.cells #[Sl a0 x.length k0,Sl a1 d.length k1] 25)):=by go_grown
 dsimp only[CluQ.n];go_enter func4,ntmps4
 go_wp2_with fail
 generalize w.alloc (.cells #[Sl a0 x.length k0,Sl a1 d.length k1] 25)=W at*;refine(z7t _ x c W (I.below hB) y.1 y.2 (by omega) (by omega)).mono ?_;rintro e w0 ⟨r0,rfl,L,A⟩;replace B:=B.below A;replace hB:=hB.trans (A.mono hB.size);clear A;by_cases D:r0<0
 ·go_wp2
  go_ret;exact⟨_,rfl,fun h=>by omega,hB⟩
 have N:=L D;clear L;have p1:=B.cell 1 _ rfl
 go_wp2_with fail
 clear p1;refine(q2G _ d r0 w0 (J.below hB) z.1 z.2 (by omega) (by omega)).mono ?_;rintro e w1 ⟨r1,rfl,M,C⟩;replace B:=B.below C;replace hB:=hB.trans (C.mono hB.size);clear C;by_cases E:r1<0
 ·go_wp2
  go_ret;exact⟨_,rfl,fun h=>by omega,hB⟩
 have O:=M E;clear M
 go_wp2
 go_ret;exact⟨_,rfl,fun _=>by omega,hB⟩
theorem z5L(p p':CluQ)(w:World)(h:cluK.rd w p)(h':cluK.rd w p')(he:p.e=p'.e)(hl:CluQ.n p≤1048576):
  Calls Dp 9 #[.agg #[p.vo,p.vm],.agg #[p'.vo,p'.vm]] w fun e w'=>e=.returned (.bool true)∧Below w.heap.size w w':=by
 obtain⟨vo,y,vm,x⟩:=p;obtain⟨U,d,T,c⟩:=p';simp only[CluQ.e,CluE.mk.injEq]at he;obtain⟨D,E⟩:=he;dsimp only[CluQ.n]at hl;obtain⟨L,M⟩:instK.At w vo y∧nodeK.At w vm x:=h;obtain⟨I,J⟩:instK.At w U d∧nodeK.At w T c:=h';have N:=fun w h1 h2=>z7u vo U y d w h1 h2 D (by omega)
 have O:=fun w h1 h2=>q2H vm T x c w h1 h2 E (by omega)
 obtain⟨a0,k0,rfl⟩:=L.shape;obtain⟨b0,m0,rfl⟩:=I.shape;obtain⟨a1,k1,rfl⟩:=M.shape;obtain⟨b1,m1,rfl⟩:=J.shape;have B:=(Blk.new w 30 #[Sl a0 y.length k0,Sl a1 x.length k1]).below (w':=(w.alloc (.cells #[Sl a0 y.length k0,Sl a1 x.length k1] 30)).alloc (.cells #[Sl b0 d.length m0,Sl b1 c.length m1] 30)) (by go_grown);have C:=Blk.new (w.alloc (.cells #[Sl a0 y.length k0,Sl a1 x.length k1] 30)) 30 #[Sl b0 d.length m0,Sl b1 c.length m1];have hB:Below w.heap.size w ((w.alloc (.cells #[Sl a0 y.length k0,Sl a1 x.length k1] 30)).alloc (.cells #[Sl b0 d.length m0,Sl b1 c.length m1] 30)):=by go_grown
 rw[World.size_alloc]at C;clear D E;go_enter func9,ntmps9
 go_wp2_with fail
 generalize (w.alloc (.cells #[Sl a0 y.length k0,Sl a1 x.length k1] 30)).alloc (.cells #[Sl b0 d.length m0,Sl b1 c.length m1] 30)=W at*;refine(N W (L.below hB) (I.below hB)).mono ?_;rintro e w0 ⟨rfl,z⟩;replace B:=B.below z;replace C:=C.below z;replace hB:=hB.trans (z.mono hB.size);clear z N;have p1:=B.cell 1 _ rfl;have q1:=C.cell 1 _ rfl
 go_wp2_with fail
 clear p1 q1;refine(O w0 (M.below hB) (J.below hB)).mono ?_;rintro e w1 ⟨rfl,A⟩;replace B:=B.below A;replace C:=C.below A;replace hB:=hB.trans (A.mono hB.size);clear A O
 go_wp2
 go_ret;exact⟨rfl,hB⟩
theorem z9P(p:CluQ)(w:World)(h:cluK.rd w p)(hl:CluQ.n p≤1048576):
  Calls Dp 6 #[.agg #[p.vo,p.vm]] w fun e w'=>∃p':CluQ,e=.returned (.agg #[p'.vo,p'.vm])∧p'.e=p.e∧cluK.own w' p'∧(cluK.foot p').Nodup∧(∀k∈cluK.foot p',w.heap.size≤k)∧Below w.heap.size w w':=by
 obtain⟨vo,d,vm,c⟩:=p;dsimp only[CluQ.n]at hl;obtain⟨z,A⟩:instK.At w vo d∧nodeK.At w vm c:=h;have E:=fun w h1=>z7v vo d w h1 (by omega)
 have I:=fun w h1=>q2I vm c w h1 (by omega)
 obtain⟨a0,k0,rfl⟩:=z.shape;obtain⟨a1,k1,rfl⟩:=A.shape;have B:=(Blk.new w 25 #[Sl a0 d.length k0,Sl a1 c.length k1]).below (w':=((w.alloc (.cells #[Sl a0 d.length k0,Sl a1 c.length k1] 25)).alloc (.cells #[Sl none 0 0,Sl none 0 0] 30)).alloc (.cells #[Sl none 0 0,Sl none 0 0] 30)) (by go_grown);have C:=(Blk.new (w.alloc (.cells #[Sl a0 d.length k0,Sl a1 c.length k1] 25)) 30 #[Sl none 0 0,Sl none 0 0]).below (w':=((w.alloc (.cells #[Sl a0 d.length k0,Sl a1 c.length k1] 25)).alloc (.cells #[Sl none 0 0,Sl none 0 0] 30)).alloc (.cells #[Sl none 0 0,Sl none 0 0] 30)) (by go_grown);have D:=Blk.new ((w.alloc (.cells #[Sl a0 d.length k0,Sl a1 c.length k1] 25)).alloc (.cells #[Sl none 0 0,Sl none 0 0] 30)) 30 #[Sl none 0 0,Sl none 0 0];have hB:Below w.heap.size w (((w.alloc (.cells #[Sl a0 d.length k0,Sl a1 c.length k1] 25)).alloc (.cells #[Sl none 0 0,Sl none 0 0] 30)).alloc (.cells #[Sl none 0 0,Sl none 0 0] 30)):=by go_grown
 simp only[World.size_alloc]at C D;have hS:w.heap.size+3≤(((w.alloc (.cells #[Sl a0 d.length k0,Sl a1 c.length k1] 25)).alloc (.cells #[Sl none 0 0,Sl none 0 0] 30)).alloc (.cells #[Sl none 0 0,Sl none 0 0] 30)).heap.size:=by simp only[World.size_alloc];omega
 go_enter func6,ntmps6
 go_wp2_with fail
 generalize ((w.alloc (.cells #[Sl a0 d.length k0,Sl a1 c.length k1] 25)).alloc (.cells #[Sl none 0 0,Sl none 0 0] 30)).alloc (.cells #[Sl none 0 0,Sl none 0 0] 30)=W at*;refine(E W (z.below hB)).mono ?_;rintro e y0 ⟨v0,q0,rfl,E0,O0,N0,G0,hb⟩;replace B:=B.below hb;replace C:=C.below hb;replace D:=D.below hb;replace hB:=hB.trans (hb.mono hB.size);have s0:=hb.size;obtain⟨x0,z0,rfl⟩:=O0.shape;clear hb E;have p1:=B.cell 1 _ rfl;have d0:=D.cell 0 _ rfl;have f0:=D.frozen 0
 go_wp2_with fail
 clear p1 d0 f0;have U0:=(Out.refl [w.heap.size+1,w.heap.size+1+1] y0).set (b:=w.heap.size+1+1) (j:=0) (u:=Sl x0 q0.length z0) (by simp);replace D:=D.set 0 (Sl x0 q0.length z0);replace B:=B.other (b':=w.heap.size+1+1) (by omega) 0 (Sl x0 q0.length z0);replace C:=C.other (b':=w.heap.size+1+1) (by omega) 0 (Sl x0 q0.length z0);replace hB:=hB.setCell (p:=⟨w.heap.size+1+1,0,none⟩) (by show w.heap.size≤w.heap.size+1+1;omega) (Sl x0 q0.length z0);simp only[pjE]at D;have t0:=U0.size;generalize y0.setCell ⟨w.heap.size+1+1,0,none⟩ (Sl x0 q0.length z0)=V0 at*;refine(I V0 (A.below hB)).mono ?_;rintro e y1 ⟨v1,q1,rfl,E1,O1,N1,G1,hb⟩;replace U0:=U0.call hb;replace B:=B.below hb;replace C:=C.below hb;replace D:=D.below hb;replace hB:=hB.trans (hb.mono hB.size);have s1:=hb.size;obtain⟨x1,z1,rfl⟩:=O1.shape;clear hb I;clear B;have d0:=D.cell 0 _ rfl;have f0:=D.frozen 0;have c0:=C.cell 0 _ rfl;have g0:=C.frozen 0;have d1:=D.cell 1 _ rfl;have f1:=D.frozen 1;have c1:=C.cell 1 _ rfl;have g1:=C.frozen 1;have R:Hid (∀j u j' u' x y,cluK.own (((y1.setCell ⟨w.heap.size+1+1,j,none⟩ u).setCell ⟨w.heap.size+1,j',none⟩ u').setCell ⟨w.heap.size+1,x,none⟩ y) ⟨Sl x0 q0.length z0,q0,Sl x1 q1.length z1,q1⟩∧Below w.heap.size w (((y1.setCell ⟨w.heap.size+1+1,j,none⟩ u).setCell ⟨w.heap.size+1,j',none⟩ u').setCell ⟨w.heap.size+1,x,none⟩ y)):=by
  intro j u j' u' x y;have X0:=(((U0.set (b:=w.heap.size+1+1) (j:=j) (u:=u) (by simp)).set (b:=w.heap.size+1) (j:=j') (u:=u') (by simp)).set (b:=w.heap.size+1) (j:=x) (u:=y) (by simp))
  have X1:=((((Out.refl [w.heap.size+1,w.heap.size+1+1] y1).set (b:=w.heap.size+1+1) (j:=j) (u:=u) (by simp)).set (b:=w.heap.size+1) (j:=j') (u:=u') (by simp)).set (b:=w.heap.size+1) (j:=x) (u:=y) (by simp))
  refine⟨⟨O0.out X0 (fun k hk=>?_),O1.out X1 (fun k hk=>?_)⟩,?_⟩
  ·have:=G0 k hk;simp only[List.mem_cons,List.not_mem_nil,or_false];omega
  ·have:=G1 k hk;simp only[List.mem_cons,List.not_mem_nil,or_false];omega
  ·exact(((hB.setCell (p:=⟨w.heap.size+1+1,j,none⟩) (by show w.heap.size≤w.heap.size+1+1;omega) u).setCell (p:=⟨w.heap.size+1,j',none⟩) (by show w.heap.size≤w.heap.size+1;omega) u').setCell (p:=⟨w.heap.size+1,x,none⟩) (by show w.heap.size≤w.heap.size+1;omega) y)
 have R1:Hid ((cluK.foot ⟨Sl x0 q0.length z0,q0,Sl x1 q1.length z1,q1⟩).Nodup∧(∀k∈cluK.foot ⟨Sl x0 q0.length z0,q0,Sl x1 q1.length z1,q1⟩,w.heap.size≤k)):=by
  have L0:=O0.lt;have L1:=O1.lt;have T0:=U0.size;refine⟨?_,?_⟩
  ·show List.Nodup (_++_);exact List.nodup_append.2 ⟨N0,N1,z5i (m:=(V0).heap.size) (fun k hk=>by have:=L0 k hk;omega) (fun k hk=>by have:=G1 k hk;omega)⟩
  ·exact(fun k hk=>by rcases List.mem_append.1 hk with hk|hk<;>first|(have:=G0 k hk;omega)|(have:=G1 k hk;omega))
 have R2:Hid (CluQ.e ⟨Sl x0 q0.length z0,q0,Sl x1 q1.length z1,q1⟩=CluQ.e ⟨Sl a0 d.length k0,d,Sl a1 c.length k1,c⟩):=show _=_ by simp only[CluQ.e,E0,E1]
 clear O0 N0 G0 O1 N1 G1 U0 E0 E1 hB C D z A
 go_wp2
 exact bodyPost_ret (v:=.agg #[Sl x0 q0.length z0,Sl x1 q1.length z1]) (by simp[results,results6,go_sem,c0,c1]) rfl ⟨⟨Sl x0 q0.length z0,q0,Sl x1 q1.length z1,q1⟩,rfl,R2.out,(R.out _ _ _ _ _ _).1,R1.out.1,R1.out.2,(R.out _ _ _ _ _ _).2⟩
section
variable {P:Type} {K:Kind P} {w w':World} {a:Option Addr} {n cap:Nat} {ps:List P}
theorem Kind.At.takeK(h:K.At w (Sl a n cap) ps)(m:Nat)(hm:m≤ps.length):K.At w (Sl a m cap) (ps.take m):=by
 obtain⟨a',c,e,hl,hr⟩:=h;simp only[Value.slice.injEq]at e;obtain⟨rfl,_,rfl⟩:=e;refine⟨a,cap,by rw[List.length_take,Nat.min_eq_left hm],?_,fun p hp=>hr p (List.mem_of_mem_take hp)⟩;have er:K.row ps=K.row (ps.take m)++K.row (ps.drop m):=by
  unfold Kind.row;rw[←List.flatMap_append,List.take_append_drop]
 rcases hl with h0|⟨b,off,ha,hlt,hc⟩
 ·left;rw[er]at h0;exact(List.append_eq_nil_iff.1 h0).1
 ·right;refine⟨b,off,ha,hlt,fun j x hx=>hc j x ?_⟩;rw[er,List.getElem?_append_left (List.getElem?_eq_some_iff.1 hx).1];exact hx
theorem Kind.At.nilA(w:World)(a:Option Addr)(c':Nat):K.At w (Sl a 0 c') ([]:List P):=⟨a,c',rfl,Or.inl rfl,fun p hp=>by simp at hp⟩
theorem Kind.At.dropS(h:K.At w (Sl a n cap) ps)(m:Nat)(hm:m≤ps.length)(hcap:ps.length≤cap)(c':Nat):K.At w (.slice (if cap=m then a else a.map (·.add (m*K.size))) (ps.drop m).length c') (ps.drop m):=by
 by_cases hc:cap=m
 ·have hp:ps.drop m=[]:=List.drop_of_length_le (by omega);rw[if_pos hc,hp];exact Kind.At.nilA w a c'
 ·rw[if_neg hc]
  cases a with
  |none=>
   obtain⟨a',c,e,hl,hr⟩:=h;simp only[Value.slice.injEq]at e;obtain⟨rfl,_,rfl⟩:=e;rcases hl with h0|⟨b',off',ha,_⟩
   ·refine⟨none,c',rfl,Or.inl ?_,fun p hp=>hr p (List.mem_of_mem_drop hp)⟩;have er:K.row ps=K.row (ps.take m)++K.row (ps.drop m):=by
     unfold Kind.row;rw[←List.flatMap_append,List.take_append_drop]
    rw[er]at h0;exact(List.append_eq_nil_iff.1 h0).2
   ·simp at ha
  |some x=>
   obtain⟨a',c,e,hl,hr⟩:=h;simp only[Value.slice.injEq]at e;obtain⟨rfl,_,rfl⟩:=e;refine⟨_,c',rfl,?_,fun p hp=>hr p (List.mem_of_mem_drop hp)⟩;have er:K.row ps=K.row (ps.take m)++K.row (ps.drop m):=by
    unfold Kind.row;rw[←List.flatMap_append,List.take_append_drop]
   have hlen:(K.row (ps.take m)).length=m*K.size:=by rw[Kind.row_length,List.length_take,Nat.min_eq_left hm]
   rcases hl with h0|⟨b',off',ha,hlt,hc⟩
   ·left;rw[er]at h0;exact(List.append_eq_nil_iff.1 h0).2
   ·right;simp only[Option.some.injEq]at ha;subst ha;refine⟨b',off'+m*K.size,by simp[Addr.add],hlt,fun j y hy=>?_⟩;have h2:=hc (m*K.size+j) y (by rw[er,List.getElem?_append_right (by omega),hlen,show m*K.size+j-m*K.size=j by omega];exact hy);rw[←Nat.add_assoc]at h2;exact h2
theorem Kind.at_of_row{v:Value}{base e:Nat}(h:w.ownsRow base e K.size v ps.length (K.row ps))(hr:∀p∈ps,K.rd w p):K.At w v ps:=by
 obtain⟨a,c,rfl⟩:=z0f h;exact⟨a,c,rfl,Lies.own h,hr⟩
end
theorem Blk.outs8{w w':World}{b:Nat}{t:TypeId}{cs:Array Value}{F:List Nat}(h:Blk w b t cs)(hU:Out F w w')(hF:b∉F):Blk w' b t cs:=(hU.block b h.lt hF).trans h
def z8D:Value→Prop
 | Sl _ n c=>n≤c∧c≤maxLen
 |_=>False
def z1t(f:Nat→Int):Nat→Int
 |0=>0
 |n+1=>if z1t f n=0 then f n else z1t f n
theorem z10(f:Nat→Int):∀n,(∀j,j<n→f j=0)→z1t f n=0
 |0,_=>rfl
 |n+1,h=>by
  have:=z10 f n (fun j hj=>h j (by omega));simp only[z1t,this,if_true];exact h n (by omega)
theorem z3Y(f:Nat→Int)(k:Nat)(h:∀j,j<k→f j=0)(hne:f k≠0):∀n,k<n→z1t f n=f k
 |0,hk=>by omega
 |n+1,hk=>by
  by_cases e:k=n
  ·subst e;simp only[z1t,z10 f k h,if_true]
  ·have:=z3Y f k h hne n (by omega);simp only[z1t,this,hne,if_false]
theorem z4R(f:Nat→Int):∀n,z1t f n=0→∀j,j<n→f j=0
 |0,_,j,hj=>by omega
 |n+1,h,j,hj=>by
  simp only[z1t]at h;by_cases e:z1t f n=0
  ·rw[if_pos e]at h;by_cases ej:j=n
   ·subst ej;exact h
   ·exact z4R f n e j (by omega)
  ·rw[if_neg e]at h;exact absurd h e
def prevK(xs:List ItemD)(k:Nat):Int:=if k=0 then 0 else(xs.getD (k-1) z0c).key
def itF(xs:List ItemD)(k:Nat):Int:=
 if inW (xs.getD k z0c).key 1 20=false∨inW (xs.getD k z0c).val (-20000) 20000=false then 3
 else if(xs.getD k z0c).key≤prevK xs k then 1 else 0
def itemsF(xs:List ItemD):Int:=if 8<xs.length then 2 else z1t (itF xs) xs.length
theorem z7w(xs:List ItemD)(k:Nat):
  (inW (xs.getD k z0c).key 1 20=false∧itF xs k=3)∨(inW (xs.getD k z0c).key 1 20=true∧inW (xs.getD k z0c).val (-20000) 20000=false∧itF xs k=3)∨
  (inW (xs.getD k z0c).key 1 20=true∧inW (xs.getD k z0c).val (-20000) 20000=true∧(xs.getD k z0c).key≤prevK xs k∧itF xs k=1)∨
  (inW (xs.getD k z0c).key 1 20=true∧inW (xs.getD k z0c).val (-20000) 20000=true∧¬(xs.getD k z0c).key≤prevK xs k∧itF xs k=0):=by
 unfold itF;generalize xs.getD k z0c=x;generalize prevK xs k=p
 cases h1:inW x.key 1 20<;>cases h2:inW x.val (-20000) 20000<;>by_cases h3:x.key≤p<;>simp[h3]
theorem z1R(n:Int)(w:World):
  Calls Dp 266 #[Ki It n] w fun e w'=>e=.returned (.bool (inW n (-20000) 20000))∧w'=w:=by
 have hc:=fun w=>z0G n (-20000) 20000 w
 generalize inW n (-20000) 20000=r at hc;go_enter func266,ntmps266
 go_wp2_with (go_at_call 21;refine(hc _).mono ?_;rintro e w' ⟨rfl,rfl⟩)
 go_ret;exact⟨rfl,rfl⟩
theorem z3Z(a:Option Addr)(cap:Nat)(zs:List ItemD)(w:World)(h:ItemRow w a zs)(hl:zs.length≤1048576):
  Calls Dp 258 #[Sl a zs.length cap] w fun e w'=>e=.returned (Ki It (itemsF zs))∧Below w.heap.size w w':=by
 by_cases h8:8<zs.length
 ·have E:itemsF zs=2:=if_pos h8;rw[E];go_enter func258,ntmps258
  go_wp2
  go_ret;exact⟨rfl,Below.refl _ _⟩
 have E:itemsF zs=z1t (itF zs) zs.length:=if_neg h8;rw[E];clear E;go_enter func258,ntmps258
 go_wp2
 go_loopw[3,11] (fun l j wr=>∃k:Nat,k≤zs.length∧j=Ki It k∧l=Ki It (prevK zs k)∧Below w.heap.size w wr∧Hid (∀j,j<k→itF zs j=0)) (fun _ j _=>zs.length-(intOf j).toNat)
 case atStart=>exact⟨0,Nat.zero_le _,rfl,rfl,Below.refl _ _,fun j hj=>absurd hj (Nat.not_lt_zero _)⟩
 case round=>
  obtain⟨k,hk,rfl,rfl,hb,HA⟩:=hrel;by_cases hlt:k<zs.length
  ·obtain⟨b,off,rfl,hbs,hc0,hc1⟩:=(h.below hb).at k hlt;have hsz:=hb.size;have HK:Hid (prevK zs (k+1)=(zs.getD k z0c).key):=if_neg (Nat.succ_ne_zero k);rcases z7w zs k with⟨h1,hF⟩|⟨h1,h2,hF⟩|⟨h1,h2,h3,hF⟩|⟨h1,h2,h3,hF⟩
   case inr.inr.inr=>
    have HB:Hid (∀j,j<k+1→itF zs j=0):=by
     intro j hj;by_cases hjk:j=k
     ·subst hjk;exact hF
     ·exact HA.out j (by omega)
    clear HA hF;generalize prevK zs k=p at h3;generalize zs.getD k z0c=z at hc0 hc1 h1 h2 h3 HK;obtain⟨z0,z1⟩:=z;dsimp only at hc0 hc1 h1 h2 h3 HK
    go_wp2_with (first|(go_at_call 21;refine(z0G _ _ _ _).mono ?_;rintro e w' ⟨rfl,rfl⟩)|(go_at_call 266;refine(z1R _ _).mono ?_;rintro e w' ⟨rfl,rfl⟩))
    go_roundw
    case rel=>exact⟨k+1,by omega,by go_num,by rw[HK.out],by go_grown,HB⟩
    case measure=>simp[intOf];omega
   all_goals
    have E:Hid (z1t (itF zs) zs.length=_):=z3Y (itF zs) k HA.out (by rw[hF];decide) zs.length hlt;rw[hF]at E;clear HA hF HK;generalize prevK zs k=p at*;generalize zs.getD k z0c=z at*;obtain⟨z0,z1⟩:=z;dsimp only at*
    go_wp2_with (first|(go_at_call 21;refine(z0G _ _ _ _).mono ?_;rintro e w' ⟨rfl,rfl⟩)|(go_at_call 266;refine(z1R _ _).mono ?_;rintro e w' ⟨rfl,rfl⟩))
    go_ret;rw[E.out];exact⟨rfl,by go_grown⟩
  ·have hkl:k=zs.length:=by omega
   subst hkl;have E:Hid (z1t (itF zs) zs.length=0):=z10 _ _ HA.out;clear HA
   go_wp2
   go_ret;rw[E.out];exact⟨rfl,hb⟩
def OwnS(e size lo hi:Nat)(w:World)(v:Value)(n:Nat)(xs:List Value):Prop:=w.ownsRow lo e size v n xs∧∀g,v.ownBlock=some g→g<hi
theorem OwnS.of{e size lo n:Nat}{w:World}{v:Value}{xs:List Value}(o:w.ownsRow lo e size v n xs):OwnS e size lo w.heap.size w v n xs:=⟨o,fun g hg=>(o.lt g hg).2⟩
theorem OwnS.below{e size lo hi n:Nat}{w w':World}{v:Value}{xs:List Value}(o:OwnS e size lo hi w v n xs)(hb:Below w.heap.size w w'):OwnS e size lo hi w' v n xs:=⟨z0d o.1 hb,o.2⟩
theorem OwnS.only{e size lo hi n lo' hi':Nat}{w w':World}{v:Value}{xs:List Value}(o:OwnS e size lo hi w v n xs)(h:Only lo' hi' w w')(hh:hi'≤lo):OwnS e size lo hi w' v n xs:=⟨z2f o.1 h hh,o.2⟩
theorem OwnS.lies{e size lo hi n c:Nat}{w:World}{a:Option Addr}{xs:List Value}(o:OwnS e size lo hi w (Sl a n c) n xs):Lies w a xs:=Lies.own o.1
theorem OwnS.wide{e size lo hi n lo' hi':Nat}{w:World}{v:Value}{xs:List Value}(o:OwnS e size lo hi w v n xs)(h:lo'≤lo)(hh:hi≤hi'):OwnS e size lo' hi' w v n xs:=⟨z0r o.1 h,fun g hg=>Nat.lt_of_lt_of_le (o.2 g hg) hh⟩
theorem OwnS.grown{e size lo hi n:Nat}{w w':World}{v:Value}{xs:List Value}(o:OwnS e size lo hi w v n xs)(hg:w.grownBy w' v.ownBlock):Only lo hi w w':=z3M hg (fun g h=>⟨(o.1.lt g h).1,o.2 g h⟩)
theorem OwnS.beside{e size lo hi n:Nat}{w w':World}{v v':Value}{xs:List Value}(o:OwnS e size lo hi w v n xs)(hg:w.grownBy w' v'.ownBlock)(h:v.ownBlock=none∨v.ownBlock≠v'.ownBlock):OwnS e size lo hi w' v n xs:=⟨o.1.kept hg h,o.2⟩
theorem OwnTxns.only{lo hi lo' hi':Nat}{w w':World}{v:Value}{ds:List TxnD}(h:OwnTxns lo hi w v ds)(ho:Only lo' hi' w w')(hh:hi'≤lo):OwnTxns lo hi w' v ds:=by
 obtain⟨g,cap,ps,e,hg,hd,o,hp⟩:=h;exact⟨g,cap,ps,e,hg,hd,z2f o ho hh,fun p hm=>⟨z2f (hp p hm).1 ho hh,(hp p hm).2⟩⟩
section
open Go.Maps Go.Sort Go.Shelf
def z6P:Go.Shelf.Ren:=⟨fun|7=>269|10=>272|n=>n,fun|23=>337|26=>2|3=>2|28=>366|0=>0|27=>365|33=>198|4=>4|n=>n,fun|n=>n⟩
theorem q4N:Go.Proofs.SlLaysZI.n7 Dp z6P:={
 mixed:=by kernel_rfl,
 f7:=⟨Tryz.f269.name,by decide,func269.trans (congrArg some (by kernel_rfl))⟩,
 f10:=⟨Tryz.f272.name,by decide,func272.trans (congrArg some (by kernel_rfl))⟩,
 t0:=Tryz.underlying0,
 a0:=Tryz.isAgg0,
 z0:=Tryz.sizeOf0,
 v0:=Tryz.zeroValue0,
 t4:=Tryz.underlying4,
 a4:=Tryz.isAgg4,
 z4:=Tryz.sizeOf4,
 v4:=Tryz.zeroValue4,
 t23:=Tryz.underlying337,
 a23:=Tryz.isAgg337,
 z23:=Tryz.sizeOf337,
 v23:=Tryz.zeroValue337,
 t26:=Tryz.underlying2,
 a26:=Tryz.isAgg2,
 z26:=Tryz.sizeOf2,
 v26:=Tryz.zeroValue2,
 t27:=Tryz.underlying365,
 a27:=Tryz.isAgg365,
 z27:=Tryz.sizeOf365,
 v27:=Tryz.zeroValue365,
 t28:=Tryz.underlying366,
 a28:=Tryz.isAgg366,
 z28:=Tryz.sizeOf366,
 v28:=Tryz.zeroValue366,
 t33:=Tryz.underlying198,
 a33:=Tryz.isAgg198,
 z33:=Tryz.sizeOf198,
 v33:=Tryz.zeroValue198 }
def z4S:Go.Shelf.Ren:=⟨fun|6=>268|8=>271|9=>84|11=>273|13=>140|12=>139|23=>185|24=>186|14=>176|15=>177|16=>178|17=>179|18=>180|19=>181|20=>182|21=>183|22=>184|25=>208|26=>209|27=>210|28=>211|29=>212|30=>213|31=>240|n=>n,fun|26=>2|28=>366|24=>62|0=>0|3=>3|37=>202|48=>253|50=>255|4=>4|40=>246|39=>245|45=>250|5=>5|9=>9|51=>283|55=>287|57=>326|58=>327|33=>198|n=>n,fun|n=>n⟩
theorem q4b:Go.Proofs.SlLaysZI.n6 Dp z4S:={
 mixed:=by kernel_rfl,
 f6:=⟨Tryz.f268.name,by decide,func268.trans (congrArg some (by kernel_rfl))⟩,
 f8:=⟨Tryz.f271.name,by decide,func271.trans (congrArg some (by kernel_rfl))⟩,
 f11:=⟨Tryz.f273.name,by decide,func273.trans (congrArg some (by kernel_rfl))⟩,
 t0:=Tryz.underlying0,
 a0:=Tryz.isAgg0,
 z0:=Tryz.sizeOf0,
 v0:=Tryz.zeroValue0,
 t24:=Tryz.underlying62,
 a24:=Tryz.isAgg62,
 z24:=Tryz.sizeOf62,
 v24:=Tryz.zeroValue62,
 t26:=Tryz.underlying2,
 a26:=Tryz.isAgg2,
 z26:=Tryz.sizeOf2,
 v26:=Tryz.zeroValue2,
 t28:=Tryz.underlying366,
 a28:=Tryz.isAgg366,
 z28:=Tryz.sizeOf366,
 v28:=Tryz.zeroValue366,
 i26:=by kernel_rfl }
end
structure KeepP (p:World→Prop) where
 val:World
 isP:p val
section
variable {P:Program} {ops:Array Oper} {Q:Exit→Act→World→Prop} {S:World→Prop} {st:Nat}
def z1n(P:Program)(ops:Array Oper)(Q:Exit→Act→World→Prop)(S:World→Prop)(st:Nat):Nat→Array Bool→Act→World→Prop
 |0,listed,a,w=>Region.ready .any ops listed=[]∧Q .normal a w
 |fuel+1,listed,a,w=>
  (Region.ready .any ops listed=[]→Q .normal a w)∧
  ∀i∈Region.ready .any ops listed,wpOp P ops Q i (fun a' w'=>((listed.setIfInBounds i true).getD st true=true∨S w')∧z1n P ops Q S st fuel (listed.setIfInBounds i true) a' w') a w
theorem z6Q:∀ (fuel:Nat) (listed:Array Bool) (a:Act) (w:World),z1n P ops Q S st fuel listed a w→wpAny P .any ops Q fuel listed a w
 |0,_,_,_,h=>h
 |fuel+1,_,_,_,h=>⟨h.1,fun i hi=>wpOp_mono (fun a' w' h'=>z6Q fuel _ a' w' h'.2) (h.2 i hi)⟩
theorem z4T{i:Nat}{oi:Oper}{v:Value}(hi:ops[i]?=some oi)(J:∀ (j:Nat) (o:Oper) cs b,ops[j]?=some o→o.op≠.select cs b)
  (hQ:∀c a w,Q (.panic c) (a.put oi.dst v) w→Q (.panic c) a w) (N:i≠st) (Z:∀o,ops[st]?=some o→∃e∈o.after,Region.binds .any e=true∧e.on=i):
  ∀ (x:Nat) (d:Array Bool) (a:Act) (w:World),
   (∀j oj,ops[j]?=some oj→j≠i→d.getD j true=false→(∀e∈oj.after,Region.binds .any e=true→e.on≠i)→oi.apart ops oj=true)→
   i∈Region.ready .any ops d→YieldsIf P ops S oi v a→S w→d.getD st true=false→
   z1n P ops Q S st x (d.setIfInBounds i true) (a.put oi.dst v) w→z1n P ops Q S st (x+1) d a w:=by
 intro x;induction x with
 |zero=>
  intro d a w _ hr hy hS hl H;refine⟨fun h=>(by rw[h]at hr;cases hr),fun j hj=>?_⟩;by_cases y:j=i
  ·subst y;exact hy.wpOp hi hS ⟨Or.inr hS,H⟩
  ·have:=ready_mono hj y;rw[H.1]at this
   cases this
 |succ x ih=>
  intro d a w z hr hy hS hl H;refine⟨fun h=>(by rw[h]at hr;cases hr),fun j hj=>?_⟩;by_cases y:j=i
  ·subst y;exact hy.wpOp hi hS ⟨Or.inr hS,H⟩
  ·have h1:=H.2 j (ready_mono hj y);obtain⟨E,oj,C,M⟩:=mem_ready.1 hj;have I:∀e∈oj.after,Region.binds .any e=true→e.on≠i:=fun e he hb U=>by
    have h1:=M e he hb;have h0:=(mem_ready.1 hr).1;rw[U]at h1;rcases Nat.lt_or_ge i d.size with h'|h'
    ·simp[h']at h0 h1;rw[h0]at h1;cases h1
    ·simp[Array.getElem?_eq_none h']at h1
   have D:j≠st:=by
    intro e;subst e;obtain⟨e,he,hb,Y⟩:=Z oj C;exact I e he hb Y
   have h2:=wpOp_putIf C (z j oj C y E I) (fun cs b=>J i oi cs b hi) (fun cs b=>J j oj cs b C) hQ hy h1;have A:∀k ok,ops[k]?=some ok→k≠i→(d.setIfInBounds j true).getD k true=false→
     (∀e∈ok.after,Region.binds .any e=true→e.on≠i)→oi.apart ops ok=true:=fun k ok hk V T X=>by
    refine z k ok hk V ?_ X;by_cases O:j=k
    ·subst O;exact E
    ·rw[getD_set_ne true O]at T;exact T
   have W:(d.setIfInBounds j true).getD st true=false:=by rw[getD_set_ne true D];exact hl
   refine wpOp_mono (fun a' w' h3=>?_) h2;have L:S w':=by
    rcases h3.2.1 with h4|h4
    ·rw[getD_set_ne true D,getD_set_ne true N,hl]at h4
     cases h4
    ·exact h4
   refine⟨Or.inr L,ih (d.setIfInBounds j true) a' w' A (ready_mono hr (Ne.symm y)) h3.1 L W ?_⟩;rw[Array.setIfInBounds_comm _ _ y];exact h3.2.2
def PanTo(Q:Exit→Act→World→Prop)(R:List PanicEntry→World→Prop):Exit→Act→World→Prop
 | .panic c,a,w=>a.defers=[]∧R c w
 |e,a,w=>Q e a w
theorem z7x(a:Act)(d:Option Tmp)(v:Value):(a.put d v).defers=a.defers:=by cases d<;>rfl
theorem PanTo.put{R:List PanicEntry→World→Prop}:∀c (a:Act) (d:Option Tmp) (v:Value) w,PanTo Q R (.panic c) (a.put d v) w→PanTo Q R (.panic c) a w:=fun c a d v w h=>⟨(z7x a d v)▸h.1,h.2⟩
variable {R:List PanicEntry→World→Prop}
theorem PanTo.imp(hR:∀c a w,a.defers=[]→R c w→Q (.panic c) a w):∀ (e:Exit) (a:Act) (w:World),PanTo Q R e a w→Q e a w:=fun e a w h=>by
 cases e<;>first|exact h|exact hR _ _ _ h.1 h.2
theorem z30{id:Nat}{a:Act}{w:World}(st:Nat)(hm:P.follows .mixedOrders=true)(hR:∀c a w,a.defers=[]→R c w→Q (.panic c) a w)
  (h:z1n P ops (PanTo Q R) S st ops.size (Array.replicate ops.size false) a w.drew):(Code.region id ops true).wp P Q a w:=
 Code.wp_mono (PanTo.imp hR) (wp_region_any hm (z6Q _ _ _ _ h))
def q2J(ops:Array Oper)(st i:Nat):Bool:=match ops[st]? with
 |some o=>o.after.any (fun e=>Region.binds .any e && e.on==i)
 |none=>true
theorem q0x{i:Nat}(h:q2J ops st i=true):∀o,ops[st]?=some o→∃e∈o.after,Region.binds .any e=true∧e.on=i:=by
 intro o ho;unfold q2J at h;rw[ho]at h;obtain⟨k,hk,_,_,hb⟩:=Array.any_iff_exists.1 h;simp only[Bool.and_eq_true,beq_iff_eq]at hb;exact⟨o.after[k],Array.getElem_mem hk,hb⟩
def z8E(ops:Array Oper)(st:Nat):List Nat→Array Bool→Bool
 |[],_=>true
 |i::r,l=>Region.free .any ops l i && (Region.ready .any ops l).contains i && (i !=st) && q2J ops st i && !(l.getD st true) && z8E ops st r (l.setIfInBounds i true)
theorem q1m(hs:Region.noSelect ops=true):
  ∀ (z:List Nat) (os:List Oper) (l:Array Bool) (a:Act) (w:World) (y:Nat),z.map (ops[·]?)=os.map some→os.all (fun o=>z4K o.op)=true→z8E ops st z l=true→S w→
   wpQuiet P ops S (fun a'=>z1n P ops (PanTo Q R) S st y (z4l z l) a' w) os a→z1n P ops (PanTo Q R) S st (y+z.length) l a w:=by
 intro z;induction z with
 |nil=>
  intro os l a w y d _ _ _ h
  cases os with
  |nil=>exact h
  |cons o os=>simp at d
 |cons i r ih=>
  intro os l a w y d A E hS h
  cases os with
  |nil=>simp at d
  |cons o os=>
   simp only[List.map_cons,List.cons.injEq]at d;simp only[List.all_cons,Bool.and_eq_true]at A;simp only[z8E,Bool.and_eq_true,bne_iff_ne,ne_eq,Bool.not_eq_true']at E;obtain⟨⟨⟨⟨⟨hf,hr⟩,D⟩,I⟩,hl⟩,C⟩:=E;simp only[wpQuiet]at h;by_cases hw:Region.wanted o (yielded ops a.tmps)=true
   ·rw[if_pos hw]at h;obtain⟨v,hv,hk⟩:=h;refine z4T (i:=i) (oi:=o) (v:=v) d.1 (Region.noSelect_spec hs) (fun c a w h=>PanTo.put c a _ _ w h) D (q0x I) _ l a w (Region.free_spec d.1 hf) (by simpa using hr) (Or.inl ⟨hw,fun u hu=>?_⟩) hS hl (ih os _ _ w y d.2 A.2 C hS hk);have hq:=hv u hu;unfold Oper.quietAt at hq
    cases hrun:(execOp a.eval o).run P u with
    |ok n u'=>
     obtain⟨x,rfl⟩:=z5s A.1 hrun;rw[hrun]at hq;obtain⟨e1,e2⟩:=hq;rw[e1,e2]
    |halt x u'=>
     rw[hrun]at hq;exact hq.elim
   ·rw[if_neg hw]at h;have J:Region.wanted o (yielded ops a.tmps)=false:=by simpa using hw
    exact z4T (i:=i) (oi:=o) (v:=undef) d.1 (Region.noSelect_spec hs) (fun c a w h=>PanTo.put c a _ _ w h) D (q0x I) _ l a w (Region.free_spec d.1 hf) (by simpa using hr) (Or.inr ⟨J,rfl⟩) hS hl (ih os _ _ w y d.2 A.2 C hS h)
theorem segX(rs:List (Nat × Nat))(fuel:Nat){F:Nat}{l:Array Bool}{a:Act}{w:World}(hF:F=fuel+(z74 rs).length)(hs:Region.noSelect ops=true)(hm:(z74 rs).map (ops[·]?)=(z3A ops.toList rs).map some)
  (hp:(z3A ops.toList rs).all (fun o=>z4K o.op)=true) (hok:z8E ops st (z74 rs) l=true) (hS:S w)
  (h:wpQuiet P ops S (fun a'=>z1n P ops (PanTo Q R) S st fuel (z4l (z74 rs) l) a' w) (z3A ops.toList rs) a):z1n P ops (PanTo Q R) S st F l a w:=by
 subst hF;exact q1m hs (z74 rs) _ l a w fuel hm hp hok hS h
theorem q6O(i:Nat)(d:Option Tmp)(f:Nat)(args:Array Value)(fuel:Nat){F:Nat}{l:Array Bool}{a:Act}{w:World}(hF:F=fuel+1)
  (hd:(ops[i]?).map (·.dst)=some d) (hr:Region.ready .any ops l=[i]) (hw:(ops[i]?).map (fun o=>Region.wanted o (yielded ops a.tmps))=some true)
  (hrun:(ops[i]?).map (fun o=>(execOp a.eval o).run P w)=some (.ok (.enter f args) w))
  (hdf:a.defers=[]) (hc:Calls P f args w (fun e w'=>(∃v,e=.returned v∧S w'∧z1n P ops (PanTo Q R) S st fuel (z4l [i] l) (a.put d v) w')∨∃c,e=.panicked c∧R c w')):z1n P ops (PanTo Q R) S st F l a w:=by
 subst hF
 cases ho:ops[i]? with
 |none=>rw[ho]at hd;simp at hd
 |some o=>
  rw[ho]at hd hw hrun;simp only[Option.map_some,Option.some.injEq]at hd hw hrun;subst hd;refine⟨fun h0=>(by rw[hr]at h0;cases h0),fun j hj=>?_⟩;rw[hr]at hj;simp only[List.mem_singleton]at hj;subst hj;unfold wpOp;simp only[ho,hw,if_true];refine .inl ?_;unfold Oper.wp;rw[hrun];simp only[Oper.upon];refine hc.mono fun e w' he=>?_
  rcases he with⟨v,rfl,h1,h2⟩|⟨c,rfl,h1⟩
  ·exact⟨Or.inr h1,h2⟩
  ·exact⟨hdf,h1⟩
def ThenX(Q:Exit→Act→World→Prop)(R:List PanicEntry→World→Prop)(K:Act→World→Prop):Exit→Act→World→Prop
 | .normal,a,w=>K a w
 |e,a,w=>PanTo Q R e a w
theorem ThenX.to{K:Act→World→Prop}{a:Act}{w:World}(h:K a w):ThenX Q R K .normal a w:=h
theorem oneX(i:Nat)(o:Oper)(fuel:Nat){F:Nat}{l:Array Bool}{a:Act}{w:World}(hF:F=fuel+1)(ho:ops[i]?=some o)(hr:Region.ready .any ops l=[i])
  (h:wpList P ops (ThenX Q R (fun a' w'=>((z4l [i] l).getD st true=true∨S w')∧z1n P ops (PanTo Q R) S st fuel (z4l [i] l) a' w')) [o] a w):z1n P ops (PanTo Q R) S st F l a w:=by
 subst hF;refine⟨fun h0=>(by rw[hr]at h0;cases h0),fun j hj=>?_⟩;rw[hr]at hj;simp only[List.mem_singleton]at hj;subst hj;unfold wpOp;simp only[ho];simp only[wpList]at h;split at h
 ·rename_i hw
  rw[if_pos hw];rcases h with h|⟨h1,h2⟩
  ·left;unfold Oper.wp at h⊢;revert h;generalize (execOp a.eval o).run P w=r;intro h;unfold Oper.upon at h⊢;split at h
   ·exact h
   ·exact h
   ·exact h
   ·refine Calls.mono h fun e w' he=>?_
    cases e<;>exact he
   ·exact h
   ·exact h
   ·exact h
  ·exact Or.inr ⟨h1,h2⟩
 ·rename_i hw
  rw[if_neg hw];exact h
theorem q4c{F:Nat}{l:Array Bool}{a:Act}{w:World}(hr:Region.ready .any ops l=[])(h:Q .normal a w):z1n P ops (PanTo Q R) S st F l a w:=by
 cases F with
 |zero=>exact⟨hr,h⟩
 |succ F=>exact⟨fun _=>h,by rw[hr];simp⟩
theorem sgX(rs:List (Nat × Nat))(fuel:Nat){F:Nat}{l:Array Bool}{a:Act}{w:World}(h5:(F,Region.noSelect ops,(z74 rs).map (ops[·]?),(z3A ops.toList rs).all (fun o=>z4K o.op),z8E ops st (z74 rs) l)=(fuel+(z74 rs).length,true,(z3A ops.toList rs).map some,true,true))(hS:S w)
  (h:wpQuiet P ops S (fun a'=>z1n P ops (PanTo Q R) S st fuel (z4l (z74 rs) l) a' w) (z3A ops.toList rs) a):z1n P ops (PanTo Q R) S st F l a w:=by
 simp only[Prod.mk.injEq]at h5;exact segX rs fuel h5.1 h5.2.1 h5.2.2.1 h5.2.2.2.1 h5.2.2.2.2 hS h
theorem clX(i:Nat)(d:Option Tmp)(f:Nat)(args:Array Value)(fuel:Nat){F:Nat}{l:Array Bool}{a:Act}{w:World}(h5:(F,(ops[i]?).map (·.dst),Region.ready .any ops l,(ops[i]?).map (fun o=>Region.wanted o (yielded ops a.tmps)),(ops[i]?).map (fun o=>(execOp a.eval o).run P w))=(fuel+1,some d,[i],some true,some (.ok (.enter f args) w)))
  (hdf:a.defers=[]) (hc:Calls P f args w (fun e w'=>(∃v,e=.returned v∧S w'∧z1n P ops (PanTo Q R) S st fuel (z4l [i] l) (a.put d v) w')∨∃c,e=.panicked c∧R c w')):z1n P ops (PanTo Q R) S st F l a w:=by
 simp only[Prod.mk.injEq]at h5;exact q6O i d f args fuel h5.1 h5.2.1 h5.2.2.1 h5.2.2.2.1 h5.2.2.2.2 hdf hc
theorem onX(i:Nat){o:Oper}(fuel:Nat){F:Nat}{l:Array Bool}{a:Act}{w:World}(ho:ops[i]?=some o)(h2:(F,Region.ready .any ops l)=(fuel+1,[i]))
  (h:wpList P ops (ThenX Q R (fun a' w'=>((z4l [i] l).getD st true=true∨S w')∧z1n P ops (PanTo Q R) S st fuel (z4l [i] l) a' w')) [o] a w):z1n P ops (PanTo Q R) S st F l a w:=by
 simp only[Prod.mk.injEq]at h2;exact oneX i o fuel h2.1 ho h2.2 h
end
def q6P(x:UndoD):Int:=
 if inW x.key 1 20=false∨inW x.val (-20000) 20000=false then 3 else if x.was=false∧x.val≠0 then 1 else 0
structure USP where
 d:List UndoD
 a:Option Addr
 cap:Nat
def USP.sl(p:USP):Value:=Sl p.a p.d.length p.cap
def z4u(ps:List USP):List Value:=ps.map USP.sl
def q2K:USP:=⟨[],none,0⟩
theorem z6t(ps:List USP):(z4u ps).length=ps.length:=by simp[z4u]
theorem z9Q(ps:List USP)(i:Nat)(h:i<ps.length):(z4u ps)[i]?=some (ps.getD i q2K).sl:=by simp[z4u,List.getD,h]
def UssAt(w:World)(v:Value)(ds:List (List UndoD)):Prop:=
 ∃a cap ps,v=Sl a ds.length cap∧ps.map USP.d=ds∧Lies w a (z4u ps)∧∀p∈ps,UndoRow w p.a p.d
theorem UssAt.below{w w':World}{v:Value}{ds:List (List UndoD)}(h:UssAt w v ds)(hb:Below w.heap.size w w'):UssAt w' v ds:=by
 obtain⟨a,cap,ps,e,hd,hL,hA⟩:=h;exact⟨a,cap,ps,e,hd,hL.below hb,fun p hp=>(hA p hp).below hb⟩
theorem UssAt.shape{w:World}{v:Value}{ds:List (List UndoD)}(h:UssAt w v ds):∃a cap,v=Sl a ds.length cap:=by
 obtain⟨a,cap,_,e,_⟩:=h;exact⟨a,cap,e⟩
theorem UssAt.at{w:World}{a:Option Addr}{n cap:Nat}{ds:List (List UndoD)}(h:UssAt w (Sl a n cap) ds)(i:Nat)(hi:i<ds.length):
  ∃b off aa cc,a=some ⟨b,off,none⟩∧b<w.heap.size∧w.cell? ⟨b,off+i,none⟩=some (.slice aa (ds.getD i []).length cc)∧UndoRow w aa (ds.getD i []):=by
 obtain⟨a',cap',ps,e,hd,hL,hA⟩:=h;simp only[Value.slice.injEq]at e;obtain⟨rfl,_,_⟩:=e;have hl:ps.length=ds.length:=by rw[←hd];simp
 have h1:=z9Q ps i (by omega);have hp:(ps.getD i q2K).d=ds.getD i []:=by
  rw[←hd];simp[List.getD,show i<ps.length by omega]
 have hm:ps.getD i q2K∈ps:=by simp[List.getD,show i<ps.length by omega]
 rcases hL with h|⟨b,off,ha,hlt,hc⟩
 ·have:=z6t ps;rw[h]at this;simp at this;omega
 ·have hAA:=hA _ hm;rw[hp]at hAA;refine⟨b,off,(ps.getD i q2K).a,(ps.getD i q2K).cap,ha,hlt,?_,hAA⟩;rw[hc _ _ h1];simp only[USP.sl,hp]
def OwnUss(lo hi:Nat)(w:World)(v:Value)(ds:List (List UndoD)):Prop:=
 ∃g cap ps,v=Sl (some ⟨g,0,none⟩) ds.length cap∧g<hi∧ps.map USP.d=ds∧w.ownsRow lo 157 1 (Sl (some ⟨g,0,none⟩) ds.length cap) ds.length (z4u ps)∧
  ∀p∈ps,w.ownsRow lo 194 3 p.sl p.d.length (z0o p.d)∧∀k,p.sl.ownBlock=some k→k<hi∧k≠g
theorem OwnUss.row{lo hi:Nat}{w:World}{v:Value}{ds:List (List UndoD)}(h:OwnUss lo hi w v ds):UssAt w v ds:=by
 obtain⟨g,cap,ps,e,_,hd,ho,hp⟩:=h;exact⟨_,cap,ps,e,hd,Lies.own ho,fun p hm=>Lies.own (hp p hm).1⟩
theorem OwnUss.below{lo hi:Nat}{w w':World}{v:Value}{ds:List (List UndoD)}(h:OwnUss lo hi w v ds)(hb:Below w.heap.size w w'):OwnUss lo hi w' v ds:=by
 obtain⟨g,cap,ps,e,hg,hd,ho,hp⟩:=h;exact⟨g,cap,ps,e,hg,hd,z0d ho hb,fun p hm=>⟨z0d (hp p hm).1 hb,(hp p hm).2⟩⟩
theorem OwnUss.only{lo hi lo' hi':Nat}{w w':World}{v:Value}{ds:List (List UndoD)}(h:OwnUss lo hi w v ds)(ho:Only lo' hi' w w')(hh:hi'≤lo):OwnUss lo hi w' v ds:=by
 obtain⟨g,cap,ps,e,hg,hd,o,hp⟩:=h;exact⟨g,cap,ps,e,hg,hd,z2f o ho hh,fun p hm=>⟨z2f (hp p hm).1 ho hh,(hp p hm).2⟩⟩
structure Apart3 (s1 s2 s3:Value):Prop where
 a12:s1.ownBlock=none∨s1.ownBlock≠s2.ownBlock
 a13:s1.ownBlock=none∨s1.ownBlock≠s3.ownBlock
 a23:s2.ownBlock=none∨s2.ownBlock≠s3.ownBlock
theorem z7y{s t:Value}(h:s.ownBlock=none∨s.ownBlock≠t.ownBlock):t.ownBlock=none∨t.ownBlock≠s.ownBlock:=by
 rcases h with h|h
 ·cases ht:t.ownBlock with
  |none=>exact Or.inl rfl
  |some g=>right;rw[h];simp
 ·exact Or.inr (fun e=>h e.symm)
structure OwnA (lo hi:Nat) (w:World) (s1 s2 s3:Value) (cs vs:List Int) (ys:List ItemD):Prop where
 o1:OwnS 2 1 lo hi w s1 cs.length (cs.map (Value.int .i64))
 o2:OwnS 2 1 lo hi w s2 vs.length (vs.map (Value.int .i64))
 o3:OwnS 155 2 lo hi w s3 ys.length (z0h ys)
 ap:Apart3 s1 s2 s3
structure RowA (w:World) (a1 a2 a3:Option Addr) (cs vs:List Int) (ys:List ItemD):Prop where
 r1:Row .i64 w a1 cs
 r2:Row .i64 w a2 vs
 r3:ItemRow w a3 ys
theorem OwnA.below{lo hi:Nat}{w w':World}{s1 s2 s3:Value}{cs vs:List Int}{ys:List ItemD}(h:OwnA lo hi w s1 s2 s3 cs vs ys)(hb:Below w.heap.size w w'):OwnA lo hi w' s1 s2 s3 cs vs ys:=⟨h.o1.below hb,h.o2.below hb,h.o3.below hb,h.ap⟩
theorem OwnA.only{lo hi lo' hi':Nat}{w w':World}{s1 s2 s3:Value}{cs vs:List Int}{ys:List ItemD}(h:OwnA lo hi w s1 s2 s3 cs vs ys)(ho:Only lo' hi' w w')(hh:hi'≤lo):OwnA lo hi w' s1 s2 s3 cs vs ys:=⟨h.o1.only ho hh,h.o2.only ho hh,h.o3.only ho hh,h.ap⟩
theorem OwnA.row{lo hi c1 c2 c3:Nat}{w:World}{a1 a2 a3:Option Addr}{cs vs:List Int}{ys:List ItemD}(h:OwnA lo hi w (Sl a1 cs.length c1) (Sl a2 vs.length c2) (Sl a3 ys.length c3) cs vs ys):RowA w a1 a2 a3 cs vs ys:=⟨Row.own h.o1.1,Row.own h.o2.1,Lies.own h.o3.1⟩
theorem RowA.below{w w':World}{a1 a2 a3:Option Addr}{cs vs:List Int}{ys:List ItemD}(h:RowA w a1 a2 a3 cs vs ys)(hb:Below w.heap.size w w'):RowA w' a1 a2 a3 cs vs ys:=⟨h.r1.below hb,h.r2.below hb,h.r3.below hb⟩
structure MarkA (w:World) (a1 a2 a3:Option Addr) (n1 n2 n3:Nat):Prop where
 r1:Row .i64 w a1 (z3z .i64 1 n1)
 r2:Row .i64 w a2 (z3z .i64 (1+(n1:Int)) n2)
 r3:ItemRow w a3 (z0N (1+(n1:Int)+(n2:Int)) n3)
theorem MarkA.below{w w':World}{a1 a2 a3:Option Addr}{n1 n2 n3:Nat}(h:MarkA w a1 a2 a3 n1 n2 n3)(hb:Below w.heap.size w w'):MarkA w' a1 a2 a3 n1 n2 n3:=⟨h.r1.below hb,h.r2.below hb,h.r3.below hb⟩
structure OwnU (lo hi:Nat) (w:World) (s1 s2:Value) (us:List UndoD) (ys:List ItemD):Prop where
 o1:OwnS 194 3 lo hi w s1 us.length (z0o us)
 o2:OwnS 155 2 lo hi w s2 ys.length (z0h ys)
 ap:s1.ownBlock=none∨s1.ownBlock≠s2.ownBlock
structure RowU (w:World) (a1 a2:Option Addr) (us:List UndoD) (ys:List ItemD):Prop where
 r1:UndoRow w a1 us
 r2:ItemRow w a2 ys
theorem OwnU.below{lo hi:Nat}{w w':World}{s1 s2:Value}{us:List UndoD}{ys:List ItemD}(h:OwnU lo hi w s1 s2 us ys)(hb:Below w.heap.size w w'):OwnU lo hi w' s1 s2 us ys:=⟨h.o1.below hb,h.o2.below hb,h.ap⟩
theorem OwnU.only{lo hi lo' hi':Nat}{w w':World}{s1 s2:Value}{us:List UndoD}{ys:List ItemD}(h:OwnU lo hi w s1 s2 us ys)(ho:Only lo' hi' w w')(hh:hi'≤lo):OwnU lo hi w' s1 s2 us ys:=⟨h.o1.only ho hh,h.o2.only ho hh,h.ap⟩
theorem OwnU.row{lo hi c1 c2:Nat}{w:World}{a1 a2:Option Addr}{us:List UndoD}{ys:List ItemD}(h:OwnU lo hi w (Sl a1 us.length c1) (Sl a2 ys.length c2) us ys):RowU w a1 a2 us ys:=⟨Lies.own h.o1.1,Lies.own h.o2.1⟩
theorem RowU.below{w w':World}{a1 a2:Option Addr}{us:List UndoD}{ys:List ItemD}(h:RowU w a1 a2 us ys)(hb:Below w.heap.size w w'):RowU w' a1 a2 us ys:=⟨h.r1.below hb,h.r2.below hb⟩
structure MarkU (w:World) (a1 a2:Option Addr) (n1 n2:Nat):Prop where
 r1:UndoRow w a1 (z0V 1 n1)
 r2:ItemRow w a2 (z0N (1+((n1*3:Nat):Int)) n2)
theorem MarkU.below{w w':World}{a1 a2:Option Addr}{n1 n2:Nat}(h:MarkU w a1 a2 n1 n2)(hb:Below w.heap.size w w'):MarkU w' a1 a2 n1 n2:=⟨h.r1.below hb,h.r2.below hb⟩
def z0W:InstE:=⟨false,[],[],[]⟩
def z1S:List InstE→Int
 |[]=>0
 |x::r=>if insF x=0 then(if 0<r.length∧outV x.dec=3 then 8 else z1S r)else insF x
def ordF(ds:List InstE):Int:=if ds.length<1∨4<ds.length then 2 else z1S ds
def q5s(ds:List InstE):InstE:=ds.getD (ds.length-1) z0W
def decN(ds:List InstE):Nat:=if outV (q5s ds).dec=3 then ds.length-1 else ds.length
theorem z9R(ds:List InstE)(k:Nat)(hk:k<ds.length):ds.drop k=ds.getD k z0W::ds.drop (k+1):=by
 rw[List.drop_eq_getElem_cons hk];simp[List.getD,hk]
theorem z8F(ds:List InstE)(k:Nat)(hk:k<ds.length)(h:insF (ds.getD k z0W)≠0):z1S (ds.drop k)=insF (ds.getD k z0W):=by
 rw[z9R ds k hk,z1S,if_neg h]
theorem z6R(ds:List InstE)(k:Nat)(hk:k+1<ds.length)(h:insF (ds.getD k z0W)=0)(h3:outV (ds.getD k z0W).dec=3):z1S (ds.drop k)=8:=by
 rw[z9R ds k (by omega),z1S,if_pos h,if_pos ⟨by simp;omega,h3⟩]
theorem z6S(ds:List InstE)(k:Nat)(hk:k<ds.length)(h:insF (ds.getD k z0W)=0)(h3:¬(k+1<ds.length∧outV (ds.getD k z0W).dec=3)):z1S (ds.drop k)=z1S (ds.drop (k+1)):=by
 rw[z9R ds k hk,z1S,if_pos h,if_neg];rintro⟨h1,h2⟩;exact h3 ⟨by simp at h1;omega,h2⟩
theorem z8G(ds:List InstE)(k:Nat)(hk:ds.length≤k):z1S (ds.drop k)=0:=by
 rw[List.drop_of_length_le hk];rfl
theorem z5M:∀ (ds:List InstE),z1S ds=0↔∀k,k<ds.length→insF (ds.getD k z0W)=0∧(k+1<ds.length→outV (ds.getD k z0W).dec≠3)
 |[]=>by simp[z1S]
 |x::r=>by
  rw[z1S];constructor
  ·intro h k hk;by_cases h0:insF x=0
   ·rw[if_pos h0]at h;by_cases h1:0<r.length∧outV x.dec=3
    ·rw[if_pos h1]at h;exact absurd h (by decide)
    ·rw[if_neg h1]at h
     cases k with
     |zero=>exact⟨h0,fun hl h3=>h1 ⟨by simpa using hl,h3⟩⟩
     |succ k=>
      have:=(z5M r).1 h k (by simpa using hk);simp only[List.getD_cons_succ,List.length_cons];exact⟨this.1,fun hl=>this.2 (by omega)⟩
   ·rw[if_neg h0]at h;exact absurd h h0
  ·intro h;have h0:=h 0 (by simp);have e0:insF x=0:=h0.1;rw[if_pos e0,if_neg (fun e=>h0.2 (by simpa using e.1) e.2)];refine(z5M r).2 (fun k hk=>?_);have:=h (k+1) (by simpa using hk);simp only[List.getD_cons_succ,List.length_cons]at this;exact⟨this.1,fun hl=>this.2 (by omega)⟩
theorem z2o(ds:List InstE):ordF ds=0↔(1≤ds.length∧ds.length≤4)∧∀k,k<ds.length→insF (ds.getD k z0W)=0∧(k+1<ds.length→outV (ds.getD k z0W).dec≠3):=by
 unfold ordF;by_cases h:ds.length<1∨4<ds.length
 ·rw[if_pos h];constructor
  ·intro h;exact absurd h (by decide)
  ·rintro⟨h1,_⟩;omega
 ·rw[if_neg h,z5M];constructor
  ·intro h2;exact⟨by omega,h2⟩
  ·rintro⟨_,h2⟩;exact h2
theorem z1K{ds:List InstE}(h:ordF ds=0):∀x∈ds,insF x=0:=by
 intro x hx;obtain⟨k,hk,rfl⟩:=List.getElem_of_mem hx;have:=(((z2o ds).1 h).2 k hk).1;simpa[List.getD,hk]using this
theorem q2L(ds:List InstE):decN ds≤ds.length:=by
 unfold decN;split<;>omega
def stF(a b:TxnD):Bool:=(a.id==b.id)||((a.session==b.session) && (a.seq==b.seq))
def knw(acc:List TxnD)(t:TxnD):Bool:=acc.any (fun a=>stF a t)
def onc:List TxnD→List TxnD→List TxnD
 |acc,[]=>acc
 |acc,t::r=>onc (if knw acc t then acc else acc++[t]) r
def z4v(ds:List InstE):List TxnD:=ds.flatMap (fun x=>if outV x.dec=1 then x.batch else [])
def defL(ds:List InstE)(n:Nat):List TxnD:=onc [] (z4v (ds.take n))
theorem z16:∀ (xs ys acc:List TxnD),onc acc (xs++ys)=onc (onc acc xs) ys
 |[],_,_=>rfl
 |t::r,ys,acc=>by
  simp only[List.cons_append,onc];exact z16 r ys _
theorem z9S:∀ (xs acc:List TxnD),∀t∈onc acc xs,t∈acc∨t∈xs
 |[],acc,t,h=>Or.inl h
 |x::r,acc,t,h=>by
  simp only[onc]at h;rcases z9S r _ t h with h|h
  ·split at h
   ·exact Or.inl h
   ·rcases List.mem_append.1 h with h|h
    ·exact Or.inl h
    ·simp only[List.mem_singleton]at h;exact Or.inr (by rw[h];simp)
  ·exact Or.inr (List.mem_cons_of_mem _ h)
theorem z7z(xs acc:List TxnD):(onc acc xs).length≤acc.length+xs.length:=by
 induction xs generalizing acc with
 |nil=>simp[onc]
 |cons t r ih=>
  simp only[onc,List.length_cons];have:=ih (if knw acc t then acc else acc++[t]);split at this
  ·rename_i h;rw[if_pos h];omega
  ·rename_i h;rw[if_neg h];simp only[List.length_append,List.length_singleton]at this;omega
theorem q5t(c v:Int)(w:World):(Instr.field 184 (.agg #[Ki It c,Ki It v]) 0).run Dp w=.ok (Ki It c) w:=by kernel_rfl
theorem q5u(c v:Int)(w:World):(Instr.field 184 (.agg #[Ki It c,Ki It v]) 1).run Dp w=.ok (Ki It v) w:=by kernel_rfl
theorem q6j(x:InstE):(ocC x==0)=((insF x==0) && (outV x.dec !=3)):=by
 unfold ocC;by_cases h0:insF x=0
 ·rw[if_pos h0,h0];by_cases h3:outV x.dec=3
  ·rw[if_pos h3,h3];rfl
  ·rw[if_neg h3];have:(outV x.dec !=3)=true:=by simpa using h3
   rw[this];rfl
 ·rw[if_neg h0];have:(insF x==0)=false:=by simpa using h0
  rw[this];rfl
theorem z5N(ps:List InstQ)(k:Nat)(hk:k<ps.length):(ps.map Va).getD k z0W=Va ps[k]:=by simp[List.getD,hk]
theorem z6T(ps:List InstQ)(k:Nat)(hk:k<ps.length):Vb ps[k]≤nmL Vb ps:=z01 Vb ps k hk
theorem z5o{w:World}{a:Option Addr}{n cap:Nat}{ps:List InstQ}(h:instK.At w (Sl a n cap) ps)(k:Nat)(hk:k<ps.length):∃b off,a=some ⟨b,off,none⟩∧b<w.heap.size∧InstP w b (off+k*4) ps[k]:=by
 obtain⟨b,off,e,hb,hc,hrd⟩:=h.cell (by decide) k hk;have hc':∀j x,(instK.cells ps[k])[j]?=some x→w.cell? ⟨b,off+k*4+j,none⟩=some x:=hc;exact⟨b,off,e,hb,⟨hc' 0 (.bool ps[k].has) rfl,hc' 1 ps[k].vb rfl,hc' 2 ps[k].vr rfl,hc' 3 ps[k].vd rfl⟩,hrd⟩
theorem z3u(p:InstQ)(w:World)(hG:Rul w)(h:instK.rd w p)(hl:p.n≤1048576):
  Calls Dp 125 #[.agg #[.bool p.has,p.vb,p.vr,p.vd]] w fun e w'=>e=.returned (.bool (ocC p.e==0))∧Below w.heap.size w w':=by
 have y:=fun w hG h=>z2P p w hG h hl
 have z:=fun(w':World) hb=>instK.rd_below (w':=w') h hb
 generalize ocC p.e=D at*;generalize ocV p.e=E at*;obtain⟨has,vb,x,vr,d,vd,dec⟩:=p;obtain⟨ba,bk,rfl⟩:∃a c,vb=Sl a x.length c:=h.1.shape;obtain⟨va,vk,rfl⟩:∃a c,vr=Sl a d.length c:=h.2.1.shape;obtain⟨da,dk,rfl⟩:∃a c,vd=Sl a dec.length c:=h.2.2.shape;dsimp only at y z;have C:=q5t D E;have hB:Below w.heap.size w (w.alloc (.cells #[.bool has,Sl ba x.length bk,Sl va d.length vk,Sl da dec.length dk] 64)):=by go_grown
 go_enter func125,ntmps125
 go_wp2_with fail
 generalize w.alloc (.cells #[.bool has,Sl ba x.length bk,Sl va d.length vk,Sl da dec.length dk] 64)=W at*;refine(y W (hG.below hB) (z W hB)).mono ?_;rintro e w1 ⟨rfl,A⟩;replace hB:=hB.trans (A.mono hB.size)
 go_wp2
 go_ret;exact⟨rfl,hB⟩
theorem z11(v:Value)(ps:List InstQ)(w:World)(hG:Rul w)(h:instK.At w v ps)(hl:(ps.length+nmL Vb ps)≤1048576):
  Calls Dp 75 #[v] w fun e w'=>e=.returned (Ki It (ordF (ps.map Va)))∧Below w.heap.size w w':=by
 obtain⟨a,cap,rfl⟩:=h.shape;generalize hE:ordF (ps.map Va)=E;have HE:Hid (ordF (ps.map Va)=E):=hE;clear hE;by_cases z:ps.length<1∨4<ps.length
 ·have E1:Hid (E=2):=by
   have:=HE.out;unfold ordF at this;rw[if_pos (by simpa using z)]at this;exact this.symm
  clear HE;rcases z with z|z
  ·go_enter func75,ntmps75
   go_wp2
   go_ret;exact⟨by rw[E1.out];rfl,Below.refl _ _⟩
  ·have h1:¬ps.length<1:=by omega
   go_enter func75,ntmps75
   go_wp2
   go_ret;exact⟨by rw[E1.out];rfl,Below.refl _ _⟩
 ·have HG:Hid (E=z1S (ps.map Va)):=by
   have:=HE.out;unfold ordF at this;rw[if_neg (by simpa using z)]at this;exact this.symm
  have h1:¬ps.length<1:=by omega
  have h4:ps.length≤4:=by omega
  clear HE z;go_enter func75,ntmps75
  go_wp2
  go_loopw[16] (fun i wr=>∃k:Nat,k≤ps.length∧i=Ki It k∧Hid (E=z1S ((ps.map Va).drop k))∧Below w.heap.size w wr) (fun i _=>ps.length-(intOf i).toNat)
  case atStart=>exact⟨0,Nat.zero_le _,rfl,HG,Below.refl _ _⟩
  case round=>
   clear HG;obtain⟨k,hk,rfl,HG,hb⟩:=hrel;by_cases T:k<ps.length
   ·have J:=z5N ps k T;have D:Hid (insF (Va ps[k])≠0→E=insF (Va ps[k])):=fun hx=>by
     rw[HG.out,z8F _ k (by simpa using T) (by rw[J];exact hx),J]
    have I:Hid (k+1<ps.length→insF (Va ps[k])=0→outV (Va ps[k]).dec=3→E=8):=fun h1 h2 h3=>by
     rw[HG.out,z6R _ k (by simpa using h1) (by rw[J];exact h2) (by rw[J];exact h3)]
    have y:Hid (insF (Va ps[k])=0→¬(k+1<ps.length∧outV (Va ps[k]).dec=3)→E=z1S ((ps.map Va).drop (k+1))):=fun h2 h3=>by
     rw[HG.out,z6S _ k (by simpa using T) (by rw[J];exact h2) (by rw[J];simpa using h3)]
    have hn:Vb ps[k]≤1048576:=by have:=z6T ps k T;omega
    have X:=z2O ps[k];have W:=z3u ps[k];have Y:=fun w hG h=>X w hG h hn
    have O:=fun w hG h=>W w hG h hn
    clear X W;have L:=q6j (Va ps[k]);clear J HG;obtain⟨b,ag,rfl,ai,hc,V⟩:=(h.below hb).cell (by decide) k T;have N:∀j x,(instK.cells ps[k])[j]?=some x→wr.cell? ⟨b,ag+k*4+j,none⟩=some x:=hc;have c0:=N 0 (.bool ps[k].has) rfl;have c1:=N 1 ps[k].vb rfl;have c2:=N 2 ps[k].vr rfl;have c3:=N 3 ps[k].vd rfl;rw[Nat.add_zero]at c0;clear hc N;have Z:=fun(w':World) hb=>instK.rd_below (w':=w') V hb
    generalize ocC (Va ps[k])=OC at*;generalize outV (Va ps[k]).dec=OV at*;generalize insF (Va ps[k])=C at*;generalize ps[k]=p at*;obtain⟨has,vb,A,vr,d,vd,dec⟩:=p;obtain⟨ba,bk,rfl⟩:∃a c,vb=Sl a A.length c:=V.1.shape;obtain⟨va,vk,rfl⟩:∃a c,vr=Sl a d.length c:=V.2.1.shape;obtain⟨da,dk,rfl⟩:∃a c,vd=Sl a dec.length c:=V.2.2.shape;dsimp only at c0 c1 c2 c3 Y O Z;have M:Below wr.heap.size wr (wr.alloc (.cells #[.bool has,Sl ba A.length bk,Sl va d.length vk,Sl da dec.length dk] 64)):=by go_grown
    have Bk:=Blk.new wr 64 #[.bool has,Sl ba A.length bk,Sl va d.length vk,Sl da dec.length dk];have aa:=Z _ M
    go_wp2_with fail
    generalize wr.alloc (.cells #[.bool has,Sl ba A.length bk,Sl va d.length vk,Sl da dec.length dk] 64)=W1 at*;refine(Y W1 (hG.below (hb.trans (M.mono hb.size))) aa).mono ?_;rintro e w2 ⟨rfl,U⟩;have ae:=instK.rd_below aa U;replace Bk:=Bk.below U;replace hb:=(hb.trans (M.mono hb.size)).trans (U.mono (hb.trans (M.mono hb.size)).size);clear M U aa Y c0 c1 c2 c3 Z;by_cases hC:C=0
    ·subst hC;by_cases ad:k+1<ps.length
     ·have af:(k:Int)<(ps.length:Int)-1:=by omega
      obtain⟨p0,p1,p2,p3⟩:=Bk.cel4
      go_wp2_with fail
      refine(O w2 (hG.below hb) ae).mono ?_;rintro e w3 ⟨rfl,ab⟩;replace hb:=hb.trans (ab.mono hb.size);clear ab O p0 p1 p2 p3 Bk ae;by_cases hO:OV=3
      ·have e1:(OC==0)=false:=by rw[L,hO];rfl
       have E1:Hid (E=8):=I.out ad (by simp) hO;clear L I y D
       go_wp2
       go_ret;exact⟨by rw[E1.out];rfl,hb⟩
      ·have e1:(OC==0)=true:=by
        rw[L];have:(OV !=3)=true:=by simpa using hO
        rw[this];rfl
       have E1:Hid (E=z1S ((ps.map Va).drop (k+1))):=y.out (by simp) (fun h=>hO h.2);clear L I y D
       go_wp2
       go_roundw
       case rel=>exact⟨k+1,by omega,by go_num,E1.out,hb⟩
       case measure=>simp[intOf];omega
     ·have af:¬(k:Int)<(ps.length:Int)-1:=by omega
      have E1:Hid (E=z1S ((ps.map Va).drop (k+1))):=y.out (by simp) (fun h=>ad h.1);clear L I y D O
      go_wp2
      go_roundw
      case rel=>exact⟨k+1,by omega,by go_num,E1.out,hb⟩
      case measure=>simp[intOf];omega
    ·have ah:(C !=0)=true:=by simpa using hC
     have E1:Hid (E=C):=D.out hC;clear L I y D O
     go_wp2
     go_ret;exact⟨by rw[E1.out];rfl,hb⟩
   ·have E1:Hid (E=0):=by rw[HG.out];exact z8G _ k (by simp;omega)
    clear HG
    go_wp2
    go_ret;exact⟨by rw[E1.out];rfl,hb⟩
theorem z5O(v:Value)(ps:List InstQ)(w:World)(h:instK.At w v ps)(hl:(ps.length+nmL Vb ps)≤1048576):
  Calls Dp 32 #[v] w fun e w'=>e=.returned (Ki It (ordF (ps.map Va)))∧Below w.heap.size w w':=by
 obtain⟨a,cap,rfl⟩:=h.shape;generalize hE:ordF (ps.map Va)=E;have HE:Hid (ordF (ps.map Va)=E):=hE;clear hE;by_cases x:ps.length<1∨4<ps.length
 ·have E1:Hid (E=2):=by
   have:=HE.out;unfold ordF at this;rw[if_pos (by simpa using x)]at this;exact this.symm
  clear HE;rcases x with x|x
  ·go_enter func32,ntmps32
   go_wp2
   go_ret;exact⟨by rw[E1.out];rfl,Below.refl _ _⟩
  ·have h1:¬ps.length<1:=by omega
   go_enter func32,ntmps32
   go_wp2
   go_ret;exact⟨by rw[E1.out];rfl,Below.refl _ _⟩
 ·have HG:Hid (E=z1S (ps.map Va)):=by
   have:=HE.out;unfold ordF at this;rw[if_neg (by simpa using x)]at this;exact this.symm
  have h1:¬ps.length<1:=by omega
  have h4:ps.length≤4:=by omega
  clear HE x;go_enter func32,ntmps32
  go_wp2
  go_loopw[3] (fun i wr=>∃k:Nat,k≤ps.length∧i=Ki It k∧Hid (E=z1S ((ps.map Va).drop k))∧Below w.heap.size w wr) (fun i _=>ps.length-(intOf i).toNat)
  case atStart=>exact⟨0,Nat.zero_le _,rfl,HG,Below.refl _ _⟩
  case round=>
   clear HG;obtain⟨k,hk,rfl,HG,hb⟩:=hrel;by_cases A:k<ps.length
   ·have z:=z5N ps k A;have y:Hid (insF (Va ps[k])≠0→E=insF (Va ps[k])):=fun hx=>by
     rw[HG.out,z8F _ k (by simpa using A) (by rw[z];exact hx),z]
    have d:Hid (k+1<ps.length→insF (Va ps[k])=0→outV (Va ps[k]).dec=3→E=8):=fun h1 h2 h3=>by
     rw[HG.out,z6R _ k (by simpa using h1) (by rw[z];exact h2) (by rw[z];exact h3)]
    have c:Hid (insF (Va ps[k])=0→¬(k+1<ps.length∧outV (Va ps[k]).dec=3)→E=z1S ((ps.map Va).drop (k+1))):=fun h2 h3=>by
     rw[HG.out,z6S _ k (by simpa using A) (by rw[z];exact h2) (by rw[z];simpa using h3)]
    obtain⟨b,T,rfl,X,hP⟩:=z5o (h.below hb) k A;have hn:Vb ps[k]≤1048576:=by have:=z6T ps k A;omega
    have J:=z9L b (T+k*4) ps[k];have I:=z2n b (T+k*4) ps[k];have M:=fun w hP=>J w hP hn
    have D:=fun w hP=>I w hP hn
    clear J I;have O:outV (Va ps[k]).dec=outV ps[k].dec:=rfl;rw[O]at d c;clear z HG O;generalize outV ps[k].dec=OV at*;generalize insF (Va ps[k])=C at*;generalize ps[k]=p at*
    go_wp2_with fail
    refine(M wr hP).mono ?_;rintro e w2 ⟨rfl,L⟩;replace hP:=hP.below L;replace hb:=hb.trans (L.mono hb.size);clear L M;by_cases hC:C=0
    ·subst hC;by_cases N:k+1<ps.length
     ·have V:(k:Int)<(ps.length:Int)-1:=by omega
      go_wp2_with fail
      refine(D w2 hP).mono ?_;rintro e w3 ⟨rfl,hw⟩;replace hw:=hw.symm;subst hw;clear D hP;by_cases hO:OV=3
      ·have E1:Hid (E=8):=d.out N (by simp) hO;have U:(OV==3)=true:=by simpa using hO
       clear d c y hO
       go_wp2
       go_ret;exact⟨by rw[E1.out];rfl,hb⟩
      ·have U:(OV==3)=false:=by simpa using hO
       have E1:Hid (E=z1S ((ps.map Va).drop (k+1))):=c.out (by simp) (fun h=>hO h.2);clear d c y hO
       go_wp2
       go_roundw
       case rel=>exact⟨k+1,by omega,by go_num,E1.out,hb⟩
       case measure=>simp[intOf];omega
     ·have V:¬(k:Int)<(ps.length:Int)-1:=by omega
      have E1:Hid (E=z1S ((ps.map Va).drop (k+1))):=c.out (by simp) (fun h=>N h.1);clear d c y D
      go_wp2
      go_roundw
      case rel=>exact⟨k+1,by omega,by go_num,E1.out,hb⟩
      case measure=>simp[intOf];omega
    ·have W:(C !=0)=true:=by simpa using hC
     have E1:Hid (E=C):=y.out hC;clear d c y D
     go_wp2
     go_ret;exact⟨by rw[E1.out];rfl,hb⟩
   ·have E1:Hid (E=0):=by rw[HG.out];exact z8G _ k (by simp;omega)
    clear HG
    go_wp2
    go_ret;exact⟨by rw[E1.out];rfl,hb⟩
def diV(ds:List InstE):Int:=if ordF ds=0 then(decN ds:Int)else 0
theorem z7A(ps:List InstQ)(hlt:ps.length-1<ps.length):q5s (ps.map Va)=Va ps[ps.length-1]:=by
 unfold q5s;rw[Vd];exact z5N ps _ hlt
theorem z17(v:Value)(ps:List InstQ)(w:World)(hG:Rul w)(h:instK.At w v ps)(hl:(ps.length+nmL Vb ps)≤1048576):
  Calls Dp 126 #[v] w fun e w'=>e=.returned (.agg #[Ki It (ordF (ps.map Va)),Ki It (diV (ps.map Va))])∧Below w.heap.size w w':=by
 have Y:=fun w hG h=>z11 v ps w hG h hl
 have HO:Hid (ordF (ps.map Va)=0→1≤ps.length∧ps.length≤4∧∀q∈ps,insF (Va q)=0):=fun h0=>by
  have:=((z2o _).1 h0).1;rw[Vd]at this;exact⟨this.1,this.2,fun q hq=>z1K h0 _ (List.mem_map.2 ⟨q,hq,rfl⟩)⟩
 have HV:Hid ((ordF (ps.map Va)=0→diV (ps.map Va)=(decN (ps.map Va):Int))∧(ordF (ps.map Va)≠0→diV (ps.map Va)=0)):=⟨fun h0=>if_pos h0,fun h0=>if_neg h0⟩
 obtain⟨a,cap,rfl⟩:=h.shape;generalize ordF (ps.map Va)=C at*;generalize diV (ps.map Va)=V at*;have hB:Below w.heap.size w (w.alloc (.cells #[Ki It 0,Ki It 0] 184)):=by go_grown
 have Rb:=Blk.new w 184 #[Ki It 0,Ki It 0];go_enter func126,ntmps126
 go_wp2_with fail
 generalize w.alloc (.cells #[Ki It 0,Ki It 0] 184)=W at*;refine(Y W (hG.below hB) (h.below hB)).mono ?_;rintro e w1 ⟨rfl,hb⟩;replace hB:=hB.trans (hb.mono hB.size);replace Rb:=Rb.below hb;clear hb Y;by_cases hC:C=0
 ·obtain⟨h1,h4,X⟩:=HO.out hC;have hv:=HV.out.1 hC;subst hC;have y:ps.length-1<ps.length:=by omega
  have M:=X _ (List.getElem_mem y);have z:=q6j (Va ps[ps.length-1]);have D:Hid (outV (Va ps[ps.length-1]).dec=3→V=(ps.length:Int)-1):=fun h3=>by
   rw[hv];unfold decN;rw[z7A ps y,if_pos h3,Vd];omega
  have E:Hid (outV (Va ps[ps.length-1]).dec≠3→V=(ps.length:Int)):=fun h3=>by
   rw[hv];unfold decN;rw[z7A ps y,if_neg h3,Vd]
  rw[M]at z;have hn:Vb ps[ps.length-1]≤1048576:=by have:=z6T ps _ y;omega
  have L:=z3u ps[ps.length-1];have T:=fun w hG h=>L w hG h hn
  clear L X M hv HV HO hn;obtain⟨b,aa,rfl,ad,hc,I⟩:=(h.below hB).cell (by decide) (ps.length-1) y;have d:∀j x,(instK.cells ps[ps.length-1])[j]?=some x→w1.cell? ⟨b,aa+(ps.length-1)*4+j,none⟩=some x:=hc;have c0:=d 0 (.bool ps[ps.length-1].has) rfl;have c1:=d 1 ps[ps.length-1].vb rfl;have c2:=d 2 ps[ps.length-1].vr rfl;have c3:=d 3 ps[ps.length-1].vd rfl;rw[Nat.add_zero]at c0;clear hc d;have U:((ps.length:Int)-1).toNat=ps.length-1:=by omega
  generalize ocC (Va ps[ps.length-1])=OC at*;generalize outV (Va ps[ps.length-1]).dec=OV at*;generalize ps[ps.length-1]=p at*;generalize hm:ps.length-1=m at*;have Z:(ps.length:Int)-1=(m:Int):=by omega
  have A:ps.length=m+1:=by omega
  rw[Z]at D;rw[A]at h4 E⊢;rw[A]at*;clear hm U Z A;obtain⟨has,vb,N,vr,J,vd,dec⟩:=p;obtain⟨ba,bk,rfl⟩:∃a c,vb=Sl a N.length c:=I.1.shape;obtain⟨va,vk,rfl⟩:∃a c,vr=Sl a J.length c:=I.2.1.shape;obtain⟨da,dk,rfl⟩:∃a c,vd=Sl a dec.length c:=I.2.2.shape;dsimp only at c0 c1 c2 c3 T;obtain⟨q0,q1⟩:=Rb.cel2;obtain⟨f0,f1⟩:=Rb.frz2;clear q0 q1 f0 f1
  go_wp2_with fail
  refine(T w1 (hG.below hB) I).mono ?_;rintro e w3 ⟨rfl,O⟩;replace hB:=hB.trans (O.mono hB.size);replace Rb:=Rb.below O;obtain⟨q0,q1⟩:=Rb.cel2;obtain⟨f0,f1⟩:=Rb.frz2;clear O T c0 c1 c2 c3;by_cases hO:OV=3
  ·have e1:(OC==0)=false:=by rw[z,hO];rfl
   have E1:Hid (V=(m:Int)):=D.out hO;clear z D E
   go_wp2
   exact bodyPost_ret (v:=.agg #[Ki It 0,Ki It m]) (by simp[results,results126,go_sem,q0,q1]) rfl ⟨by rw[E1.out],(hB.setCell (p:=⟨w.heap.size,0,none⟩) (Vc _) _).setCell (p:=⟨w.heap.size,1,none⟩) (Vc _) _⟩
  ·have e1:(OC==0)=true:=by
    rw[z];have:(OV !=3)=true:=by simpa using hO
    rw[this];rfl
   have E1:Hid (V=(m:Int)+1):=by have:=E.out hO;exact this.trans (by omega)
   clear z D E
   go_wp2
   exact bodyPost_ret (v:=.agg #[Ki It 0,Ki It ((m:Int)+1)]) (by simp[results,results126,go_sem,q0,q1]) rfl ⟨by rw[E1.out],(hB.setCell (p:=⟨w.heap.size,0,none⟩) (Vc _) _).setCell (p:=⟨w.heap.size,1,none⟩) (Vc _) _⟩
 ·have E1:Hid (V=0):=HV.out.2 hC;have ab:(C !=0)=true:=by simpa using hC
  obtain⟨q0,q1⟩:=Rb.cel2;obtain⟨f0,f1⟩:=Rb.frz2;clear HV HO
  go_wp2
  exact bodyPost_ret (v:=.agg #[Ki It C,Ki It 0]) (by simp[results,results126,go_sem,q0,q1]) rfl ⟨by rw[E1.out],(hB.setCell (p:=⟨w.heap.size,0,none⟩) (Vc _) _).setCell (p:=⟨w.heap.size,1,none⟩) (Vc _) _⟩
theorem z7B(v:Value)(ps:List InstQ)(w:World)(h:instK.At w v ps)(hl:(ps.length+nmL Vb ps)≤1048576)(h1:1≤ps.length)(h4:ps.length≤4):
  Calls Dp 62 #[v] w fun e w'=>e=.returned (Ki It (decN (ps.map Va)))∧Below w.heap.size w w':=by
 obtain⟨a,cap,rfl⟩:=h.shape;have c:ps.length-1<ps.length:=by omega
 obtain⟨V,hv⟩:∃V:Int,(decN (ps.map Va):Int)=V:=⟨_,rfl⟩
 have d:Hid (outV ps[ps.length-1].dec=3→V=(ps.length:Int)-1):=fun h3=>by
  rw[←hv];unfold decN;rw[z7A ps c,if_pos (show outV (Va ps[ps.length-1]).dec=3 from h3),Vd];omega
 have x:Hid (outV ps[ps.length-1].dec≠3→V=(ps.length:Int)):=fun h3=>by
  rw[←hv];unfold decN;rw[z7A ps c,if_neg (show¬outV (Va ps[ps.length-1]).dec=3 from h3),Vd]
 rw[hv];have hn:Vb ps[ps.length-1]≤1048576:=by have:=z6T ps _ c;omega
 obtain⟨b,D,rfl,E,hP⟩:=z5o h (ps.length-1) c;have y:=z2n b (D+(ps.length-1)*4) ps[ps.length-1];have A:=y w hP hn;clear y hn hv h;generalize outV ps[ps.length-1].dec=OV at*;generalize ps[ps.length-1]=p at*;generalize hm:ps.length-1=m at*;have C:(ps.length:Int)-1=(m:Int):=by omega
 have z:ps.length=m+1:=by omega
 rw[C]at d;rw[z]at h4 x⊢;clear hm C z hl h1 c;go_enter func62,ntmps62
 go_wp2_with fail
 refine A.mono ?_;rintro e w3 ⟨rfl,hw⟩;replace hw:=hw.symm;subst hw;clear A hP;by_cases hO:OV=3
 ·have e1:(OV==3)=true:=by simpa using hO
  have E1:Hid (V=(m:Int)):=d.out hO;clear d x hO
  go_wp2
  go_ret;exact⟨by rw[E1.out];rfl,Below.refl _ _⟩
 ·have e1:(OV==3)=false:=by simpa using hO
  have E1:Hid (V=(m:Int)+1):=by have:=x.out hO;exact this.trans (by omega)
  clear d x hO
  go_wp2
  go_ret;exact⟨by rw[E1.out];rfl,Below.refl _ _⟩
theorem q1n(b y cap:Nat)(zs:List Int)(w:World)(h:Row .i64 w (some ⟨b,y,none⟩) zs)(h0:0<zs.length)(hl:zs.length≤1048576):
  Calls Dp 119 #[Sl (some ⟨b,y,none⟩) zs.length cap] w fun e w'=>∃a c,e=.returned (Sl a zs.length c)∧
   w'.ownsRow w.heap.size 2 1 (Sl a zs.length c) zs.length (zs.map iv)∧Below w.heap.size w w':=by
 obtain⟨i0,hi,D,E,I⟩:=info_parts q2v;have hs:=z2X (Lies.below (z3C h) (w':=w.alloc (.cells #[] 2)) (by go_grown));have C:(zs.map iv).length=zs.length*1:=by simp
 have ho:=World.ownsRow_lit (e:=2) (size:=1) w #[] 0 (Vc _) (by decide) rfl;have HS:Hid (∀j u,(zs.map iv)[j]?=some u→_):=hs;clear hs;go_enter func119,ntmps119
 go_wp2_with (at_builtin;refine wpList_append_own _ rfl _ _ 62 rfl w.heap.size 2 i0 (Ki It 0) 1 8 Tryz.underlying62 hi D E I rfl (by decide) _ 0 [] rfl ho ⟨b,y,none⟩ zs.length cap (zs.map iv) rfl C HS.out ?c2 ?c3 ?c4 ?c5 ?_)
 all_goals try(case c2=>first|(intro u hu;obtain⟨z,_,rfl⟩:=List.mem_map.1 hu;rfl)|(intro u hu;rfl))
 all_goals try(case c3=>unfold maxLen;omega)
 all_goals try(case c4=>omega)
 all_goals try(case c5=>simp)
 intro v' w2 x d _;obtain⟨a2,c2,rfl⟩:=z0f x;have A:Below w.heap.size w w2:=((Below.refl _ _).alloc (Vc _) _).grown d (by simp) (fun k hk=>by simp[Value.ownBlock]at hk;omega);try simp only[Nat.zero_add]at x
 clear d HS ho
 go_wp2
 go_ret;exact⟨a2,c2,rfl,by simpa using x,A⟩
theorem z4w(v:Value)(zs:List Int)(w:World)(h:intK.At w v zs)(h0:0<zs.length)(hl:zs.length≤1048576):
  Calls Dp 119 #[v] w fun e w'=>∃a c,e=.returned (Sl a zs.length c)∧intK.Own w' (Sl a zs.length c) zs∧(∀k∈intK.fp (Sl a zs.length c) zs,w.heap.size≤k)∧Below w.heap.size w w':=by
 obtain⟨a,cap,rfl⟩:=h.shape;have hR:=(z0P h).2;obtain⟨b,off,rfl,_⟩:=hR 0 h0;refine(q1n b off cap zs w hR h0 hl).mono ?_;rintro e w2 ⟨a2,c2,rfl,ho,hb⟩;obtain⟨O,G⟩:=z7q rfl ho;exact⟨a2,c2,rfl,O,G,hb⟩
theorem z1Q(v:Value)(ps:List TxnQ)(w:World)(h:txnK.At w v ps)(av:∀p∈ps,0<p.acts.length)(hl:ps.length+nmL TxnQ.n ps≤1048576):
  Calls Dp 70 #[v] w fun e w'=>∃v' qs,e=.returned v'∧qs.map TxnQ.e=ps.map TxnQ.e∧txnK.Own w' v' qs∧(txnK.fp v' qs).Nodup∧(∀k∈txnK.fp v' qs,w.heap.size≤k)∧Below w.heap.size w w':=by
 obtain⟨a,cap,rfl⟩:=h.shape;obtain⟨i0,hi,az,aA,aB⟩:=info_parts z1A;have ho:=World.ownsRow_lit (e:=152) (size:=4) w #[] 0 (Vc _) (by decide) rfl;have ag:txnK.Own (w.alloc (.cells #[] 152)) (Sl (some ⟨w.heap.size,0,none⟩) 0 0) ([]:List TxnQ):=⟨(z0B ho).1,fun p hp=>by simp at hp⟩
 have ai:Below w.heap.size w (w.alloc (.cells #[] 152)):=by go_grown
 have W:Hid ((txnK.fp (Sl (some ⟨w.heap.size,0,none⟩) 0 0) ([]:List TxnQ)).Nodup∧∀k∈txnK.fp (Sl (some ⟨w.heap.size,0,none⟩) 0 0) ([]:List TxnQ),w.heap.size≤k):=by
  refine⟨?_,?_⟩
  ·simp[Kind.fp,blk,Value.ownBlock]
  ·simp[Kind.fp,blk,Value.ownBlock]
 clear ho;go_enter func70,ntmps70
 go_wp2
 go_loopw[3,4] (fun v j wr=>∃ (k:Nat) (qs:List TxnQ),k≤ps.length∧j=Ki It k∧Hid (qs.map TxnQ.e=(ps.take k).map TxnQ.e)∧txnK.Own wr v qs∧Hid ((txnK.fp v qs).Nodup∧∀k∈txnK.fp v qs,w.heap.size≤k)∧Below w.heap.size w wr) (fun _ j _=>ps.length-(intOf j).toNat)
 case atStart=>exact⟨0,[],Nat.zero_le _,rfl,(rfl:_=_),ag,W,ai⟩
 case round=>
  clear W ag ai;obtain⟨k,qs,hk,rfl,HE,hO,HN,hb⟩:=hrel;obtain⟨sa,sc,rfl⟩:=hO.shape;have Y:Hid (qs.length=k):=by
   have:=congrArg List.length HE.out;rw[Vd,Vd,List.length_take]at this;show qs.length=k;omega
  by_cases L:k<ps.length
  ·obtain⟨b,aC,rfl,aE,hc,d⟩:=(h.below hb).cell (by decide) k L;have A:∀j x,(txnK.cells ps[k])[j]?=some x→wr.cell? ⟨b,aC+k*4+j,none⟩=some x:=hc;have c0:=A 0 (Ki It ps[k].i) rfl;have c1:=A 1 (Ki It ps[k].s) rfl;have c2:=A 2 (Ki It ps[k].q) rfl;have c3:=A 3 (ps[k].va) rfl;have U:=z01 TxnQ.n ps k L;have D:=av _ (List.getElem_mem L);have X:Hid (∀p':TxnQ,p'.e=TxnQ.e ps[k]→(qs++[p']).map TxnQ.e=(ps.take (k+1)).map TxnQ.e):=fun p' aw=>by
    rw[List.take_succ_eq_append_getElem L,List.map_append,List.map_append,HE.out,List.map_singleton,List.map_singleton,aw]
   clear hc A;generalize ps[k]=p at*;obtain⟨i,s,q,va,c⟩:=p;replace d:actK.At wr va c:=d;replace U:c.length≤nmL TxnQ.n ps:=U;obtain⟨aa,ac,rfl⟩:=d.shape;dsimp only at c0 c1 c2 c3 D;obtain⟨ab,ao,aq⟩:∃ab ao,aa=some ⟨ab,ao,none⟩:=by
    rcases(z0Z d).2 with h0|⟨ab,ao,e,_⟩
    ·have:=z0t c;rw[h0]at this;simp at this;omega
    ·exact⟨ab,ao,e⟩
   subst aq;have ae:=z6N i s q ab ao ac c _ (z0Z d).2 D (by omega);rw[Nat.add_zero]at c0;clear HE
   go_wp2_with fail
   clear c0 c1 c2 c3;have aD:w.heap.size≤wr.heap.size:=hb.size;refine ae.mono ?_;rintro e w2 ⟨a2,c2,rfl,ak,I⟩;have V:=hO.lt;replace hO:=hO.below I;replace hb:=hb.trans (I.mono hb.size);obtain⟨o2,af⟩:=z0B ak;have hP:txnK.own w2 ⟨i,s,q,Sl a2 c.length c2,c⟩:=⟨o2,fun _ _=>trivial⟩
   have y:∀x∈txnK.foot ⟨i,s,q,Sl a2 c.length c2,c⟩,wr.heap.size≤x:=fun x hx=>af x (by rw[←z1b (Sl a2 c.length c2) c];exact hx)
   have ad:(txnK.foot ⟨i,s,q,Sl a2 c.length c2,c⟩).Nodup:=by
    show(actK.fp _ _).Nodup;rw[z1b];exact z0x _
   have z:Below w2.heap.size w2 (w2.alloc (.cells #[Ki It i,Ki It s,Ki It q,Sl a2 c.length c2] 152)):=by go_grown
   have O:=hO.below z;have Z:=txnK.own_out (F:=[]) hP (Out.of_below z) (fun _ _=>by simp);have J:=hb.trans (z.mono hb.size);clear ae ak hO hP af;have E:=O.1
   go_wp2_with (at_builtin;refine wpList_append_own_at _ rfl _ _ 51 rfl 0 152 i0 (.agg #[Ki It 0,Ki It 0,Ki It 0,Sl none 0 0]) 4 48 Tryz.underlying51 hi az aA aB rfl (by decide) _ qs.length (txnK.row qs) rfl E ⟨w2.heap.size,0,none⟩ 1 1 [Ki It i,Ki It s,Ki It q,Sl a2 c.length c2] rfl rfl ?c1 ?c2 ?c3 ?c4 ?c5 ?_)
   all_goals try(case c1=>intro j u hj;match j,hj with|0,hj=>simp at hj;subst hj;simp[Addr.add]|1,hj=>simp at hj;subst hj;simp[Addr.add]|2,hj=>simp at hj;subst hj;simp[Addr.add]|3,hj=>simp at hj;subst hj;simp[Addr.add])
   all_goals try(case c2=>intro u hu;simp at hu;rcases hu with rfl|rfl|rfl|rfl<;>rfl)
   all_goals try(case c3=>have:=Y.out;unfold maxLen;omega)
   all_goals try(case c4=>have:=Y.out;omega)
   all_goals try(case c5=>first|omega|simp)
   intro v' w5 N C aj T;clear aj E;rw[show w2.heap.size+1=(w2.alloc (.cells #[Ki It i,Ki It s,Ki It q,Sl a2 c.length c2] 152)).heap.size from(World.size_alloc _ _).symm]at T;generalize ax:w2.alloc (.cells #[Ki It i,Ki It s,Ki It q,Sl a2 c.length c2] 152)=WA at*;clear ax;have aF:wr.heap.size≤WA.heap.size:=by have:=I.size;have:=z.size;omega
   obtain⟨ap,ah,M,al⟩:=O.snoc HN.out.1 HN.out.2 Z ad (fun x hx ay=>by have:=V x ay;have:=y x hx;omega) (fun x hx=>by have:=y x hx;omega) J.size N C T;have ar:Below w.heap.size w w5:=Out.keep J al J.size (fun x hx=>HN.out.2 x (by simp only[Kind.fp,List.mem_append];exact Or.inl hx));have am:Hid ((qs++[(⟨i,s,q,Sl a2 c.length c2,c⟩:TxnQ)]).map TxnQ.e=(ps.take (k+1)).map TxnQ.e):=X.out _ rfl;have an:Hid ((txnK.fp v' (qs++[(⟨i,s,q,Sl a2 c.length c2,c⟩:TxnQ)])).Nodup∧∀k∈txnK.fp v' (qs++[(⟨i,s,q,Sl a2 c.length c2,c⟩:TxnQ)]),w.heap.size≤k):=⟨ah,M⟩
   clear X HN V y ad Z O J N C T al ah M d hb z I U D
   go_wp2
   go_roundw
   case rel=>exact⟨k+1,_,by omega,by go_num,am,ap,an,ar⟩
   case measure=>simp[intOf];omega
  ·have au:k=ps.length:=by omega
   subst au;have hE:=HE.out;rw[List.take_length]at hE;clear HE
   go_wp2
   go_ret;exact⟨_,qs,rfl,hE,hO,HN.out.1,HN.out.2,hb⟩
end Go.Proofs.YtdppipeclnldeaaGreatDoor
