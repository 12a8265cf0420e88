import Derived.Test.YtjjoahhnkpjolaaGreatDoorONAN
import Derived.Shelf.SlIterI.Nil
set_option linter.unusedVariables false
set_option linter.unusedSimpArgs false
set_option maxRecDepth 100000
set_option maxHeartbeats 4000000
namespace Go.Proofs.YtjjoahhnkpjolaaGreatDoor
open Go.RowKit Go.BigFrame
open Value renaming slice->G
open Go.Proofs.Tryz
structure CluQ where
 vo:Value
 ord:List InstQ
 vm:Value
 mem:List NodeQ
structure CluE where
 ord:List InstE
 mem:List NodeE
def CluQ.e(p:CluQ):CluE:=⟨p.ord.map InstQ.e,p.mem.map NodeQ.e⟩
def CluQ.n(p:CluQ):Nat:=(p.ord.length+nmL InstQ.n p.ord)+(p.mem.length+nmL NodeQ.n p.mem)
def CluQ.wf(p:CluQ):Prop:=(p.ord.length≤9223372036854775807∧∀q∈p.ord,InstQ.wf q)∧(p.mem.length≤9223372036854775807∧∀q∈p.mem,NodeQ.wf q)
def cluK:Kind CluQ where
 ty:=31
 size:=2
 cells p:=[p.vo,p.vm]
 own w p:=instK.Own w p.vo p.ord∧nodeK.Own w p.vm p.mem
 rd w p:=instK.At w p.vo p.ord∧nodeK.At w p.vm p.mem
 foot p:=instK.fp p.vo p.ord++nodeK.fp p.vm p.mem
 len _:=rfl
 own_rd h:=⟨h.1.at,h.2.at⟩
 own_out h ho hd:=⟨h.1.out ho (fun k hk=>hd k (List.mem_append_left _ hk)),h.2.out ho (fun k hk=>hd k (List.mem_append_right _ hk))⟩
 own_lt h k hk:=by
  rcases List.mem_append.1 hk with hk|hk
  ·exact h.1.lt k hk
  ·exact h.2.lt k hk
 rd_below h hb:=⟨h.1.below hb,h.2.below hb⟩
theorem z9B(p:CluQ)(c:Int)(w:World)(h:cluK.rd w p)(hn:CluQ.wf p)(h0:0≤c)(h1:c≤1048576):
  Calls Tryz.prog 6 #[.agg #[p.vo,p.vm],.int .i64 c] w fun e w'=>∃r:Int,e=.returned (.int .i64 r)∧(¬r<0→(CluQ.n p:Int)+r=c)∧Below w.heap.size w w':=by
 obtain⟨vo,x,vm,d⟩:=p;obtain⟨I,J⟩:instK.At w vo x∧nodeK.At w vm d:=h;obtain⟨y,z⟩:(x.length≤9223372036854775807∧∀p∈x,InstQ.wf p)∧(d.length≤9223372036854775807∧∀p∈d,NodeQ.wf p):=hn;obtain⟨a0,k0,rfl⟩:=I.shape;obtain⟨a1,k1,rfl⟩:=J.shape;have B:=Blk.new w 25 #[G a0 x.length k0,G a1 d.length k1];have hB:Below w.heap.size w (w.alloc (.cells #[G a0 x.length k0,G a1 d.length k1] 25)):=by go_grown
 dsimp only[CluQ.n];go_enter func6,ntmps6
 go_wp2_with fail
 generalize w.alloc (.cells #[G a0 x.length k0,G a1 d.length k1] 25)=W at*;refine(z7m _ x c W (I.below hB) y.1 y.2 (by omega) (by omega)).mono ?_;rintro e w0 ⟨r0,rfl,L,A⟩;replace B:=B.below A;replace hB:=hB.trans (A.mono hB.size);clear A;by_cases D:r0<0
 ·go_wp2
  go_ret;exact⟨_,rfl,fun h=>by omega,hB⟩
 have N:=L D;clear L;have p1:=B.cell 1 _ rfl
 go_wp2_with fail
 clear p1;refine(q2u _ d r0 w0 (J.below hB) z.1 z.2 (by omega) (by omega)).mono ?_;rintro e w1 ⟨r1,rfl,M,C⟩;replace B:=B.below C;replace hB:=hB.trans (C.mono hB.size);clear C;by_cases E:r1<0
 ·go_wp2
  go_ret;exact⟨_,rfl,fun h=>by omega,hB⟩
 have O:=M E;clear M
 go_wp2
 go_ret;exact⟨_,rfl,fun _=>by omega,hB⟩
theorem z5E(p p':CluQ)(w:World)(h:cluK.rd w p)(h':cluK.rd w p')(he:p.e=p'.e)(hl:CluQ.n p≤1048576):
  Calls Tryz.prog 10 #[.agg #[p.vo,p.vm],.agg #[p'.vo,p'.vm]] w fun e w'=>e=.returned (.bool true)∧Below w.heap.size w w':=by
 obtain⟨vo,y,vm,x⟩:=p;obtain⟨U,d,T,c⟩:=p';simp only[CluQ.e,CluE.mk.injEq]at he;obtain⟨D,E⟩:=he;dsimp only[CluQ.n]at hl;obtain⟨L,M⟩:instK.At w vo y∧nodeK.At w vm x:=h;obtain⟨I,J⟩:instK.At w U d∧nodeK.At w T c:=h';have N:=fun w h1 h2=>z7n vo U y d w h1 h2 D (by omega)
 have O:=fun w h1 h2=>q2v vm T x c w h1 h2 E (by omega)
 obtain⟨a0,k0,rfl⟩:=L.shape;obtain⟨b0,m0,rfl⟩:=I.shape;obtain⟨a1,k1,rfl⟩:=M.shape;obtain⟨b1,m1,rfl⟩:=J.shape;have B:=(Blk.new w 31 #[G a0 y.length k0,G a1 x.length k1]).below (w':=(w.alloc (.cells #[G a0 y.length k0,G a1 x.length k1] 31)).alloc (.cells #[G b0 d.length m0,G b1 c.length m1] 31)) (by go_grown);have C:=Blk.new (w.alloc (.cells #[G a0 y.length k0,G a1 x.length k1] 31)) 31 #[G b0 d.length m0,G b1 c.length m1];have hB:Below w.heap.size w ((w.alloc (.cells #[G a0 y.length k0,G a1 x.length k1] 31)).alloc (.cells #[G b0 d.length m0,G b1 c.length m1] 31)):=by go_grown
 rw[World.size_alloc]at C;clear D E;go_enter func10,ntmps10
 go_wp2_with fail
 generalize (w.alloc (.cells #[G a0 y.length k0,G a1 x.length k1] 31)).alloc (.cells #[G b0 d.length m0,G b1 c.length m1] 31)=W at*;refine(N W (L.below hB) (I.below hB)).mono ?_;rintro e w0 ⟨rfl,z⟩;replace B:=B.below z;replace C:=C.below z;replace hB:=hB.trans (z.mono hB.size);clear z N;have p1:=B.cell 1 _ rfl;have q1:=C.cell 1 _ rfl
 go_wp2_with fail
 clear p1 q1;refine(O w0 (M.below hB) (J.below hB)).mono ?_;rintro e w1 ⟨rfl,A⟩;replace B:=B.below A;replace C:=C.below A;replace hB:=hB.trans (A.mono hB.size);clear A O
 go_wp2
 go_ret;exact⟨rfl,hB⟩
theorem z9C(p:CluQ)(w:World)(h:cluK.rd w p)(hl:CluQ.n p≤1048576):
  Calls Tryz.prog 8 #[.agg #[p.vo,p.vm]] w fun e w'=>∃p':CluQ,e=.returned (.agg #[p'.vo,p'.vm])∧p'.e=p.e∧cluK.own w' p'∧(cluK.foot p').Nodup∧(∀k∈cluK.foot p',w.heap.size≤k)∧Below w.heap.size w w':=by
 obtain⟨vo,d,vm,c⟩:=p;dsimp only[CluQ.n]at hl;obtain⟨z,A⟩:instK.At w vo d∧nodeK.At w vm c:=h;have E:=fun w h1=>z7o vo d w h1 (by omega)
 have I:=fun w h1=>q2w vm c w h1 (by omega)
 obtain⟨a0,k0,rfl⟩:=z.shape;obtain⟨a1,k1,rfl⟩:=A.shape;have B:=(Blk.new w 25 #[G a0 d.length k0,G a1 c.length k1]).below (w':=((w.alloc (.cells #[G a0 d.length k0,G a1 c.length k1] 25)).alloc (.cells #[G none 0 0,G none 0 0] 31)).alloc (.cells #[G none 0 0,G none 0 0] 31)) (by go_grown);have C:=(Blk.new (w.alloc (.cells #[G a0 d.length k0,G a1 c.length k1] 25)) 31 #[G none 0 0,G none 0 0]).below (w':=((w.alloc (.cells #[G a0 d.length k0,G a1 c.length k1] 25)).alloc (.cells #[G none 0 0,G none 0 0] 31)).alloc (.cells #[G none 0 0,G none 0 0] 31)) (by go_grown);have D:=Blk.new ((w.alloc (.cells #[G a0 d.length k0,G a1 c.length k1] 25)).alloc (.cells #[G none 0 0,G none 0 0] 31)) 31 #[G none 0 0,G none 0 0];have hB:Below w.heap.size w (((w.alloc (.cells #[G a0 d.length k0,G a1 c.length k1] 25)).alloc (.cells #[G none 0 0,G none 0 0] 31)).alloc (.cells #[G none 0 0,G none 0 0] 31)):=by go_grown
 simp only[World.size_alloc]at C D;have hS:w.heap.size+3≤(((w.alloc (.cells #[G a0 d.length k0,G a1 c.length k1] 25)).alloc (.cells #[G none 0 0,G none 0 0] 31)).alloc (.cells #[G none 0 0,G none 0 0] 31)).heap.size:=by simp only[World.size_alloc];omega
 go_enter func8,ntmps8
 go_wp2_with fail
 generalize ((w.alloc (.cells #[G a0 d.length k0,G a1 c.length k1] 25)).alloc (.cells #[G none 0 0,G none 0 0] 31)).alloc (.cells #[G none 0 0,G none 0 0] 31)=W at*;refine(E W (z.below hB)).mono ?_;rintro e y0 ⟨v0,q0,rfl,E0,O0,N0,G0,hb⟩;replace B:=B.below hb;replace C:=C.below hb;replace D:=D.below hb;replace hB:=hB.trans (hb.mono hB.size);have s0:=hb.size;obtain⟨x0,z0,rfl⟩:=O0.shape;clear hb E;have p1:=B.cell 1 _ rfl;have d0:=D.cell 0 _ rfl;have f0:=D.frozen 0
 go_wp2_with fail
 clear p1 d0 f0;have U0:=(Out.refl [w.heap.size+1,w.heap.size+1+1] y0).set (b:=w.heap.size+1+1) (j:=0) (u:=G x0 q0.length z0) (by simp);replace D:=D.set 0 (G x0 q0.length z0);replace B:=B.other (b':=w.heap.size+1+1) (by omega) 0 (G x0 q0.length z0);replace C:=C.other (b':=w.heap.size+1+1) (by omega) 0 (G x0 q0.length z0);replace hB:=hB.setCell (p:=⟨w.heap.size+1+1,0,none⟩) (by show w.heap.size≤w.heap.size+1+1;omega) (G x0 q0.length z0);simp only[pjE]at D;have t0:=U0.size;generalize y0.setCell ⟨w.heap.size+1+1,0,none⟩ (G x0 q0.length z0)=V0 at*;refine(I V0 (A.below hB)).mono ?_;rintro e y1 ⟨v1,q1,rfl,E1,O1,N1,G1,hb⟩;replace U0:=U0.call hb;replace B:=B.below hb;replace C:=C.below hb;replace D:=D.below hb;replace hB:=hB.trans (hb.mono hB.size);have s1:=hb.size;obtain⟨x1,z1,rfl⟩:=O1.shape;clear hb I;clear B;have d0:=D.cell 0 _ rfl;have f0:=D.frozen 0;have c0:=C.cell 0 _ rfl;have g0:=C.frozen 0;have d1:=D.cell 1 _ rfl;have f1:=D.frozen 1;have c1:=C.cell 1 _ rfl;have g1:=C.frozen 1;have R:Hid (∀j u j' u' x y,cluK.own (((y1.setCell ⟨w.heap.size+1+1,j,none⟩ u).setCell ⟨w.heap.size+1,j',none⟩ u').setCell ⟨w.heap.size+1,x,none⟩ y) ⟨G x0 q0.length z0,q0,G x1 q1.length z1,q1⟩∧Below w.heap.size w (((y1.setCell ⟨w.heap.size+1+1,j,none⟩ u).setCell ⟨w.heap.size+1,j',none⟩ u').setCell ⟨w.heap.size+1,x,none⟩ y)):=by
  intro j u j' u' x y;have X0:=(((U0.set (b:=w.heap.size+1+1) (j:=j) (u:=u) (by simp)).set (b:=w.heap.size+1) (j:=j') (u:=u') (by simp)).set (b:=w.heap.size+1) (j:=x) (u:=y) (by simp))
  have X1:=((((Out.refl [w.heap.size+1,w.heap.size+1+1] y1).set (b:=w.heap.size+1+1) (j:=j) (u:=u) (by simp)).set (b:=w.heap.size+1) (j:=j') (u:=u') (by simp)).set (b:=w.heap.size+1) (j:=x) (u:=y) (by simp))
  refine⟨⟨O0.out X0 (fun k hk=>?_),O1.out X1 (fun k hk=>?_)⟩,?_⟩
  ·have:=G0 k hk;simp only[List.mem_cons,List.not_mem_nil,or_false];omega
  ·have:=G1 k hk;simp only[List.mem_cons,List.not_mem_nil,or_false];omega
  ·exact(((hB.setCell (p:=⟨w.heap.size+1+1,j,none⟩) (by show w.heap.size≤w.heap.size+1+1;omega) u).setCell (p:=⟨w.heap.size+1,j',none⟩) (by show w.heap.size≤w.heap.size+1;omega) u').setCell (p:=⟨w.heap.size+1,x,none⟩) (by show w.heap.size≤w.heap.size+1;omega) y)
 have R1:Hid ((cluK.foot ⟨G x0 q0.length z0,q0,G x1 q1.length z1,q1⟩).Nodup∧(∀k∈cluK.foot ⟨G x0 q0.length z0,q0,G x1 q1.length z1,q1⟩,w.heap.size≤k)):=by
  have L0:=O0.lt;have L1:=O1.lt;have T0:=U0.size;refine⟨?_,?_⟩
  ·show List.Nodup (_++_);exact List.nodup_append.2 ⟨N0,N1,z5b (m:=(V0).heap.size) (fun k hk=>by have:=L0 k hk;omega) (fun k hk=>by have:=G1 k hk;omega)⟩
  ·exact(fun k hk=>by rcases List.mem_append.1 hk with hk|hk<;>first|(have:=G0 k hk;omega)|(have:=G1 k hk;omega))
 have R2:Hid (CluQ.e ⟨G x0 q0.length z0,q0,G x1 q1.length z1,q1⟩=CluQ.e ⟨G a0 d.length k0,d,G a1 c.length k1,c⟩):=show _=_ by simp only[CluQ.e,E0,E1]
 clear O0 N0 G0 O1 N1 G1 U0 E0 E1 hB C D z A
 go_wp2
 exact bodyPost_ret (v:=.agg #[G x0 q0.length z0,G x1 q1.length z1]) (by simp[results,results8,go_sem,c0,c1]) rfl ⟨⟨G x0 q0.length z0,q0,G x1 q1.length z1,q1⟩,rfl,R2.out,(R.out _ _ _ _ _ _).1,R1.out.1,R1.out.2,(R.out _ _ _ _ _ _).2⟩
section
variable {P:Type} {K:Kind P} {w w':World} {a:Option Addr} {n cap:Nat} {ps:List P}
theorem Kind.At.takeK(h:K.At w (G a n cap) ps)(m:Nat)(hm:m≤ps.length):K.At w (G a m cap) (ps.take m):=by
 obtain⟨a',c,e,hl,hr⟩:=h;simp only[Value.slice.injEq]at e;obtain⟨rfl,_,rfl⟩:=e;refine⟨a,cap,by rw[List.length_take,Nat.min_eq_left hm],?_,fun p hp=>hr p (List.mem_of_mem_take hp)⟩;have er:K.row ps=K.row (ps.take m)++K.row (ps.drop m):=by
  unfold Kind.row;rw[←List.flatMap_append,List.take_append_drop]
 rcases hl with h0|⟨b,off,ha,hlt,hc⟩
 ·left;rw[er]at h0;exact(List.append_eq_nil_iff.1 h0).1
 ·right;refine⟨b,off,ha,hlt,fun j x hx=>hc j x ?_⟩;rw[er,List.getElem?_append_left (List.getElem?_eq_some_iff.1 hx).1];exact hx
theorem Kind.At.nilA(w:World)(a:Option Addr)(c':Nat):K.At w (G a 0 c') ([]:List P):=⟨a,c',rfl,Or.inl rfl,fun p hp=>by simp at hp⟩
theorem Kind.At.dropS(h:K.At w (G a n cap) ps)(m:Nat)(hm:m≤ps.length)(hcap:ps.length≤cap)(c':Nat):K.At w (.slice (if cap=m then a else a.map (·.add (m*K.size))) (ps.drop m).length c') (ps.drop m):=by
 by_cases hc:cap=m
 ·have hp:ps.drop m=[]:=List.drop_of_length_le (by omega);rw[if_pos hc,hp];exact Kind.At.nilA w a c'
 ·rw[if_neg hc]
  cases a with
  |none=>
   obtain⟨a',c,e,hl,hr⟩:=h;simp only[Value.slice.injEq]at e;obtain⟨rfl,_,rfl⟩:=e;rcases hl with h0|⟨b',off',ha,_⟩
   ·refine⟨none,c',rfl,Or.inl ?_,fun p hp=>hr p (List.mem_of_mem_drop hp)⟩;have er:K.row ps=K.row (ps.take m)++K.row (ps.drop m):=by
     unfold Kind.row;rw[←List.flatMap_append,List.take_append_drop]
    rw[er]at h0;exact(List.append_eq_nil_iff.1 h0).2
   ·simp at ha
  |some x=>
   obtain⟨a',c,e,hl,hr⟩:=h;simp only[Value.slice.injEq]at e;obtain⟨rfl,_,rfl⟩:=e;refine⟨_,c',rfl,?_,fun p hp=>hr p (List.mem_of_mem_drop hp)⟩;have er:K.row ps=K.row (ps.take m)++K.row (ps.drop m):=by
    unfold Kind.row;rw[←List.flatMap_append,List.take_append_drop]
   have hlen:(K.row (ps.take m)).length=m*K.size:=by rw[Kind.row_length,List.length_take,Nat.min_eq_left hm]
   rcases hl with h0|⟨b',off',ha,hlt,hc⟩
   ·left;rw[er]at h0;exact(List.append_eq_nil_iff.1 h0).2
   ·right;simp only[Option.some.injEq]at ha;subst ha;refine⟨b',off'+m*K.size,by simp[Addr.add],hlt,fun j y hy=>?_⟩;have h2:=hc (m*K.size+j) y (by rw[er,List.getElem?_append_right (by omega),hlen,show m*K.size+j-m*K.size=j by omega];exact hy);rw[←Nat.add_assoc]at h2;exact h2
theorem Kind.at_of_row{v:Value}{base e:Nat}(h:w.ownsRow base e K.size v ps.length (K.row ps))(hr:∀p∈ps,K.rd w p):K.At w v ps:=by
 obtain⟨a,c,rfl⟩:=z0f h;exact⟨a,c,rfl,Lies.own h,hr⟩
end
theorem Blk.outs8{w w':World}{b:Nat}{t:TypeId}{cs:Array Value}{F:List Nat}(h:Blk w b t cs)(hU:Out F w w')(hF:b∉F):Blk w' b t cs:=(hU.block b h.lt hF).trans h
def z8v:Value→Prop
 | G _ n c=>n≤c∧c≤maxLen
 |_=>False
def z1r(f:Nat→Int):Nat→Int
 |0=>0
 |n+1=>if z1r f n=0 then f n else z1r f n
theorem z11(f:Nat→Int):∀n,(∀j,j<n→f j=0)→z1r f n=0
 |0,_=>rfl
 |n+1,h=>by
  have:=z11 f n (fun j hj=>h j (by omega));simp only[z1r,this,if_true];exact h n (by omega)
theorem z3V(f:Nat→Int)(k:Nat)(h:∀j,j<k→f j=0)(hne:f k≠0):∀n,k<n→z1r f n=f k
 |0,hk=>by omega
 |n+1,hk=>by
  by_cases e:k=n
  ·subst e;simp only[z1r,z11 f k h,if_true]
  ·have:=z3V f k h hne n (by omega);simp only[z1r,this,hne,if_false]
theorem z4N(f:Nat→Int):∀n,z1r f n=0→∀j,j<n→f j=0
 |0,_,j,hj=>by omega
 |n+1,h,j,hj=>by
  simp only[z1r]at h;by_cases e:z1r f n=0
  ·rw[if_pos e]at h;by_cases ej:j=n
   ·subst ej;exact h
   ·exact z4N f n e j (by omega)
  ·rw[if_neg e]at h;exact absurd h e
def prevK(xs:List ItemD)(k:Nat):Int:=if k=0 then 0 else(xs.getD (k-1) z0b).key
def itF(xs:List ItemD)(k:Nat):Int:=
 if inW (xs.getD k z0b).key 1 20=false∨inW (xs.getD k z0b).val (-20000) 20000=false then 3
 else if(xs.getD k z0b).key≤prevK xs k then 1 else 0
def itemsF(xs:List ItemD):Int:=if 8<xs.length then 2 else z1r (itF xs) xs.length
theorem z7p(xs:List ItemD)(k:Nat):
  (inW (xs.getD k z0b).key 1 20=false∧itF xs k=3)∨(inW (xs.getD k z0b).key 1 20=true∧inW (xs.getD k z0b).val (-20000) 20000=false∧itF xs k=3)∨
  (inW (xs.getD k z0b).key 1 20=true∧inW (xs.getD k z0b).val (-20000) 20000=true∧(xs.getD k z0b).key≤prevK xs k∧itF xs k=1)∨
  (inW (xs.getD k z0b).key 1 20=true∧inW (xs.getD k z0b).val (-20000) 20000=true∧¬(xs.getD k z0b).key≤prevK xs k∧itF xs k=0):=by
 unfold itF;generalize xs.getD k z0b=x;generalize prevK xs k=p
 cases h1:inW x.key 1 20<;>cases h2:inW x.val (-20000) 20000<;>by_cases h3:x.key≤p<;>simp[h3]
theorem z1S(n:Int)(w:World):
  Calls Tryz.prog 260 #[.int .i64 n] w fun e w'=>e=.returned (.bool (inW n (-20000) 20000))∧w'=w:=by
 have hc:=fun w=>z0M n (-20000) 20000 w
 generalize inW n (-20000) 20000=r at hc;go_enter func260,ntmps260
 go_wp2_with (go_at_call 47;refine(hc _).mono ?_;rintro e w' ⟨rfl,rfl⟩)
 go_ret;exact⟨rfl,rfl⟩
theorem z3W(a:Option Addr)(cap:Nat)(zs:List ItemD)(w:World)(h:ItemRow w a zs)(hl:zs.length≤1048576):
  Calls Tryz.prog 236 #[G a zs.length cap] w fun e w'=>e=.returned (.int .i64 (itemsF zs))∧Below w.heap.size w w':=by
 by_cases h8:8<zs.length
 ·have E:itemsF zs=2:=if_pos h8;rw[E];go_enter func236,ntmps236
  go_wp2
  go_ret;exact⟨rfl,Below.refl _ _⟩
 have E:itemsF zs=z1r (itF zs) zs.length:=if_neg h8;rw[E];clear E;go_enter func236,ntmps236
 go_wp2
 go_loopw[3,11] (fun l j wr=>∃k:Nat,k≤zs.length∧j=.int .i64 k∧l=.int .i64 (prevK zs k)∧Below w.heap.size w wr∧Hid (∀j,j<k→itF zs j=0)) (fun _ j _=>zs.length-(intOf j).toNat)
 case atStart=>exact⟨0,Nat.zero_le _,rfl,rfl,Below.refl _ _,fun j hj=>absurd hj (Nat.not_lt_zero _)⟩
 case round=>
  obtain⟨k,hk,rfl,rfl,hb,HA⟩:=hrel;by_cases hlt:k<zs.length
  ·obtain⟨b,off,rfl,hbs,hc0,hc1⟩:=(h.below hb).at k hlt;have hsz:=hb.size;have HK:Hid (prevK zs (k+1)=(zs.getD k z0b).key):=if_neg (Nat.succ_ne_zero k);rcases z7p zs k with⟨h1,hF⟩|⟨h1,h2,hF⟩|⟨h1,h2,h3,hF⟩|⟨h1,h2,h3,hF⟩
   case inr.inr.inr=>
    have HB:Hid (∀j,j<k+1→itF zs j=0):=by
     intro j hj;by_cases hjk:j=k
     ·subst hjk;exact hF
     ·exact HA.out j (by omega)
    clear HA hF;generalize prevK zs k=p at h3;generalize zs.getD k z0b=z at hc0 hc1 h1 h2 h3 HK;obtain⟨z0,z1⟩:=z;dsimp only at hc0 hc1 h1 h2 h3 HK
    go_wp2_with (first|(go_at_call 47;refine(z0M _ _ _ _).mono ?_;rintro e w' ⟨rfl,rfl⟩)|(go_at_call 260;refine(z1S _ _).mono ?_;rintro e w' ⟨rfl,rfl⟩))
    go_roundw
    case rel=>exact⟨k+1,by omega,by go_num,by rw[HK.out],by go_grown,HB⟩
    case measure=>simp[intOf];omega
   all_goals
    have E:Hid (z1r (itF zs) zs.length=_):=z3V (itF zs) k HA.out (by rw[hF];decide) zs.length hlt;rw[hF]at E;clear HA hF HK;generalize prevK zs k=p at*;generalize zs.getD k z0b=z at*;obtain⟨z0,z1⟩:=z;dsimp only at*
    go_wp2_with (first|(go_at_call 47;refine(z0M _ _ _ _).mono ?_;rintro e w' ⟨rfl,rfl⟩)|(go_at_call 260;refine(z1S _ _).mono ?_;rintro e w' ⟨rfl,rfl⟩))
    go_ret;rw[E.out];exact⟨rfl,by go_grown⟩
  ·have hkl:k=zs.length:=by omega
   subst hkl;have E:Hid (z1r (itF zs) zs.length=0):=z11 _ _ HA.out;clear HA
   go_wp2
   go_ret;rw[E.out];exact⟨rfl,hb⟩
def OwnS(e size lo hi:Nat)(w:World)(v:Value)(n:Nat)(xs:List Value):Prop:=w.ownsRow lo e size v n xs∧∀g,v.ownBlock=some g→g<hi
theorem OwnS.of{e size lo n:Nat}{w:World}{v:Value}{xs:List Value}(o:w.ownsRow lo e size v n xs):OwnS e size lo w.heap.size w v n xs:=⟨o,fun g hg=>(o.lt g hg).2⟩
theorem OwnS.below{e size lo hi n:Nat}{w w':World}{v:Value}{xs:List Value}(o:OwnS e size lo hi w v n xs)(hb:Below w.heap.size w w'):OwnS e size lo hi w' v n xs:=⟨z0c o.1 hb,o.2⟩
theorem OwnS.only{e size lo hi n lo' hi':Nat}{w w':World}{v:Value}{xs:List Value}(o:OwnS e size lo hi w v n xs)(h:Only lo' hi' w w')(hh:hi'≤lo):OwnS e size lo hi w' v n xs:=⟨z2h o.1 h hh,o.2⟩
theorem OwnS.lies{e size lo hi n c:Nat}{w:World}{a:Option Addr}{xs:List Value}(o:OwnS e size lo hi w (G a n c) n xs):Lies w a xs:=Lies.own o.1
theorem OwnS.wide{e size lo hi n lo' hi':Nat}{w:World}{v:Value}{xs:List Value}(o:OwnS e size lo hi w v n xs)(h:lo'≤lo)(hh:hi≤hi'):OwnS e size lo' hi' w v n xs:=⟨z0r o.1 h,fun g hg=>Nat.lt_of_lt_of_le (o.2 g hg) hh⟩
theorem OwnS.grown{e size lo hi n:Nat}{w w':World}{v:Value}{xs:List Value}(o:OwnS e size lo hi w v n xs)(hg:w.grownBy w' v.ownBlock):Only lo hi w w':=z3K hg (fun g h=>⟨(o.1.lt g h).1,o.2 g h⟩)
theorem OwnS.beside{e size lo hi n:Nat}{w w':World}{v v':Value}{xs:List Value}(o:OwnS e size lo hi w v n xs)(hg:w.grownBy w' v'.ownBlock)(h:v.ownBlock=none∨v.ownBlock≠v'.ownBlock):OwnS e size lo hi w' v n xs:=⟨o.1.kept hg h,o.2⟩
theorem OwnTxns.only{lo hi lo' hi':Nat}{w w':World}{v:Value}{ds:List TxnD}(h:OwnTxns lo hi w v ds)(ho:Only lo' hi' w w')(hh:hi'≤lo):OwnTxns lo hi w' v ds:=by
 obtain⟨g,cap,ps,e,hg,hd,o,hp⟩:=h;exact⟨g,cap,ps,e,hg,hd,z2h o ho hh,fun p hm=>⟨z2h (hp p hm).1 ho hh,(hp p hm).2⟩⟩
section
open Go.Maps Go.Sort Go.Shelf
def z6K:Go.Shelf.Ren:=⟨fun|7=>263|10=>275|n=>n,fun|23=>301|26=>2|3=>2|28=>358|0=>0|27=>357|33=>243|4=>4|n=>n,fun|n=>n⟩
theorem q4F:Go.Proofs.SlLaysZI.n7 Tryz.prog z6K:={
 mixed:=by kernel_rfl,
 f7:=⟨Tryz.f263.name,by decide,func263.trans (congrArg some (by kernel_rfl))⟩,
 f10:=⟨Tryz.f275.name,by decide,func275.trans (congrArg some (by kernel_rfl))⟩,
 t0:=Tryz.underlying0,
 a0:=Tryz.isAgg0,
 z0:=Tryz.sizeOf0,
 v0:=Tryz.zeroValue0,
 t4:=Tryz.underlying4,
 a4:=Tryz.isAgg4,
 z4:=Tryz.sizeOf4,
 v4:=Tryz.zeroValue4,
 t23:=Tryz.underlying301,
 a23:=Tryz.isAgg301,
 z23:=Tryz.sizeOf301,
 v23:=Tryz.zeroValue301,
 t26:=Tryz.underlying2,
 a26:=Tryz.isAgg2,
 z26:=Tryz.sizeOf2,
 v26:=Tryz.zeroValue2,
 t27:=Tryz.underlying357,
 a27:=Tryz.isAgg357,
 z27:=Tryz.sizeOf357,
 v27:=Tryz.zeroValue357,
 t28:=Tryz.underlying358,
 a28:=Tryz.isAgg358,
 z28:=Tryz.sizeOf358,
 v28:=Tryz.zeroValue358,
 t33:=Tryz.underlying243,
 a33:=Tryz.isAgg243,
 z33:=Tryz.sizeOf243,
 v33:=Tryz.zeroValue243 }
def z4O:Go.Shelf.Ren:=⟨fun|6=>262|8=>274|9=>202|11=>279|13=>230|12=>229|23=>252|24=>253|14=>243|15=>244|16=>245|17=>246|18=>247|19=>248|20=>249|21=>250|22=>251|25=>265|26=>266|27=>267|28=>268|29=>269|30=>270|31=>277|n=>n,fun|26=>2|28=>358|24=>75|0=>0|3=>3|37=>276|48=>346|50=>329|4=>4|40=>339|39=>338|45=>343|5=>5|9=>9|51=>360|55=>364|57=>370|58=>371|33=>243|n=>n,fun|n=>n⟩
theorem q30:Go.Proofs.SlLaysZI.n6 Tryz.prog z4O:={
 mixed:=by kernel_rfl,
 f6:=⟨Tryz.f262.name,by decide,func262.trans (congrArg some (by kernel_rfl))⟩,
 f8:=⟨Tryz.f274.name,by decide,func274.trans (congrArg some (by kernel_rfl))⟩,
 f11:=⟨Tryz.f279.name,by decide,func279.trans (congrArg some (by kernel_rfl))⟩,
 t0:=Tryz.underlying0,
 a0:=Tryz.isAgg0,
 z0:=Tryz.sizeOf0,
 v0:=Tryz.zeroValue0,
 t24:=Tryz.underlying75,
 a24:=Tryz.isAgg75,
 z24:=Tryz.sizeOf75,
 v24:=Tryz.zeroValue75,
 t26:=Tryz.underlying2,
 a26:=Tryz.isAgg2,
 z26:=Tryz.sizeOf2,
 v26:=Tryz.zeroValue2,
 t28:=Tryz.underlying358,
 a28:=Tryz.isAgg358,
 z28:=Tryz.sizeOf358,
 v28:=Tryz.zeroValue358,
 i26:=by kernel_rfl }
end
structure KeepP (p:World→Prop) where
 val:World
 isP:p val
section
variable {P:Program} {ops:Array Oper} {Q:Exit→Act→World→Prop} {S:World→Prop} {st:Nat}
def z1l(P:Program)(ops:Array Oper)(Q:Exit→Act→World→Prop)(S:World→Prop)(st:Nat):Nat→Array Bool→Act→World→Prop
 |0,listed,a,w=>Region.ready .any ops listed=[]∧Q .normal a w
 |fuel+1,listed,a,w=>
  (Region.ready .any ops listed=[]→Q .normal a w)∧
  ∀i∈Region.ready .any ops listed,wpOp P ops Q i (fun a' w'=>((listed.setIfInBounds i true).getD st true=true∨S w')∧z1l P ops Q S st fuel (listed.setIfInBounds i true) a' w') a w
theorem z6L:∀ (fuel:Nat) (listed:Array Bool) (a:Act) (w:World),z1l P ops Q S st fuel listed a w→wpAny P .any ops Q fuel listed a w
 |0,_,_,_,h=>h
 |fuel+1,_,_,_,h=>⟨h.1,fun i hi=>wpOp_mono (fun a' w' h'=>z6L fuel _ a' w' h'.2) (h.2 i hi)⟩
theorem z4P{i:Nat}{oi:Oper}{v:Value}(hi:ops[i]?=some oi)(J:∀ (j:Nat) (o:Oper) cs b,ops[j]?=some o→o.op≠.select cs b)
  (hQ:∀c a w,Q (.panic c) (a.put oi.dst v) w→Q (.panic c) a w) (N:i≠st) (Z:∀o,ops[st]?=some o→∃e∈o.after,Region.binds .any e=true∧e.on=i):
  ∀ (x:Nat) (d:Array Bool) (a:Act) (w:World),
   (∀j oj,ops[j]?=some oj→j≠i→d.getD j true=false→(∀e∈oj.after,Region.binds .any e=true→e.on≠i)→oi.apart ops oj=true)→
   i∈Region.ready .any ops d→YieldsIf P ops S oi v a→S w→d.getD st true=false→
   z1l P ops Q S st x (d.setIfInBounds i true) (a.put oi.dst v) w→z1l P ops Q S st (x+1) d a w:=by
 intro x;induction x with
 |zero=>
  intro d a w _ hr hy hS hl H;refine⟨fun h=>(by rw[h]at hr;cases hr),fun j hj=>?_⟩;by_cases y:j=i
  ·subst y;exact hy.wpOp hi hS ⟨Or.inr hS,H⟩
  ·have:=ready_mono hj y;rw[H.1]at this
   cases this
 |succ x ih=>
  intro d a w z hr hy hS hl H;refine⟨fun h=>(by rw[h]at hr;cases hr),fun j hj=>?_⟩;by_cases y:j=i
  ·subst y;exact hy.wpOp hi hS ⟨Or.inr hS,H⟩
  ·have h1:=H.2 j (ready_mono hj y);obtain⟨E,oj,C,M⟩:=mem_ready.1 hj;have I:∀e∈oj.after,Region.binds .any e=true→e.on≠i:=fun e he hb U=>by
    have h1:=M e he hb;have h0:=(mem_ready.1 hr).1;rw[U]at h1;rcases Nat.lt_or_ge i d.size with h'|h'
    ·simp[h']at h0 h1;rw[h0]at h1;cases h1
    ·simp[Array.getElem?_eq_none h']at h1
   have D:j≠st:=by
    intro e;subst e;obtain⟨e,he,hb,Y⟩:=Z oj C;exact I e he hb Y
   have h2:=wpOp_putIf C (z j oj C y E I) (fun cs b=>J i oi cs b hi) (fun cs b=>J j oj cs b C) hQ hy h1;have A:∀k ok,ops[k]?=some ok→k≠i→(d.setIfInBounds j true).getD k true=false→
     (∀e∈ok.after,Region.binds .any e=true→e.on≠i)→oi.apart ops ok=true:=fun k ok hk V T X=>by
    refine z k ok hk V ?_ X;by_cases O:j=k
    ·subst O;exact E
    ·rw[getD_set_ne true O]at T;exact T
   have W:(d.setIfInBounds j true).getD st true=false:=by rw[getD_set_ne true D];exact hl
   refine wpOp_mono (fun a' w' h3=>?_) h2;have L:S w':=by
    rcases h3.2.1 with h4|h4
    ·rw[getD_set_ne true D,getD_set_ne true N,hl]at h4
     cases h4
    ·exact h4
   refine⟨Or.inr L,ih (d.setIfInBounds j true) a' w' A (ready_mono hr (Ne.symm y)) h3.1 L W ?_⟩;rw[Array.setIfInBounds_comm _ _ y];exact h3.2.2
def PanTo(Q:Exit→Act→World→Prop)(R:List PanicEntry→World→Prop):Exit→Act→World→Prop
 | .panic c,a,w=>a.defers=[]∧R c w
 |e,a,w=>Q e a w
theorem z7q(a:Act)(d:Option Tmp)(v:Value):(a.put d v).defers=a.defers:=by cases d<;>rfl
theorem PanTo.put{R:List PanicEntry→World→Prop}:∀c (a:Act) (d:Option Tmp) (v:Value) w,PanTo Q R (.panic c) (a.put d v) w→PanTo Q R (.panic c) a w:=fun c a d v w h=>⟨(z7q a d v)▸h.1,h.2⟩
variable {R:List PanicEntry→World→Prop}
theorem PanTo.imp(hR:∀c a w,a.defers=[]→R c w→Q (.panic c) a w):∀ (e:Exit) (a:Act) (w:World),PanTo Q R e a w→Q e a w:=fun e a w h=>by
 cases e<;>first|exact h|exact hR _ _ _ h.1 h.2
theorem z3X{id:Nat}{a:Act}{w:World}(st:Nat)(hm:P.follows .mixedOrders=true)(hR:∀c a w,a.defers=[]→R c w→Q (.panic c) a w)
  (h:z1l P ops (PanTo Q R) S st ops.size (Array.replicate ops.size false) a w.drew):(Code.region id ops true).wp P Q a w:=
 Code.wp_mono (PanTo.imp hR) (wp_region_any hm (z6L _ _ _ _ h))
def q2x(ops:Array Oper)(st i:Nat):Bool:=match ops[st]? with
 |some o=>o.after.any (fun e=>Region.binds .any e && e.on==i)
 |none=>true
theorem q0m{i:Nat}(h:q2x ops st i=true):∀o,ops[st]?=some o→∃e∈o.after,Region.binds .any e=true∧e.on=i:=by
 intro o ho;unfold q2x at h;rw[ho]at h;obtain⟨k,hk,_,_,hb⟩:=Array.any_iff_exists.1 h;simp only[Bool.and_eq_true,beq_iff_eq]at hb;exact⟨o.after[k],Array.getElem_mem hk,hb⟩
def z8w(ops:Array Oper)(st:Nat):List Nat→Array Bool→Bool
 |[],_=>true
 |i::r,l=>Region.free .any ops l i && (Region.ready .any ops l).contains i && (i !=st) && q2x ops st i && !(l.getD st true) && z8w ops st r (l.setIfInBounds i true)
theorem q08(hs:Region.noSelect ops=true):
  ∀ (z:List Nat) (os:List Oper) (l:Array Bool) (a:Act) (w:World) (y:Nat),z.map (ops[·]?)=os.map some→os.all (fun o=>z4F o.op)=true→z8w ops st z l=true→S w→
   wpQuiet P ops S (fun a'=>z1l P ops (PanTo Q R) S st y (z4f z l) a' w) os a→z1l P ops (PanTo Q R) S st (y+z.length) l a w:=by
 intro z;induction z with
 |nil=>
  intro os l a w y d _ _ _ h
  cases os with
  |nil=>exact h
  |cons o os=>simp at d
 |cons i r ih=>
  intro os l a w y d A E hS h
  cases os with
  |nil=>simp at d
  |cons o os=>
   simp only[List.map_cons,List.cons.injEq]at d;simp only[List.all_cons,Bool.and_eq_true]at A;simp only[z8w,Bool.and_eq_true,bne_iff_ne,ne_eq,Bool.not_eq_true']at E;obtain⟨⟨⟨⟨⟨hf,hr⟩,D⟩,I⟩,hl⟩,C⟩:=E;simp only[wpQuiet]at h;by_cases hw:Region.wanted o (yielded ops a.tmps)=true
   ·rw[if_pos hw]at h;obtain⟨v,hv,hk⟩:=h;refine z4P (i:=i) (oi:=o) (v:=v) d.1 (Region.noSelect_spec hs) (fun c a w h=>PanTo.put c a _ _ w h) D (q0m I) _ l a w (Region.free_spec d.1 hf) (by simpa using hr) (Or.inl ⟨hw,fun u hu=>?_⟩) hS hl (ih os _ _ w y d.2 A.2 C hS hk);have hq:=hv u hu;unfold Oper.quietAt at hq
    cases hrun:(execOp a.eval o).run P u with
    |ok n u'=>
     obtain⟨x,rfl⟩:=z5l A.1 hrun;rw[hrun]at hq;obtain⟨e1,e2⟩:=hq;rw[e1,e2]
    |halt x u'=>
     rw[hrun]at hq;exact hq.elim
   ·rw[if_neg hw]at h;have J:Region.wanted o (yielded ops a.tmps)=false:=by simpa using hw
    exact z4P (i:=i) (oi:=o) (v:=undef) d.1 (Region.noSelect_spec hs) (fun c a w h=>PanTo.put c a _ _ w h) D (q0m I) _ l a w (Region.free_spec d.1 hf) (by simpa using hr) (Or.inr ⟨J,rfl⟩) hS hl (ih os _ _ w y d.2 A.2 C hS h)
theorem segX(rs:List (Nat × Nat))(fuel:Nat){F:Nat}{l:Array Bool}{a:Act}{w:World}(hF:F=fuel+(z7W rs).length)(hs:Region.noSelect ops=true)(hm:(z7W rs).map (ops[·]?)=(z3w ops.toList rs).map some)
  (hp:(z3w ops.toList rs).all (fun o=>z4F o.op)=true) (hok:z8w ops st (z7W rs) l=true) (hS:S w)
  (h:wpQuiet P ops S (fun a'=>z1l P ops (PanTo Q R) S st fuel (z4f (z7W rs) l) a' w) (z3w ops.toList rs) a):z1l P ops (PanTo Q R) S st F l a w:=by
 subst hF;exact q08 hs (z7W rs) _ l a w fuel hm hp hok hS h
theorem q6G(i:Nat)(d:Option Tmp)(f:Nat)(args:Array Value)(fuel:Nat){F:Nat}{l:Array Bool}{a:Act}{w:World}(hF:F=fuel+1)
  (hd:(ops[i]?).map (·.dst)=some d) (hr:Region.ready .any ops l=[i]) (hw:(ops[i]?).map (fun o=>Region.wanted o (yielded ops a.tmps))=some true)
  (hrun:(ops[i]?).map (fun o=>(execOp a.eval o).run P w)=some (.ok (.enter f args) w))
  (hdf:a.defers=[]) (hc:Calls P f args w (fun e w'=>(∃v,e=.returned v∧S w'∧z1l P ops (PanTo Q R) S st fuel (z4f [i] l) (a.put d v) w')∨∃c,e=.panicked c∧R c w')):z1l P ops (PanTo Q R) S st F l a w:=by
 subst hF
 cases ho:ops[i]? with
 |none=>rw[ho]at hd;simp at hd
 |some o=>
  rw[ho]at hd hw hrun;simp only[Option.map_some,Option.some.injEq]at hd hw hrun;subst hd;refine⟨fun h0=>(by rw[hr]at h0;cases h0),fun j hj=>?_⟩;rw[hr]at hj;simp only[List.mem_singleton]at hj;subst hj;unfold wpOp;simp only[ho,hw,if_true];refine .inl ?_;unfold Oper.wp;rw[hrun];simp only[Oper.upon];refine hc.mono fun e w' he=>?_
  rcases he with⟨v,rfl,h1,h2⟩|⟨c,rfl,h1⟩
  ·exact⟨Or.inr h1,h2⟩
  ·exact⟨hdf,h1⟩
def ThenX(Q:Exit→Act→World→Prop)(R:List PanicEntry→World→Prop)(K:Act→World→Prop):Exit→Act→World→Prop
 | .normal,a,w=>K a w
 |e,a,w=>PanTo Q R e a w
theorem ThenX.to{K:Act→World→Prop}{a:Act}{w:World}(h:K a w):ThenX Q R K .normal a w:=h
theorem oneX(i:Nat)(o:Oper)(fuel:Nat){F:Nat}{l:Array Bool}{a:Act}{w:World}(hF:F=fuel+1)(ho:ops[i]?=some o)(hr:Region.ready .any ops l=[i])
  (h:wpList P ops (ThenX Q R (fun a' w'=>((z4f [i] l).getD st true=true∨S w')∧z1l P ops (PanTo Q R) S st fuel (z4f [i] l) a' w')) [o] a w):z1l P ops (PanTo Q R) S st F l a w:=by
 subst hF;refine⟨fun h0=>(by rw[hr]at h0;cases h0),fun j hj=>?_⟩;rw[hr]at hj;simp only[List.mem_singleton]at hj;subst hj;unfold wpOp;simp only[ho];simp only[wpList]at h;split at h
 ·rename_i hw
  rw[if_pos hw];rcases h with h|⟨h1,h2⟩
  ·left;unfold Oper.wp at h⊢;revert h;generalize (execOp a.eval o).run P w=r;intro h;unfold Oper.upon at h⊢;split at h
   ·exact h
   ·exact h
   ·exact h
   ·refine Calls.mono h fun e w' he=>?_
    cases e<;>exact he
   ·exact h
   ·exact h
   ·exact h
  ·exact Or.inr ⟨h1,h2⟩
 ·rename_i hw
  rw[if_neg hw];exact h
theorem q31{F:Nat}{l:Array Bool}{a:Act}{w:World}(hr:Region.ready .any ops l=[])(h:Q .normal a w):z1l P ops (PanTo Q R) S st F l a w:=by
 cases F with
 |zero=>exact⟨hr,h⟩
 |succ F=>exact⟨fun _=>h,by rw[hr];simp⟩
theorem sgX(rs:List (Nat × Nat))(fuel:Nat){F:Nat}{l:Array Bool}{a:Act}{w:World}(h5:(F,Region.noSelect ops,(z7W rs).map (ops[·]?),(z3w ops.toList rs).all (fun o=>z4F o.op),z8w ops st (z7W rs) l)=(fuel+(z7W rs).length,true,(z3w ops.toList rs).map some,true,true))(hS:S w)
  (h:wpQuiet P ops S (fun a'=>z1l P ops (PanTo Q R) S st fuel (z4f (z7W rs) l) a' w) (z3w ops.toList rs) a):z1l P ops (PanTo Q R) S st F l a w:=by
 simp only[Prod.mk.injEq]at h5;exact segX rs fuel h5.1 h5.2.1 h5.2.2.1 h5.2.2.2.1 h5.2.2.2.2 hS h
theorem clX(i:Nat)(d:Option Tmp)(f:Nat)(args:Array Value)(fuel:Nat){F:Nat}{l:Array Bool}{a:Act}{w:World}(h5:(F,(ops[i]?).map (·.dst),Region.ready .any ops l,(ops[i]?).map (fun o=>Region.wanted o (yielded ops a.tmps)),(ops[i]?).map (fun o=>(execOp a.eval o).run P w))=(fuel+1,some d,[i],some true,some (.ok (.enter f args) w)))
  (hdf:a.defers=[]) (hc:Calls P f args w (fun e w'=>(∃v,e=.returned v∧S w'∧z1l P ops (PanTo Q R) S st fuel (z4f [i] l) (a.put d v) w')∨∃c,e=.panicked c∧R c w')):z1l P ops (PanTo Q R) S st F l a w:=by
 simp only[Prod.mk.injEq]at h5;exact q6G i d f args fuel h5.1 h5.2.1 h5.2.2.1 h5.2.2.2.1 h5.2.2.2.2 hdf hc
theorem onX(i:Nat){o:Oper}(fuel:Nat){F:Nat}{l:Array Bool}{a:Act}{w:World}(ho:ops[i]?=some o)(h2:(F,Region.ready .any ops l)=(fuel+1,[i]))
  (h:wpList P ops (ThenX Q R (fun a' w'=>((z4f [i] l).getD st true=true∨S w')∧z1l P ops (PanTo Q R) S st fuel (z4f [i] l) a' w')) [o] a w):z1l P ops (PanTo Q R) S st F l a w:=by
 simp only[Prod.mk.injEq]at h2;exact oneX i o fuel h2.1 ho h2.2 h
end
def q6H(x:UndoD):Int:=
 if inW x.key 1 20=false∨inW x.val (-20000) 20000=false then 3 else if x.was=false∧x.val≠0 then 1 else 0
structure USP where
 d:List UndoD
 a:Option Addr
 cap:Nat
def USP.sl(p:USP):Value:=G p.a p.d.length p.cap
def z4o(ps:List USP):List Value:=ps.map USP.sl
def q2y:USP:=⟨[],none,0⟩
theorem z6n(ps:List USP):(z4o ps).length=ps.length:=by simp[z4o]
theorem z9D(ps:List USP)(i:Nat)(h:i<ps.length):(z4o ps)[i]?=some (ps.getD i q2y).sl:=by simp[z4o,List.getD,h]
def UssAt(w:World)(v:Value)(ds:List (List UndoD)):Prop:=
 ∃a cap ps,v=G a ds.length cap∧ps.map USP.d=ds∧Lies w a (z4o ps)∧∀p∈ps,UndoRow w p.a p.d
theorem UssAt.below{w w':World}{v:Value}{ds:List (List UndoD)}(h:UssAt w v ds)(hb:Below w.heap.size w w'):UssAt w' v ds:=by
 obtain⟨a,cap,ps,e,hd,hL,hA⟩:=h;exact⟨a,cap,ps,e,hd,hL.below hb,fun p hp=>(hA p hp).below hb⟩
theorem UssAt.shape{w:World}{v:Value}{ds:List (List UndoD)}(h:UssAt w v ds):∃a cap,v=G a ds.length cap:=by
 obtain⟨a,cap,_,e,_⟩:=h;exact⟨a,cap,e⟩
theorem UssAt.at{w:World}{a:Option Addr}{n cap:Nat}{ds:List (List UndoD)}(h:UssAt w (G a n cap) ds)(i:Nat)(hi:i<ds.length):
  ∃b off aa cc,a=some ⟨b,off,none⟩∧b<w.heap.size∧w.cell? ⟨b,off+i,none⟩=some (.slice aa (ds.getD i []).length cc)∧UndoRow w aa (ds.getD i []):=by
 obtain⟨a',cap',ps,e,hd,hL,hA⟩:=h;simp only[Value.slice.injEq]at e;obtain⟨rfl,_,_⟩:=e;have hl:ps.length=ds.length:=by rw[←hd];simp
 have h1:=z9D ps i (by omega);have hp:(ps.getD i q2y).d=ds.getD i []:=by
  rw[←hd];simp[List.getD,show i<ps.length by omega]
 have hm:ps.getD i q2y∈ps:=by simp[List.getD,show i<ps.length by omega]
 rcases hL with h|⟨b,off,ha,hlt,hc⟩
 ·have:=z6n ps;rw[h]at this;simp at this;omega
 ·have hAA:=hA _ hm;rw[hp]at hAA;refine⟨b,off,(ps.getD i q2y).a,(ps.getD i q2y).cap,ha,hlt,?_,hAA⟩;rw[hc _ _ h1];simp only[USP.sl,hp]
def OwnUss(lo hi:Nat)(w:World)(v:Value)(ds:List (List UndoD)):Prop:=
 ∃g cap ps,v=G (some ⟨g,0,none⟩) ds.length cap∧g<hi∧ps.map USP.d=ds∧w.ownsRow lo 175 1 (G (some ⟨g,0,none⟩) ds.length cap) ds.length (z4o ps)∧
  ∀p∈ps,w.ownsRow lo 223 3 p.sl p.d.length (z0n p.d)∧∀k,p.sl.ownBlock=some k→k<hi∧k≠g
theorem OwnUss.row{lo hi:Nat}{w:World}{v:Value}{ds:List (List UndoD)}(h:OwnUss lo hi w v ds):UssAt w v ds:=by
 obtain⟨g,cap,ps,e,_,hd,ho,hp⟩:=h;exact⟨_,cap,ps,e,hd,Lies.own ho,fun p hm=>Lies.own (hp p hm).1⟩
theorem OwnUss.below{lo hi:Nat}{w w':World}{v:Value}{ds:List (List UndoD)}(h:OwnUss lo hi w v ds)(hb:Below w.heap.size w w'):OwnUss lo hi w' v ds:=by
 obtain⟨g,cap,ps,e,hg,hd,ho,hp⟩:=h;exact⟨g,cap,ps,e,hg,hd,z0c ho hb,fun p hm=>⟨z0c (hp p hm).1 hb,(hp p hm).2⟩⟩
theorem OwnUss.only{lo hi lo' hi':Nat}{w w':World}{v:Value}{ds:List (List UndoD)}(h:OwnUss lo hi w v ds)(ho:Only lo' hi' w w')(hh:hi'≤lo):OwnUss lo hi w' v ds:=by
 obtain⟨g,cap,ps,e,hg,hd,o,hp⟩:=h;exact⟨g,cap,ps,e,hg,hd,z2h o ho hh,fun p hm=>⟨z2h (hp p hm).1 ho hh,(hp p hm).2⟩⟩
structure Apart3 (s1 s2 s3:Value):Prop where
 a12:s1.ownBlock=none∨s1.ownBlock≠s2.ownBlock
 a13:s1.ownBlock=none∨s1.ownBlock≠s3.ownBlock
 a23:s2.ownBlock=none∨s2.ownBlock≠s3.ownBlock
theorem z7r{s t:Value}(h:s.ownBlock=none∨s.ownBlock≠t.ownBlock):t.ownBlock=none∨t.ownBlock≠s.ownBlock:=by
 rcases h with h|h
 ·cases ht:t.ownBlock with
  |none=>exact Or.inl rfl
  |some g=>right;rw[h];simp
 ·exact Or.inr (fun e=>h e.symm)
structure OwnA (lo hi:Nat) (w:World) (s1 s2 s3:Value) (cs vs:List Int) (ys:List ItemD):Prop where
 o1:OwnS 2 1 lo hi w s1 cs.length (cs.map (Value.int .i64))
 o2:OwnS 2 1 lo hi w s2 vs.length (vs.map (Value.int .i64))
 o3:OwnS 173 2 lo hi w s3 ys.length (z0g ys)
 ap:Apart3 s1 s2 s3
structure RowA (w:World) (a1 a2 a3:Option Addr) (cs vs:List Int) (ys:List ItemD):Prop where
 r1:Row .i64 w a1 cs
 r2:Row .i64 w a2 vs
 r3:ItemRow w a3 ys
theorem OwnA.below{lo hi:Nat}{w w':World}{s1 s2 s3:Value}{cs vs:List Int}{ys:List ItemD}(h:OwnA lo hi w s1 s2 s3 cs vs ys)(hb:Below w.heap.size w w'):OwnA lo hi w' s1 s2 s3 cs vs ys:=⟨h.o1.below hb,h.o2.below hb,h.o3.below hb,h.ap⟩
theorem OwnA.only{lo hi lo' hi':Nat}{w w':World}{s1 s2 s3:Value}{cs vs:List Int}{ys:List ItemD}(h:OwnA lo hi w s1 s2 s3 cs vs ys)(ho:Only lo' hi' w w')(hh:hi'≤lo):OwnA lo hi w' s1 s2 s3 cs vs ys:=⟨h.o1.only ho hh,h.o2.only ho hh,h.o3.only ho hh,h.ap⟩
theorem OwnA.row{lo hi c1 c2 c3:Nat}{w:World}{a1 a2 a3:Option Addr}{cs vs:List Int}{ys:List ItemD}(h:OwnA lo hi w (G a1 cs.length c1) (G a2 vs.length c2) (G a3 ys.length c3) cs vs ys):RowA w a1 a2 a3 cs vs ys:=⟨Row.own h.o1.1,Row.own h.o2.1,Lies.own h.o3.1⟩
theorem RowA.below{w w':World}{a1 a2 a3:Option Addr}{cs vs:List Int}{ys:List ItemD}(h:RowA w a1 a2 a3 cs vs ys)(hb:Below w.heap.size w w'):RowA w' a1 a2 a3 cs vs ys:=⟨h.r1.below hb,h.r2.below hb,h.r3.below hb⟩
structure MarkA (w:World) (a1 a2 a3:Option Addr) (n1 n2 n3:Nat):Prop where
 r1:Row .i64 w a1 (z3v .i64 1 n1)
 r2:Row .i64 w a2 (z3v .i64 (1+(n1:Int)) n2)
 r3:ItemRow w a3 (z0N (1+(n1:Int)+(n2:Int)) n3)
theorem MarkA.below{w w':World}{a1 a2 a3:Option Addr}{n1 n2 n3:Nat}(h:MarkA w a1 a2 a3 n1 n2 n3)(hb:Below w.heap.size w w'):MarkA w' a1 a2 a3 n1 n2 n3:=⟨h.r1.below hb,h.r2.below hb,h.r3.below hb⟩
structure OwnU (lo hi:Nat) (w:World) (s1 s2:Value) (us:List UndoD) (ys:List ItemD):Prop where
 o1:OwnS 223 3 lo hi w s1 us.length (z0n us)
 o2:OwnS 173 2 lo hi w s2 ys.length (z0g ys)
 ap:s1.ownBlock=none∨s1.ownBlock≠s2.ownBlock
structure RowU (w:World) (a1 a2:Option Addr) (us:List UndoD) (ys:List ItemD):Prop where
 r1:UndoRow w a1 us
 r2:ItemRow w a2 ys
theorem OwnU.below{lo hi:Nat}{w w':World}{s1 s2:Value}{us:List UndoD}{ys:List ItemD}(h:OwnU lo hi w s1 s2 us ys)(hb:Below w.heap.size w w'):OwnU lo hi w' s1 s2 us ys:=⟨h.o1.below hb,h.o2.below hb,h.ap⟩
theorem OwnU.only{lo hi lo' hi':Nat}{w w':World}{s1 s2:Value}{us:List UndoD}{ys:List ItemD}(h:OwnU lo hi w s1 s2 us ys)(ho:Only lo' hi' w w')(hh:hi'≤lo):OwnU lo hi w' s1 s2 us ys:=⟨h.o1.only ho hh,h.o2.only ho hh,h.ap⟩
theorem OwnU.row{lo hi c1 c2:Nat}{w:World}{a1 a2:Option Addr}{us:List UndoD}{ys:List ItemD}(h:OwnU lo hi w (G a1 us.length c1) (G a2 ys.length c2) us ys):RowU w a1 a2 us ys:=⟨Lies.own h.o1.1,Lies.own h.o2.1⟩
theorem RowU.below{w w':World}{a1 a2:Option Addr}{us:List UndoD}{ys:List ItemD}(h:RowU w a1 a2 us ys)(hb:Below w.heap.size w w'):RowU w' a1 a2 us ys:=⟨h.r1.below hb,h.r2.below hb⟩
structure MarkU (w:World) (a1 a2:Option Addr) (n1 n2:Nat):Prop where
 r1:UndoRow w a1 (z0V 1 n1)
 r2:ItemRow w a2 (z0N (1+((n1*3:Nat):Int)) n2)
theorem MarkU.below{w w':World}{a1 a2:Option Addr}{n1 n2:Nat}(h:MarkU w a1 a2 n1 n2)(hb:Below w.heap.size w w'):MarkU w' a1 a2 n1 n2:=⟨h.r1.below hb,h.r2.below hb⟩
def z0W:InstE:=⟨false,[],[],[]⟩
def z1T:List InstE→Int
 |[]=>0
 |x::r=>if insF x=0 then(if 0<r.length∧outV x.dec=3 then 8 else z1T r)else insF x
def ordF(ds:List InstE):Int:=if ds.length<1∨4<ds.length then 2 else z1T ds
def q5k(ds:List InstE):InstE:=ds.getD (ds.length-1) z0W
def decN(ds:List InstE):Nat:=if outV (q5k ds).dec=3 then ds.length-1 else ds.length
theorem z9E(ds:List InstE)(k:Nat)(hk:k<ds.length):ds.drop k=ds.getD k z0W::ds.drop (k+1):=by
 rw[List.drop_eq_getElem_cons hk];simp[List.getD,hk]
theorem z8x(ds:List InstE)(k:Nat)(hk:k<ds.length)(h:insF (ds.getD k z0W)≠0):z1T (ds.drop k)=insF (ds.getD k z0W):=by
 rw[z9E ds k hk,z1T,if_neg h]
theorem z6M(ds:List InstE)(k:Nat)(hk:k+1<ds.length)(h:insF (ds.getD k z0W)=0)(h3:outV (ds.getD k z0W).dec=3):z1T (ds.drop k)=8:=by
 rw[z9E ds k (by omega),z1T,if_pos h,if_pos ⟨by simp;omega,h3⟩]
theorem z6N(ds:List InstE)(k:Nat)(hk:k<ds.length)(h:insF (ds.getD k z0W)=0)(h3:¬(k+1<ds.length∧outV (ds.getD k z0W).dec=3)):z1T (ds.drop k)=z1T (ds.drop (k+1)):=by
 rw[z9E ds k hk,z1T,if_pos h,if_neg];rintro⟨h1,h2⟩;exact h3 ⟨by simp at h1;omega,h2⟩
theorem z8y(ds:List InstE)(k:Nat)(hk:ds.length≤k):z1T (ds.drop k)=0:=by
 rw[List.drop_of_length_le hk];rfl
theorem z5F:∀ (ds:List InstE),z1T ds=0↔∀k,k<ds.length→insF (ds.getD k z0W)=0∧(k+1<ds.length→outV (ds.getD k z0W).dec≠3)
 |[]=>by simp[z1T]
 |x::r=>by
  rw[z1T];constructor
  ·intro h k hk;by_cases h0:insF x=0
   ·rw[if_pos h0]at h;by_cases h1:0<r.length∧outV x.dec=3
    ·rw[if_pos h1]at h;exact absurd h (by decide)
    ·rw[if_neg h1]at h
     cases k with
     |zero=>exact⟨h0,fun hl h3=>h1 ⟨by simpa using hl,h3⟩⟩
     |succ k=>
      have:=(z5F r).1 h k (by simpa using hk);simp only[List.getD_cons_succ,List.length_cons];exact⟨this.1,fun hl=>this.2 (by omega)⟩
   ·rw[if_neg h0]at h;exact absurd h h0
  ·intro h;have h0:=h 0 (by simp);have e0:insF x=0:=h0.1;rw[if_pos e0,if_neg (fun e=>h0.2 (by simpa using e.1) e.2)];refine(z5F r).2 (fun k hk=>?_);have:=h (k+1) (by simpa using hk);simp only[List.getD_cons_succ,List.length_cons]at this;exact⟨this.1,fun hl=>this.2 (by omega)⟩
theorem z15(ds:List InstE):ordF ds=0↔(1≤ds.length∧ds.length≤4)∧∀k,k<ds.length→insF (ds.getD k z0W)=0∧(k+1<ds.length→outV (ds.getD k z0W).dec≠3):=by
 unfold ordF;by_cases h:ds.length<1∨4<ds.length
 ·rw[if_pos h];constructor
  ·intro h;exact absurd h (by decide)
  ·rintro⟨h1,_⟩;omega
 ·rw[if_neg h,z5F];constructor
  ·intro h2;exact⟨by omega,h2⟩
  ·rintro⟨_,h2⟩;exact h2
theorem z1L{ds:List InstE}(h:ordF ds=0):∀x∈ds,insF x=0:=by
 intro x hx;obtain⟨k,hk,rfl⟩:=List.getElem_of_mem hx;have:=(((z15 ds).1 h).2 k hk).1;simpa[List.getD,hk]using this
theorem z7s(ds:List InstE):decN ds≤ds.length:=by
 unfold decN;split<;>omega
def stF(a b:TxnD):Bool:=(a.id==b.id)||((a.session==b.session) && (a.seq==b.seq))
def knw(acc:List TxnD)(t:TxnD):Bool:=acc.any (fun a=>stF a t)
def onc:List TxnD→List TxnD→List TxnD
 |acc,[]=>acc
 |acc,t::r=>onc (if knw acc t then acc else acc++[t]) r
def z4p(ds:List InstE):List TxnD:=ds.flatMap (fun x=>if outV x.dec=1 then x.batch else [])
def defL(ds:List InstE)(n:Nat):List TxnD:=onc [] (z4p (ds.take n))
theorem z19:∀ (xs ys acc:List TxnD),onc acc (xs++ys)=onc (onc acc xs) ys
 |[],_,_=>rfl
 |t::r,ys,acc=>by
  simp only[List.cons_append,onc];exact z19 r ys _
theorem z9F:∀ (xs acc:List TxnD),∀t∈onc acc xs,t∈acc∨t∈xs
 |[],acc,t,h=>Or.inl h
 |x::r,acc,t,h=>by
  simp only[onc]at h;rcases z9F r _ t h with h|h
  ·split at h
   ·exact Or.inl h
   ·rcases List.mem_append.1 h with h|h
    ·exact Or.inl h
    ·simp only[List.mem_singleton]at h;exact Or.inr (by rw[h];simp)
  ·exact Or.inr (List.mem_cons_of_mem _ h)
theorem z7t(xs acc:List TxnD):(onc acc xs).length≤acc.length+xs.length:=by
 induction xs generalizing acc with
 |nil=>simp[onc]
 |cons t r ih=>
  simp only[onc,List.length_cons];have:=ih (if knw acc t then acc else acc++[t]);split at this
  ·rename_i h;rw[if_pos h];omega
  ·rename_i h;rw[if_neg h];simp only[List.length_append,List.length_singleton]at this;omega
end Go.Proofs.YtjjoahhnkpjolaaGreatDoor
