/- Texts joined,with what the laws reach alone. -/
import Derived.Test.YtgdedpgldhbfhaaGreatDoorQAAR
import Derived.Test.YtgdedpgldhbfhaaGreatDoorQAAO
import Derived.Laws.CopyRow
set_option linter.unusedVariables false
set_option linter.unusedSimpArgs false
set_option maxRecDepth 100000
set_option maxHeartbeats 8000000
namespace Go.Proofs.YtgdedpgldhbfhaaGreatDoor
open Go.RowKit Go.BigFrame
def q36:NodeE:=⟨0,0,⟨[],[],[],[],[]⟩⟩
def daC(c:CluE)(n:Int):Int:=if cluF c=0 then(if 0≤n∧n≤2 then 0 else 3)else cluF c
def daR(c:CluE)(n:Int):RepE:=if daC c n=0 then(c.mem.getD n.toNat q36).rep else⟨[],[],[],[],[]⟩
theorem q37{c:CluE}(h:cluF c=0){n:NodeE}(hn:n∈c.mem):∀t∈n.rep.done,t.F=0:=by
 obtain⟨h0,_,ha⟩:=z0R h;have e1:=(z40 (ha n hn)).2.2.2.2;rw[e1];exact q5k (z2G h0) _
theorem q2Y(w:World):repK.own w (⟨.slice none 0 0,[],.slice none 0 0,[],.slice none 0 0,[],.slice none 0 0,[],.slice none 0 0,[]⟩:RepQ):=
 ⟨(Kind.own_nil (K:=txnK) w).1,(Kind.own_nil (K:=itemK) w).1,(Kind.own_nil (K:=txnK) w).1,(Kind.own_nil (K:=ussK) w).1,(Kind.own_nil (K:=itemK) w).1⟩
theorem z3W(p:CluQ)(nd:Int)(w:World)(hG:Rul w)(hT:ErrT w)(h:cluK.own w p)(hl:p.n≤1048576):
  Calls Tryz.prog 43 #[.agg #[p.vo,p.vm],.int .i64 nd] w fun e w'=>∃r:RepQ,e=.returned (.tuple #[.agg #[r.vd,r.vb,r.vt,r.vu,r.vn],.int .i64 (daC p.e nd)])∧r.e=daR p.e nd∧repK.own w' r∧r.n≤1048576∧Below w.heap.size w w':=by
 have hf:=fun w hG hT h=>z1e p w hG hT h hl
 have O:=fun(w':World) (hb:Below w.heap.size w w')=>cluK.own_out (F:=[]) (w':=w') h (Out.of_below hb) (fun _ _=>by simp)
 have HM:Hid (cluF p.e=0→p.mem.length=3):=fun h0=>by have:=(z0R h0).2.1;simpa[CluQ.e]using this
 have H1:Hid (cluF p.e≠0→daC p.e nd=cluF p.e∧daR p.e nd=⟨[],[],[],[],[]⟩):=fun h1=>by
  have e:daC p.e nd=cluF p.e:=if_neg h1;exact⟨e,if_neg (by rw[e];exact h1)⟩
 have H2:Hid (cluF p.e=0→¬(0≤nd∧nd≤2)→daC p.e nd=3∧daR p.e nd=⟨[],[],[],[],[]⟩):=fun h1 h2=>by
  have e:daC p.e nd=3:=by
   unfold daC;rw[if_pos h1,if_neg h2]
  exact⟨e,if_neg (by rw[e];decide)⟩
 have H3:Hid (cluF p.e=0→(0≤nd∧nd≤2)→daC p.e nd=0∧daR p.e nd=((p.mem.map NodeQ.e).getD nd.toNat q36).rep):=fun h1 h2=>by
  have e:daC p.e nd=0:=by
   unfold daC;rw[if_pos h1,if_pos h2]
  exact⟨e,if_pos e⟩
 obtain⟨vo,E,vm,d⟩:=p;obtain⟨a0,k0,rfl⟩:∃a c,vo=.slice a E.length c:=h.1.shape;obtain⟨a1,k1,rfl⟩:∃a c,vm=.slice a d.length c:=h.2.shape;have ae:d.length+nmL NodeQ.n d≤1048576:=by dsimp only[CluQ.n]at hl;omega
 clear hl;obtain⟨ho,hm⟩:instK.Own w (.slice a0 E.length k0) E∧nodeK.Own w (.slice a1 d.length k1) d:=h;dsimp only at hf O HM H1 H2 H3;generalize daC _ nd=DC at*;generalize daR _ nd=DR at*;generalize cluF _=D at*;have b0:Below w.heap.size w ((w.alloc (.cells #[.slice a0 E.length k0,.slice a1 d.length k1] 33)).alloc (.cells #[.slice none 0 0,.slice none 0 0,.slice none 0 0,.slice none 0 0,.slice none 0 0] 62)):=by go_grown
 have A0:=(Blk.new w 33 #[.slice a0 E.length k0,.slice a1 d.length k1]).below (w':=(w.alloc (.cells #[.slice a0 E.length k0,.slice a1 d.length k1] 33)).alloc (.cells #[.slice none 0 0,.slice none 0 0,.slice none 0 0,.slice none 0 0,.slice none 0 0] 62)) (by go_grown);have Rb:=Blk.new (w.alloc (.cells #[.slice a0 E.length k0,.slice a1 d.length k1] 33)) 62 #[.slice none 0 0,.slice none 0 0,.slice none 0 0,.slice none 0 0,.slice none 0 0];simp only[World.size_alloc]at Rb;obtain⟨c0,c1⟩:=A0.cel2;go_enter Tryz.func43,Tryz.ntmps43
 go_wp2_with fail
 clear c0 c1;generalize (w.alloc (.cells #[.slice a0 E.length k0,.slice a1 d.length k1] 33)).alloc (.cells #[.slice none 0 0,.slice none 0 0,.slice none 0 0,.slice none 0 0,.slice none 0 0] 62)=W at*;refine(hf W (hG.below b0) (hT.below b0) (O W b0)).mono ?_;rintro e w1 ⟨rfl,hb⟩;replace A0:=A0.below hb;replace Rb:=Rb.below hb;replace b0:=b0.trans (hb.mono b0.size);clear hb hf O;by_cases hD:D=0
 case neg=>
  have ad:(D !=0)=true:=by simpa using hD
  have A:Hid (DC=D∧DR=⟨[],[],[],[],[]⟩):=H1.out hD;clear H1 H2 H3 HM hD;have Rr:=Rb.row #[.slice none 0 0,.slice none 0 0,.slice none 0 0,.slice none 0 0,.slice none 0 0];have U:=z0y w1 (w.heap.size+1) #[.slice none 0 0,.slice none 0 0,.slice none 0 0,.slice none 0 0,.slice none 0 0];have b3:=Out.keep b0 U b0.size (fun k hk=>by simp only[List.mem_singleton]at hk;omega);have L:(Tryz.prog.info? 62).map (·.size)=some (#[.slice none 0 0,.slice none 0 0,.slice none 0 0,.slice none 0 0,.slice none 0 0]:Array Value).size:=by kernel_rfl
  go_wp2_with (refine z0C (by kernel_rfl) 62 _ _ rfl _ #[.slice none 0 0,.slice none 0 0,.slice none 0 0,.slice none 0 0,.slice none 0 0] rfl rfl 62 _ Rb L rfl (by simp[Value.oneCell']) ?_)
  obtain⟨r0,r1,r2,r3,r4⟩:=Rr.cel5;exact bodyPost_ret (v:=.tuple #[.agg #[.slice none 0 0,.slice none 0 0,.slice none 0 0,.slice none 0 0,.slice none 0 0],.int .i64 D]) (by simp[results,Tryz.results43,go_sem,r0,r1,r2,r3,r4]) rfl ⟨⟨.slice none 0 0,[],.slice none 0 0,[],.slice none 0 0,[],.slice none 0 0,[],.slice none 0 0,[]⟩,by rw[A.out.1],by rw[A.out.2];rfl,q2Y _,by decide,b3⟩
 have N:Hid _:=HM.out hD;have HB:Hid _:=H2.out hD;have HC:Hid _:=H3.out hD;subst hD;clear H1 H2 H3 HM ho
 go_wp2_with fail
 refine(z0B nd 0 2 w1).mono ?_;rintro e w2 ⟨rfl,hw⟩;replace hw:=hw.symm;subst hw;unfold inW;by_cases hi:0≤nd∧nd≤2
 case neg=>
  have M:(decide (0≤nd) && decide (nd≤2))=false:=by
   rw[←Bool.decide_and];exact decide_eq_false hi
  rw[M];have A:Hid (DC=3∧DR=⟨[],[],[],[],[]⟩):=HB.out hi;clear HB HC N;have Rr:=Rb.row #[.slice none 0 0,.slice none 0 0,.slice none 0 0,.slice none 0 0,.slice none 0 0];have U:=z0y w1 (w.heap.size+1) #[.slice none 0 0,.slice none 0 0,.slice none 0 0,.slice none 0 0,.slice none 0 0];have b3:=Out.keep b0 U b0.size (fun k hk=>by simp only[List.mem_singleton]at hk;omega);have L:(Tryz.prog.info? 62).map (·.size)=some (#[.slice none 0 0,.slice none 0 0,.slice none 0 0,.slice none 0 0,.slice none 0 0]:Array Value).size:=by kernel_rfl
  go_wp2_with (refine z0C (by kernel_rfl) 62 _ _ rfl _ #[.slice none 0 0,.slice none 0 0,.slice none 0 0,.slice none 0 0,.slice none 0 0] rfl rfl 62 _ Rb L rfl (by simp[Value.oneCell']) ?_)
  obtain⟨r0,r1,r2,r3,r4⟩:=Rr.cel5;exact bodyPost_ret (v:=.tuple #[.agg #[.slice none 0 0,.slice none 0 0,.slice none 0 0,.slice none 0 0,.slice none 0 0],.int .i64 3]) (by simp[results,Tryz.results43,go_sem,r0,r1,r2,r3,r4]) rfl ⟨⟨.slice none 0 0,[],.slice none 0 0,[],.slice none 0 0,[],.slice none 0 0,[],.slice none 0 0,[]⟩,by rw[A.out.1],by rw[A.out.2];rfl,q2Y _,by decide,b3⟩
 case pos=>
  have M:(decide (0≤nd) && decide (nd≤2))=true:=by
   rw[←Bool.decide_and];exact decide_eq_true hi
  rw[M];have hE:=HC.out hi;obtain⟨hg,hh⟩:=hi;obtain⟨k,rfl⟩:∃k:Nat,nd=(k:Int):=⟨nd.toNat,by omega⟩
  have V:k<3:=by omega
  have J:k<d.length:=by rw[N.out];exact V
  rw[Int.toNat_natCast]at hE;have T:(d.map NodeQ.e).getD k q36=NodeQ.e d[k]:=by simp[List.getD,J]
  rw[T]at hE;have A:Hid (DC=0∧DR=(NodeQ.e d[k]).rep):=hE;clear HB HC N hE T hg hh M;obtain⟨g,ag,rfl,_,_,_⟩:=hm.at.cell (by decide) k J;have I:=z01 (hm.at.below b0) k J;have oq:repK.own w d[k].r:=z2m hm k J;have X:NodeQ.n d[k]≤1048576:=by have:=z1d NodeQ.n d k J;omega
  have q2:=I 2 d[k].vd rfl;have q3:=I 3 d[k].vb rfl;have q4:=I 4 d[k].vt rfl;have q5:=I 5 d[k].vu rfl;have q6:=I 6 d[k].vn rfl;clear I;generalize d[k]=q at*;obtain⟨kn,sf,vd,done,vb,base,vt,z,vu,y,vn,C⟩:=q;obtain⟨x0,y0,rfl⟩:∃a c,vd=.slice a done.length c:=oq.1.shape;obtain⟨x1,y1,rfl⟩:∃a c,vb=.slice a base.length c:=oq.2.1.shape;obtain⟨x2,y2,rfl⟩:∃a c,vt=.slice a z.length c:=oq.2.2.1.shape;obtain⟨x3,y3,rfl⟩:∃a c,vu=.slice a y.length c:=oq.2.2.2.1.shape;obtain⟨x4,y4,rfl⟩:∃a c,vn=.slice a C.length c:=oq.2.2.2.2.shape;dsimp only at q2 q3 q4 q5 q6;have aa:=fun x hx=>repK.own_lt oq x hx
  replace oq:=repK.own_out (F:=[]) oq (Out.of_below b0) (fun _ _=>by simp);have c1:=A0.cell 1 _ rfl;have ab:(k:Int)<(d.length:Int):=by omega
  have af:wrap64 (k:Int)=(k:Int):=by unfold wrap64;omega
  have Rr:=Rb.row #[.slice x0 done.length y0,.slice x1 base.length y1,.slice x2 z.length y2,.slice x3 y.length y3,.slice x4 C.length y4];have U:=z0y w1 (w.heap.size+1) #[.slice x0 done.length y0,.slice x1 base.length y1,.slice x2 z.length y2,.slice x3 y.length y3,.slice x4 C.length y4];have b3:=Out.keep b0 U b0.size (fun k hk=>by simp only[List.mem_singleton]at hk;omega);have L:(Tryz.prog.info? 62).map (·.size)=some (#[.slice x0 done.length y0,.slice x1 base.length y1,.slice x2 z.length y2,.slice x3 y.length y3,.slice x4 C.length y4]:Array Value).size:=by kernel_rfl
  go_wp2_with (refine z0C (by kernel_rfl) 62 _ _ rfl _ #[.slice x0 done.length y0,.slice x1 base.length y1,.slice x2 z.length y2,.slice x3 y.length y3,.slice x4 C.length y4] rfl rfl 62 _ Rb L rfl (by simp[Value.oneCell']) ?_)
  obtain⟨r0,r1,r2,r3,r4⟩:=Rr.cel5;have Z:=repK.own_out oq U (fun x hx Y=>by have:=aa x hx;simp only[List.mem_singleton]at Y;omega);exact bodyPost_ret (v:=.tuple #[.agg #[.slice x0 done.length y0,.slice x1 base.length y1,.slice x2 z.length y2,.slice x3 y.length y3,.slice x4 C.length y4],.int .i64 0]) (by simp[results,Tryz.results43,go_sem,r0,r1,r2,r3,r4]) rfl ⟨⟨.slice x0 done.length y0,done,.slice x1 base.length y1,base,.slice x2 z.length y2,z,.slice x3 y.length y3,y,.slice x4 C.length y4,C⟩,by rw[A.out.1],by rw[A.out.2];rfl,Z,X,b3⟩
theorem z9E{c:CluE}{n:Int}(h:daC c n=0):∀t∈(daR c n).done,t.F=0:=by
 unfold daC at h;by_cases h0:cluF c=0
 ·rw[if_pos h0]at h;by_cases hi:0≤n∧n≤2
  ·have e:daR c n=(c.mem.getD n.toNat q36).rep:=by
    unfold daR;rw[if_pos (by unfold daC;rw[if_pos h0,if_pos hi])]
   have h3:=(z0R h0).2.1;have hk:n.toNat<c.mem.length:=by omega
   have e2:c.mem.getD n.toNat q36=c.mem[n.toNat]:=by simp[List.getD,hk]
   rw[e,e2];exact q37 h0 (List.getElem_mem hk)
  ·rw[if_neg hi]at h;exact absurd h (by decide)
 ·rw[if_neg h0]at h;exact absurd h h0
theorem q2Z{c:CluE}{n:Int}(h:daC c n≠0):daR c n=⟨[],[],[],[],[]⟩:=if_neg h
theorem z6M(node:Int)(w:World):
  Calls Tryz.prog 41 #[.int .i64 node] w fun e w'=>e=.returned (.bool (inB node 0 2))∧w'=w:=by
 go_enter Tryz.func41,Tryz.ntmps41
 go_wp2_with (go_at_call 71;refine(z1g _ _ _ _).mono ?_;rintro e w' ⟨rfl,rfl⟩)
 go_ret;exact⟨rfl,rfl⟩
theorem Blk.outs12{w w':World}{b:Nat}{t:TypeId}{cs:Array Value}{F:List Nat}(h:Blk w b t cs)(hU:Out F w w')(hF:b∉F):Blk w' b t cs:=(hU.block b h.lt hF).trans h
end Go.Proofs.YtgdedpgldhbfhaaGreatDoor
