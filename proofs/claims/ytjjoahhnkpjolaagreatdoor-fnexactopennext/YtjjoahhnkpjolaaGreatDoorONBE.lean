import Derived.Test.YtjjoahhnkpjolaaGreatDoorONBD
import Derived.Test.YtjjoahhnkpjolaaGreatDoorONAT
set_option linter.unusedVariables false
set_option linter.unusedSimpArgs false
set_option maxRecDepth 100000
set_option maxHeartbeats 16000000
namespace Go.Proofs.YtjjoahhnkpjolaaGreatDoor
open Go.RowKit Go.BigFrame
open List renaming mem_append_right->P,mem_append_left->l,mem_singleton->o
open Out renaming setCell->f
open IntKind renaming i64->Q
open Value renaming int->H,slice->G
def z6y(xs:List ItemD)(E:List TxnD):List (List UndoD):=(z0O xs E).map (fun x=>x.2.2.2)
def mkR(D E:List TxnD):RepE:=⟨D,allI [] D,E,z6y (allI [] D) E,allI (allI [] D) E⟩
theorem q5E(E:List TxnD)(xs:List ItemD):(z0O xs E).map (fun x=>x.1)=E:=by
 induction E generalizing xs with
 |nil=>rfl
 |cons t r ih=>simp[z0O,ih]
theorem z8X(E:List TxnD)(xs:List ItemD):(z0O xs E).length=E.length:=by
 induction E generalizing xs with
 |nil=>rfl
 |cons t r ih=>simp[z0O,ih]
theorem q6Y{us:List DeedQ}{xs:List ItemD}{E:List TxnD}(h:us.map DeedQ.e4=z0O xs E):us.map DeedQ.t=E:=by
 have:=congrArg (List.map (fun x=>x.1)) h;rw[q5E,List.map_map]at this;exact this
theorem dq_u{us:List DeedQ}{xs:List ItemD}{E:List TxnD}(h:us.map DeedQ.e4=z0O xs E):us.map DeedQ.us=z6y xs E:=by
 have:=congrArg (List.map (fun x=>x.2.2.2)) h;rw[List.map_map]at this;exact this
theorem q3j:(Tryz.prog.info? 56).map (·.size)=some 5:=by kernel_rfl
structure Four (X w':World) (g:Nat) (vd vb vt vn:Value) (d t:List TxnQ) (b n:List ItemD):Prop where
 od:txnK.Own w' vd d
 ob:itemK.Own w' vb b
 ot:txnK.Own w' vt t
 on:itemK.Own w' vn n
 nd:(txnK.fp vd d++(blk vb++(txnK.fp vt t++blk vn))).Nodup
 lo:∀k∈txnK.fp vd d++(blk vb++(txnK.fp vt t++blk vn)),X.heap.size≤k∧k≠g
theorem HU4{us:List DeedQ}{xs:List ItemD}{E:List TxnD}(hl:xs.length≤8)(g:Good xs)(hF:∀t∈E,t.F=0)(h:us.map DeedQ.e4=z0O xs E):∀p∈us,p.us.length≤1048576:=by
 induction E generalizing us xs with
 |nil=>
  intro p hp;have:us=[]:=by simpa[z0O]using h
  rw[this]at hp;simp at hp
 |cons t r ih=>
  intro p hp
  cases us with
  |nil=>simp at hp
  |cons u us=>
   simp only[List.map_cons,z0O,List.cons.injEq]at h;have ht:=hF t (by simp);rcases List.mem_cons.1 hp with rfl|hp
   ·have e:p.us=z0Q xs t.acts:=congrArg (fun x=>x.2.2.2) h.1;have hz:=z04 (show txnF t.id t.session t.seq t.acts=0 from ht);rw[e];unfold z0Q;split
    ·have:=(z56 hl g hz.2 (by assumption)).1;omega
    ·simp
   ·have g2:=z1B hl g ht;exact ih g2.1 g2.2 (fun t' h'=>hF t' (List.mem_cons_of_mem _ h')) h.2 p hp
theorem z9X(w0:World)(vN iN vU iU:Value)(D E:List TxnD)(w:World)(h:RecPost w0 w vN iN vU iU D E)(aJ:Below w0.heap.size w0 w)(bt:∀t∈D,t.F=0)(aL:∀t∈E,t.F=0)(ca:D.length≤40)(cb:E.length≤40)(bH:(allI [] D).length≤8)(ck:(allI (allI [] D) E).length≤8)(bw:Good (allI [] D)):
  Calls Tryz.prog 134 #[.agg #[vN,iN,vU,iU]] w fun e w'=>∃p:RepQ,e=.returned (.agg #[p.vd,p.vb,p.vt,p.vu,p.vn])∧p.e=mkR D E∧repK.own w' p∧(repK.foot p).Nodup∧(∀k∈repK.foot p,w.heap.size≤k)∧Below w.heap.size w w':=by
 obtain⟨ds,us,rb,B0,R,eD,eE,bs⟩:=h;obtain⟨na,nc,rfl⟩:=z0f R.oN;obtain⟨ua,uc,rfl⟩:=z0f R.oU;obtain⟨ia,ic,rfl⟩:=R.jN.shape;obtain⟨ja,jc,rfl⟩:=R.jU.shape;have nI:=R.jN.niceV _ _ _ rfl;have nJ:=R.jU.niceV _ _ _ rfl;have dN:(z55 w0).At w (G na ds.length nc) ds:=Kind.at_of_row (K:=z55 w0) R.oN R.aN;have dU:(z4Y w0).At w (G ua us.length uc) us:=Kind.at_of_row (K:=z4Y w0) R.oU (fun p hp=>⟨(R.aU p hp).1,(R.aU p hp).2.at⟩);have br:∀p∈us,z4D p.lv:=fun p hp=>(R.aU p hp).2.niceV
 have jN:=R.jN.at;have jU:=R.jU.at;have tD:=q6Y eD;have tE:=q6Y eE;have uE:=dq_u eE;have bW:ds.length≤40:=by
  have:=congrArg List.length tD;rw[List.length_map]at this;omega
 have bX:us.length≤40:=by
  have:=congrArg List.length tE;rw[List.length_map]at this;omega
 have bh:∀p∈ds,p.t.F=0:=fun p hp=>bt _ (by rw[←tD];exact List.mem_map_of_mem hp)
 have bi:∀p∈us,p.t.F=0:=fun p hp=>aL _ (by rw[←tE];exact List.mem_map_of_mem hp)
 have HU:Hid (us.map DeedQ.us=z6y (allI [] D) E∧ds.map DeedQ.t=D∧us.map DeedQ.t=E):=⟨uE,tD,tE⟩
 have bF:∀p∈us,p.us.length≤1048576:=HU4 bH bw aL eE;clear R eD eE tD tE uE bs;have aw:Hid (mkR D E=⟨D,allI [] D,E,z6y (allI [] D) E,allI (allI [] D) E⟩):=show _=_ from rfl
 generalize allI (allI [] D) E=ys at*;generalize allI [] D=xs at*;have aa:Below w.heap.size w ((w.alloc (.cells #[G na ds.length nc,G ia xs.length ic,G ua us.length uc,G ja ys.length jc] 149)).alloc (.cells #[G none 0 0,G none 0 0,G none 0 0,G none 0 0,G none 0 0] 56)):=by go_grown
 have B:=(Blk.new w 149 #[G na ds.length nc,G ia xs.length ic,G ua us.length uc,G ja ys.length jc]).below (w':=(w.alloc (.cells #[G na ds.length nc,G ia xs.length ic,G ua us.length uc,G ja ys.length jc] 149)).alloc (.cells #[G none 0 0,G none 0 0,G none 0 0,G none 0 0,G none 0 0] 56)) (by go_grown);have Bv:=Blk.new (w.alloc (.cells #[G na ds.length nc,G ia xs.length ic,G ua us.length uc,G ja ys.length jc] 149)) 56 #[G none 0 0,G none 0 0,G none 0 0,G none 0 0,G none 0 0];rw[World.size_alloc]at Bv;replace dN:=dN.below aa;replace dU:=dU.below aa;replace jN:=jN.below aa;replace jU:=jU.below aa;have ak:=aJ.trans (aa.mono aJ.size);have ci:w.heap.size+2≤((w.alloc (.cells #[G na ds.length nc,G ia xs.length ic,G ua us.length uc,G ja ys.length jc] 149)).alloc (.cells #[G none 0 0,G none 0 0,G none 0 0,G none 0 0,G none 0 0] 56)).heap.size:=by simp only[World.size_alloc];omega
 go_enter Tryz.func134,Tryz.ntmps134
 go_wp2_with fail
 generalize (w.alloc (.cells #[G na ds.length nc,G ia xs.length ic,G ua us.length uc,G ja ys.length jc] 149)).alloc (.cells #[G none 0 0,G none 0 0,G none 0 0,G none 0 0,G none 0 0] 56)=X at*;generalize ce:w.heap.size=rc at*;obtain⟨f0,f1,f2,f3⟩:=B.lts4;have aX:=fun(w':World) (hb:Below X.heap.size X w')=>q3h w0 (G na ds.length nc) (G ia xs.length ic) ds w' (dN.below hb) (ak.trans (hb.mono ak.size)) bh (by omega)
 have aY:=fun(w':World) (hb:Below X.heap.size X w')=>z1C ia ic xs w' (jN.below hb) nI (by omega)
 have aZ:=fun(w':World) (hb:Below X.heap.size X w')=>q3i w0 (G ua us.length uc) (G ja ys.length jc) us w' (dU.below hb) (ak.trans (hb.mono ak.size)) bi (by omega)
 have a2:=fun(w':World) (hb:Below X.heap.size X w')=>z1C ja jc ys w' (jU.below hb) nJ (by omega)
 refine z1k [some 6,some 7,some 8,some 9,some 10,some 11,some 12,some 13,some 14,some 15,some 16,some 17,some 18,some 19,some 20,some 3] (fun vs w'=>∃ (a1:Option Addr) (k1:Nat) (b1:Option Addr) (c1:Nat) (a3:Option Addr) (k3:Nat) (b2:Option Addr) (c2 g:Nat) (q1 q3:List TxnQ),vs=[.pointer (some ⟨rc,0,none⟩),.agg #[G na ds.length nc,G ia xs.length ic],G a1 q1.length k1,.pointer (some ⟨rc,0,none⟩),.pointer (some ⟨rc,1,none⟩),G ia xs.length ic,G b1 xs.length c1,.pointer (some ⟨rc,2,none⟩),.agg #[G ua us.length uc,G ja ys.length jc],G a3 q3.length k3,.pointer (some ⟨rc,2,none⟩),.pointer (some ⟨rc,3,none⟩),G ja ys.length jc,G b2 ys.length c2,.agg #[G a1 q1.length k1,G b1 xs.length c1,G a3 q3.length k3,G none 0 0,G b2 ys.length c2],.pointer (some ⟨g,0,none⟩)]∧X.heap.size≤g∧Blk w' g 56 #[G a1 q1.length k1,G b1 xs.length c1,G a3 q3.length k3,G none 0 0,G b2 ys.length c2]∧q1.map TxnQ.e=ds.map DeedQ.t∧q3.map TxnQ.e=us.map DeedQ.t∧Four X w' g (G a1 q1.length k1) (G b1 xs.length c1) (G a3 q3.length k3) (G b2 ys.length c2) q1 q3 xs ys∧Below X.heap.size X w') ?_ ?_
 ·have hW:Below X.heap.size X X.drew:=(Below.refl _ _).drew;have cd:Nonempty (Lat X):=⟨⟨X,Below.refl _ _⟩⟩
  refine z0d (S:=fun w'=>∃u:Lat X,w'=u.val) (by kernel_rfl) ?_;refine sgr [(0,2),(3,3),(7,2),(10,3)] 7 (by kernel_rfl) ⟨⟨_,hW⟩,rfl⟩ ?_;simp only[pkE];repeat go_big_quiet_step (fail)
  refine wpQuiet_nil ?_;clear f0 f1 f2 f3 HU aw;generalize X.drew=x at hW⊢;refine twa 2 15 6 (by kernel_rfl) ?_ ?_
  rotate_left
  focus
   refine z1P 15 _ rfl ?_;have Bz:=Blk.new x 56 #[G none 0 0,G none 0 0,G none 0 0,G none 0 0,G none 0 0];have ap:X.heap.size≤x.heap.size:=hW.size;have d:Below x.heap.size x (x.alloc (.cells #[G none 0 0,G none 0 0,G none 0 0,G none 0 0,G none 0 0] 56)):=by go_grown
   replace hW:=hW.trans (d.mono hW.size);clear d
   go_wp2
   refine ThenGo.to ⟨⟨⟨_,hW⟩,rfl⟩,?_⟩;generalize C:x.heap.size=g at*;generalize x.alloc (.cells #[G none 0 0,G none 0 0,G none 0 0,G none 0 0,G none 0 0] 56)=x at*;clear C
  all_goals first|refine cla 2 (some 8) 180 #[.agg #[G na ds.length nc,G ia xs.length ic]] 5 (by kernel_rfl) ?_|refine opc 2 (some 8) 180 #[.agg #[G na ds.length nc,G ia xs.length ic]] (by kernel_rfl) ?_
  all_goals
   refine(aX _ hW).mono ?_;rintro e x ⟨v1,q1,rfl,e1,o1,n1,g1,hb⟩;obtain⟨a1,k1,rfl⟩:=o1.shape;try have A:∀k∈txnK.fp (G a1 q1.length k1) q1,k≠g:=fun k hk=>by have:=g1 k hk;have:=Bz.lt;omega
   try replace Bz:=Bz.below hb
   obtain⟨m1,M1,bN,bP,bY,ag,y⟩:∃m M,(∀k∈txnK.fp (G a1 q1.length k1) q1,m≤k)∧X.heap.size≤m∧m≤M∧(∀k∈txnK.fp (G a1 q1.length k1) q1,k<M)∧M≤x.heap.size:=⟨_,x.heap.size,g1,hW.size,hb.size,fun k hk=>o1.lt k hk,Nat.le_refl _⟩
   replace hW:=hW.trans (hb.mono hW.size);clear hb g1;refine⟨_,rfl,⟨⟨_,hW⟩,rfl⟩,?_⟩;simp only[Act.put,pgE,pjE]
  rotate_right
  refine twa 6 15 5 (by kernel_rfl) ?_ ?_
  rotate_left
  focus
   refine z1P 15 _ rfl ?_;have Bz:=Blk.new x 56 #[G none 0 0,G none 0 0,G none 0 0,G none 0 0,G none 0 0];have ap:X.heap.size≤x.heap.size:=hW.size;have d:Below x.heap.size x (x.alloc (.cells #[G none 0 0,G none 0 0,G none 0 0,G none 0 0,G none 0 0] 56)):=by go_grown
   have A:∀k∈txnK.fp (G a1 q1.length k1) q1,k≠x.heap.size:=fun k hk=>by have:=ag k hk;omega
   replace o1:=o1.below d;replace y:=Nat.le_trans y d.size;replace hW:=hW.trans (d.mono hW.size);clear d
   go_wp2
   refine ThenGo.to ⟨⟨⟨_,hW⟩,rfl⟩,?_⟩;generalize C:x.heap.size=g at*;generalize x.alloc (.cells #[G none 0 0,G none 0 0,G none 0 0,G none 0 0,G none 0 0] 56)=x at*;clear C
  all_goals first|refine cla 6 (some 12) 146 #[G ia xs.length ic] 4 (by kernel_rfl) ?_|refine opc 6 (some 12) 146 #[G ia xs.length ic] (by kernel_rfl) ?_
  all_goals
   refine(aY _ hW).mono ?_;rintro e x ⟨b1,c1,rfl,o2,g2,hb⟩;try have J:∀k∈blk (G b1 xs.length c1),k≠g:=fun k hk=>by have:=g2 k hk;have:=Bz.lt;omega
   try replace Bz:=Bz.below hb
   obtain⟨m2,M2,bl,bQ,bT,bZ,am,y⟩:∃m M,(∀k∈blk (G b1 xs.length c1),m≤k)∧X.heap.size≤m∧M1≤m∧m≤M∧(∀k∈blk (G b1 xs.length c1),k<M)∧M≤x.heap.size:=⟨_,x.heap.size,g2,hW.size,y,hb.size,fun k hk=>z0D o2.1 k hk,Nat.le_refl _⟩
   replace o1:=o1.below hb;replace hW:=hW.trans (hb.mono hW.size);clear hb g2;refine⟨_,rfl,⟨⟨_,hW⟩,rfl⟩,?_⟩;simp only[Act.put,pgE,pjE]
  rotate_right
  refine twa 9 15 4 (by kernel_rfl) ?_ ?_
  rotate_left
  focus
   refine z1P 15 _ rfl ?_;have Bz:=Blk.new x 56 #[G none 0 0,G none 0 0,G none 0 0,G none 0 0,G none 0 0];have ap:X.heap.size≤x.heap.size:=hW.size;have d:Below x.heap.size x (x.alloc (.cells #[G none 0 0,G none 0 0,G none 0 0,G none 0 0,G none 0 0] 56)):=by go_grown
   have A:∀k∈txnK.fp (G a1 q1.length k1) q1,k≠x.heap.size:=fun k hk=>by have:=ag k hk;omega
   replace o1:=o1.below d;have J:∀k∈blk (G b1 xs.length c1),k≠x.heap.size:=fun k hk=>by have:=am k hk;omega
   replace o2:=o2.below d;replace y:=Nat.le_trans y d.size;replace hW:=hW.trans (d.mono hW.size);clear d
   go_wp2
   refine ThenGo.to ⟨⟨⟨_,hW⟩,rfl⟩,?_⟩;generalize C:x.heap.size=g at*;generalize x.alloc (.cells #[G none 0 0,G none 0 0,G none 0 0,G none 0 0,G none 0 0] 56)=x at*;clear C
  all_goals first|refine cla 9 (some 15) 181 #[.agg #[G ua us.length uc,G ja ys.length jc]] 3 (by kernel_rfl) ?_|refine opc 9 (some 15) 181 #[.agg #[G ua us.length uc,G ja ys.length jc]] (by kernel_rfl) ?_
  all_goals
   refine(aZ _ hW).mono ?_;rintro e x ⟨v3,q3,rfl,e3,o3,n3,g3,hb⟩;obtain⟨a3,k3,rfl⟩:=o3.shape;try have U:∀k∈txnK.fp (G a3 q3.length k3) q3,k≠g:=fun k hk=>by have:=g3 k hk;have:=Bz.lt;omega
   try replace Bz:=Bz.below hb
   obtain⟨m3,M3,aD,bR,bU,b0,aA,y⟩:∃m M,(∀k∈txnK.fp (G a3 q3.length k3) q3,m≤k)∧X.heap.size≤m∧M2≤m∧m≤M∧(∀k∈txnK.fp (G a3 q3.length k3) q3,k<M)∧M≤x.heap.size:=⟨_,x.heap.size,g3,hW.size,y,hb.size,fun k hk=>o3.lt k hk,Nat.le_refl _⟩
   replace o1:=o1.below hb;replace o2:=o2.below hb;replace hW:=hW.trans (hb.mono hW.size);clear hb g3;refine⟨_,rfl,⟨⟨_,hW⟩,rfl⟩,?_⟩;simp only[Act.put,pgE,pjE]
  rotate_right
  refine twa 13 15 3 (by kernel_rfl) ?_ ?_
  rotate_left
  focus
   refine z1P 15 _ rfl ?_;have Bz:=Blk.new x 56 #[G none 0 0,G none 0 0,G none 0 0,G none 0 0,G none 0 0];have ap:X.heap.size≤x.heap.size:=hW.size;have d:Below x.heap.size x (x.alloc (.cells #[G none 0 0,G none 0 0,G none 0 0,G none 0 0,G none 0 0] 56)):=by go_grown
   have A:∀k∈txnK.fp (G a1 q1.length k1) q1,k≠x.heap.size:=fun k hk=>by have:=ag k hk;omega
   replace o1:=o1.below d;have J:∀k∈blk (G b1 xs.length c1),k≠x.heap.size:=fun k hk=>by have:=am k hk;omega
   replace o2:=o2.below d;have U:∀k∈txnK.fp (G a3 q3.length k3) q3,k≠x.heap.size:=fun k hk=>by have:=aA k hk;omega
   replace o3:=o3.below d;replace y:=Nat.le_trans y d.size;replace hW:=hW.trans (d.mono hW.size);clear d
   go_wp2
   refine ThenGo.to ⟨⟨⟨_,hW⟩,rfl⟩,?_⟩;generalize C:x.heap.size=g at*;generalize x.alloc (.cells #[G none 0 0,G none 0 0,G none 0 0,G none 0 0,G none 0 0] 56)=x at*;clear C
  all_goals first|refine cla 13 (some 19) 146 #[G ja ys.length jc] 2 (by kernel_rfl) ?_|refine opc 13 (some 19) 146 #[G ja ys.length jc] (by kernel_rfl) ?_
  all_goals
   refine(a2 _ hW).mono ?_;rintro e x ⟨b2,c2,rfl,o4,g4,hb⟩;try have ad:∀k∈blk (G b2 ys.length c2),k≠g:=fun k hk=>by have:=g4 k hk;have:=Bz.lt;omega
   try replace Bz:=Bz.below hb
   obtain⟨m4,M4,aq,bS,bV,b3,bx,y⟩:∃m M,(∀k∈blk (G b2 ys.length c2),m≤k)∧X.heap.size≤m∧M3≤m∧m≤M∧(∀k∈blk (G b2 ys.length c2),k<M)∧M≤x.heap.size:=⟨_,x.heap.size,g4,hW.size,y,hb.size,fun k hk=>z0D o4.1 k hk,Nat.le_refl _⟩
   replace o1:=o1.below hb;replace o2:=o2.below hb;replace o3:=o3.below hb;replace hW:=hW.trans (hb.mono hW.size);clear hb g4;refine⟨_,rfl,⟨⟨_,hW⟩,rfl⟩,?_⟩;simp only[Act.put,pgE,pjE]
  rotate_right
  focus
   refine sgr [(14,1)] 2 (by kernel_rfl) ⟨⟨_,hW⟩,rfl⟩ ?_;simp only[pkE];repeat go_big_quiet_step (fail)
   refine wpQuiet_nil ?_;refine ona 15 1 rfl (by kernel_rfl) ?_;have Bz:=Blk.new x 56 #[G none 0 0,G none 0 0,G none 0 0,G none 0 0,G none 0 0];have ap:X.heap.size≤x.heap.size:=hW.size;have d:Below x.heap.size x (x.alloc (.cells #[G none 0 0,G none 0 0,G none 0 0,G none 0 0,G none 0 0] 56)):=by go_grown
   have A:∀k∈txnK.fp (G a1 q1.length k1) q1,k≠x.heap.size:=fun k hk=>by have:=ag k hk;omega
   replace o1:=o1.below d;have J:∀k∈blk (G b1 xs.length c1),k≠x.heap.size:=fun k hk=>by have:=am k hk;omega
   replace o2:=o2.below d;have U:∀k∈txnK.fp (G a3 q3.length k3) q3,k≠x.heap.size:=fun k hk=>by have:=aA k hk;omega
   replace o3:=o3.below d;have ad:∀k∈blk (G b2 ys.length c2),k≠x.heap.size:=fun k hk=>by have:=bx k hk;omega
   replace o4:=o4.below d;replace y:=Nat.le_trans y d.size;replace hW:=hW.trans (d.mono hW.size);clear d
   go_wp2
   refine ThenGo.to ⟨⟨⟨_,hW⟩,rfl⟩,?_⟩;generalize C:x.heap.size=g at*;generalize x.alloc (.cells #[G none 0 0,G none 0 0,G none 0 0,G none 0 0,G none 0 0] 56)=x at*;clear C
  iterate 4
   rotate_left
   focus
    refine sgr [(14,1)] 1 (by kernel_rfl) ⟨⟨_,hW⟩,rfl⟩ ?_;simp only[pkE];repeat go_big_quiet_step (fail)
    refine wpQuiet_nil ?_
  all_goals
   refine ona 16 0 rfl (by kernel_rfl) ?_;have a8:X.heap.size≤g:=by omega
   have Rz:=Bz.row #[G a1 q1.length k1,G b1 xs.length c1,G a3 q3.length k3,G none 0 0,G b2 ys.length c2];have z1:=o1.out (z0x _ g #[G a1 q1.length k1,G b1 xs.length c1,G a3 q3.length k3,G none 0 0,G b2 ys.length c2]) (fun k hk=>by simp only[o];exact A k hk);have z2:=o2.out (z0x _ g #[G a1 q1.length k1,G b1 xs.length c1,G a3 q3.length k3,G none 0 0,G b2 ys.length c2]) (fun k hk=>by rw[z0q]at hk;simp only[o];exact J k hk);have z3:=o3.out (z0x _ g #[G a1 q1.length k1,G b1 xs.length c1,G a3 q3.length k3,G none 0 0,G b2 ys.length c2]) (fun k hk=>by simp only[o];exact U k hk);have z4:=o4.out (z0x _ g #[G a1 q1.length k1,G b1 xs.length c1,G a3 q3.length k3,G none 0 0,G b2 ys.length c2]) (fun k hk=>by rw[z0q]at hk;simp only[o];exact ad k hk);replace hW:=z0o hW a8 #[G a1 q1.length k1,G b1 xs.length c1,G a3 q3.length k3,G none 0 0,G b2 ys.length c2];have ba:∀k∈txnK.fp (G a1 q1.length k1) q1,k<m2:=fun k hk=>by have:=ag k hk;omega
   have bb:∀k∈blk (G b1 xs.length c1),k<m3:=fun k hk=>by have:=am k hk;omega
   have bc:∀k∈txnK.fp (G a3 q3.length k3) q3,k<m4:=fun k hk=>by have:=aA k hk;omega
   have FO:Four X _ g (G a1 q1.length k1) (G b1 xs.length c1) (G a3 q3.length k3) (G b2 ys.length c2) q1 q3 xs ys:=⟨z1,z2,z3,z4,List.nodup_append.2 ⟨n1,List.nodup_append.2 ⟨z0t _,List.nodup_append.2 ⟨n3,z0t _,z3o (m:=m4) bc aq⟩,z3o (m:=m3) bb (fun k hk=>by rcases List.mem_append.1 hk with hk | hk <;> first | (have:=aD k hk;omega) | (have:=aq k hk;omega))⟩,z3o (m:=m2) ba (fun k hk=>by rcases List.mem_append.1 hk with hk | hk <;> first | (have:=bl k hk;omega) | (rcases List.mem_append.1 hk with hk | hk <;> first | (have:=aD k hk;omega) | (have:=aq k hk;omega)))⟩,fun k hk=>by
    rcases List.mem_append.1 hk with hk|hk
    ·exact⟨by have:=bN k hk;omega,A k hk⟩
    rcases List.mem_append.1 hk with hk|hk
    ·exact⟨by have:=bl k hk;omega,J k hk⟩
    rcases List.mem_append.1 hk with hk|hk
    ·exact⟨by have:=aD k hk;omega,U k hk⟩
    ·exact ⟨by have:=aq k hk;omega,ad k hk⟩⟩
   refine z0A (by kernel_rfl) 56 _ _ rfl _ #[G a1 q1.length k1,G b1 xs.length c1,G a3 q3.length k3,G none 0 0,G b2 ys.length c2] rfl rfl 56 _ Bz q3j rfl (by simp[Value.oneCell']) ?_;refine ThenGo.to ⟨⟨⟨_,hW⟩,rfl⟩,?_⟩;refine z0h (by kernel_rfl) ?_;refine⟨rfl,_,⟨a1,k1,b1,c1,a3,k3,b2,c2,g,q1,q3,rfl,a8,Rz,e1,e3,FO,hW⟩,?_⟩;simp only[z1Q,Act.put,pgE,pjE];try rfl
 rintro vs w5 ⟨a1,k1,b1,c1,a3,k3,b2,c2,g,q1,q3,rfl,b7,Bg,e1,e3,FO,Z⟩;simp only[z1Q,Act.put,pjE];clear f0 f1 f2 f3 aX aY aZ a2 dN jN jU nI nJ;have b8:=Bg.lt;have aK:=(B.below Z)
 have x2:=aK.cell 2 _ rfl;have cc:(us.length:Int)≤40:=by omega
 obtain⟨be,bf⟩:=Kind.own_nil (K:=ussK) w5;have aF:Hid ((ussK.fp (G none 0 0) ([]:List USQ)).Nodup∧∀k∈ussK.fp (G none 0 0) ([]:List USQ),w5.heap.size≤k):=by
  rw[bf];exact⟨by simp,by simp⟩
 clear bf
 go_wp2
 clear x2 aK;go_loopw[25] (fun j wr=>∃ (k:Nat) (vu:Value) (qs:List USQ),k≤us.length∧j=H Q k∧Blk wr g 56 #[G a1 q1.length k1,G b1 xs.length c1,G a3 q3.length k3,vu,G b2 ys.length c2]∧ussK.Own wr vu qs∧Hid (qs.map USQ.e=(us.take k).map DeedQ.us)∧Hid ((ussK.fp vu qs).Nodup∧∀x∈ussK.fp vu qs,w5.heap.size≤x)∧Out [g] w5 wr) (fun j _=>us.length-(intOf j).toNat)
 case atStart=>exact⟨0,_,[],Nat.zero_le _,rfl,Bg,be,(rfl:_=_),aF,Out.refl _ _⟩
 case round=>
  clear aF be Bg;obtain⟨k,vu,qs,hk,rfl,Bg,hO,HE,HN,hU⟩:=hrel;obtain⟨sa,sc,rfl⟩:=hO.shape;have aT:Below X.heap.size X wr:=Out.keep Z hU Z.size (fun x hx=>by simp only[o]at hx;omega);have cf:=hU.size;have aG:Hid (qs.length=k):=by
   have:=congrArg List.length HE.out;rw[List.length_map,List.length_map,List.length_take]at this;show qs.length=k;omega
  by_cases an:k<us.length
  ·obtain⟨b,bO,rfl,b5,a6,bE⟩:=(dU.below aT).cell (by show 0<7;decide) k an;have L:∀j x,((z4Y w0).cells us[k])[j]?=some x→wr.cell? ⟨b,bO+k*7+j,none⟩=some x:=a6;have c0:=L 0 (H Q us[k].i) rfl;have aH:=L 1 (H Q us[k].s) rfl;have aI:=L 2 (H Q us[k].q) rfl;have c3:=L 3 (us[k].va) rfl;have c4:=L 4 (H Q us[k].code) rfl;have c5:=L 5 (H Q us[k].val) rfl;have c6:=L 6 (us[k].lv) rfl;rw[Nat.add_zero]at c0;have bk:=bF _ (List.getElem_mem an);have bG:=br _ (List.getElem_mem an);have ax:Hid (∀p':USQ,p'.us=DeedQ.us us[k]→(qs++[p']).map USQ.e=(us.take (k+1)).map DeedQ.us):=fun p' bD=>by
    rw[List.take_succ_eq_append_getElem an,List.map_append,List.map_append,HE.out,List.map_singleton,List.map_singleton];show _++[p'.us]=_;rw[bD]
   have bd:(k:Int)<(us.length:Int):=by omega
   clear a6 L HE;generalize us[k]=p at*;obtain⟨i,s,q,va,z,I,aj,lv,c⟩:=p;obtain⟨bj,ah⟩:actK.At w0 va z∧undoK.At wr lv c:=bE;obtain⟨ta,tc,rfl⟩:=bj.shape;obtain⟨la,lc,rfl⟩:=ah.shape;have bC:=bG _ _ _ rfl;dsimp only at c0 aH aI c3 c4 c5 c6 ax bk;have ab:Below wr.heap.size wr (wr.alloc (.cells #[H Q i,H Q s,H Q q,G ta z.length tc,H Q I,H Q aj,G la c.length lc] 258)):=by go_grown
   have BY:=Blk.new wr 258 #[H Q i,H Q s,H Q q,G ta z.length tc,H Q I,H Q aj,G la c.length lc];replace Bg:=Bg.below ab;replace ah:=ah.below ab;have bn:=hO.lt;replace hO:=hO.below ab;have aQ:=hU.trans (Out.of_below (F:=[g]) ab);have cj:=ab.size;have b9:g<wr.heap.size:=by omega
   go_wp2_with fail
   clear c0 aH aI c3 c4 c5 c6 ab;generalize wr.alloc (.cells #[H Q i,H Q s,H Q q,G ta z.length tc,H Q I,H Q aj,G la c.length lc] 258)=Y at*;generalize b6:wr.heap.size=db at*;have az:Blk Y g 56 #[G a1 q1.length k1,G b1 xs.length c1,G a3 q3.length k3,G sa qs.length sc,G b2 ys.length c2]∧Blk Y db 258 #[H Q i,H Q s,H Q q,G ta z.length tc,H Q I,H Q aj,G la c.length lc]:=⟨Bg,BY⟩
   generalize hP:(fun u:World=>Blk u g 56 #[G a1 q1.length k1,G b1 xs.length c1,G a3 q3.length k3,G sa qs.length sc,G b2 ys.length c2]∧Blk u db 258 #[H Q i,H Q s,H Q q,G ta z.length tc,H Q I,H Q aj,G la c.length lc])=PP;have aM:PP Y:=by subst hP;exact az
   have bp:∀u:KeepP PP,u.val.cell? ⟨g,3,none⟩=some (G sa qs.length sc):=fun u=>by have:=u.isP;subst hP;exact this.1.cell 3 _ rfl
   have bq:∀u:KeepP PP,u.val.cell? ⟨db,6,none⟩=some (G la c.length lc):=fun u=>by have:=u.isP;subst hP;exact this.2.cell 6 _ rfl
   have bB:Nonempty (KeepP PP):=⟨⟨Y,aM⟩⟩
   refine z3X (S:=fun w'=>∃u:KeepP PP,w'=u.val) (R:=fun _ _=>False) 8 (by kernel_rfl) (fun _ _ _ _ h=>h.elim) ?_;have aP:PP Y.drew:=by subst hP;exact az
   refine sgX [(0,4)] 5 (by kernel_rfl) ⟨⟨Y.drew,aP⟩,rfl⟩ ?_;simp only[pkE];repeat go_big_quiet_step (fail)
   refine wpQuiet_nil ?_;clear bp bq bB aM;have hW:Below Y.heap.size Y Y.drew:=(Below.refl _ _).drew;refine clX 4 (some 33) 147 #[G la c.length lc] 4 (by kernel_rfl) rfl ?_;refine(z3t la lc c _ (ah.below hW) bC bk).mono ?_;rintro e w7 ⟨a7,c7,rfl,o7,l7,aW⟩;have hD:=hW.size;replace hW:=hW.trans (aW.mono hW.size);replace Bg:=Bg.below hW;replace BY:=BY.below hW;have aE:=hO.lt;replace hO:=hO.below hW;have aR:=aQ.trans (Out.of_below (F:=[g]) hW);have cg:=hW.size;clear aW az aP;refine Or.inl ⟨_,rfl,⟨⟨_,by subst hP;exact⟨Bg,BY⟩⟩,rfl⟩,?_⟩;simp only[Act.put,pgE,pjE];refine onX 5 3 rfl (by kernel_rfl) ?_;have O:Below w7.heap.size w7 (w7.alloc (.cells #[G a7 c.length c7] 175)):=by go_grown
   have au:∀j u,[Value.slice a7 c.length c7][j]?=some u→(w7.alloc (.cells #[G a7 c.length c7] 175)).cell? ((⟨w7.heap.size,0,none⟩:Addr).add j)=some u:=by
    intro j u hj;match j,hj with|0,hj=>simp at hj;subst hj;simp[Addr.add]
   go_wp2
   replace Bg:=Bg.below O;replace BY:=BY.below O;have ay:=hO.below O;have aO:ussK.own (w7.alloc (.cells #[G a7 c.length c7] 175)) (⟨G a7 c.length c7,c⟩:USQ):=o7.below O;have W:=aR.trans (Out.of_below (F:=[g]) O);have ch:=O.size;refine ThenX.to ⟨Or.inr ⟨⟨_,by subst hP;exact⟨Bg,BY⟩⟩,rfl⟩,?_⟩;generalize w7.alloc (.cells #[G a7 c.length c7] 175)=WA at*;have ai:=ay.1;obtain⟨i0,hi,bI,bJ,bK⟩:=info_parts z2T;refine onX 6 2 rfl (by kernel_rfl) ?_;refine wpList_append_own_at _ rfl _ _ 54 rfl 0 175 i0 (G none 0 0) 1 24 Tryz.underlying54 hi bI bJ bK rfl (by decide) _ qs.length (ussK.row qs) rfl ai ⟨w7.heap.size,0,none⟩ 1 1 [G a7 c.length c7] rfl rfl au ?c2 ?c3 ?c4 ?c5 ?_
   case c2=>intro u hu;simp at hu;subst hu;rfl
   case c3=>have:=aG.out;unfold maxLen;omega
   case c4=>have:=aG.out;omega
   case c5=>omega
   intro v' wc ar af _ aV;have ae:∀x∈ussK.foot (⟨G a7 c.length c7,c⟩:USQ),Y.heap.size≤x:=fun x hx=>by
    have ao:x∈undoK.fp (G a7 c.length c7) c:=hx;rw[z0K]at ao;have:=l7 x ao;omega
   obtain⟨al,aB,V,N⟩:=ay.snoc HN.out.1 HN.out.2 aO (by show(undoK.fp _ _).Nodup;rw[z0K];exact z0t _) (fun x hx ao=>by have:=aE x ao;have:=ae x hx;omega) (fun x hx=>by have:=ae x hx;omega) (by omega) ar af aV;obtain⟨a9,c9,rfl⟩:=al.shape;have bA:(qs++[(⟨G a7 c.length c7,c⟩:USQ)]).length=qs.length+1:=by simp
   rw[bA]at al aB V;have aC:∀x∈blk (G sa qs.length sc),w5.heap.size≤x:=fun x hx=>HN.out.2 x (by simp only[Kind.fp,List.mem_append];exact Or.inl hx)
   have bv:g∉blk (G sa qs.length sc):=fun hx=>by have:=aC g hx;omega
   have bu:db∉blk (G sa qs.length sc):=fun hx=>by have:=bn db (by simp only[Kind.fp,List.mem_append];exact Or.inl hx);omega
   replace Bg:=Bg.outs8 N bv;replace BY:=BY.outs8 N bu;have aS:Out [g] w5 wc:=⟨N.os.trans W.os,N.tape.trans W.tape,N.output.trans W.output,Nat.le_trans W.size N.size,fun x hx hn=>(N.block x (by omega) (fun e=>by have:=aC x e;omega)).trans (W.block x hx hn)⟩
   go_wp2
   refine ThenX.to ⟨Or.inr ⟨⟨_,by subst hP;exact⟨Bg,BY⟩⟩,rfl⟩,?_⟩;clear ar af aV ai au ay aO O;refine onX 7 1 rfl (by kernel_rfl) ?_
   go_wp2
   refine ThenX.to ⟨Or.inr ⟨⟨_,by subst hP;exact⟨Bg,BY⟩⟩,rfl⟩,?_⟩;refine onX 8 0 rfl (by kernel_rfl) ?_;have bL:=Bg.cell 3 _ rfl;have bM:=Bg.frozen 3
   go_wp2
   clear bL bM;refine ThenX.to ⟨Or.inl (by kernel_rfl),?_⟩;refine q31 (by kernel_rfl) ?_;have B9:Blk (wc.setCell ⟨g,3,none⟩ (G a9 (qs.length+1) c9)) g 56 #[G a1 q1.length k1,G b1 xs.length c1,G a3 q3.length k3,G a9 (qs.length+1) c9,G b2 ys.length c2]:=by
    have:=Bg.set 3 (G a9 (qs.length+1) c9);simpa using this
   have O9:=al.out (f wc g 3 (G a9 (qs.length+1) c9)) (fun x hx e=>by simp only[o]at e;have:=V x hx;omega);have U9:=aS.trans (f wc g 3 (G a9 (qs.length+1) c9));have bm:Hid ((qs++[(⟨G a7 c.length c7,c⟩:USQ)]).map USQ.e=(us.take (k+1)).map DeedQ.us):=ax.out _ rfl;have bo:Hid ((ussK.fp (G a9 (qs.length+1) c9) (qs++[(⟨G a7 c.length c7,c⟩:USQ)])).Nodup∧∀x∈ussK.fp (G a9 (qs.length+1) c9) (qs++[(⟨G a7 c.length c7,c⟩:USQ)]),w5.heap.size≤x):=⟨aB,V⟩
   have HR:Hid (_∧_∧_):=⟨B9,O9,U9⟩
   clear B9 O9 U9 Bg BY al hO aS W aR aQ hU ax HN aB V N aE aC ah bj o7 l7
   go_wp2
   go_roundw
   case rel=>exact⟨k+1,_,_,by omega,by go_num,HR.out.1,HR.out.2.1,bm,bo,HR.out.2.2⟩
   case measure=>simp[intOf];omega
  ·have bz:k=us.length:=by omega
   subst bz;have hE:=HE.out;rw[List.take_length]at hE;have bd:¬((us.length:Int)<(us.length:Int)):=by omega
   have av:=(Bv.below Z).outs8 hU (fun hx=>by simp only[o]at hx;omega);have bg:=HN.out.1;have T:=HN.out.2;have RF:Hid (∀u0 u1 u2 u3 u4:Value,repK.own (((((wr.setCell ⟨rc+1,0,none⟩ u0).setCell ⟨rc+1,1,none⟩ u1).setCell ⟨rc+1,2,none⟩ u2).setCell ⟨rc+1,3,none⟩ u3).setCell ⟨rc+1,4,none⟩ u4) (⟨G a1 q1.length k1,q1,G b1 xs.length c1,xs,G a3 q3.length k3,q3,G sa qs.length sc,qs,G b2 ys.length c2,ys⟩:RepQ)∧Below rc w (((((wr.setCell ⟨rc+1,0,none⟩ u0).setCell ⟨rc+1,1,none⟩ u1).setCell ⟨rc+1,2,none⟩ u2).setCell ⟨rc+1,3,none⟩ u3).setCell ⟨rc+1,4,none⟩ u4)):=fun u0 u1 u2 u3 u4=>by
    have hS:Out [rc+1] wr (((((wr.setCell ⟨rc+1,0,none⟩ u0).setCell ⟨rc+1,1,none⟩ u1).setCell ⟨rc+1,2,none⟩ u2).setCell ⟨rc+1,3,none⟩ u3).setCell ⟨rc+1,4,none⟩ u4):=((((f wr (rc+1) 0 u0).trans (f _ (rc+1) 1 u1)).trans (f _ (rc+1) 2 u2)).trans (f _ (rc+1) 3 u3)).trans (f _ (rc+1) 4 u4);have hA:Out [g,rc+1] w5 (((((wr.setCell ⟨rc+1,0,none⟩ u0).setCell ⟨rc+1,1,none⟩ u1).setCell ⟨rc+1,2,none⟩ u2).setCell ⟨rc+1,3,none⟩ u3).setCell ⟨rc+1,4,none⟩ u4):=(hU.mono (fun x hx=>by simp only[o]at hx;simp[hx])).trans (hS.mono (fun x hx=>by simp only[o]at hx;simp[hx]));have nn:∀x,X.heap.size≤x∧x≠g→x∉[g,rc+1]:=fun x hx hm=>by
     simp only[List.mem_cons,List.not_mem_nil,or_false]at hm;omega
    refine⟨⟨FO.od.out hA (fun x hx=>nn x (FO.lo x (l _ hx))),FO.ob.out hA (fun x hx=>by rw[z0q]at hx;exact nn x (FO.lo x (P _ (l _ hx)))),FO.ot.out hA (fun x hx=>nn x (FO.lo x (P _ (P _ (l _ hx))))),hO.out hS (fun x hx e=>by simp only[o]at e;have:=T x hx;have:=Z.size;omega),FO.on.out hA (fun x hx=>by rw[z0q]at hx;exact nn x (FO.lo x (P _ (P _ (P _ hx)))))⟩,?_⟩;have h1:=aa.trans (aT.mono (by omega));exact Out.keep h1 hS (by omega) (fun x hx=>by simp only[o]at hx;omega)
   have R1:Hid ((repK.foot (⟨G a1 q1.length k1,q1,G b1 xs.length c1,xs,G a3 q3.length k3,q3,G sa qs.length sc,qs,G b2 ys.length c2,ys⟩:RepQ)).Nodup∧∀x∈repK.foot (⟨G a1 q1.length k1,q1,G b1 xs.length c1,xs,G a3 q3.length k3,q3,G sa qs.length sc,qs,G b2 ys.length c2,ys⟩:RepQ),rc≤x):=by
    have hA:=List.nodup_append.1 FO.nd;have hB:=List.nodup_append.1 hA.2.1;have hC:=List.nodup_append.1 hB.2.1;have lA:=FO.od.lt;have lB:∀x∈blk (G b1 xs.length c1),x<w5.heap.size:=z0D FO.ob.1;have lC:=FO.ot.lt;have lD:∀x∈blk (G b2 ys.length c2),x<w5.heap.size:=z0D FO.on.1;have e1:itemK.fp (G b1 xs.length c1) xs=blk (G b1 xs.length c1):=z0q _ _;have e2:itemK.fp (G b2 ys.length c2) ys=blk (G b2 ys.length c2):=z0q _ _;show List.Nodup (txnK.fp (G a1 q1.length k1) q1++(itemK.fp (G b1 xs.length c1) xs++(txnK.fp (G a3 q3.length k3) q3++(ussK.fp (G sa qs.length sc) qs++itemK.fp (G b2 ys.length c2) ys))))∧∀x∈txnK.fp (G a1 q1.length k1) q1++(itemK.fp (G b1 xs.length c1) xs++(txnK.fp (G a3 q3.length k3) q3++(ussK.fp (G sa qs.length sc) qs++itemK.fp (G b2 ys.length c2) ys))),rc≤x;rw[e1,e2];refine⟨List.nodup_append.2 ⟨hA.1,List.nodup_append.2 ⟨hB.1,List.nodup_append.2 ⟨hC.1,List.nodup_append.2 ⟨bg,hC.2.1,?_⟩,?_⟩,?_⟩,?_⟩,?_⟩
    ·intro a ha b hb e;have:=T a ha;have:=lD b hb;omega
    ·intro a ha b hb e;rcases List.mem_append.1 hb with hb|hb
     ·have:=T b hb;have:=lC a ha;omega
     ·exact hC.2.2 a ha b hb e
    ·intro a ha b hb e;rcases List.mem_append.1 hb with hb|hb
     ·exact hB.2.2 a ha b (l _ hb) e
     rcases List.mem_append.1 hb with hb|hb
     ·have:=T b hb;have:=lB a ha;omega
     ·exact hB.2.2 a ha b (P _ hb) e
    ·intro a ha b hb e;rcases List.mem_append.1 hb with hb|hb
     ·exact hA.2.2 a ha b (l _ hb) e
     rcases List.mem_append.1 hb with hb|hb
     ·exact hA.2.2 a ha b (P _ (l _ hb)) e
     rcases List.mem_append.1 hb with hb|hb
     ·have:=T b hb;have:=lA a ha;omega
     ·exact hA.2.2 a ha b (P _ (P _ hb)) e
    ·intro x hx;have b4:=Z.size;rcases List.mem_append.1 hx with hx|hx
     ·have:=(FO.lo x (l _ hx)).1;omega
     rcases List.mem_append.1 hx with hx|hx
     ·have:=(FO.lo x (P _ (l _ hx))).1;omega
     rcases List.mem_append.1 hx with hx|hx
     ·have:=(FO.lo x (P _ (P _ (l _ hx)))).1;omega
     rcases List.mem_append.1 hx with hx|hx
     ·have:=T x hx;omega
     ·have:=(FO.lo x (P _ (P _ (P _ hx)))).1;omega
   have R2:Hid (RepQ.e (⟨G a1 q1.length k1,q1,G b1 xs.length c1,xs,G a3 q3.length k3,q3,G sa qs.length sc,qs,G b2 ys.length c2,ys⟩:RepQ)=mkR D E):=show _=_ by
    rw[aw.out];obtain⟨h1,h2,h3⟩:=HU.out;simp only[RepQ.e,e1,e3,h2,h3,hE,h1]
   clear HN HE bg T HU aw FO dU;obtain⟨r0,r1,r2,r3,r4⟩:=Bg.cel5;obtain⟨z0,z1,z2,z3,z4⟩:=av.cel5;obtain⟨g0,g1,g2,g3,g4⟩:=av.frz5;clear Bg av hO hU
   go_wp2
   exact bodyPost_ret (v:=.agg #[G a1 q1.length k1,G b1 xs.length c1,G a3 q3.length k3,G sa qs.length sc,G b2 ys.length c2]) (by simp[results,Tryz.results134,go_sem,z0,z1,z2,z3,z4]) rfl ⟨(⟨G a1 q1.length k1,q1,G b1 xs.length c1,xs,G a3 q3.length k3,q3,G sa qs.length sc,qs,G b2 ys.length c2,ys⟩:RepQ),rfl,R2.out,(RF.out _ _ _ _ _).1,R1.out.1,R1.out.2,(RF.out _ _ _ _ _).2⟩
theorem q4j{acc:List TxnD}{t:TxnD}(h:stpF acc t=0):t.F=0∧knw acc t=false:=by
 unfold stpF at h;by_cases h0:t.F=0
 ·rw[if_pos h0]at h;refine⟨h0,?_⟩
  cases hk:knw acc t with
  |false=>rfl
  |true=>rw[hk]at h;exact absurd h (by decide)
 ·rw[if_neg h0]at h;exact absurd h h0
theorem knw_false{acc:List TxnD}{t:TxnD}:knw acc t=false↔∀a∈acc,stF a t=false:=by
 unfold knw;rw[List.any_eq_false];simp
theorem z6d:∀ (r acc:List TxnD),z2z acc r=0↔(∀t∈r,t.F=0)∧r.Pairwise (fun a b=>stF a b=false)∧∀a∈acc,∀t∈r,stF a t=false
 |[],acc=>by simp[z2z]
 |x::r,acc=>by
  rw[z2z];constructor
  ·intro h;by_cases h0:stpF acc x=0
   ·rw[if_pos h0]at h;obtain⟨h1,h2⟩:=q4j h0;obtain⟨i1,i2,i3⟩:=(z6d r (acc++[x])).1 h;refine⟨fun t ht=>?_,List.pairwise_cons.2 ⟨fun t ht=>i3 x (by simp) t ht,i2⟩,fun a ha t ht=>?_⟩
    ·rcases List.mem_cons.1 ht with rfl|ht
     ·exact h1
     ·exact i1 t ht
    ·rcases List.mem_cons.1 ht with rfl|ht
     ·exact knw_false.1 h2 a ha
     ·exact i3 a (by simp[ha]) t ht
   ·rw[if_neg h0]at h;exact absurd h h0
  ·rintro⟨h1,h2,h3⟩;have hx:stpF acc x=0:=by
    unfold stpF;rw[if_pos (h1 x (by simp)),knw_false.2 (fun a ha=>h3 a ha x (by simp))];rfl
   rw[if_pos hx];obtain⟨p1,p2⟩:=List.pairwise_cons.1 h2;refine(z6d r (acc++[x])).2 ⟨fun t ht=>h1 t (List.mem_cons_of_mem _ ht),p2,fun a ha t ht=>?_⟩;rcases List.mem_append.1 ha with ha|ha
   ·exact h3 a ha t (List.mem_cons_of_mem _ ht)
   ·rw[List.mem_singleton.1 ha];exact p1 t ht
theorem q5F(ds:List TxnD):lstF ds=0↔ds.length≤40∧(∀t∈ds,t.F=0)∧ds.Pairwise (fun a b=>stF a b=false):=by
 unfold lstF;by_cases h:40<ds.length
 ·rw[if_pos h];constructor
  ·intro h;exact absurd h (by decide)
  ·intro h1;omega
 ·rw[if_neg h,z6d];constructor
  ·rintro⟨h1,h2,_⟩;exact⟨by omega,h1,h2⟩
  ·rintro⟨_,h1,h2⟩;exact⟨h1,h2,fun a ha=>by simp at ha⟩
theorem q3k{qs:List TxnQ}(h:∀t∈qs.map TxnQ.e,t.F=0):nmL TxnQ.n qs≤4*qs.length:=by
 induction qs with
 |nil=>simp[nmL]
 |cons q r ih=>
  have h1:(TxnQ.e q).F=0:=h _ (by simp);have h2:=(z3R h1).2.2.2.1.2;have h3:q.acts.length≤4:=h2;have:=ih (fun t ht=>h t (by simp only[List.map_cons,List.mem_cons];exact Or.inr ht));simp only[nmL,List.map_cons,List.sum_cons,List.length_cons,TxnQ.n]at this⊢;omega
def repF(r:RepE):Int:=if 16<r.done.length∨8<r.tent.length then 2 else if lstF (r.done++r.tent)=0 then(if sameRep (mkR r.done r.tent) r=true then 0 else 8)else lstF (r.done++r.tent)
theorem z7O{r:RepE}(h:16<r.done.length∨8<r.tent.length):repF r=2:=by unfold repF;rw[if_pos h]
theorem z7P{r:RepE}(h:¬(16<r.done.length∨8<r.tent.length))(h2:lstF (r.done++r.tent)≠0):repF r=lstF (r.done++r.tent):=by unfold repF;rw[if_neg h,if_neg h2]
theorem z7Q{r:RepE}(h:¬(16<r.done.length∨8<r.tent.length))(h2:lstF (r.done++r.tent)=0):repF r=if sameRep (mkR r.done r.tent) r=true then 0 else 8:=by unfold repF;rw[if_neg h,if_pos h2]
theorem z7R{r:RepE}(h:repF r=0):(r.done.length≤16∧r.tent.length≤8)∧lstF (r.done++r.tent)=0∧sameRep (mkR r.done r.tent) r=true:=by
 by_cases h1:16<r.done.length∨8<r.tent.length
 ·rw[z7O h1]at h;exact absurd h (by decide)
 ·by_cases h2:lstF (r.done++r.tent)=0
  ·rw[z7Q h1 h2]at h;refine⟨by omega,h2,?_⟩;split at h
   ·assumption
   ·exact absurd h (by decide)
  ·rw[z7P h1 h2]at h;exact absurd h h2
theorem q5G{ds:List TxnD}(h:lstF ds=0):∀t∈ds,t.F=0:=((q5F ds).1 h).2.1
theorem q4k{xs:List ItemD}{E:List TxnD}(hl:xs.length≤8)(g:Good xs)(hF:∀t∈E,t.F=0):∀u∈z6y xs E,u.length≤4:=by
 induction E generalizing xs with
 |nil=>intro u hu;simp[z6y,z0O]at hu
 |cons t r ih=>
  intro u hu;have ht:=hF t (by simp);simp only[z6y,z0O,List.map_cons,List.mem_cons]at hu;rcases hu with rfl|hu
  ·have hz:=z04 (show txnF t.id t.session t.seq t.acts=0 from ht);unfold z0Q;split
   ·have:=(z56 hl g hz.2 (by assumption)).1;omega
   ·simp
  ·have g2:=z1B hl g ht;exact ih g2.1 g2.2 (fun t' h'=>hF t' (List.mem_cons_of_mem _ h')) u hu
theorem z7S{p:RepQ}{D E:List TxnD}(h:p.e=mkR D E)(hD:∀t∈D,t.F=0)(hE:∀t∈E,t.F=0)(lD:D.length≤40)(lE:E.length≤40):p.n≤1000:=by
 simp only[RepQ.e,mkR,RepE.mk.injEq]at h;obtain⟨h0,h1,h2,h3,h4⟩:=h;have g0:=z1J (xs:=[]) (by simp) z4b hD;have g1:=z1J g0.1 g0.2 hE;have n0:=q3k (qs:=p.done) (by rw[h0];exact hD);have n2:=q3k (qs:=p.tent) (by rw[h2];exact hE);have l0:p.done.length=D.length:=by simpa using congrArg List.length h0
 have l2:p.tent.length=E.length:=by simpa using congrArg List.length h2
 have l3:p.undos.length=E.length:=by
  have:=congrArg List.length h3;simpa[z6y,z8X]using this
 have n3:nmL USQ.n p.undos≤4*p.undos.length:=by
  have hu:∀u∈p.undos,u.us.length≤4:=fun u hu=>by
   have:u.us∈z6y (allI [] D) E:=by rw[←h3];exact List.mem_map.2 ⟨u,hu,rfl⟩
   exact q4k g0.1 g0.2 hE _ this
  clear h3 l3;revert hu;generalize p.undos=U;intro hu;induction U with
  |nil=>simp[nmL]
  |cons u r ih=>
   have:=ih (fun v hv=>hu v (List.mem_cons_of_mem _ hv));have h4:=hu u (by simp);simp only[nmL,List.map_cons,List.sum_cons,List.length_cons,USQ.n]at this⊢;omega
 unfold RepQ.n;rw[h1,h4,l0,l2,l3];rw[l0]at n0;rw[l2]at n2;rw[l3]at n3;have:=g0.1;have:=g1.1;omega
end Go.Proofs.YtjjoahhnkpjolaaGreatDoor
