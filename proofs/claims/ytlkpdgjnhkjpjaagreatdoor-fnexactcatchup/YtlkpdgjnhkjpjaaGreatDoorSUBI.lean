import Derived.Test.YtlkpdgjnhkjpjaaGreatDoorSUBH
set_option linter.unusedVariables false
set_option linter.unusedSimpArgs false
set_option maxRecDepth 100000
set_option maxHeartbeats 16000000
namespace Go.Proofs.YtlkpdgjnhkjpjaaGreatDoor
open Go.RowKit Go.BigFrame
open List renaming mem_append_right->P,mem_append_left->s,mem_singleton->i
open Blk renaming new->o
open Out renaming setCell->Va
open IntKind renaming i64->Q
open Value renaming int->H,slice->G
open Go.Proofs.Tryz
theorem q3t{α:Type}{f:α→Nat}:∀ {l:List α} {p:α},p∈l→f p≤nmL f l
 |x::r,p,h=>by
  have e:nmL f (x::r)=f x+nmL f r:=by simp[nmL]
  rcases List.mem_cons.1 h with rfl|h
  ·omega
  ·have:=q3t (f:=f) h;omega
theorem z4Q(p:RepQ)(w:World)(h:repK.own w p)(hl:p.n≤1048576)(ag:(∀t∈p.done,0<t.acts.length)∧∀t∈p.tent,0<t.acts.length):
  Calls Tryz.prog 154 #[.agg #[p.vd,p.vb,p.vt,p.vu,p.vn]] w fun e w'=>∃p':RepQ,e=.returned (.agg #[p'.vd,p'.vb,p'.vt,p'.vu,p'.vn])∧p'.e=p.e∧repK.own w' p'∧(repK.foot p').Nodup∧(∀k∈repK.foot p',w.heap.size≤k)∧Below w.heap.size w w':=by
 obtain⟨vd,ds,vb,xs,vt,ts,vu,us,vn,ys⟩:=p;obtain⟨na,nc,rfl⟩:∃a c,vd=G a ds.length c:=h.1.shape;obtain⟨ia,ic,rfl⟩:∃a c,vb=G a xs.length c:=h.2.1.shape;obtain⟨ua,uc,rfl⟩:∃a c,vt=G a ts.length c:=h.2.2.1.shape;obtain⟨la,lc,rfl⟩:∃a c,vu=G a us.length c:=h.2.2.2.1.shape;obtain⟨ja,jc,rfl⟩:∃a c,vn=G a ys.length c:=h.2.2.2.2.shape;dsimp only[RepQ.n]at hl;dsimp only at ag;obtain⟨o1,o2,o3,o4,o5⟩:txnK.Own w (G na ds.length nc) ds∧itemK.Own w (G ia xs.length ic) xs∧txnK.Own w (G ua ts.length uc) ts∧ussK.Own w (G la us.length lc) us∧itemK.Own w (G ja ys.length jc) ys:=h;have nI:=o2.niceV _ _ _ rfl;have nJ:=o5.niceV _ _ _ rfl;have ba:∀p∈us,z15 p.va:=fun p hp=>(show undoK.Own w p.va p.us from o4.2 p hp).niceV
 have dN:=o1.at;have jN:=o2.at;have dT:=o3.at;have dU:=o4.at;have jU:=o5.at;have bi:∀p∈us,p.us.length≤1048576:=fun p hp=>by
  have:=q3t (f:=USQ.n) hp;have e:USQ.n p=p.us.length:=rfl;omega
 have bz:us.length≤1048576:=by omega
 have HU:Hid ((us.map USQ.e=us.map USQ.e)):=show _=_ from rfl
 obtain⟨aW,aX⟩:=ag;clear o1 o2 o3 o4 o5 HU;have T:Below w.heap.size w ((w.alloc (.cells #[G na ds.length nc,G ia xs.length ic,G ua ts.length uc,G la us.length lc,G ja ys.length jc] 29)).alloc (.cells #[G none 0 0,G none 0 0,G none 0 0,G none 0 0,G none 0 0] 29)):=by go_grown
 have B:=(o w 29 #[G na ds.length nc,G ia xs.length ic,G ua ts.length uc,G la us.length lc,G ja ys.length jc]).below (w':=(w.alloc (.cells #[G na ds.length nc,G ia xs.length ic,G ua ts.length uc,G la us.length lc,G ja ys.length jc] 29)).alloc (.cells #[G none 0 0,G none 0 0,G none 0 0,G none 0 0,G none 0 0] 29)) (by go_grown);have Bv:=o (w.alloc (.cells #[G na ds.length nc,G ia xs.length ic,G ua ts.length uc,G la us.length lc,G ja ys.length jc] 29)) 29 #[G none 0 0,G none 0 0,G none 0 0,G none 0 0,G none 0 0];rw[World.size_alloc]at Bv;replace dN:=dN.below T;replace dT:=dT.below T;replace dU:=dU.below T;replace jN:=jN.below T;replace jU:=jU.below T;have bQ:w.heap.size+2≤((w.alloc (.cells #[G na ds.length nc,G ia xs.length ic,G ua ts.length uc,G la us.length lc,G ja ys.length jc] 29)).alloc (.cells #[G none 0 0,G none 0 0,G none 0 0,G none 0 0,G none 0 0] 29)).heap.size:=by simp only[World.size_alloc];omega
 go_enter func154,ntmps154
 go_wp2_with fail
 generalize (w.alloc (.cells #[G na ds.length nc,G ia xs.length ic,G ua ts.length uc,G la us.length lc,G ja ys.length jc] 29)).alloc (.cells #[G none 0 0,G none 0 0,G none 0 0,G none 0 0,G none 0 0] 29)=X at*;generalize bM:w.heap.size=rc at*;obtain⟨f0,f1,f2,f3,f4⟩:=B.lts5;have aJ:=fun(w':World) (hb:Below X.heap.size X w')=>z1d (G na ds.length nc) ds w' (dN.below hb) aW (by omega)
 have aK:=fun(w':World) (hb:Below X.heap.size X w')=>z1B ia ic xs w' (jN.below hb) nI (by omega)
 have aL:=fun(w':World) (hb:Below X.heap.size X w')=>z1d (G ua ts.length uc) ts w' (dT.below hb) aX (by omega)
 have aM:=fun(w':World) (hb:Below X.heap.size X w')=>z1B ja jc ys w' (jU.below hb) nJ (by omega)
 refine z0X [some 6,some 7,some 8,some 9,some 10,some 11,some 12,some 13,some 14,some 15,some 16,some 17,some 18,some 3] (fun vs w'=>∃ (a1:Option Addr) (k1:Nat) (b1:Option Addr) (c1:Nat) (a3:Option Addr) (k3:Nat) (b2:Option Addr) (c2 g:Nat) (q1 q3:List TxnQ),vs=[.pointer (some ⟨rc,0,none⟩),G na ds.length nc,G a1 q1.length k1,.pointer (some ⟨rc,1,none⟩),G ia xs.length ic,G b1 xs.length c1,.pointer (some ⟨rc,2,none⟩),G ua ts.length uc,G a3 q3.length k3,.pointer (some ⟨rc,4,none⟩),G ja ys.length jc,G b2 ys.length c2,.agg #[G a1 q1.length k1,G b1 xs.length c1,G a3 q3.length k3,G none 0 0,G b2 ys.length c2],.pointer (some ⟨g,0,none⟩)]∧X.heap.size≤g∧Blk w' g 29 #[G a1 q1.length k1,G b1 xs.length c1,G a3 q3.length k3,G none 0 0,G b2 ys.length c2]∧q1.map TxnQ.e=ds.map TxnQ.e∧q3.map TxnQ.e=ts.map TxnQ.e∧Four X w' g (G a1 q1.length k1) (G b1 xs.length c1) (G a3 q3.length k3) (G b2 ys.length c2) q1 q3 xs ys∧Below X.heap.size X w') ?_ ?_
 ·have hW:Below X.heap.size X X.drew:=(Below.refl _ _).drew;have bL:Nonempty (Lat X):=⟨⟨X,Below.refl _ _⟩⟩
  refine z0a (S:=fun w'=>∃u:Lat X,w'=u.val) (by kernel_rfl) ?_;refine sgr [(0,2),(3,2),(6,2),(9,2)] 7 (by kernel_rfl) ⟨⟨_,hW⟩,rfl⟩ ?_;simp only[pkE];repeat go_big_quiet_step (fail)
  refine wpQuiet_nil ?_;clear f0 f1 f2 f3 f4;generalize X.drew=x at hW⊢;refine twa 2 13 6 (by kernel_rfl) ?_ ?_
  rotate_left
  focus
   refine z00 13 _ rfl ?_;have Bz:=o x 29 #[G none 0 0,G none 0 0,G none 0 0,G none 0 0,G none 0 0];have ai:X.heap.size≤x.heap.size:=hW.size;have d:Below x.heap.size x (x.alloc (.cells #[G none 0 0,G none 0 0,G none 0 0,G none 0 0,G none 0 0] 29)):=by go_grown
   replace hW:=hW.trans (d.mono hW.size);clear d
   go_wp2
   refine ThenGo.to ⟨⟨⟨_,hW⟩,rfl⟩,?_⟩;generalize C:x.heap.size=g at*;generalize x.alloc (.cells #[G none 0 0,G none 0 0,G none 0 0,G none 0 0,G none 0 0] 29)=x at*;clear C
  all_goals first|refine cla 2 (some 8) 73 #[G na ds.length nc] 5 (by kernel_rfl) ?_|refine opc 2 (some 8) 73 #[G na ds.length nc] (by kernel_rfl) ?_
  all_goals
   refine(aJ _ hW).mono ?_;rintro e x ⟨v1,q1,rfl,e1,o1,n1,g1,hb⟩;obtain⟨a1,k1,rfl⟩:=o1.shape;try have A:∀k∈txnK.fp (G a1 q1.length k1) q1,k≠g:=fun k hk=>by have:=g1 k hk;have:=Bz.lt;omega
   try replace Bz:=Bz.below hb
   obtain⟨m1,M1,bp,br,bA,aa,z⟩:∃m M,(∀k∈txnK.fp (G a1 q1.length k1) q1,m≤k)∧X.heap.size≤m∧m≤M∧(∀k∈txnK.fp (G a1 q1.length k1) q1,k<M)∧M≤x.heap.size:=⟨_,x.heap.size,g1,hW.size,hb.size,fun k hk=>o1.lt k hk,Nat.le_refl _⟩
   replace hW:=hW.trans (hb.mono hW.size);clear hb g1;refine⟨_,rfl,⟨⟨_,hW⟩,rfl⟩,?_⟩;simp only[Act.put,pgE,pjE]
  rotate_right
  refine twa 5 13 5 (by kernel_rfl) ?_ ?_
  rotate_left
  focus
   refine z00 13 _ rfl ?_;have Bz:=o x 29 #[G none 0 0,G none 0 0,G none 0 0,G none 0 0,G none 0 0];have ai:X.heap.size≤x.heap.size:=hW.size;have d:Below x.heap.size x (x.alloc (.cells #[G none 0 0,G none 0 0,G none 0 0,G none 0 0,G none 0 0] 29)):=by go_grown
   have A:∀k∈txnK.fp (G a1 q1.length k1) q1,k≠x.heap.size:=fun k hk=>by have:=aa k hk;omega
   replace o1:=o1.below d;replace z:=Nat.le_trans z d.size;replace hW:=hW.trans (d.mono hW.size);clear d
   go_wp2
   refine ThenGo.to ⟨⟨⟨_,hW⟩,rfl⟩,?_⟩;generalize C:x.heap.size=g at*;generalize x.alloc (.cells #[G none 0 0,G none 0 0,G none 0 0,G none 0 0,G none 0 0] 29)=x at*;clear C
  all_goals first|refine cla 5 (some 11) 165 #[G ia xs.length ic] 4 (by kernel_rfl) ?_|refine opc 5 (some 11) 165 #[G ia xs.length ic] (by kernel_rfl) ?_
  all_goals
   refine(aK _ hW).mono ?_;rintro e x ⟨b1,c1,rfl,o2,g2,hb⟩;try have D:∀k∈blk (G b1 xs.length c1),k≠g:=fun k hk=>by have:=g2 k hk;have:=Bz.lt;omega
   try replace Bz:=Bz.below hb
   obtain⟨m2,M2,aZ,bs,bv,bB,ae,z⟩:∃m M,(∀k∈blk (G b1 xs.length c1),m≤k)∧X.heap.size≤m∧M1≤m∧m≤M∧(∀k∈blk (G b1 xs.length c1),k<M)∧M≤x.heap.size:=⟨_,x.heap.size,g2,hW.size,z,hb.size,fun k hk=>z0z o2.1 k hk,Nat.le_refl _⟩
   replace o1:=o1.below hb;replace hW:=hW.trans (hb.mono hW.size);clear hb g2;refine⟨_,rfl,⟨⟨_,hW⟩,rfl⟩,?_⟩;simp only[Act.put,pgE,pjE]
  rotate_right
  refine twa 8 13 4 (by kernel_rfl) ?_ ?_
  rotate_left
  focus
   refine z00 13 _ rfl ?_;have Bz:=o x 29 #[G none 0 0,G none 0 0,G none 0 0,G none 0 0,G none 0 0];have ai:X.heap.size≤x.heap.size:=hW.size;have d:Below x.heap.size x (x.alloc (.cells #[G none 0 0,G none 0 0,G none 0 0,G none 0 0,G none 0 0] 29)):=by go_grown
   have A:∀k∈txnK.fp (G a1 q1.length k1) q1,k≠x.heap.size:=fun k hk=>by have:=aa k hk;omega
   replace o1:=o1.below d;have D:∀k∈blk (G b1 xs.length c1),k≠x.heap.size:=fun k hk=>by have:=ae k hk;omega
   replace o2:=o2.below d;replace z:=Nat.le_trans z d.size;replace hW:=hW.trans (d.mono hW.size);clear d
   go_wp2
   refine ThenGo.to ⟨⟨⟨_,hW⟩,rfl⟩,?_⟩;generalize C:x.heap.size=g at*;generalize x.alloc (.cells #[G none 0 0,G none 0 0,G none 0 0,G none 0 0,G none 0 0] 29)=x at*;clear C
  all_goals first|refine cla 8 (some 14) 73 #[G ua ts.length uc] 3 (by kernel_rfl) ?_|refine opc 8 (some 14) 73 #[G ua ts.length uc] (by kernel_rfl) ?_
  all_goals
   refine(aL _ hW).mono ?_;rintro e x ⟨v3,q3,rfl,e3,o3,n3,g3,hb⟩;obtain⟨a3,k3,rfl⟩:=o3.shape;try have J:∀k∈txnK.fp (G a3 q3.length k3) q3,k≠g:=fun k hk=>by have:=g3 k hk;have:=Bz.lt;omega
   try replace Bz:=Bz.below hb
   obtain⟨m3,M3,av,bt,bw,bC,ap,z⟩:∃m M,(∀k∈txnK.fp (G a3 q3.length k3) q3,m≤k)∧X.heap.size≤m∧M2≤m∧m≤M∧(∀k∈txnK.fp (G a3 q3.length k3) q3,k<M)∧M≤x.heap.size:=⟨_,x.heap.size,g3,hW.size,z,hb.size,fun k hk=>o3.lt k hk,Nat.le_refl _⟩
   replace o1:=o1.below hb;replace o2:=o2.below hb;replace hW:=hW.trans (hb.mono hW.size);clear hb g3;refine⟨_,rfl,⟨⟨_,hW⟩,rfl⟩,?_⟩;simp only[Act.put,pgE,pjE]
  rotate_right
  refine twa 11 13 3 (by kernel_rfl) ?_ ?_
  rotate_left
  focus
   refine z00 13 _ rfl ?_;have Bz:=o x 29 #[G none 0 0,G none 0 0,G none 0 0,G none 0 0,G none 0 0];have ai:X.heap.size≤x.heap.size:=hW.size;have d:Below x.heap.size x (x.alloc (.cells #[G none 0 0,G none 0 0,G none 0 0,G none 0 0,G none 0 0] 29)):=by go_grown
   have A:∀k∈txnK.fp (G a1 q1.length k1) q1,k≠x.heap.size:=fun k hk=>by have:=aa k hk;omega
   replace o1:=o1.below d;have D:∀k∈blk (G b1 xs.length c1),k≠x.heap.size:=fun k hk=>by have:=ae k hk;omega
   replace o2:=o2.below d;have J:∀k∈txnK.fp (G a3 q3.length k3) q3,k≠x.heap.size:=fun k hk=>by have:=ap k hk;omega
   replace o3:=o3.below d;replace z:=Nat.le_trans z d.size;replace hW:=hW.trans (d.mono hW.size);clear d
   go_wp2
   refine ThenGo.to ⟨⟨⟨_,hW⟩,rfl⟩,?_⟩;generalize C:x.heap.size=g at*;generalize x.alloc (.cells #[G none 0 0,G none 0 0,G none 0 0,G none 0 0,G none 0 0] 29)=x at*;clear C
  all_goals first|refine cla 11 (some 17) 165 #[G ja ys.length jc] 2 (by kernel_rfl) ?_|refine opc 11 (some 17) 165 #[G ja ys.length jc] (by kernel_rfl) ?_
  all_goals
   refine(aM _ hW).mono ?_;rintro e x ⟨b2,c2,rfl,o4,g4,hb⟩;try have V:∀k∈blk (G b2 ys.length c2),k≠g:=fun k hk=>by have:=g4 k hk;have:=Bz.lt;omega
   try replace Bz:=Bz.below hb
   obtain⟨m4,M4,aj,bu,bx,bD,bc,z⟩:∃m M,(∀k∈blk (G b2 ys.length c2),m≤k)∧X.heap.size≤m∧M3≤m∧m≤M∧(∀k∈blk (G b2 ys.length c2),k<M)∧M≤x.heap.size:=⟨_,x.heap.size,g4,hW.size,z,hb.size,fun k hk=>z0z o4.1 k hk,Nat.le_refl _⟩
   replace o1:=o1.below hb;replace o2:=o2.below hb;replace o3:=o3.below hb;replace hW:=hW.trans (hb.mono hW.size);clear hb g4;refine⟨_,rfl,⟨⟨_,hW⟩,rfl⟩,?_⟩;simp only[Act.put,pgE,pjE]
  rotate_right
  focus
   refine sgr [(12,1)] 2 (by kernel_rfl) ⟨⟨_,hW⟩,rfl⟩ ?_;simp only[pkE];repeat go_big_quiet_step (fail)
   refine wpQuiet_nil ?_;refine ona 13 1 rfl (by kernel_rfl) ?_;have Bz:=o x 29 #[G none 0 0,G none 0 0,G none 0 0,G none 0 0,G none 0 0];have ai:X.heap.size≤x.heap.size:=hW.size;have d:Below x.heap.size x (x.alloc (.cells #[G none 0 0,G none 0 0,G none 0 0,G none 0 0,G none 0 0] 29)):=by go_grown
   have A:∀k∈txnK.fp (G a1 q1.length k1) q1,k≠x.heap.size:=fun k hk=>by have:=aa k hk;omega
   replace o1:=o1.below d;have D:∀k∈blk (G b1 xs.length c1),k≠x.heap.size:=fun k hk=>by have:=ae k hk;omega
   replace o2:=o2.below d;have J:∀k∈txnK.fp (G a3 q3.length k3) q3,k≠x.heap.size:=fun k hk=>by have:=ap k hk;omega
   replace o3:=o3.below d;have V:∀k∈blk (G b2 ys.length c2),k≠x.heap.size:=fun k hk=>by have:=bc k hk;omega
   replace o4:=o4.below d;replace z:=Nat.le_trans z d.size;replace hW:=hW.trans (d.mono hW.size);clear d
   go_wp2
   refine ThenGo.to ⟨⟨⟨_,hW⟩,rfl⟩,?_⟩;generalize C:x.heap.size=g at*;generalize x.alloc (.cells #[G none 0 0,G none 0 0,G none 0 0,G none 0 0,G none 0 0] 29)=x at*;clear C
  iterate 4
   rotate_left
   focus
    refine sgr [(12,1)] 1 (by kernel_rfl) ⟨⟨_,hW⟩,rfl⟩ ?_;simp only[pkE];repeat go_big_quiet_step (fail)
    refine wpQuiet_nil ?_
  all_goals
   refine ona 14 0 rfl (by kernel_rfl) ?_;have aO:X.heap.size≤g:=by omega
   have Rz:=Bz.row #[G a1 q1.length k1,G b1 xs.length c1,G a3 q3.length k3,G none 0 0,G b2 ys.length c2];have z1:=o1.out (z0L _ g #[G a1 q1.length k1,G b1 xs.length c1,G a3 q3.length k3,G none 0 0,G b2 ys.length c2]) (fun k hk=>by simp only[i];exact A k hk);have z2:=o2.out (z0L _ g #[G a1 q1.length k1,G b1 xs.length c1,G a3 q3.length k3,G none 0 0,G b2 ys.length c2]) (fun k hk=>by rw[z0p]at hk;simp only[i];exact D k hk);have z3:=o3.out (z0L _ g #[G a1 q1.length k1,G b1 xs.length c1,G a3 q3.length k3,G none 0 0,G b2 ys.length c2]) (fun k hk=>by simp only[i];exact J k hk);have z4:=o4.out (z0L _ g #[G a1 q1.length k1,G b1 xs.length c1,G a3 q3.length k3,G none 0 0,G b2 ys.length c2]) (fun k hk=>by rw[z0p]at hk;simp only[i];exact V k hk);replace hW:=z0j hW aO #[G a1 q1.length k1,G b1 xs.length c1,G a3 q3.length k3,G none 0 0,G b2 ys.length c2];have aP:∀k∈txnK.fp (G a1 q1.length k1) q1,k<m2:=fun k hk=>by have:=aa k hk;omega
   have aQ:∀k∈blk (G b1 xs.length c1),k<m3:=fun k hk=>by have:=ae k hk;omega
   have aR:∀k∈txnK.fp (G a3 q3.length k3) q3,k<m4:=fun k hk=>by have:=ap k hk;omega
   have FO:Four X _ g (G a1 q1.length k1) (G b1 xs.length c1) (G a3 q3.length k3) (G b2 ys.length c2) q1 q3 xs ys:=⟨z1,z2,z3,z4,List.nodup_append.2 ⟨n1,List.nodup_append.2 ⟨z0t _,List.nodup_append.2 ⟨n3,z0t _,z3l (m:=m4) aR aj⟩,z3l (m:=m3) aQ (fun k hk=>by rcases List.mem_append.1 hk with hk | hk <;> first | (have:=av k hk;omega) | (have:=aj k hk;omega))⟩,z3l (m:=m2) aP (fun k hk=>by rcases List.mem_append.1 hk with hk | hk <;> first | (have:=aZ k hk;omega) | (rcases List.mem_append.1 hk with hk | hk <;> first | (have:=av k hk;omega) | (have:=aj k hk;omega)))⟩,fun k hk=>by
    rcases List.mem_append.1 hk with hk|hk
    ·exact⟨by have:=bp k hk;omega,A k hk⟩
    rcases List.mem_append.1 hk with hk|hk
    ·exact⟨by have:=aZ k hk;omega,D k hk⟩
    rcases List.mem_append.1 hk with hk|hk
    ·exact⟨by have:=av k hk;omega,J k hk⟩
    ·exact ⟨by have:=aj k hk;omega,V k hk⟩⟩
   refine z0s (by kernel_rfl) 29 _ _ rfl _ #[G a1 q1.length k1,G b1 xs.length c1,G a3 q3.length k3,G none 0 0,G b2 ys.length c2] rfl rfl 29 _ Bz q3a rfl (by simp[Value.oneCell']) ?_;refine ThenGo.to ⟨⟨⟨_,hW⟩,rfl⟩,?_⟩;refine z0e (by kernel_rfl) ?_;refine⟨rfl,_,⟨a1,k1,b1,c1,a3,k3,b2,c2,g,q1,q3,rfl,aO,Rz,e1,e3,FO,hW⟩,?_⟩;simp only[z1a,Act.put,pgE,pjE];try rfl
 rintro vs w5 ⟨a1,k1,b1,c1,a3,k3,b2,c2,g,q1,q3,rfl,bI,Bg,e1,e3,FO,O⟩;simp only[z1a,Act.put,pjE];clear f0 f1 f2 f3 f4 aJ aK aL aM dN dT jN jU nI nJ;have bJ:=Bg.lt;have az:=(B.below O)
 have x2:=az.cell 3 _ rfl;have bK:(us.length:Int)≤1048576:=by omega
 obtain⟨aT,aU⟩:=Kind.own_nil (K:=ussK) w5;have ax:Hid ((ussK.fp (G none 0 0) ([]:List USQ)).Nodup∧∀k∈ussK.fp (G none 0 0) ([]:List USQ),w5.heap.size≤k):=by
  rw[aU];exact⟨by simp,by simp⟩
 clear aU
 go_wp2
 clear x2 az;go_loopw[22] (fun j wr=>∃ (k:Nat) (vu:Value) (qs:List USQ),k≤us.length∧j=H Q k∧Blk wr g 29 #[G a1 q1.length k1,G b1 xs.length c1,G a3 q3.length k3,vu,G b2 ys.length c2]∧ussK.Own wr vu qs∧Hid (qs.map USQ.e=(us.take k).map USQ.e)∧Hid ((ussK.fp vu qs).Nodup∧∀x∈ussK.fp vu qs,w5.heap.size≤x)∧Out [g] w5 wr) (fun j _=>us.length-(intOf j).toNat)
 case atStart=>exact⟨0,_,[],Nat.zero_le _,rfl,Bg,aT,(rfl:_=_),ax,Out.refl _ _⟩
 case round=>
  clear ax aT Bg;obtain⟨k,vu,qs,hk,rfl,Bg,hO,HE,HN,hU⟩:=hrel;obtain⟨sa,sc,rfl⟩:=hO.shape;have aG:Below X.heap.size X wr:=Out.keep O hU O.size (fun x hx=>by simp only[i]at hx;omega);have bN:=hU.size;have ay:Hid (qs.length=k):=by
   have:=congrArg List.length HE.out;rw[List.length_map,List.length_map,List.length_take]at this;show qs.length=k;omega
  by_cases af:k<us.length
  ·obtain⟨b,bq,rfl,bH,aN,bh⟩:=(dU.below aG).cell (by decide) k af;have c0:wr.cell? ⟨b,bq+k*1+0,none⟩=some us[k].va:=aN 0 _ rfl;rw[Nat.mul_one,Nat.add_zero]at c0;have aY:=bi _ (List.getElem_mem af);have bj:=ba _ (List.getElem_mem af);have an:Hid (∀p':USQ,p'.us=USQ.us us[k]→(qs++[p']).map USQ.e=(us.take (k+1)).map USQ.e):=fun p' bg=>by
    rw[List.take_succ_eq_append_getElem af,List.map_append,List.map_append,HE.out,List.map_singleton,List.map_singleton];show _++[p'.us]=_++[USQ.us us[k]]
    rw[bg]
   have aS:(k:Int)<(us.length:Int):=by omega
   clear aN HE;generalize us[k]=p at*;obtain⟨lv,y⟩:=p;have au:undoK.At wr lv y:=bh;obtain⟨ta,tc,rfl⟩:=au.shape;have bf:=bj _ _ _ rfl;dsimp only at c0 an aY;have aD:=hU;have bE:=hO.lt
   go_wp2_with fail
   clear c0;generalize bG:wr=Y at*;generalize hP:(fun u:World=>Blk u g 29 #[G a1 q1.length k1,G b1 xs.length c1,G a3 q3.length k3,G sa qs.length sc,G b2 ys.length c2])=PP;have aA:PP Y:=by subst hP;exact Bg
   have a8:∀u:KeepP PP,u.val.cell? ⟨g,3,none⟩=some (G sa qs.length sc):=fun u=>by have:=u.isP;subst hP;exact this.cell 3 _ rfl
   have ag:Nonempty (KeepP PP):=⟨⟨Y,aA⟩⟩
   refine z5o (S:=fun w'=>∃u:KeepP PP,w'=u.val) (R:=fun _ _=>False) 7 (by kernel_rfl) (fun _ _ _ _ h=>h.elim) ?_;have aC:PP Y.drew:=by subst hP;exact Bg
   refine sgX [(0,3)] 5 (by kernel_rfl) ⟨⟨Y.drew,aC⟩,rfl⟩ ?_;simp only[pkE];repeat go_big_quiet_step (fail)
   refine wpQuiet_nil ?_;clear a8 ag aA;have hW:Below Y.heap.size Y Y.drew:=(Below.refl _ _).drew;refine clX 3 (some 29) 167 #[G ta y.length tc] 4 (by kernel_rfl) rfl ?_;refine(z3p ta tc y _ (au.below hW) bf aY).mono ?_;rintro e w7 ⟨a7,c7,rfl,o7,l7,aI⟩;have hD:=hW.size;replace hW:=hW.trans (aI.mono hW.size);replace Bg:=Bg.below hW;have aw:=hO.lt;replace hO:=hO.below hW;have aE:=aD.trans (Out.of_below (F:=[g]) hW);have bO:=hW.size;clear aI aC;refine Or.inl ⟨_,rfl,⟨⟨_,by subst hP;exact Bg⟩,rfl⟩,?_⟩;simp only[Act.put,pgE,pjE];refine onX 4 3 rfl (by kernel_rfl) ?_;have U:Below w7.heap.size w7 (w7.alloc (.cells #[G a7 y.length c7] 160)):=by go_grown
   have al:∀j u,[Value.slice a7 y.length c7][j]?=some u→(w7.alloc (.cells #[G a7 y.length c7] 160)).cell? ((⟨w7.heap.size,0,none⟩:Addr).add j)=some u:=by
    intro j u hj;match j,hj with|0,hj=>simp at hj;subst hj;simp[Addr.add]
   go_wp2
   replace Bg:=Bg.below U;have ao:=hO.below U;have aB:ussK.own (w7.alloc (.cells #[G a7 y.length c7] 160)) (⟨G a7 y.length c7,y⟩:USQ):=o7.below U;have N:=aE.trans (Out.of_below (F:=[g]) U);have bP:=U.size;refine ThenX.to ⟨Or.inr ⟨⟨_,by subst hP;exact Bg⟩,rfl⟩,?_⟩;generalize w7.alloc (.cells #[G a7 y.length c7] 160)=WA at*;have ab:=ao.1;obtain⟨i0,hi,bk,bl,bm⟩:=info_parts z2P;refine onX 5 2 rfl (by kernel_rfl) ?_;refine wpList_append_own_at _ rfl _ _ 27 rfl 0 160 i0 (G none 0 0) 1 24 Tryz.underlying27 hi bk bl bm rfl (by decide) _ qs.length (ussK.row qs) rfl ab ⟨w7.heap.size,0,none⟩ 1 1 [G a7 y.length c7] rfl rfl al ?c2 ?c3 ?c4 ?c5 ?_
   case c2=>intro u hu;simp at hu;subst hu;rfl
   case c3=>have:=ay.out;unfold maxLen;omega
   case c4=>have:=ay.out;omega
   case c5=>omega
   intro v' wc ak Z _ aH;have W:∀x∈ussK.foot (⟨G a7 y.length c7,y⟩:USQ),Y.heap.size≤x:=fun x hx=>by
    have ah:x∈undoK.fp (G a7 y.length c7) y:=hx;rw[z0G]at ah;have:=l7 x ah;omega
   obtain⟨ad,aq,L,I⟩:=ao.snoc HN.out.1 HN.out.2 aB (by show(undoK.fp _ _).Nodup;rw[z0G];exact z0t _) (fun x hx ah=>by have:=aw x ah;have:=W x hx;omega) (fun x hx=>by have:=W x hx;omega) (by omega) ak Z aH;obtain⟨a9,c9,rfl⟩:=ad.shape;have be:(qs++[(⟨G a7 y.length c7,y⟩:USQ)]).length=qs.length+1:=by simp
   rw[be]at ad aq L;have ar:∀x∈blk (G sa qs.length sc),w5.heap.size≤x:=fun x hx=>HN.out.2 x (by simp only[Kind.fp,List.mem_append];exact Or.inl hx)
   have bb:g∉blk (G sa qs.length sc):=fun hx=>by have:=ar g hx;omega
   replace Bg:=Bg.outs8 I bb;have aF:Out [g] w5 wc:=⟨I.os.trans N.os,I.tape.trans N.tape,I.output.trans N.output,Nat.le_trans N.size I.size,fun x hx hn=>(I.block x (by omega) (fun e=>by have:=ar x e;omega)).trans (N.block x hx hn)⟩
   go_wp2
   refine ThenX.to ⟨Or.inr ⟨⟨_,by subst hP;exact Bg⟩,rfl⟩,?_⟩;clear ak Z aH ab al ao aB U;refine onX 6 1 rfl (by kernel_rfl) ?_
   go_wp2
   refine ThenX.to ⟨Or.inr ⟨⟨_,by subst hP;exact Bg⟩,rfl⟩,?_⟩;refine onX 7 0 rfl (by kernel_rfl) ?_;have bn:=Bg.cell 3 _ rfl;have bo:=Bg.frozen 3
   go_wp2
   clear bn bo;refine ThenX.to ⟨Or.inl (by kernel_rfl),?_⟩;refine q44 (by kernel_rfl) ?_;have B9:Blk (wc.setCell ⟨g,3,none⟩ (G a9 (qs.length+1) c9)) g 29 #[G a1 q1.length k1,G b1 xs.length c1,G a3 q3.length k3,G a9 (qs.length+1) c9,G b2 ys.length c2]:=by
    have:=Bg.set 3 (G a9 (qs.length+1) c9);simpa using this
   have O9:=ad.out (Va wc g 3 (G a9 (qs.length+1) c9)) (fun x hx e=>by simp only[i]at e;have:=L x hx;omega);have U9:=aF.trans (Va wc g 3 (G a9 (qs.length+1) c9));have a2:Hid ((qs++[(⟨G a7 y.length c7,y⟩:USQ)]).map USQ.e=(us.take (k+1)).map USQ.e):=an.out _ rfl;have a6:Hid ((ussK.fp (G a9 (qs.length+1) c9) (qs++[(⟨G a7 y.length c7,y⟩:USQ)])).Nodup∧∀x∈ussK.fp (G a9 (qs.length+1) c9) (qs++[(⟨G a7 y.length c7,y⟩:USQ)]),w5.heap.size≤x):=⟨aq,L⟩
   have HR:Hid (_∧_∧_):=⟨B9,O9,U9⟩
   clear B9 O9 U9 Bg ad hO aF N aE aD an HN aq L I aw ar au o7 l7
   go_wp2
   go_roundw
   case rel=>exact⟨k+1,_,_,by omega,by go_num,HR.out.1,HR.out.2.1,a2,a6,HR.out.2.2⟩
   case measure=>simp[intOf];omega
  ·have bd:k=us.length:=by omega
   subst bd;have hE:=HE.out;rw[List.take_length]at hE;have aS:¬((us.length:Int)<(us.length:Int)):=by omega
   have am:=(Bv.below O).outs8 hU (fun hx=>by simp only[i]at hx;omega);have aV:=HN.out.1;have E:=HN.out.2;have RF:Hid (∀u0 u1 u2 u3 u4:Value,repK.own (((((wr.setCell ⟨rc+1,0,none⟩ u0).setCell ⟨rc+1,1,none⟩ u1).setCell ⟨rc+1,2,none⟩ u2).setCell ⟨rc+1,3,none⟩ u3).setCell ⟨rc+1,4,none⟩ u4) (⟨G a1 q1.length k1,q1,G b1 xs.length c1,xs,G a3 q3.length k3,q3,G sa qs.length sc,qs,G b2 ys.length c2,ys⟩:RepQ)∧Below rc w (((((wr.setCell ⟨rc+1,0,none⟩ u0).setCell ⟨rc+1,1,none⟩ u1).setCell ⟨rc+1,2,none⟩ u2).setCell ⟨rc+1,3,none⟩ u3).setCell ⟨rc+1,4,none⟩ u4)):=fun u0 u1 u2 u3 u4=>by
    have hS:Out [rc+1] wr (((((wr.setCell ⟨rc+1,0,none⟩ u0).setCell ⟨rc+1,1,none⟩ u1).setCell ⟨rc+1,2,none⟩ u2).setCell ⟨rc+1,3,none⟩ u3).setCell ⟨rc+1,4,none⟩ u4):=((((Va wr (rc+1) 0 u0).trans (Va _ (rc+1) 1 u1)).trans (Va _ (rc+1) 2 u2)).trans (Va _ (rc+1) 3 u3)).trans (Va _ (rc+1) 4 u4);have hA:Out [g,rc+1] w5 (((((wr.setCell ⟨rc+1,0,none⟩ u0).setCell ⟨rc+1,1,none⟩ u1).setCell ⟨rc+1,2,none⟩ u2).setCell ⟨rc+1,3,none⟩ u3).setCell ⟨rc+1,4,none⟩ u4):=(hU.mono (fun x hx=>by simp only[i]at hx;simp[hx])).trans (hS.mono (fun x hx=>by simp only[i]at hx;simp[hx]));have nn:∀x,X.heap.size≤x∧x≠g→x∉[g,rc+1]:=fun x hx hm=>by
     simp only[List.mem_cons,List.not_mem_nil,or_false]at hm;omega
    refine⟨⟨FO.od.out hA (fun x hx=>nn x (FO.lo x (s _ hx))),FO.ob.out hA (fun x hx=>by rw[z0p]at hx;exact nn x (FO.lo x (P _ (s _ hx)))),FO.ot.out hA (fun x hx=>nn x (FO.lo x (P _ (P _ (s _ hx))))),hO.out hS (fun x hx e=>by simp only[i]at e;have:=E x hx;have:=O.size;omega),FO.on.out hA (fun x hx=>by rw[z0p]at hx;exact nn x (FO.lo x (P _ (P _ (P _ hx)))))⟩,?_⟩;have h1:=T.trans (aG.mono (by omega));exact Out.keep h1 hS (by omega) (fun x hx=>by simp only[i]at hx;omega)
   have R1:Hid ((repK.foot (⟨G a1 q1.length k1,q1,G b1 xs.length c1,xs,G a3 q3.length k3,q3,G sa qs.length sc,qs,G b2 ys.length c2,ys⟩:RepQ)).Nodup∧∀x∈repK.foot (⟨G a1 q1.length k1,q1,G b1 xs.length c1,xs,G a3 q3.length k3,q3,G sa qs.length sc,qs,G b2 ys.length c2,ys⟩:RepQ),rc≤x):=by
    have hA:=List.nodup_append.1 FO.nd;have hB:=List.nodup_append.1 hA.2.1;have hC:=List.nodup_append.1 hB.2.1;have lA:=FO.od.lt;have lB:∀x∈blk (G b1 xs.length c1),x<w5.heap.size:=z0z FO.ob.1;have lC:=FO.ot.lt;have lD:∀x∈blk (G b2 ys.length c2),x<w5.heap.size:=z0z FO.on.1;have e1:itemK.fp (G b1 xs.length c1) xs=blk (G b1 xs.length c1):=z0p _ _;have e2:itemK.fp (G b2 ys.length c2) ys=blk (G b2 ys.length c2):=z0p _ _;show List.Nodup (txnK.fp (G a1 q1.length k1) q1++(itemK.fp (G b1 xs.length c1) xs++(txnK.fp (G a3 q3.length k3) q3++(ussK.fp (G sa qs.length sc) qs++itemK.fp (G b2 ys.length c2) ys))))∧∀x∈txnK.fp (G a1 q1.length k1) q1++(itemK.fp (G b1 xs.length c1) xs++(txnK.fp (G a3 q3.length k3) q3++(ussK.fp (G sa qs.length sc) qs++itemK.fp (G b2 ys.length c2) ys))),rc≤x;rw[e1,e2];refine⟨List.nodup_append.2 ⟨hA.1,List.nodup_append.2 ⟨hB.1,List.nodup_append.2 ⟨hC.1,List.nodup_append.2 ⟨aV,hC.2.1,?_⟩,?_⟩,?_⟩,?_⟩,?_⟩
    ·intro a ha b hb e;have:=E a ha;have:=lD b hb;omega
    ·intro a ha b hb e;rcases List.mem_append.1 hb with hb|hb
     ·have:=E b hb;have:=lC a ha;omega
     ·exact hC.2.2 a ha b hb e
    ·intro a ha b hb e;rcases List.mem_append.1 hb with hb|hb
     ·exact hB.2.2 a ha b (s _ hb) e
     rcases List.mem_append.1 hb with hb|hb
     ·have:=E b hb;have:=lB a ha;omega
     ·exact hB.2.2 a ha b (P _ hb) e
    ·intro a ha b hb e;rcases List.mem_append.1 hb with hb|hb
     ·exact hA.2.2 a ha b (s _ hb) e
     rcases List.mem_append.1 hb with hb|hb
     ·exact hA.2.2 a ha b (P _ (s _ hb)) e
     rcases List.mem_append.1 hb with hb|hb
     ·have:=E b hb;have:=lA a ha;omega
     ·exact hA.2.2 a ha b (P _ (P _ hb)) e
    ·intro x hx;have bF:=O.size;rcases List.mem_append.1 hx with hx|hx
     ·have:=(FO.lo x (s _ hx)).1;omega
     rcases List.mem_append.1 hx with hx|hx
     ·have:=(FO.lo x (P _ (s _ hx))).1;omega
     rcases List.mem_append.1 hx with hx|hx
     ·have:=(FO.lo x (P _ (P _ (s _ hx)))).1;omega
     rcases List.mem_append.1 hx with hx|hx
     ·have:=E x hx;omega
     ·have:=(FO.lo x (P _ (P _ (P _ hx)))).1;omega
   have R2:Hid (RepQ.e (⟨G a1 q1.length k1,q1,G b1 xs.length c1,xs,G a3 q3.length k3,q3,G sa qs.length sc,qs,G b2 ys.length c2,ys⟩:RepQ)=(⟨ds.map TxnQ.e,xs,ts.map TxnQ.e,us.map USQ.e,ys⟩:RepE)):=show _=_ by
    simp only[RepQ.e,e1,e3,hE]
   clear HN HE aV E FO dU;obtain⟨r0,r1,r2,r3,r4⟩:=Bg.cel5;obtain⟨z0,z1,z2,z3,z4⟩:=am.cel5;obtain⟨g0,g1,g2,g3,g4⟩:=am.frz5;clear Bg am hO hU
   go_wp2
   exact bodyPost_ret (v:=.agg #[G a1 q1.length k1,G b1 xs.length c1,G a3 q3.length k3,G sa qs.length sc,G b2 ys.length c2]) (by simp[results,results154,go_sem,z0,z1,z2,z3,z4]) rfl ⟨(⟨G a1 q1.length k1,q1,G b1 xs.length c1,xs,G a3 q3.length k3,q3,G sa qs.length sc,qs,G b2 ys.length c2,ys⟩:RepQ),rfl,R2.out,(RF.out _ _ _ _ _).1,R1.out.1,R1.out.2,(RF.out _ _ _ _ _).2⟩
theorem q0B{t:TxnD}(h:t.F=0):0<t.acts.length:=(z01 (show txnF t.id t.session t.seq t.acts=0 from h)).1.1
theorem q5X{p:RepQ}(h:repF p.e=0):(∀t∈p.done,0<t.acts.length)∧∀t∈p.tent,0<t.acts.length:=by
 obtain⟨_,_,_,h1,h2,_⟩:=z3Z h;exact⟨fun t ht=>q0B (h1 _ (List.mem_map.2 ⟨t,ht,rfl⟩)),fun t ht=>q0B (h2 _ (List.mem_map.2 ⟨t,ht,rfl⟩))⟩
def q5Y(w w':World)(D kn sf:Int)(x:RepE)(e:Ending):Prop:=
 (D≠0∧e=.returned (.tuple #[.pointer none,H Q D])∧Below w.heap.size w w')∨
 (D=0∧∃ (g:Nat) (q:RepQ),e=.returned (.tuple #[.pointer (some ⟨g,0,none⟩),H Q 0])∧Blk w' g 31 #[H Q kn,H Q sf,q.vd,q.vb,q.vt,q.vu,q.vn]∧q.e=x∧repK.own w' q∧(repK.foot q).Nodup∧(∀k∈repK.foot q,w.heap.size≤k∧k≠g)∧w.heap.size≤g∧Below w.heap.size w w')
theorem z7R(kn sf:Int)(p:RepQ)(w:World)(hp:repK.own w p)(hl:p.n≤1048576)(ag:(∀t∈p.done,0<t.acts.length)∧∀t∈p.tent,0<t.acts.length):
  Calls Tryz.prog 99 #[.agg #[H Q kn,H Q sf,p.vd,p.vb,p.vt,p.vu,p.vn]] w fun e w'=>∃q:RepQ,e=.returned (.agg #[H Q kn,H Q sf,q.vd,q.vb,q.vt,q.vu,q.vn])∧q.e=p.e∧repK.own w' q∧(repK.foot q).Nodup∧(∀k∈repK.foot q,w.heap.size≤k)∧Below w.heap.size w w':=by
 have aa:=fun w h=>z4Q p w h hl ag
 have ab:=fun(w':World) (hb:Below w.heap.size w w')=>repK.own_out (F:=[]) (w':=w') hp (Out.of_below hb) (fun _ _=>by simp)
 clear ag hl;generalize p.e=PE at*;obtain⟨vd,done,vb,base,vt,Y,vu,D,vn,Z⟩:=p;obtain⟨a0,k0,rfl⟩:∃a c,vd=G a done.length c:=hp.1.shape;obtain⟨a1,k1,rfl⟩:∃a c,vb=G a base.length c:=hp.2.1.shape;obtain⟨a2,k2,rfl⟩:∃a c,vt=G a Y.length c:=hp.2.2.1.shape;obtain⟨a3,k3,rfl⟩:∃a c,vu=G a D.length c:=hp.2.2.2.1.shape;obtain⟨a4,k4,rfl⟩:∃a c,vn=G a Z.length c:=hp.2.2.2.2.shape;dsimp only at aa ab;have ad:Hid _:=aa;have ae:Hid _:=ab;clear aa ab hp;have b0:Below w.heap.size w ((w.alloc (.cells #[H Q kn,H Q sf,G a0 done.length k0,G a1 base.length k1,G a2 Y.length k2,G a3 D.length k3,G a4 Z.length k4] 31)).alloc (.cells #[H Q 0,H Q 0,G none 0 0,G none 0 0,G none 0 0,G none 0 0,G none 0 0] 31)):=by go_grown
 have A:=(o w 31 #[H Q kn,H Q sf,G a0 done.length k0,G a1 base.length k1,G a2 Y.length k2,G a3 D.length k3,G a4 Z.length k4]).below (w':=(w.alloc (.cells #[H Q kn,H Q sf,G a0 done.length k0,G a1 base.length k1,G a2 Y.length k2,G a3 D.length k3,G a4 Z.length k4] 31)).alloc (.cells #[H Q 0,H Q 0,G none 0 0,G none 0 0,G none 0 0,G none 0 0,G none 0 0] 31)) (by go_grown);have R:=o (w.alloc (.cells #[H Q kn,H Q sf,G a0 done.length k0,G a1 base.length k1,G a2 Y.length k2,G a3 D.length k3,G a4 Z.length k4] 31)) 31 #[H Q 0,H Q 0,G none 0 0,G none 0 0,G none 0 0,G none 0 0,G none 0 0];simp only[World.size_alloc]at R;obtain⟨p0,p1,p2,p3,p4,p5,p6⟩:=A.cel7;go_enter func99,ntmps99
 go_wp2_with fail
 clear p0 p1 p2 p3 p4 p5 p6;generalize (w.alloc (.cells #[H Q kn,H Q sf,G a0 done.length k0,G a1 base.length k1,G a2 Y.length k2,G a3 D.length k3,G a4 Z.length k4] 31)).alloc (.cells #[H Q 0,H Q 0,G none 0 0,G none 0 0,G none 0 0,G none 0 0,G none 0 0] 31)=W at*;have aq:=R.lt;refine(ad.out W (ae.out W b0)).mono ?_;rintro e w1 ⟨q9,rfl,E0,O0,N0,G0,hb⟩;replace A:=A.below hb;replace R:=R.below hb;replace b0:=b0.trans (hb.mono b0.size);clear hb ad ae;obtain⟨am,y,al,x,ao,z,ap,d,an,C⟩:=q9;obtain⟨E,N,rfl⟩:∃a c,am=G a y.length c:=O0.1.shape;obtain⟨I,O,rfl⟩:∃a c,al=G a x.length c:=O0.2.1.shape;obtain⟨J,T,rfl⟩:∃a c,ao=G a z.length c:=O0.2.2.1.shape;obtain⟨L,U,rfl⟩:∃a c,ap=G a d.length c:=O0.2.2.2.1.shape;obtain⟨M,X,rfl⟩:∃a c,an=G a C.length c:=O0.2.2.2.2.shape;have U1:=z7x w1 w.heap.size (G E y.length N) (G I x.length O) (G J z.length T) (G L d.length U) (G M C.length X);have A2:=A.mid5 (G E y.length N) (G I x.length O) (G J z.length T) (G L d.length U) (G M C.length X);have R2:Blk _ _ _ _:=(U1.block _ R.lt (by simp)).trans R;have OW:=repK.own_out O0 U1 (fun k hk=>by have:=G0 k hk;simp;omega);have af:=Out.keep b0 U1 b0.size (fun k hk=>by simp at hk;omega);have ak:(Tryz.prog.info? 29).map (·.size)=some (#[G E y.length N,G I x.length O,G J z.length T,G L d.length U,G M C.length X]:Array Value).size:=by kernel_rfl
 have aj:(Tryz.prog.info? 31).map (·.size)=some (#[H Q kn,H Q sf,G E y.length N,G I x.length O,G J z.length T,G L d.length U,G M C.length X]:Array Value).size:=by kernel_rfl
 generalize hV:w1.setCells w.heap.size 2 [G E y.length N,G I x.length O,G J z.length T,G L d.length U,G M C.length X]=V at*;have R3:=R2.row #[H Q kn,H Q sf,G E y.length N,G I x.length O,G J z.length T,G L d.length U,G M C.length X];have U3:=z0R V (w.heap.size+1) #[H Q kn,H Q sf,G E y.length N,G I x.length O,G J z.length T,G L d.length U,G M C.length X];have ah:=repK.own_out OW U3 (fun k hk=>by have:=G0 k hk;simp;omega);have ai:=Out.keep af U3 af.size (fun k hk=>by simp at hk;omega);obtain⟨q0,q1,q2,q3,q4,q5,q6⟩:=A2.cel7
 go_wp2_with (first|(refine q0r (by kernel_rfl) 29 _ _ rfl _ 2 #[G E y.length N,G I x.length O,G J z.length T,G L d.length U,G M C.length X] rfl rfl 31 _ A ak (by simp) (by simp[Value.oneCell']) ?_;(try dsimp only);rw[hV])|(refine z0s (by kernel_rfl) 31 _ _ rfl _ #[H Q kn,H Q sf,G E y.length N,G I x.length O,G J z.length T,G L d.length U,G M C.length X] rfl rfl 31 _ R2 aj rfl (by simp[Value.oneCell']) ?_))
 obtain⟨r0,r1,r2,r3,r4,r5,r6⟩:=R3.cel7;exact bodyPost_ret (v:=.agg #[H Q kn,H Q sf,G E y.length N,G I x.length O,G J z.length T,G L d.length U,G M C.length X]) (by simp[results,results99,go_sem,r0,r1,r2,r3,r4,r5,r6]) rfl ⟨_,rfl,E0,ah,N0,fun k hk=>by have:=G0 k hk;omega,ai⟩
theorem z91(v:Value)(ps:List InstQ)(kn sf:Int)(p:RepQ)(w:World)(hG:Rul w)(hE:ErrT w)(h:instK.Own w v ps)(hl:(ps.length+nmL InstQ.n ps)≤1048576)(hp:repK.own w p)(ae:p.n≤1048576):
  Calls Tryz.prog 52 #[v,.agg #[H Q kn,H Q sf,p.vd,p.vb,p.vt,p.vu,p.vn]] w fun e w'=>q5Y w w' (nodF (ps.map InstQ.e) kn sf p.e) kn sf p.e e:=by
 have al:=h.capOk;have hA:=h.at;have nd:=hp.1.niceV;have nt:=hp.2.2.1.niceV;have af:=fun w hG hE h hp=>z4o v ps kn sf p w hG hE h al hl hp nd nt ae
 have ad:=fun w h an=>z7R kn sf p w h ae an
 have Z:Hid (nodF (ps.map InstQ.e) kn sf p.e=0→(∀t∈p.done,0<t.acts.length)∧∀t∈p.tent,0<t.acts.length):=fun h0=>q5X (z1m h0).2.2.2.1
 have ag:=fun(w':World) (hb:Below w.heap.size w w')=>repK.own_out (F:=[]) (w':=w') hp (Out.of_below hb) (fun _ _=>by simp)
 generalize nodF (ps.map InstQ.e) kn sf p.e=D at*;generalize p.e=PE at*;obtain⟨vd,done,vb,base,vt,E,vu,A,vn,Y⟩:=p;obtain⟨a0,k0,rfl⟩:∃a c,vd=G a done.length c:=hp.1.shape;obtain⟨a1,k1,rfl⟩:∃a c,vb=G a base.length c:=hp.2.1.shape;obtain⟨a2,k2,rfl⟩:∃a c,vt=G a E.length c:=hp.2.2.1.shape;obtain⟨a3,k3,rfl⟩:∃a c,vu=G a A.length c:=hp.2.2.2.1.shape;obtain⟨a4,k4,rfl⟩:∃a c,vn=G a Y.length c:=hp.2.2.2.2.shape;obtain⟨va,vc,rfl⟩:=hA.shape;dsimp only at af ad ag Z;clear nd nt ae hp al;have ai:Hid _:=af;have ah:Hid _:=ad;have aa:Hid _:=ag;have HH:Hid (instK.At w (G va ps.length vc) ps):=hA;clear af ad ag hA h;have b0:Below w.heap.size w (w.alloc (.cells #[H Q kn,H Q sf,G a0 done.length k0,G a1 base.length k1,G a2 E.length k2,G a3 A.length k3,G a4 Y.length k4] 31)):=by go_grown
 have A0:=o w 31 #[H Q kn,H Q sf,G a0 done.length k0,G a1 base.length k1,G a2 E.length k2,G a3 A.length k3,G a4 Y.length k4];obtain⟨p0,p1,p2,p3,p4,p5,p6⟩:=A0.cel7;go_enter func52,ntmps52
 go_wp2_with fail
 clear p0 p1 p2 p3 p4 p5 p6;generalize w.alloc (.cells #[H Q kn,H Q sf,G a0 done.length k0,G a1 base.length k1,G a2 E.length k2,G a3 A.length k3,G a4 Y.length k4] 31)=W at*;refine(ai.out W (hG.below b0) (hE.below b0) (HH.out.below b0) (repK.own_rd (aa.out W b0))).mono ?_;rintro e w1 ⟨rfl,hb⟩;replace A0:=A0.below hb;replace b0:=b0.trans (hb.mono b0.size);clear hb ai;by_cases hD:D=0
 case neg=>
  have aj:(D !=0)=true:=by simpa using hD
  go_wp2
  exact bodyPost_ret (v:=.tuple #[.pointer none,H Q D]) (by simp[results,results52,go_sem]) rfl (Or.inl ⟨hD,rfl,b0⟩)
 subst hD;have aj:((0:Int) !=0)=false:=by decide
 have aw:=A0.lt;obtain⟨c0,c1,c2,c3,c4,c5,c6⟩:=A0.cel7
 go_wp2_with fail
 clear aj;clear c0 c1 c2 c3 c4 c5 c6;refine(ah.out _ (aa.out _ b0) (Z.out trivial)).mono ?_;rintro e w2 ⟨q9,rfl,e9,o9,n9,g9,ak⟩;have ay:=b0.size;replace b0:=b0.trans (ak.mono b0.size);clear ak ah A0;have am:∀k∈repK.foot q9,k<w2.heap.size:=fun k hk=>repK.own_lt o9 k hk
 have HQ:Hid (q9.e=PE∧(repK.foot q9).Nodup∧(∀k∈repK.foot q9,w1.heap.size≤k)∧∀k∈repK.foot q9,k<w2.heap.size):=⟨e9,n9,g9,am⟩
 clear e9 n9 g9 am;obtain⟨aq,y,ap,x,au,z,av,d,ar,C⟩:=q9;obtain⟨I,O,rfl⟩:∃a c,aq=G a y.length c:=o9.1.shape;obtain⟨J,T,rfl⟩:∃a c,ap=G a x.length c:=o9.2.1.shape;obtain⟨L,U,rfl⟩:∃a c,au=G a z.length c:=o9.2.2.1.shape;obtain⟨M,V,rfl⟩:∃a c,av=G a d.length c:=o9.2.2.2.1.shape;obtain⟨N,X,rfl⟩:∃a c,ar=G a C.length c:=o9.2.2.2.2.shape;have Bz:=o w2 31 #[H Q 0,H Q 0,G none 0 0,G none 0 0,G none 0 0,G none 0 0,G none 0 0];have ab:Below w2.heap.size w2 (w2.alloc (.cells #[H Q 0,H Q 0,G none 0 0,G none 0 0,G none 0 0,G none 0 0,G none 0 0] 31)):=by go_grown
 have ax:=b0.size;replace o9:=repK.own_out (F:=[]) o9 (Out.of_below ab) (fun _ _=>by simp);replace b0:=b0.trans (ab.mono b0.size);have ao:(Tryz.prog.info? 31).map (·.size)=some (#[H Q kn,H Q sf,G I y.length O,G J x.length T,G L z.length U,G M d.length V,G N C.length X]:Array Value).size:=by kernel_rfl
 have Bk:=Bz.row #[H Q kn,H Q sf,G I y.length O,G J x.length T,G L z.length U,G M d.length V,G N C.length X];have U3:=z0R (w2.alloc (.cells #[H Q 0,H Q 0,G none 0 0,G none 0 0,G none 0 0,G none 0 0,G none 0 0] 31)) w2.heap.size #[H Q kn,H Q sf,G I y.length O,G J x.length T,G L z.length U,G M d.length V,G N C.length X];have O3:=repK.own_out o9 U3 (fun k hk=>by have:=HQ.out.2.2.2 k hk;simp;omega);have b3:=Out.keep b0 U3 b0.size (fun k hk=>by simp at hk;omega);clear ab o9 b0 aa HH
 go_wp2_with (refine z0s (by kernel_rfl) 31 _ _ rfl _ #[H Q kn,H Q sf,G I y.length O,G J x.length T,G L z.length U,G M d.length V,G N C.length X] rfl rfl 31 _ Bz ao rfl (by simp[Value.oneCell']) ?_)
 obtain⟨q1,q2,q3,q4⟩:=HQ.out;exact bodyPost_ret (v:=.tuple #[.pointer (some ⟨w2.heap.size,0,none⟩),H Q 0]) (by simp[results,results52,go_sem]) rfl (Or.inr ⟨rfl,w2.heap.size,_,rfl,Bk,q1,O3,q2,fun k hk=>⟨by have:=q3 k hk;omega,by have:=q4 k hk;omega⟩,by omega,b3⟩)
end Go.Proofs.YtlkpdgjnhkjpjaaGreatDoor
