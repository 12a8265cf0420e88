/- Texts joined,with what the laws reach alone. -/
import Derived.Test.YtlkpdgjnhkjpjaaGreatDoorSCBF
set_option linter.unusedVariables false
set_option linter.unusedSimpArgs false
set_option maxRecDepth 100000
set_option maxHeartbeats 16000000
namespace Go.Proofs.YtlkpdgjnhkjpjaaGreatDoor
open Go.RowKit Go.BigFrame
theorem q2H{α:Type}{f:α→Nat}:∀ {l:List α} {p:α},p∈l→f p≤nmL f l
 |x::r,p,h=>by
  have e:nmL f (x::r)=f x+nmL f r:=by simp[nmL]
  rcases List.mem_cons.1 h with rfl|h
  ·omega
  ·have:=q2H (f:=f) h;omega
theorem z4J(p:RepQ)(w:World)(h:repK.own w p)(hl:p.n≤1048576)(ai:(∀t∈p.done,0<t.acts.length)∧∀t∈p.tent,0<t.acts.length):
  Calls Tryz.prog 154 #[.agg #[p.vd,p.vb,p.vt,p.vu,p.vn]] w fun e w'=>∃p':RepQ,e=.returned (.agg #[p'.vd,p'.vb,p'.vt,p'.vu,p'.vn])∧p'.e=p.e∧repK.own w' p'∧(repK.foot p').Nodup∧(∀k∈repK.foot p',w.heap.size≤k)∧Below w.heap.size w w':=by
 obtain⟨vd,ds,vb,xs,vt,ts,vu,us,vn,ys⟩:=p;obtain⟨na,nc,rfl⟩:∃a c,vd=.slice a ds.length c:=h.1.shape;obtain⟨ia,ic,rfl⟩:∃a c,vb=.slice a xs.length c:=h.2.1.shape;obtain⟨ua,uc,rfl⟩:∃a c,vt=.slice a ts.length c:=h.2.2.1.shape;obtain⟨la,lc,rfl⟩:∃a c,vu=.slice a us.length c:=h.2.2.2.1.shape;obtain⟨ja,jc,rfl⟩:∃a c,vn=.slice a ys.length c:=h.2.2.2.2.shape;dsimp only[RepQ.n]at hl;dsimp only at ai;obtain⟨o1,o2,o3,o4,o5⟩:txnK.Own w (.slice na ds.length nc) ds∧itemK.Own w (.slice ia xs.length ic) xs∧txnK.Own w (.slice ua ts.length uc) ts∧ussK.Own w (.slice la us.length lc) us∧itemK.Own w (.slice ja ys.length jc) ys:=h;have nI:=o2.niceV _ _ _ rfl;have nJ:=o5.niceV _ _ _ rfl;have bc:∀p∈us,z4c p.va:=fun p hp=>(show undoK.Own w p.va p.us from o4.2 p hp).niceV
 have dN:=o1.at;have jN:=o2.at;have dT:=o3.at;have dU:=o4.at;have jU:=o5.at;have bk:∀p∈us,p.us.length≤1048576:=fun p hp=>by
  have:=q2H (f:=USQ.n) hp;have e:USQ.n p=p.us.length:=rfl;omega
 have bB:us.length≤1048576:=by omega
 have HU:Hid ((us.map USQ.e=us.map USQ.e)):=show _=_ from rfl
 obtain⟨aY,aZ⟩:=ai;clear o1 o2 o3 o4 o5 HU;have V:Below w.heap.size w ((w.alloc (.cells #[.slice na ds.length nc,.slice ia xs.length ic,.slice ua ts.length uc,.slice la us.length lc,.slice ja ys.length jc] 29)).alloc (.cells #[.slice none 0 0,.slice none 0 0,.slice none 0 0,.slice none 0 0,.slice none 0 0] 29)):=by go_grown
 have B:=(Blk.new w 29 #[.slice na ds.length nc,.slice ia xs.length ic,.slice ua ts.length uc,.slice la us.length lc,.slice ja ys.length jc]).below (w':=(w.alloc (.cells #[.slice na ds.length nc,.slice ia xs.length ic,.slice ua ts.length uc,.slice la us.length lc,.slice ja ys.length jc] 29)).alloc (.cells #[.slice none 0 0,.slice none 0 0,.slice none 0 0,.slice none 0 0,.slice none 0 0] 29)) (by go_grown);have Bv:=Blk.new (w.alloc (.cells #[.slice na ds.length nc,.slice ia xs.length ic,.slice ua ts.length uc,.slice la us.length lc,.slice ja ys.length jc] 29)) 29 #[.slice none 0 0,.slice none 0 0,.slice none 0 0,.slice none 0 0,.slice none 0 0];rw[World.size_alloc]at Bv;replace dN:=dN.below V;replace dT:=dT.below V;replace dU:=dU.below V;replace jN:=jN.below V;replace jU:=jU.below V;have bS:w.heap.size+2≤((w.alloc (.cells #[.slice na ds.length nc,.slice ia xs.length ic,.slice ua ts.length uc,.slice la us.length lc,.slice ja ys.length jc] 29)).alloc (.cells #[.slice none 0 0,.slice none 0 0,.slice none 0 0,.slice none 0 0,.slice none 0 0] 29)).heap.size:=by simp only[World.size_alloc];omega
 go_enter Tryz.func154,Tryz.ntmps154
 go_wp2_with fail
 generalize (w.alloc (.cells #[.slice na ds.length nc,.slice ia xs.length ic,.slice ua ts.length uc,.slice la us.length lc,.slice ja ys.length jc] 29)).alloc (.cells #[.slice none 0 0,.slice none 0 0,.slice none 0 0,.slice none 0 0,.slice none 0 0] 29)=X at*;generalize bO:w.heap.size=rc at*;obtain⟨f0,f1,f2,f3,f4⟩:=B.lts5;have aL:=fun(w':World) (hb:Below X.heap.size X w')=>z2e (.slice na ds.length nc) ds w' (dN.below hb) aY (by omega)
 have aM:=fun(w':World) (hb:Below X.heap.size X w')=>z1r ia ic xs w' (jN.below hb) nI (by omega)
 have aN:=fun(w':World) (hb:Below X.heap.size X w')=>z2e (.slice ua ts.length uc) ts w' (dT.below hb) aZ (by omega)
 have aO:=fun(w':World) (hb:Below X.heap.size X w')=>z1r ja jc ys w' (jU.below hb) nJ (by omega)
 refine z05 [some 6,some 7,some 8,some 9,some 10,some 11,some 12,some 13,some 14,some 15,some 16,some 17,some 18,some 3] (fun vs w'=>∃ (a1:Option Addr) (k1:Nat) (b1:Option Addr) (c1:Nat) (a3:Option Addr) (k3:Nat) (b2:Option Addr) (c2 g:Nat) (q1 q3:List TxnQ),vs=[.pointer (some ⟨rc,0,none⟩),.slice na ds.length nc,.slice a1 q1.length k1,.pointer (some ⟨rc,1,none⟩),.slice ia xs.length ic,.slice b1 xs.length c1,.pointer (some ⟨rc,2,none⟩),.slice ua ts.length uc,.slice a3 q3.length k3,.pointer (some ⟨rc,4,none⟩),.slice ja ys.length jc,.slice b2 ys.length c2,.agg #[.slice a1 q1.length k1,.slice b1 xs.length c1,.slice a3 q3.length k3,.slice none 0 0,.slice b2 ys.length c2],.pointer (some ⟨g,0,none⟩)]∧X.heap.size≤g∧Blk w' g 29 #[.slice a1 q1.length k1,.slice b1 xs.length c1,.slice a3 q3.length k3,.slice none 0 0,.slice b2 ys.length c2]∧q1.map TxnQ.e=ds.map TxnQ.e∧q3.map TxnQ.e=ts.map TxnQ.e∧Four X w' g (.slice a1 q1.length k1) (.slice b1 xs.length c1) (.slice a3 q3.length k3) (.slice b2 ys.length c2) q1 q3 xs ys∧Below X.heap.size X w') ?_ ?_
 ·have hW:Below X.heap.size X X.drew:=(Below.refl _ _).drew;have bN:Nonempty (Lat X):=⟨⟨X,Below.refl _ _⟩⟩
  refine z0e (S:=fun w'=>∃u:Lat X,w'=u.val) (by kernel_rfl) ?_;refine sgr [(0,2),(3,2),(6,2),(9,2)] 7 (by kernel_rfl) ⟨⟨_,hW⟩,rfl⟩ ?_;simp only[pkE];repeat go_big_quiet_step (fail)
  refine wpQuiet_nil ?_;clear f0 f1 f2 f3 f4;generalize X.drew=x at hW⊢;refine twa 2 13 6 (by kernel_rfl) ?_ ?_
  rotate_left
  focus
   refine z1c 13 _ rfl ?_;have Bz:=Blk.new x 29 #[.slice none 0 0,.slice none 0 0,.slice none 0 0,.slice none 0 0,.slice none 0 0];have ak:X.heap.size≤x.heap.size:=hW.size;have d:Below x.heap.size x (x.alloc (.cells #[.slice none 0 0,.slice none 0 0,.slice none 0 0,.slice none 0 0,.slice none 0 0] 29)):=by go_grown
   replace hW:=hW.trans (d.mono hW.size);clear d
   go_wp2
   refine ThenGo.to ⟨⟨⟨_,hW⟩,rfl⟩,?_⟩;generalize C:x.heap.size=g at*;generalize x.alloc (.cells #[.slice none 0 0,.slice none 0 0,.slice none 0 0,.slice none 0 0,.slice none 0 0] 29)=x at*;clear C
  all_goals first|refine cla 2 (some 8) 73 #[.slice na ds.length nc] 5 (by kernel_rfl) ?_|refine opc 2 (some 8) 73 #[.slice na ds.length nc] (by kernel_rfl) ?_
  all_goals
   refine(aL _ hW).mono ?_;rintro e x ⟨v1,q1,rfl,e1,o1,n1,g1,hb⟩;obtain⟨a1,k1,rfl⟩:=o1.shape;try have A:∀k∈txnK.fp (.slice a1 q1.length k1) q1,k≠g:=fun k hk=>by have:=g1 k hk;have:=Bz.lt;omega
   try replace Bz:=Bz.below hb
   obtain⟨m1,M1,br,bt,bC,ad,z⟩:∃m M,(∀k∈txnK.fp (.slice a1 q1.length k1) q1,m≤k)∧X.heap.size≤m∧m≤M∧(∀k∈txnK.fp (.slice a1 q1.length k1) q1,k<M)∧M≤x.heap.size:=⟨_,x.heap.size,g1,hW.size,hb.size,fun k hk=>o1.lt k hk,Nat.le_refl _⟩
   replace hW:=hW.trans (hb.mono hW.size);clear hb g1;refine⟨_,rfl,⟨⟨_,hW⟩,rfl⟩,?_⟩;simp only[Act.put,pgE,pjE]
  rotate_right
  refine twa 5 13 5 (by kernel_rfl) ?_ ?_
  rotate_left
  focus
   refine z1c 13 _ rfl ?_;have Bz:=Blk.new x 29 #[.slice none 0 0,.slice none 0 0,.slice none 0 0,.slice none 0 0,.slice none 0 0];have ak:X.heap.size≤x.heap.size:=hW.size;have d:Below x.heap.size x (x.alloc (.cells #[.slice none 0 0,.slice none 0 0,.slice none 0 0,.slice none 0 0,.slice none 0 0] 29)):=by go_grown
   have A:∀k∈txnK.fp (.slice a1 q1.length k1) q1,k≠x.heap.size:=fun k hk=>by have:=ad k hk;omega
   replace o1:=o1.below d;replace z:=Nat.le_trans z d.size;replace hW:=hW.trans (d.mono hW.size);clear d
   go_wp2
   refine ThenGo.to ⟨⟨⟨_,hW⟩,rfl⟩,?_⟩;generalize C:x.heap.size=g at*;generalize x.alloc (.cells #[.slice none 0 0,.slice none 0 0,.slice none 0 0,.slice none 0 0,.slice none 0 0] 29)=x at*;clear C
  all_goals first|refine cla 5 (some 11) 165 #[.slice ia xs.length ic] 4 (by kernel_rfl) ?_|refine opc 5 (some 11) 165 #[.slice ia xs.length ic] (by kernel_rfl) ?_
  all_goals
   refine(aM _ hW).mono ?_;rintro e x ⟨b1,c1,rfl,o2,g2,hb⟩;try have I:∀k∈blk (.slice b1 xs.length c1),k≠g:=fun k hk=>by have:=g2 k hk;have:=Bz.lt;omega
   try replace Bz:=Bz.below hb
   obtain⟨m2,M2,a6,bu,bx,bD,ag,z⟩:∃m M,(∀k∈blk (.slice b1 xs.length c1),m≤k)∧X.heap.size≤m∧M1≤m∧m≤M∧(∀k∈blk (.slice b1 xs.length c1),k<M)∧M≤x.heap.size:=⟨_,x.heap.size,g2,hW.size,z,hb.size,fun k hk=>z0z o2.1 k hk,Nat.le_refl _⟩
   replace o1:=o1.below hb;replace hW:=hW.trans (hb.mono hW.size);clear hb g2;refine⟨_,rfl,⟨⟨_,hW⟩,rfl⟩,?_⟩;simp only[Act.put,pgE,pjE]
  rotate_right
  refine twa 8 13 4 (by kernel_rfl) ?_ ?_
  rotate_left
  focus
   refine z1c 13 _ rfl ?_;have Bz:=Blk.new x 29 #[.slice none 0 0,.slice none 0 0,.slice none 0 0,.slice none 0 0,.slice none 0 0];have ak:X.heap.size≤x.heap.size:=hW.size;have d:Below x.heap.size x (x.alloc (.cells #[.slice none 0 0,.slice none 0 0,.slice none 0 0,.slice none 0 0,.slice none 0 0] 29)):=by go_grown
   have A:∀k∈txnK.fp (.slice a1 q1.length k1) q1,k≠x.heap.size:=fun k hk=>by have:=ad k hk;omega
   replace o1:=o1.below d;have I:∀k∈blk (.slice b1 xs.length c1),k≠x.heap.size:=fun k hk=>by have:=ag k hk;omega
   replace o2:=o2.below d;replace z:=Nat.le_trans z d.size;replace hW:=hW.trans (d.mono hW.size);clear d
   go_wp2
   refine ThenGo.to ⟨⟨⟨_,hW⟩,rfl⟩,?_⟩;generalize C:x.heap.size=g at*;generalize x.alloc (.cells #[.slice none 0 0,.slice none 0 0,.slice none 0 0,.slice none 0 0,.slice none 0 0] 29)=x at*;clear C
  all_goals first|refine cla 8 (some 14) 73 #[.slice ua ts.length uc] 3 (by kernel_rfl) ?_|refine opc 8 (some 14) 73 #[.slice ua ts.length uc] (by kernel_rfl) ?_
  all_goals
   refine(aN _ hW).mono ?_;rintro e x ⟨v3,q3,rfl,e3,o3,n3,g3,hb⟩;obtain⟨a3,k3,rfl⟩:=o3.shape;try have N:∀k∈txnK.fp (.slice a3 q3.length k3) q3,k≠g:=fun k hk=>by have:=g3 k hk;have:=Bz.lt;omega
   try replace Bz:=Bz.below hb
   obtain⟨m3,M3,ax,bv,bz,bE,ar,z⟩:∃m M,(∀k∈txnK.fp (.slice a3 q3.length k3) q3,m≤k)∧X.heap.size≤m∧M2≤m∧m≤M∧(∀k∈txnK.fp (.slice a3 q3.length k3) q3,k<M)∧M≤x.heap.size:=⟨_,x.heap.size,g3,hW.size,z,hb.size,fun k hk=>o3.lt k hk,Nat.le_refl _⟩
   replace o1:=o1.below hb;replace o2:=o2.below hb;replace hW:=hW.trans (hb.mono hW.size);clear hb g3;refine⟨_,rfl,⟨⟨_,hW⟩,rfl⟩,?_⟩;simp only[Act.put,pgE,pjE]
  rotate_right
  refine twa 11 13 3 (by kernel_rfl) ?_ ?_
  rotate_left
  focus
   refine z1c 13 _ rfl ?_;have Bz:=Blk.new x 29 #[.slice none 0 0,.slice none 0 0,.slice none 0 0,.slice none 0 0,.slice none 0 0];have ak:X.heap.size≤x.heap.size:=hW.size;have d:Below x.heap.size x (x.alloc (.cells #[.slice none 0 0,.slice none 0 0,.slice none 0 0,.slice none 0 0,.slice none 0 0] 29)):=by go_grown
   have A:∀k∈txnK.fp (.slice a1 q1.length k1) q1,k≠x.heap.size:=fun k hk=>by have:=ad k hk;omega
   replace o1:=o1.below d;have I:∀k∈blk (.slice b1 xs.length c1),k≠x.heap.size:=fun k hk=>by have:=ag k hk;omega
   replace o2:=o2.below d;have N:∀k∈txnK.fp (.slice a3 q3.length k3) q3,k≠x.heap.size:=fun k hk=>by have:=ar k hk;omega
   replace o3:=o3.below d;replace z:=Nat.le_trans z d.size;replace hW:=hW.trans (d.mono hW.size);clear d
   go_wp2
   refine ThenGo.to ⟨⟨⟨_,hW⟩,rfl⟩,?_⟩;generalize C:x.heap.size=g at*;generalize x.alloc (.cells #[.slice none 0 0,.slice none 0 0,.slice none 0 0,.slice none 0 0,.slice none 0 0] 29)=x at*;clear C
  all_goals first|refine cla 11 (some 17) 165 #[.slice ja ys.length jc] 2 (by kernel_rfl) ?_|refine opc 11 (some 17) 165 #[.slice ja ys.length jc] (by kernel_rfl) ?_
  all_goals
   refine(aO _ hW).mono ?_;rintro e x ⟨b2,c2,rfl,o4,g4,hb⟩;try have Z:∀k∈blk (.slice b2 ys.length c2),k≠g:=fun k hk=>by have:=g4 k hk;have:=Bz.lt;omega
   try replace Bz:=Bz.below hb
   obtain⟨m4,M4,al,bw,bA,bF,be,z⟩:∃m M,(∀k∈blk (.slice b2 ys.length c2),m≤k)∧X.heap.size≤m∧M3≤m∧m≤M∧(∀k∈blk (.slice b2 ys.length c2),k<M)∧M≤x.heap.size:=⟨_,x.heap.size,g4,hW.size,z,hb.size,fun k hk=>z0z o4.1 k hk,Nat.le_refl _⟩
   replace o1:=o1.below hb;replace o2:=o2.below hb;replace o3:=o3.below hb;replace hW:=hW.trans (hb.mono hW.size);clear hb g4;refine⟨_,rfl,⟨⟨_,hW⟩,rfl⟩,?_⟩;simp only[Act.put,pgE,pjE]
  rotate_right
  focus
   refine sgr [(12,1)] 2 (by kernel_rfl) ⟨⟨_,hW⟩,rfl⟩ ?_;simp only[pkE];repeat go_big_quiet_step (fail)
   refine wpQuiet_nil ?_;refine ona 13 1 rfl (by kernel_rfl) ?_;have Bz:=Blk.new x 29 #[.slice none 0 0,.slice none 0 0,.slice none 0 0,.slice none 0 0,.slice none 0 0];have ak:X.heap.size≤x.heap.size:=hW.size;have d:Below x.heap.size x (x.alloc (.cells #[.slice none 0 0,.slice none 0 0,.slice none 0 0,.slice none 0 0,.slice none 0 0] 29)):=by go_grown
   have A:∀k∈txnK.fp (.slice a1 q1.length k1) q1,k≠x.heap.size:=fun k hk=>by have:=ad k hk;omega
   replace o1:=o1.below d;have I:∀k∈blk (.slice b1 xs.length c1),k≠x.heap.size:=fun k hk=>by have:=ag k hk;omega
   replace o2:=o2.below d;have N:∀k∈txnK.fp (.slice a3 q3.length k3) q3,k≠x.heap.size:=fun k hk=>by have:=ar k hk;omega
   replace o3:=o3.below d;have Z:∀k∈blk (.slice b2 ys.length c2),k≠x.heap.size:=fun k hk=>by have:=be k hk;omega
   replace o4:=o4.below d;replace z:=Nat.le_trans z d.size;replace hW:=hW.trans (d.mono hW.size);clear d
   go_wp2
   refine ThenGo.to ⟨⟨⟨_,hW⟩,rfl⟩,?_⟩;generalize C:x.heap.size=g at*;generalize x.alloc (.cells #[.slice none 0 0,.slice none 0 0,.slice none 0 0,.slice none 0 0,.slice none 0 0] 29)=x at*;clear C
  iterate 4
   rotate_left
   focus
    refine sgr [(12,1)] 1 (by kernel_rfl) ⟨⟨_,hW⟩,rfl⟩ ?_;simp only[pkE];repeat go_big_quiet_step (fail)
    refine wpQuiet_nil ?_
  all_goals
   refine ona 14 0 rfl (by kernel_rfl) ?_;have aQ:X.heap.size≤g:=by omega
   have Rz:=Bz.row #[.slice a1 q1.length k1,.slice b1 xs.length c1,.slice a3 q3.length k3,.slice none 0 0,.slice b2 ys.length c2];have z1:=o1.out (z1F _ g #[.slice a1 q1.length k1,.slice b1 xs.length c1,.slice a3 q3.length k3,.slice none 0 0,.slice b2 ys.length c2]) (fun k hk=>by simp only[List.mem_singleton];exact A k hk);have z2:=o2.out (z1F _ g #[.slice a1 q1.length k1,.slice b1 xs.length c1,.slice a3 q3.length k3,.slice none 0 0,.slice b2 ys.length c2]) (fun k hk=>by rw[z0l]at hk;simp only[List.mem_singleton];exact I k hk);have z3:=o3.out (z1F _ g #[.slice a1 q1.length k1,.slice b1 xs.length c1,.slice a3 q3.length k3,.slice none 0 0,.slice b2 ys.length c2]) (fun k hk=>by simp only[List.mem_singleton];exact N k hk);have z4:=o4.out (z1F _ g #[.slice a1 q1.length k1,.slice b1 xs.length c1,.slice a3 q3.length k3,.slice none 0 0,.slice b2 ys.length c2]) (fun k hk=>by rw[z0l]at hk;simp only[List.mem_singleton];exact Z k hk);replace hW:=z0p hW aQ #[.slice a1 q1.length k1,.slice b1 xs.length c1,.slice a3 q3.length k3,.slice none 0 0,.slice b2 ys.length c2];have aR:∀k∈txnK.fp (.slice a1 q1.length k1) q1,k<m2:=fun k hk=>by have:=ad k hk;omega
   have aS:∀k∈blk (.slice b1 xs.length c1),k<m3:=fun k hk=>by have:=ag k hk;omega
   have aT:∀k∈txnK.fp (.slice a3 q3.length k3) q3,k<m4:=fun k hk=>by have:=ar k hk;omega
   have FO:Four X _ g (.slice a1 q1.length k1) (.slice b1 xs.length c1) (.slice a3 q3.length k3) (.slice b2 ys.length c2) q1 q3 xs ys:=⟨z1,z2,z3,z4,List.nodup_append.2 ⟨n1,List.nodup_append.2 ⟨z0r _,List.nodup_append.2 ⟨n3,z0r _,z3b (m:=m4) aT al⟩,z3b (m:=m3) aS (fun k hk=>by rcases List.mem_append.1 hk with hk | hk <;> first | (have:=ax k hk;omega) | (have:=al k hk;omega))⟩,z3b (m:=m2) aR (fun k hk=>by rcases List.mem_append.1 hk with hk | hk <;> first | (have:=a6 k hk;omega) | (rcases List.mem_append.1 hk with hk | hk <;> first | (have:=ax k hk;omega) | (have:=al k hk;omega)))⟩,fun k hk=>by
    rcases List.mem_append.1 hk with hk|hk
    ·exact⟨by have:=br k hk;omega,A k hk⟩
    rcases List.mem_append.1 hk with hk|hk
    ·exact⟨by have:=a6 k hk;omega,I k hk⟩
    rcases List.mem_append.1 hk with hk|hk
    ·exact⟨by have:=ax k hk;omega,N k hk⟩
    ·exact ⟨by have:=al k hk;omega,Z k hk⟩⟩
   refine z0K (by kernel_rfl) 29 _ _ rfl _ #[.slice a1 q1.length k1,.slice b1 xs.length c1,.slice a3 q3.length k3,.slice none 0 0,.slice b2 ys.length c2] rfl rfl 29 _ Bz q2v rfl (by simp[Value.oneCell']) ?_;refine ThenGo.to ⟨⟨⟨_,hW⟩,rfl⟩,?_⟩;refine z0i (by kernel_rfl) ?_;refine⟨rfl,_,⟨a1,k1,b1,c1,a3,k3,b2,c2,g,q1,q3,rfl,aQ,Rz,e1,e3,FO,hW⟩,?_⟩;simp only[z1n,Act.put,pgE,pjE];try rfl
 rintro vs w5 ⟨a1,k1,b1,c1,a3,k3,b2,c2,g,q1,q3,rfl,bK,Bg,e1,e3,FO,U⟩;simp only[z1n,Act.put,pjE];clear f0 f1 f2 f3 f4 aL aM aN aO dN dT jN jU nI nJ;have bL:=Bg.lt;have aB:=(B.below U)
 have x2:=aB.cell 3 _ rfl;have bM:(us.length:Int)≤1048576:=by omega
 obtain⟨aV,aW⟩:=Kind.own_nil (K:=ussK) w5;have az:Hid ((ussK.fp (.slice none 0 0) ([]:List USQ)).Nodup∧∀k∈ussK.fp (.slice none 0 0) ([]:List USQ),w5.heap.size≤k):=by
  rw[aW];exact⟨by simp,by simp⟩
 clear aW
 go_wp2
 clear x2 aB;go_loopw[22] (fun j wr=>∃ (k:Nat) (vu:Value) (qs:List USQ),k≤us.length∧j=.int .i64 k∧Blk wr g 29 #[.slice a1 q1.length k1,.slice b1 xs.length c1,.slice a3 q3.length k3,vu,.slice b2 ys.length c2]∧ussK.Own wr vu qs∧Hid (qs.map USQ.e=(us.take k).map USQ.e)∧Hid ((ussK.fp vu qs).Nodup∧∀x∈ussK.fp vu qs,w5.heap.size≤x)∧Out [g] w5 wr) (fun j _=>us.length-(intOf j).toNat)
 case atStart=>exact⟨0,_,[],Nat.zero_le _,rfl,Bg,aV,(rfl:_=_),az,Out.refl _ _⟩
 case round=>
  clear az aV Bg;obtain⟨k,vu,qs,hk,rfl,Bg,hO,HE,HN,hU⟩:=hrel;obtain⟨sa,sc,rfl⟩:=hO.shape;have aI:Below X.heap.size X wr:=Out.keep U hU U.size (fun x hx=>by simp only[List.mem_singleton]at hx;omega);have bP:=hU.size;have aA:Hid (qs.length=k):=by
   have:=congrArg List.length HE.out;rw[List.length_map,List.length_map,List.length_take]at this;show qs.length=k;omega
  by_cases ah:k<us.length
  ·obtain⟨b,bs,rfl,bJ,aP,bj⟩:=(dU.below aI).cell (by decide) k ah;have c0:wr.cell? ⟨b,bs+k*1+0,none⟩=some us[k].va:=aP 0 _ rfl;rw[Nat.mul_one,Nat.add_zero]at c0;have a2:=bk _ (List.getElem_mem ah);have bl:=bc _ (List.getElem_mem ah);have ap:Hid (∀p':USQ,p'.us=USQ.us us[k]→(qs++[p']).map USQ.e=(us.take (k+1)).map USQ.e):=fun p' bi=>by
    rw[List.take_succ_eq_append_getElem ah,List.map_append,List.map_append,HE.out,List.map_singleton,List.map_singleton];show _++[p'.us]=_++[USQ.us us[k]]
    rw[bi]
   have aU:(k:Int)<(us.length:Int):=by omega
   clear aP HE;generalize us[k]=p at*;obtain⟨lv,y⟩:=p;have aw:undoK.At wr lv y:=bj;obtain⟨ta,tc,rfl⟩:=aw.shape;have bh:=bl _ _ _ rfl;dsimp only at c0 ap a2;have aF:=hU;have bG:=hO.lt
   go_wp2_with fail
   clear c0;generalize bI:wr=Y at*;generalize hP:(fun u:World=>Blk u g 29 #[.slice a1 q1.length k1,.slice b1 xs.length c1,.slice a3 q3.length k3,.slice sa qs.length sc,.slice b2 ys.length c2])=PP;have aC:PP Y:=by subst hP;exact Bg
   have bb:∀u:KeepP PP,u.val.cell? ⟨g,3,none⟩=some (.slice sa qs.length sc):=fun u=>by have:=u.isP;subst hP;exact this.cell 3 _ rfl
   have ai:Nonempty (KeepP PP):=⟨⟨Y,aC⟩⟩
   refine z4m (S:=fun w'=>∃u:KeepP PP,w'=u.val) (R:=fun _ _=>False) 7 (by kernel_rfl) (fun _ _ _ _ h=>h.elim) ?_;have aE:PP Y.drew:=by subst hP;exact Bg
   refine sgX [(0,3)] 5 (by kernel_rfl) ⟨⟨Y.drew,aE⟩,rfl⟩ ?_;simp only[pkE];repeat go_big_quiet_step (fail)
   refine wpQuiet_nil ?_;clear bb ai aC;have hW:Below Y.heap.size Y Y.drew:=(Below.refl _ _).drew;refine clX 3 (some 29) 167 #[.slice ta y.length tc] 4 (by kernel_rfl) rfl ?_;refine(z3e ta tc y _ (aw.below hW) bh a2).mono ?_;rintro e w7 ⟨a7,c7,rfl,o7,l7,aK⟩;have hD:=hW.size;replace hW:=hW.trans (aK.mono hW.size);replace Bg:=Bg.below hW;have ay:=hO.lt;replace hO:=hO.below hW;have aG:=aF.trans (Out.of_below (F:=[g]) hW);have bQ:=hW.size;clear aK aE;refine Or.inl ⟨_,rfl,⟨⟨_,by subst hP;exact Bg⟩,rfl⟩,?_⟩;simp only[Act.put,pgE,pjE];refine onX 4 3 rfl (by kernel_rfl) ?_;have W:Below w7.heap.size w7 (w7.alloc (.cells #[.slice a7 y.length c7] 160)):=by go_grown
   have an:∀j u,[Value.slice a7 y.length c7][j]?=some u→(w7.alloc (.cells #[.slice a7 y.length c7] 160)).cell? ((⟨w7.heap.size,0,none⟩:Addr).add j)=some u:=by
    intro j u hj;match j,hj with|0,hj=>simp at hj;subst hj;simp[Addr.add]
   go_wp2
   replace Bg:=Bg.below W;have aq:=hO.below W;have aD:ussK.own (w7.alloc (.cells #[.slice a7 y.length c7] 160)) (⟨.slice a7 y.length c7,y⟩:USQ):=o7.below W;have T:=aG.trans (Out.of_below (F:=[g]) W);have bR:=W.size;refine ThenX.to ⟨Or.inr ⟨⟨_,by subst hP;exact Bg⟩,rfl⟩,?_⟩;generalize w7.alloc (.cells #[.slice a7 y.length c7] 160)=WA at*;have ae:=aq.1;obtain⟨i0,hi,bm,bn,bo⟩:=info_parts z2H;refine onX 5 2 rfl (by kernel_rfl) ?_;refine wpList_append_own_at _ rfl _ _ 27 rfl 0 160 i0 (.slice none 0 0) 1 24 Tryz.underlying27 hi bm bn bo rfl (by decide) _ qs.length (ussK.row qs) rfl ae ⟨w7.heap.size,0,none⟩ 1 1 [.slice a7 y.length c7] rfl rfl an ?c2 ?c3 ?c4 ?c5 ?_
   case c2=>intro u hu;simp at hu;subst hu;rfl
   case c3=>have:=aA.out;unfold maxLen;omega
   case c4=>have:=aA.out;omega
   case c5=>omega
   intro v' wc am ab _ aJ;have aa:∀x∈ussK.foot (⟨.slice a7 y.length c7,y⟩:USQ),Y.heap.size≤x:=fun x hx=>by
    have aj:x∈undoK.fp (.slice a7 y.length c7) y:=hx;rw[z0E]at aj;have:=l7 x aj;omega
   obtain⟨af,au,O,L⟩:=aq.snoc HN.out.1 HN.out.2 aD (by show(undoK.fp _ _).Nodup;rw[z0E];exact z0r _) (fun x hx aj=>by have:=ay x aj;have:=aa x hx;omega) (fun x hx=>by have:=aa x hx;omega) (by omega) am ab aJ;obtain⟨a9,c9,rfl⟩:=af.shape;have bg:(qs++[(⟨.slice a7 y.length c7,y⟩:USQ)]).length=qs.length+1:=by simp
   rw[bg]at af au O;have av:∀x∈blk (.slice sa qs.length sc),w5.heap.size≤x:=fun x hx=>HN.out.2 x (by simp only[Kind.fp,List.mem_append];exact Or.inl hx)
   have bd:g∉blk (.slice sa qs.length sc):=fun hx=>by have:=av g hx;omega
   replace Bg:=Bg.outs8 L bd;have aH:Out [g] w5 wc:=⟨L.os.trans T.os,L.tape.trans T.tape,L.output.trans T.output,Nat.le_trans T.size L.size,fun x hx hn=>(L.block x (by omega) (fun e=>by have:=av x e;omega)).trans (T.block x hx hn)⟩
   go_wp2
   refine ThenX.to ⟨Or.inr ⟨⟨_,by subst hP;exact Bg⟩,rfl⟩,?_⟩;clear am ab aJ ae an aq aD W;refine onX 6 1 rfl (by kernel_rfl) ?_
   go_wp2
   refine ThenX.to ⟨Or.inr ⟨⟨_,by subst hP;exact Bg⟩,rfl⟩,?_⟩;refine onX 7 0 rfl (by kernel_rfl) ?_;have bp:=Bg.cell 3 _ rfl;have bq:=Bg.frozen 3
   go_wp2
   clear bp bq;refine ThenX.to ⟨Or.inl (by kernel_rfl),?_⟩;refine q3D (by kernel_rfl) ?_;have B9:Blk (wc.setCell ⟨g,3,none⟩ (.slice a9 (qs.length+1) c9)) g 29 #[.slice a1 q1.length k1,.slice b1 xs.length c1,.slice a3 q3.length k3,.slice a9 (qs.length+1) c9,.slice b2 ys.length c2]:=by
    have:=Bg.set 3 (.slice a9 (qs.length+1) c9);simpa using this
   have O9:=af.out (Out.setCell wc g 3 (.slice a9 (qs.length+1) c9)) (fun x hx e=>by simp only[List.mem_singleton]at e;have:=O x hx;omega);have U9:=aH.trans (Out.setCell wc g 3 (.slice a9 (qs.length+1) c9));have a8:Hid ((qs++[(⟨.slice a7 y.length c7,y⟩:USQ)]).map USQ.e=(us.take (k+1)).map USQ.e):=ap.out _ rfl;have ba:Hid ((ussK.fp (.slice a9 (qs.length+1) c9) (qs++[(⟨.slice a7 y.length c7,y⟩:USQ)])).Nodup∧∀x∈ussK.fp (.slice a9 (qs.length+1) c9) (qs++[(⟨.slice a7 y.length c7,y⟩:USQ)]),w5.heap.size≤x):=⟨au,O⟩
   have HR:Hid (_∧_∧_):=⟨B9,O9,U9⟩
   clear B9 O9 U9 Bg af hO aH T aG aF ap HN au O L ay av aw o7 l7
   go_wp2
   go_roundw
   case rel=>exact⟨k+1,_,_,by omega,by go_num,HR.out.1,HR.out.2.1,a8,ba,HR.out.2.2⟩
   case measure=>simp[intOf];omega
  ·have bf:k=us.length:=by omega
   subst bf;have hE:=HE.out;rw[List.take_length]at hE;have aU:¬((us.length:Int)<(us.length:Int)):=by omega
   have ao:=(Bv.below U).outs8 hU (fun hx=>by simp only[List.mem_singleton]at hx;omega);have aX:=HN.out.1;have J:=HN.out.2;have RF:Hid (∀u0 u1 u2 u3 u4:Value,repK.own (((((wr.setCell ⟨rc+1,0,none⟩ u0).setCell ⟨rc+1,1,none⟩ u1).setCell ⟨rc+1,2,none⟩ u2).setCell ⟨rc+1,3,none⟩ u3).setCell ⟨rc+1,4,none⟩ u4) (⟨.slice a1 q1.length k1,q1,.slice b1 xs.length c1,xs,.slice a3 q3.length k3,q3,.slice sa qs.length sc,qs,.slice b2 ys.length c2,ys⟩:RepQ)∧Below rc w (((((wr.setCell ⟨rc+1,0,none⟩ u0).setCell ⟨rc+1,1,none⟩ u1).setCell ⟨rc+1,2,none⟩ u2).setCell ⟨rc+1,3,none⟩ u3).setCell ⟨rc+1,4,none⟩ u4)):=fun u0 u1 u2 u3 u4=>by
    have hS:Out [rc+1] wr (((((wr.setCell ⟨rc+1,0,none⟩ u0).setCell ⟨rc+1,1,none⟩ u1).setCell ⟨rc+1,2,none⟩ u2).setCell ⟨rc+1,3,none⟩ u3).setCell ⟨rc+1,4,none⟩ u4):=((((Out.setCell wr (rc+1) 0 u0).trans (Out.setCell _ (rc+1) 1 u1)).trans (Out.setCell _ (rc+1) 2 u2)).trans (Out.setCell _ (rc+1) 3 u3)).trans (Out.setCell _ (rc+1) 4 u4);have hA:Out [g,rc+1] w5 (((((wr.setCell ⟨rc+1,0,none⟩ u0).setCell ⟨rc+1,1,none⟩ u1).setCell ⟨rc+1,2,none⟩ u2).setCell ⟨rc+1,3,none⟩ u3).setCell ⟨rc+1,4,none⟩ u4):=(hU.mono (fun x hx=>by simp only[List.mem_singleton]at hx;simp[hx])).trans (hS.mono (fun x hx=>by simp only[List.mem_singleton]at hx;simp[hx]));have nn:∀x,X.heap.size≤x∧x≠g→x∉[g,rc+1]:=fun x hx hm=>by
     simp only[List.mem_cons,List.not_mem_nil,or_false]at hm;omega
    refine⟨⟨FO.od.out hA (fun x hx=>nn x (FO.lo x (List.mem_append_left _ hx))),FO.ob.out hA (fun x hx=>by rw[z0l]at hx;exact nn x (FO.lo x (List.mem_append_right _ (List.mem_append_left _ hx)))),FO.ot.out hA (fun x hx=>nn x (FO.lo x (List.mem_append_right _ (List.mem_append_right _ (List.mem_append_left _ hx))))),hO.out hS (fun x hx e=>by simp only[List.mem_singleton]at e;have:=J x hx;have:=U.size;omega),FO.on.out hA (fun x hx=>by rw[z0l]at hx;exact nn x (FO.lo x (List.mem_append_right _ (List.mem_append_right _ (List.mem_append_right _ hx)))))⟩,?_⟩;have h1:=V.trans (aI.mono (by omega));exact Out.keep h1 hS (by omega) (fun x hx=>by simp only[List.mem_singleton]at hx;omega)
   have R1:Hid ((repK.foot (⟨.slice a1 q1.length k1,q1,.slice b1 xs.length c1,xs,.slice a3 q3.length k3,q3,.slice sa qs.length sc,qs,.slice b2 ys.length c2,ys⟩:RepQ)).Nodup∧∀x∈repK.foot (⟨.slice a1 q1.length k1,q1,.slice b1 xs.length c1,xs,.slice a3 q3.length k3,q3,.slice sa qs.length sc,qs,.slice b2 ys.length c2,ys⟩:RepQ),rc≤x):=by
    have hA:=List.nodup_append.1 FO.nd;have hB:=List.nodup_append.1 hA.2.1;have hC:=List.nodup_append.1 hB.2.1;have lA:=FO.od.lt;have lB:∀x∈blk (.slice b1 xs.length c1),x<w5.heap.size:=z0z FO.ob.1;have lC:=FO.ot.lt;have lD:∀x∈blk (.slice b2 ys.length c2),x<w5.heap.size:=z0z FO.on.1;have e1:itemK.fp (.slice b1 xs.length c1) xs=blk (.slice b1 xs.length c1):=z0l _ _;have e2:itemK.fp (.slice b2 ys.length c2) ys=blk (.slice b2 ys.length c2):=z0l _ _;show List.Nodup (txnK.fp (.slice a1 q1.length k1) q1++(itemK.fp (.slice b1 xs.length c1) xs++(txnK.fp (.slice a3 q3.length k3) q3++(ussK.fp (.slice sa qs.length sc) qs++itemK.fp (.slice b2 ys.length c2) ys))))∧∀x∈txnK.fp (.slice a1 q1.length k1) q1++(itemK.fp (.slice b1 xs.length c1) xs++(txnK.fp (.slice a3 q3.length k3) q3++(ussK.fp (.slice sa qs.length sc) qs++itemK.fp (.slice b2 ys.length c2) ys))),rc≤x;rw[e1,e2];refine⟨List.nodup_append.2 ⟨hA.1,List.nodup_append.2 ⟨hB.1,List.nodup_append.2 ⟨hC.1,List.nodup_append.2 ⟨aX,hC.2.1,?_⟩,?_⟩,?_⟩,?_⟩,?_⟩
    ·intro a ha b hb e;have:=J a ha;have:=lD b hb;omega
    ·intro a ha b hb e;rcases List.mem_append.1 hb with hb|hb
     ·have:=J b hb;have:=lC a ha;omega
     ·exact hC.2.2 a ha b hb e
    ·intro a ha b hb e;rcases List.mem_append.1 hb with hb|hb
     ·exact hB.2.2 a ha b (List.mem_append_left _ hb) e
     rcases List.mem_append.1 hb with hb|hb
     ·have:=J b hb;have:=lB a ha;omega
     ·exact hB.2.2 a ha b (List.mem_append_right _ hb) e
    ·intro a ha b hb e;rcases List.mem_append.1 hb with hb|hb
     ·exact hA.2.2 a ha b (List.mem_append_left _ hb) e
     rcases List.mem_append.1 hb with hb|hb
     ·exact hA.2.2 a ha b (List.mem_append_right _ (List.mem_append_left _ hb)) e
     rcases List.mem_append.1 hb with hb|hb
     ·have:=J b hb;have:=lA a ha;omega
     ·exact hA.2.2 a ha b (List.mem_append_right _ (List.mem_append_right _ hb)) e
    ·intro x hx;have bH:=U.size;rcases List.mem_append.1 hx with hx|hx
     ·have:=(FO.lo x (List.mem_append_left _ hx)).1;omega
     rcases List.mem_append.1 hx with hx|hx
     ·have:=(FO.lo x (List.mem_append_right _ (List.mem_append_left _ hx))).1;omega
     rcases List.mem_append.1 hx with hx|hx
     ·have:=(FO.lo x (List.mem_append_right _ (List.mem_append_right _ (List.mem_append_left _ hx)))).1;omega
     rcases List.mem_append.1 hx with hx|hx
     ·have:=J x hx;omega
     ·have:=(FO.lo x (List.mem_append_right _ (List.mem_append_right _ (List.mem_append_right _ hx)))).1;omega
   have R2:Hid (RepQ.e (⟨.slice a1 q1.length k1,q1,.slice b1 xs.length c1,xs,.slice a3 q3.length k3,q3,.slice sa qs.length sc,qs,.slice b2 ys.length c2,ys⟩:RepQ)=(⟨ds.map TxnQ.e,xs,ts.map TxnQ.e,us.map USQ.e,ys⟩:RepE)):=show _=_ by
    simp only[RepQ.e,e1,e3,hE]
   clear HN HE aX J FO dU;obtain⟨r0,r1,r2,r3,r4⟩:=Bg.cel5;obtain⟨z0,z1,z2,z3,z4⟩:=ao.cel5;obtain⟨g0,g1,g2,g3,g4⟩:=ao.frz5;clear Bg ao hO hU
   go_wp2
   exact bodyPost_ret (v:=.agg #[.slice a1 q1.length k1,.slice b1 xs.length c1,.slice a3 q3.length k3,.slice sa qs.length sc,.slice b2 ys.length c2]) (by simp[results,Tryz.results154,go_sem,z0,z1,z2,z3,z4]) rfl ⟨(⟨.slice a1 q1.length k1,q1,.slice b1 xs.length c1,xs,.slice a3 q3.length k3,q3,.slice sa qs.length sc,qs,.slice b2 ys.length c2,ys⟩:RepQ),rfl,R2.out,(RF.out _ _ _ _ _).1,R1.out.1,R1.out.2,(RF.out _ _ _ _ _).2⟩
theorem z92{t:TxnD}(h:t.F=0):0<t.acts.length:=(z0W (show txnF t.id t.session t.seq t.acts=0 from h)).1.1
theorem q4Z{p:RepQ}(h:repF p.e=0):(∀t∈p.done,0<t.acts.length)∧∀t∈p.tent,0<t.acts.length:=by
 obtain⟨_,_,_,h1,h2,_⟩:=q2C h;exact⟨fun t ht=>z92 (h1 _ (List.mem_map.2 ⟨t,ht,rfl⟩)),fun t ht=>z92 (h2 _ (List.mem_map.2 ⟨t,ht,rfl⟩))⟩
def q40(w w':World)(D kn sf:Int)(x:RepE)(e:Ending):Prop:=
 (D≠0∧e=.returned (.tuple #[.pointer none,.int .i64 D])∧Below w.heap.size w w')∨
 (D=0∧∃ (g:Nat) (q:RepQ),e=.returned (.tuple #[.pointer (some ⟨g,0,none⟩),.int .i64 0])∧Blk w' g 31 #[.int .i64 kn,.int .i64 sf,q.vd,q.vb,q.vt,q.vu,q.vn]∧q.e=x∧repK.own w' q∧(repK.foot q).Nodup∧(∀k∈repK.foot q,w.heap.size≤k∧k≠g)∧w.heap.size≤g∧Below w.heap.size w w')
theorem z7y(kn sf:Int)(p:RepQ)(w:World)(hp:repK.own w p)(hl:p.n≤1048576)(ai:(∀t∈p.done,0<t.acts.length)∧∀t∈p.tent,0<t.acts.length):
  Calls Tryz.prog 99 #[.agg #[.int .i64 kn,.int .i64 sf,p.vd,p.vb,p.vt,p.vu,p.vn]] w fun e w'=>∃q:RepQ,e=.returned (.agg #[.int .i64 kn,.int .i64 sf,q.vd,q.vb,q.vt,q.vu,q.vn])∧q.e=p.e∧repK.own w' q∧(repK.foot q).Nodup∧(∀k∈repK.foot q,w.heap.size≤k)∧Below w.heap.size w w':=by
 have ad:=fun w h=>z4J p w h hl ai
 have ae:=fun(w':World) (hb:Below w.heap.size w w')=>repK.own_out (F:=[]) (w':=w') hp (Out.of_below hb) (fun _ _=>by simp)
 clear ai hl;generalize p.e=PE at*;obtain⟨vd,done,vb,base,vt,aa,vu,I,vn,ab⟩:=p;obtain⟨a0,k0,rfl⟩:∃a c,vd=.slice a done.length c:=hp.1.shape;obtain⟨a1,k1,rfl⟩:∃a c,vb=.slice a base.length c:=hp.2.1.shape;obtain⟨a2,k2,rfl⟩:∃a c,vt=.slice a aa.length c:=hp.2.2.1.shape;obtain⟨a3,k3,rfl⟩:∃a c,vu=.slice a I.length c:=hp.2.2.2.1.shape;obtain⟨a4,k4,rfl⟩:∃a c,vn=.slice a ab.length c:=hp.2.2.2.2.shape;dsimp only at ad ae;have af:Hid _:=ad;have ag:Hid _:=ae;clear ad ae hp;have b0:Below w.heap.size w ((w.alloc (.cells #[.int .i64 kn,.int .i64 sf,.slice a0 done.length k0,.slice a1 base.length k1,.slice a2 aa.length k2,.slice a3 I.length k3,.slice a4 ab.length k4] 31)).alloc (.cells #[.int .i64 0,.int .i64 0,.slice none 0 0,.slice none 0 0,.slice none 0 0,.slice none 0 0,.slice none 0 0] 31)):=by go_grown
 have A:=(Blk.new w 31 #[.int .i64 kn,.int .i64 sf,.slice a0 done.length k0,.slice a1 base.length k1,.slice a2 aa.length k2,.slice a3 I.length k3,.slice a4 ab.length k4]).below (w':=(w.alloc (.cells #[.int .i64 kn,.int .i64 sf,.slice a0 done.length k0,.slice a1 base.length k1,.slice a2 aa.length k2,.slice a3 I.length k3,.slice a4 ab.length k4] 31)).alloc (.cells #[.int .i64 0,.int .i64 0,.slice none 0 0,.slice none 0 0,.slice none 0 0,.slice none 0 0,.slice none 0 0] 31)) (by go_grown);have R:=Blk.new (w.alloc (.cells #[.int .i64 kn,.int .i64 sf,.slice a0 done.length k0,.slice a1 base.length k1,.slice a2 aa.length k2,.slice a3 I.length k3,.slice a4 ab.length k4] 31)) 31 #[.int .i64 0,.int .i64 0,.slice none 0 0,.slice none 0 0,.slice none 0 0,.slice none 0 0,.slice none 0 0];simp only[World.size_alloc]at R;obtain⟨p0,p1,p2,p3,p4,p5,p6⟩:=A.cel7;go_enter Tryz.func99,Tryz.ntmps99
 go_wp2_with fail
 clear p0 p1 p2 p3 p4 p5 p6;generalize (w.alloc (.cells #[.int .i64 kn,.int .i64 sf,.slice a0 done.length k0,.slice a1 base.length k1,.slice a2 aa.length k2,.slice a3 I.length k3,.slice a4 ab.length k4] 31)).alloc (.cells #[.int .i64 0,.int .i64 0,.slice none 0 0,.slice none 0 0,.slice none 0 0,.slice none 0 0,.slice none 0 0] 31)=W at*;have au:=R.lt;refine(af.out W (ag.out W b0)).mono ?_;rintro e w1 ⟨q9,rfl,E0,O0,N0,G0,hb⟩;replace A:=A.below hb;replace R:=R.below hb;replace b0:=b0.trans (hb.mono b0.size);clear hb af ag;obtain⟨ao,y,an,x,aq,z,ar,d,ap,C⟩:=q9;obtain⟨J,T,rfl⟩:∃a c,ao=.slice a y.length c:=O0.1.shape;obtain⟨L,U,rfl⟩:∃a c,an=.slice a x.length c:=O0.2.1.shape;obtain⟨M,X,rfl⟩:∃a c,aq=.slice a z.length c:=O0.2.2.1.shape;obtain⟨N,Y,rfl⟩:∃a c,ar=.slice a d.length c:=O0.2.2.2.1.shape;obtain⟨O,Z,rfl⟩:∃a c,ap=.slice a C.length c:=O0.2.2.2.2.shape;have U1:=z9S w1 w.heap.size (.slice J y.length T) (.slice L x.length U) (.slice M z.length X) (.slice N d.length Y) (.slice O C.length Z);have A2:=A.mid5 (.slice J y.length T) (.slice L x.length U) (.slice M z.length X) (.slice N d.length Y) (.slice O C.length Z);have R2:Blk _ _ _ _:=(U1.block _ R.lt (by simp)).trans R;have OW:=repK.own_out O0 U1 (fun k hk=>by have:=G0 k hk;simp;omega);have ah:=Out.keep b0 U1 b0.size (fun k hk=>by simp at hk;omega);have am:(Tryz.prog.info? 29).map (·.size)=some (#[.slice J y.length T,.slice L x.length U,.slice M z.length X,.slice N d.length Y,.slice O C.length Z]:Array Value).size:=by kernel_rfl
 have al:(Tryz.prog.info? 31).map (·.size)=some (#[.int .i64 kn,.int .i64 sf,.slice J y.length T,.slice L x.length U,.slice M z.length X,.slice N d.length Y,.slice O C.length Z]:Array Value).size:=by kernel_rfl
 generalize hV:w1.setCells w.heap.size 2 [.slice J y.length T,.slice L x.length U,.slice M z.length X,.slice N d.length Y,.slice O C.length Z]=V at*;have R3:=R2.row #[.int .i64 kn,.int .i64 sf,.slice J y.length T,.slice L x.length U,.slice M z.length X,.slice N d.length Y,.slice O C.length Z];have U3:=z1w V (w.heap.size+1) #[.int .i64 kn,.int .i64 sf,.slice J y.length T,.slice L x.length U,.slice M z.length X,.slice N d.length Y,.slice O C.length Z];have aj:=repK.own_out OW U3 (fun k hk=>by have:=G0 k hk;simp;omega);have ak:=Out.keep ah U3 ah.size (fun k hk=>by simp at hk;omega);obtain⟨q0,q1,q2,q3,q4,q5,q6⟩:=A2.cel7
 go_wp2_with (first|(refine q3Q (by kernel_rfl) 29 _ _ rfl _ 2 #[.slice J y.length T,.slice L x.length U,.slice M z.length X,.slice N d.length Y,.slice O C.length Z] rfl rfl 31 _ A am (by simp) (by simp[Value.oneCell']) ?_;(try dsimp only);rw[hV])|(refine z0K (by kernel_rfl) 31 _ _ rfl _ #[.int .i64 kn,.int .i64 sf,.slice J y.length T,.slice L x.length U,.slice M z.length X,.slice N d.length Y,.slice O C.length Z] rfl rfl 31 _ R2 al rfl (by simp[Value.oneCell']) ?_))
 obtain⟨r0,r1,r2,r3,r4,r5,r6⟩:=R3.cel7;exact bodyPost_ret (v:=.agg #[.int .i64 kn,.int .i64 sf,.slice J y.length T,.slice L x.length U,.slice M z.length X,.slice N d.length Y,.slice O C.length Z]) (by simp[results,Tryz.results99,go_sem,r0,r1,r2,r3,r4,r5,r6]) rfl ⟨_,rfl,E0,aj,N0,fun k hk=>by have:=G0 k hk;omega,ak⟩
theorem z9x(v:Value)(ps:List InstQ)(kn sf:Int)(p:RepQ)(w:World)(hG:Rul w)(hE:ErrT w)(h:instK.Own w v ps)(hl:(ps.length+nmL InstQ.n ps)≤1048576)(hp:repK.own w p)(af:p.n≤1048576):
  Calls Tryz.prog 52 #[v,.agg #[.int .i64 kn,.int .i64 sf,p.vd,p.vb,p.vt,p.vu,p.vn]] w fun e w'=>q40 w w' (nodF (ps.map InstQ.e) kn sf p.e) kn sf p.e e:=by
 have am:=h.capOk;have hA:=h.at;have nd:=hp.1.niceV;have nt:=hp.2.2.1.niceV;have ag:=fun w hG hE h hp=>z4d v ps kn sf p w hG hE h am hl hp nd nt af
 have ae:=fun w h ao=>z7y kn sf p w h af ao
 have aa:Hid (nodF (ps.map InstQ.e) kn sf p.e=0→(∀t∈p.done,0<t.acts.length)∧∀t∈p.tent,0<t.acts.length):=fun h0=>q4Z (z2U h0).2.2.2.1
 have ah:=fun(w':World) (hb:Below w.heap.size w w')=>repK.own_out (F:=[]) (w':=w') hp (Out.of_below hb) (fun _ _=>by simp)
 generalize nodF (ps.map InstQ.e) kn sf p.e=D at*;generalize p.e=PE at*;obtain⟨vd,done,vb,base,vt,I,vu,A,vn,Z⟩:=p;obtain⟨a0,k0,rfl⟩:∃a c,vd=.slice a done.length c:=hp.1.shape;obtain⟨a1,k1,rfl⟩:∃a c,vb=.slice a base.length c:=hp.2.1.shape;obtain⟨a2,k2,rfl⟩:∃a c,vt=.slice a I.length c:=hp.2.2.1.shape;obtain⟨a3,k3,rfl⟩:∃a c,vu=.slice a A.length c:=hp.2.2.2.1.shape;obtain⟨a4,k4,rfl⟩:∃a c,vn=.slice a Z.length c:=hp.2.2.2.2.shape;obtain⟨va,vc,rfl⟩:=hA.shape;dsimp only at ag ae ah aa;clear nd nt af hp am;have aj:Hid _:=ag;have ai:Hid _:=ae;have ab:Hid _:=ah;have HH:Hid (instK.At w (.slice va ps.length vc) ps):=hA;clear ag ae ah hA h;have b0:Below w.heap.size w (w.alloc (.cells #[.int .i64 kn,.int .i64 sf,.slice a0 done.length k0,.slice a1 base.length k1,.slice a2 I.length k2,.slice a3 A.length k3,.slice a4 Z.length k4] 31)):=by go_grown
 have A0:=Blk.new w 31 #[.int .i64 kn,.int .i64 sf,.slice a0 done.length k0,.slice a1 base.length k1,.slice a2 I.length k2,.slice a3 A.length k3,.slice a4 Z.length k4];obtain⟨p0,p1,p2,p3,p4,p5,p6⟩:=A0.cel7;go_enter Tryz.func52,Tryz.ntmps52
 go_wp2_with fail
 clear p0 p1 p2 p3 p4 p5 p6;generalize w.alloc (.cells #[.int .i64 kn,.int .i64 sf,.slice a0 done.length k0,.slice a1 base.length k1,.slice a2 I.length k2,.slice a3 A.length k3,.slice a4 Z.length k4] 31)=W at*;refine(aj.out W (hG.below b0) (hE.below b0) (HH.out.below b0) (repK.own_rd (ab.out W b0))).mono ?_;rintro e w1 ⟨rfl,hb⟩;replace A0:=A0.below hb;replace b0:=b0.trans (hb.mono b0.size);clear hb aj;by_cases hD:D=0
 case neg=>
  have ak:(D !=0)=true:=by simpa using hD
  go_wp2
  exact bodyPost_ret (v:=.tuple #[.pointer none,.int .i64 D]) (by simp[results,Tryz.results52,go_sem]) rfl (Or.inl ⟨hD,rfl,b0⟩)
 subst hD;have ak:((0:Int) !=0)=false:=by decide
 have ax:=A0.lt;obtain⟨c0,c1,c2,c3,c4,c5,c6⟩:=A0.cel7
 go_wp2_with fail
 clear ak;clear c0 c1 c2 c3 c4 c5 c6;refine(ai.out _ (ab.out _ b0) (aa.out trivial)).mono ?_;rintro e w2 ⟨q9,rfl,e9,o9,n9,g9,al⟩;have az:=b0.size;replace b0:=b0.trans (al.mono b0.size);clear al ai A0;have an:∀k∈repK.foot q9,k<w2.heap.size:=fun k hk=>repK.own_lt o9 k hk
 have HQ:Hid (q9.e=PE∧(repK.foot q9).Nodup∧(∀k∈repK.foot q9,w1.heap.size≤k)∧∀k∈repK.foot q9,k<w2.heap.size):=⟨e9,n9,g9,an⟩
 clear e9 n9 g9 an;obtain⟨ar,y,aq,x,av,z,aw,d,au,C⟩:=q9;obtain⟨J,T,rfl⟩:∃a c,ar=.slice a y.length c:=o9.1.shape;obtain⟨L,U,rfl⟩:∃a c,aq=.slice a x.length c:=o9.2.1.shape;obtain⟨M,V,rfl⟩:∃a c,av=.slice a z.length c:=o9.2.2.1.shape;obtain⟨N,X,rfl⟩:∃a c,aw=.slice a d.length c:=o9.2.2.2.1.shape;obtain⟨O,Y,rfl⟩:∃a c,au=.slice a C.length c:=o9.2.2.2.2.shape;have Bz:=Blk.new w2 31 #[.int .i64 0,.int .i64 0,.slice none 0 0,.slice none 0 0,.slice none 0 0,.slice none 0 0,.slice none 0 0];have ad:Below w2.heap.size w2 (w2.alloc (.cells #[.int .i64 0,.int .i64 0,.slice none 0 0,.slice none 0 0,.slice none 0 0,.slice none 0 0,.slice none 0 0] 31)):=by go_grown
 have ay:=b0.size;replace o9:=repK.own_out (F:=[]) o9 (Out.of_below ad) (fun _ _=>by simp);replace b0:=b0.trans (ad.mono b0.size);have ap:(Tryz.prog.info? 31).map (·.size)=some (#[.int .i64 kn,.int .i64 sf,.slice J y.length T,.slice L x.length U,.slice M z.length V,.slice N d.length X,.slice O C.length Y]:Array Value).size:=by kernel_rfl
 have Bk:=Bz.row #[.int .i64 kn,.int .i64 sf,.slice J y.length T,.slice L x.length U,.slice M z.length V,.slice N d.length X,.slice O C.length Y];have U3:=z1w (w2.alloc (.cells #[.int .i64 0,.int .i64 0,.slice none 0 0,.slice none 0 0,.slice none 0 0,.slice none 0 0,.slice none 0 0] 31)) w2.heap.size #[.int .i64 kn,.int .i64 sf,.slice J y.length T,.slice L x.length U,.slice M z.length V,.slice N d.length X,.slice O C.length Y];have O3:=repK.own_out o9 U3 (fun k hk=>by have:=HQ.out.2.2.2 k hk;simp;omega);have b3:=Out.keep b0 U3 b0.size (fun k hk=>by simp at hk;omega);clear ad o9 b0 ab HH
 go_wp2_with (refine z0K (by kernel_rfl) 31 _ _ rfl _ #[.int .i64 kn,.int .i64 sf,.slice J y.length T,.slice L x.length U,.slice M z.length V,.slice N d.length X,.slice O C.length Y] rfl rfl 31 _ Bz ap rfl (by simp[Value.oneCell']) ?_)
 obtain⟨q1,q2,q3,q4⟩:=HQ.out;exact bodyPost_ret (v:=.tuple #[.pointer (some ⟨w2.heap.size,0,none⟩),.int .i64 0]) (by simp[results,Tryz.results52,go_sem]) rfl (Or.inr ⟨rfl,w2.heap.size,_,rfl,Bk,q1,O3,q2,fun k hk=>⟨by have:=q3 k hk;omega,by have:=q4 k hk;omega⟩,by omega,b3⟩)
end Go.Proofs.YtlkpdgjnhkjpjaaGreatDoor
