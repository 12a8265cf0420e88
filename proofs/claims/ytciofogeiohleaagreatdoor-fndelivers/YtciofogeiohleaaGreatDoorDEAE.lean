/- Texts joined,with what the laws reach alone. -/
import Derived.Test.YtciofogeiohleaaGreatDoorDEAD
set_option linter.unusedVariables false
set_option linter.unusedSimpArgs false
set_option maxRecDepth 100000
set_option maxHeartbeats 2000000
namespace Go.Proofs.YtciofogeiohleaaGreatDoor
open Go.RowKit Go.BigFrame
theorem z0e{w wr w':World}{b:Nat}(hg:w.grownBy wr (some b))(hb:Below w.heap.size wr w'):w.grownBy w' (some b):=
 ⟨hb.os.trans hg.os,hb.tape.trans hg.tape,hb.output.trans hg.output,by have:=hg.size;have:=hb.size;omega,fun k hk hne=>(hb.block k hk).trans (hg.block k hk hne)⟩
theorem Src.low{B b T N:Nat}{w w':World}(h:Src B w b T)(hb:Below N w w')(hN:b<N):Src B w' b T:=
 h.kept hb.size (hb.block b hN) (fun k hk=>hb.block k (by have:=h.lt;omega))
theorem z1t(xs:List ActD)(z:ActD):z0i (xs++[z])=z0i xs++[.int .i64 z.kind,.int .i64 z.key,.int .i64 z.val]:=by simp[z0i,ActD.cells]
theorem z4N(B b T:Nat)(w:World)(hS:Src B w b T)(hT:T≤1000000):
  Calls Tryz.prog 155 #[.pointer (some ⟨b,0,none⟩)] w fun e w'=>∃k y z:Int,e=.returned (.agg #[.int .i64 k,.int .i64 y,.int .i64 z])∧Src B w' b (T+3)∧w.grownBy w' (some b):=by
 have J:=hS.lt;have B0:=Blk.new w 163 #[.int .i64 0,.int .i64 0,.int .i64 0];have hg:w.grownBy (w.alloc (.cells #[.int .i64 0,.int .i64 0,.int .i64 0] 163)) (some b):=World.grownBy_alloc w _ _;replace hS:Src B (w.alloc (.cells #[.int .i64 0,.int .i64 0,.int .i64 0] 163)) b T:=hS.below (by go_grown);go_enter Tryz.func155,Tryz.ntmps155
 go_wp2_with fail
 have D:w.heap.size+1=(w.alloc (.cells #[.int .i64 0,.int .i64 0,.int .i64 0] 163)).heap.size:=by simp
 generalize w.alloc (.cells #[.int .i64 0,.int .i64 0,.int .i64 0] 163)=W1 at B0 hg hS D;try simp only[D]
 replace D:w.heap.size<W1.heap.size:=by omega
 have M:=hS.lt;have d:Below W1.heap.size W1 (W1.alloc (.cells #[.int .i64 1,.int .i64 1,.int .i64 2,.int .i64 2,.int .i64 3,.int .i64 4] 2)):=by go_grown
 replace B0:=B0.below d;replace hg:=hg.trans (World.grownBy_alloc W1 (.cells #[.int .i64 1,.int .i64 1,.int .i64 2,.int .i64 2,.int .i64 3,.int .i64 4] 2) (some b));refine(z0U B b T W1.heap.size _ [1,1,2,2,3,4] _ (hS.below (by go_grown)) (by omega) (World.ownsRow_lit W1 _ 6 (Nat.le_refl _) (by decide) rfl) (by simp) (by simp) (by simp[Value.ownBlock];omega)).mono ?_;rintro e w3 ⟨k,rfl,A,h,c⟩;replace B0:=B0.grown c (by simp;omega);replace hg:=hg.trans c;replace hS:=h;have U:=c.size;clear c h;clear A
 go_wp2_with fail
 refine(z0t B b (T+1) 4 w3 hS (by omega) (by omega)).mono ?_;rintro e w4 ⟨r,rfl,hr,h,c⟩;have r1:=hr.1;have r2:=hr.2.1 (by omega);replace B0:=B0.grown c (by simp;omega);replace hg:=hg.trans c;replace hS:=h;have V:=c.size;clear c h;clear hr;have d:Below w4.heap.size w4 (w4.alloc (.cells #[.int .i64 k,.int .i64 (1+r),.int .i64 0] 163)):=by go_grown
 have B1:=Blk.new w4 163 #[.int .i64 k,.int .i64 (1+r),.int .i64 0];have L:=B0.lt;have C:=B0;have E:=hS;have I:=hg;replace B0:=B0.below d;replace hS:=hS.below d;have Y:=hg.size;replace hg:=z0e hg (d.mono Y);have q0:=B1.cell 0 _ rfl;clear d;by_cases hk:k=3
 ·have X:(k !=3)=false:=by simp[hk]
  obtain⟨p0,p1,p2⟩:=C.cel3;obtain⟨f0,f1,f2⟩:=C.frz3;clear B0 B1 C hS hg hk q0
  go_wp2
  refine bodyPost_ret (v:=.agg #[.int .i64 k,.int .i64 (1+r),.int .i64 0]) (by simp[results,Tryz.results155,go_sem,p0,p1,p2,L]) rfl ?_;have x:∀O,Below w.heap.size w4 ((((w4.setCell ⟨w.heap.size,0,none⟩ (.int .i64 k)).setCell ⟨w.heap.size,1,none⟩ (.int .i64 (1+r))).setCell ⟨w.heap.size,2,none⟩ (.int .i64 0)).alloc O):=fun O=>
   ((((Below.refl _ _).setCell (p:=⟨w.heap.size,0,none⟩) (Nat.le_refl _) _).setCell (p:=⟨w.heap.size,1,none⟩) (Nat.le_refl _) _).setCell (p:=⟨w.heap.size,2,none⟩) (Nat.le_refl _) _).alloc (by simp[World.setCell];omega) O
  exact⟨_,_,_,rfl,(E.low (x _) J.2).mono (by omega),z0e I (x _)⟩
 ·have X:(k !=3)=true:=by simp[bne_iff_ne,hk]
  clear C E I
  go_wp2_with fail
  clear q0;have N:w4.heap.size+1=(w4.alloc (.cells #[.int .i64 k,.int .i64 (1+r),.int .i64 0] 163)).heap.size:=by simp
  generalize w4.alloc (.cells #[.int .i64 k,.int .i64 (1+r),.int .i64 0] 163)=W5 at*;simp only[N];clear N;have M:=hS.lt;have d:Below W5.heap.size W5 (W5.alloc (.cells #[.int .i64 0,.int .i64 1,.int .i64 5,.int .i64 (-3),.int .i64 1000] 2)):=by go_grown
  replace B0:=B0.below d;replace B1:=B1.below d;replace hg:=hg.trans (World.grownBy_alloc W5 (.cells #[.int .i64 0,.int .i64 1,.int .i64 5,.int .i64 (-3),.int .i64 1000] 2) (some b));refine(z0U B b (T+1+1) W5.heap.size _ [0,1,5,-3,1000] _ (hS.below (by go_grown)) (by omega) (World.ownsRow_lit W5 _ 5 (Nat.le_refl _) (by decide) rfl) (by simp) (by simp) (by simp[Value.ownBlock];omega)).mono ?_;rintro e w6 ⟨z,rfl,A,h,c⟩;replace B0:=B0.grown c (by simp;omega);replace B1:=B1.grown c (by simp;omega);replace hg:=hg.trans c;replace hS:=h;have W:=c.size;clear c h;clear A;have aa:w4.heap.size<w6.heap.size:=B1.lt;obtain⟨q0,q1,q2⟩:=B1.cel3;have g2:=B1.frozen 2;obtain⟨p0,p1,p2⟩:=B0.cel3;obtain⟨f0,f1,f2⟩:=B0.frz3;have Z:w.heap.size≠w4.heap.size:=by omega
  clear B0 B1 hk
  go_wp2
  refine bodyPost_ret (v:=.agg #[.int .i64 k,.int .i64 (1+r),.int .i64 z]) (by simp[results,Tryz.results155,go_sem,p0,p1,p2]) rfl ?_;have x:Below w.heap.size w6 ((((w6.setCell ⟨w4.heap.size,2,none⟩ (.int .i64 z)).setCell ⟨w.heap.size,0,none⟩ (.int .i64 k)).setCell ⟨w.heap.size,1,none⟩ (.int .i64 (1+r))).setCell ⟨w.heap.size,2,none⟩ (.int .i64 z)):=by
   exact((((Below.refl _ _).setCell (p:=⟨w4.heap.size,2,none⟩) (show w.heap.size≤w4.heap.size by omega) _).setCell (p:=⟨w.heap.size,0,none⟩) (Nat.le_refl _) _).setCell (p:=⟨w.heap.size,1,none⟩) (Nat.le_refl _) _).setCell (p:=⟨w.heap.size,2,none⟩) (Nat.le_refl _) _
  exact⟨_,_,_,rfl,(hS.low x J.2).mono (by omega),z0e hg x⟩
theorem z4q(B b T:Nat)(w:World)(hS:Src B w b T)(hT:T≤900000):
  Calls Tryz.prog 96 #[.pointer (some ⟨b,0,none⟩)] w fun e w'=>∃ (i s q:Int) (a:Option Addr) (c:Nat) (xs:List ActD),e=.returned (.agg #[.int .i64 i,.int .i64 s,.int .i64 q,.slice a xs.length c])∧1≤xs.length∧xs.length≤3∧
   w'.ownsRow w.heap.size 163 3 (.slice a xs.length c) xs.length (z0i xs)∧Src B w' b (T+13)∧w.grownBy w' (some b):=by
 have am:=hS.lt;have B0:=Blk.new w 44 #[.int .i64 0,.int .i64 0,.int .i64 0,.slice none 0 0];have hg:w.grownBy (w.alloc (.cells #[.int .i64 0,.int .i64 0,.int .i64 0,.slice none 0 0] 44)) (some b):=World.grownBy_alloc w _ _;replace hS:Src B (w.alloc (.cells #[.int .i64 0,.int .i64 0,.int .i64 0,.slice none 0 0] 44)) b T:=hS.below (by go_grown);go_enter Tryz.func96,Tryz.ntmps96
 go_wp2_with fail
 generalize w.alloc (.cells #[.int .i64 0,.int .i64 0,.int .i64 0,.slice none 0 0] 44)=W1 at B0 hg hS;refine(z0t B b T 12 W1 hS (by omega) (by omega)).mono ?_;rintro e w3 ⟨r,rfl,hr,x,d⟩;have r1:=hr.1;have r2:=hr.2.1 (by omega);replace B0:=B0.grown d (by simp;omega);replace hg:=hg.trans d;replace hS:=x;have O:=d.size;clear d x;clear hr
 go_wp2_with fail
 refine(z0t B b (T+1) 3 w3 hS (by omega) (by omega)).mono ?_;rintro e w4 ⟨s,rfl,hr,x,d⟩;have s1:=hr.1;have s2:=hr.2.1 (by omega);replace B0:=B0.grown d (by simp;omega);replace hg:=hg.trans d;replace hS:=x;have U:=d.size;clear d x;clear hr
 go_wp2_with fail
 refine(z0t B b (T+1+1) 4 w4 hS (by omega) (by omega)).mono ?_;rintro e w5 ⟨q,rfl,hr,x,d⟩;have q1:=hr.1;have q2:=hr.2.1 (by omega);replace B0:=B0.grown d (by simp;omega);replace hg:=hg.trans d;replace hS:=x;have V:=d.size;clear d x;clear hr;have A:Below w5.heap.size w5 (w5.alloc (.cells #[.int .i64 (1+r),.int .i64 (1+s),.int .i64 (1+q),.slice none 0 0] 44)):=by go_grown
 have Bt:=Blk.new w5 44 #[.int .i64 (1+r),.int .i64 (1+s),.int .i64 (1+q),.slice none 0 0];have ay:w.heap.size<w5.heap.size:=B0.lt;replace B0:=B0.below A;replace hS:=hS.below A;replace hg:=z0e hg (A.mono hg.size)
 go_wp2_with fail
 have ae:(w5.alloc (.cells #[.int .i64 (1+r),.int .i64 (1+s),.int .i64 (1+q),.slice none 0 0] 44)).heap.size=w5.heap.size+1:=by simp
 generalize w5.alloc (.cells #[.int .i64 (1+r),.int .i64 (1+s),.int .i64 (1+q),.slice none 0 0] 44)=W6 at B0 Bt hS hg ae;clear A;refine(z0t B b (T+1+1+1) 3 W6 hS (by omega) (by omega)).mono ?_;rintro e w7 ⟨k,rfl,hr,x,d⟩;have k1:=hr.1;have k2:=hr.2.1 (by omega);replace B0:=B0.grown d (by simp;omega);replace Bt:=Bt.grown d (by simp;omega);replace hg:=hg.trans d;replace hS:=x;have W:=d.size;clear d x;clear hr;obtain⟨j0,rfl⟩:=Int.eq_ofNat_of_zero_le k1;have au:j0≤2:=by omega
 have af:w5.heap.size+1≤w7.heap.size:=by omega
 clear k1 k2 ae W O U V;have ax:(0:Int)≤1+r∧1+r≤100:=by omega
 go_wp2
 go_loopw[4] (fun c wr=>∃ (j:Nat) (xs:List ActD) (a1:Option Addr) (c1:Nat),c=.int .i64 j∧j+xs.length≤3∧1≤j+xs.length∧Blk wr w.heap.size 44 #[.int .i64 0,.int .i64 0,.int .i64 0,.slice none 0 0]∧Blk wr w5.heap.size 44 #[.int .i64 (1+r),.int .i64 (1+s),.int .i64 (1+q),.slice a1 xs.length c1]∧wr.ownsRow (w5.heap.size+1) 163 3 (.slice a1 xs.length c1) xs.length (z0i xs)∧Src B wr b (T+4+3*xs.length)∧w.grownBy wr (some b)∧w5.heap.size+1≤wr.heap.size) (fun c _=>(intOf c).toNat)
 case atStart=>exact⟨j0+1,[],none,0,by go_num,by simp;omega,by simp,B0,Bt,World.ownsRow_nil _ _ _ _,hS,hg,af⟩
 case round=>
  clear B0 Bt hS hg af;obtain⟨j,xs,a1,c1,rfl,aw,av,B0,Bt,ho,hS,hg,ah⟩:=hrel;by_cases aq:0<j
  ·have an:some b≠Value.ownBlock (.slice a1 xs.length c1):=z0N ho (Or.inl (by omega));have t3:wr.cell? ⟨w5.heap.size,3,none⟩=some (.slice a1 xs.length c1):=Bt.cell 3 _ rfl;generalize hP:(fun u:World=>u.cell? ⟨w5.heap.size,3,none⟩=some (.slice a1 xs.length c1))=PP;have Y:PP wr:=by subst hP;exact t3
   have al:∀u:KeepP PP,u.val.cell? ⟨w5.heap.size,3,none⟩=some (.slice a1 xs.length c1):=fun u=>by have:=u.isP;subst hP;exact this
   have ao:Nonempty (KeepP PP):=⟨⟨wr,Y⟩⟩
   go_wp2_with fail
   refine z1S (S:=fun w'=>∃u:KeepP PP,w'=u.val) (R:=fun _ _=>False) 7 (by kernel_rfl) (fun _ _ _ _ h=>h.elim) ?_;have aa:PP wr.drew:=by subst hP;exact Y
   refine sgX [(0,3)] 5 (by kernel_rfl) ⟨⟨wr.drew,aa⟩,rfl⟩ ?_;simp only[pkE];repeat go_big_quiet_step (fail)
   refine wpQuiet_nil ?_;clear al ao Y t3 aa;replace Bt:Blk wr.drew w5.heap.size 44 #[.int .i64 (1+r),.int .i64 (1+s),.int .i64 (1+q),.slice a1 xs.length c1]:=Bt;replace B0:Blk wr.drew w.heap.size 44 #[.int .i64 0,.int .i64 0,.int .i64 0,.slice none 0 0]:=B0;replace ho:=ho.drew;have Z:Below wr.heap.size wr wr.drew:=(Below.refl _ _).drew;replace hS:=hS.below Z;replace hg:=z0e hg (Z.mono hg.size);have C:∀u:World,Blk u w5.heap.size 44 #[.int .i64 (1+r),.int .i64 (1+s),.int .i64 (1+q),.slice a1 xs.length c1]→PP u:=by
    intro u hu;subst hP;exact hu.cell 3 _ rfl
   clear hP Z;have M:w5.heap.size+1≤wr.drew.heap.size:=ah;generalize wr.drew=wd at Bt B0 ho hS hg M;refine clX 3 (some 25) 155 #[.pointer (some ⟨b,0,none⟩)] 4 (by kernel_rfl) rfl ?_;refine(z4N B b (T+4+3*xs.length) wd hS (by omega)).mono ?_;rintro e w8 ⟨k,y,z,rfl,x,d⟩;refine Or.inl ⟨_,rfl,?_⟩;replace Bt:=Bt.grown d (by simp;omega);replace B0:=B0.grown d (by simp;omega);replace ho:=ho.kept d (Or.inr (fun e=>an e.symm));replace hg:=hg.trans d;replace hS:=x;have ar:w5.heap.size+1≤w8.heap.size:=Nat.le_trans M d.size;clear d x ah M;refine⟨⟨⟨w8,C _ Bt⟩,rfl⟩,?_⟩;simp only[Act.put,pgE,pjE];have A:Below w8.heap.size w8 (w8.alloc (.cells #[.int .i64 k,.int .i64 y,.int .i64 z] 163)):=by go_grown
   refine onX 4 3 rfl (by kernel_rfl) ?_
   go_wp2
   replace Bt:=Bt.below A;replace B0:=B0.below A;replace hS:=hS.below A;replace hg:=z0e hg (A.mono hg.size);refine ThenX.to ⟨Or.inr ⟨⟨_,C _ Bt⟩,rfl⟩,?_⟩;have J:(w5.heap.size+1)≤(w8.alloc (.cells #[.int .i64 k,.int .i64 y,.int .i64 z] 163)).heap.size:=by simp;omega
   have L:∀j u,[Value.int .i64 k,.int .i64 y,.int .i64 z][j]?=some u→(w8.alloc (.cells #[.int .i64 k,.int .i64 y,.int .i64 z] 163)).cell? ((⟨w8.heap.size,0,none⟩:Addr).add j)=some u:=by
    intro j u hj;match j,hj with|0,hj=>simp at hj;subst hj;simp[Addr.add]|1,hj=>simp at hj;subst hj;simp[Addr.add]|2,hj=>simp at hj;subst hj;simp[Addr.add]
   replace ho:=z0a ho A;generalize w8.alloc (.cells #[.int .i64 k,.int .i64 y,.int .i64 z] 163)=wb at A Bt B0 hS hg J L ho;obtain⟨i0,hi,ai,aj,ak⟩:=info_parts z1N;refine onX 5 2 rfl (by kernel_rfl) ?_;refine wpList_append_own _ rfl _ _ 42 rfl (w5.heap.size+1) 163 i0 (.agg #[.int .i64 0,.int .i64 0,.int .i64 0]) 3 24 Tryz.underlying42 hi ai aj ak rfl (by decide) _ xs.length (z0i xs) rfl ho ⟨w8.heap.size,0,none⟩ 1 1 [.int .i64 k,.int .i64 y,.int .i64 z] rfl rfl L ?c2 ?c3 ?c4 ?c5 ?_
   case c2=>intro u hu;simp at hu;rcases hu with rfl|rfl|rfl<;>rfl
   case c3=>unfold maxLen;omega
   case c4=>omega
   case c5=>exact J
   intro v' wc I E _;obtain⟨a2,c2,rfl⟩:=z0b I;have ad:∀j,(Value.slice a1 xs.length c1).ownBlock=some j→(w5.heap.size+1)≤j:=fun j hj=>(ho.lt j hj).1
   have D:Below (w5.heap.size+1) wb wc:=(Below.refl _ _).grown E J ad;have ag:(w5.heap.size+1)≤wc.heap.size:=Nat.le_trans J D.size;replace Bt:Blk wc w5.heap.size 44 #[.int .i64 (1+r),.int .i64 (1+s),.int .i64 (1+q),.slice a1 xs.length c1]:=(D.block _ (by omega)).trans Bt;replace B0:Blk wc w.heap.size 44 #[.int .i64 0,.int .i64 0,.int .i64 0,.slice none 0 0]:=(D.block _ (by omega)).trans B0;replace hS:=hS.low D (by omega);replace hg:=z0e hg (D.mono (by omega));clear E ad D ho A L
   go_wp2
   refine ThenX.to ⟨Or.inr ⟨⟨_,C _ Bt⟩,rfl⟩,?_⟩;simp only[Act.put,pgE,pjE];refine onX 6 1 rfl (by kernel_rfl) ?_
   go_wp2
   refine ThenX.to ⟨Or.inr ⟨⟨_,C _ Bt⟩,rfl⟩,?_⟩;refine onX 7 0 rfl (by kernel_rfl) ?_;have t3:=Bt.cell 3 _ rfl;have t4:=Bt.frozen 3
   go_wp2
   clear t3 t4 C;refine ThenX.to ⟨Or.inl (by kernel_rfl),?_⟩;refine z6X (by kernel_rfl) ?_;have N:Below w5.heap.size wc (wc.setCell ⟨w5.heap.size,3,none⟩ (.slice a2 (xs.length+1) c2)):=(Below.refl _ _).setCell (p:=⟨w5.heap.size,3,none⟩) (Nat.le_refl _) _;replace Bt:Blk (wc.setCell ⟨w5.heap.size,3,none⟩ (.slice a2 (xs.length+1) c2)) w5.heap.size 44 #[.int .i64 (1+r),.int .i64 (1+s),.int .i64 (1+q),.slice a2 (xs.length+1) c2]:=by
    have:=Go.Joins.block_setCell (i:=3) (v:=.slice a2 (xs.length+1) c2) Bt;unfold Blk;simpa using this
   replace B0:=(N.block _ (by omega)).trans B0;have ho:=ownsRow_setCell_below (a:=⟨w5.heap.size,3,none⟩) I (by dsimp only;omega) (.slice a2 (xs.length+1) c2);replace hS:=hS.low N (by omega);replace hg:=z0e hg (N.mono (by omega));have X:(w5.heap.size+1)≤(wc.setCell ⟨w5.heap.size,3,none⟩ (.slice a2 (xs.length+1) c2)).heap.size:=by simpa[World.setCell]using ag
   clear ag J I hi ai aj ak N;generalize wc.setCell ⟨w5.heap.size,3,none⟩ (.slice a2 (xs.length+1) c2)=w9 at Bt B0 ho hS hg X;have ap:w9.ownsRow (w5.heap.size+1) 163 3 (.slice a2 (xs.length+1) c2) (xs.length+1) (z0i (xs++[⟨k,y,z⟩])):=by rw[z1t];exact ho
   clear ho
   go_wp2
   go_roundw
   case rel=>
    refine⟨j-1,xs++[⟨k,y,z⟩],a2,c2,by go_num,by simp;omega,by simp;omega,B0,by simpa using Bt,by simpa using ap,hS.mono (by simp;omega),hg,X⟩
   case measure=>simp[intOf];omega
  ·have p0:=B0.cell 0 _ rfl;have p1:=B0.cell 1 _ rfl;have p2:=B0.cell 2 _ rfl;have p3:=B0.cell 3 _ rfl;obtain⟨f0,f1,f2,f3⟩:=B0.frz4;obtain⟨q0,q1,q2,q3⟩:=Bt.cel4;clear B0 Bt
   go_wp2
   refine bodyPost_ret (v:=.agg #[.int .i64 (1+r),.int .i64 (1+s),.int .i64 (1+q),.slice a1 xs.length c1]) (by simp[results,Tryz.results96,go_sem,p0,p1,p2,p3]) rfl ?_;have ab:∀v0 v1 v2 v3:Value,Below (w.heap.size) wr ((((wr.setCell ⟨w.heap.size,0,none⟩ v0).setCell ⟨w.heap.size,1,none⟩ v1).setCell ⟨w.heap.size,2,none⟩ v2).setCell ⟨w.heap.size,3,none⟩ v3):=fun v0 v1 v2 v3=>
    ((((Below.refl _ _).setCell (p:=⟨w.heap.size,0,none⟩) (Nat.le_refl _) _).setCell (p:=⟨w.heap.size,1,none⟩) (Nat.le_refl _) _).setCell (p:=⟨w.heap.size,2,none⟩) (Nat.le_refl _) _).setCell (p:=⟨w.heap.size,3,none⟩) (Nat.le_refl _) _
   refine⟨_,_,_,a1,c1,xs,rfl,by omega,by omega,?_,(hS.low (ab _ _ _ _) am.2).mono (by omega),z0e hg (ab _ _ _ _)⟩;refine z0m (base:=w5.heap.size+1) ?_ (by omega);repeat' (refine ownsRow_setCell_below ?_ (by dsimp only;omega) _)
   exact ho
section
open Go.Maps
theorem z9e:(madeCells #[Value.int .i64 0,.int .i64 0,.int .i64 0] (0*3)).toList=z0i (List.replicate 0 z0f):=by kernel_rfl
theorem z9f:(madeCells #[Value.int .i64 0,.int .i64 0,.int .i64 0] (5*3)).toList=z0i (List.replicate 5 z0f):=by kernel_rfl
theorem z7R(xs:List ActD)(h:1≤xs.length)(v:Int):∃ys:List ActD,ys.length=xs.length∧(z0i xs).set 1 (.int .i64 v)=z0i ys:=by
 cases xs with
 |nil=>simp at h
 |cons x r=>exact⟨⟨x.kind,v,x.val⟩::r,by simp,by simp[z0i,ActD.cells]⟩
theorem z4r(B b T:Nat)(w:World)(hS:Src B w b T)(hT:T≤900000):
  Calls Tryz.prog 107 #[.pointer (some ⟨b,0,none⟩)] w fun e w'=>∃ (i s q:Int) (a:Option Addr) (c:Nat) (xs:List ActD),e=.returned (.agg #[.int .i64 i,.int .i64 s,.int .i64 q,.slice a xs.length c])∧xs.length≤5∧
   w'.ownsRow w.heap.size 163 3 (.slice a xs.length c) xs.length (z0i xs)∧Src B w' b (T+15)∧w.grownBy w' (some b):=by
 have Z:=hS.lt;have B0:=Blk.new w 44 #[.int .i64 0,.int .i64 0,.int .i64 0,.slice none 0 0];have hg:w.grownBy (w.alloc (.cells #[.int .i64 0,.int .i64 0,.int .i64 0,.slice none 0 0] 44)) (some b):=World.grownBy_alloc w _ _;replace hS:Src B (w.alloc (.cells #[.int .i64 0,.int .i64 0,.int .i64 0,.slice none 0 0] 44)) b T:=hS.below (by go_grown);go_enter Tryz.func107,Tryz.ntmps107
 go_wp2_with fail
 have ar:(w.alloc (.cells #[.int .i64 0,.int .i64 0,.int .i64 0,.slice none 0 0] 44)).heap.size=w.heap.size+1:=by simp
 generalize w.alloc (.cells #[.int .i64 0,.int .i64 0,.int .i64 0,.slice none 0 0] 44)=W1 at B0 hg hS ar;refine(z4q B b T W1 hS hT).mono ?_;rintro e w2 ⟨i,s,q,a,c,xs,rfl,ay,aH,ho,z,d⟩;replace B0:=B0.grown d (by simp;omega);replace hg:=hg.trans d;replace hS:=z;rw[ar]at ho;have U:some b≠Value.ownBlock (.slice a xs.length c):=z0N ho (Or.inl (by omega));have aP:w.heap.size<w2.heap.size:=B0.lt;have I:∀k,Value.ownBlock (.slice a xs.length c)=some k→k<w2.heap.size:=fun k hk=>(ho.lt k hk).2
 clear d z ar;have y:Below w2.heap.size w2 (w2.alloc (.cells #[.int .i64 i,.int .i64 s,.int .i64 q,.slice a xs.length c] 44)):=by go_grown
 have Bt:=Blk.new w2 44 #[.int .i64 i,.int .i64 s,.int .i64 q,.slice a xs.length c];replace B0:=B0.below y;replace hS:=hS.below y;replace ho:=z0a ho y;replace hg:=z0e hg (y.mono hg.size);have J:w2.heap.size+1≤(w2.alloc (.cells #[.int .i64 i,.int .i64 s,.int .i64 q,.slice a xs.length c] 44)).heap.size:=by simp
 go_wp2_with fail
 generalize w2.alloc (.cells #[.int .i64 i,.int .i64 s,.int .i64 q,.slice a xs.length c] 44)=W3 at B0 Bt hS hg ho J;clear y;refine(z0t B b (T+13) 12 W3 hS (by omega) (by omega)).mono ?_;rintro e w4 ⟨r,rfl,hr,z,d⟩;have r1:=hr.1;have r2:=hr.2.1 (by omega);replace B0:=B0.grown d (by simp;omega);replace Bt:=Bt.grown d (by simp;omega);replace ho:=ho.kept d (Or.inr (fun e=>U e.symm));replace hg:=hg.trans d;replace hS:=z;have V:=d.size;clear d z;clear hr;replace J:w2.heap.size+1≤w4.heap.size:=Nat.le_trans J V;clear V;have Y:w.heap.size≠w2.heap.size:=by omega
 have ag:w2.heap.size≠w.heap.size:=by omega
 by_cases ao:r=0
 ·subst ao
  go_wp2_with fail
  have aa:=hS.lt;have y:Below w4.heap.size w4 (w4.alloc (.cells #[.int .i64 0,.int .i64 200,.int .i64 201] 2)):=by go_grown
  replace B0:=B0.below y;replace Bt:=Bt.below y;replace ho:=ho.alloc (.cells #[.int .i64 0,.int .i64 200,.int .i64 201] 2);replace hg:=hg.trans (World.grownBy_alloc w4 (.cells #[.int .i64 0,.int .i64 200,.int .i64 201] 2) (some b));refine(z0U B b (T+13+1) w4.heap.size _ [0,200,201] _ (hS.below (by go_grown)) (by omega) (World.ownsRow_lit w4 _ 3 (Nat.le_refl _) (by decide) rfl) (by simp) (by simp) (by simp[Value.ownBlock];omega)).mono ?_;rintro e w5 ⟨v,rfl,D,z,d⟩;replace B0:=B0.grown d (by simp;omega);replace Bt:=Bt.grown d (by simp;omega);replace ho:=ho.kept d (Or.inr (fun e=>U e.symm));replace hg:=hg.trans d;replace hS:=z;have M:=d.size;clear d z;clear D;have p0:=B0.cell 0 _ rfl;have f0:=B0.frozen 0;have q0:=Bt.cell 0 _ rfl;have p1:=B0.cell 1 _ rfl;have f1:=B0.frozen 1;have q1:=Bt.cell 1 _ rfl;have p2:=B0.cell 2 _ rfl;have f2:=B0.frozen 2;have q2:=Bt.cell 2 _ rfl;have p3:=B0.cell 3 _ rfl;have f3:=B0.frozen 3;have q3:=Bt.cell 3 _ rfl;have g0:=Bt.frozen 0;clear B0 Bt
  go_wp2
  refine bodyPost_ret (v:=.agg #[.int .i64 v,.int .i64 s,.int .i64 q,.slice a xs.length c]) (by simp[results,Tryz.results107,go_sem,p0,p1,p2,p3,ag,Y]) rfl ?_;have C:Below w.heap.size w5 (((((w5.setCell ⟨w2.heap.size,0,none⟩ (.int .i64 v)).setCell ⟨w.heap.size,0,none⟩ (.int .i64 v)).setCell ⟨w.heap.size,1,none⟩ (.int .i64 s)).setCell ⟨w.heap.size,2,none⟩ (.int .i64 q)).setCell ⟨w.heap.size,3,none⟩ (.slice a xs.length c)):=((((((Below.refl _ _).setCell (p:=⟨w2.heap.size,0,none⟩) (show w.heap.size≤w2.heap.size by omega) _).setCell (p:=⟨w.heap.size,0,none⟩) (Nat.le_refl _) _).setCell (p:=⟨w.heap.size,1,none⟩) (Nat.le_refl _) _).setCell (p:=⟨w.heap.size,2,none⟩) (Nat.le_refl _) _).setCell (p:=⟨w.heap.size,3,none⟩) (Nat.le_refl _) _)
  refine⟨v,s,q,a,c,xs,rfl,by omega,?_,(hS.low C Z.2).mono (by omega),z0e hg C⟩;refine z0m (base:=w.heap.size+1) ?_ (by omega);repeat' (first|refine ownsRow_setCell_below ?_ (show _<w.heap.size+1 from Nat.lt_succ_self _) _|refine z0g ?_ (by intro k hk;have:=I k hk;omega))
  exact ho
 have aJ:(r==0)=false:=by simpa using ao
 by_cases ap:r=1
 ·subst ap;have t3:w4.cell? ⟨w2.heap.size,3,none⟩=some (.slice a xs.length c):=Bt.cell 3 _ rfl;generalize hP:(fun u:World=>u.cell? ⟨w2.heap.size,3,none⟩=some (.slice a xs.length c))=PP;have N:PP w4:=by subst hP;exact t3
  have al:∀u:KeepP PP,u.val.cell? ⟨w2.heap.size,3,none⟩=some (.slice a xs.length c):=fun u=>by have:=u.isP;subst hP;exact this
  have an:Nonempty (KeepP PP):=⟨⟨w4,N⟩⟩
  go_wp2_with fail
  refine z1S (S:=fun w'=>∃u:KeepP PP,w'=u.val) (R:=fun _ _=>False) 9 (by kernel_rfl) (fun _ _ _ _ h=>h.elim) ?_;have W:PP w4.drew:=by subst hP;exact N
  refine sgX [(0,3)] 7 (by kernel_rfl) ⟨⟨w4.drew,W⟩,rfl⟩ ?_;simp only[pkE];repeat go_big_quiet_step (fail)
  refine wpQuiet_nil ?_;clear al an N t3 W;replace Bt:Blk w4.drew w2.heap.size 44 #[.int .i64 i,.int .i64 s,.int .i64 q,.slice a xs.length c]:=Bt;replace B0:Blk w4.drew w.heap.size 44 #[.int .i64 0,.int .i64 0,.int .i64 0,.slice none 0 0]:=B0;replace ho:=ho.drew;have O:Below w4.heap.size w4 w4.drew:=(Below.refl _ _).drew;replace hS:=hS.below O;replace hg:=z0e hg (O.mono hg.size);have x:∀u:World,Blk u w2.heap.size 44 #[.int .i64 i,.int .i64 s,.int .i64 q,.slice a xs.length c]→PP u:=by
   intro u hu;subst hP;exact hu.cell 3 _ rfl
  clear hP O;replace J:w2.heap.size+1≤w4.drew.heap.size:=J;generalize w4.drew=wd at Bt B0 ho hS hg J;have aa:=hS.lt;have A:Below wd.heap.size wd (wd.alloc (.cells #[.int .i64 0,.int .i64 3,.int .i64 5] 2)):=by go_grown
  refine onX 3 6 rfl (by kernel_rfl) ?_
  go_wp2
  replace Bt:=Bt.below A;replace B0:=B0.below A;replace ho:=z0a ho A;replace hg:=z0e hg (A.mono hg.size);refine ThenX.to ⟨Or.inr ⟨⟨_,x _ Bt⟩,rfl⟩,?_⟩;refine clX 4 (some 20) 106 #[.pointer (some ⟨b,0,none⟩),.slice (some ⟨wd.heap.size,0,none⟩) 3 3] 5 (by kernel_rfl) rfl ?_;refine(z0U B b (T+13+1) wd.heap.size _ [0,3,5] _ (hS.below A) (by omega) (World.ownsRow_lit wd _ 3 (Nat.le_refl _) (by decide) rfl) (by simp) (by simp) (by simp[Value.ownBlock];omega)).mono ?_;rintro e w5 ⟨k,rfl,D,z,d⟩;refine Or.inl ⟨_,rfl,?_⟩;replace Bt:=Bt.grown d (by simp;omega);replace B0:=B0.grown d (by simp;omega);replace ho:=ho.kept d (Or.inr (fun e=>U e.symm));replace hg:=hg.trans d;replace hS:=z;have aF:w2.heap.size+1≤w5.heap.size:=by have:=d.size;have:=A.size;omega
  clear d z D J A;refine⟨⟨⟨w5,x _ Bt⟩,rfl⟩,?_⟩;simp only[Act.put,pgE,pjE];refine onX 5 4 rfl (by kernel_rfl) ?_
  go_wp2
  refine ThenX.to ⟨Or.inr ⟨⟨_,x _ Bt⟩,rfl⟩,?_⟩;have y:Below w5.heap.size w5 (w5.alloc (.cells #[.int .i64 k,.int .i64 1,.int .i64 1] 163)):=by go_grown
  refine onX 6 3 rfl (by kernel_rfl) ?_
  go_wp2
  replace Bt:=Bt.below y;replace B0:=B0.below y;replace hS:=hS.below y;replace hg:=z0e hg (y.mono hg.size);refine ThenX.to ⟨Or.inr ⟨⟨_,x _ Bt⟩,rfl⟩,?_⟩;have aG:w5.heap.size+1≤(w5.alloc (.cells #[.int .i64 k,.int .i64 1,.int .i64 1] 163)).heap.size:=by simp
  have ae:∀j u,[Value.int .i64 k,.int .i64 1,.int .i64 1][j]?=some u→(w5.alloc (.cells #[.int .i64 k,.int .i64 1,.int .i64 1] 163)).cell? ((⟨w5.heap.size,0,none⟩:Addr).add j)=some u:=by
   intro j u hj;match j,hj with|0,hj=>simp at hj;subst hj;simp[Addr.add]|1,hj=>simp at hj;subst hj;simp[Addr.add]|2,hj=>simp at hj;subst hj;simp[Addr.add]
  replace ho:=z0a ho y;generalize w5.alloc (.cells #[.int .i64 k,.int .i64 1,.int .i64 1] 163)=wb at y Bt B0 hS hg aG ae ho;obtain⟨i0,hi,ai,aj,ak⟩:=info_parts z1N;refine onX 7 2 rfl (by kernel_rfl) ?_;refine wpList_append_own_at _ rfl _ _ 42 rfl (w.heap.size+1) 163 i0 (.agg #[.int .i64 0,.int .i64 0,.int .i64 0]) 3 24 Tryz.underlying42 hi ai aj ak rfl (by decide) _ xs.length (z0i xs) rfl ho ⟨w5.heap.size,0,none⟩ 1 1 [.int .i64 k,.int .i64 1,.int .i64 1] rfl rfl ae ?c2 ?c3 ?c4 ?c5 ?_
  case c2=>intro u hu;simp at hu;rcases hu with rfl|rfl|rfl<;>rfl
  case c3=>unfold maxLen;omega
  case c4=>omega
  case c5=>omega
  intro v' wc ab E _ au;obtain⟨a2,c2,rfl⟩:=z0b ab;have ax:∀j,(Value.slice a xs.length c).ownBlock=some j→w.heap.size+1≤j:=fun j hj=>(ho.lt j hj).1
  have ah:Below (w.heap.size+1) wb wc:=(Below.refl _ _).grown E (by omega) ax;replace Bt:Blk wc w2.heap.size 44 #[.int .i64 i,.int .i64 s,.int .i64 q,.slice a xs.length c]:=Bt.grown E (fun e=>by have:=I _ e.symm;omega);replace B0:Blk wc w.heap.size 44 #[.int .i64 0,.int .i64 0,.int .i64 0,.slice none 0 0]:=(ah.block _ (by omega)).trans B0;replace hS:=hS.low ah (by omega);replace hg:=z0e hg (ah.mono (by omega));have av:∀j,(Value.slice a2 (xs.length+1) c2).ownBlock=some j→j≠w2.heap.size:=by
   intro j hj;rcases au with e|e
   ·rw[e]at hj;have:=I j hj;omega
   ·rw[e]at hj;simp at hj;omega
  clear E ax ah ho y ae au I U
  go_wp2
  refine ThenX.to ⟨Or.inr ⟨⟨_,x _ Bt⟩,rfl⟩,?_⟩;simp only[Act.put,pgE,pjE];refine onX 8 1 rfl (by kernel_rfl) ?_
  go_wp2
  refine ThenX.to ⟨Or.inr ⟨⟨_,x _ Bt⟩,rfl⟩,?_⟩;refine onX 9 0 rfl (by kernel_rfl) ?_;have t3:=Bt.cell 3 _ rfl;have t4:=Bt.frozen 3
  go_wp2
  clear t3 t4 x;refine ThenX.to ⟨Or.inl (by kernel_rfl),?_⟩;refine z6X (by kernel_rfl) ?_;have L:Below w2.heap.size wc (wc.setCell ⟨w2.heap.size,3,none⟩ (.slice a2 (xs.length+1) c2)):=(Below.refl _ _).setCell (p:=⟨w2.heap.size,3,none⟩) (Nat.le_refl _) _;replace Bt:Blk (wc.setCell ⟨w2.heap.size,3,none⟩ (.slice a2 (xs.length+1) c2)) w2.heap.size 44 #[.int .i64 i,.int .i64 s,.int .i64 q,.slice a2 (xs.length+1) c2]:=by
   have:=Go.Joins.block_setCell (i:=3) (v:=.slice a2 (xs.length+1) c2) Bt;unfold Blk;simpa using this
  replace B0:=(L.block _ (by omega)).trans B0;replace B0:Blk (wc.setCell ⟨w2.heap.size,3,none⟩ (.slice a2 (xs.length+1) c2)) w.heap.size 44 #[.int .i64 0,.int .i64 0,.int .i64 0,.slice none 0 0]:=B0;have ho:=z0g (g:=w2.heap.size) (j:=3) (u:=.slice a2 (xs.length+1) c2) ab av;replace hS:=hS.low L (by omega);replace hg:=z0e hg (L.mono (by omega));clear ab hi ai aj ak L;generalize wc.setCell ⟨w2.heap.size,3,none⟩ (.slice a2 (xs.length+1) c2)=w9 at Bt B0 ho hS hg;replace ho:w9.ownsRow (w.heap.size+1) 163 3 (.slice a2 (xs.length+1) c2) (xs.length+1) (z0i (xs++[⟨k,1,1⟩])):=by rw[z1t];exact ho
  have p0:=B0.cell 0 _ rfl;have f0:=B0.frozen 0;have q0:=Bt.cell 0 _ rfl;have p1:=B0.cell 1 _ rfl;have f1:=B0.frozen 1;have q1:=Bt.cell 1 _ rfl;have p2:=B0.cell 2 _ rfl;have f2:=B0.frozen 2;have q2:=Bt.cell 2 _ rfl;have p3:=B0.cell 3 _ rfl;have f3:=B0.frozen 3;have q3:=Bt.cell 3 _ rfl;clear B0 Bt
  go_wp2
  refine bodyPost_ret (v:=.agg #[.int .i64 i,.int .i64 s,.int .i64 q,.slice a2 (xs.length+1) c2]) (by simp[results,Tryz.results107,go_sem,p0,p1,p2,p3,ag,Y]) rfl ?_;have C:Below w.heap.size w9 ((((w9.setCell ⟨w.heap.size,0,none⟩ (.int .i64 i)).setCell ⟨w.heap.size,1,none⟩ (.int .i64 s)).setCell ⟨w.heap.size,2,none⟩ (.int .i64 q)).setCell ⟨w.heap.size,3,none⟩ (.slice a2 (xs.length+1) c2)):=(((((Below.refl _ _).setCell (p:=⟨w.heap.size,0,none⟩) (Nat.le_refl _) _).setCell (p:=⟨w.heap.size,1,none⟩) (Nat.le_refl _) _).setCell (p:=⟨w.heap.size,2,none⟩) (Nat.le_refl _) _).setCell (p:=⟨w.heap.size,3,none⟩) (Nat.le_refl _) _)
  refine⟨i,s,q,a2,c2,xs++[⟨k,1,1⟩],by simp,by simp;omega,?_,(hS.low C Z.2).mono (by omega),z0e hg C⟩;rw[List.length_append,List.length_singleton];refine z0m (base:=w.heap.size+1) ?_ (by omega);repeat' (first|refine ownsRow_setCell_below ?_ (show _<w.heap.size+1 from Nat.lt_succ_self _) _|refine z0g ?_ (by intro k hk;have:=I k hk;omega))
  exact ho
 have aK:(r==1)=false:=by simpa using ap
 by_cases ad:r=2
 ·subst ad;obtain⟨ga,rfl⟩:∃ga,a=some ⟨ga,0,none⟩:=by
   rcases ho.2 with⟨he,h0⟩|⟨g,cap,aM,he,_⟩
   ·omega
   ·simp only[Value.slice.injEq]at he;exact⟨g,he.1⟩
  have aN:=I ga rfl;have aw:w.heap.size+1≤ga:=(ho.lt ga rfl).1;have t3:w4.cell? ⟨w2.heap.size,3,none⟩=some (.slice (some ⟨ga,0,none⟩) xs.length c):=Bt.cell 3 _ rfl;generalize hP:(fun u:World=>u.cell? ⟨w2.heap.size,3,none⟩=some (.slice (some ⟨ga,0,none⟩) xs.length c))=PP;have N:PP w4:=by subst hP;exact t3
  have al:∀u:KeepP PP,u.val.cell? ⟨w2.heap.size,3,none⟩=some (.slice (some ⟨ga,0,none⟩) xs.length c):=fun u=>by have:=u.isP;subst hP;exact this
  have an:Nonempty (KeepP PP):=⟨⟨w4,N⟩⟩
  go_wp2_with fail
  refine z1S (S:=fun w'=>∃u:KeepP PP,w'=u.val) (R:=fun _ _=>False) 7 (by kernel_rfl) (fun _ _ _ _ h=>h.elim) ?_;have W:PP w4.drew:=by subst hP;exact N
  refine sgX [(0,3)] 5 (by kernel_rfl) ⟨⟨w4.drew,W⟩,rfl⟩ ?_;simp only[pkE];repeat go_big_quiet_step (fail)
  refine wpQuiet_nil ?_;clear al an N t3 W;replace Bt:Blk w4.drew w2.heap.size 44 #[.int .i64 i,.int .i64 s,.int .i64 q,.slice (some ⟨ga,0,none⟩) xs.length c]:=Bt;replace B0:Blk w4.drew w.heap.size 44 #[.int .i64 0,.int .i64 0,.int .i64 0,.slice none 0 0]:=B0;replace ho:=ho.drew;have O:Below w4.heap.size w4 w4.drew:=(Below.refl _ _).drew;replace hS:=hS.below O;replace hg:=z0e hg (O.mono hg.size);have x:∀u:World,Blk u w2.heap.size 44 #[.int .i64 i,.int .i64 s,.int .i64 q,.slice (some ⟨ga,0,none⟩) xs.length c]→PP u:=by
   intro u hu;subst hP;exact hu.cell 3 _ rfl
  clear hP O;replace J:w2.heap.size+1≤w4.drew.heap.size:=J;generalize w4.drew=wd at Bt B0 ho hS hg J;have aa:=hS.lt;have A:Below wd.heap.size wd (wd.alloc (.cells #[.int .i64 0,.int .i64 20,.int .i64 21] 2)):=by go_grown
  refine onX 3 4 rfl (by kernel_rfl) ?_
  go_wp2
  replace Bt:=Bt.below A;replace B0:=B0.below A;replace ho:=z0a ho A;replace hg:=z0e hg (A.mono hg.size);refine ThenX.to ⟨Or.inr ⟨⟨_,x _ Bt⟩,rfl⟩,?_⟩;refine clX 4 (some 31) 106 #[.pointer (some ⟨b,0,none⟩),.slice (some ⟨wd.heap.size,0,none⟩) 3 3] 3 (by kernel_rfl) rfl ?_;refine(z0U B b (T+13+1) wd.heap.size _ [0,20,21] _ (hS.below A) (by omega) (World.ownsRow_lit wd _ 3 (Nat.le_refl _) (by decide) rfl) (by simp) (by simp) (by simp[Value.ownBlock];omega)).mono ?_;rintro e w5 ⟨k,rfl,D,z,d⟩;refine Or.inl ⟨_,rfl,?_⟩;replace Bt:=Bt.grown d (by simp;omega);replace B0:=B0.grown d (by simp;omega);replace ho:=ho.kept d (Or.inr (fun e=>U e.symm));replace hg:=hg.trans d;replace hS:=z;have aF:w2.heap.size+1≤w5.heap.size:=by have:=d.size;have:=A.size;omega
  clear d z D J A;refine⟨⟨⟨w5,x _ Bt⟩,rfl⟩,?_⟩;simp only[Act.put,pgE,pjE];have az:(0:Int)<(xs.length:Int):=by omega
  refine onX 5 2 rfl (by kernel_rfl) ?_
  go_wp2
  refine ThenX.to ⟨Or.inr ⟨⟨_,x _ Bt⟩,rfl⟩,?_⟩;refine onX 6 1 rfl (by kernel_rfl) ?_
  go_wp2
  refine ThenX.to ⟨Or.inr ⟨⟨_,x _ Bt⟩,rfl⟩,?_⟩;refine onX 7 0 rfl (by kernel_rfl) ?_;have t4:w5.frozen? ⟨ga,1,none⟩=false:=ho.frozenAt 1;obtain⟨u1,t3⟩:∃u,w5.cell? ⟨ga,1,none⟩=some u:=by
   rw[ho.cellAt 1 (by omega)];exact⟨_,List.getElem?_eq_getElem (by rw[z0u];omega)⟩
  go_wp2
  clear t3 t4 x;refine ThenX.to ⟨Or.inl (by kernel_rfl),?_⟩;refine z6X (by kernel_rfl) ?_;have af:=(ho.stored 1 (.int .i64 k)).1;obtain⟨ys,aA,aB⟩:=z7R xs ay k;rw[aB]at af;have L:Below (w.heap.size+1) w5 (w5.setCell ⟨ga,1,none⟩ (.int .i64 k)):=(Below.refl _ _).setCell (p:=⟨ga,1,none⟩) aw _;replace Bt:Blk (w5.setCell ⟨ga,1,none⟩ (.int .i64 k)) w2.heap.size 44 #[.int .i64 i,.int .i64 s,.int .i64 q,.slice (some ⟨ga,0,none⟩) xs.length c]:=by
   have:=Below.heap_setCell w5 ⟨ga,1,none⟩ (.int .i64 k) w2.heap.size (by show w2.heap.size≠ga;omega);exact this.trans Bt
  replace B0:Blk (w5.setCell ⟨ga,1,none⟩ (.int .i64 k)) w.heap.size 44 #[.int .i64 0,.int .i64 0,.int .i64 0,.slice none 0 0]:=(L.block _ (by omega)).trans B0;replace hS:=hS.low L (by omega);replace hg:=z0e hg (L.mono (by omega));clear L ho aB;generalize w5.setCell ⟨ga,1,none⟩ (.int .i64 k)=w9 at Bt B0 af hS hg;rw[←aA]at af Bt I aH;have ho:=af;clear af aA ay az U;have p0:=B0.cell 0 _ rfl;have f0:=B0.frozen 0;have q0:=Bt.cell 0 _ rfl;have p1:=B0.cell 1 _ rfl;have f1:=B0.frozen 1;have q1:=Bt.cell 1 _ rfl;have p2:=B0.cell 2 _ rfl;have f2:=B0.frozen 2;have q2:=Bt.cell 2 _ rfl;have p3:=B0.cell 3 _ rfl;have f3:=B0.frozen 3;have q3:=Bt.cell 3 _ rfl;clear B0 Bt
  go_wp2
  refine bodyPost_ret (v:=.agg #[.int .i64 i,.int .i64 s,.int .i64 q,.slice (some ⟨ga,0,none⟩) ys.length c]) (by simp[results,Tryz.results107,go_sem,p0,p1,p2,p3,ag,Y]) rfl ?_;have C:Below w.heap.size w9 ((((w9.setCell ⟨w.heap.size,0,none⟩ (.int .i64 i)).setCell ⟨w.heap.size,1,none⟩ (.int .i64 s)).setCell ⟨w.heap.size,2,none⟩ (.int .i64 q)).setCell ⟨w.heap.size,3,none⟩ (.slice (some ⟨ga,0,none⟩) ys.length c)):=(((((Below.refl _ _).setCell (p:=⟨w.heap.size,0,none⟩) (Nat.le_refl _) _).setCell (p:=⟨w.heap.size,1,none⟩) (Nat.le_refl _) _).setCell (p:=⟨w.heap.size,2,none⟩) (Nat.le_refl _) _).setCell (p:=⟨w.heap.size,3,none⟩) (Nat.le_refl _) _)
  refine⟨i,s,q,(some ⟨ga,0,none⟩),c,ys,rfl,by omega,?_,(hS.low C Z.2).mono (by omega),z0e hg C⟩;refine z0m (base:=w.heap.size+1) ?_ (by omega);repeat' (first|refine ownsRow_setCell_below ?_ (show _<w.heap.size+1 from Nat.lt_succ_self _) _|refine z0g ?_ (by intro k hk;have:=I k hk;omega))
  exact ho
 have aE:(r==2)=false:=by simpa using ad
 by_cases aq:r=3
 ·subst aq;clear U I
  go_wp2_with fail
  have aa:=hS.lt;have y:Below w4.heap.size w4 (w4.alloc (.cells #[.int .i64 0,.int .i64 5] 2)):=by go_grown
  replace B0:=B0.below y;replace Bt:=Bt.below y;replace hg:=hg.trans (World.grownBy_alloc w4 (.cells #[.int .i64 0,.int .i64 5] 2) (some b));refine(z0U B b (T+13+1) w4.heap.size _ [0,5] _ (hS.below (by go_grown)) (by omega) (World.ownsRow_lit w4 _ 2 (Nat.le_refl _) (by decide) rfl) (by simp) (by simp) (by simp[Value.ownBlock];omega)).mono ?_;rintro e w5 ⟨v,rfl,D,z,d⟩;replace B0:=B0.grown d (by simp;omega);replace Bt:=Bt.grown d (by simp;omega);replace hg:=hg.trans d;replace hS:=z;have M:=d.size;clear d z;replace J:w2.heap.size+1≤w5.heap.size:=by simp at M;omega
  clear M y;obtain⟨i0,hi,ai,aj,ak⟩:=info_parts z1N;obtain⟨m,rfl,aO,am⟩:∃m:Nat,v=m∧m≤5∧(madeCells #[Value.int .i64 0,.int .i64 0,.int .i64 0] (m*3)).toList=z0i (List.replicate m z0f):=by
   simp at D;rcases D with rfl|rfl
   ·exact⟨0,rfl,by omega,z9e⟩
   ·exact⟨5,rfl,by omega,z9f⟩
  have aC:i0.bytes*m≤281474976710656:=by rw[ak];omega
  have aD:m≤maxLen:=by unfold maxLen;omega
  clear D ho;have aI:=Bt.cell 3 _ rfl
  go_wp2_with (at_make;refine wpList_make_full _ rfl _ _ 42 rfl w5.heap.size 163 i0 (.agg #[.int .i64 0,.int .i64 0,.int .i64 0]) 3 Tryz.underlying42 hi ai aj _ _ _ _ m rfl rfl rfl rfl aC aD (Nat.le_refl _) ?_)
  intro w6 ho E;have X:Below w5.heap.size w5 w6:=(Below.refl _ _).grown E (Nat.le_refl _) (by simp);clear aI am;replace B0:=B0.below X;replace Bt:=Bt.below X;replace hS:=hS.below X;replace hg:=z0e hg (X.mono hg.size);replace ho:=z0m ho (show w.heap.size+1≤w5.heap.size by omega);have I:∀j,(Value.slice (some ⟨w5.heap.size,0,none⟩) m m).ownBlock=some j→w2.heap.size<j:=by
   intro j hj;simp[Value.ownBlock]at hj;omega
  clear E X;have p0:=B0.cell 0 _ rfl;have f0:=B0.frozen 0;have q0:=Bt.cell 0 _ rfl;have p1:=B0.cell 1 _ rfl;have f1:=B0.frozen 1;have q1:=Bt.cell 1 _ rfl;have p2:=B0.cell 2 _ rfl;have f2:=B0.frozen 2;have q2:=Bt.cell 2 _ rfl;have p3:=B0.cell 3 _ rfl;have f3:=B0.frozen 3;have q3:=Bt.cell 3 _ rfl;have g3:=Bt.frozen 3;clear B0 Bt
  go_wp2
  refine bodyPost_ret (v:=.agg #[.int .i64 i,.int .i64 s,.int .i64 q,.slice (some ⟨w5.heap.size,0,none⟩) m m]) (by simp[results,Tryz.results107,go_sem,p0,p1,p2,p3,ag,Y]) rfl ?_;have C:Below w.heap.size w6 (((((w6.setCell ⟨w2.heap.size,3,none⟩ (.slice (some ⟨w5.heap.size,0,none⟩) m m)).setCell ⟨w.heap.size,0,none⟩ (.int .i64 i)).setCell ⟨w.heap.size,1,none⟩ (.int .i64 s)).setCell ⟨w.heap.size,2,none⟩ (.int .i64 q)).setCell ⟨w.heap.size,3,none⟩ (.slice (some ⟨w5.heap.size,0,none⟩) m m)):=((((((Below.refl _ _).setCell (p:=⟨w2.heap.size,3,none⟩) (show w.heap.size≤w2.heap.size by omega) _).setCell (p:=⟨w.heap.size,0,none⟩) (Nat.le_refl _) _).setCell (p:=⟨w.heap.size,1,none⟩) (Nat.le_refl _) _).setCell (p:=⟨w.heap.size,2,none⟩) (Nat.le_refl _) _).setCell (p:=⟨w.heap.size,3,none⟩) (Nat.le_refl _) _)
  refine⟨i,s,q,(some ⟨w5.heap.size,0,none⟩),m,List.replicate m z0f,by simp,by simp;omega,?_,(hS.low C Z.2).mono (by omega),z0e hg C⟩;rw[List.length_replicate];refine z0m (base:=w.heap.size+1) ?_ (by omega);repeat' (first|refine ownsRow_setCell_below ?_ (show _<w.heap.size+1 from Nat.lt_succ_self _) _|refine z0g ?_ (by intro k hk;have:=I k hk;omega))
  exact ho
 have aL:(r==3)=false:=by simpa using aq
 clear ao ap ad aq;have p0:=B0.cell 0 _ rfl;have f0:=B0.frozen 0;have q0:=Bt.cell 0 _ rfl;have p1:=B0.cell 1 _ rfl;have f1:=B0.frozen 1;have q1:=Bt.cell 1 _ rfl;have p2:=B0.cell 2 _ rfl;have f2:=B0.frozen 2;have q2:=Bt.cell 2 _ rfl;have p3:=B0.cell 3 _ rfl;have f3:=B0.frozen 3;have q3:=Bt.cell 3 _ rfl;clear B0 Bt
 go_wp2
 refine bodyPost_ret (v:=.agg #[.int .i64 i,.int .i64 s,.int .i64 q,.slice a xs.length c]) (by simp[results,Tryz.results107,go_sem,p0,p1,p2,p3,ag,Y]) rfl ?_;have C:Below w.heap.size w4 ((((w4.setCell ⟨w.heap.size,0,none⟩ (.int .i64 i)).setCell ⟨w.heap.size,1,none⟩ (.int .i64 s)).setCell ⟨w.heap.size,2,none⟩ (.int .i64 q)).setCell ⟨w.heap.size,3,none⟩ (.slice a xs.length c)):=(((((Below.refl _ _).setCell (p:=⟨w.heap.size,0,none⟩) (Nat.le_refl _) _).setCell (p:=⟨w.heap.size,1,none⟩) (Nat.le_refl _) _).setCell (p:=⟨w.heap.size,2,none⟩) (Nat.le_refl _) _).setCell (p:=⟨w.heap.size,3,none⟩) (Nat.le_refl _) _)
 refine⟨i,s,q,a,c,xs,rfl,by omega,?_,(hS.low C Z.2).mono (by omega),z0e hg C⟩;refine z0m (base:=w.heap.size+1) ?_ (by omega);repeat' (first|refine ownsRow_setCell_below ?_ (show _<w.heap.size+1 from Nat.lt_succ_self _) _|refine z0g ?_ (by intro k hk;have:=I k hk;omega))
 exact ho
def TxnRow(base:Nat)(w:World)(v:Value)(ps:List TxnP):Prop:=
 w.ownsRow base 44 4 v ps.length (z0v ps)∧(∀p∈ps,w.ownsRow base 163 3 p.sl p.d.acts.length (z0i p.d.acts)∧(p.sl.ownBlock=none∨p.sl.ownBlock≠v.ownBlock))∧v≠.slice none 0 0
theorem TxnRow.at{base:Nat}{w:World}{v:Value}{ps:List TxnP}(h:TxnRow base w v ps):TxnsAt w v (ps.map TxnP.d):=by
 obtain⟨a,c,rfl⟩:=z0b h.1;refine⟨a,c,ps,by simp,rfl,Lies.own h.1,fun p hp=>?_⟩;exact Lies.own (h.2.1 p hp).1
theorem TxnRow.src{base b:Nat}{w w':World}{v:Value}{ps:List TxnP}(h:TxnRow base w v ps)(hb:b<base)(hg:w.grownBy w' (some b)):TxnRow base w' v ps:=
 ⟨h.1.kept hg (Or.inr (fun e=>z0N h.1 (Or.inl hb) e.symm)),fun p hp=>⟨(h.2.1 p hp).1.kept hg (Or.inr (fun e=>z0N (h.2.1 p hp).1 (Or.inl hb) e.symm)),(h.2.1 p hp).2⟩,h.2.2⟩
theorem TxnRow.below{base:Nat}{w w':World}{v:Value}{ps:List TxnP}(h:TxnRow base w v ps)(hb:Below w.heap.size w w'):TxnRow base w' v ps:=
 ⟨z0a h.1 hb,fun p hp=>⟨z0a (h.2.1 p hp).1 hb,(h.2.1 p hp).2⟩,h.2.2⟩
theorem TxnRow.append{base:Nat}{w w':World}{v v':Value}{ps:List TxnP}(h:TxnRow base w v ps)(p:TxnP)(hp:w.ownsRow base 163 3 p.sl p.d.acts.length (z0i p.d.acts))(hpn:p.sl.ownBlock=none∨p.sl.ownBlock≠v.ownBlock)
  (hown:w'.ownsRow base 44 4 v' (ps.length+1) (z0v ps++p.cells)) (hgrow:w.grownBy w' v.ownBlock) (hat:v'.ownBlock=v.ownBlock∨v'.ownBlock=some w.heap.size) (hnv:v'≠ .slice none 0 0):TxnRow base w' v' (ps++[p]):=by
 have key:∀r:TxnP,w.ownsRow base 163 3 r.sl r.d.acts.length (z0i r.d.acts)→(r.sl.ownBlock=none∨r.sl.ownBlock≠v.ownBlock)→w'.ownsRow base 163 3 r.sl r.d.acts.length (z0i r.d.acts)∧(r.sl.ownBlock=none∨r.sl.ownBlock≠v'.ownBlock):=by
  intro r hr hn;refine⟨hr.kept hgrow hn,?_⟩;rcases hn with e|e
  ·exact Or.inl e
  ·right;rcases hat with e2|e2
   ·rw[e2];exact e
   ·rw[e2];intro e3;have:=(hr.lt _ e3).2;omega
 refine⟨by simpa[z0v]using hown,fun r hr=>?_,hnv⟩;simp only[List.mem_append,List.mem_singleton]at hr;rcases hr with hr|rfl
 ·exact key r (h.2.1 r hr).1 (h.2.1 r hr).2
 ·exact key r hp hpn
def TxnP.qk(p:TxnP):TxnQ:=⟨p.d.id,p.d.session,p.d.seq,p.sl,p.d.acts⟩
theorem z8e(ps:List TxnP):txnK.row (ps.map TxnP.qk)=z0v ps:=by
 induction ps with
 |nil=>rfl
 |cons p r ih=>
  show txnK.cells p.qk++txnK.row (r.map TxnP.qk)=p.cells++z0v r;rw[ih];rfl
theorem TxnRow.atK{base:Nat}{w:World}{v:Value}{ps:List TxnP}(h:TxnRow base w v ps):txnK.At w v (ps.map TxnP.qk):=by
 refine Kind.at_of_row (base:=base) (e:=44) (by rw[List.length_map,z8e];exact h.1) (fun q hq=>?_);obtain⟨p,hp,rfl⟩:=List.mem_map.1 hq;have h1:=(h.2.1 p hp).1;exact⟨_,_,rfl,Lies.own h1,fun _ _=>trivial⟩
theorem TxnRow.cap{base:Nat}{w:World}{v:Value}{ps:List TxnP}(h:TxnRow base w v ps):z2k v:=by
 rcases h.1.2 with⟨rfl,_⟩|⟨g,c,cur,rfl,_,_,h1,h2,_⟩
 ·exact⟨Nat.le_refl _,by decide⟩
 ·exact⟨h1,h2⟩
theorem z8Z:(madeCells #[Value.int .i64 0,.int .i64 0,.int .i64 0,.slice none 0 0] (41*4)).toList=z0v (List.replicate 41 z1P):=by kernel_rfl
theorem z6x(B b T:Nat)(w:World)(hS:Src B w b T)(hT:T≤800000):
  Calls Tryz.prog 71 #[.pointer (some ⟨b,0,none⟩),.int .i64 7] w fun e w'=>∃ (v:Value) (ps:List TxnP),e=.returned v∧ps.length≤6∧(∀p∈ps,p.d.acts.length≤5)∧TxnRow w.heap.size w' v ps∧Src B w' b (T+100)∧w.grownBy w' (some b):=by
 obtain⟨i0,hi,ad,ae,af⟩:=info_parts z0O;have L:=hS.lt;have M:(w.alloc (.cells #[] 44)).ownsRow w.heap.size 44 4 (.slice (some ⟨w.heap.size,0,none⟩) 0 0) 0 []:=World.ownsRow_lit w #[] 0 (Nat.le_refl _) (by decide) rfl;have hg:w.grownBy (w.alloc (.cells #[] 44)) (some b):=World.grownBy_alloc w _ _;replace hS:Src B (w.alloc (.cells #[] 44)) b T:=hS.below (by go_grown);go_enter Tryz.func71,Tryz.ntmps71
 go_wp2_with fail
 generalize w.alloc (.cells #[] 44)=W1 at M hg hS;refine(z0t B b T 7 W1 hS (by omega) (by omega)).mono ?_;rintro e w3 ⟨r,rfl,hr,A,h⟩;obtain⟨j0,rfl⟩:=Int.eq_ofNat_of_zero_le hr.1;have aa:j0≤6:=by have:=hr.2.1 (by omega);omega
 have C:TxnRow w.heap.size W1 (.slice (some ⟨w.heap.size,0,none⟩) 0 0) []:=⟨M,by simp,by simp⟩
 replace C:=C.src L.2 h;replace hg:=hg.trans h;replace hS:=A;clear h A hr M
 go_wp2
 go_loopw[5,6] (fun v c wr=>∃ (j:Nat) (ps:List TxnP),c=.int .i64 j∧j≤6∧j+ps.length≤6∧Hid (∀p∈ps,p.d.acts.length≤5)∧TxnRow w.heap.size wr v ps∧Src B wr b (T+1+13*(6-j))∧w.grownBy wr (some b)) (fun _ c _=>(intOf c).toNat)
 case atStart=>exact⟨j0,[],rfl,aa,by simp;omega,by intro p hp;simp at hp,C,hS.mono (by omega),hg⟩
 case round=>
  clear C hS hg;obtain⟨j,ps,rfl,ah,hj,HP,hR,hS,hg⟩:=hrel;have ab:=hg.size;obtain⟨a1,c1,rfl⟩:=z0b hR.1;by_cases ag:0<j
  ·skip
   go_wp2_with fail
   refine(z4q B b (T+1+13*(6-j)) wr hS (by omega)).mono ?_;rintro e w4 ⟨i,s,q,a,c,xs,rfl,ai,aj,ho,A,h⟩;have O:Value.ownBlock (.slice a xs.length c)=none∨Value.ownBlock (.slice a xs.length c)≠Value.ownBlock (.slice a1 ps.length c1):=z1E hR.1 ho (Nat.le_refl _);replace hR:=hR.src L.2 h;replace hg:=hg.trans h;replace hS:=A;replace ho:=z0m ho ab;clear h A;have z:Below w4.heap.size w4 (w4.alloc (.cells #[.int .i64 i,.int .i64 s,.int .i64 q,.slice a xs.length c] 44)):=by go_grown
   have hX:=Blk.new w4 44 #[.int .i64 i,.int .i64 s,.int .i64 q,.slice a xs.length c];have W:=z1j (.slice a1 ps.length c1) (ps.map TxnP.qk) w4.heap.size 0 ⟨i,s,q,xs⟩ (.slice a xs.length c) _ (hR.below z).atK (z5Z w4 _ _ _ _ 44) (by rw[List.length_map];omega);replace hg:=z0e hg (z.mono hg.size);replace hS:=hS.below z;replace hR:=hR.below z;replace ho:=z0a ho z;generalize knw ((ps.map TxnP.qk).map TxnQ.e) ⟨i,s,q,xs⟩=K at*
   go_wp2_with fail
   generalize w4.heap.size=H4 at*;generalize w4.alloc (.cells #[.int .i64 i,.int .i64 s,.int .i64 q,.slice a xs.length c] 44)=W4 at*;refine W.mono ?_;rintro e w6 ⟨rfl,y⟩;replace hg:=z0e hg (y.mono hg.size);replace hS:=hS.below y;replace hR:=hR.below y;replace ho:=z0a ho y;replace hX:=hX.below y;clear W y z
   cases K with
   |true=>
    clear ho O hX
    go_wp2
    go_roundw
    case rel=>exact⟨j-1,ps,by go_num,by omega,by omega,HP,hR,hS.mono (by omega),hg⟩
    case measure=>simp[intOf];omega
   |false=>
    obtain⟨x0,x1,x2,x3⟩:=hX.cel4;have D:Below w6.heap.size w6 (w6.alloc (.cells #[.int .i64 i,.int .i64 s,.int .i64 q,.slice a xs.length c] 44)):=by go_grown
    have X:=hg.size;have N:=z0a hR.1 D
    go_wp2_with (at_builtin;refine wpList_append_own_at _ rfl _ _ 27 rfl w.heap.size 44 i0 (.agg #[.int .i64 0,.int .i64 0,.int .i64 0,.slice none 0 0]) 4 48 Tryz.underlying27 hi ad ae af rfl (by decide) _ ps.length (z0v ps) rfl N ⟨w6.heap.size,0,none⟩ 1 1 [.int .i64 i,.int .i64 s,.int .i64 q,.slice a xs.length c] rfl rfl ?c1 ?c2 ?c3 ?c4 ?c5 ?_)
    all_goals try(case c1=>intro j u hj;match j,hj with|0,hj=>simp at hj;subst hj;simp[Addr.add]|1,hj=>simp at hj;subst hj;simp[Addr.add]|2,hj=>simp at hj;subst hj;simp[Addr.add]|3,hj=>simp at hj;subst hj;simp[Addr.add])
    all_goals try(case c2=>intro u hu;simp at hu;rcases hu with rfl|rfl|rfl|rfl<;>rfl)
    all_goals try(case c3=>unfold maxLen;omega)
    all_goals try(case c4=>omega)
    all_goals try(case c5=>first|omega|(simp;omega))
    intro v' w5 I x E U;have V:∀j,(Value.slice a1 ps.length c1).ownBlock=some j→w.heap.size≤j:=fun j hj=>(N.lt j hj).1
    have J:Below w.heap.size w6 w5:=((Below.refl w.heap.size w6).alloc X (.cells #[.int .i64 i,.int .i64 s,.int .i64 q,.slice a xs.length c] 44)).grown x (by simp;omega) V;have Z:Hid (TxnRow w.heap.size w5 v' (ps++[(⟨⟨i,s,q,xs⟩,a,c⟩:TxnP)])):=(hR.below D).append (⟨⟨i,s,q,xs⟩,a,c⟩:TxnP) (z0a ho D) O (by simpa[TxnP.cells,TxnP.sl]using I) x (by rw[World.size_alloc];exact U) E;replace hg:=z0e hg J;replace hS:=hS.low J L.2;have Y:Hid (∀p∈ps++[(⟨⟨i,s,q,xs⟩,a,c⟩:TxnP)],p.d.acts.length≤5):=by
     intro p hp;simp only[List.mem_append,List.mem_singleton]at hp;rcases hp with hp|rfl
     ·exact HP.out p hp
     ·show xs.length≤5;omega
    clear hR ho N I x U E V J D O;clear x0 x1 x2 x3 hX
    go_wp2
    go_roundw
    case rel=>exact⟨j-1,ps++[(⟨⟨i,s,q,xs⟩,a,c⟩:TxnP)],by go_num,by omega,by simp;omega,Y,Z.out,hS.mono (by omega),hg⟩
    case measure=>simp[intOf];omega
  ·go_wp2
   go_ret;exact⟨_,ps,rfl,by omega,HP.out,hR,hS.mono (by omega),hg⟩
theorem z4s(B b T:Nat)(w:World)(hS:Src B w b T)(hT:T≤700000):
  Calls Tryz.prog 72 #[.pointer (some ⟨b,0,none⟩)] w fun e w'=>∃ (v:Value) (ps:List TxnP),e=.returned v∧ps.length≤41∧(∀p∈ps,p.d.acts.length≤5)∧TxnRow w.heap.size w' v ps∧Src B w' b (T+200)∧w.grownBy w' (some b):=by
 obtain⟨i0,hi,an,ao,ap⟩:=info_parts z0O;have Y:=hS.lt;go_enter Tryz.func72,Tryz.ntmps72
 go_wp2_with fail
 refine(z6x B b T w hS (by omega)).mono ?_;rintro e w1 ⟨v,ps,rfl,aA,ar,hR,A,hg⟩;replace hS:=A;clear A;obtain⟨a1,c1,rfl⟩:=z0b hR.1;have HP:Hid (∀p∈ps,p.d.acts.length≤5):=ar;clear ar
 go_wp2_with fail
 refine(z0t B b (T+100) 12 w1 hS (by omega) (by omega)).mono ?_;rintro e wr ⟨r,rfl,hr,A,E⟩;replace hR:=hR.src Y.2 E;replace hg:=hg.trans E;replace hS:=A;have al:=hg.size;clear E A hr;by_cases V:r=0
 ·subst V
  go_wp2_with fail
  refine(z4r B b (T+100+1) wr hS (by omega)).mono ?_;rintro e w4 ⟨i,s,q,a,c,xs,rfl,am,ho,A,E⟩;have J:Value.ownBlock (.slice a xs.length c)=none∨Value.ownBlock (.slice a xs.length c)≠Value.ownBlock (.slice a1 ps.length c1):=z1E hR.1 ho (Nat.le_refl _);replace hR:=hR.src Y.2 E;replace hg:=hg.trans E;replace hS:=A;replace ho:=z0m ho al;clear E A;have z:Below w4.heap.size w4 (w4.alloc (.cells #[.int .i64 i,.int .i64 s,.int .i64 q,.slice a xs.length c] 44)):=by go_grown
  have W:=hg.size;have I:=z0a hR.1 z
  go_wp2_with (at_builtin;refine wpList_append_own_at _ rfl _ _ 27 rfl w.heap.size 44 i0 (.agg #[.int .i64 0,.int .i64 0,.int .i64 0,.slice none 0 0]) 4 48 Tryz.underlying27 hi an ao ap rfl (by decide) _ ps.length (z0v ps) rfl I ⟨w4.heap.size,0,none⟩ 1 1 [.int .i64 i,.int .i64 s,.int .i64 q,.slice a xs.length c] rfl rfl ?c1 ?c2 ?c3 ?c4 ?c5 ?_)
  all_goals try(case c1=>intro j u hj;match j,hj with|0,hj=>simp at hj;subst hj;simp[Addr.add]|1,hj=>simp at hj;subst hj;simp[Addr.add]|2,hj=>simp at hj;subst hj;simp[Addr.add]|3,hj=>simp at hj;subst hj;simp[Addr.add])
  all_goals try(case c2=>intro u hu;simp at hu;rcases hu with rfl|rfl|rfl|rfl<;>rfl)
  all_goals try(case c3=>unfold maxLen;omega)
  all_goals try(case c4=>omega)
  all_goals try(case c5=>first|omega|(simp;omega))
  intro v' w5 y h C N;have O:∀j,(Value.slice a1 ps.length c1).ownBlock=some j→w.heap.size≤j:=fun j hj=>(I.lt j hj).1
  have D:Below w.heap.size w4 w5:=((Below.refl w.heap.size w4).alloc W (.cells #[.int .i64 i,.int .i64 s,.int .i64 q,.slice a xs.length c] 44)).grown h (by simp;omega) O;have ai:Hid (TxnRow w.heap.size w5 v' (ps++[⟨⟨i,s,q,xs⟩,a,c⟩])):=(hR.below z).append ⟨⟨i,s,q,xs⟩,a,c⟩ (z0a ho z) J (by simpa[TxnP.cells,TxnP.sl]using y) h (by rw[World.size_alloc];exact N) C;replace hg:=z0e hg D;replace hS:=hS.low D Y.2;have ae:Hid (∀p∈ps++[(⟨⟨i,s,q,xs⟩,a,c⟩:TxnP)],p.d.acts.length≤5):=by
   intro p hp;simp only[List.mem_append,List.mem_singleton]at hp;rcases hp with hp|rfl
   ·exact HP.out p hp
   ·show xs.length≤5;omega
  clear hR ho I y h N C O D z J
  go_wp2
  go_ret;exact⟨v',ps++[⟨⟨i,s,q,xs⟩,a,c⟩],rfl,by simp;omega,ae.out,ai.out,hS.mono (by omega),hg⟩
 have ad:(r==0)=false:=by simpa using V
 by_cases Z:r=1
 ·subst Z;have av:i0.bytes*41≤281474976710656:=by rw[ap];omega
  have ax:41≤maxLen:=by unfold maxLen;omega
  clear V ad hR
  go_wp2_with (at_make;refine wpList_make_full _ rfl _ _ 27 rfl wr.heap.size 44 i0 (.agg #[.int .i64 0,.int .i64 0,.int .i64 0,.slice none 0 0]) 4 Tryz.underlying27 hi an ao _ _ _ _ 41 rfl rfl rfl rfl av ax (Nat.le_refl _) ?_)
  intro w3 y h;have aj:Below wr.heap.size wr w3:=(Below.refl _ _).grown h (Nat.le_refl _) (by simp);have R:Hid (TxnRow w.heap.size w3 (.slice (some ⟨wr.heap.size,0,none⟩) 41 41) (List.replicate 41 z1P)):=by
   refine⟨by rw[←z8Z];exact z0m y al,fun p hp=>?_,by simp⟩;rw[List.eq_of_mem_replicate hp];exact⟨World.ownsRow_nil _ _ _ _,Or.inl rfl⟩
  replace hS:=hS.below aj;replace hg:=z0e hg (aj.mono al);clear y h aj
  go_wp2
  go_ret;exact⟨_,List.replicate 41 z1P,rfl,by simp,fun p hp=>by rw[List.eq_of_mem_replicate hp];exact Nat.zero_le _,R.out,hS.mono (by omega),hg⟩
 have au:(r==1)=false:=by simpa using Z
 by_cases ak:r=2
 ·subst ak;clear V Z ad au
  cases ps with
  |nil=>
   go_wp2
   go_ret;exact⟨_,[],rfl,by simp,HP.out,hR,hS.mono (by omega),hg⟩
  |cons p0 rest=>
   generalize M:p0::rest=ps at*;have U:0<ps.length:=by rw[←M];simp
   have aw:(0:Int)<(ps.length:Int):=by omega
   obtain⟨hc,ho,J,am⟩:Lies wr a1 (z0v ps)∧wr.ownsRow w.heap.size 163 3 p0.sl p0.d.acts.length (z0i p0.d.acts)∧(p0.sl.ownBlock=none∨p0.sl.ownBlock≠Value.ownBlock (.slice a1 ps.length c1))∧p0.d.acts.length≤5:=⟨Lies.own hR.1,(hR.2.1 p0 (by rw[←M];simp)).1,(hR.2.1 p0 (by rw[←M];simp)).2,HP.out p0 (by rw[←M];simp)⟩
   have ab:=hR.atK;obtain⟨bb,aa,rfl,az,aq,_⟩:=ab.cell (by decide) 0 (by rw[List.length_map];exact U);have L:∀j x,(txnK.cells ((ps.map TxnP.qk)[0]'(by rw[List.length_map];exact U)))[j]?=some x→wr.cell? ⟨bb,aa+0*4+j,none⟩=some x:=aq;have e0:(ps.map TxnP.qk)[0]'(by rw[List.length_map];exact U)=p0.qk:=by subst M;rfl
   rw[e0]at L;have af:=L 0 (.int .i64 p0.d.id) rfl;have ag:=L 1 (.int .i64 p0.d.session) rfl;have ah:=L 2 (.int .i64 p0.d.seq) rfl;have X:=L 3 p0.sl rfl;simp only[Nat.zero_mul,Nat.add_zero]at af ag ah X;clear aq L e0 ab hc M;obtain⟨⟨i,s,q,xs⟩,a,c⟩:=p0;replace ho:wr.ownsRow w.heap.size 163 3 (.slice a xs.length c) xs.length (z0i xs):=ho;replace J:Value.ownBlock (.slice a xs.length c)=none∨Value.ownBlock (.slice a xs.length c)≠Value.ownBlock (.slice (some ⟨bb,aa,none⟩) ps.length c1):=J;replace am:xs.length≤5:=am;replace X:wr.cell? ⟨bb,aa+3,none⟩=some (.slice a xs.length c):=X;dsimp only at af ag ah;have z:Below wr.heap.size wr (wr.alloc (.cells #[.int .i64 i,.int .i64 s,.int .i64 q,.slice a xs.length c] 44)):=by go_grown
   have W:=hg.size;have I:=z0a hR.1 z
   go_wp2_with (at_builtin;refine wpList_append_own_at _ rfl _ _ 27 rfl w.heap.size 44 i0 (.agg #[.int .i64 0,.int .i64 0,.int .i64 0,.slice none 0 0]) 4 48 Tryz.underlying27 hi an ao ap rfl (by decide) _ ps.length (z0v ps) rfl I ⟨wr.heap.size,0,none⟩ 1 1 [.int .i64 i,.int .i64 s,.int .i64 q,.slice a xs.length c] rfl rfl ?c1 ?c2 ?c3 ?c4 ?c5 ?_)
   all_goals try(case c1=>intro j u hj;match j,hj with|0,hj=>simp at hj;subst hj;simp[Addr.add]|1,hj=>simp at hj;subst hj;simp[Addr.add]|2,hj=>simp at hj;subst hj;simp[Addr.add]|3,hj=>simp at hj;subst hj;simp[Addr.add])
   all_goals try(case c2=>intro u hu;simp at hu;rcases hu with rfl|rfl|rfl|rfl<;>rfl)
   all_goals try(case c3=>unfold maxLen;omega)
   all_goals try(case c4=>omega)
   all_goals try(case c5=>first|omega|(simp;omega))
   intro v' w5 y h C N;have O:∀j,(Value.slice (some ⟨bb,aa,none⟩) ps.length c1).ownBlock=some j→w.heap.size≤j:=fun j hj=>(I.lt j hj).1
   have D:Below w.heap.size wr w5:=((Below.refl w.heap.size wr).alloc W (.cells #[.int .i64 i,.int .i64 s,.int .i64 q,.slice a xs.length c] 44)).grown h (by simp;omega) O;have ai:Hid (TxnRow w.heap.size w5 v' (ps++[(⟨⟨i,s,q,xs⟩,a,c⟩:TxnP)])):=(hR.below z).append (⟨⟨i,s,q,xs⟩,a,c⟩:TxnP) (z0a ho z) J (by simpa[TxnP.cells,TxnP.sl]using y) h (by rw[World.size_alloc];exact N) C;replace hg:=z0e hg D;replace hS:=hS.low D Y.2;have ae:Hid (∀p∈ps++[(⟨⟨i,s,q,xs⟩,a,c⟩:TxnP)],p.d.acts.length≤5):=by
    intro p hp;simp only[List.mem_append,List.mem_singleton]at hp;rcases hp with hp|rfl
    ·exact HP.out p hp
    ·show xs.length≤5;omega
   clear hR ho I y h N C O D z J;clear af ag ah X
   go_wp2
   go_ret;exact⟨v',_,rfl,by simp;omega,ae.out,ai.out,hS.mono (by omega),hg⟩
 have ay:(r==2)=false:=by simpa using ak
 clear V Z ak
 go_wp2
 go_ret;exact⟨_,ps,rfl,by omega,HP.out,hR,hS.mono (by omega),hg⟩
end
theorem z7a{k y v:Int}(hk:1≤k∧k≤4)(hy:1≤y∧y≤20)(hv:-1000≤v∧v≤1000)(h3:k=3→v=0):actF ⟨k,y,v⟩=0:=by
 have a:inW k 1 4=true:=by simp[inW];omega
 have b:inW y 1 20=true:=by simp[inW];omega
 have c:inW v (-1000) 1000=true:=by simp[inW];omega
 unfold actF;dsimp only;rw[a,b,c];by_cases e:k=3
 ·simp[e,h3 e]
 ·simp[e]
theorem z7S{zs:List ActD}(h:∀z∈zs,actF z=0):z1L zs=0:=by
 induction zs with
 |nil=>rfl
 |cons x r ih=>
  simp only[z1L];rw[if_pos (h x (by simp))];exact ih (fun z hz=>h z (by simp[hz]))
theorem z8t{i s q:Int}{zs:List ActD}(hi:1≤i∧i≤200)(hs:1≤s∧s≤9)(hq:1≤q∧q≤99)(hl:1≤zs.length∧zs.length≤4)(h:∀z∈zs,actF z=0):txnF i s q zs=0:=by
 have a:inW i 1 200=true:=by simp[inW];omega
 have b:inW s 1 9=true:=by simp[inW];omega
 have c:inW q 1 99=true:=by simp[inW];omega
 unfold txnF;rw[a,b,c,if_neg (by simp),if_neg (by omega)];exact z7S h
theorem z4b(B b T:Nat)(w:World)(hS:Src B w b T)(hT:T≤1000000):
  Calls Tryz.prog 155 #[.pointer (some ⟨b,0,none⟩)] w fun e w'=>∃k y z:Int,e=.returned (.agg #[.int .i64 k,.int .i64 y,.int .i64 z])∧actF ⟨k,y,z⟩=0∧Src B w' b (T+3)∧w.grownBy w' (some b):=by
 have L:=hS.lt;have B0:=Blk.new w 163 #[.int .i64 0,.int .i64 0,.int .i64 0];have hg:w.grownBy (w.alloc (.cells #[.int .i64 0,.int .i64 0,.int .i64 0] 163)) (some b):=World.grownBy_alloc w _ _;replace hS:Src B (w.alloc (.cells #[.int .i64 0,.int .i64 0,.int .i64 0] 163)) b T:=hS.below (by go_grown);go_enter Tryz.func155,Tryz.ntmps155
 go_wp2_with fail
 have D:w.heap.size+1=(w.alloc (.cells #[.int .i64 0,.int .i64 0,.int .i64 0] 163)).heap.size:=by simp
 generalize w.alloc (.cells #[.int .i64 0,.int .i64 0,.int .i64 0] 163)=W1 at B0 hg hS D;try simp only[D]
 replace D:w.heap.size<W1.heap.size:=by omega
 have N:=hS.lt;have d:Below W1.heap.size W1 (W1.alloc (.cells #[.int .i64 1,.int .i64 1,.int .i64 2,.int .i64 2,.int .i64 3,.int .i64 4] 2)):=by go_grown
 replace B0:=B0.below d;replace hg:=hg.trans (World.grownBy_alloc W1 (.cells #[.int .i64 1,.int .i64 1,.int .i64 2,.int .i64 2,.int .i64 3,.int .i64 4] 2) (some b));refine(z0U B b T W1.heap.size _ [1,1,2,2,3,4] _ (hS.below (by go_grown)) (by omega) (World.ownsRow_lit W1 _ 6 (Nat.le_refl _) (by decide) rfl) (by simp) (by simp) (by simp[Value.ownBlock];omega)).mono ?_;rintro e w3 ⟨k,rfl,x,h,c⟩;replace B0:=B0.grown c (by simp;omega);replace hg:=hg.trans c;replace hS:=h;have V:=c.size;clear c h;have J:1≤k∧k≤4:=by simp at x;omega
 clear x
 go_wp2_with fail
 refine(z0t B b (T+1) 4 w3 hS (by omega) (by omega)).mono ?_;rintro e w4 ⟨r,rfl,hr,h,c⟩;have r1:=hr.1;have r2:=hr.2.1 (by omega);replace B0:=B0.grown c (by simp;omega);replace hg:=hg.trans c;replace hS:=h;have W:=c.size;clear c h;clear hr;have d:Below w4.heap.size w4 (w4.alloc (.cells #[.int .i64 k,.int .i64 (1+r),.int .i64 0] 163)):=by go_grown
 have B1:=Blk.new w4 163 #[.int .i64 k,.int .i64 (1+r),.int .i64 0];have M:=B0.lt;have C:=B0;have E:=hS;have I:=hg;replace B0:=B0.below d;replace hS:=hS.below d;have Z:=hg.size;replace hg:=z0e hg (d.mono Z);have q0:=B1.cell 0 _ rfl;clear d;by_cases hk:k=3
 ·have Y:(k !=3)=false:=by simp[hk]
  obtain⟨p0,p1,p2⟩:=C.cel3;obtain⟨f0,f1,f2⟩:=C.frz3;have HK:Hid (k=3):=hk;clear B0 B1 C hS hg hk q0
  go_wp2
  refine bodyPost_ret (v:=.agg #[.int .i64 k,.int .i64 (1+r),.int .i64 0]) (by simp[results,Tryz.results155,go_sem,p0,p1,p2,M]) rfl ?_;have A:∀O,Below w.heap.size w4 ((((w4.setCell ⟨w.heap.size,0,none⟩ (.int .i64 k)).setCell ⟨w.heap.size,1,none⟩ (.int .i64 (1+r))).setCell ⟨w.heap.size,2,none⟩ (.int .i64 0)).alloc O):=fun O=>
   ((((Below.refl _ _).setCell (p:=⟨w.heap.size,0,none⟩) (Nat.le_refl _) _).setCell (p:=⟨w.heap.size,1,none⟩) (Nat.le_refl _) _).setCell (p:=⟨w.heap.size,2,none⟩) (Nat.le_refl _) _).alloc (by simp[World.setCell];omega) O
  exact⟨_,_,_,rfl,z7a J (by omega) (by omega) (fun _=>rfl),(E.low (A _) L.2).mono (by omega),z0e I (A _)⟩
 ·have Y:(k !=3)=true:=by simp[bne_iff_ne,hk]
  clear C E I
  go_wp2_with fail
  clear q0;have U:w4.heap.size+1=(w4.alloc (.cells #[.int .i64 k,.int .i64 (1+r),.int .i64 0] 163)).heap.size:=by simp
  generalize w4.alloc (.cells #[.int .i64 k,.int .i64 (1+r),.int .i64 0] 163)=W5 at*;simp only[U];clear U;have N:=hS.lt;have d:Below W5.heap.size W5 (W5.alloc (.cells #[.int .i64 0,.int .i64 1,.int .i64 5,.int .i64 (-3),.int .i64 1000] 2)):=by go_grown
  replace B0:=B0.below d;replace B1:=B1.below d;replace hg:=hg.trans (World.grownBy_alloc W5 (.cells #[.int .i64 0,.int .i64 1,.int .i64 5,.int .i64 (-3),.int .i64 1000] 2) (some b));refine(z0U B b (T+1+1) W5.heap.size _ [0,1,5,-3,1000] _ (hS.below (by go_grown)) (by omega) (World.ownsRow_lit W5 _ 5 (Nat.le_refl _) (by decide) rfl) (by simp) (by simp) (by simp[Value.ownBlock];omega)).mono ?_;rintro e w6 ⟨z,rfl,x,h,c⟩;replace B0:=B0.grown c (by simp;omega);replace B1:=B1.grown c (by simp;omega);replace hg:=hg.trans c;replace hS:=h;have X:=c.size;clear c h;have aa:-1000≤z∧z≤1000:=by simp at x;omega
  clear x;have ad:w4.heap.size<w6.heap.size:=B1.lt;obtain⟨q0,q1,q2⟩:=B1.cel3;have g2:=B1.frozen 2;obtain⟨p0,p1,p2⟩:=B0.cel3;obtain⟨f0,f1,f2⟩:=B0.frz3;have ab:w.heap.size≠w4.heap.size:=by omega
  have HK:Hid (k≠3):=hk;clear B0 B1 hk
  go_wp2
  refine bodyPost_ret (v:=.agg #[.int .i64 k,.int .i64 (1+r),.int .i64 z]) (by simp[results,Tryz.results155,go_sem,p0,p1,p2]) rfl ?_;have A:Below w.heap.size w6 ((((w6.setCell ⟨w4.heap.size,2,none⟩ (.int .i64 z)).setCell ⟨w.heap.size,0,none⟩ (.int .i64 k)).setCell ⟨w.heap.size,1,none⟩ (.int .i64 (1+r))).setCell ⟨w.heap.size,2,none⟩ (.int .i64 z)):=by
   exact((((Below.refl _ _).setCell (p:=⟨w4.heap.size,2,none⟩) (show w.heap.size≤w4.heap.size by omega) _).setCell (p:=⟨w.heap.size,0,none⟩) (Nat.le_refl _) _).setCell (p:=⟨w.heap.size,1,none⟩) (Nat.le_refl _) _).setCell (p:=⟨w.heap.size,2,none⟩) (Nat.le_refl _) _
  exact⟨_,_,_,rfl,z7a J (by omega) aa (fun e=>absurd e HK.out),(hS.low A L.2).mono (by omega),z0e hg A⟩
theorem z5T(B b T:Nat)(w:World)(hS:Src B w b T)(hT:T≤900000):
  Calls Tryz.prog 96 #[.pointer (some ⟨b,0,none⟩)] w fun e w'=>∃ (i s q:Int) (a:Option Addr) (c:Nat) (xs:List ActD),e=.returned (.agg #[.int .i64 i,.int .i64 s,.int .i64 q,.slice a xs.length c])∧txnF i s q xs=0∧xs.length≤3∧
   w'.ownsRow w.heap.size 163 3 (.slice a xs.length c) xs.length (z0i xs)∧Src B w' b (T+13)∧w.grownBy w' (some b):=by
 have an:=hS.lt;have B0:=Blk.new w 44 #[.int .i64 0,.int .i64 0,.int .i64 0,.slice none 0 0];have hg:w.grownBy (w.alloc (.cells #[.int .i64 0,.int .i64 0,.int .i64 0,.slice none 0 0] 44)) (some b):=World.grownBy_alloc w _ _;replace hS:Src B (w.alloc (.cells #[.int .i64 0,.int .i64 0,.int .i64 0,.slice none 0 0] 44)) b T:=hS.below (by go_grown);go_enter Tryz.func96,Tryz.ntmps96
 go_wp2_with fail
 generalize w.alloc (.cells #[.int .i64 0,.int .i64 0,.int .i64 0,.slice none 0 0] 44)=W1 at B0 hg hS;refine(z0t B b T 12 W1 hS (by omega) (by omega)).mono ?_;rintro e w3 ⟨r,rfl,hr,x,d⟩;have r1:=hr.1;have r2:=hr.2.1 (by omega);replace B0:=B0.grown d (by simp;omega);replace hg:=hg.trans d;replace hS:=x;have O:=d.size;clear d x;clear hr
 go_wp2_with fail
 refine(z0t B b (T+1) 3 w3 hS (by omega) (by omega)).mono ?_;rintro e w4 ⟨s,rfl,hr,x,d⟩;have s1:=hr.1;have s2:=hr.2.1 (by omega);replace B0:=B0.grown d (by simp;omega);replace hg:=hg.trans d;replace hS:=x;have U:=d.size;clear d x;clear hr
 go_wp2_with fail
 refine(z0t B b (T+1+1) 4 w4 hS (by omega) (by omega)).mono ?_;rintro e w5 ⟨q,rfl,hr,x,d⟩;have q1:=hr.1;have q2:=hr.2.1 (by omega);replace B0:=B0.grown d (by simp;omega);replace hg:=hg.trans d;replace hS:=x;have V:=d.size;clear d x;clear hr;have A:Below w5.heap.size w5 (w5.alloc (.cells #[.int .i64 (1+r),.int .i64 (1+s),.int .i64 (1+q),.slice none 0 0] 44)):=by go_grown
 have Bt:=Blk.new w5 44 #[.int .i64 (1+r),.int .i64 (1+s),.int .i64 (1+q),.slice none 0 0];have az:w.heap.size<w5.heap.size:=B0.lt;replace B0:=B0.below A;replace hS:=hS.below A;replace hg:=z0e hg (A.mono hg.size)
 go_wp2_with fail
 have ae:(w5.alloc (.cells #[.int .i64 (1+r),.int .i64 (1+s),.int .i64 (1+q),.slice none 0 0] 44)).heap.size=w5.heap.size+1:=by simp
 generalize w5.alloc (.cells #[.int .i64 (1+r),.int .i64 (1+s),.int .i64 (1+q),.slice none 0 0] 44)=W6 at B0 Bt hS hg ae;clear A;refine(z0t B b (T+1+1+1) 3 W6 hS (by omega) (by omega)).mono ?_;rintro e w7 ⟨k,rfl,hr,x,d⟩;have k1:=hr.1;have k2:=hr.2.1 (by omega);replace B0:=B0.grown d (by simp;omega);replace Bt:=Bt.grown d (by simp;omega);replace hg:=hg.trans d;replace hS:=x;have W:=d.size;clear d x;clear hr;obtain⟨j0,rfl⟩:=Int.eq_ofNat_of_zero_le k1;have av:j0≤2:=by omega
 have af:w5.heap.size+1≤w7.heap.size:=by omega
 clear k1 k2 ae W O U V;have ay:(0:Int)≤1+r∧1+r≤100:=by omega
 go_wp2
 go_loopw[4] (fun c wr=>∃ (j:Nat) (xs:List ActD) (a1:Option Addr) (c1:Nat),c=.int .i64 j∧Hid (∀z∈xs,actF z=0)∧j+xs.length≤3∧1≤j+xs.length∧Blk wr w.heap.size 44 #[.int .i64 0,.int .i64 0,.int .i64 0,.slice none 0 0]∧Blk wr w5.heap.size 44 #[.int .i64 (1+r),.int .i64 (1+s),.int .i64 (1+q),.slice a1 xs.length c1]∧wr.ownsRow (w5.heap.size+1) 163 3 (.slice a1 xs.length c1) xs.length (z0i xs)∧Src B wr b (T+4+3*xs.length)∧w.grownBy wr (some b)∧w5.heap.size+1≤wr.heap.size) (fun c _=>(intOf c).toNat)
 case atStart=>exact⟨j0+1,[],none,0,by go_num,fun z hz=>by simp at hz,by simp;omega,by simp,B0,Bt,World.ownsRow_nil _ _ _ _,hS,hg,af⟩
 case round=>
  clear B0 Bt hS hg af;obtain⟨j,xs,a1,c1,rfl,HX,ax,aw,B0,Bt,ho,hS,hg,ah⟩:=hrel;by_cases ar:0<j
  ·have ao:some b≠Value.ownBlock (.slice a1 xs.length c1):=z0N ho (Or.inl (by omega));have t3:wr.cell? ⟨w5.heap.size,3,none⟩=some (.slice a1 xs.length c1):=Bt.cell 3 _ rfl;generalize hP:(fun u:World=>u.cell? ⟨w5.heap.size,3,none⟩=some (.slice a1 xs.length c1))=PP;have Y:PP wr:=by subst hP;exact t3
   have am:∀u:KeepP PP,u.val.cell? ⟨w5.heap.size,3,none⟩=some (.slice a1 xs.length c1):=fun u=>by have:=u.isP;subst hP;exact this
   have ap:Nonempty (KeepP PP):=⟨⟨wr,Y⟩⟩
   go_wp2_with fail
   refine z1S (S:=fun w'=>∃u:KeepP PP,w'=u.val) (R:=fun _ _=>False) 7 (by kernel_rfl) (fun _ _ _ _ h=>h.elim) ?_;have aa:PP wr.drew:=by subst hP;exact Y
   refine sgX [(0,3)] 5 (by kernel_rfl) ⟨⟨wr.drew,aa⟩,rfl⟩ ?_;simp only[pkE];repeat go_big_quiet_step (fail)
   refine wpQuiet_nil ?_;clear am ap Y t3 aa;replace Bt:Blk wr.drew w5.heap.size 44 #[.int .i64 (1+r),.int .i64 (1+s),.int .i64 (1+q),.slice a1 xs.length c1]:=Bt;replace B0:Blk wr.drew w.heap.size 44 #[.int .i64 0,.int .i64 0,.int .i64 0,.slice none 0 0]:=B0;replace ho:=ho.drew;have Z:Below wr.heap.size wr wr.drew:=(Below.refl _ _).drew;replace hS:=hS.below Z;replace hg:=z0e hg (Z.mono hg.size);have C:∀u:World,Blk u w5.heap.size 44 #[.int .i64 (1+r),.int .i64 (1+s),.int .i64 (1+q),.slice a1 xs.length c1]→PP u:=by
    intro u hu;subst hP;exact hu.cell 3 _ rfl
   clear hP Z;have M:w5.heap.size+1≤wr.drew.heap.size:=ah;generalize wr.drew=wd at Bt B0 ho hS hg M;refine clX 3 (some 25) 155 #[.pointer (some ⟨b,0,none⟩)] 4 (by kernel_rfl) rfl ?_;refine(z4b B b (T+4+3*xs.length) wd hS (by omega)).mono ?_;rintro e w8 ⟨k,y,z,rfl,hF,x,d⟩;have al:Hid (∀u∈xs++[(⟨k,y,z⟩:ActD)],actF u=0):=by
    intro u hu;rcases List.mem_append.1 hu with hu|hu
    ·exact HX.out u hu
    ·simp only[List.mem_singleton]at hu;subst hu;exact hF
   clear HX hF;refine Or.inl ⟨_,rfl,?_⟩;replace Bt:=Bt.grown d (by simp;omega);replace B0:=B0.grown d (by simp;omega);replace ho:=ho.kept d (Or.inr (fun e=>ao e.symm));replace hg:=hg.trans d;replace hS:=x;have au:w5.heap.size+1≤w8.heap.size:=Nat.le_trans M d.size;clear d x ah M;refine⟨⟨⟨w8,C _ Bt⟩,rfl⟩,?_⟩;simp only[Act.put,pgE,pjE];have A:Below w8.heap.size w8 (w8.alloc (.cells #[.int .i64 k,.int .i64 y,.int .i64 z] 163)):=by go_grown
   refine onX 4 3 rfl (by kernel_rfl) ?_
   go_wp2
   replace Bt:=Bt.below A;replace B0:=B0.below A;replace hS:=hS.below A;replace hg:=z0e hg (A.mono hg.size);refine ThenX.to ⟨Or.inr ⟨⟨_,C _ Bt⟩,rfl⟩,?_⟩;have J:(w5.heap.size+1)≤(w8.alloc (.cells #[.int .i64 k,.int .i64 y,.int .i64 z] 163)).heap.size:=by simp;omega
   have L:∀j u,[Value.int .i64 k,.int .i64 y,.int .i64 z][j]?=some u→(w8.alloc (.cells #[.int .i64 k,.int .i64 y,.int .i64 z] 163)).cell? ((⟨w8.heap.size,0,none⟩:Addr).add j)=some u:=by
    intro j u hj;match j,hj with|0,hj=>simp at hj;subst hj;simp[Addr.add]|1,hj=>simp at hj;subst hj;simp[Addr.add]|2,hj=>simp at hj;subst hj;simp[Addr.add]
   replace ho:=z0a ho A;generalize w8.alloc (.cells #[.int .i64 k,.int .i64 y,.int .i64 z] 163)=wb at A Bt B0 hS hg J L ho;obtain⟨i0,hi,ai,aj,ak⟩:=info_parts z1N;refine onX 5 2 rfl (by kernel_rfl) ?_;refine wpList_append_own _ rfl _ _ 42 rfl (w5.heap.size+1) 163 i0 (.agg #[.int .i64 0,.int .i64 0,.int .i64 0]) 3 24 Tryz.underlying42 hi ai aj ak rfl (by decide) _ xs.length (z0i xs) rfl ho ⟨w8.heap.size,0,none⟩ 1 1 [.int .i64 k,.int .i64 y,.int .i64 z] rfl rfl L ?c2 ?c3 ?c4 ?c5 ?_
   case c2=>intro u hu;simp at hu;rcases hu with rfl|rfl|rfl<;>rfl
   case c3=>unfold maxLen;omega
   case c4=>omega
   case c5=>exact J
   intro v' wc I E _;obtain⟨a2,c2,rfl⟩:=z0b I;have ad:∀j,(Value.slice a1 xs.length c1).ownBlock=some j→(w5.heap.size+1)≤j:=fun j hj=>(ho.lt j hj).1
   have D:Below (w5.heap.size+1) wb wc:=(Below.refl _ _).grown E J ad;have ag:(w5.heap.size+1)≤wc.heap.size:=Nat.le_trans J D.size;replace Bt:Blk wc w5.heap.size 44 #[.int .i64 (1+r),.int .i64 (1+s),.int .i64 (1+q),.slice a1 xs.length c1]:=(D.block _ (by omega)).trans Bt;replace B0:Blk wc w.heap.size 44 #[.int .i64 0,.int .i64 0,.int .i64 0,.slice none 0 0]:=(D.block _ (by omega)).trans B0;replace hS:=hS.low D (by omega);replace hg:=z0e hg (D.mono (by omega));clear E ad D ho A L
   go_wp2
   refine ThenX.to ⟨Or.inr ⟨⟨_,C _ Bt⟩,rfl⟩,?_⟩;simp only[Act.put,pgE,pjE];refine onX 6 1 rfl (by kernel_rfl) ?_
   go_wp2
   refine ThenX.to ⟨Or.inr ⟨⟨_,C _ Bt⟩,rfl⟩,?_⟩;refine onX 7 0 rfl (by kernel_rfl) ?_;have t3:=Bt.cell 3 _ rfl;have t4:=Bt.frozen 3
   go_wp2
   clear t3 t4 C;refine ThenX.to ⟨Or.inl (by kernel_rfl),?_⟩;refine z6X (by kernel_rfl) ?_;have N:Below w5.heap.size wc (wc.setCell ⟨w5.heap.size,3,none⟩ (.slice a2 (xs.length+1) c2)):=(Below.refl _ _).setCell (p:=⟨w5.heap.size,3,none⟩) (Nat.le_refl _) _;replace Bt:Blk (wc.setCell ⟨w5.heap.size,3,none⟩ (.slice a2 (xs.length+1) c2)) w5.heap.size 44 #[.int .i64 (1+r),.int .i64 (1+s),.int .i64 (1+q),.slice a2 (xs.length+1) c2]:=by
    have:=Go.Joins.block_setCell (i:=3) (v:=.slice a2 (xs.length+1) c2) Bt;unfold Blk;simpa using this
   replace B0:=(N.block _ (by omega)).trans B0;have ho:=ownsRow_setCell_below (a:=⟨w5.heap.size,3,none⟩) I (by dsimp only;omega) (.slice a2 (xs.length+1) c2);replace hS:=hS.low N (by omega);replace hg:=z0e hg (N.mono (by omega));have X:(w5.heap.size+1)≤(wc.setCell ⟨w5.heap.size,3,none⟩ (.slice a2 (xs.length+1) c2)).heap.size:=by simpa[World.setCell]using ag
   clear ag J I hi ai aj ak N;generalize wc.setCell ⟨w5.heap.size,3,none⟩ (.slice a2 (xs.length+1) c2)=w9 at Bt B0 ho hS hg X;have aq:w9.ownsRow (w5.heap.size+1) 163 3 (.slice a2 (xs.length+1) c2) (xs.length+1) (z0i (xs++[⟨k,y,z⟩])):=by rw[z1t];exact ho
   clear ho
   go_wp2
   go_roundw
   case rel=>
    refine⟨j-1,xs++[⟨k,y,z⟩],a2,c2,by go_num,al,by simp;omega,by simp;omega,B0,by simpa using Bt,by simpa using aq,hS.mono (by simp;omega),hg,X⟩
   case measure=>simp[intOf];omega
  ·have p0:=B0.cell 0 _ rfl;have p1:=B0.cell 1 _ rfl;have p2:=B0.cell 2 _ rfl;have p3:=B0.cell 3 _ rfl;obtain⟨f0,f1,f2,f3⟩:=B0.frz4;obtain⟨q0,q1,q2,q3⟩:=Bt.cel4;clear B0 Bt
   go_wp2
   refine bodyPost_ret (v:=.agg #[.int .i64 (1+r),.int .i64 (1+s),.int .i64 (1+q),.slice a1 xs.length c1]) (by simp[results,Tryz.results96,go_sem,p0,p1,p2,p3]) rfl ?_;have ab:∀v0 v1 v2 v3:Value,Below (w.heap.size) wr ((((wr.setCell ⟨w.heap.size,0,none⟩ v0).setCell ⟨w.heap.size,1,none⟩ v1).setCell ⟨w.heap.size,2,none⟩ v2).setCell ⟨w.heap.size,3,none⟩ v3):=fun v0 v1 v2 v3=>
    ((((Below.refl _ _).setCell (p:=⟨w.heap.size,0,none⟩) (Nat.le_refl _) _).setCell (p:=⟨w.heap.size,1,none⟩) (Nat.le_refl _) _).setCell (p:=⟨w.heap.size,2,none⟩) (Nat.le_refl _) _).setCell (p:=⟨w.heap.size,3,none⟩) (Nat.le_refl _) _
   refine⟨_,_,_,a1,c1,xs,rfl,z8t (by omega) (by omega) (by omega) (by omega) HX.out,by omega,?_,(hS.low (ab _ _ _ _) an.2).mono (by omega),z0e hg (ab _ _ _ _)⟩;refine z0m (base:=w5.heap.size+1) ?_ (by omega);repeat' (refine ownsRow_setCell_below ?_ (by dsimp only;omega) _)
   exact ho
theorem z5r(a:Option Addr)(n cap:Nat)(w:World)(hm:n≤9223372036854775807):
  Calls Tryz.prog 6 #[.slice a n cap] w fun e w'=>e=.returned (.bool (decide (1048576<(n:Int))))∧w'=w:=by
 go_enter Tryz.func6,Tryz.ntmps6
 go_wp2
 go_ret;exact⟨rfl,rfl⟩
theorem z9g{ps qs:List USQ}(h:ps.map USQ.e=qs.map USQ.e):ps.length+nmL USQ.n ps=qs.length+nmL USQ.n qs:=by
 have e:∀l:List USQ,nmL USQ.n l=nmL List.length (l.map USQ.e):=fun l=>by simp only[nmL,List.map_map];rfl
 have hl:ps.length=qs.length:=by simpa using congrArg List.length h
 rw[e,e,h,hl]
theorem z8u{ps qs:List TxnQ}(h:ps.map TxnQ.e=qs.map TxnQ.e):ps.length+nmL TxnQ.n ps=qs.length+nmL TxnQ.n qs:=by
 have e:∀l:List TxnQ,nmL TxnQ.n l=nmL TxnD.n (l.map TxnQ.e):=fun l=>by simp only[nmL,List.map_map];rfl
 have hl:ps.length=qs.length:=by simpa using congrArg List.length h
 rw[e,e,h,hl]
theorem z9h{p q:RepQ}(h:p.e=q.e):p.n=q.n:=by
 simp only[RepQ.e,RepE.mk.injEq]at h;obtain⟨h0,h1,h2,h3,h4⟩:=h;simp only[RepQ.n];have a0:=z8u h0;have a2:=z8u h2;have a3:=z9g h3;rw[h1,h4];omega
theorem z80{p q:RepQ}(h:p.e=q.e)(hl:p.n≤1048576):q.n≤1048576:=by rw[←z9h h];exact hl
theorem Kind.At.take'{P:Type}{K:Kind P}{w:World}{a:Option Addr}{n cap:Nat}{ps:List P}(h:K.At w (.slice a n cap) ps)(m:Nat)(hm:m≤ps.length):K.At w (.slice a m cap) (ps.take m):=by
 obtain⟨a',c,e,hl,hr⟩:=h;simp only[Value.slice.injEq]at e;obtain⟨rfl,_,rfl⟩:=e;refine⟨a,cap,by rw[List.length_take,Nat.min_eq_left hm],?_,fun p hp=>hr p (List.mem_of_mem_take hp)⟩;have er:K.row ps=K.row (ps.take m)++K.row (ps.drop m):=by
  unfold Kind.row;rw[←List.flatMap_append,List.take_append_drop]
 rcases hl with h0|⟨b,off,ha,hlt,hc⟩
 ·left;rw[er]at h0;exact(List.append_eq_nil_iff.1 h0).1
 ·right;refine⟨b,off,ha,hlt,fun j x hx=>hc j x ?_⟩;rw[er,List.getElem?_append_left (List.getElem?_eq_some_iff.1 hx).1];exact hx
theorem Kind.Own.cap'{P:Type}{K:Kind P}{w:World}{a:Option Addr}{n cap:Nat}{ps:List P}(h:K.Own w (.slice a n cap) ps):n≤cap∧cap≤maxLen:=by
 rcases h.1.2 with⟨e,_⟩|⟨g,c,cur,e,_,_,h1,h2,_⟩
 ·simp only[Value.slice.injEq]at e;obtain⟨_,rfl,rfl⟩:=e;exact⟨Nat.le_refl _,by decide⟩
 ·simp only[Value.slice.injEq]at e;obtain⟨_,rfl,rfl⟩:=e;exact⟨h1,h2⟩
def preT(xs ys:List TxnD):Bool:=decide (xs.length≤ys.length) && sameTs xs (ys.take xs.length)
theorem z4O(v v':Value)(xs ys:List TxnQ)(w:World)(h:txnK.At w v xs)(h':txnK.Own w v' ys)(hl:xs.length+nmL TxnQ.n xs≤1048576)(C:ys.length+nmL TxnQ.n ys≤1048576):
  Calls Tryz.prog 52 #[v,v',.func (.func 53) #[] #[]] w fun e w'=>e=.returned (.bool (preT (xs.map TxnQ.e) (ys.map TxnQ.e)))∧Below w.heap.size w w':=by
 obtain⟨a,cap,rfl⟩:=h.shape;obtain⟨a',c,rfl⟩:=h'.shape;obtain⟨hc,A⟩:=h'.cap';unfold preT;rw[List.length_map,List.length_map];by_cases d:xs.length≤ys.length
 ·have hd:decide (xs.length≤ys.length)=true:=decide_eq_true d;rw[hd,Bool.true_and];have hT:=h'.at.take' xs.length d;have hn:nmL TxnQ.n (ys.take xs.length)≤nmL TxnQ.n ys:=z78 TxnQ.n ys xs.length;have hq:=z2w (.slice a xs.length cap) (.slice a' xs.length c) (xs.map TxnQ.e) ((ys.take xs.length).map TxnQ.e) w (z0z h) (z0z hT) (by rw[List.length_map,z0T];omega) (by rw[List.length_map,z0T,List.length_take];omega);rw[List.map_take]at hq;generalize sameTs (xs.map TxnQ.e) ((ys.map TxnQ.e).take xs.length)=E at*;have y:(xs.length:Int)≤(ys.length:Int):=by omega
  have I:xs.length≤c:=by omega
  have z:(xs.length:Int)≤(c:Int):=by omega
  have D:(0:Int)≤(xs.length:Int):=by omega
  clear hT hn hd;go_enter Tryz.func52,Tryz.ntmps52
  go_wp2_with fail
  refine hq.mono ?_;rintro e w2 ⟨rfl,x⟩
  go_wp2
  go_ret;exact⟨rfl,x⟩
 ·have hd:decide (xs.length≤ys.length)=false:=decide_eq_false d;rw[hd,Bool.false_and];have y:¬(xs.length:Int)≤(ys.length:Int):=by omega
  clear hd;go_enter Tryz.func52,Tryz.ntmps52
  go_wp2
  go_ret;exact⟨rfl,Below.refl _ _⟩
theorem z3n(v v':Value)(xs ys:List TxnQ)(w:World)(h:txnK.At w v xs)(h':txnK.Own w v' ys)(hl:xs.length+nmL TxnQ.n xs≤1048576)(hl':ys.length+nmL TxnQ.n ys≤1048576):
  Calls Tryz.prog 17 #[v,v'] w fun e w'=>e=.returned (.bool (preT (xs.map TxnQ.e) (ys.map TxnQ.e)))∧Below w.heap.size w w':=by
 have hq:=z4O v v' xs ys w h h' hl hl';obtain⟨a,cap,rfl⟩:=h.shape;obtain⟨a',cap',rfl⟩:=h'.shape;generalize preT (xs.map TxnQ.e) (ys.map TxnQ.e)=E at*;go_enter Tryz.func17,Tryz.ntmps17
 go_wp2_with fail
 refine hq.mono ?_;rintro e w2 ⟨rfl,hb2⟩
 go_wp2
 go_ret;exact⟨rfl,hb2⟩
end Go.Proofs.YtciofogeiohleaaGreatDoor
