/- Texts joined,with what the laws reach alone. -/
import Derived.Test.YtciofogeiohleaaGreatDoorCOAI
set_option linter.unusedVariables false
set_option linter.unusedSimpArgs false
set_option maxRecDepth 100000
set_option maxHeartbeats 2000000
namespace Go.Proofs.YtciofogeiohleaaGreatDoor
open Go.RowKit Go.BigFrame
theorem z8y{k y v:Int}(hk:1≤k∧k≤4)(hy:1≤y∧y≤20)(hv:-1000≤v∧v≤1000)(h3:k=3→v=0):actF ⟨k,y,v⟩=0:=by
 have a:inW k 1 4=true:=by simp[inW];omega
 have b:inW y 1 20=true:=by simp[inW];omega
 have c:inW v (-1000) 1000=true:=by simp[inW];omega
 unfold actF;dsimp only;rw[a,b,c];by_cases e:k=3
 ·simp[e,h3 e]
 ·simp[e]
theorem z9s{zs:List ActD}(h:∀z∈zs,actF z=0):z2m zs=0:=by
 induction zs with
 |nil=>rfl
 |cons x r ih=>
  simp only[z2m];rw[if_pos (h x (by simp))];exact ih (fun z hz=>h z (by simp[hz]))
theorem q0l{i s q:Int}{zs:List ActD}(hi:1≤i∧i≤200)(hs:1≤s∧s≤9)(hq:1≤q∧q≤99)(hl:1≤zs.length∧zs.length≤4)(h:∀z∈zs,actF z=0):txnF i s q zs=0:=by
 have a:inW i 1 200=true:=by simp[inW];omega
 have b:inW s 1 9=true:=by simp[inW];omega
 have c:inW q 1 99=true:=by simp[inW];omega
 unfold txnF;rw[a,b,c,if_neg (by simp),if_neg (by omega)];exact z9s h
theorem z4I(B b T:Nat)(w:World)(hS:Src B w b T)(hT:T≤1000000):
  Calls Tryz.prog 155 #[.pointer (some ⟨b,0,none⟩)] w fun e w'=>∃k y z:Int,e=.returned (.agg #[.int .i64 k,.int .i64 y,.int .i64 z])∧actF ⟨k,y,z⟩=0∧Src B w' b (T+3)∧w.grownBy w' (some b):=by
 have I:=hS.lt;have B0:=Blk.new w 163 #[.int .i64 0,.int .i64 0,.int .i64 0];have hg:w.grownBy (w.alloc (.cells #[.int .i64 0,.int .i64 0,.int .i64 0] 163)) (some b):=World.grownBy_alloc w _ _;replace hS:Src B (w.alloc (.cells #[.int .i64 0,.int .i64 0,.int .i64 0] 163)) b T:=hS.below (by go_grown);go_enter Tryz.func155,Tryz.ntmps155
 go_wp2_with fail
 have C:w.heap.size+1=(w.alloc (.cells #[.int .i64 0,.int .i64 0,.int .i64 0] 163)).heap.size:=by simp
 generalize w.alloc (.cells #[.int .i64 0,.int .i64 0,.int .i64 0] 163)=W1 at B0 hg hS C;try simp only[C]
 replace C:w.heap.size<W1.heap.size:=by omega
 have L:=hS.lt;have d:Below W1.heap.size W1 (W1.alloc (.cells #[.int .i64 1,.int .i64 1,.int .i64 2,.int .i64 2,.int .i64 3,.int .i64 4] 2)):=by go_grown
 replace B0:=B0.below d;replace hg:=hg.trans (World.grownBy_alloc W1 (.cells #[.int .i64 1,.int .i64 1,.int .i64 2,.int .i64 2,.int .i64 3,.int .i64 4] 2) (some b));refine(z06 B b T W1.heap.size _ [1,1,2,2,3,4] _ (hS.below (by go_grown)) (by omega) (World.ownsRow_lit W1 _ 6 (Nat.le_refl _) (by decide) rfl) (by simp) (by simp) (by simp[Value.ownBlock];omega)).mono ?_;rintro e w3 ⟨k,rfl,s,q,c⟩;replace B0:=B0.grown c (by simp;omega);replace hg:=hg.trans c;replace hS:=q;have N:=c.size;clear c q;have G:1≤k∧k≤4:=by simp at s;omega
 clear s
 go_wp2_with fail
 refine(z0m B b (T+1) 4 w3 hS (by omega) (by omega)).mono ?_;rintro e w4 ⟨r,rfl,hr,q,c⟩;have r1:=hr.1;have r2:=hr.2.1 (by omega);replace B0:=B0.grown c (by simp;omega);replace hg:=hg.trans c;replace hS:=q;have U:=c.size;clear c q;clear hr;have d:Below w4.heap.size w4 (w4.alloc (.cells #[.int .i64 k,.int .i64 (1+r),.int .i64 0] 163)):=by go_grown
 have B1:=Blk.new w4 163 #[.int .i64 k,.int .i64 (1+r),.int .i64 0];have J:=B0.lt;have A:=B0;have D:=hS;have E:=hg;replace B0:=B0.below d;replace hS:=hS.below d;have X:=hg.size;replace hg:=z0h hg (d.mono X);have q0:=B1.cell 0 _ rfl;clear d;by_cases hk:k=3
 ·have W:(k !=3)=false:=by simp[hk]
  obtain⟨p0,p1,p2⟩:=A.cel3;obtain⟨f0,f1,f2⟩:=A.frz3;have HK:Hid (k=3):=hk;clear B0 B1 A hS hg hk q0
  go_wp2
  refine bodyPost_ret (v:=.agg #[.int .i64 k,.int .i64 (1+r),.int .i64 0]) (by simp[results,Tryz.results155,go_sem,p0,p1,p2,J]) rfl ?_;have x:∀O,Below w.heap.size w4 ((((w4.setCell ⟨w.heap.size,0,none⟩ (.int .i64 k)).setCell ⟨w.heap.size,1,none⟩ (.int .i64 (1+r))).setCell ⟨w.heap.size,2,none⟩ (.int .i64 0)).alloc O):=fun O=>
   ((((Below.refl _ _).setCell (p:=⟨w.heap.size,0,none⟩) (Nat.le_refl _) _).setCell (p:=⟨w.heap.size,1,none⟩) (Nat.le_refl _) _).setCell (p:=⟨w.heap.size,2,none⟩) (Nat.le_refl _) _).alloc (by simp[World.setCell];omega) O
  exact⟨_,_,_,rfl,z8y G (by omega) (by omega) (fun _=>rfl),(D.low (x _) I.2).mono (by omega),z0h E (x _)⟩
 ·have W:(k !=3)=true:=by simp[bne_iff_ne,hk]
  clear A D E
  go_wp2_with fail
  clear q0;have M:w4.heap.size+1=(w4.alloc (.cells #[.int .i64 k,.int .i64 (1+r),.int .i64 0] 163)).heap.size:=by simp
  generalize w4.alloc (.cells #[.int .i64 k,.int .i64 (1+r),.int .i64 0] 163)=W5 at*;simp only[M];clear M;have L:=hS.lt;have d:Below W5.heap.size W5 (W5.alloc (.cells #[.int .i64 0,.int .i64 1,.int .i64 5,.int .i64 (-3),.int .i64 1000] 2)):=by go_grown
  replace B0:=B0.below d;replace B1:=B1.below d;replace hg:=hg.trans (World.grownBy_alloc W5 (.cells #[.int .i64 0,.int .i64 1,.int .i64 5,.int .i64 (-3),.int .i64 1000] 2) (some b));refine(z06 B b (T+1+1) W5.heap.size _ [0,1,5,-3,1000] _ (hS.below (by go_grown)) (by omega) (World.ownsRow_lit W5 _ 5 (Nat.le_refl _) (by decide) rfl) (by simp) (by simp) (by simp[Value.ownBlock];omega)).mono ?_;rintro e w6 ⟨z,rfl,s,q,c⟩;replace B0:=B0.grown c (by simp;omega);replace B1:=B1.grown c (by simp;omega);replace hg:=hg.trans c;replace hS:=q;have V:=c.size;clear c q;have Y:-1000≤z∧z≤1000:=by simp at s;omega
  clear s;have aa:w4.heap.size<w6.heap.size:=B1.lt;obtain⟨q0,q1,q2⟩:=B1.cel3;have g2:=B1.frozen 2;obtain⟨p0,p1,p2⟩:=B0.cel3;obtain⟨f0,f1,f2⟩:=B0.frz3;have Z:w.heap.size≠w4.heap.size:=by omega
  have HK:Hid (k≠3):=hk;clear B0 B1 hk
  go_wp2
  refine bodyPost_ret (v:=.agg #[.int .i64 k,.int .i64 (1+r),.int .i64 z]) (by simp[results,Tryz.results155,go_sem,p0,p1,p2]) rfl ?_;have x:Below w.heap.size w6 ((((w6.setCell ⟨w4.heap.size,2,none⟩ (.int .i64 z)).setCell ⟨w.heap.size,0,none⟩ (.int .i64 k)).setCell ⟨w.heap.size,1,none⟩ (.int .i64 (1+r))).setCell ⟨w.heap.size,2,none⟩ (.int .i64 z)):=by
   exact((((Below.refl _ _).setCell (p:=⟨w4.heap.size,2,none⟩) (show w.heap.size≤w4.heap.size by omega) _).setCell (p:=⟨w.heap.size,0,none⟩) (Nat.le_refl _) _).setCell (p:=⟨w.heap.size,1,none⟩) (Nat.le_refl _) _).setCell (p:=⟨w.heap.size,2,none⟩) (Nat.le_refl _) _
  exact⟨_,_,_,rfl,z8y G (by omega) Y (fun e=>absurd e HK.out),(hS.low x I.2).mono (by omega),z0h hg x⟩
theorem z6z(B b T:Nat)(w:World)(hS:Src B w b T)(hT:T≤900000):
  Calls Tryz.prog 96 #[.pointer (some ⟨b,0,none⟩)] w fun e w'=>∃ (i s q:Int) (a:Option Addr) (c:Nat) (xs:List ActD),e=.returned (.agg #[.int .i64 i,.int .i64 s,.int .i64 q,.slice a xs.length c])∧txnF i s q xs=0∧xs.length≤3∧
   w'.ownsRow w.heap.size 163 3 (.slice a xs.length c) xs.length (z0j xs)∧Src B w' b (T+13)∧w.grownBy w' (some b):=by
 have am:=hS.lt;have B0:=Blk.new w 44 #[.int .i64 0,.int .i64 0,.int .i64 0,.slice none 0 0];have hg:w.grownBy (w.alloc (.cells #[.int .i64 0,.int .i64 0,.int .i64 0,.slice none 0 0] 44)) (some b):=World.grownBy_alloc w _ _;replace hS:Src B (w.alloc (.cells #[.int .i64 0,.int .i64 0,.int .i64 0,.slice none 0 0] 44)) b T:=hS.below (by go_grown);go_enter Tryz.func96,Tryz.ntmps96
 go_wp2_with fail
 generalize w.alloc (.cells #[.int .i64 0,.int .i64 0,.int .i64 0,.slice none 0 0] 44)=W1 at B0 hg hS;refine(z0m B b T 12 W1 hS (by omega) (by omega)).mono ?_;rintro e w3 ⟨r,rfl,hr,x,d⟩;have r1:=hr.1;have r2:=hr.2.1 (by omega);replace B0:=B0.grown d (by simp;omega);replace hg:=hg.trans d;replace hS:=x;have N:=d.size;clear d x;clear hr
 go_wp2_with fail
 refine(z0m B b (T+1) 3 w3 hS (by omega) (by omega)).mono ?_;rintro e w4 ⟨s,rfl,hr,x,d⟩;have s1:=hr.1;have s2:=hr.2.1 (by omega);replace B0:=B0.grown d (by simp;omega);replace hg:=hg.trans d;replace hS:=x;have O:=d.size;clear d x;clear hr
 go_wp2_with fail
 refine(z0m B b (T+1+1) 4 w4 hS (by omega) (by omega)).mono ?_;rintro e w5 ⟨q,rfl,hr,x,d⟩;have q1:=hr.1;have q2:=hr.2.1 (by omega);replace B0:=B0.grown d (by simp;omega);replace hg:=hg.trans d;replace hS:=x;have U:=d.size;clear d x;clear hr;have A:Below w5.heap.size w5 (w5.alloc (.cells #[.int .i64 (1+r),.int .i64 (1+s),.int .i64 (1+q),.slice none 0 0] 44)):=by go_grown
 have Bt:=Blk.new w5 44 #[.int .i64 (1+r),.int .i64 (1+s),.int .i64 (1+q),.slice none 0 0];have ay:w.heap.size<w5.heap.size:=B0.lt;replace B0:=B0.below A;replace hS:=hS.below A;replace hg:=z0h hg (A.mono hg.size)
 go_wp2_with fail
 have ad:(w5.alloc (.cells #[.int .i64 (1+r),.int .i64 (1+s),.int .i64 (1+q),.slice none 0 0] 44)).heap.size=w5.heap.size+1:=by simp
 generalize w5.alloc (.cells #[.int .i64 (1+r),.int .i64 (1+s),.int .i64 (1+q),.slice none 0 0] 44)=W6 at B0 Bt hS hg ad;clear A;refine(z0m B b (T+1+1+1) 3 W6 hS (by omega) (by omega)).mono ?_;rintro e w7 ⟨k,rfl,hr,x,d⟩;have k1:=hr.1;have k2:=hr.2.1 (by omega);replace B0:=B0.grown d (by simp;omega);replace Bt:=Bt.grown d (by simp;omega);replace hg:=hg.trans d;replace hS:=x;have V:=d.size;clear d x;clear hr;obtain⟨j0,rfl⟩:=Int.eq_ofNat_of_zero_le k1;have au:j0≤2:=by omega
 have ae:w5.heap.size+1≤w7.heap.size:=by omega
 clear k1 k2 ad V N O U;have ax:(0:Int)≤1+r∧1+r≤100:=by omega
 go_wp2
 go_loopw[4] (fun c wr=>∃ (j:Nat) (xs:List ActD) (a1:Option Addr) (c1:Nat),c=.int .i64 j∧Hid (∀z∈xs,actF z=0)∧j+xs.length≤3∧1≤j+xs.length∧Blk wr w.heap.size 44 #[.int .i64 0,.int .i64 0,.int .i64 0,.slice none 0 0]∧Blk wr w5.heap.size 44 #[.int .i64 (1+r),.int .i64 (1+s),.int .i64 (1+q),.slice a1 xs.length c1]∧wr.ownsRow (w5.heap.size+1) 163 3 (.slice a1 xs.length c1) xs.length (z0j xs)∧Src B wr b (T+4+3*xs.length)∧w.grownBy wr (some b)∧w5.heap.size+1≤wr.heap.size) (fun c _=>(intOf c).toNat)
 case atStart=>exact⟨j0+1,[],none,0,by go_num,fun z hz=>by simp at hz,by simp;omega,by simp,B0,Bt,World.ownsRow_nil _ _ _ _,hS,hg,ae⟩
 case round=>
  clear B0 Bt hS hg ae;obtain⟨j,xs,a1,c1,rfl,HX,aw,av,B0,Bt,ho,hS,hg,ag⟩:=hrel;by_cases aq:0<j
  ·have an:some b≠Value.ownBlock (.slice a1 xs.length c1):=z2F ho (Or.inl (by omega));have t3:wr.cell? ⟨w5.heap.size,3,none⟩=some (.slice a1 xs.length c1):=Bt.cell 3 _ rfl;generalize hP:(fun u:World=>u.cell? ⟨w5.heap.size,3,none⟩=some (.slice a1 xs.length c1))=PP;have X:PP wr:=by subst hP;exact t3
   have al:∀u:KeepP PP,u.val.cell? ⟨w5.heap.size,3,none⟩=some (.slice a1 xs.length c1):=fun u=>by have:=u.isP;subst hP;exact this
   have ao:Nonempty (KeepP PP):=⟨⟨wr,X⟩⟩
   go_wp2_with fail
   refine z4i (S:=fun w'=>∃u:KeepP PP,w'=u.val) (R:=fun _ _=>False) 7 (by kernel_rfl) (fun _ _ _ _ h=>h.elim) ?_;have Z:PP wr.drew:=by subst hP;exact X
   refine sgX [(0,3)] 5 (by kernel_rfl) ⟨⟨wr.drew,Z⟩,rfl⟩ ?_;simp only[pkE];repeat go_big_quiet_step (fail)
   refine wpQuiet_nil ?_;clear al ao X t3 Z;replace Bt:Blk wr.drew w5.heap.size 44 #[.int .i64 (1+r),.int .i64 (1+s),.int .i64 (1+q),.slice a1 xs.length c1]:=Bt;replace B0:Blk wr.drew w.heap.size 44 #[.int .i64 0,.int .i64 0,.int .i64 0,.slice none 0 0]:=B0;replace ho:=ho.drew;have Y:Below wr.heap.size wr wr.drew:=(Below.refl _ _).drew;replace hS:=hS.below Y;replace hg:=z0h hg (Y.mono hg.size);have C:∀u:World,Blk u w5.heap.size 44 #[.int .i64 (1+r),.int .i64 (1+s),.int .i64 (1+q),.slice a1 xs.length c1]→PP u:=by
    intro u hu;subst hP;exact hu.cell 3 _ rfl
   clear hP Y;have L:w5.heap.size+1≤wr.drew.heap.size:=ag;generalize wr.drew=wd at Bt B0 ho hS hg L;refine clX 3 (some 25) 155 #[.pointer (some ⟨b,0,none⟩)] 4 (by kernel_rfl) rfl ?_;refine(z4I B b (T+4+3*xs.length) wd hS (by omega)).mono ?_;rintro e w8 ⟨k,y,z,rfl,hF,x,d⟩;have ak:Hid (∀u∈xs++[(⟨k,y,z⟩:ActD)],actF u=0):=by
    intro u hu;rcases List.mem_append.1 hu with hu|hu
    ·exact HX.out u hu
    ·simp only[List.mem_singleton]at hu;subst hu;exact hF
   clear HX hF;refine Or.inl ⟨_,rfl,?_⟩;replace Bt:=Bt.grown d (by simp;omega);replace B0:=B0.grown d (by simp;omega);replace ho:=ho.kept d (Or.inr (fun e=>an e.symm));replace hg:=hg.trans d;replace hS:=x;have ar:w5.heap.size+1≤w8.heap.size:=Nat.le_trans L d.size;clear d x ag L;refine⟨⟨⟨w8,C _ Bt⟩,rfl⟩,?_⟩;simp only[Act.put,pgE,pjE];have A:Below w8.heap.size w8 (w8.alloc (.cells #[.int .i64 k,.int .i64 y,.int .i64 z] 163)):=by go_grown
   refine onX 4 3 rfl (by kernel_rfl) ?_
   go_wp2
   replace Bt:=Bt.below A;replace B0:=B0.below A;replace hS:=hS.below A;replace hg:=z0h hg (A.mono hg.size);refine ThenX.to ⟨Or.inr ⟨⟨_,C _ Bt⟩,rfl⟩,?_⟩;have I:(w5.heap.size+1)≤(w8.alloc (.cells #[.int .i64 k,.int .i64 y,.int .i64 z] 163)).heap.size:=by simp;omega
   have J:∀j u,[Value.int .i64 k,.int .i64 y,.int .i64 z][j]?=some u→(w8.alloc (.cells #[.int .i64 k,.int .i64 y,.int .i64 z] 163)).cell? ((⟨w8.heap.size,0,none⟩:Addr).add j)=some u:=by
    intro j u hj;match j,hj with|0,hj=>simp at hj;subst hj;simp[Addr.add]|1,hj=>simp at hj;subst hj;simp[Addr.add]|2,hj=>simp at hj;subst hj;simp[Addr.add]
   replace ho:=z0n ho A;generalize w8.alloc (.cells #[.int .i64 k,.int .i64 y,.int .i64 z] 163)=wb at A Bt B0 hS hg I J ho;obtain⟨i0,hi,ah,ai,aj⟩:=info_parts z20;refine onX 5 2 rfl (by kernel_rfl) ?_;refine wpList_append_own _ rfl _ _ 42 rfl (w5.heap.size+1) 163 i0 (.agg #[.int .i64 0,.int .i64 0,.int .i64 0]) 3 24 Tryz.underlying42 hi ah ai aj rfl (by decide) _ xs.length (z0j xs) rfl ho ⟨w8.heap.size,0,none⟩ 1 1 [.int .i64 k,.int .i64 y,.int .i64 z] rfl rfl J ?c2 ?c3 ?c4 ?c5 ?_
   case c2=>intro u hu;simp at hu;rcases hu with rfl|rfl|rfl<;>rfl
   case c3=>unfold maxLen;omega
   case c4=>omega
   case c5=>exact I
   intro v' wc G E _;obtain⟨a2,c2,rfl⟩:=z0p G;have ab:∀j,(Value.slice a1 xs.length c1).ownBlock=some j→(w5.heap.size+1)≤j:=fun j hj=>(ho.lt j hj).1
   have D:Below (w5.heap.size+1) wb wc:=(Below.refl _ _).grown E I ab;have af:(w5.heap.size+1)≤wc.heap.size:=Nat.le_trans I D.size;replace Bt:Blk wc w5.heap.size 44 #[.int .i64 (1+r),.int .i64 (1+s),.int .i64 (1+q),.slice a1 xs.length c1]:=(D.block _ (by omega)).trans Bt;replace B0:Blk wc w.heap.size 44 #[.int .i64 0,.int .i64 0,.int .i64 0,.slice none 0 0]:=(D.block _ (by omega)).trans B0;replace hS:=hS.low D (by omega);replace hg:=z0h hg (D.mono (by omega));clear E ab D ho A J
   go_wp2
   refine ThenX.to ⟨Or.inr ⟨⟨_,C _ Bt⟩,rfl⟩,?_⟩;simp only[Act.put,pgE,pjE];refine onX 6 1 rfl (by kernel_rfl) ?_
   go_wp2
   refine ThenX.to ⟨Or.inr ⟨⟨_,C _ Bt⟩,rfl⟩,?_⟩;refine onX 7 0 rfl (by kernel_rfl) ?_;have t3:=Bt.cell 3 _ rfl;have t4:=Bt.frozen 3
   go_wp2
   clear t3 t4 C;refine ThenX.to ⟨Or.inl (by kernel_rfl),?_⟩;refine q0b (by kernel_rfl) ?_;have M:Below w5.heap.size wc (wc.setCell ⟨w5.heap.size,3,none⟩ (.slice a2 (xs.length+1) c2)):=(Below.refl _ _).setCell (p:=⟨w5.heap.size,3,none⟩) (Nat.le_refl _) _;replace Bt:Blk (wc.setCell ⟨w5.heap.size,3,none⟩ (.slice a2 (xs.length+1) c2)) w5.heap.size 44 #[.int .i64 (1+r),.int .i64 (1+s),.int .i64 (1+q),.slice a2 (xs.length+1) c2]:=by
    have:=Go.Joins.block_setCell (i:=3) (v:=.slice a2 (xs.length+1) c2) Bt;unfold Blk;simpa using this
   replace B0:=(M.block _ (by omega)).trans B0;have ho:=ownsRow_setCell_below (a:=⟨w5.heap.size,3,none⟩) G (by dsimp only;omega) (.slice a2 (xs.length+1) c2);replace hS:=hS.low M (by omega);replace hg:=z0h hg (M.mono (by omega));have W:(w5.heap.size+1)≤(wc.setCell ⟨w5.heap.size,3,none⟩ (.slice a2 (xs.length+1) c2)).heap.size:=by simpa[World.setCell]using af
   clear af I G hi ah ai aj M;generalize wc.setCell ⟨w5.heap.size,3,none⟩ (.slice a2 (xs.length+1) c2)=w9 at Bt B0 ho hS hg W;have ap:w9.ownsRow (w5.heap.size+1) 163 3 (.slice a2 (xs.length+1) c2) (xs.length+1) (z0j (xs++[⟨k,y,z⟩])):=by rw[z1J];exact ho
   clear ho
   go_wp2
   go_roundw
   case rel=>
    refine⟨j-1,xs++[⟨k,y,z⟩],a2,c2,by go_num,ak,by simp;omega,by simp;omega,B0,by simpa using Bt,by simpa using ap,hS.mono (by simp;omega),hg,W⟩
   case measure=>simp[intOf];omega
  ·have p0:=B0.cell 0 _ rfl;have p1:=B0.cell 1 _ rfl;have p2:=B0.cell 2 _ rfl;have p3:=B0.cell 3 _ rfl;obtain⟨f0,f1,f2,f3⟩:=B0.frz4;obtain⟨q0,q1,q2,q3⟩:=Bt.cel4;clear B0 Bt
   go_wp2
   refine bodyPost_ret (v:=.agg #[.int .i64 (1+r),.int .i64 (1+s),.int .i64 (1+q),.slice a1 xs.length c1]) (by simp[results,Tryz.results96,go_sem,p0,p1,p2,p3]) rfl ?_;have aa:∀v0 v1 v2 v3:Value,Below (w.heap.size) wr ((((wr.setCell ⟨w.heap.size,0,none⟩ v0).setCell ⟨w.heap.size,1,none⟩ v1).setCell ⟨w.heap.size,2,none⟩ v2).setCell ⟨w.heap.size,3,none⟩ v3):=fun v0 v1 v2 v3=>
    ((((Below.refl _ _).setCell (p:=⟨w.heap.size,0,none⟩) (Nat.le_refl _) _).setCell (p:=⟨w.heap.size,1,none⟩) (Nat.le_refl _) _).setCell (p:=⟨w.heap.size,2,none⟩) (Nat.le_refl _) _).setCell (p:=⟨w.heap.size,3,none⟩) (Nat.le_refl _) _
   refine⟨_,_,_,a1,c1,xs,rfl,q0l (by omega) (by omega) (by omega) (by omega) HX.out,by omega,?_,(hS.low (aa _ _ _ _) am.2).mono (by omega),z0h hg (aa _ _ _ _)⟩;refine z0R (base:=w5.heap.size+1) ?_ (by omega);repeat' (refine ownsRow_setCell_below ?_ (by dsimp only;omega) _)
   exact ho
def RB(j:Nat)(ps:List TxnQ):Prop:=(∀p∈ps,p.acts.length≤3)∧(∀t∈ps.map TxnQ.e,t.F=0)∧((ps.map TxnQ.e).map TxnD.id).Nodup∧(0<j∨0<ps.length)
theorem z7a:∀ {ds:List TxnD},(∀t∈ds,t.F=0)→allF ds=0
 |[],_=>rfl
 |x::r,h=>by
  rw[allF,if_pos (h x (by simp))];exact z7a (fun t ht=>h t (List.mem_cons_of_mem _ ht))
theorem q05{ps:List TxnQ}(h1:∀t∈ps.map TxnQ.e,t.F=0)(h2:((ps.map TxnQ.e).map TxnD.id).Nodup)(h3:0<ps.length)(h4:ps.length≤3):batF (ps.map TxnQ.e)=0:=by
 unfold batF;rw[List.length_map,if_neg (by omega),if_pos (z7a h1),if_pos h2]
theorem z3I(B b T:Nat)(w:World)(hS:Src B w b T)(hT:T≤800000):
  Calls Tryz.prog 114 #[.pointer (some ⟨b,0,none⟩)] w fun e w'=>∃ (v:Value) (ps:List TxnQ),e=.returned v∧batF (ps.map TxnQ.e)=0∧ps.length≤3∧(∀p∈ps,p.acts.length≤3)∧txnK.Own w' v ps∧(txnK.fp v ps).Nodup∧(∀k∈txnK.fp v ps,w.heap.size≤k)∧Src B w' b (T+50)∧w.grownBy w' (some b):=by
 obtain⟨i0,hi,aE,aF,aG⟩:=info_parts z1G;have aL:=hS.lt;obtain⟨ah,az⟩:=z04 (World.ownsRow_lit (e:=44) (size:=4) w #[] 0 (Nat.le_refl _) (by decide) rfl);have hg:w.grownBy (w.alloc (.cells #[] 44)) (some b):=World.grownBy_alloc w _ _;replace hS:Src B (w.alloc (.cells #[] 44)) b T:=hS.below (by go_grown);have C:txnK.Own (w.alloc (.cells #[] 44)) (.slice (some ⟨w.heap.size,0,none⟩) 0 0) ([]:List TxnQ):=⟨ah,fun p hp=>by simp at hp⟩
 have O:Hid ((txnK.fp (.slice (some ⟨w.heap.size,0,none⟩) 0 0) ([]:List TxnQ)).Nodup∧∀k∈txnK.fp (.slice (some ⟨w.heap.size,0,none⟩) 0 0) ([]:List TxnQ),w.heap.size≤k):=by
  constructor
  ·simp[Kind.fp,blk,Value.ownBlock]
  ·intro k hk;simp[Kind.fp,blk,Value.ownBlock]at hk;omega
 go_enter Tryz.func114,Tryz.ntmps114
 go_wp2_with fail
 generalize w.alloc (.cells #[] 44)=W1 at C hg hS;refine(z0m B b T 3 W1 hS (by omega) (by omega)).mono ?_;rintro e w3 ⟨r,rfl,hr,D,z⟩;obtain⟨j0,rfl⟩:=Int.eq_ofNat_of_zero_le hr.1;have ay:j0≤2:=by have:=hr.2.1 (by omega);omega
 replace C:=C.out (Out.of_grown z) (fun k hk V => by
  simp only[Option.toList,List.mem_singleton]at V;have:=O.out.2 k hk;omega)
 replace hg:=hg.trans z;replace hS:=D;clear z D hr ah az
 go_wp2
 go_loopw[3,4] (fun v c wr=>∃ (j:Nat) (ps:List TxnQ),c=.int .i64 j∧j≤3∧j+ps.length≤3∧Hid (RB j ps)∧txnK.Own wr v ps∧Hid ((txnK.fp v ps).Nodup∧∀k∈txnK.fp v ps,w.heap.size≤k)∧Src B wr b (T+1+13*(3-j))∧w.grownBy wr (some b)) (fun _ c _=>(intOf c).toNat)
 case atStart=>exact⟨1+j0,[],by go_num,by omega,by simp;omega,(⟨by simp,by simp,by simp,Or.inl (by omega)⟩:RB (1+j0) []),C,O,hS.mono (by omega),hg⟩
 case round=>
  clear C hS hg O;obtain⟨j,ps,rfl,aK,hj,HP,hR,HN,hS,hg⟩:=hrel;have aM:=hg.size;obtain⟨a1,c1,rfl⟩:=hR.shape;by_cases aI:0<j
  ·go_wp2_with fail
   refine(z6z B b (T+1+13*(3-j)) wr hS (by omega)).mono ?_;rintro e w4 ⟨i,s,q,a,c,xs,rfl,aC,aD,ho,D,z⟩;obtain⟨oA,gA⟩:=z5l ho;have HF:Hid (∀x∈txnK.fp (.slice a1 ps.length c1) ps,x<wr.heap.size):=hR.lt;replace hR:=hR.out (Out.of_grown z) (fun k hk V => by
    simp only[Option.toList,List.mem_singleton]at V;have:=HN.out.2 k hk;omega)
   replace hg:=hg.trans z;replace hS:=D;clear z D ho;have d:Below w4.heap.size w4 (w4.alloc (.cells #[.int .i64 i,.int .i64 s,.int .i64 q,.slice a xs.length c] 44)):=by go_grown
   have Bt:=Blk.new w4 44 #[.int .i64 i,.int .i64 s,.int .i64 q,.slice a xs.length c];have aj:=hg.size;replace hR:=hR.below d;replace oA:=oA.below d;replace hS:=hS.below d;replace hg:=z0h hg (d.mono aj);clear d
   go_wp2_with fail
   generalize w4.alloc (.cells #[.int .i64 i,.int .i64 s,.int .i64 q,.slice a xs.length c] 44)=W5 at*;have hW:Below W5.heap.size W5 W5.drew:=(Below.refl _ _).drew;have aA:Nonempty (Lat W5):=⟨⟨W5,Below.refl _ _⟩⟩
   have k0:=Bt.lat 0 _ rfl;have I:((ps.map TxnQ.e).length:Nat)≤60:=by rw[List.length_map];omega
   refine z0b (S:=fun w'=>∃u:Lat W5,w'=u.val) (by kernel_rfl) ?_;refine sgr [(0,1),(2,2)] 3 (by kernel_rfl) ⟨⟨_,hW⟩,rfl⟩ ?_;simp only[pkE];repeat go_big_quiet_step (fail)
   refine wpQuiet_nil ?_;refine cla 1 (some 17) 170 #[.slice a1 ps.length c1] 2 (by kernel_rfl) ?_;refine(z4c _ (ps.map TxnQ.e) _ (z2a (hR.below hW).at) I).mono ?_;rintro e w6 ⟨ba,bc,rfl,ai,ad⟩;replace hW:=hW.trans (ad.mono hW.size);clear ad;refine⟨_,rfl,⟨⟨_,hW⟩,rfl⟩,?_⟩;simp only[Act.put,pgE,pjE];have aa:((ps.map TxnQ.e).map TxnD.id).length≤1048576:=by rw[List.length_map];omega
   generalize hL:(ps.map TxnQ.e).map TxnD.id=L at*;have Z:Hid ((ps.map TxnQ.e).map TxnD.id=L):=hL;clear hL;refine cla 4 (some 20) 169 #[.slice ba L.length bc,.int .i64 i] 1 (by kernel_rfl) ?_;refine(z27 ba bc L i w6 (Row.own ai) aa).mono ?_;rintro e w7 ⟨rfl,X⟩;replace X:=X.symm;subst X;refine⟨_,rfl,⟨⟨_,hW⟩,rfl⟩,?_⟩;simp only[Act.put,pgE,pjE];refine sgr [(5,1)] 0 (by kernel_rfl) ⟨⟨_,hW⟩,rfl⟩ ?_;simp only[pkE];repeat go_big_quiet_step (fail)
   refine wpQuiet_nil ?_;refine z0e (by kernel_rfl) ?_;have ak:=hg.size;replace hR:=hR.below hW;replace oA:=oA.below hW;replace hS:=hS.below hW;replace Bt:=Bt.below hW;replace hg:=z0h hg (hW.mono ak);clear hW aA k0 ai I aa;generalize J:idxI L i=ix at*;have Y:Hid (idxI L i=ix):=J;clear J;by_cases aJ:ix<0
   ·have p0:=Bt.cell 0 _ rfl;have p1:=Bt.cell 1 _ rfl;have p2:=Bt.cell 2 _ rfl;have p3:=Bt.cell 3 _ rfl;have d:Below w6.heap.size w6 (w6.alloc (.cells #[.int .i64 i,.int .i64 s,.int .i64 q,.slice a xs.length c] 44)):=by go_grown
    have al:=hg.size;have U:=hR.below d;have am:=oA.below d;have G:=U.1
    go_wp2_with (at_builtin;refine wpList_append_own_at _ rfl _ _ 27 rfl 0 44 i0 (.agg #[.int .i64 0,.int .i64 0,.int .i64 0,.slice none 0 0]) 4 48 Tryz.underlying27 hi aE aF aG rfl (by decide) _ ps.length (txnK.row ps) rfl G ⟨w6.heap.size,0,none⟩ 1 1 [.int .i64 i,.int .i64 s,.int .i64 q,.slice a xs.length c] rfl rfl ?c1 ?c2 ?c3 ?c4 ?c5 ?_)
    all_goals try(case c1=>intro j u hj;match j,hj with|0,hj=>simp at hj;subst hj;simp[Addr.add]|1,hj=>simp at hj;subst hj;simp[Addr.add]|2,hj=>simp at hj;subst hj;simp[Addr.add]|3,hj=>simp at hj;subst hj;simp[Addr.add])
    all_goals try(case c2=>intro u hu;simp at hu;rcases hu with rfl|rfl|rfl|rfl<;>rfl)
    all_goals try(case c3=>unfold maxLen;omega)
    all_goals try(case c4=>omega)
    all_goals try(case c5=>first|omega|(simp;omega))
    intro v' w8 N E ag ab;clear p0 p1 p2 p3;obtain ⟨au,af,M,W⟩:=U.snoc (p:=(⟨i,s,q,.slice a xs.length c,xs⟩:TxnQ)) (B:=w.heap.size) HN.out.1 HN.out.2 am (by show (actK.fp _ _).Nodup;rw [z3U];exact z1h _) (fun x hx aB => by
     have h1:=gA x hx;have h2:=HF.out x aB;omega) (fun x hx=>by have:=gA x hx;omega) (by simp;omega) N E (by rw [World.size_alloc];exact ab)
    have ap:Hid (RB (j-1) (ps++[(⟨i,s,q,.slice a xs.length c,xs⟩:TxnQ)])):=by
     obtain⟨r1,r2,r3,r4⟩:=HP.out;refine⟨?_,?_,?_,Or.inr (by simp)⟩
     ·intro p hp;simp only[List.mem_append,List.mem_singleton]at hp;rcases hp with hp|rfl
      ·exact r1 p hp
      ·exact aD
     ·intro t ht;simp only[List.map_append,List.mem_append,List.map_cons,List.map_nil,List.mem_singleton]at ht;rcases ht with ht|rfl
      ·exact r2 t ht
      ·exact aC
     ·rw[List.map_append,List.map_append,List.nodup_append];refine⟨r3,by simp,?_⟩;intro x hx y hy e;simp only[List.map_cons,List.map_nil,List.mem_singleton]at hy;have ax:x=i:=by rw[e,hy];rfl
      rw[ax,Z.out]at hx;have h9:=z73 hx;have h8:idxI L i=ix:=Y.out;omega
    have ao:Hid (_∧_):=And.intro af M;have A:∀k∈blk (.slice a1 ps.length c1),w.heap.size≤k:=fun k hk=>HN.out.2 k (by simp only[Kind.fp,List.mem_append];exact Or.inl hk)
    have aw:=z0k (z0h hg (d.mono al)) W A;have av:=(hS.below d).out W (fun hk=>by have:=A b hk;omega) (fun k hk=>by have:=A k hk;omega);have ae:(ps++[(⟨i,s,q,.slice a xs.length c,xs⟩:TxnQ)]).length=ps.length+1:=by simp
    have an:Hid ((ps++[(⟨i,s,q,.slice a xs.length c,xs⟩:TxnQ)]).length=ps.length+1):=ae;clear ae af M hR U oA am N E ab ag W d hg hS G Bt gA HF A;generalize ps++[(⟨i,s,q,.slice a xs.length c,xs⟩:TxnQ)]=aH at*
    go_wp2
    go_roundw
    case rel=>exact⟨j-1,aH,by go_num,by omega,by have:=an.out;omega,ap,au,ao,av.mono (by omega),aw⟩
    case measure=>simp[intOf];omega
   ·have aq:Hid (RB (j-1) ps):=by
     obtain⟨r1,r2,r3,r4⟩:=HP.out;refine⟨r1,r2,r3,Or.inr ?_⟩
     cases ps with
     |nil=>
      have ar:L=[]:=by rw[←Z.out];rfl
      have h8:idxI L i=ix:=Y.out;rw[ar,z6S (by simp)]at h8;omega
     |cons p r=>simp
    clear Bt oA gA HF
    go_wp2
    go_roundw
    case rel=>exact⟨j-1,ps,by go_num,by omega,by omega,aq,hR,HN,hS.mono (by omega),hg⟩
    case measure=>simp[intOf];omega
  ·go_wp2
   go_ret;have ay:j=0:=by omega
   obtain⟨r1,r2,r3,r4⟩:=HP.out;exact⟨_,ps,rfl,q05 r2 r3 (by omega) (by omega),by omega,r1,hR,HN.out.1,HN.out.2,hS.mono (by omega),hg⟩
end Go.Proofs.YtciofogeiohleaaGreatDoor
