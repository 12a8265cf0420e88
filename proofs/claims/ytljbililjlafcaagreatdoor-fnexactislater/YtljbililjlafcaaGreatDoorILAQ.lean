/- Texts joined,with what the laws reach alone. -/
import Derived.Test.YtljbililjlafcaaGreatDoorILAP
set_option linter.unusedVariables false
set_option linter.unusedSimpArgs false
set_option maxRecDepth 100000
set_option maxHeartbeats 8000000
namespace Go.Proofs.YtljbililjlafcaaGreatDoor
open Go.RowKit Go.BigFrame
theorem q2i(p q:CluQ)(x y:CluE)(hx:p.e=x)(hy:q.e=y)(w:World)(h:cluK.own w p)(h':cluK.own w q)(hl:p.n≤1048576)(hl':q.n≤1048576):
  Calls Tryz.prog 5 #[.agg #[p.vo,p.vm],.agg #[q.vo,q.vm]] w fun e w'=>e=.returned (.bool (laE x y))∧Below w.heap.size w w':=by
 subst hx hy;exact z43 p q w h h' hl hl'
theorem q2j(p q:CluQ)(x y:CluE)(hx:p.e=x)(hy:q.e=y)(w:World)(hG:Rul w)(hT:ErrT w)(h:cluK.own w p)(h':cluK.own w q)(hl:p.n≤1048576)(hl':q.n≤1048576):
  Calls Tryz.prog 7 #[.agg #[p.vo,p.vm],.agg #[q.vo,q.vm]] w fun e w'=>e=.returned (.bool (laE x y))∧Below w.heap.size w w':=by
 subst hx hy;exact z42 p q w hG hT h h' hl hl'
theorem q3J(p q:CluQ)(w:World)(hG:Rul w)(hT:ErrT w)(hp:cluK.rd w p)(hw:p.wf)(hq:cluK.rd w q)(aZ:q.wf):
  Calls Tryz.prog 3 #[.agg #[p.vo,p.vm],.agg #[q.vo,q.vm]] w fun e w'=>e=.returned (.bool true)∧Below w.heap.size w w':=by
 have aF:=fun w h=>z4w p 1048576 w h hw (by omega) (by omega)
 have ah:=fun c w h h0 h1=>z4w q c w h aZ h0 h1
 have aG:=fun w h hl=>z4y p w h hl
 have ai:=fun w h hl=>z4y q w h hl
 have aR:=fun a b (ha:CluQ.e a=p.e) (hb:CluQ.e b=q.e) w h h' hl x=>q2i a b _ _ ha hb w h h' hl x
 have aM:=fun a b (ha:CluQ.e a=p.e) (hb:CluQ.e b=q.e) w hG hT h h' hl x=>q2j a b _ _ ha hb w hG hT h h' hl x
 have aQ:∀a:CluQ,a.e=p.e→a.n=p.n:=fun q hq=>q4r hq
 have ax:∀a:CluQ,a.e=q.e→a.n=q.n:=fun q hq=>q4r hq
 have aL:=fun(a b:CluQ) (ha:a.e=p.e) (hb:b.e=p.e) w h h' hl=>z4x a b w h h' (ha.trans hb.symm) hl
 have aw:=fun(a b:CluQ) (ha:a.e=q.e) (hb:b.e=q.e) w h h' hl=>z4x a b w h h' (ha.trans hb.symm) hl
 have an:=fun(w':World) hb=>cluK.rd_below (w':=w') hp hb
 have O:=fun(w':World) hb=>cluK.rd_below (w':=w') hq hb
 generalize laE p.e q.e=D at*;generalize aV:p.e=pe at*;generalize aW:p.n=pn at*;generalize aX:q.e=qe at*;generalize aY:q.n=qn at*;obtain⟨vo,I,vm,A⟩:=p;obtain⟨a0,k0,rfl⟩:∃a c,vo=.slice a I.length c:=hp.1.shape;obtain⟨a1,k1,rfl⟩:∃a c,vm=.slice a A.length c:=hp.2.shape;obtain⟨a8,z,a2,y⟩:=q;obtain⟨T,V,rfl⟩:∃a c,a8=.slice a z.length c:=hq.1.shape;obtain⟨U,X,rfl⟩:∃a c,a2=.slice a y.length c:=hq.2.shape;dsimp only at aF ah aG ai an O;have b0:Below w.heap.size w ((w.alloc (.cells #[.slice a0 I.length k0,.slice a1 A.length k1] 25)).alloc (.cells #[.slice T z.length V,.slice U y.length X] 25)):=by go_grown
 have A0:=(Blk.new w 25 #[.slice a0 I.length k0,.slice a1 A.length k1]).below (w':=((w.alloc (.cells #[.slice a0 I.length k0,.slice a1 A.length k1] 25)).alloc (.cells #[.slice T z.length V,.slice U y.length X] 25))) (by go_grown);have A1:=Blk.new (w.alloc (.cells #[.slice a0 I.length k0,.slice a1 A.length k1] 25)) 25 #[.slice T z.length V,.slice U y.length X];simp only[World.size_alloc]at A1;obtain⟨p0,p1⟩:=A0.cel2;go_enter Tryz.func3,Tryz.ntmps3
 go_wp2_with fail
 clear p0 p1;generalize ((w.alloc (.cells #[.slice a0 I.length k0,.slice a1 A.length k1] 25)).alloc (.cells #[.slice T z.length V,.slice U y.length X] 25))=W at*;refine(aF W (an W b0)).mono ?_;rintro e w1 ⟨r,rfl,hr,hb⟩;replace A0:=A0.below hb;replace A1:=A1.below hb;replace b0:=b0.trans (hb.mono b0.size);clear hb;clear aF;by_cases aP:r<0
 ·go_wp2
  go_ret;exact⟨rfl,b0⟩
 have hl:((pn:Nat):Int)+r=1048576:=hr (by omega);clear hr;obtain⟨p0,p1⟩:=A1.cel2
 go_wp2_with fail
 clear p0 p1;refine(ah r w1 (O w1 b0) (by omega) (by omega)).mono ?_;rintro e w2 ⟨r',rfl,hr,hb⟩;replace A0:=A0.below hb;replace A1:=A1.below hb;replace b0:=b0.trans (hb.mono b0.size);clear hb;clear ah;by_cases aD:r'<0
 ·go_wp2
  go_ret;exact⟨rfl,b0⟩
 have x:((qn:Nat):Int)+r'=r:=hr (by omega);clear hr;replace x:qn≤1048576:=by omega
 replace hl:pn≤1048576:=by omega
 go_wp2_with fail
 clear aP aD;have aa:Hid _:=aG;clear aG;have N:Hid _:=ai;clear ai;have av:Hid _:=aR;clear aR;have aK:Hid _:=aM;clear aM;have au:Hid _:=aQ;clear aQ;have Y:Hid _:=ax;clear ax;have aJ:Hid _:=aL;clear aL;have ay:Hid _:=aw;clear aw;have Z:Hid _:=an;clear an;have M:Hid _:=O;clear O;clear aV aW aX aY;have hW:Below w2.heap.size w2 w2.drew:=(Below.refl _ _).drew;have ag:Nonempty (Lat w2):=⟨⟨w2,Below.refl _ _⟩⟩
 obtain⟨ab,ad⟩:=A0.lts2;obtain⟨ae,af⟩:=A1.lts2;refine z0b (S:=fun w'=>∃u:Lat w2,w'=u.val) (by kernel_rfl) ?_;refine sgr [(0,1),(2,1)] 4 (by kernel_rfl) ⟨⟨_,hW⟩,rfl⟩ ?_;simp only[pkE];repeat go_big_quiet_step (fail)
 refine wpQuiet_nil ?_;refine cla 1 (some 21) 6 #[.agg #[.slice a0 I.length k0,.slice a1 A.length k1]] 3 (by kernel_rfl) ?_;refine(aa.out _ (Z.out _ (b0.trans (hW.mono b0.size))) hl).mono ?_;rintro e w9 ⟨q1,rfl,e1,o1,_,_,d⟩;replace hW:=hW.trans (d.mono hW.size);clear d;refine⟨_,rfl,⟨⟨_,hW⟩,rfl⟩,?_⟩;simp only[Act.put,pjE];refine cla 3 (some 23) 6 #[.agg #[.slice T z.length V,.slice U y.length X]] 2 (by kernel_rfl) ?_;refine(N.out _ (M.out _ (b0.trans (hW.mono b0.size))) x).mono ?_;rintro e w9 ⟨q2,rfl,e2,o2,_,_,d⟩;replace hW:=hW.trans (d.mono hW.size);replace o1:=cluK.own_out (F:=[]) o1 (Out.of_below d) (fun _ _=>by simp);clear d;refine⟨_,rfl,⟨⟨_,hW⟩,rfl⟩,?_⟩;simp only[Act.put,pjE];refine cla 4 (some 24) 5 #[.agg #[q1.vo,q1.vm],.agg #[q2.vo,q2.vm]] 1 (by kernel_rfl) ?_;refine(av.out q1 q2 e1 e2 _ o1 o2 (by rw[au.out q1 e1];exact hl) (by rw[Y.out q2 e2];exact x)).mono ?_;rintro e w9 ⟨rfl,d⟩;replace hW:=hW.trans (d.mono hW.size);clear d;refine⟨_,rfl,⟨⟨_,hW⟩,rfl⟩,?_⟩;simp only[Act.put,pjE];refine sgr [(5,1)] 0 (by kernel_rfl) ⟨⟨_,hW⟩,rfl⟩ ?_;simp only[pkE];repeat go_big_quiet_step (fail)
 refine wpQuiet_nil ?_;refine z0f (by kernel_rfl) ?_;clear ag ab ad ae af;clear o1 o2 e1 e2 av;replace A0:=A0.below hW;replace A1:=A1.below hW;replace b0:=b0.trans (hW.mono b0.size);clear hW;obtain⟨p0,p1⟩:=A0.cel2
 go_wp2_with fail
 clear p0 p1;refine(aa.out _ (Z.out _ b0) hl).mono ?_;rintro e w4 ⟨q3,rfl,e3,o3,_,_,hb⟩;replace A0:=A0.below hb;replace A1:=A1.below hb;replace b0:=b0.trans (hb.mono b0.size);clear hb;have aN:CluQ.n q3≤1048576:=by rw[au.out q3 e3];exact hl
 have aB:=fun b hb w hG hT h h' x=>aK.out q3 b e3 hb w hG hT h h' aN x
 have az:=fun q' aE w h h'=>aJ.out q3 q' e3 aE w h h' aN
 obtain⟨ba,J,a6,C⟩:=q3;obtain⟨aj,ao,rfl⟩:∃a c,ba=.slice a J.length c:=o3.1.shape;obtain⟨al,aq,rfl⟩:∃a c,a6=.slice a C.length c:=o3.2.shape;dsimp only at aB az;have aH:Hid _:=aB;have aS:Hid _:=az;clear aB az;have X0:=Blk.new w4 31 #[.slice aj J.length ao,.slice al C.length aq];have hb:Below w4.heap.size w4 (w4.alloc (.cells #[.slice aj J.length ao,.slice al C.length aq] 31)):=by go_grown
 replace A0:=A0.below hb;replace A1:=A1.below hb;replace o3:=cluK.own_out (F:=[]) o3 (Out.of_below hb) (fun _ _=>by simp);replace b0:=b0.trans (hb.mono b0.size);clear hb;obtain⟨p0,p1⟩:=A1.cel2
 go_wp2_with fail
 clear p0 p1;generalize w4.alloc (.cells #[.slice aj J.length ao,.slice al C.length aq] 31)=W4 at*;refine(N.out _ (M.out _ b0) x).mono ?_;rintro e w5 ⟨q4,rfl,e4,o4,_,_,hb⟩;replace A0:=A0.below hb;replace A1:=A1.below hb;replace X0:=X0.below hb;replace o3:=cluK.own_out (F:=[]) o3 (Out.of_below hb) (fun _ _=>by simp);replace b0:=b0.trans (hb.mono b0.size);clear hb;have aO:CluQ.n q4≤1048576:=by rw[Y.out q4 e4];exact x
 have aC:=fun w hG hT h h'=>aH.out q4 e4 w hG hT h h' aO
 have aA:=fun q' aE w h h'=>ay.out q4 q' e4 aE w h h' aO
 obtain⟨bb,L,a7,E⟩:=q4;obtain⟨ak,ap,rfl⟩:∃a c,bb=.slice a L.length c:=o4.1.shape;obtain⟨am,ar,rfl⟩:∃a c,a7=.slice a E.length c:=o4.2.shape;dsimp only at aC aA;have aI:Hid _:=aC;have aT:Hid _:=aA;clear aC aA;have Y0:=Blk.new w5 31 #[.slice ak L.length ap,.slice am E.length ar];have hb:Below w5.heap.size w5 (w5.alloc (.cells #[.slice ak L.length ap,.slice am E.length ar] 31)):=by go_grown
 replace A0:=A0.below hb;replace A1:=A1.below hb;replace X0:=X0.below hb;replace o3:=cluK.own_out (F:=[]) o3 (Out.of_below hb) (fun _ _=>by simp);replace o4:=cluK.own_out (F:=[]) o4 (Out.of_below hb) (fun _ _=>by simp);replace b0:=b0.trans (hb.mono b0.size);clear hb;obtain⟨p0,p1⟩:=X0.cel2;obtain⟨r0,r1⟩:=Y0.cel2
 go_wp2_with fail
 clear p0 p1;clear r0 r1;generalize w5.alloc (.cells #[.slice ak L.length ap,.slice am E.length ar] 31)=W5 at*;refine(aI.out W5 (hG.below b0) (hT.below b0) o3 o4).mono ?_;rintro e w6 ⟨rfl,hb⟩;replace A0:=A0.below hb;replace A1:=A1.below hb;replace X0:=X0.below hb;replace Y0:=Y0.below hb;replace o3:=cluK.own_out (F:=[]) o3 (Out.of_below hb) (fun _ _=>by simp);replace o4:=cluK.own_out (F:=[]) o4 (Out.of_below hb) (fun _ _=>by simp);replace b0:=b0.trans (hb.mono b0.size);clear hb;clear aH aI;have aU:(D !=D)=false:=by simp
 go_wp2_with fail
 clear aU;have hW:Below w6.heap.size w6 w6.drew:=(Below.refl _ _).drew;have ag:Nonempty (Lat w6):=⟨⟨w6,Below.refl _ _⟩⟩
 obtain⟨ab,ad⟩:=A0.lts2;obtain⟨ae,af⟩:=X0.lts2;refine z0b (S:=fun w'=>∃u:Lat w6,w'=u.val) (by kernel_rfl) ?_;refine sgr [(0,2)] 3 (by kernel_rfl) ⟨⟨_,hW⟩,rfl⟩ ?_;simp only[pkE];repeat go_big_quiet_step (fail)
 refine wpQuiet_nil ?_;refine cla 2 (some 37) 6 #[.agg #[.slice a0 I.length k0,.slice a1 A.length k1]] 2 (by kernel_rfl) ?_;refine(aa.out _ (Z.out _ (b0.trans (hW.mono b0.size))) hl).mono ?_;rintro e w9 ⟨q9,rfl,e9,o9,_,_,d⟩;replace hW:=hW.trans (d.mono hW.size);clear d;refine⟨_,rfl,⟨⟨_,hW⟩,rfl⟩,?_⟩;simp only[Act.put,pjE];refine cla 3 (some 38) 8 #[.agg #[.slice aj J.length ao,.slice al C.length aq],.agg #[q9.vo,q9.vm]] 1 (by kernel_rfl) ?_;refine(aS.out q9 e9 _ (cluK.rd_below (cluK.own_rd o3) hW) (cluK.own_rd o9)).mono ?_;rintro e wz ⟨rfl,d⟩;replace hW:=hW.trans (d.mono hW.size);clear d;refine⟨_,rfl,⟨⟨_,hW⟩,rfl⟩,?_⟩;simp only[Act.put,pjE];refine sgr [(4,1)] 0 (by kernel_rfl) ⟨⟨_,hW⟩,rfl⟩ ?_;simp only[pkE];repeat go_big_quiet_step (fail)
 refine wpQuiet_nil ?_;refine z0f (by kernel_rfl) ?_;clear ag ab ad ae af;clear o9 e9;replace A0:=A0.below hW;replace A1:=A1.below hW;replace X0:=X0.below hW;replace Y0:=Y0.below hW;replace o3:=cluK.own_out (F:=[]) o3 (Out.of_below hW) (fun _ _=>by simp);replace o4:=cluK.own_out (F:=[]) o4 (Out.of_below hW) (fun _ _=>by simp);replace b0:=b0.trans (hW.mono b0.size);clear hW
 go_wp2_with fail
 have hW:Below wz.heap.size wz wz.drew:=(Below.refl _ _).drew;have ag:Nonempty (Lat wz):=⟨⟨wz,Below.refl _ _⟩⟩
 obtain⟨ab,ad⟩:=A1.lts2;obtain⟨ae,af⟩:=Y0.lts2;refine z0b (S:=fun w'=>∃u:Lat wz,w'=u.val) (by kernel_rfl) ?_;refine sgr [(0,2)] 3 (by kernel_rfl) ⟨⟨_,hW⟩,rfl⟩ ?_;simp only[pkE];repeat go_big_quiet_step (fail)
 refine wpQuiet_nil ?_;refine cla 2 (some 42) 6 #[.agg #[.slice T z.length V,.slice U y.length X]] 2 (by kernel_rfl) ?_;refine(N.out _ (M.out _ (b0.trans (hW.mono b0.size))) x).mono ?_;rintro e w9 ⟨q9,rfl,e9,o9,_,_,d⟩;replace hW:=hW.trans (d.mono hW.size);clear d;refine⟨_,rfl,⟨⟨_,hW⟩,rfl⟩,?_⟩;simp only[Act.put,pjE];refine cla 3 (some 43) 8 #[.agg #[.slice ak L.length ap,.slice am E.length ar],.agg #[q9.vo,q9.vm]] 1 (by kernel_rfl) ?_;refine(aT.out q9 e9 _ (cluK.rd_below (cluK.own_rd o4) hW) (cluK.own_rd o9)).mono ?_;rintro e w9 ⟨rfl,d⟩;replace hW:=hW.trans (d.mono hW.size);clear d;refine⟨_,rfl,⟨⟨_,hW⟩,rfl⟩,?_⟩;simp only[Act.put,pjE];refine sgr [(4,1)] 0 (by kernel_rfl) ⟨⟨_,hW⟩,rfl⟩ ?_;simp only[pkE];repeat go_big_quiet_step (fail)
 refine wpQuiet_nil ?_;refine z0f (by kernel_rfl) ?_;clear ag ab ad ae af;replace b0:=b0.trans (hW.mono b0.size);clear o9 e9 o3 o4 A0 A1 X0 Y0 hW
 go_wp2
 go_ret;exact⟨rfl,b0⟩
end Go.Proofs.YtljbililjlafcaaGreatDoor
