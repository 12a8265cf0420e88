/- Texts joined, with what the laws reach alone. -/
import Derived.Test.YtjjoahhnkpjolaaGreatDoorCFBE
set_option linter.unusedVariables false
set_option linter.unusedSimpArgs false
namespace Go.Proofs.YtjjoahhnkpjolaaGreatDoor
open Go.RowKit
open Go.BigFrame
set_option maxRecDepth 100000
set_option maxRecDepth 100000
theorem specClusterFault_any (p:CluQ) (w:World) (h:cluK.own w p) (hl:p.n≤1048576) :
  Calls Tryz.prog 7 #[.agg #[p.vo,p.vm]] w fun e w' => e=.returned (.int .i64 (cluF p.e))∧Below w.heap.size w w' := by
 have hf:=fun b w hB h=>l12Fault_any b p w hB h hl
 have hrb:=fun (w' : World) (hb:Below w.heap.size w w')=>cluK.own_out (F:=[]) (w' := w') h (Out.of_below hb) (fun _ _=>by simp)
 obtain ⟨vo,ord,vm,mem⟩:=p
 obtain ⟨a0,k0,rfl⟩:∃ a c,vo=.slice a ord.length c:=h.1.shape
 obtain ⟨a1,k1,rfl⟩:∃ a c,vm=.slice a mem.length c:=h.2.shape
 dsimp only at hf hrb
 generalize cluF _=D at *
 have b0:Below w.heap.size w (w.alloc (.cells #[.slice a0 ord.length k0,.slice a1 mem.length k1] 31)):=by go_grown
 have A0:=Blk.new w 31 #[.slice a0 ord.length k0,.slice a1 mem.length k1]
 go_enter Tryz.func7,Tryz.ntmps7
 go_wp2_with fail
 generalize w.alloc (.cells #[.slice a0 ord.length k0,.slice a1 mem.length k1] 31)=W at *
 refine (hf _ W A0 (hrb W b0)).mono ?_
 rintro e w1 ⟨rfl,hb⟩
 replace b0:=b0.trans (hb.mono b0.size)
 clear hb hf hrb
 go_wp2
 go_ret
 exact ⟨rfl,b0⟩

end Go.Proofs.YtjjoahhnkpjolaaGreatDoor
namespace Go.Proofs.YtjjoahhnkpjolaaGreatDoor
open Go.RowKit
open Go.BigFrame
set_option maxRecDepth 100000
theorem specClusterFault_e (p:CluQ) (x:CluE) (hx:p.e=x) (w:World) (h:cluK.own w p) (hl:p.n≤1048576) :
  Calls Tryz.prog 7 #[.agg #[p.vo,p.vm]] w fun e w' => e=.returned (.int .i64 (cluF x))∧Below w.heap.size w w' := by
 subst hx
 exact specClusterFault_any p w h hl

theorem implClusterFault_e (p:CluQ) (x:CluE) (hx:p.e=x) (w:World) (hG:Rul w) (hT:ErrT w) (h:cluK.own w p) (hl:p.n≤1048576) :
  Calls Tryz.prog 9 #[.agg #[p.vo,p.vm]] w fun e w' => e=.returned (.int .i64 (cluF x))∧Below w.heap.size w w' := by
 subst hx
 exact implClusterFault_any p w hG hT h hl

set_option maxRecDepth 100000 in
set_option maxHeartbeats 8000000 in
theorem clusterFaultLaw (p:CluQ) (w:World) (hG:Rul w) (hT:ErrT w) (hp:cluK.rd w p) (hw:p.wf) :
  Calls Tryz.prog 3 #[.agg #[p.vo,p.vm]] w fun e w' => e=.returned (.bool true)∧Below w.heap.size w w' := by
 have hsz:=fun w h=>szCluster_k p 1048576 w h hw (by omega) (by omega)
 have hto:=fun w h hl=>toCluster_k p w h hl
 have hsp:=fun a (ha:CluQ.e a=p.e) w h hl=>specClusterFault_e a _ ha w h hl
 have him:=fun a (ha:CluQ.e a=p.e) w hG hT h hl=>implClusterFault_e a _ ha w hG hT h hl
 have hqn:∀ a:CluQ,a.e=p.e→a.n=p.n:=fun q hq=>clu_n hq
 have heq:=fun (a b:CluQ) (ha:a.e=p.e) (hb:b.e=p.e) w h h' hl=>eqCluster_k a b w h h' (ha.trans hb.symm) hl
 have hrb:=fun (w' : World) hb=>cluK.rd_below (w' := w') hp hb
 generalize cluF p.e=D at *
 generalize hpe:p.e=pe at *
 generalize hpn:p.n=pn at *
 obtain ⟨vo,ord,vm,mem⟩:=p
 obtain ⟨a0,k0,rfl⟩:∃ a c,vo=.slice a ord.length c:=hp.1.shape
 obtain ⟨a1,k1,rfl⟩:∃ a c,vm=.slice a mem.length c:=hp.2.shape
 dsimp only at hsz hto hrb
 have b0:Below w.heap.size w (w.alloc (.cells #[.slice a0 ord.length k0,.slice a1 mem.length k1] 25)):=by go_grown
 have A0:=Blk.new w 25 #[.slice a0 ord.length k0,.slice a1 mem.length k1]
 obtain ⟨p0,p1⟩:=A0.cel2
 go_enter Tryz.func3,Tryz.ntmps3
 go_wp2_with fail
 clear p0 p1
 generalize w.alloc (.cells #[.slice a0 ord.length k0,.slice a1 mem.length k1] 25)=W at *
 refine (hsz W (hrb W b0)).mono ?_
 rintro e w1 ⟨r,rfl,hr,hb⟩
 replace A0:=A0.below hb
 replace b0:=b0.trans (hb.mono b0.size)
 clear hb
 clear hsz
 by_cases hneg:r < 0
 ·go_wp2
  go_ret
  exact ⟨rfl,b0⟩
 have hl:((pn:Nat):Int) + r=1048576:=hr (by omega)
 clear hr
 replace hl:pn≤1048576:=by omega
 have Hhto:Hid _:=hto
 clear hto
 have Hhsp:Hid _:=hsp
 clear hsp
 have Hhim:Hid _:=him
 clear him
 have Hhqn:Hid _:=hqn
 clear hqn
 have Hheq:Hid _:=heq
 clear heq
 have Hhrb:Hid _:=hrb
 clear hrb
 clear hpe hpn
 obtain ⟨p0,p1⟩:=A0.cel2
 go_wp2_with fail
 clear p0 p1 hneg
 refine (Hhto.out _ (Hhrb.out _ b0) hl).mono ?_
 rintro e w2 ⟨q1,rfl,e1,o1,_,_,hb⟩
 replace A0:=A0.below hb
 replace b0:=b0.trans (hb.mono b0.size)
 clear hb
 go_wp2_with fail
 refine (Hhsp.out q1 e1 _ o1 (by rw [Hhqn.out q1 e1];exact hl)).mono ?_
 rintro e w3 ⟨rfl,hb⟩
 replace A0:=A0.below hb
 replace b0:=b0.trans (hb.mono b0.size)
 clear hb o1 e1 Hhsp
 obtain ⟨p0,p1⟩:=A0.cel2
 go_wp2_with fail
 clear p0 p1
 refine (Hhto.out _ (Hhrb.out _ b0) hl).mono ?_
 rintro e w4 ⟨q3,rfl,e3,o3,_,_,hb⟩
 replace A0:=A0.below hb
 replace b0:=b0.trans (hb.mono b0.size)
 clear hb
 have hl3:CluQ.n q3≤1048576:=by rw [Hhqn.out q3 e3];exact hl
 have hi3:=fun w hG hT h=>Hhim.out q3 e3 w hG hT h hl3
 have he3:=fun q' hq' w h h' => Hheq.out q3 q' e3 hq' w h h' hl3
 obtain ⟨vo3,ord3,vm3,mem3⟩:=q3
 obtain ⟨a03,k03,rfl⟩:∃ a c,vo3=.slice a ord3.length c:=o3.1.shape
 obtain ⟨a13,k13,rfl⟩:∃ a c,vm3=.slice a mem3.length c:=o3.2.shape
 dsimp only at hi3 he3
 have HI3:Hid _:=hi3
 have HE3:Hid _:=he3
 clear hi3 he3
 have X0:=Blk.new w4 31 #[.slice a03 ord3.length k03,.slice a13 mem3.length k13]
 have hb:Below w4.heap.size w4 (w4.alloc (.cells #[.slice a03 ord3.length k03,.slice a13 mem3.length k13] 31)):=by go_grown
 replace A0:=A0.below hb
 replace o3:=cluK.own_out (F:=[]) o3 (Out.of_below hb) (fun _ _=>by simp)
 replace b0:=b0.trans (hb.mono b0.size)
 clear hb
 obtain ⟨p0,p1⟩:=X0.cel2
 go_wp2_with fail
 clear p0 p1
 generalize w4.alloc (.cells #[.slice a03 ord3.length k03,.slice a13 mem3.length k13] 31)=W4 at *
 refine (HI3.out W4 (hG.below b0) (hT.below b0) o3).mono ?_
 rintro e w5 ⟨rfl,hb⟩
 replace A0:=A0.below hb
 replace X0:=X0.below hb
 replace o3:=cluK.own_out (F:=[]) o3 (Out.of_below hb) (fun _ _=>by simp)
 replace b0:=b0.trans (hb.mono b0.size)
 clear hb
 clear HI3
 have hne:(D != D)=false:=by simp
 go_wp2_with fail
 clear hne
 have hW:Below w5.heap.size w5 w5.drew:=(Below.refl _ _).drew
 have hnn:Nonempty (Lat w5):=⟨⟨w5,Below.refl _ _⟩⟩
 obtain ⟨ff0,ff1⟩:=A0.lts2
 obtain ⟨gg0,gg1⟩:=X0.lts2
 refine text_begin (S:=fun w' => ∃ u:Lat w5,w' = u.val) (by kernel_rfl) ?_
 refine sgr [(0,2)] 3 (by kernel_rfl) ⟨⟨_,hW⟩,rfl⟩ ?_
 simp only [pkE]
 repeat go_big_quiet_step (fail)
 refine wpQuiet_nil ?_
 refine cla 2 (some 24) 8 #[.agg #[.slice a0 ord.length k0,.slice a1 mem.length k1]] 2 (by kernel_rfl) ?_
 refine (Hhto.out _ (Hhrb.out _ (b0.trans (hW.mono b0.size))) hl).mono ?_
 rintro e w9 ⟨q9,rfl,e9,o9,_,_,hb9⟩
 replace hW:=hW.trans (hb9.mono hW.size)
 clear hb9
 refine ⟨_,rfl,⟨⟨_,hW⟩,rfl⟩,?_⟩
 simp only [Act.put,pjE]
 refine cla 3 (some 25) 10 #[.agg #[.slice a03 ord3.length k03,.slice a13 mem3.length k13],.agg #[q9.vo,q9.vm]] 1 (by kernel_rfl) ?_
 refine (HE3.out q9 e9 _ (cluK.rd_below (cluK.own_rd o3) hW) (cluK.own_rd o9)).mono ?_
 rintro e w9 ⟨rfl,hb9⟩
 replace hW:=hW.trans (hb9.mono hW.size)
 clear hb9
 refine ⟨_,rfl,⟨⟨_,hW⟩,rfl⟩,?_⟩
 simp only [Act.put,pjE]
 refine sgr [(4,1)] 0 (by kernel_rfl) ⟨⟨_,hW⟩,rfl⟩ ?_
 simp only [pkE]
 repeat go_big_quiet_step (fail)
 refine wpQuiet_nil ?_
 refine text_end (by kernel_rfl) ?_
 clear hnn ff0 ff1 gg0 gg1
 replace b0:=b0.trans (hW.mono b0.size)
 clear o9 e9 o3 A0 X0 hW
 go_wp2
 go_ret
 exact ⟨rfl,b0⟩

end Go.Proofs.YtjjoahhnkpjolaaGreatDoor
