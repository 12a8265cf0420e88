/- Texts joined, with what the laws reach alone. -/
import Derived.Test.YtjjoahhnkpjolaaGreatDoorCFBG
import Derived.Test.YtjjoahhnkpjolaaGreatDoorCFBE
set_option linter.unusedVariables false
set_option linter.unusedSimpArgs false
namespace Go.Proofs.YtjjoahhnkpjolaaGreatDoor
open Go.RowKit
open Go.BigFrame
set_option maxRecDepth 100000
set_option maxRecDepth 100000
/-- Who is the candidate (0 where there is a fault). -/
def canF (c:CluE):Int:=if cluF c=0 then ((c.ord.length:Int) + 2).tmod 3 else 0

end Go.Proofs.YtjjoahhnkpjolaaGreatDoor
namespace Go.Proofs.YtjjoahhnkpjolaaGreatDoor
open Go.RowKit
open Go.BigFrame
set_option maxRecDepth 100000
set_option maxRecDepth 100000
theorem l12Candidate_any (b:Nat) (n:Nat) (a0:Option Addr) (k0:Nat) (v:Value) (w:World) (hB:Blk w b 31 #[.slice a0 n k0,v]) (hn:n≤1048576) :
  Calls Tryz.prog 36 #[.pointer (some ⟨b,0,none⟩)] w fun e w' => e=.returned (.int .i64 (((n:Int) + 2).tmod 3))∧Below w.heap.size w w' := by
 have c0:=hB.cell 0 _ rfl
 go_enter Tryz.func36,Tryz.ntmps36
 go_wp2
 go_ret
 exact ⟨rfl,Below.refl _ _⟩

theorem candidate_any (n m:Nat) (a0 a1:Option Addr) (k0 k1:Nat) (w:World) (hn:n≤1048576) :
  Calls Tryz.prog 37 #[.agg #[.slice a0 n k0,.slice a1 m k1]] w fun e w' => e=.returned (.int .i64 (((n:Int) + 2).tmod 3))∧Below w.heap.size w w' := by
 have b0:Below w.heap.size w (w.alloc (.cells #[.slice a0 n k0,.slice a1 m k1] 31)):=by go_grown
 go_enter Tryz.func37,Tryz.ntmps37
 go_wp2
 go_ret
 exact ⟨rfl,b0⟩

theorem specCandidateOf_any (p:CluQ) (w:World) (h:cluK.own w p) (hl:p.n≤1048576) :
  Calls Tryz.prog 17 #[.agg #[p.vo,p.vm]] w fun e w' => e=.returned (.agg #[.int .i64 (cluF p.e),.int .i64 (canF p.e)])∧Below w.heap.size w w' := by
 have hf:=fun b w hB h=>l12Fault_any b p w hB h hl
 have hrb:=fun (w' : World) (hb:Below w.heap.size w w')=>cluK.own_out (F:=[]) (w' := w') h (Out.of_below hb) (fun _ _=>by simp)
 have hcan:canF p.e=if cluF p.e=0 then ((p.e.ord.length:Int) + 2).tmod 3 else 0:=rfl
 have hpl:p.e.ord.length=p.ord.length:=by simp [CluQ.e]
 have hln:p.ord.length≤1048576:=by dsimp only [CluQ.n] at hl;omega
 rw [hpl] at hcan
 clear hpl hl
 obtain ⟨vo,ord,vm,mem⟩:=p
 obtain ⟨a0,k0,rfl⟩:∃ a c,vo=.slice a ord.length c:=h.1.shape
 obtain ⟨a1,k1,rfl⟩:∃ a c,vm=.slice a mem.length c:=h.2.shape
 dsimp only at hf hrb hcan hln
 generalize canF _=E at *
 generalize cluF _=D at *
 have HCN:Hid _:=hcan
 clear hcan
 have b0:Below w.heap.size w ((w.alloc (.cells #[.slice a0 ord.length k0,.slice a1 mem.length k1] 31)).alloc (.cells #[.int .i64 0,.int .i64 0] 42)):=by go_grown
 have A0:=(Blk.new w 31 #[.slice a0 ord.length k0,.slice a1 mem.length k1]).below (w' := (w.alloc (.cells #[.slice a0 ord.length k0,.slice a1 mem.length k1] 31)).alloc (.cells #[.int .i64 0,.int .i64 0] 42)) (by go_grown)
 have R0:=Blk.new (w.alloc (.cells #[.slice a0 ord.length k0,.slice a1 mem.length k1] 31)) 42 #[.int .i64 0,.int .i64 0]
 simp only [World.size_alloc] at R0
 obtain ⟨c0,c1⟩:=A0.cel2
 go_enter Tryz.func17,Tryz.ntmps17
 go_wp2_with fail
 clear c0 c1
 generalize (w.alloc (.cells #[.slice a0 ord.length k0,.slice a1 mem.length k1] 31)).alloc (.cells #[.int .i64 0,.int .i64 0] 42)=W at *
 refine (hf _ W A0 (hrb W b0)).mono ?_
 rintro e w1 ⟨rfl,hb⟩
 replace A0:=A0.below hb
 replace R0:=R0.below hb
 replace b0:=b0.trans (hb.mono b0.size)
 clear hb hf hrb
 obtain ⟨q0,q1⟩:=R0.cel2
 obtain ⟨f0,f1⟩:=R0.frz2
 obtain ⟨c0,c1⟩:=A0.cel2
 by_cases hD:D=0
 ·subst hD
  have HE:Hid (E=((ord.length:Int) + 2).tmod 3):=by rw [HCN.out,if_pos rfl];trivial
  have hD' : ((0:Int) != 0)=false:=by decide
  clear HCN
  go_wp2_with fail
  refine (l12Candidate_any _ _ _ _ _ w1 A0 hln).mono ?_
  rintro e w2 ⟨rfl,hb⟩
  replace R0:=R0.below hb
  replace b0:=b0.trans (hb.mono b0.size)
  clear hb A0 c0 c1
  obtain ⟨q0,q1⟩:=R0.cel2
  obtain ⟨f0,f1⟩:=R0.frz2
  generalize ((ord.length:Int) + 2).tmod 3=V at *
  go_wp2
  exact bodyPost_ret (v:=.agg #[.int .i64 0,.int .i64 V]) (by simp [results,Tryz.results17,go_sem,q0,q1]) rfl ⟨by rw [HE.out],(b0.setCell (p:=⟨w.heap.size + 1,0,none⟩) (Nat.le_succ _) _).setCell (p:=⟨w.heap.size + 1,1,none⟩) (Nat.le_succ _) _⟩
 ·have hD' : (D != 0)=true:=by simpa using hD
  have HE:Hid (E=0):=by rw [HCN.out,if_neg hD];trivial
  clear HCN hD c0 c1
  go_wp2
  exact bodyPost_ret (v:=.agg #[.int .i64 D,.int .i64 0]) (by simp [results,Tryz.results17,go_sem,q0,q1]) rfl ⟨by rw [HE.out],(b0.setCell (p:=⟨w.heap.size + 1,0,none⟩) (Nat.le_succ _) _).setCell (p:=⟨w.heap.size + 1,1,none⟩) (Nat.le_succ _) _⟩

theorem implCandidateOf_any (p:CluQ) (w:World) (hG:Rul w) (hT:ErrT w) (h:cluK.own w p) (hl:p.n≤1048576) :
  Calls Tryz.prog 18 #[.agg #[p.vo,p.vm]] w fun e w' => e=.returned (.agg #[.int .i64 (cluF p.e),.int .i64 (canF p.e)])∧Below w.heap.size w w' := by
 have hf:=fun w hG hT h=>implClusterFault_any p w hG hT h hl
 have hrb:=fun (w' : World) (hb:Below w.heap.size w w')=>cluK.own_out (F:=[]) (w' := w') h (Out.of_below hb) (fun _ _=>by simp)
 have hcan:canF p.e=if cluF p.e=0 then ((p.e.ord.length:Int) + 2).tmod 3 else 0:=rfl
 have hpl:p.e.ord.length=p.ord.length:=by simp [CluQ.e]
 have hln:p.ord.length≤1048576:=by dsimp only [CluQ.n] at hl;omega
 rw [hpl] at hcan
 clear hpl hl
 obtain ⟨vo,ord,vm,mem⟩:=p
 obtain ⟨a0,k0,rfl⟩:∃ a c,vo=.slice a ord.length c:=h.1.shape
 obtain ⟨a1,k1,rfl⟩:∃ a c,vm=.slice a mem.length c:=h.2.shape
 dsimp only at hf hrb hcan hln
 generalize canF _=E at *
 generalize cluF _=D at *
 have HCN:Hid _:=hcan
 clear hcan
 have b0:Below w.heap.size w ((w.alloc (.cells #[.slice a0 ord.length k0,.slice a1 mem.length k1] 31)).alloc (.cells #[.int .i64 0,.int .i64 0] 42)):=by go_grown
 have A0:=(Blk.new w 31 #[.slice a0 ord.length k0,.slice a1 mem.length k1]).below (w' := (w.alloc (.cells #[.slice a0 ord.length k0,.slice a1 mem.length k1] 31)).alloc (.cells #[.int .i64 0,.int .i64 0] 42)) (by go_grown)
 have R0:=Blk.new (w.alloc (.cells #[.slice a0 ord.length k0,.slice a1 mem.length k1] 31)) 42 #[.int .i64 0,.int .i64 0]
 simp only [World.size_alloc] at R0
 obtain ⟨c0,c1⟩:=A0.cel2
 go_enter Tryz.func18,Tryz.ntmps18
 go_wp2_with fail
 clear c0 c1
 generalize (w.alloc (.cells #[.slice a0 ord.length k0,.slice a1 mem.length k1] 31)).alloc (.cells #[.int .i64 0,.int .i64 0] 42)=W at *
 refine (hf W (hG.below b0) (hT.below b0) (hrb W b0)).mono ?_
 rintro e w1 ⟨rfl,hb⟩
 replace A0:=A0.below hb
 replace R0:=R0.below hb
 replace b0:=b0.trans (hb.mono b0.size)
 clear hb hf hrb
 obtain ⟨q0,q1⟩:=R0.cel2
 obtain ⟨f0,f1⟩:=R0.frz2
 obtain ⟨c0,c1⟩:=A0.cel2
 by_cases hD:D=0
 ·subst hD
  have HE:Hid (E=((ord.length:Int) + 2).tmod 3):=by rw [HCN.out,if_pos rfl];trivial
  have hD' : ((0:Int) != 0)=false:=by decide
  clear HCN
  go_wp2_with fail
  refine (candidate_any _ _ _ _ _ _ w1 hln).mono ?_
  rintro e w2 ⟨rfl,hb⟩
  replace R0:=R0.below hb
  replace b0:=b0.trans (hb.mono b0.size)
  clear hb A0 c0 c1
  obtain ⟨q0,q1⟩:=R0.cel2
  obtain ⟨f0,f1⟩:=R0.frz2
  generalize ((ord.length:Int) + 2).tmod 3=V at *
  go_wp2
  exact bodyPost_ret (v:=.agg #[.int .i64 0,.int .i64 V]) (by simp [results,Tryz.results18,go_sem,q0,q1]) rfl ⟨by rw [HE.out],(b0.setCell (p:=⟨w.heap.size + 1,0,none⟩) (Nat.le_succ _) _).setCell (p:=⟨w.heap.size + 1,1,none⟩) (Nat.le_succ _) _⟩
 ·have hD' : (D != 0)=true:=by simpa using hD
  have HE:Hid (E=0):=by rw [HCN.out,if_neg hD];trivial
  clear HCN hD c0 c1
  go_wp2
  exact bodyPost_ret (v:=.agg #[.int .i64 D,.int .i64 0]) (by simp [results,Tryz.results18,go_sem,q0,q1]) rfl ⟨by rw [HE.out],(b0.setCell (p:=⟨w.heap.size + 1,0,none⟩) (Nat.le_succ _) _).setCell (p:=⟨w.heap.size + 1,1,none⟩) (Nat.le_succ _) _⟩

end Go.Proofs.YtjjoahhnkpjolaaGreatDoor
namespace Go.Proofs.YtjjoahhnkpjolaaGreatDoor
open Go.RowKit
open Go.BigFrame
set_option maxRecDepth 100000
theorem specCandidateOf_e (p:CluQ) (x:CluE) (hx:p.e=x) (w:World) (h:cluK.own w p) (hl:p.n≤1048576) :
  Calls Tryz.prog 17 #[.agg #[p.vo,p.vm]] w fun e w' => e=.returned (.agg #[.int .i64 (cluF x),.int .i64 (canF x)])∧Below w.heap.size w w' := by
 subst hx
 exact specCandidateOf_any p w h hl

theorem implCandidateOf_e (p:CluQ) (x:CluE) (hx:p.e=x) (w:World) (hG:Rul w) (hT:ErrT w) (h:cluK.own w p) (hl:p.n≤1048576) :
  Calls Tryz.prog 18 #[.agg #[p.vo,p.vm]] w fun e w' => e=.returned (.agg #[.int .i64 (cluF x),.int .i64 (canF x)])∧Below w.heap.size w w' := by
 subst hx
 exact implCandidateOf_any p w hG hT h hl

set_option maxRecDepth 100000 in
set_option maxHeartbeats 8000000 in
theorem candidateOfLaw (p:CluQ) (w:World) (hG:Rul w) (hT:ErrT w) (hp:cluK.rd w p) (hw:p.wf) :
  Calls Tryz.prog 5 #[.agg #[p.vo,p.vm]] w fun e w' => e=.returned (.bool true)∧Below w.heap.size w w' := by
 have hsz:=fun w h=>szCluster_k p 1048576 w h hw (by omega) (by omega)
 have hto:=fun w h hl=>toCluster_k p w h hl
 have hsp:=fun a (ha:CluQ.e a=p.e) w h hl=>specCandidateOf_e a _ ha w h hl
 have him:=fun a (ha:CluQ.e a=p.e) w hG hT h hl=>implCandidateOf_e a _ ha w hG hT h hl
 have hqn:∀ a:CluQ,a.e=p.e→a.n=p.n:=fun q hq=>clu_n hq
 have heq:=fun (a b:CluQ) (ha:a.e=p.e) (hb:b.e=p.e) w h h' hl=>eqCluster_k a b w h h' (ha.trans hb.symm) hl
 have hrb:=fun (w' : World) hb=>cluK.rd_below (w' := w') hp hb
 generalize cluF p.e=D at *
 generalize canF p.e=E at *
 generalize hpe:p.e=pe at *
 generalize hpn:p.n=pn at *
 obtain ⟨vo,ord,vm,mem⟩:=p
 obtain ⟨a0,k0,rfl⟩:∃ a c,vo=.slice a ord.length c:=hp.1.shape
 obtain ⟨a1,k1,rfl⟩:∃ a c,vm=.slice a mem.length c:=hp.2.shape
 dsimp only at hsz hto hrb
 have b0:Below w.heap.size w (w.alloc (.cells #[.slice a0 ord.length k0,.slice a1 mem.length k1] 25)):=by go_grown
 have A0:=Blk.new w 25 #[.slice a0 ord.length k0,.slice a1 mem.length k1]
 obtain ⟨p0,p1⟩:=A0.cel2
 go_enter Tryz.func5,Tryz.ntmps5
 go_wp2_with fail
 clear p0 p1
 generalize w.alloc (.cells #[.slice a0 ord.length k0,.slice a1 mem.length k1] 25)=W at *
 refine (hsz W (hrb W b0)).mono ?_
 rintro e w1 ⟨r,rfl,hr,hb⟩
 replace A0:=A0.below hb
 replace b0:=b0.trans (hb.mono b0.size)
 clear hb
 clear hsz
 by_cases hneg:r < 0
 ·go_wp2
  go_ret
  exact ⟨rfl,b0⟩
 have hl:((pn:Nat):Int) + r=1048576:=hr (by omega)
 clear hr
 replace hl:pn≤1048576:=by omega
 have Hhto:Hid _:=hto
 clear hto
 have Hhsp:Hid _:=hsp
 clear hsp
 have Hhim:Hid _:=him
 clear him
 have Hhqn:Hid _:=hqn
 clear hqn
 have Hheq:Hid _:=heq
 clear heq
 have Hhrb:Hid _:=hrb
 clear hrb
 clear hpe hpn
 obtain ⟨p0,p1⟩:=A0.cel2
 go_wp2_with fail
 clear p0 p1 hneg
 refine (Hhto.out _ (Hhrb.out _ b0) hl).mono ?_
 rintro e w2 ⟨q1,rfl,e1,o1,_,_,hb⟩
 replace A0:=A0.below hb
 replace b0:=b0.trans (hb.mono b0.size)
 clear hb
 go_wp2_with fail
 refine (Hhsp.out q1 e1 _ o1 (by rw [Hhqn.out q1 e1];exact hl)).mono ?_
 rintro e w3 ⟨rfl,hb⟩
 replace A0:=A0.below hb
 replace b0:=b0.trans (hb.mono b0.size)
 clear hb o1 e1 Hhsp
 have R0:=Blk.new w3 42 #[.int .i64 D,.int .i64 E]
 have hb:Below w3.heap.size w3 (w3.alloc (.cells #[.int .i64 D,.int .i64 E] 42)):=by go_grown
 replace A0:=A0.below hb
 replace b0:=b0.trans (hb.mono b0.size)
 clear hb
 obtain ⟨p0,p1⟩:=A0.cel2
 go_wp2_with fail
 clear p0 p1
 generalize w3.alloc (.cells #[.int .i64 D,.int .i64 E] 42)=W3 at *
 refine (Hhto.out _ (Hhrb.out _ b0) hl).mono ?_
 rintro e w4 ⟨q3,rfl,e3,o3,_,_,hb⟩
 replace A0:=A0.below hb
 replace R0:=R0.below hb
 replace b0:=b0.trans (hb.mono b0.size)
 clear hb
 have hl3:CluQ.n q3≤1048576:=by rw [Hhqn.out q3 e3];exact hl
 have hi3:=fun w hG hT h=>Hhim.out q3 e3 w hG hT h hl3
 have he3:=fun q' hq' w h h' => Hheq.out q3 q' e3 hq' w h h' hl3
 obtain ⟨vo3,ord3,vm3,mem3⟩:=q3
 obtain ⟨a03,k03,rfl⟩:∃ a c,vo3=.slice a ord3.length c:=o3.1.shape
 obtain ⟨a13,k13,rfl⟩:∃ a c,vm3=.slice a mem3.length c:=o3.2.shape
 dsimp only at hi3 he3
 have HI3:Hid _:=hi3
 have HE3:Hid _:=he3
 clear hi3 he3
 have X0:=Blk.new w4 31 #[.slice a03 ord3.length k03,.slice a13 mem3.length k13]
 have hb:Below w4.heap.size w4 (w4.alloc (.cells #[.slice a03 ord3.length k03,.slice a13 mem3.length k13] 31)):=by go_grown
 replace A0:=A0.below hb
 replace R0:=R0.below hb
 replace o3:=cluK.own_out (F:=[]) o3 (Out.of_below hb) (fun _ _=>by simp)
 replace b0:=b0.trans (hb.mono b0.size)
 clear hb
 obtain ⟨p0,p1⟩:=X0.cel2
 go_wp2_with fail
 clear p0 p1
 generalize w4.alloc (.cells #[.slice a03 ord3.length k03,.slice a13 mem3.length k13] 31)=W4 at *
 refine (HI3.out W4 (hG.below b0) (hT.below b0) o3).mono ?_
 rintro e w5 ⟨rfl,hb⟩
 replace A0:=A0.below hb
 replace X0:=X0.below hb
 replace R0:=R0.below hb
 replace o3:=cluK.own_out (F:=[]) o3 (Out.of_below hb) (fun _ _=>by simp)
 replace b0:=b0.trans (hb.mono b0.size)
 clear hb
 clear HI3
 have S0:=Blk.new w5 42 #[.int .i64 D,.int .i64 E]
 have hb:Below w5.heap.size w5 (w5.alloc (.cells #[.int .i64 D,.int .i64 E] 42)):=by go_grown
 replace A0:=A0.below hb
 replace X0:=X0.below hb
 replace R0:=R0.below hb
 replace o3:=cluK.own_out (F:=[]) o3 (Out.of_below hb) (fun _ _=>by simp)
 replace b0:=b0.trans (hb.mono b0.size)
 clear hb
 obtain ⟨p0,p1⟩:=S0.cel2
 obtain ⟨r0,r1⟩:=R0.cel2
 go_wp2_with fail
 clear p0 p1 r0 r1
 generalize w5.alloc (.cells #[.int .i64 D,.int .i64 E] 42)=W5 at *
 refine (eqIR_true D E W5).mono ?_
 rintro e w6 ⟨rfl,hb⟩
 replace A0:=A0.below hb
 replace X0:=X0.below hb
 replace o3:=cluK.own_out (F:=[]) o3 (Out.of_below hb) (fun _ _=>by simp)
 replace b0:=b0.trans (hb.mono b0.size)
 clear hb
 clear S0 R0
 go_wp2_with fail
 have hW:Below w6.heap.size w6 w6.drew:=(Below.refl _ _).drew
 have hnn:Nonempty (Lat w6):=⟨⟨w6,Below.refl _ _⟩⟩
 obtain ⟨ff0,ff1⟩:=A0.lts2
 obtain ⟨gg0,gg1⟩:=X0.lts2
 refine text_begin (S:=fun w' => ∃ u:Lat w6,w' = u.val) (by kernel_rfl) ?_
 refine sgr [(0,2)] 3 (by kernel_rfl) ⟨⟨_,hW⟩,rfl⟩ ?_
 simp only [pkE]
 repeat go_big_quiet_step (fail)
 refine wpQuiet_nil ?_
 refine cla 2 (some 25) 8 #[.agg #[.slice a0 ord.length k0,.slice a1 mem.length k1]] 2 (by kernel_rfl) ?_
 refine (Hhto.out _ (Hhrb.out _ (b0.trans (hW.mono b0.size))) hl).mono ?_
 rintro e w9 ⟨q9,rfl,e9,o9,_,_,hb9⟩
 replace hW:=hW.trans (hb9.mono hW.size)
 clear hb9
 refine ⟨_,rfl,⟨⟨_,hW⟩,rfl⟩,?_⟩
 simp only [Act.put,pjE]
 refine cla 3 (some 26) 10 #[.agg #[.slice a03 ord3.length k03,.slice a13 mem3.length k13],.agg #[q9.vo,q9.vm]] 1 (by kernel_rfl) ?_
 refine (HE3.out q9 e9 _ (cluK.rd_below (cluK.own_rd o3) hW) (cluK.own_rd o9)).mono ?_
 rintro e w9 ⟨rfl,hb9⟩
 replace hW:=hW.trans (hb9.mono hW.size)
 clear hb9
 refine ⟨_,rfl,⟨⟨_,hW⟩,rfl⟩,?_⟩
 simp only [Act.put,pjE]
 refine sgr [(4,1)] 0 (by kernel_rfl) ⟨⟨_,hW⟩,rfl⟩ ?_
 simp only [pkE]
 repeat go_big_quiet_step (fail)
 refine wpQuiet_nil ?_
 refine text_end (by kernel_rfl) ?_
 clear hnn ff0 ff1 gg0 gg1
 replace b0:=b0.trans (hW.mono b0.size)
 clear o9 e9 o3 A0 X0 hW
 go_wp2
 go_ret
 exact ⟨rfl,b0⟩

end Go.Proofs.YtjjoahhnkpjolaaGreatDoor
