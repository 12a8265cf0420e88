/- Texts joined, with what the laws reach alone. -/
import Derived.Test.YtdhdnppbgaikfaaGreatDoorLDAM
set_option linter.unusedVariables false
set_option linter.unusedSimpArgs false
namespace Go.Proofs.YtdhdnppbgaikfaaGreatDoor
open Go.RowKit
open Go.BigFrame
set_option maxRecDepth 100000
theorem cellB {w w' : World} {b o:Nat} {v:Value} (h:w.cell? ⟨b,o,none⟩=some v) (hb:Below w.heap.size w w'):w'.cell? ⟨b,o,none⟩=some v:=by
 have hlt:b < w.heap.size:=by
  rcases Nat.lt_or_ge b w.heap.size with h1 | h1
  ·exact h1
  ·exfalso
   have:w.heap[b]? = none:=Array.getElem?_eq_none h1
   simp [World.cell?,this] at h
 rw [hb.cell (p:=⟨b,o,none⟩) hlt]
 exact h

theorem l6Node_any (node:Int) (w:World) :
  Calls Tryz.prog 66 #[.int .i64 node] w fun e w' => e=.returned (.bool (inB node 0 2))∧w' = w:=by
 go_enter Tryz.func66,Tryz.ntmps66
 go_wp2_with (go_at_call 65;refine (l1In_any _ _ _ _).mono ?_;rintro e w' ⟨rfl,rfl⟩)
 go_ret
 exact ⟨rfl,rfl⟩

set_option maxHeartbeats 1000000 in
theorem l6Asked_any (b o:Nat) (p:InstQ) (node round:Int) (w:World) (hP:InstP w b o p) (h4:p.rounds.length≤4) :
  Calls Tryz.prog 81 #[.pointer (some ⟨b,o,none⟩),.int .i64 node,.int .i64 round] w fun e w' => e=.returned (.bool (inB node 0 2 && inB round 0 ((p.rounds.length:Int) - 1)))∧Below w.heap.size w w' := by
 have hB:Below w.heap.size w w:=Below.refl _ _
 obtain ⟨has,vb,batch,vr,rounds,vd,dec⟩:=p
 obtain ⟨va,vk,rfl⟩:∃ a c,vr=.slice a rounds.length c:=hP.rounds.shape
 obtain ⟨c0,c1,c2,c3⟩:=hP.box
 dsimp only at c0 c1 c2 c3 h4
 cases hN:inB node 0 2 with
 | false=>
  go_enter Tryz.func81,Tryz.ntmps81
  go_wp2_with (first | (go_at_call 66;refine (l6Node_any _ _).mono ?_;rintro e w' ⟨rfl,rfl⟩) | (go_at_call 65;refine (l1In_any _ _ _ _).mono ?_;rintro e w' ⟨rfl,rfl⟩))
  go_ret
  exact ⟨by simp,hB⟩
 | true=>
  go_enter Tryz.func81,Tryz.ntmps81
  go_wp2_with (first | (go_at_call 66;refine (l6Node_any _ _).mono ?_;rintro e w' ⟨rfl,rfl⟩) | (go_at_call 65;refine (l1In_any _ _ _ _).mono ?_;rintro e w' ⟨rfl,rfl⟩))
  go_ret
  exact ⟨by simp,hB⟩

/-- The votes of a round, where they lie. -/
theorem inst_round {w:World} {b o:Nat} {p:InstQ} (hP:InstP w b o p) (r:Nat) (hr:r < p.rounds.length) (hF:rndsF p.e.rounds=0) :
  ∃ rb ro vk xb xo xc yb yo yc,p.vr=.slice (some ⟨rb,ro,none⟩) p.rounds.length vk∧w.cell? ⟨rb,ro + r * 2,none⟩=some (.slice (some ⟨xb,xo,none⟩) 3 xc)∧w.cell? ⟨rb,ro + r * 2 + 1,none⟩=some (.slice (some ⟨yb,yo,none⟩) 3 yc) ∧
   (∀ n,n < 3→w.cell? ⟨xb,xo + n,none⟩=some (.int .i64 (repA p.e.rounds r n)))∧(∀ n,n < 3→w.cell? ⟨yb,yo + n,none⟩=some (.int .i64 (proA p.e.rounds r n))) ∧
   Row .i64 w (some ⟨xb,xo,none⟩) (p.e.rounds.getD r rnd0).rep∧Row .i64 w (some ⟨yb,yo,none⟩) (p.e.rounds.getD r rnd0).pro:=by
 obtain ⟨va,vk,hv⟩:=hP.rounds.shape
 have hR:=hP.rounds
 rw [hv] at hR
 obtain ⟨rb,ro,hra,hbs,hc,hrd⟩:=hR.cell (by decide) r hr
 have hc' : ∀ j x,(roundK.cells p.rounds[r])[j]? = some x→w.cell? ⟨rb,ro + r * 2 + j,none⟩=some x:=hc
 have r0:=hc' 0 (p.rounds[r].vr) rfl
 have r1:=hc' 1 (p.rounds[r].vp) rfl
 rw [Nat.add_zero] at r0
 have hat:p.e.rounds.getD r rnd0=RoundQ.e p.rounds[r]:=rnd_at p.rounds r hr
 obtain ⟨hv1,hv2⟩:=rndsF_at hF r (by show r < (p.rounds.map RoundQ.e).length;rw [List.length_map];exact hr)
 have e1:(p.e.rounds.getD r rnd0).rep=p.rounds[r].rep:=by rw [hat];rfl
 have e2:(p.e.rounds.getD r rnd0).pro=p.rounds[r].pro:=by rw [hat];rfl
 rw [e1] at hv1
 rw [e2] at hv2
 obtain ⟨hA1,hA2⟩:intK.At w p.rounds[r].vr p.rounds[r].rep∧intK.At w p.rounds[r].vp p.rounds[r].pro:=hrd
 obtain ⟨xa,xc,xb,xo,hx,rfl,_,xRow⟩:=vf_row hA1 hv1 0 (by omega)
 obtain ⟨ya,yc,yb,yo,hy,rfl,_,yRow⟩:=vf_row hA2 hv2 0 (by omega)
 rw [hx] at r0
 rw [hy] at r1
 have cell:∀ (b o:Nat) (zs:List Int),zs.length=3→Row .i64 w (some ⟨b,o,none⟩) zs→∀ n,n < 3→w.cell? ⟨b,o + n,none⟩=some (.int .i64 (zs.getD n 0)):=fun b o zs hl hR n hn=>by
  obtain ⟨b',o',he,_,hcell⟩:=hR n (by omega)
  simp only [Option.some.injEq,Addr.mk.injEq,and_true] at he
  obtain ⟨rfl,rfl⟩:=he
  exact hcell
 refine ⟨rb,ro,vk,xb,xo,xc,yb,yo,yc,by rw [hv,hra],r0,r1,fun n hn=>?_,fun n hn=>?_,by rw [e1];exact xRow,by rw [e2];exact yRow⟩
 ·have:repA p.e.rounds r n=p.rounds[r].rep.getD n 0:=by unfold repA;rw [e1]
  rw [this]
  exact cell _ _ _ (vf_len hv1) xRow n hn
 ·have:proA p.e.rounds r n=p.rounds[r].pro.getD n 0:=by unfold proA;rw [e2]
  rw [this]
  exact cell _ _ _ (vf_len hv2) yRow n hn

theorem copy_len {p q:InstQ} (h:q.e=p.e) (hw:Wel p.e.rounds) (r:Nat) (hr:r < p.e.rounds.length):∃ hq:r < q.rounds.length,q.rounds[r].rep.length=3∧q.rounds[r].pro.length=3:=by
 have e:q.rounds.map RoundQ.e=p.e.rounds:=by rw [← h];rfl
 have hq:r < q.rounds.length:=by rw [← e,List.length_map] at hr;exact hr
 have:=wel_at hw r hr
 rw [← e,rnd_at _ _ hq] at this
 exact ⟨hq,this⟩

set_option maxHeartbeats 4000000 in
theorem l6Propose_any (b o:Nat) (p:InstQ) (node round mask:Int) (w:World) (hP:InstP w b o p) (hbw:b < w.heap.size) (hl:p.n≤1048576) (h0:insF p.e=0) :
  Calls Tryz.prog 49 #[.pointer (some ⟨b,o,none⟩),.int .i64 node,.int .i64 round,.int .i64 mask] w fun e w' => ∃ q:InstQ,e=.returned (.agg (resC (prC p.e node round mask) 0 false false 0 q))∧q.e=prI p.e node round mask∧instK.own w' q∧(instK.foot q).Nodup∧(∀ k∈instK.foot q,w.heap.size≤k)∧Below w.heap.size w w' := by
 obtain ⟨hne,hro,hd0⟩:=ins_low h0
 obtain ⟨hwel,⟨_,h4⟩,hd3,hF,_⟩:=ins_ok h0
 have hco:=fun w h=>l6Copy_any p w h hl hne hro hd0
 have h4' : p.rounds.length≤4:=by have:p.e.rounds.length=p.rounds.length:=List.length_map _;omega
 have hAs:=fun w' hP=>l6Asked_any b o p node round w' hP h4'
 have hIR:=fun (r:Nat) (hr:r < p.e.rounds.length)=>inst_round hP r (by have:p.e.rounds.length=p.rounds.length:=List.length_map _;omega) hF
 have hLE:=fun (q:InstQ) (hq:q.e=p.e) (r:Nat) (hr:r < p.e.rounds.length)=>copy_len hq hwel r hr
 have HF:=pr_facts p.e node round mask
 have HA:Hid (atC p.e node round=if inB node 0 2 && inB round 0 ((p.rounds.length:Int) - 1) then 0 else 3):=by
  have:p.e.rounds.length=p.rounds.length:=List.length_map _
  unfold atC
  rw [if_pos h0,this]
  exact (rfl:_=_)
 have hrl:p.e.rounds.length=p.rounds.length:=List.length_map _
 have HPE:Hid (∀ (q:InstQ),q.e=p.e→∀ r n v hq,(q.setP r n v hq).e=⟨p.e.has,p.e.batch,rstP p.e.rounds r n v,p.e.dec⟩):=fun q hq r n v hh=>by rw [setP_e,hq]
 generalize hAA:(inB node 0 2 && inB round 0 ((p.rounds.length:Int) - 1))=AA at *
 clear hAA hne hro hd0 hF h0
 generalize prC p.e node round mask=D at *
 generalize prI p.e node round mask=E at *
 generalize atC p.e node round=C at *
 replace HF:Hid _:=HF
 have hrd:=hP.rd
 have hrb:=fun (w' : World) hb=>instK.rd_below (w' := w') hrd hb
 have HRL:Hid (p.e.rounds.length=p.rounds.length):=hrl
 clear hrl
 generalize hpe:p.e=pe at *
 clear hpe
 obtain ⟨has,vb,batch,vr,rounds,vd,dec⟩:=p
 obtain ⟨ba,bk,rfl⟩:∃ a c,vb=.slice a batch.length c:=hrd.1.shape
 obtain ⟨va,vk,rfl⟩:∃ a c,vr=.slice a rounds.length c:=hrd.2.1.shape
 obtain ⟨da,dk,rfl⟩:∃ a c,vd=.slice a dec.length c:=hrd.2.2.shape
 dsimp only at hco hrb h4' hAs hIR HRL HA
 have hB:Below w.heap.size w (w.alloc (.cells #[.int .i64 0,.int .i64 0,.bool false,.bool false,.int .i64 0,.bool false,.slice none 0 0,.slice none 0 0,.slice none 0 0] 39)):=by go_grown
 have Rb:=Blk.new w 39 #[.int .i64 0,.int .i64 0,.bool false,.bool false,.int .i64 0,.bool false,.slice none 0 0,.slice none 0 0,.slice none 0 0]
 go_enter Tryz.func49,Tryz.ntmps49
 go_wp2_with fail
 generalize w.alloc (.cells #[.int .i64 0,.int .i64 0,.bool false,.bool false,.int .i64 0,.bool false,.slice none 0 0,.slice none 0 0,.slice none 0 0] 39)=W at *
 refine (hAs W (hP.below hB)).mono ?_
 rintro e w1 ⟨rfl,hb1⟩
 replace Rb:=Rb.below hb1
 replace hB:=hB.trans (hb1.mono hB.size)
 clear hb1 hAs
 cases AA with
 | false=>
  have hC:C=3:=HA.out
  have E1:Hid (D=3∧E=ine0):=by
   obtain ⟨h1,h2⟩:=HF.out.1 (by rw [hC];decide)
   exact ⟨h1.trans hC,h2⟩
  clear HF hIR hLE hco hC HA
  go_wp2_with fail
  refine (l6Bad_any 3 _).mono ?_
  rintro e w8 ⟨rfl,hb8⟩
  replace hB:=hB.trans (hb8.mono hB.size)
  replace Rb:=Rb.below hb8
  clear hb8
  have Rr:=Rb.row #[.int .i64 3,.int .i64 0,.bool false,.bool false,.int .i64 0,.bool false,.slice none 0 0,.slice none 0 0,.slice none 0 0]
  have hBr:=below_row hB (g:=w.heap.size) (by omega) #[.int .i64 3,.int .i64 0,.bool false,.bool false,.int .i64 0,.bool false,.slice none 0 0,.slice none 0 0,.slice none 0 0]
  have hsr:(Tryz.prog.info? 39).map (·.size)=some (#[.int .i64 3,.int .i64 0,.bool false,.bool false,.int .i64 0,.bool false,.slice none 0 0,.slice none 0 0,.slice none 0 0]:Array Value).size:=sz_res
  go_wp2_with (first | (refine st_row (by kernel_rfl) 39 _ _ rfl _ #[.int .i64 3,.int .i64 0,.bool false,.bool false,.int .i64 0,.bool false,.slice none 0 0,.slice none 0 0,.slice none 0 0] rfl rfl 39 _ Rb hsr rfl (by simp [Value.oneCell']) ?_))
  obtain ⟨q0,q1,q2,q3,q4,q5,q6,q7,q8⟩:=Rr.cel9
  exact bodyPost_ret (v:=.agg #[.int .i64 3,.int .i64 0,.bool false,.bool false,.int .i64 0,.bool false,.slice none 0 0,.slice none 0 0,.slice none 0 0]) (by simp [results,Tryz.results49,go_sem,q0,q1,q2,q3,q4,q5,q6,q7,q8]) rfl ⟨inst0,by rw [E1.out.1];rfl,E1.out.2.symm,inst0_own _,inst0_nd,fun k hk=>by rw [inst0_ft] at hk;simp at hk,hBr⟩

 | true=>
  have hC:C=0:=HA.out
  obtain ⟨hi0,n,r,rfl,rfl,hn,hr,f6,f8,fP,f0⟩:=HF.out.2 hC
  have F6:Hid _:=f6
  have F8:Hid _:=f8
  have FP:Hid _:=fP
  have F0:Hid _:=f0
  clear hi0 f6 f8 fP f0 HF hC HA
  obtain ⟨rb,ro,vk',xb,xo,xc,yb,yo,yc,hvr,k0,k1,kx,ky,Rx,Ry⟩:=hIR r hr
  simp only [Value.slice.injEq,true_and] at hvr
  obtain ⟨rfl,rfl⟩:=hvr
  replace kx:=kx n hn
  replace ky:=ky n hn
  replace k0:=cellB k0 hB
  replace k1:=cellB k1 hB
  replace kx:=cellB kx hB
  replace ky:=cellB ky hB
  have hPW:=hP.below hB
  obtain ⟨c0,c1,c2,c3⟩:=hPW.box
  dsimp only at c0 c1 c2 c3
  have hr4:(r:Int) < rounds.length:=by have:=HRL.out;omega
  have hn3:(n:Int) < 3:=by omega
  have hl1:=(wel_at hwel r hr).1
  have hsp:=fun a c w (hR:Row .i64 w a (pe.rounds.getD r rnd0).rep)=>specProp_any a c (pe.rounds.getD r rnd0).rep mask w hR (by omega)
  rw [hl1] at hsp
  generalize pfC (pe.rounds.getD r rnd0).rep mask=PC at *
  generalize pfV (pe.rounds.getD r rnd0).rep mask=PV at *
  generalize hpr:proA pe.rounds r n=PP at *
  generalize hre:repA pe.rounds r n=RE at *
  clear hIR hpr hre hl1
  by_cases hp3:PP=3
  case neg=>
   have E1:Hid (D=6∧E=ine0):=F6.out hp3
   have hq:(PP != 3)=true:=by simpa using hp3
   clear F6 F8 FP F0 hp3 hLE hco hsp
   go_wp2_with fail
   refine (l6Bad_any 6 _).mono ?_
   rintro e w8 ⟨rfl,hb8⟩
   replace hB:=hB.trans (hb8.mono hB.size)
   replace Rb:=Rb.below hb8
   clear hb8
   have Rr:=Rb.row #[.int .i64 6,.int .i64 0,.bool false,.bool false,.int .i64 0,.bool false,.slice none 0 0,.slice none 0 0,.slice none 0 0]
   have hBr:=below_row hB (g:=w.heap.size) (by omega) #[.int .i64 6,.int .i64 0,.bool false,.bool false,.int .i64 0,.bool false,.slice none 0 0,.slice none 0 0,.slice none 0 0]
   have hsr:(Tryz.prog.info? 39).map (·.size)=some (#[.int .i64 6,.int .i64 0,.bool false,.bool false,.int .i64 0,.bool false,.slice none 0 0,.slice none 0 0,.slice none 0 0]:Array Value).size:=sz_res
   go_wp2_with (first | (refine st_row (by kernel_rfl) 39 _ _ rfl _ #[.int .i64 6,.int .i64 0,.bool false,.bool false,.int .i64 0,.bool false,.slice none 0 0,.slice none 0 0,.slice none 0 0] rfl rfl 39 _ Rb hsr rfl (by simp [Value.oneCell']) ?_))
   obtain ⟨q0,q1,q2,q3,q4,q5,q6,q7,q8⟩:=Rr.cel9
   exact bodyPost_ret (v:=.agg #[.int .i64 6,.int .i64 0,.bool false,.bool false,.int .i64 0,.bool false,.slice none 0 0,.slice none 0 0,.slice none 0 0]) (by simp [results,Tryz.results49,go_sem,q0,q1,q2,q3,q4,q5,q6,q7,q8]) rfl ⟨inst0,by rw [E1.out.1];rfl,E1.out.2.symm,inst0_own _,inst0_nd,fun k hk=>by rw [inst0_ft] at hk;simp at hk,hBr⟩

  case pos=>
   have hq:(PP != 3)=false:=by rw [hp3];rfl
   by_cases hp4:RE=3
   case pos=>
    have E1:Hid (D=8∧E=ine0):=F8.out hp3 hp4
    have hq4:(RE == 3)=true:=by rw [hp4];rfl
    clear F6 F8 FP F0 hp3 hp4 hLE hco hsp
    go_wp2_with fail
    refine (l6Bad_any 8 _).mono ?_
    rintro e w8 ⟨rfl,hb8⟩
    replace hB:=hB.trans (hb8.mono hB.size)
    replace Rb:=Rb.below hb8
    clear hb8
    have Rr:=Rb.row #[.int .i64 8,.int .i64 0,.bool false,.bool false,.int .i64 0,.bool false,.slice none 0 0,.slice none 0 0,.slice none 0 0]
    have hBr:=below_row hB (g:=w.heap.size) (by omega) #[.int .i64 8,.int .i64 0,.bool false,.bool false,.int .i64 0,.bool false,.slice none 0 0,.slice none 0 0,.slice none 0 0]
    have hsr:(Tryz.prog.info? 39).map (·.size)=some (#[.int .i64 8,.int .i64 0,.bool false,.bool false,.int .i64 0,.bool false,.slice none 0 0,.slice none 0 0,.slice none 0 0]:Array Value).size:=sz_res
    go_wp2_with (first | (refine st_row (by kernel_rfl) 39 _ _ rfl _ #[.int .i64 8,.int .i64 0,.bool false,.bool false,.int .i64 0,.bool false,.slice none 0 0,.slice none 0 0,.slice none 0 0] rfl rfl 39 _ Rb hsr rfl (by simp [Value.oneCell']) ?_))
    obtain ⟨q0,q1,q2,q3,q4,q5,q6,q7,q8⟩:=Rr.cel9
    exact bodyPost_ret (v:=.agg #[.int .i64 8,.int .i64 0,.bool false,.bool false,.int .i64 0,.bool false,.slice none 0 0,.slice none 0 0,.slice none 0 0]) (by simp [results,Tryz.results49,go_sem,q0,q1,q2,q3,q4,q5,q6,q7,q8]) rfl ⟨inst0,by rw [E1.out.1];rfl,E1.out.2.symm,inst0_own _,inst0_nd,fun k hk=>by rw [inst0_ft] at hk;simp at hk,hBr⟩

   case neg=>
    have F1:Hid ((PC≠0→D=PC∧E=ine0)∧(PC=0→D=0∧E=⟨pe.has,pe.batch,rstP pe.rounds r n PV,pe.dec⟩)):=⟨FP.out hp3 hp4,F0.out hp3 hp4⟩
    have hq4:(RE == 3)=false:=by simpa using hp4
    clear F6 F8 FP F0 hp3 hp4
    go_wp2_with fail
    clear hq hq4 kx ky k0 k1 c0 c1 c2 c3
    refine (hsp _ _ w1 (Rx.below hB)).mono ?_
    rintro e w2 ⟨rfl,hb2⟩
    have hbA:Below w2.heap.size w2 (w2.alloc (.cells #[.int .i64 PC,.int .i64 PV] 140)):=by go_grown
    have BI:=Blk.new w2 140 #[.int .i64 PC,.int .i64 PV]
    have h12:w.heap.size < w2.heap.size:=(Rb.below hb2).lt
    replace Rb:=(Rb.below hb2).below hbA
    replace hB:=hB.trans (hb2.mono hB.size)
    replace hB:=hB.trans (hbA.mono hB.size)
    clear hb2 hsp hbA hPW
    by_cases hpc:PC=0
    case neg=>
     have E1:Hid (D=PC∧E=ine0):=F1.out.1 hpc
     have h0' : (PC != 0)=true:=by simpa using hpc
     clear F1 hpc hLE hco
     go_wp2_with fail
     refine (l6Bad_any PC _).mono ?_
     rintro e w8 ⟨rfl,hb8⟩
     replace hB:=hB.trans (hb8.mono hB.size)
     replace Rb:=Rb.below hb8
     clear hb8
     have Rr:=Rb.row #[.int .i64 PC,.int .i64 0,.bool false,.bool false,.int .i64 0,.bool false,.slice none 0 0,.slice none 0 0,.slice none 0 0]
     have hBr:=below_row hB (g:=w.heap.size) (by omega) #[.int .i64 PC,.int .i64 0,.bool false,.bool false,.int .i64 0,.bool false,.slice none 0 0,.slice none 0 0,.slice none 0 0]
     have hsr:(Tryz.prog.info? 39).map (·.size)=some (#[.int .i64 PC,.int .i64 0,.bool false,.bool false,.int .i64 0,.bool false,.slice none 0 0,.slice none 0 0,.slice none 0 0]:Array Value).size:=sz_res
     go_wp2_with (first | (refine st_row (by kernel_rfl) 39 _ _ rfl _ #[.int .i64 PC,.int .i64 0,.bool false,.bool false,.int .i64 0,.bool false,.slice none 0 0,.slice none 0 0,.slice none 0 0] rfl rfl 39 _ Rb hsr rfl (by simp [Value.oneCell']) ?_))
     obtain ⟨q0,q1,q2,q3,q4,q5,q6,q7,q8⟩:=Rr.cel9
     exact bodyPost_ret (v:=.agg #[.int .i64 PC,.int .i64 0,.bool false,.bool false,.int .i64 0,.bool false,.slice none 0 0,.slice none 0 0,.slice none 0 0]) (by simp [results,Tryz.results49,go_sem,q0,q1,q2,q3,q4,q5,q6,q7,q8]) rfl ⟨inst0,by rw [E1.out.1];rfl,E1.out.2.symm,inst0_own _,inst0_nd,fun k hk=>by rw [inst0_ft] at hk;simp at hk,hBr⟩

    case pos=>
     have E1:Hid (D=0∧E=⟨pe.has,pe.batch,rstP pe.rounds r n PV,pe.dec⟩):=F1.out.2 hpc
     subst hpc
     clear F1
     have hPW:=hP.below hB
     obtain ⟨c0,c1,c2,c3⟩:=hPW.box
     dsimp only at c0 c1 c2 c3
     go_wp2_with fail
     clear c0 c1 c2 c3
     generalize (w2.alloc (.cells #[.int .i64 0,.int .i64 PV] 140))=Y at *
     refine (hco Y (hrb Y hB)).mono ?_
     rintro e w3 ⟨q,rfl,eq,oq,nq,gq,hb3⟩
     have hY:=BI.lt
     replace Rb:=Rb.below hb3
     replace BI:=BI.below hb3
     replace hB:=hB.trans (hb3.mono hB.size)
     obtain ⟨hrq,_,hpq⟩:=hLE q eq r hr
     have HQE:=HPE.out q eq r n PV hrq
     have M:=instK.own_lt oq
     obtain ⟨qh,qb,qbs,qr,qrs,qd,qds⟩:=q
     obtain ⟨s1,t1,rfl⟩:∃ a c,qb=.slice a qbs.length c:=oq.1.shape
     obtain ⟨s2,t2,rfl⟩:∃ a c,qr=.slice a qrs.length c:=oq.2.1.shape
     obtain ⟨s3,t3,rfl⟩:∃ a c,qd=.slice a qds.length c:=oq.2.2.shape
     obtain ⟨gr,rfl⟩:=oq.2.1.blkOf (by exact Nat.lt_of_le_of_lt (Nat.zero_le _) hrq)
     have hbA:Below w3.heap.size w3 (w3.alloc (.cells #[.bool qh,.slice s1 qbs.length t1,.slice (some ⟨gr,0,none⟩) qrs.length t2,.slice s3 qds.length t3] 28)):=by go_grown
     have Gz:=Blk.new w3 28 #[.bool qh,.slice s1 qbs.length t1,.slice (some ⟨gr,0,none⟩) qrs.length t2,.slice s3 qds.length t3]
     replace Rb:=Rb.below hbA
     replace BI:=BI.below hbA
     replace hB:=hB.trans (hbA.mono hB.size)
     replace oq:=instK.own_out (F:=[]) oq (Out.of_below hbA) (fun _ _=>by simp)
     go_wp2_with fail
     generalize w3.alloc (.cells #[.bool qh,.slice s1 qbs.length t1,.slice (some ⟨gr,0,none⟩) qrs.length t2,.slice s3 qds.length t3] 28)=Y3 at *
     replace hrq:r < qrs.length:=hrq
     have hrq3:(r:Int) < qrs.length:=by omega
     obtain ⟨g5,cap5,hv5,hg5,kc,kf,own5,foot5⟩:=own_setP oq nq r n hrq (by show n < (qrs[r]).pro.length;have:(qrs[r]).pro.length=3:=hpq;omega) PV
     have hpl:(qrs[r]).pro.length=3:=hpq
     rw [show (InstQ.rounds (⟨qh,.slice s1 qbs.length t1,qbs,.slice (some ⟨gr,0,none⟩) qrs.length t2,qrs,.slice s3 qds.length t3,qds⟩:InstQ))[r]=qrs[r] from rfl,hpl] at hv5
     have hcr:=oq.2.1.cell r hrq 1 (.slice (some ⟨g5,0,none⟩) 3 cap5) (by show ([(qrs[r]).vr,(qrs[r]).vp]:List Value)[1]? = _;rw [← hv5];rfl)
     have hcr2:Y3.cell? ⟨gr,r * 2 + 1,none⟩=some (.slice (some ⟨g5,0,none⟩) 3 cap5):=hcr.1
     have hgr:gr≠g5:=by
      intro e
      have hn2:=(List.nodup_append.1 (List.nodup_append.1 nq).2.1).1
      have hx:=(List.nodup_append.1 hn2).2.2 gr (by simp [blk,Value.ownBlock]) g5 (List.mem_flatMap.2 ⟨qrs[r],List.getElem_mem hrq,List.mem_append_right _ (by rw [hv5,fp_int];simp)⟩)
      exact hx e
     have hg5l:Y.heap.size≤g5∧g5 < w3.heap.size:=⟨gq g5 hg5,M g5 hg5⟩
     have hYd:Below Y3.heap.size Y3 Y3.drew:=(Below.refl _ _).drew
     have z2:=lato_cell (F:=[g5]) (Gz.cell 2 _ rfl) (by simp only [List.mem_singleton];omega)
     have z1:=lato_cell (F:=[g5]) (BI.cell 1 _ rfl) (by simp only [List.mem_singleton];omega)
     have zr:=lato_cell (F:=[g5]) hcr2 (by simp only [List.mem_singleton];exact hgr)
     have hnn:Nonempty (LatO [g5] Y3):=⟨⟨Y3,Out.refl _ _⟩⟩
     have hS0:∃ u:LatO [g5] Y3,Y3.drew=u.val:=⟨⟨_,Out.of_below hYd⟩,rfl⟩
     refine text_begin (S:=fun w' => ∃ u:LatO [g5] Y3,w' = u.val) (by kernel_rfl) ?_
     refine sgr [(0,10)] 1 (by kernel_rfl) hS0 ?_
     simp only [pkE]
     repeat go_big_quiet_step (fail)
     refine wpQuiet_nil ?_
     refine ona 10 0 rfl (by kernel_rfl) ?_
     clear z2 z1 zr hcr hcr2 hgr
     have kc' : Y3.drew.cell? ⟨g5,n,none⟩=some _:=kc
     have kf' : Y3.drew.frozen? ⟨g5,n,none⟩=false:=kf
     have hUU:Out [g5] Y3 (Y3.drew.setCell ⟨g5,n,none⟩ (iv PV)):=(Out.of_below hYd).set (by simp)
     have hG5:Blk (Y3.drew.setCell ⟨g5,n,none⟩ (iv PV)) w3.heap.size 28 #[.bool qh,.slice s1 qbs.length t1,.slice (some ⟨gr,0,none⟩) qrs.length t2,.slice s3 qds.length t3]:=(Gz.below hYd).other (b' := g5) (by omega) n (iv PV)
     have R3:=(Rb.below hYd).other (b' := g5) (by omega) n (iv PV)
     have hBg:Below w.heap.size w (Y3.drew.setCell ⟨g5,n,none⟩ (iv PV)):=(hB.trans (hYd.mono hB.size)).setCell (p:=⟨g5,n,none⟩) (by show w.heap.size≤g5;omega) _
     have own6:instK.own (Y3.drew.setCell ⟨g5,n,none⟩ (iv PV)) (InstQ.setP (⟨qh,.slice s1 qbs.length t1,qbs,.slice (some ⟨gr,0,none⟩) qrs.length t2,qrs,.slice s3 qds.length t3,qds⟩:InstQ) r n PV hrq):=own5
     have L5:∀ k∈instK.foot (InstQ.setP (⟨qh,.slice s1 qbs.length t1,qbs,.slice (some ⟨gr,0,none⟩) qrs.length t2,qrs,.slice s3 qds.length t3,qds⟩:InstQ) r n PV hrq),w.heap.size < k:=fun k hk=>by rw [foot5] at hk;have:=gq k hk;omega
     have N5:(instK.foot (InstQ.setP (⟨qh,.slice s1 qbs.length t1,qbs,.slice (some ⟨gr,0,none⟩) qrs.length t2,qrs,.slice s3 qds.length t3,qds⟩:InstQ) r n PV hrq)).Nodup:=by rw [foot5];exact nq
     have hous:∀ cs,instK.own ((Y3.drew.setCell ⟨g5,n,none⟩ (iv PV)).setRow w.heap.size cs) (InstQ.setP (⟨qh,.slice s1 qbs.length t1,qbs,.slice (some ⟨gr,0,none⟩) qrs.length t2,qrs,.slice s3 qds.length t3,qds⟩:InstQ) r n PV hrq):=fun cs=>instK.own_out own6 (out_row _ w.heap.size cs) (fun k hk=>by have:=L5 k hk;simp only [List.mem_singleton];omega)
     have HQ:Hid ((InstQ.setP (⟨qh,.slice s1 qbs.length t1,qbs,.slice (some ⟨gr,0,none⟩) qrs.length t2,qrs,.slice s3 qds.length t3,qds⟩:InstQ) r n PV hrq).e=E∧(instK.foot (InstQ.setP (⟨qh,.slice s1 qbs.length t1,qbs,.slice (some ⟨gr,0,none⟩) qrs.length t2,qrs,.slice s3 qds.length t3,qds⟩:InstQ) r n PV hrq)).Nodup∧(∀ k∈instK.foot (InstQ.setP (⟨qh,.slice s1 qbs.length t1,qbs,.slice (some ⟨gr,0,none⟩) qrs.length t2,qrs,.slice s3 qds.length t3,qds⟩:InstQ) r n PV hrq),w.heap.size≤k)∧∀ cs,instK.own ((Y3.drew.setCell ⟨g5,n,none⟩ (iv PV)).setRow w.heap.size cs) (InstQ.setP (⟨qh,.slice s1 qbs.length t1,qbs,.slice (some ⟨gr,0,none⟩) qrs.length t2,qrs,.slice s3 qds.length t3,qds⟩:InstQ) r n PV hrq)):=⟨by rw [E1.out.2];exact HQE,N5,fun k hk=>by have:=L5 k hk;omega,hous⟩
     have HD0:Hid (D=0):=E1.out.1
     clear Gz Rb hB BI own5 own6 foot5 L5 N5 hous HQE E1 oq nq gq eq hb3 hco hS0 hYd M hbA
     change Blk (Y3.setCell ⟨g5,n,none⟩ (iv PV)).drew _ _ _ at hG5
     change Blk (Y3.setCell ⟨g5,n,none⟩ (iv PV)).drew _ _ _ at R3
     change Below _ _ (Y3.setCell ⟨g5,n,none⟩ (iv PV)).drew at hBg
     change Out _ _ (Y3.setCell ⟨g5,n,none⟩ (iv PV)).drew at hUU
     change Hid (_∧_∧_∧∀ cs,instK.own (((Y3.setCell ⟨g5,n,none⟩ (iv PV)).drew).setRow w.heap.size cs) _) at HQ
     go_wp2
     refine ThenGo.to ⟨⟨⟨_,hUU⟩,rfl⟩,?_⟩
     refine text_end (by kernel_rfl) ?_
     clear kc kf kc' kf' hUU hnn
     generalize (Y3.setCell ⟨g5,n,none⟩ (iv PV)).drew=X5 at *
     have Rr:=R3.row #[.int .i64 0,.int .i64 0,.bool false,.bool false,.int .i64 0,.bool qh,.slice s1 qbs.length t1,.slice (some ⟨gr,0,none⟩) qrs.length t2,.slice s3 qds.length t3]
     have hBr:=below_row hBg (g:=w.heap.size) (Nat.le_refl _) #[.int .i64 0,.int .i64 0,.bool false,.bool false,.int .i64 0,.bool qh,.slice s1 qbs.length t1,.slice (some ⟨gr,0,none⟩) qrs.length t2,.slice s3 qds.length t3]
     have hsr:(Tryz.prog.info? 39).map (·.size)=some (#[.int .i64 0,.int .i64 0,.bool false,.bool false,.int .i64 0,.bool qh,.slice s1 qbs.length t1,.slice (some ⟨gr,0,none⟩) qrs.length t2,.slice s3 qds.length t3]:Array Value).size:=sz_res
     obtain ⟨z0,z1,z2,z3⟩:=hG5.cel4
     go_wp2_with (first | (refine st_row (by kernel_rfl) 39 _ _ rfl _ #[.int .i64 0,.int .i64 0,.bool false,.bool false,.int .i64 0,.bool qh,.slice s1 qbs.length t1,.slice (some ⟨gr,0,none⟩) qrs.length t2,.slice s3 qds.length t3] rfl rfl 39 _ R3 hsr rfl (by simp [Value.oneCell']) ?_))
     obtain ⟨q0,q1,q2,q3,q4,q5,q6,q7,q8⟩:=Rr.cel9
     exact bodyPost_ret (v:=.agg #[.int .i64 0,.int .i64 0,.bool false,.bool false,.int .i64 0,.bool qh,.slice s1 qbs.length t1,.slice (some ⟨gr,0,none⟩) qrs.length t2,.slice s3 qds.length t3]) (by simp [results,Tryz.results49,go_sem,q0,q1,q2,q3,q4,q5,q6,q7,q8]) rfl ⟨InstQ.setP (⟨qh,.slice s1 qbs.length t1,qbs,.slice (some ⟨gr,0,none⟩) qrs.length t2,qrs,.slice s3 qds.length t3,qds⟩:InstQ) r n PV hrq,by rw [HD0.out];rfl,HQ.out.1,HQ.out.2.2.2 _,HQ.out.2.1,HQ.out.2.2.1,hBr⟩

end Go.Proofs.YtdhdnppbgaikfaaGreatDoor
namespace Go.Proofs.YtdhdnppbgaikfaaGreatDoor
open Go.RowKit
open Go.BigFrame
set_option maxRecDepth 100000
theorem Blk.outs {w w' : World} {b:Nat} {t:TypeId} {cs:Array Value} {F:List Nat} (h:Blk w b t cs) (hU:Out F w w') (hF:b ∉ F):Blk w' b t cs:=(hU.block b h.lt hF).trans h

theorem nmL_map {P E:Type} (f:P→E) (nm:E→Nat) (ps:List P):nmL nm (ps.map f)=nmL (fun p=>nm (f p)) ps:=by
 simp [nmL,Function.comp_def]

theorem inst_ne (q:InstQ):q.n=InstE.n q.e:=by
 unfold InstQ.n InstE.n txnsN roundsN
 rw [show q.e.batch=q.batch.map TxnQ.e from rfl,show q.e.rounds=q.rounds.map RoundQ.e from rfl,nmL_map,nmL_map,List.length_map,List.length_map]
 rfl

theorem nmL_set {P:Type} (nm:P→Nat) (ps:List P) (i:Nat) (p d:P) (h:nm p=nm (ps.getD i d)):nmL nm (ps.set i p)=nmL nm ps:=by
 induction ps generalizing i with
 | nil=>rfl
 | cons q t ih=>
  cases i with
  | zero=>
   have:nm p=nm q:=h
   simp [nmL,this]
  | succ i=>
   have:=ih i (by simpa [List.getD] using h)
   simp only [nmL,List.set_cons_succ,List.map_cons,List.sum_cons] at this ⊢
   rw [this]

theorem rstP_n (rs:List RoundE) (r n:Nat) (v:Int):roundsN (rstP rs r n v)=roundsN rs:=by
 unfold roundsN rstP
 rw [List.length_set,nmL_set RoundE.n rs r _ rnd0 (by simp [RoundE.n])]

theorem rstR_n (rs:List RoundE) (r n:Nat) (v:Int):roundsN (rstR rs r n v)=roundsN rs:=by
 unfold roundsN rstR
 rw [List.length_set,nmL_set RoundE.n rs r _ rnd0 (by simp [RoundE.n])]

end Go.Proofs.YtdhdnppbgaikfaaGreatDoor
namespace Go.Proofs.YtdhdnppbgaikfaaGreatDoor
open Go.RowKit
open Go.BigFrame
set_option maxRecDepth 100000
/-- The variable openRow is as the program's text lays it. -/
def Opn (w:World):Prop:=∀ j,j < 3→w.cell? ⟨0,j,none⟩=some (.int .i64 3)

theorem Opn.below {w w' : World} (h:Opn w) (hb:Below w.heap.size w w'):Opn w' := fun j hj=>cellB (h j hj) hb

structure RulO (w:World):Prop where
 r:Rul w
 o:Opn w

theorem RulO.below {w w' : World} (h:RulO w) (hb:Below w.heap.size w w'):RulO w' := ⟨h.r.below hb,h.o.below hb⟩

theorem Opn.range {w:World} (h:Opn w):w.rangeAt 0 0 [.int .i64 3,.int .i64 3,.int .i64 3]:=fun j v hv=>by
 rw [Nat.zero_add]
 match j,hv with
 | 0,hv=>simp at hv;subst hv;exact h 0 (by omega)
 | 1,hv=>simp at hv;subst hv;exact h 1 (by omega)
 | 2,hv=>simp at hv;subst hv;exact h 2 (by omega)

theorem Opn.glob {w:World} (h:Opn w):0 < w.heap.size:=World.block_lt_of_cell? w ⟨0,0,none⟩ (h 0 (by omega))

/-- An open round; the round behind the last one comes to be. -/
def opn3:RoundE:=⟨[3,3,3],[3,3,3]⟩

def ensR (rs:List RoundE) (r:Nat):List RoundE:=if r=rs.length then rs ++ [opn3] else rs

theorem ensR_lt (rs:List RoundE) (r:Nat) (hr:r≤rs.length):r < (ensR rs r).length:=by
 unfold ensR
 split
 ·simp;omega
 ·omega

theorem Opn.outs {w w' : World} {F:List Nat} (h:Opn w) (hU:Out F w w') (hF:0 ∉ F):Opn w' := fun j hj=>by
 have h0:=hU.block 0 h.glob hF
 have h1:=h j hj
 simp only [World.cell?] at h1 ⊢
 rw [h0]
 exact h1

/-- Rounds in which nobody voted come behind, until round r is there. -/
def reaR (rs:List RoundE) (r:Nat):List RoundE:=rs ++ List.replicate (r + 1 - rs.length) opn3

theorem wel_more {rs:List RoundE} (h:Wel rs) (m:Nat):Wel (rs ++ List.replicate m opn3):=fun x hx=>by
 rcases List.mem_append.1 hx with hx | hx
 ·exact h x hx
 ·rw [(List.mem_replicate.1 hx).2]
  exact ⟨rfl,rfl⟩

set_option maxHeartbeats 4000000 in
theorem reach_any (b:Nat) (t:TypeId) (rs:List RoundE) (tail:List Value) (r:Nat) (w:World) (hO:Opn w) (hbo:b≠0) (hB:Blk w b t (rndC rs ++ tail).toArray) (h:Wel rs) (h4:rs.length≤4) (hr4:r < 4) :
  Calls Tryz.prog 35 #[.pointer (some ⟨b,0,none⟩),.int .i64 (r:Int)] w fun e w' => e=.returned (.tuple #[])∧Blk w' b t (rndC (reaR rs r) ++ tail).toArray∧Out [b] w w' := by
 have hri:(r:Int) < 4:=by omega
 go_enter Tryz.func35,Tryz.ntmps35
 go_wp2
 go_loopg [4] (r + 1 - rs.length) (fun n p wr=>∃ m:Nat,n=r + 1 - (rs.length + m)∧m≤r + 1 - rs.length∧Blk wr b t (rndC (rs ++ List.replicate m opn3) ++ tail).toArray∧Out [b] w wr)
 case atStart=>exact ⟨0,by omega,by omega,by simpa using hB,Out.refl _ _⟩
 case round=>
  obtain ⟨m,rfl,hm,hB,hU⟩:=hrel
  have hlm:(rs ++ List.replicate m opn3).length=rs.length + m:=by simp
  have hwm:=wel_more h m
  have c0:wr.cell? ⟨b,0,none⟩=some (.int .i64 ((rs ++ List.replicate m opn3).length:Int)):=hB.cell 0 _ rfl
  rw [hlm] at c0
  by_cases hlt:rs.length + m≤r
  ·have had:Calls Tryz.prog 41 #[.pointer (some ⟨b,0,none⟩),.agg #[.int .i64 3,.int .i64 3,.int .i64 3,.int .i64 3,.int .i64 3,.int .i64 3]] wr _:=addRound_any b t _ tail opn3 wr hB hwm ⟨rfl,rfl⟩ (by omega)
   have hOr:=(hO.outs hU (by simp only [List.mem_singleton];exact fun e=>hbo e.symm)).range
   have es:rs ++ List.replicate m opn3 ++ [opn3]=rs ++ List.replicate (m + 1) opn3:=by
    rw [List.append_assoc,show [opn3]=List.replicate 1 opn3 from rfl,List.replicate_append_replicate]
   rw [es] at had
   clear es hlm hwm hB
   have hle:((rs.length + m:Nat):Int)≤(r:Int):=by omega
   generalize hk:rs.length + m=km at *
   go_wp2_with (first | (refine ld_g (by kernel_rfl) 51 _ rfl _ _ rfl [.int .i64 3,.int .i64 3,.int .i64 3] _ hOr Tryz.underlying51 rfl sz_row ?_))
   refine had.mono ?_
   rintro e w2 ⟨rfl,hB2,hU2⟩
   replace hU:=hU.trans hU2
   clear had hOr c0 hU2
   go_wp2
   go_roundg (r + 1 - (rs.length + (m + 1)))
   case rel=>exact ⟨m + 1,rfl,by omega,hB2,hU⟩
   case measure=>omega
  ·have e:rs ++ List.replicate m opn3=reaR rs r:=by
    unfold reaR
    rw [show m=r + 1 - rs.length by omega]
   have hle:¬ ((rs.length + m:Nat):Int)≤(r:Int):=by omega
   rw [e] at hB
   clear e hlm hwm
   generalize hk:rs.length + m=km at *
   go_wp2
   go_end0
   exact ⟨rfl,hB,hU⟩

end Go.Proofs.YtdhdnppbgaikfaaGreatDoor
namespace Go.Proofs.YtdhdnppbgaikfaaGreatDoor
open Go.RowKit
open Go.BigFrame
set_option maxRecDepth 100000
/-- FirstReport, plainly: its code, and its instance. -/
def frC (x:InstE) (node value:Int):Int:=if atC x node 0=0 then (if inB value 0 1 then (if repA x.rounds 0 node.toNat=3 then (if value=1∧x.has=false then 10 else 0) else 6) else 3) else atC x node 0

def frI (x:InstE) (node value:Int):InstE:=if frC x node value=0 then ⟨x.has,x.batch,rstR x.rounds 0 node.toNat value,x.dec⟩ else ine0

theorem fr_facts (x:InstE) (node value:Int):(atC x node 0≠0→frC x node value=atC x node 0∧frI x node value=ine0) ∧
  (atC x node 0=0→insF x=0∧∃ n:Nat,node=(n:Int)∧n < 3∧0 < x.rounds.length ∧
   (inB value 0 1=false→frC x node value=3∧frI x node value=ine0) ∧
   (inB value 0 1=true→repA x.rounds 0 n≠3→frC x node value=6∧frI x node value=ine0) ∧
   (inB value 0 1=true→repA x.rounds 0 n=3→value=1→x.has=false→frC x node value=10∧frI x node value=ine0) ∧
   (inB value 0 1=true→repA x.rounds 0 n=3→¬ (value=1∧x.has=false)→frC x node value=0∧frI x node value=⟨x.has,x.batch,rstR x.rounds 0 n value,x.dec⟩)):=by
 have hne:∀ c,frC x node value=c→c≠0→frI x node value=ine0:=fun c hc h0=>if_neg (by rw [hc];exact h0)
 refine ⟨fun h0=>?_,fun h0=>?_⟩
 ·have e:frC x node value=atC x node 0:=if_neg h0
  exact ⟨e,hne _ e h0⟩
 ·obtain ⟨hi,n,r,rfl,hr0,hn,hr⟩:=at_zero h0
  refine ⟨hi,n,rfl,hn,by omega,fun h1=>?_,fun h1 h2=>?_,fun h1 h2 h3 h4=>?_,fun h1 h2 h3=>?_⟩
  ·have e:frC x n value=3:=by unfold frC;rw [if_pos h0,h1];rfl
   exact ⟨e,hne _ e (by decide)⟩
  ·have e:frC x n value=6:=by unfold frC;rw [if_pos h0,h1,if_pos rfl,Int.toNat_natCast,if_neg h2]
   exact ⟨e,hne _ e (by decide)⟩
  ·have e:frC x n value=10:=by unfold frC;rw [if_pos h0,h1,if_pos rfl,Int.toNat_natCast,if_pos h2,if_pos ⟨h3,h4⟩]
   exact ⟨e,hne _ e (by decide)⟩
  ·have e:frC x n value=0:=by unfold frC;rw [if_pos h0,h1,if_pos rfl,Int.toNat_natCast,if_pos h2,if_neg h3]
   exact ⟨e,by unfold frI;rw [if_pos e,Int.toNat_natCast]⟩

end Go.Proofs.YtdhdnppbgaikfaaGreatDoor
