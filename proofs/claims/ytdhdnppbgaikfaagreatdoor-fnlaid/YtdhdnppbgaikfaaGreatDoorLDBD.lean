/- Texts joined, with what the laws reach alone. -/
import Derived.Test.YtdhdnppbgaikfaaGreatDoorLDBC
set_option linter.unusedVariables false
set_option linter.unusedSimpArgs false
namespace Go.Proofs.YtdhdnppbgaikfaaGreatDoor
open Go.RowKit
open Go.BigFrame
set_option maxRecDepth 100000
theorem same_refl10 {α:Type} {f:α→α→Bool} {g:List α→List α→Bool} (h0:g [] []=true) (h1:∀ x r y s,g (x :: r) (y :: s)=(f x y && g r s)) (hf:∀ x,f x x=true):∀ xs,g xs xs=true
 | []=>h0
 | x :: r=>by rw [h1,hf,same_refl10 h0 h1 hf r];rfl

theorem sameAs_refl (xs:List ActD):sameAs xs xs=true:=same_refl10 (f:=sameA) rfl (fun _ _ _ _=>rfl) (fun x=>by simp [sameA]) xs

theorem sameTs_refl (xs:List TxnD):sameTs xs xs=true:=same_refl10 (f:=sameT) rfl (fun _ _ _ _=>rfl) (fun x=>by simp [sameT,sameAs_refl]) xs

theorem sameZs_refl (xs:List Int):sameZs xs xs=true:=same_refl10 (f:=sameZ) rfl (fun _ _ _ _=>rfl) (fun x=>by simp [sameZ]) xs

theorem sameRs_refl (xs:List RoundE):sameRs xs xs=true:=same_refl10 (f:=sameR) rfl (fun _ _ _ _=>rfl) (fun x=>by simp [sameR,sameZs_refl]) xs

theorem sameI_refl (x:InstE):sameI x x=true:=by simp [sameI,sameTs_refl,sameRs_refl,sameZs_refl]

theorem sameInst_true (p q:InstQ) (w:World) (h:instK.rd w p) (h' : instK.rd w q) (hl:p.n≤1048576) (hl' : q.n≤1048576) (e:p.e=q.e) :
  Calls Tryz.prog 11 #[.agg #[.bool p.has,p.vb,p.vr,p.vd],.agg #[.bool q.has,q.vb,q.vr,q.vd]] w fun e w' => e=.returned (.bool true)∧Below w.heap.size w w' := by
 have:=implSameInst_any p q w h h' hl hl'
 rw [e,sameI_refl] at this
 exact this

theorem fieldIRL (h:Bool) (a1:Option Addr) (n1 c1:Nat) (a2:Option Addr) (n2 c2:Nat) (a3:Option Addr) (n3 c3:Nat) (w:World):(Instr.field 39 (.agg #[.int .i64 0,.int .i64 0,.bool false,.bool false,.int .i64 0,.bool h,.slice a1 n1 c1,.slice a2 n2 c2,.slice a3 n3 c3]) 2).run Tryz.prog w=.ok (.agg #[.bool h,.slice a1 n1 c1,.slice a2 n2 c2,.slice a3 n3 c3]) w:=by kernel_rfl

theorem bare_small {q:InstQ} {x:InstE} (h:q.e=⟨x.has,x.batch,[opn3],[3,3,3]⟩) (hx:InstE.n x≤1000):q.n≤1048576:=by
 rw [inst_ne,h]
 unfold InstE.n at hx ⊢
 have e6:roundsN [opn3]=7:=by decide
 dsimp only
 rw [e6]
 simp
 omega

theorem lay_right {x:InstE} {L:List VoteD} (h:lvC x L=0):insF (lvI x L)=0:=by
 have e:lvI x L=layE x L:=if_pos h
 rw [e]
 unfold lvC at h
 by_cases h0:insF x=0
 ·rw [if_pos h0] at h
  by_cases h1:40 < L.length
  ·rw [if_pos h1] at h;exact absurd h (by decide)
  ·rw [if_neg h1] at h
   by_cases h2:(layL x.rounds x.dec L).1=0
   ·rw [if_pos h2] at h;exact h
   ·rw [if_neg h2] at h;exact absurd h h2
 ·rw [if_neg h0] at h;exact absurd h h0

set_option maxRecDepth 100000 in
set_option maxHeartbeats 16000000 in
theorem laidFn (a:Option Addr) (cap:Nat) (zs:List Int) (w:World) (hG:RulO w) (h:Row .u8 w a zs) (hu:∀ i,0≤zs.getD i 0∧zs.getD i 0≤255) (hm:zs.length≤9223372036854775807) :
  Calls Tryz.prog 3 #[.slice a zs.length cap] w fun e w' => e=.returned (.bool true)∧Below w.heap.size w w' := by
 by_cases hle:zs.length≤1048576
 case neg=>
  have hd:decide (1048576 < (zs.length:Int))=true:=decide_eq_true (by omega)
  go_enter Tryz.func3,Tryz.ntmps3
  go_wp2_with fail
  refine (lwBig_any a zs.length cap w hm).mono ?_
  rintro e w1 ⟨rfl,hw⟩
  replace hw:=hw.symm
  subst hw
  rw [hd]
  go_wp2
  go_ret
  exact ⟨rfl,Below.refl _ _⟩
 have hd:decide (1048576 < (zs.length:Int))=false:=decide_eq_false (by omega)
 go_enter Tryz.func3,Tryz.ntmps3
 go_wp2_with fail
 refine (lwBig_any a zs.length cap w hm).mono ?_
 rintro e w1 ⟨rfl,hw⟩
 replace hw:=hw.symm
 subst hw
 rw [hd]
 clear hd
 go_wp2_with fail
 refine (drawVotesOf_any a cap zs _ h hu hle).mono ?_
 rintro e w2 ⟨q,rfl,hn,oq,hb0⟩
 have rX:=instK.own_rd oq
 obtain ⟨Xh,Xb,Xbs,Xr,Xrs,Xd,Xds⟩:=q
 obtain ⟨X1,X4,rfl⟩:∃ a c,Xb=.slice a Xbs.length c:=oq.1.shape
 obtain ⟨X2,X5,rfl⟩:∃ a c,Xr=.slice a Xrs.length c:=oq.2.1.shape
 obtain ⟨X3,X6,rfl⟩:∃ a c,Xd=.slice a Xds.length c:=oq.2.2.shape
 have hlX:InstQ.n (⟨Xh,.slice X1 Xbs.length X4,Xbs,.slice X2 Xrs.length X5,Xrs,.slice X3 Xds.length X6,Xds⟩:InstQ)≤1048576:=by omega
 have hn0:=hn
 have hnx0:=inst_ne (⟨Xh,.slice X1 Xbs.length X4,Xbs,.slice X2 Xrs.length X5,Xrs,.slice X3 Xds.length X6,Xds⟩:InstQ)
 clear hn oq
 have hiv:=fun w hG h=>implVotesOf_any (⟨Xh,.slice X1 Xbs.length X4,Xbs,.slice X2 Xrs.length X5,Xrs,.slice X3 Xds.length X6,Xds⟩:InstQ) w hG h hlX
 have hsv:=fun w h=>specVotesOf_any (⟨Xh,.slice X1 Xbs.length X4,Xbs,.slice X2 Xrs.length X5,Xrs,.slice X3 Xds.length X6,Xds⟩:InstQ) w h hlX
 have hAL:insF (InstQ.e (⟨Xh,.slice X1 Xbs.length X4,Xbs,.slice X2 Xrs.length X5,Xrs,.slice X3 Xds.length X6,Xds⟩:InstQ))=0→_:=fun h0=>all_laid h0
 have hvl:=voL_len (InstQ.e (⟨Xh,.slice X1 Xbs.length X4,Xbs,.slice X2 Xrs.length X5,Xrs,.slice X3 Xds.length X6,Xds⟩:InstQ))
 have hvi:insF (InstQ.e (⟨Xh,.slice X1 Xbs.length X4,Xbs,.slice X2 Xrs.length X5,Xrs,.slice X3 Xds.length X6,Xds⟩:InstQ))=0→voL (InstQ.e (⟨Xh,.slice X1 Xbs.length X4,Xbs,.slice X2 Xrs.length X5,Xrs,.slice X3 Xds.length X6,Xds⟩:InstQ))=vtI (InstQ.e (⟨Xh,.slice X1 Xbs.length X4,Xbs,.slice X2 Xrs.length X5,Xrs,.slice X3 Xds.length X6,Xds⟩:InstQ)):=fun h0=>if_pos h0
 have HBARE:Hid (∀ (vr vd:Value) (rs:List RoundQ) (ds:List Int) (nh:Bool) (nv:Value) (nbs:List TxnQ),InstQ.e ⟨nh,nv,nbs,vr,rs,vd,ds⟩=newE→InstQ.e ⟨Xh,.slice X1 Xbs.length X4,Xbs,vr,rs,vd,ds⟩=⟨(InstQ.e (⟨Xh,.slice X1 Xbs.length X4,Xbs,.slice X2 Xrs.length X5,Xrs,.slice X3 Xds.length X6,Xds⟩:InstQ)).has,(InstQ.e (⟨Xh,.slice X1 Xbs.length X4,Xbs,.slice X2 Xrs.length X5,Xrs,.slice X3 Xds.length X6,Xds⟩:InstQ)).batch,[opn3],[3,3,3]⟩):=fun vr vd rs ds nh nv nbs h9=>by
  simp only [InstQ.e,newE,InstE.mk.injEq] at h9 ⊢
  exact ⟨trivial,trivial,h9.2.2.1,h9.2.2.2⟩
 dsimp only at hiv hsv
 generalize voL (InstQ.e (⟨Xh,.slice X1 Xbs.length X4,Xbs,.slice X2 Xrs.length X5,Xrs,.slice X3 Xds.length X6,Xds⟩:InstQ))=XS at *
 generalize insF (InstQ.e (⟨Xh,.slice X1 Xbs.length X4,Xbs,.slice X2 Xrs.length X5,Xrs,.slice X3 Xds.length X6,Xds⟩:InstQ))=CX at *
 generalize InstQ.e (⟨Xh,.slice X1 Xbs.length X4,Xbs,.slice X2 Xrs.length X5,Xrs,.slice X3 Xds.length X6,Xds⟩:InstQ)=ex at *
 have HAL:Hid _:=hAL
 have HVI:Hid _:=hvi
 have HSV:Hid _:=hsv
 have hnX:InstE.n ex≤1000:=by rw [← hnx0];exact hn0
 clear hAL hvi hsv hlX hnx0 hn0
 have B3:=Blk.new w2 28 #[.bool Xh,.slice X1 Xbs.length X4,.slice X2 Xrs.length X5,.slice X3 Xds.length X6]
 have hbA:Below w2.heap.size w2 (w2.alloc (.cells #[.bool Xh,.slice X1 Xbs.length X4,.slice X2 Xrs.length X5,.slice X3 Xds.length X6] 28)):=by go_grown
 replace rX:=instK.rd_below rX hbA
 replace hb0:=hb0.trans (hbA.mono hb0.size)
 clear hbA
 obtain ⟨p0,p1,p2,p3⟩:=B3.cel4
 go_wp2_with fail
 clear p0 p1 p2 p3
 generalize w2.alloc (.cells #[.bool Xh,.slice X1 Xbs.length X4,.slice X2 Xrs.length X5,.slice X3 Xds.length X6] 28)=W2 at *
 refine (hiv W2 (hG.r.below hb0) rX).mono ?_
 rintro e w3 ⟨va,vc,rfl,rV,hb⟩
 replace rV:=World.ownsRow.mono rV (base' := w.heap.size) hb0.size
 replace B3:=B3.below hb
 replace rX:=instK.rd_below rX hb
 replace hb0:=hb0.trans (hb.mono hb0.size)
 clear hb
 clear hiv
 have B4:=Blk.new w3 32 #[.int .i64 CX,.slice va XS.length vc]
 have hbA:Below w3.heap.size w3 (w3.alloc (.cells #[.int .i64 CX,.slice va XS.length vc] 32)):=by go_grown
 replace B3:=B3.below hbA
 replace rX:=instK.rd_below rX hbA
 replace rV:=own_below rV hbA
 replace hb0:=hb0.trans (hbA.mono hb0.size)
 clear hbA
 go_wp2_with fail
 generalize w3.alloc (.cells #[.int .i64 CX,.slice va XS.length vc] 32)=W3 at *
 have h3:Row .u8 W3 a zs:=fun i hi=>by
  obtain ⟨b',off,e1,e2,e3⟩:=h i hi
  exact ⟨b',off,e1,Nat.lt_of_lt_of_le e2 hb0.size,cellB e3 hb0⟩
 refine (drawLayVotes_any a cap zs W3 h3 hu hle).mono ?_
 rintro e w4 ⟨qy,la,lc,L,rfl,hlY,oy,rL,hL,hb⟩
 replace rL:=World.ownsRow.mono rL (base' := w.heap.size) hb0.size
 have rY:=instK.own_rd oy
 clear h3 h hu
 replace B3:=B3.below hb
 replace B4:=B4.below hb
 replace rX:=instK.rd_below rX hb
 replace rV:=own_below rV hb
 replace hb0:=hb0.trans (hb.mono hb0.size)
 clear hb
 obtain ⟨Yh,Yb,Ybs,Yr,Yrs,Yd,Yds⟩:=qy
 obtain ⟨Y1,Y4,rfl⟩:∃ a c,Yb=.slice a Ybs.length c:=oy.1.shape
 obtain ⟨Y2,Y5,rfl⟩:∃ a c,Yr=.slice a Yrs.length c:=oy.2.1.shape
 obtain ⟨Y3,Y6,rfl⟩:∃ a c,Yd=.slice a Yds.length c:=oy.2.2.shape
 clear oy
 have hil:=fun w hG h hV=>implLayVotes_any (⟨Yh,.slice Y1 Ybs.length Y4,Ybs,.slice Y2 Yrs.length Y5,Yrs,.slice Y3 Yds.length Y6,Yds⟩:InstQ) la lc L w hG h hlY hV hL
 have hsl:=fun w h hV=>specLayVotes_any (⟨Yh,.slice Y1 Ybs.length Y4,Ybs,.slice Y2 Yrs.length Y5,Yrs,.slice Y3 Yds.length Y6,Yds⟩:InstQ) la lc L w h hlY hV hL
 have hlz:lvC (InstQ.e (⟨Yh,.slice Y1 Ybs.length Y4,Ybs,.slice Y2 Yrs.length Y5,Yrs,.slice Y3 Yds.length Y6,Yds⟩:InstQ)) L=0→insF (lvI (InstQ.e (⟨Yh,.slice Y1 Ybs.length Y4,Ybs,.slice Y2 Yrs.length Y5,Yrs,.slice Y3 Yds.length Y6,Yds⟩:InstQ)) L)=0:=fun h0=>lay_right h0
 dsimp only at hil hsl
 generalize lvC (InstQ.e (⟨Yh,.slice Y1 Ybs.length Y4,Ybs,.slice Y2 Yrs.length Y5,Yrs,.slice Y3 Yds.length Y6,Yds⟩:InstQ)) L=CL at *
 generalize lvI (InstQ.e (⟨Yh,.slice Y1 Ybs.length Y4,Ybs,.slice Y2 Yrs.length Y5,Yrs,.slice Y3 Yds.length Y6,Yds⟩:InstQ)) L=EL at *
 have HLZ:Hid _:=hlz
 have HSL:Hid _:=hsl
 clear hlz hsl hlY
 have B5:=Blk.new w4 28 #[.bool Yh,.slice Y1 Ybs.length Y4,.slice Y2 Yrs.length Y5,.slice Y3 Yds.length Y6]
 have hbA:Below w4.heap.size w4 (w4.alloc (.cells #[.bool Yh,.slice Y1 Ybs.length Y4,.slice Y2 Yrs.length Y5,.slice Y3 Yds.length Y6] 28)):=by go_grown
 replace B3:=B3.below hbA
 replace B4:=B4.below hbA
 replace rX:=instK.rd_below rX hbA
 replace rY:=instK.rd_below rY hbA
 replace rV:=own_below rV hbA
 replace rL:=own_below rL hbA
 replace hb0:=hb0.trans (hbA.mono hb0.size)
 clear hbA
 obtain ⟨p0,p1,p2,p3⟩:=B5.cel4
 go_wp2_with fail
 clear p0 p1 p2 p3
 generalize w4.alloc (.cells #[.bool Yh,.slice Y1 Ybs.length Y4,.slice Y2 Yrs.length Y5,.slice Y3 Yds.length Y6] 28)=W4 at *
 refine (hil W4 (hG.below hb0) rY (Lies.own rL)).mono ?_
 rintro e w5 ⟨ql,rfl,el,ol,_,_,hb⟩
 have rP:=instK.own_rd ol
 clear hil
 replace B3:=B3.below hb
 replace B4:=B4.below hb
 replace B5:=B5.below hb
 replace rX:=instK.rd_below rX hb
 replace rY:=instK.rd_below rY hb
 replace rV:=own_below rV hb
 replace rL:=own_below rL hb
 replace hb0:=hb0.trans (hb.mono hb0.size)
 clear hb
 obtain ⟨Ph,Pb,Pbs,Pr,Prs,Pd,Pds⟩:=ql
 obtain ⟨P1,P4,rfl⟩:∃ a c,Pb=.slice a Pbs.length c:=ol.1.shape
 obtain ⟨P2,P5,rfl⟩:∃ a c,Pr=.slice a Prs.length c:=ol.2.1.shape
 obtain ⟨P3,P6,rfl⟩:∃ a c,Pd=.slice a Pds.length c:=ol.2.2.shape
 clear ol
 have B7:=Blk.new w5 39 #[.int .i64 CL,.int .i64 0,.bool false,.bool false,.int .i64 0,.bool Ph,.slice P1 Pbs.length P4,.slice P2 Prs.length P5,.slice P3 Pds.length P6]
 have hbA:Below w5.heap.size w5 (w5.alloc (.cells #[.int .i64 CL,.int .i64 0,.bool false,.bool false,.int .i64 0,.bool Ph,.slice P1 Pbs.length P4,.slice P2 Prs.length P5,.slice P3 Pds.length P6] 39)):=by go_grown
 replace B3:=B3.below hbA
 replace B4:=B4.below hbA
 replace B5:=B5.below hbA
 replace rX:=instK.rd_below rX hbA
 replace rY:=instK.rd_below rY hbA
 replace rP:=instK.rd_below rP hbA
 replace rV:=own_below rV hbA
 replace rL:=own_below rL hbA
 replace hb0:=hb0.trans (hbA.mono hb0.size)
 clear hbA
 simp only [resC]
 go_wp2_with fail
 generalize w5.alloc (.cells #[.int .i64 CL,.int .i64 0,.bool false,.bool false,.int .i64 0,.bool Ph,.slice P1 Pbs.length P4,.slice P2 Prs.length P5,.slice P3 Pds.length P6] 39)=W5 at *
 have hAX:True:=trivial
 refine region_cut 28 27 (.bool false) (fun w' => Below W5.heap.size W5 w') ?_ ?_
 ·try simp only [List.append_eq,List.cons_append,List.nil_append]
  have t0:(CL != CL)=false:=by simp
  by_cases hCL:CL=0
  ·have hzI:=HLZ.out hCL
   have hlP:InstQ.n (⟨Ph,.slice P1 Pbs.length P4,Pbs,.slice P2 Prs.length P5,Prs,.slice P3 Pds.length P6,Pds⟩:InstQ)≤1048576:=by rw [inst_ne,el];have:=ins_small hzI;omega
   have hlT:∀ q:InstQ,q.e=EL→q.n≤1048576:=fun q hq=>by rw [inst_ne,hq];have:=ins_small hzI;omega
   have hif:=fun w hG h=>implInstanceFault_any (⟨Ph,.slice P1 Pbs.length P4,Pbs,.slice P2 Prs.length P5,Prs,.slice P3 Pds.length P6,Pds⟩:InstQ) w hG h hlP
   rw [el,hzI] at hif
   have hsi:=fun (q:InstQ) (hq:q.e=EL) w h h' => sameInst_true (⟨Ph,.slice P1 Pbs.length P4,Pbs,.slice P2 Prs.length P5,Prs,.slice P3 Pds.length P6,Pds⟩:InstQ) q w h h' hlP (hlT q hq) (el.trans hq.symm)
   dsimp only at hif hsi
   subst hCL
   have t1:((0:Int) != 0)=false:=by decide
   have t2:((0:Int) == 0)=true:=by decide
   clear hzI hlP hlT el HLZ hAX
   have hW:Below W5.heap.size W5 W5.drew:=(Below.refl _ _).drew
   have hnn:Nonempty (Lat W5):=⟨⟨W5,Below.refl _ _⟩⟩
   obtain ⟨y0,y1,y2,y3⟩:=B5.lts4
   have l0:=B7.lat 0 _ rfl
   have l5:=B7.lat 5 _ rfl
   have l6:=B7.lat 6 _ rfl
   have l7:=B7.lat 7 _ rfl
   have l8:=B7.lat 8 _ rfl
   refine text_begin (S:=fun w' => ∃ u:Lat W5,w' = u.val) (by kernel_rfl) ?_
   refine sgr [(0,4)] 24 (by kernel_rfl) ⟨⟨_,hW⟩,rfl⟩ ?_
   simp only [pkE]
   repeat go_big_quiet_step (fail)
   refine wpQuiet_nil ?_
   refine cla 4 (some 32) 9 #[.agg #[.bool Yh,.slice Y1 Ybs.length Y4,.slice Y2 Yrs.length Y5,.slice Y3 Yds.length Y6],.slice la L.length lc] 23 (by kernel_rfl) ?_
   refine (HSL.out _ (instK.rd_below rY hW) (Lies.own (own_below rL hW))).mono ?_
   rintro e w9 ⟨q9,rfl,e9,o9,_,_,hb9⟩
   replace hW:=hW.trans (hb9.mono hW.size)
   obtain ⟨Sh,Sb,Sbs,Sr,Srs,Sd,Sds⟩:=q9
   obtain ⟨S1,S4,rfl⟩:∃ a c,Sb=.slice a Sbs.length c:=o9.1.shape
   obtain ⟨S2,S5,rfl⟩:∃ a c,Sr=.slice a Srs.length c:=o9.2.1.shape
   obtain ⟨S3,S6,rfl⟩:∃ a c,Sd=.slice a Sds.length c:=o9.2.2.shape
   clear o9 e9
   simp only [resC]
   clear hb9
   refine ⟨_,rfl,⟨⟨_,hW⟩,rfl⟩,?_⟩
   simp only [Act.put,pjE]
   refine qta 5 (some 33) (.int .i64 0) 22 (by kernel_rfl) (fun u _=>by kernel_rfl) ⟨⟨_,hW⟩,rfl⟩ ?_
   simp only [Act.put,pjE]
   refine sgr [(6,8)] 14 (by kernel_rfl) ⟨⟨_,hW⟩,rfl⟩ ?_
   simp only [pkE]
   repeat go_big_quiet_step (fail)
   refine wpQuiet_nil ?_
   refine cla 14 (some 42) 10 #[.agg #[.bool Ph,.slice P1 Pbs.length P4,.slice P2 Prs.length P5,.slice P3 Pds.length P6]] 13 (by kernel_rfl) ?_
   refine (hif _ (hG.r.below (hb0.trans (hW.mono hb0.size))) (instK.rd_below rP hW)).mono ?_
   rintro e w9 ⟨rfl,hb9⟩
   replace hW:=hW.trans (hb9.mono hW.size)
   clear hb9
   refine ⟨_,rfl,⟨⟨_,hW⟩,rfl⟩,?_⟩
   simp only [Act.put,pjE]
   refine sgr [(15,6)] 7 (by kernel_rfl) ⟨⟨_,hW⟩,rfl⟩ ?_
   simp only [pkE]
   repeat go_big_quiet_step (fail)
   refine wpQuiet_nil ?_
   refine cla 21 (some 49) 9 #[.agg #[.bool Yh,.slice Y1 Ybs.length Y4,.slice Y2 Yrs.length Y5,.slice Y3 Yds.length Y6],.slice la L.length lc] 6 (by kernel_rfl) ?_
   refine (HSL.out _ (instK.rd_below rY hW) (Lies.own (own_below rL hW))).mono ?_
   rintro e w9 ⟨q8,rfl,e8,o8,_,_,hb9⟩
   replace hW:=hW.trans (hb9.mono hW.size)
   obtain ⟨Th,Tb,Tbs,Tr,Trs,Td,Tds⟩:=q8
   obtain ⟨T1,T4,rfl⟩:∃ a c,Tb=.slice a Tbs.length c:=o8.1.shape
   obtain ⟨T2,T5,rfl⟩:∃ a c,Tr=.slice a Trs.length c:=o8.2.1.shape
   obtain ⟨T3,T6,rfl⟩:∃ a c,Td=.slice a Tds.length c:=o8.2.2.shape
   have r8:=instK.own_rd o8
   clear o8
   simp only [resC]
   clear hb9
   refine ⟨_,rfl,⟨⟨_,hW⟩,rfl⟩,?_⟩
   simp only [Act.put,pjE]
   refine qta 22 (some 50) (.agg #[.bool Th,.slice T1 Tbs.length T4,.slice T2 Trs.length T5,.slice T3 Tds.length T6]) 5 (by kernel_rfl) (fun u _=>by kernel_rfl) ⟨⟨_,hW⟩,rfl⟩ ?_
   simp only [Act.put,pjE]
   refine cla 23 (some 51) 11 #[.agg #[.bool Ph,.slice P1 Pbs.length P4,.slice P2 Prs.length P5,.slice P3 Pds.length P6],.agg #[.bool Th,.slice T1 Tbs.length T4,.slice T2 Trs.length T5,.slice T3 Tds.length T6]] 4 (by kernel_rfl) ?_
   refine (hsi (⟨Th,.slice T1 Tbs.length T4,Tbs,.slice T2 Trs.length T5,Trs,.slice T3 Tds.length T6,Tds⟩:InstQ) e8 _ (instK.rd_below rP hW) r8).mono ?_
   rintro e w9 ⟨rfl,hb9⟩
   replace hW:=hW.trans (hb9.mono hW.size)
   clear hb9
   refine ⟨_,rfl,⟨⟨_,hW⟩,rfl⟩,?_⟩
   simp only [Act.put,pjE]
   refine sgr [(24,4)] 0 (by kernel_rfl) ⟨⟨_,hW⟩,rfl⟩ ?_
   simp only [pkE]
   repeat go_big_quiet_step (fail)
   refine wpQuiet_nil ?_
   refine text_end (by kernel_rfl) ?_
   clear hnn y0 y1 y2 y3 l0 l5 l6 l7 l8
   exact CutQ.mk rfl rfl rfl (Nat.le_of_ble_eq_true (by kernel_rfl)) hW
  ·have t2:(CL == 0)=false:=by simpa using hCL
   clear el HLZ hAX
   have hW:Below W5.heap.size W5 W5.drew:=(Below.refl _ _).drew
   have hnn:Nonempty (Lat W5):=⟨⟨W5,Below.refl _ _⟩⟩
   obtain ⟨y0,y1,y2,y3⟩:=B5.lts4
   have l0:=B7.lat 0 _ rfl
   have l5:=B7.lat 5 _ rfl
   have l6:=B7.lat 6 _ rfl
   have l7:=B7.lat 7 _ rfl
   have l8:=B7.lat 8 _ rfl
   refine text_begin (S:=fun w' => ∃ u:Lat W5,w' = u.val) (by kernel_rfl) ?_
   refine sgr [(0,4)] 24 (by kernel_rfl) ⟨⟨_,hW⟩,rfl⟩ ?_
   simp only [pkE]
   repeat go_big_quiet_step (fail)
   refine wpQuiet_nil ?_
   refine cla 4 (some 32) 9 #[.agg #[.bool Yh,.slice Y1 Ybs.length Y4,.slice Y2 Yrs.length Y5,.slice Y3 Yds.length Y6],.slice la L.length lc] 23 (by kernel_rfl) ?_
   refine (HSL.out _ (instK.rd_below rY hW) (Lies.own (own_below rL hW))).mono ?_
   rintro e w9 ⟨q9,rfl,e9,o9,_,_,hb9⟩
   replace hW:=hW.trans (hb9.mono hW.size)
   obtain ⟨Sh,Sb,Sbs,Sr,Srs,Sd,Sds⟩:=q9
   obtain ⟨S1,S4,rfl⟩:∃ a c,Sb=.slice a Sbs.length c:=o9.1.shape
   obtain ⟨S2,S5,rfl⟩:∃ a c,Sr=.slice a Srs.length c:=o9.2.1.shape
   obtain ⟨S3,S6,rfl⟩:∃ a c,Sd=.slice a Sds.length c:=o9.2.2.shape
   clear o9 e9
   simp only [resC]
   clear hb9
   refine ⟨_,rfl,⟨⟨_,hW⟩,rfl⟩,?_⟩
   simp only [Act.put,pjE]
   refine qta 5 (some 33) (.int .i64 CL) 22 (by kernel_rfl) (fun u _=>by kernel_rfl) ⟨⟨_,hW⟩,rfl⟩ ?_
   simp only [Act.put,pjE]
   refine sgr [(6,8)] 14 (by kernel_rfl) ⟨⟨_,hW⟩,rfl⟩ ?_
   simp only [pkE]
   repeat go_big_quiet_step (fail)
   refine wpQuiet_nil ?_
   refine ska 14 (some 42) 13 (by kernel_rfl) ⟨⟨_,hW⟩,rfl⟩ ?_
   simp only [Act.put,pjE]
   refine sgr [(15,6)] 7 (by kernel_rfl) ⟨⟨_,hW⟩,rfl⟩ ?_
   simp only [pkE]
   repeat go_big_quiet_step (fail)
   refine wpQuiet_nil ?_
   refine ska 21 (some 49) 6 (by kernel_rfl) ⟨⟨_,hW⟩,rfl⟩ ?_
   simp only [Act.put,pjE]
   refine sgr [(22,1)] 5 (by kernel_rfl) ⟨⟨_,hW⟩,rfl⟩ ?_
   simp only [pkE]
   repeat go_big_quiet_step (fail)
   refine wpQuiet_nil ?_
   refine ska 23 (some 51) 4 (by kernel_rfl) ⟨⟨_,hW⟩,rfl⟩ ?_
   simp only [Act.put,pjE]
   refine sgr [(24,4)] 0 (by kernel_rfl) ⟨⟨_,hW⟩,rfl⟩ ?_
   simp only [pkE]
   repeat go_big_quiet_step (fail)
   refine wpQuiet_nil ?_
   refine text_end (by kernel_rfl) ?_
   clear hnn y0 y1 y2 y3 l0 l5 l6 l7 l8
   exact CutQ.mk rfl rfl rfl (Nat.le_of_ble_eq_true (by kernel_rfl)) hW
 rintro mid w6 hlen hW
 match mid,hlen with
 | mm0 :: mm1 :: mm2 :: mm3 :: mm4 :: mm5 :: mm6 :: mm7 :: mm8 :: mm9 :: mm10 :: mm11 :: mm12 :: mm13 :: mm14 :: mm15 :: mm16 :: mm17 :: mm18 :: mm19 :: mm20 :: mm21 :: mm22 :: mm23 :: mm24 :: mm25 :: mm26 :: [],_=>
 simp only [List.toList_toArray,List.take_succ_cons,List.take_zero,List.drop_succ_cons,List.drop_zero,List.cons_append,List.nil_append]
 replace B3:=B3.below hW
 replace B4:=B4.below hW
 replace rX:=instK.rd_below rX hW
 replace rV:=own_below rV hW
 replace hb0:=hb0.trans (hW.mono hb0.size)
 clear hW
 clear rY rL rP B5 B7 el HLZ HSL hAX hL
 obtain ⟨p0,p1⟩:=B4.cel2
 by_cases hCX:CX=0
 case neg=>
  have hCX' : (CX != 0)=true:=by simpa using hCX
  have tt:(CX == CX)=true:=by simp
  go_wp2_with fail
  clear p0 p1
  have hW:Below w6.heap.size w6 w6.drew:=(Below.refl _ _).drew
  have hnn:Nonempty (Lat w6):=⟨⟨w6,Below.refl _ _⟩⟩
  obtain ⟨x0,x1,x2,x3⟩:=B3.lts4
  obtain ⟨v0,v1⟩:=B4.lts2
  refine text_begin (S:=fun w' => ∃ u:Lat w6,w' = u.val) (by kernel_rfl) ?_
  refine sgr [(0,1),(3,2)] 4 (by kernel_rfl) ⟨⟨_,hW⟩,rfl⟩ ?_
  simp only [pkE]
  repeat go_big_quiet_step (fail)
  refine wpQuiet_nil ?_
  refine cla 1 (some 60) 12 #[.agg #[.bool Xh,.slice X1 Xbs.length X4,.slice X2 Xrs.length X5,.slice X3 Xds.length X6]] 3 (by kernel_rfl) ?_
  refine (HSV.out _ (instK.rd_below rX hW)).mono ?_
  rintro e w9 ⟨va9,vc9,rfl,_,hb9⟩
  replace hW:=hW.trans (hb9.mono hW.size)
  clear hb9
  refine ⟨_,rfl,⟨⟨_,hW⟩,rfl⟩,?_⟩
  simp only [Act.put,pjE]
  refine qta 2 (some 61) (.int .i64 CX) 2 (by kernel_rfl) (fun u _=>by kernel_rfl) ⟨⟨_,hW⟩,rfl⟩ ?_
  simp only [Act.put,pjE]
  refine sgr [(5,2)] 0 (by kernel_rfl) ⟨⟨_,hW⟩,rfl⟩ ?_
  simp only [pkE]
  repeat go_big_quiet_step (fail)
  refine wpQuiet_nil ?_
  refine text_end (by kernel_rfl) ?_
  replace hb0:=hb0.trans (hW.mono hb0.size)
  go_wp2
  go_ret
  exact ⟨rfl,hb0⟩
 subst hCX
 have hCX' : ((0:Int) != 0)=false:=by decide
 obtain ⟨T,hT0,hTv,hTL⟩:=HAL.out rfl
 have hXS:=HVI.out rfl
 have hL1:=hTL XS (fun v=>by rw [hXS]) (by omega)
 have hL2:=hTL XS.reverse (fun v=>by rw [List.mem_reverse,hXS]) (by rw [List.length_reverse];omega)
 have hVT:voL T=XS:=by rw [show voL T=vtI T from if_pos hT0,hTv,hXS]
 clear hTL HAL HVI HSV hXS hTv
 have hlTq:∀ q:InstQ,q.e=T→q.n≤1048576:=fun q hq=>by rw [inst_ne,hq];have:=ins_small hT0;omega
 have HTQ:Hid _:=hlTq
 have HL1:Hid _:=hL1
 have HL2:Hid _:=hL2
 have HVT:Hid (insF T=0∧voL T=XS):=⟨hT0,hVT⟩
 clear hlTq hL1 hL2 hVT hT0
 have hbE:Below w6.heap.size w6 (w6.alloc (.cells #[] 44)):=by go_grown
 have ho0:=World.ownsRow_lit (e:=44) (size:=4) w6 #[] 0 (Nat.le_refl _) (by decide) rfl
 obtain ⟨i0,hi,hz0,hz1,hz2⟩:=info_parts infoVote
 have q0:=(B4.below hbE).cell 0 _ rfl
 have q1:=(B4.below hbE).cell 1 _ rfl
 go_wp2_with fail
 clear p0 p1 q0 q1
 generalize w6.alloc (.cells #[] 44)=W6 at *
 go_loopw [8,9] (fun v j wr=>∃ (k:Nat) (R:List VoteD),k≤XS.length∧j=.int .i64 ((XS.length:Int) - 1 - (k:Int))∧Hid (R=XS.reverse.take k)∧R.length=k∧wr.ownsRow w6.heap.size 44 4 v R.length (voteCells R)∧Below w6.heap.size w6 wr) (fun _ j _=>(intOf j + 1).toNat)
 case atStart=>exact ⟨0,[],Nat.zero_le _,by go_num,(rfl:_=_),rfl,ho0,hbE⟩
 case round=>
  clear ho0 hbE
  obtain ⟨k,R,hk,rfl,HR,hRk,ho,hb⟩:=hrel
  have HRk:Hid (R.length=k):=hRk
  clear hRk
  obtain ⟨sa,sc,rfl⟩:=own_shape ho
  have B4r:=B4.below hb
  obtain ⟨p0,p1⟩:=B4r.cel2
  by_cases hlt:k < XS.length
  ·have hge:(0:Int)≤(XS.length:Int) - 1 - (k:Int):=by omega
   have hge' : ¬ ((XS.length:Int) - 1 - (k:Int) < 0):=by omega
   obtain ⟨m,hm⟩:∃ m:Nat,m=XS.length - 1 - k:=⟨_,rfl⟩
   have hmi:(XS.length:Int) - 1 - (k:Int)=(m:Int):=by omega
   have hml:m < XS.length:=by omega
   have hml' : (m:Int) < (XS.length:Int):=by omega
   have hnx0:(m:Int) - 1=(XS.length:Int) - 1 - ((k + 1:Nat):Int):=by omega
   have HNX:Hid ((m:Int) - 1=(XS.length:Int) - 1 - ((k + 1:Nat):Int)):=hnx0
   clear hnx0
   obtain ⟨vb,vo,rfl,hvs,hc0,hc1,hc2,hc3⟩:=VoteRow.at (xs:=XS) (VoteRow.below (Lies.own rV) hb) m hml
   have HR1:Hid (R ++ [XS.getD m voteNo]=XS.reverse.take (k + 1)):=by
    rw [HR.out,List.take_succ_eq_append_getElem (by rw [List.length_reverse];exact hlt)]
    congr 2
    rw [List.getElem_reverse,List.getD_eq_getElem?_getD,List.getElem?_eq_getElem hml]
    simp [hm]
   clear HR hm
   generalize XS.getD m voteNo=z at *
   rw [hmi] at hge hge' ⊢
   clear hmi
   have hbZ:Below wr.heap.size wr (wr.alloc (.cells #[.int .i64 z.kind,.int .i64 z.round,.int .i64 z.node,.int .i64 z.value] 44)):=by go_grown
   have hrow0:=own_below ho hbZ
   have hsrc:∀ j u,([.int .i64 z.kind,.int .i64 z.round,.int .i64 z.node,.int .i64 z.value]:List Value)[j]? = some u→(wr.alloc (.cells #[.int .i64 z.kind,.int .i64 z.round,.int .i64 z.node,.int .i64 z.value] 44)).cell? ((⟨wr.heap.size,0,none⟩:Addr).add j)=some u:=by
    intro j u hj;match j,hj with | 0,hj=>simp at hj;subst hj;simp [Addr.add] | 1,hj=>simp at hj;subst hj;simp [Addr.add] | 2,hj=>simp at hj;subst hj;simp [Addr.add] | 3,hj=>simp at hj;subst hj;simp [Addr.add]
   have hsw:=hb.size
   go_wp2_with (at_builtin;refine wpList_append_own_at _ rfl _ _ 30 rfl w6.heap.size 44 i0 (.agg #[.int .i64 0,.int .i64 0,.int .i64 0,.int .i64 0]) 4 32 Tryz.underlying30 hi hz0 hz1 hz2 rfl (by decide) _ R.length (voteCells R) rfl hrow0 ⟨wr.heap.size,0,none⟩ 1 1 [.int .i64 z.kind,.int .i64 z.round,.int .i64 z.node,.int .i64 z.value] rfl rfl hsrc ?c2 ?c3 ?c4 ?c5 ?_)
   case c2=>first | exact ⟨rfl,rfl,rfl,rfl⟩ | (intro u hu;simp at hu;rcases hu with rfl | rfl | rfl | rfl <;> rfl)
   case c3=>have:=HRk.out;unfold maxLen;omega
   case c4=>have:=HRk.out;omega
   case c5=>have:=hbZ.size;omega
   intro v' x8 hown hgrow hnil hat
   obtain ⟨a8,c8,rfl⟩:=own_shape hown
   have hb8:Below w6.heap.size w6 x8:=(hb.trans (hbZ.mono hb.size)).grown hgrow (by have:=hbZ.size;omega) (fun j hj=>by
    have:=hrow0.lt j hj
    omega)
   have hrow:x8.ownsRow w6.heap.size 44 4 (.slice a8 (R ++ [z]).length c8) (R ++ [z]).length (voteCells (R ++ [z])):=by
    rw [List.length_append,voteCells_append,voteCells_one]
    exact hown
   have hrl:(R ++ [z]).length=k + 1:=by have:=HRk.out;simp;exact this
   rw [show R.length + 1=(R ++ [z]).length from by simp]
   clear hown hgrow hnil hat hsrc hrow0 hbZ ho hb p0 p1 hc0 hc1 hc2 hc3
   generalize R ++ [z]=R1 at *
   go_wp2
   go_roundw
   case rel=>exact ⟨k + 1,R1,by omega,by first | exact congrArg (Value.int .i64) HNX.out | go_num | rfl,HR1,hrl,hrow,hb8⟩
   case measure=>simp [intOf] <;> omega
  ·have hkl:k=XS.length:=by omega
   subst hkl
   have hng:¬ ((0:Int)≤(XS.length:Int) - 1 - (XS.length:Int)):=by omega
   have hng' : (XS.length:Int) - 1 - (XS.length:Int) < 0:=by omega
   have HRR:Hid (R=XS.reverse):=by rw [HR.out,List.take_of_length_le (by rw [List.length_reverse];exact Nat.le_refl _)];trivial
   clear HR hlt hk p0 p1 B4r
   have rR:=World.ownsRow.mono ho (base' := w.heap.size) hb0.size
   clear ho
   replace B3:=B3.below hb
   replace B4:=B4.below hb
   replace rX:=instK.rd_below rX hb
   replace rV:=own_below rV hb
   replace hb0:=hb0.trans (hb.mono hb0.size)
   clear hb
   have hf2:=fieldIRL
   go_wp2_with fail
   refine (implNewInstance_any wr (hG.o.below hb0)).mono ?_
   rintro e w7 ⟨qn,rfl,en,on,_,_,hb⟩
   replace B3:=B3.below hb
   replace B4:=B4.below hb
   replace rX:=instK.rd_below rX hb
   replace rV:=own_below rV hb
   replace rR:=own_below rR hb
   replace hb0:=hb0.trans (hb.mono hb0.size)
   clear hb
   obtain ⟨Nh,Nb,Nbs,Nr,Nrs,Nd,Nds⟩:=qn
   obtain ⟨N1,N4,rfl⟩:∃ a c,Nb=.slice a Nbs.length c:=on.1.shape
   obtain ⟨N2,N5,rfl⟩:∃ a c,Nr=.slice a Nrs.length c:=on.2.1.shape
   obtain ⟨N3,N6,rfl⟩:∃ a c,Nd=.slice a Nds.length c:=on.2.2.shape
   have rN2:intK.At w7 (.slice N3 Nds.length N6) Nds:=(instK.own_rd on).2.2
   have rN1:roundK.At w7 (.slice N2 Nrs.length N5) Nrs:=(instK.own_rd on).2.1
   have hBR:InstQ.e (⟨Xh,.slice X1 Xbs.length X4,Xbs,.slice N2 Nrs.length N5,Nrs,.slice N3 Nds.length N6,Nds⟩:InstQ)=_:=HBARE.out _ _ _ _ _ _ _ en
   clear on en HBARE
   simp only [resC]
   have hbN:Below w7.heap.size w7 (w7.alloc (.cells #[.bool Nh,.slice N1 Nbs.length N4,.slice N2 Nrs.length N5,.slice N3 Nds.length N6] 28)):=by go_grown
   have hbM:Below w7.heap.size w7 (w7.alloc (.cells #[.bool Xh,.slice N1 Nbs.length N4,.slice N2 Nrs.length N5,.slice N3 Nds.length N6] 28)):=by go_grown
   have x0:=(B3.below hbN).cell 0 _ rfl
   have x1:=(B3.below hbM).cell 1 _ rfl
   clear hbN hbM
   have rbX:txnK.At w7 (.slice X1 Xbs.length X4) Xbs:=rX.1
   have hbA:Below w7.heap.size w7 (w7.alloc (.cells #[.bool Xh,.slice X1 Xbs.length X4,.slice N2 Nrs.length N5,.slice N3 Nds.length N6] 28)):=by go_grown
   have BN:=Blk.new w7 28 #[.bool Xh,.slice X1 Xbs.length X4,.slice N2 Nrs.length N5,.slice N3 Nds.length N6]
   have rB:instK.rd (w7.alloc (.cells #[.bool Xh,.slice X1 Xbs.length X4,.slice N2 Nrs.length N5,.slice N3 Nds.length N6] 28)) (⟨Xh,.slice X1 Xbs.length X4,Xbs,.slice N2 Nrs.length N5,Nrs,.slice N3 Nds.length N6,Nds⟩:InstQ):=instK.rd_below (show instK.rd w7 (⟨Xh,.slice X1 Xbs.length X4,Xbs,.slice N2 Nrs.length N5,Nrs,.slice N3 Nds.length N6,Nds⟩:InstQ) from ⟨rbX,rN1,rN2⟩) hbA
   clear rbX rN1 rN2
   replace B3:=B3.below hbA
   replace B4:=B4.below hbA
   replace rX:=instK.rd_below rX hbA
   replace rV:=own_below rV hbA
   replace rR:=own_below rR hbA
   replace hb0:=hb0.trans (hbA.mono hb0.size)
   clear hbA
   obtain ⟨p0,p1,p2,p3⟩:=BN.cel4
   obtain ⟨v0,v1⟩:=B4.cel2
   go_wp2_with fail
   clear x0 x1
   clear p0 p1 p2 p3
   clear v0 v1
   generalize w7.alloc (.cells #[.bool Xh,.slice X1 Xbs.length X4,.slice N2 Nrs.length N5,.slice N3 Nds.length N6] 28)=W7 at *
   have hlB:InstQ.n (⟨Xh,.slice X1 Xbs.length X4,Xbs,.slice N2 Nrs.length N5,Nrs,.slice N3 Nds.length N6,Nds⟩:InstQ)≤1048576:=bare_small hBR hnX
   have hla:=fun w hG h hV=>implLayVotes_any (⟨Xh,.slice X1 Xbs.length X4,Xbs,.slice N2 Nrs.length N5,Nrs,.slice N3 Nds.length N6,Nds⟩:InstQ) va vc XS w hG h hlB hV (by omega)
   rw [hBR] at hla
   rw [HL1.out.1,HL1.out.2.1] at hla
   refine (hla W7 (hG.below hb0) rB (Lies.own rV)).mono ?_
   rintro e w8 ⟨qa,rfl,ea,oa,_,_,hb⟩
   have rA:=instK.own_rd oa
   clear hla
   replace B3:=B3.below hb
   replace B4:=B4.below hb
   replace BN:=BN.below hb
   replace rX:=instK.rd_below rX hb
   replace rB:=instK.rd_below rB hb
   replace rV:=own_below rV hb
   replace rR:=own_below rR hb
   replace hb0:=hb0.trans (hb.mono hb0.size)
   clear hb
   obtain ⟨Ah,Ab,Abs,Ar,Ars,Ad,Ads⟩:=qa
   obtain ⟨A1,A4,rfl⟩:∃ a c,Ab=.slice a Abs.length c:=oa.1.shape
   obtain ⟨A2,A5,rfl⟩:∃ a c,Ar=.slice a Ars.length c:=oa.2.1.shape
   obtain ⟨A3,A6,rfl⟩:∃ a c,Ad=.slice a Ads.length c:=oa.2.2.shape
   clear oa
   simp only [resC]
   have BA:=Blk.new w8 39 #[.int .i64 0,.int .i64 0,.bool false,.bool false,.int .i64 0,.bool Ah,.slice A1 Abs.length A4,.slice A2 Ars.length A5,.slice A3 Ads.length A6]
   have hbA:Below w8.heap.size w8 (w8.alloc (.cells #[.int .i64 0,.int .i64 0,.bool false,.bool false,.int .i64 0,.bool Ah,.slice A1 Abs.length A4,.slice A2 Ars.length A5,.slice A3 Ads.length A6] 39)):=by go_grown
   replace B3:=B3.below hbA
   replace B4:=B4.below hbA
   replace BN:=BN.below hbA
   replace rX:=instK.rd_below rX hbA
   replace rB:=instK.rd_below rB hbA
   replace rA:=instK.rd_below rA hbA
   replace rV:=own_below rV hbA
   replace rR:=own_below rR hbA
   replace hb0:=hb0.trans (hbA.mono hb0.size)
   clear hbA
   obtain ⟨p0,p1,p2,p3⟩:=BN.cel4
   go_wp2_with fail
   clear p0 p1 p2 p3
   generalize w8.alloc (.cells #[.int .i64 0,.int .i64 0,.bool false,.bool false,.int .i64 0,.bool Ah,.slice A1 Abs.length A4,.slice A2 Ars.length A5,.slice A3 Ads.length A6] 39)=W8 at *
   have hlR:R.length≤1048576:=by rw [HRR.out,List.length_reverse];omega
   have hlb:=fun w hG h hV=>implLayVotes_any (⟨Xh,.slice X1 Xbs.length X4,Xbs,.slice N2 Nrs.length N5,Nrs,.slice N3 Nds.length N6,Nds⟩:InstQ) sa sc R w hG h hlB hV hlR
   rw [hBR] at hlb
   rw [HRR.out] at hlb
   rw [HL2.out.1,HL2.out.2.1] at hlb
   rw [← HRR.out] at hlb
   refine (hlb W8 (hG.below hb0) rB (Lies.own rR)).mono ?_
   rintro e w9 ⟨qb,rfl,eb,ob,_,_,hb⟩
   have rBb:=instK.own_rd ob
   clear hlb
   replace B3:=B3.below hb
   replace B4:=B4.below hb
   replace BN:=BN.below hb
   replace BA:=BA.below hb
   replace rX:=instK.rd_below rX hb
   replace rB:=instK.rd_below rB hb
   replace rA:=instK.rd_below rA hb
   replace rV:=own_below rV hb
   replace rR:=own_below rR hb
   replace hb0:=hb0.trans (hb.mono hb0.size)
   clear hb
   obtain ⟨Dh,Db,Dbs,Dr,Drs,Dd,Dds⟩:=qb
   obtain ⟨D1,D4,rfl⟩:∃ a c,Db=.slice a Dbs.length c:=ob.1.shape
   obtain ⟨D2,D5,rfl⟩:∃ a c,Dr=.slice a Drs.length c:=ob.2.1.shape
   obtain ⟨D3,D6,rfl⟩:∃ a c,Dd=.slice a Dds.length c:=ob.2.2.shape
   clear ob
   simp only [resC]
   have BD:=Blk.new w9 39 #[.int .i64 0,.int .i64 0,.bool false,.bool false,.int .i64 0,.bool Dh,.slice D1 Dbs.length D4,.slice D2 Drs.length D5,.slice D3 Dds.length D6]
   have hbA:Below w9.heap.size w9 (w9.alloc (.cells #[.int .i64 0,.int .i64 0,.bool false,.bool false,.int .i64 0,.bool Dh,.slice D1 Dbs.length D4,.slice D2 Drs.length D5,.slice D3 Dds.length D6] 39)):=by go_grown
   replace B3:=B3.below hbA
   replace B4:=B4.below hbA
   replace BN:=BN.below hbA
   replace BA:=BA.below hbA
   replace rX:=instK.rd_below rX hbA
   replace rB:=instK.rd_below rB hbA
   replace rA:=instK.rd_below rA hbA
   replace rBb:=instK.rd_below rBb hbA
   replace rV:=own_below rV hbA
   replace rR:=own_below rR hbA
   replace hb0:=hb0.trans (hbA.mono hb0.size)
   clear hbA
   have p0:=BA.cell 0 _ rfl
   have p5:=BA.cell 5 _ rfl
   have p6:=BA.cell 6 _ rfl
   have p7:=BA.cell 7 _ rfl
   have p8:=BA.cell 8 _ rfl
   obtain ⟨v0,v1⟩:=B4.cel2
   go_wp2_with fail
   clear p0 p5 p6 p7 p8
   clear v0 v1
   generalize w9.alloc (.cells #[.int .i64 0,.int .i64 0,.bool false,.bool false,.int .i64 0,.bool Dh,.slice D1 Dbs.length D4,.slice D2 Drs.length D5,.slice D3 Dds.length D6] 39)=W9 at *
   have hlA:InstQ.n (⟨Ah,.slice A1 Abs.length A4,Abs,.slice A2 Ars.length A5,Ars,.slice A3 Ads.length A6,Ads⟩:InstQ)≤1048576:=HTQ.out _ ea
   have hlc:=fun w hG h hV=>implLayVotes_any (⟨Ah,.slice A1 Abs.length A4,Abs,.slice A2 Ars.length A5,Ars,.slice A3 Ads.length A6,Ads⟩:InstQ) va vc XS w hG h hlA hV (by omega)
   rw [ea,HL1.out.2.2.1,HL1.out.2.2.2] at hlc
   refine (hlc W9 (hG.below hb0) rA (Lies.own rV)).mono ?_
   rintro e w10 ⟨qc,rfl,ec,oc,_,_,hb⟩
   have rC:=instK.own_rd oc
   clear hlc
   replace B3:=B3.below hb
   replace B4:=B4.below hb
   replace BN:=BN.below hb
   replace BA:=BA.below hb
   replace BD:=BD.below hb
   replace rX:=instK.rd_below rX hb
   replace rB:=instK.rd_below rB hb
   replace rA:=instK.rd_below rA hb
   replace rBb:=instK.rd_below rBb hb
   replace rV:=own_below rV hb
   replace rR:=own_below rR hb
   replace hb0:=hb0.trans (hb.mono hb0.size)
   clear hb
   obtain ⟨Ch,Cb,Cbs,Cr,Crs,Cd,Cds⟩:=qc
   obtain ⟨C1,C4,rfl⟩:∃ a c,Cb=.slice a Cbs.length c:=oc.1.shape
   obtain ⟨C2,C5,rfl⟩:∃ a c,Cr=.slice a Crs.length c:=oc.2.1.shape
   obtain ⟨C3,C6,rfl⟩:∃ a c,Cd=.slice a Cds.length c:=oc.2.2.shape
   clear oc
   simp only [resC]
   have BC:=Blk.new w10 39 #[.int .i64 0,.int .i64 0,.bool false,.bool false,.int .i64 0,.bool Ch,.slice C1 Cbs.length C4,.slice C2 Crs.length C5,.slice C3 Cds.length C6]
   have hbA:Below w10.heap.size w10 (w10.alloc (.cells #[.int .i64 0,.int .i64 0,.bool false,.bool false,.int .i64 0,.bool Ch,.slice C1 Cbs.length C4,.slice C2 Crs.length C5,.slice C3 Cds.length C6] 39)):=by go_grown
   replace B3:=B3.below hbA
   replace B4:=B4.below hbA
   replace BN:=BN.below hbA
   replace BA:=BA.below hbA
   replace BD:=BD.below hbA
   replace rX:=instK.rd_below rX hbA
   replace rB:=instK.rd_below rB hbA
   replace rA:=instK.rd_below rA hbA
   replace rBb:=instK.rd_below rBb hbA
   replace rC:=instK.rd_below rC hbA
   replace rV:=own_below rV hbA
   replace rR:=own_below rR hbA
   replace hb0:=hb0.trans (hbA.mono hb0.size)
   clear hbA
   obtain ⟨v0,v1⟩:=B4.cel2
   go_wp2_with fail
   clear v0 v1
   generalize w10.alloc (.cells #[.int .i64 0,.int .i64 0,.bool false,.bool false,.int .i64 0,.bool Ch,.slice C1 Cbs.length C4,.slice C2 Crs.length C5,.slice C3 Cds.length C6] 39)=W10 at *
   have hlD:InstQ.n (⟨Dh,.slice D1 Dbs.length D4,Dbs,.slice D2 Drs.length D5,Drs,.slice D3 Dds.length D6,Dds⟩:InstQ)≤1048576:=HTQ.out _ eb
   have hlC:InstQ.n (⟨Ch,.slice C1 Cbs.length C4,Cbs,.slice C2 Crs.length C5,Crs,.slice C3 Cds.length C6,Cds⟩:InstQ)≤1048576:=HTQ.out _ ec
   have hs1:=fun w h h' => sameInst_true (⟨Ah,.slice A1 Abs.length A4,Abs,.slice A2 Ars.length A5,Ars,.slice A3 Ads.length A6,Ads⟩:InstQ) (⟨Dh,.slice D1 Dbs.length D4,Dbs,.slice D2 Drs.length D5,Drs,.slice D3 Dds.length D6,Dds⟩:InstQ) w h h' hlA hlD (ea.trans eb.symm)
   have hs2:=fun w h h' => sameInst_true (⟨Ch,.slice C1 Cbs.length C4,Cbs,.slice C2 Crs.length C5,Crs,.slice C3 Cds.length C6,Cds⟩:InstQ) (⟨Ah,.slice A1 Abs.length A4,Abs,.slice A2 Ars.length A5,Ars,.slice A3 Ads.length A6,Ads⟩:InstQ) w h h' hlC hlA (ec.trans ea.symm)
   have hvo:=fun w hG h=>implVotesOf_any (⟨Ah,.slice A1 Abs.length A4,Abs,.slice A2 Ars.length A5,Ars,.slice A3 Ads.length A6,Ads⟩:InstQ) w hG h hlA
   rw [ea,HVT.out.1,HVT.out.2] at hvo
   have hsv:=fun (wa:Option Addr) (wc:Nat) w h h' => implSameVotes_any wa va wc vc XS XS w h h' (by omega) (by omega)
   rw [sameVs_refl] at hsv
   dsimp only at hs1 hs2 hvo
   have hl40:(XS.length:Int)≤40:=by omega
   have hd40:decide ((XS.length:Int)≤40)=true:=decide_eq_true hl40
   have t1:((0:Int) == 0)=true:=by decide
   clear HL1 HL2 HTQ HVT HRR hBR ea eb ec hlA hlD hlC hlB
   have hW:Below W10.heap.size W10 W10.drew:=(Below.refl _ _).drew
   have hnn:Nonempty (Lat W10):=⟨⟨W10,Below.refl _ _⟩⟩
   obtain ⟨v0,v1⟩:=B4.lts2
   have a0:=BA.lat 0 _ rfl
   have a5:=BA.lat 5 _ rfl
   have a6:=BA.lat 6 _ rfl
   have a7:=BA.lat 7 _ rfl
   have a8:=BA.lat 8 _ rfl
   have d0:=BD.lat 0 _ rfl
   have d5:=BD.lat 5 _ rfl
   have d6:=BD.lat 6 _ rfl
   have d7:=BD.lat 7 _ rfl
   have d8:=BD.lat 8 _ rfl
   have c0:=BC.lat 0 _ rfl
   have c5:=BC.lat 5 _ rfl
   have c6:=BC.lat 6 _ rfl
   have c7:=BC.lat 7 _ rfl
   have c8:=BC.lat 8 _ rfl
   refine text_begin (S:=fun w' => ∃ u:Lat W10,w' = u.val) (by kernel_rfl) ?_
   refine sgr [(0,2)] 41 (by kernel_rfl) ⟨⟨_,hW⟩,rfl⟩ ?_
   simp only [pkE]
   repeat go_big_quiet_step (fail)
   refine wpQuiet_nil ?_
   refine qta 2 (some 104) (.int .i64 (XS.length:Int)) 40 (by kernel_rfl) (fun u _=>by kernel_rfl) ⟨⟨_,hW⟩,rfl⟩ ?_
   simp only [Act.put,pjE]
   refine sgr [(3,21)] 19 (by kernel_rfl) ⟨⟨_,hW⟩,rfl⟩ ?_
   simp only [pkE]
   repeat go_big_quiet_step (fail)
   refine wpQuiet_nil ?_
   refine cla 24 (some 126) 11 #[.agg #[.bool Ah,.slice A1 Abs.length A4,.slice A2 Ars.length A5,.slice A3 Ads.length A6],.agg #[.bool Dh,.slice D1 Dbs.length D4,.slice D2 Drs.length D5,.slice D3 Dds.length D6]] 18 (by kernel_rfl) ?_
   refine (hs1 _ (instK.rd_below rA hW) (instK.rd_below rBb hW)).mono ?_
   rintro e w9 ⟨rfl,hb9⟩
   replace hW:=hW.trans (hb9.mono hW.size)
   clear hb9
   refine ⟨_,rfl,⟨⟨_,hW⟩,rfl⟩,?_⟩
   simp only [Act.put,pjE]
   refine sgr [(25,6)] 12 (by kernel_rfl) ⟨⟨_,hW⟩,rfl⟩ ?_
   simp only [pkE]
   repeat go_big_quiet_step (fail)
   refine wpQuiet_nil ?_
   refine cla 31 (some 133) 11 #[.agg #[.bool Ch,.slice C1 Cbs.length C4,.slice C2 Crs.length C5,.slice C3 Cds.length C6],.agg #[.bool Ah,.slice A1 Abs.length A4,.slice A2 Ars.length A5,.slice A3 Ads.length A6]] 11 (by kernel_rfl) ?_
   refine (hs2 _ (instK.rd_below rC hW) (instK.rd_below rA hW)).mono ?_
   rintro e w9 ⟨rfl,hb9⟩
   replace hW:=hW.trans (hb9.mono hW.size)
   clear hb9
   refine ⟨_,rfl,⟨⟨_,hW⟩,rfl⟩,?_⟩
   simp only [Act.put,pjE]
   refine sgr [(32,4),(38,2)] 5 (by kernel_rfl) ⟨⟨_,hW⟩,rfl⟩ ?_
   simp only [pkE]
   repeat go_big_quiet_step (fail)
   refine wpQuiet_nil ?_
   refine cla 36 (some 138) 6 #[.agg #[.bool Ah,.slice A1 Abs.length A4,.slice A2 Ars.length A5,.slice A3 Ads.length A6]] 4 (by kernel_rfl) ?_
   refine (hvo _ (hG.r.below (hb0.trans (hW.mono hb0.size))) (instK.rd_below rA hW)).mono ?_
   rintro e w9 ⟨wa,wc,rfl,rW,hb9⟩
   replace hW:=hW.trans (hb9.mono hW.size)
   clear hb9
   refine ⟨_,rfl,⟨⟨_,hW⟩,rfl⟩,?_⟩
   simp only [Act.put,pjE]
   refine qta 37 (some 139) (.slice wa XS.length wc) 3 (by kernel_rfl) (fun u _=>by kernel_rfl) ⟨⟨_,hW⟩,rfl⟩ ?_
   simp only [Act.put,pjE]
   refine cla 40 (some 142) 14 #[.slice wa XS.length wc,.slice va XS.length vc] 2 (by kernel_rfl) ?_
   refine (hsv wa wc _ (Lies.own rW) (Lies.own (own_below rV hW))).mono ?_
   rintro e w9 ⟨rfl,hb9⟩
   replace hW:=hW.trans (hb9.mono hW.size)
   clear hb9
   refine ⟨_,rfl,⟨⟨_,hW⟩,rfl⟩,?_⟩
   simp only [Act.put,pjE]
   refine sgr [(41,2)] 0 (by kernel_rfl) ⟨⟨_,hW⟩,rfl⟩ ?_
   simp only [pkE]
   repeat go_big_quiet_step (fail)
   refine wpQuiet_nil ?_
   refine text_end (by kernel_rfl) ?_
   replace hb0:=hb0.trans (hW.mono hb0.size)
   go_wp2
   go_ret
   exact ⟨rfl,hb0⟩

end Go.Proofs.YtdhdnppbgaikfaaGreatDoor
namespace Go.Proofs.YtdhdnppbgaikfaaGreatDoor
open Go.RowKit Go.ChangeShapes Go.WideShapes
set_option maxRecDepth 100000
theorem gOpn : Tryz.prog.globalNamed "loop.example/g00631/impl.openRow" = some 0 := by kernel_rfl

theorem tOpn:(Tryz.prog.globals[0]?).map (·.type)=some 51:=by kernel_rfl

theorem rul_of_two {W : World} (h : laidMetH Tryz.prog [("loop.example/g00631/impl.rules", Rows.laid_loop_example_g00631_impl_rules), ("loop.example/g00631/impl.openRow", Rows.laid_loop_example_g00631_impl_openRow)] W) : Rul W := by
 rw [MakeChecks.laidMetH_plain _ _ _ (by kernel_rfl)] at h
 obtain ⟨g,t,cs,fuel,p,hg,ht,hvar,hd⟩:=Lib.laidMet.reads h (List.mem_cons_self ..)
 obtain rfl:=Option.some.inj (gRul.symm.trans hg)
 obtain rfl:=Option.some.inj (tRul.symm.trans ht)
 unfold Rows.laid_loop_example_g00631_impl_rules at hd
 have e:∀ i,i < 5→∃ fuel' d q,_∧_:=fun i hi=>Lib.array_elem Tryz.underlying189 hd i hi
 rw [cRule] at e
 obtain ⟨f0,d0,q0,r0,s0⟩:=e 0 (by omega)
 obtain ⟨f1,d1,q1,r1,s1⟩:=e 1 (by omega)
 obtain ⟨f2,d2,q2,r2,s2⟩:=e 2 (by omega)
 obtain ⟨f3,d3,q3,r3,s3⟩:=e 3 (by omega)
 obtain ⟨f4,d4,q4,r4,s4⟩:=e 4 (by omega)
 simp only [List.getElem?_cons_zero,List.getElem?_cons_succ,Option.some.injEq] at r0 r1 r2 r3 r4
 subst r0 r1 r2 r3 r4
 have t0:=rule_cells s0
 have t1:=rule_cells s1
 have t2:=rule_cells s2
 have t3:=rule_cells s3
 have t4:=rule_cells s4
 have hall:cs.toList.take 35=rulL:=by
  rw [show 35=0 * 7 + 7 + 7 + 7 + 7 + 7 from rfl,List.take_add,List.take_add,List.take_add,List.take_add]
  rw [show 0 * 7 + 7 + 7 + 7 + 7=4 * 7 from rfl,show 0 * 7 + 7 + 7 + 7=3 * 7 from rfl,show 0 * 7 + 7 + 7=2 * 7 from rfl,show 0 * 7 + 7=1 * 7 from rfl,t1,t2,t3,t4]
  have t0' : List.take (1 * 7) cs.toList=_:=t0
  rw [t0']
  rfl
 intro i v hv
 have hi:i < 35:=by
  have:=(List.getElem?_eq_some_iff.1 hv).1
  simpa [rulL] using this
 rw [World.var?_cell hg hvar i,← Array.getElem?_toList]
 rw [← hall,List.getElem?_take,if_pos hi] at hv
 exact hv

theorem opn_of_two {W : World} (h : laidMetH Tryz.prog [("loop.example/g00631/impl.rules", Rows.laid_loop_example_g00631_impl_rules), ("loop.example/g00631/impl.openRow", Rows.laid_loop_example_g00631_impl_openRow)] W) : Opn W := by
 rw [MakeChecks.laidMetH_plain _ _ _ (by kernel_rfl)] at h
 obtain ⟨g,t,cs,fuel,p,hg,ht,hvar,hd⟩:=Lib.laidMet.reads h (List.mem_cons_of_mem _ (List.mem_singleton.2 rfl))
 obtain rfl:=Option.some.inj (gOpn.symm.trans hg)
 obtain rfl:=Option.some.inj (tOpn.symm.trans ht)
 unfold Rows.laid_loop_example_g00631_impl_openRow at hd
 intro j hj
 obtain ⟨f0,d0,q0,r0,s0⟩:=Lib.array_elem Tryz.underlying51 hd j hj
 rw [cI] at s0
 have hd0:d0=.lit (.int .i64 3):=by
  match j,hj with
  | 0,_=>simpa using r0.symm
  | 1,_=>simpa using r0.symm
  | 2,_=>simpa using r0.symm
 subst hd0
 obtain ⟨n0,e0,g0,_⟩:=DataW.trod_int Tryz.underlying2 s0
 have hn:n0=3:=by have:=g0.symm;simp at this;exact this.1
 subst hn
 rw [World.var?_cell hg hvar j,← Array.getElem?_toList]
 have:=congrArg (fun l=>l[0]?) e0
 simpa using this

theorem rulO_of_two {W : World} (h : laidMetH Tryz.prog [("loop.example/g00631/impl.rules", Rows.laid_loop_example_g00631_impl_rules), ("loop.example/g00631/impl.openRow", Rows.laid_loop_example_g00631_impl_openRow)] W) : RulO W := ⟨rul_of_two h, opn_of_two h⟩

end Go.Proofs.YtdhdnppbgaikfaaGreatDoor
