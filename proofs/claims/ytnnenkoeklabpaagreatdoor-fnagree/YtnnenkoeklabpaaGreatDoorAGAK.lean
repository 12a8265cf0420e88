/- Texts joined, with what the laws reach alone. -/
import Derived.Test.YtnnenkoeklabpaaGreatDoorAGAJ
import Derived.Deep.Slices
import Derived.Deep.Strs
import Derived.ProofKit
import Derived.Test.YtnnenkoeklabpaaGreatDoorRows
import Derived.Lib.LaidU8
import Derived.OpenVars
import Derived.LaidMore
import Derived.Stop.LaidErr
import Derived.Stop.Joined
set_option linter.unusedVariables false
set_option linter.unusedSimpArgs false
namespace Go.Proofs.YtnnenkoeklabpaaGreatDoor
open Go.RowKit
open Go.BigFrame
set_option maxRecDepth 100000
theorem cnt_pos14 {zs:List Int} {v:Int} (h:0 < cnt 7 zs v):∃ n,n < 3∧zs.getD n 0=v:=by
 obtain ⟨n,hn,e⟩:=(cnt7_pos _ _).1 h
 exact ⟨n,hn,e⟩

theorem both_dec {x:InstE} (R:Rgt x):both x.dec=false:=by
 unfold both
 rw [Bool.and_eq_false_iff]
 by_cases h0:0 < cnt 7 x.dec 0
 ·right
  refine decide_eq_false fun h1=>?_
  obtain ⟨n,hn,en⟩:=cnt_pos14 h0
  obtain ⟨m,hm,em⟩:=cnt_pos14 h1
  have a0:=R.en n hn
  have a1:=R.en m hm
  rw [en] at a0
  rw [em] at a1
  have b0:agr x.rounds 0=true:=by simpa [endR] using a0
  have b1:agr x.rounds 1=true:=by simpa [endR] using a1
  exact absurd (agree R (Or.inl rfl) (Or.inr rfl) b0 b1) (by decide)
 ·left
  exact decide_eq_false h0

theorem spl_right {x:InstE} (R:Rgt x):x.rounds.any splR=false:=by
 rw [List.any_eq_false]
 intro r hr
 obtain ⟨k,hk,rfl⟩:=List.getElem_of_mem hr
 have e:x.rounds[k]=x.rounds.getD k rnd0:=by simp [List.getD,hk]
 have hb:both x.rounds[k].pro=false:=by
  rw [e]
  refine both_no (rep:=(x.rounds.getD k rnd0).rep) fun m hm=>?_
  rcases pro_may (R.pro k hk m hm) with h | h
  ·exact Or.inl h
  ·exact Or.inr h.2
 unfold splR
 rw [hb]
 decide

/-- Where there is no fault all is safe. -/
theorem safe_all (x:InstE):safE x=(insF x == 0):=by
 unfold safE
 by_cases h:insF x=0
 ·rw [spl_right (rgt_of h),both_dec (rgt_of h)]
  simp
 ·have e:(insF x == 0)=false:=by simpa using h
  rw [e]
  rfl

theorem oc_zero14 {x:InstE} (h:ocC x=0):insF x=0∧outV x.dec≠3∧ocV x=outV x.dec:=by
 unfold ocC at h
 by_cases h0:insF x=0
 ·rw [if_pos h0] at h
  by_cases h3:outV x.dec=3
  ·rw [if_pos h3] at h
   exact absurd h (by decide)
  ·refine ⟨h0,h3,?_⟩
   unfold ocV
   rw [if_pos h0,if_neg h3]
 ·rw [if_neg h0] at h
  exact absurd h h0

/-- Nobody decided otherwise. -/
theorem oc_dec {x:InstE} (h:ocC x=0):∀ z∈x.dec,z=3∨z=ocV x:=by
 obtain ⟨h0,h3,hv⟩:=oc_zero14 h
 have R:=rgt_of h0
 obtain ⟨v01,va⟩:=dec_agr R (outV_mem _ h3) h3
 intro z hz
 by_cases z3:z=3
 ·exact Or.inl z3
 ·obtain ⟨z01,za⟩:=dec_agr R hz z3
  right
  rw [hv]
  exact agree R z01 v01 za va

/-- What was decided was offered. -/
theorem oc_val {x:InstE} (h:ocC x=0):ocV x=0∨(ocV x=1∧x.has=true):=by
 obtain ⟨h0,h3,hv⟩:=oc_zero14 h
 have R:=rgt_of h0
 obtain ⟨v01,va⟩:=dec_agr R (outV_mem _ h3) h3
 rw [hv]
 rcases v01 with e | e
 ·exact Or.inl e
 ·refine Or.inr ⟨e,?_⟩
  cases hh:x.has with
  | true=>rfl
  | false=>
   rw [e] at va
   obtain ⟨k,hk,hq⟩:=agr_iff.1 va
   exact absurd (show 0 < cnt 7 (x.rounds.getD k rnd0).pro 1 by omega) (no_batch R hh k hk)

set_option maxRecDepth 100000 in
set_option maxHeartbeats 8000000 in
theorem drawSafeOf_any (a:Option Addr) (cap:Nat) (zs:List Int) (w:World) (h:Row .u8 w a zs) (hu:∀ i,0≤zs.getD i 0∧zs.getD i 0≤255) (hl:zs.length≤1048576) :
  Calls Tryz.prog 5 #[.slice a zs.length cap] w fun e w' => ∃ q:InstQ,e=.returned (.agg #[.bool q.has,q.vb,q.vr,q.vd])∧q.n≤1000∧instK.own w' q∧Below w.heap.size w w' := by
 have hb0:Below w.heap.size w (w.alloc (.cells #[.bool false,.slice none 0 0,.slice none 0 0,.slice none 0 0] 28)):=by go_grown
 have R0:=Blk.new w 28 #[.bool false,.slice none 0 0,.slice none 0 0,.slice none 0 0]
 have hW1:w.heap.size < (w.alloc (.cells #[.bool false,.slice none 0 0,.slice none 0 0,.slice none 0 0] 28)).heap.size:=by simp
 have hby:∀ i,i < zs.length→∃ b' off,a=some ⟨b',off,none⟩∧b' < w.heap.size∧(w.alloc (.cells #[.bool false,.slice none 0 0,.slice none 0 0,.slice none 0 0] 28)).cell? ⟨b',off + i,none⟩=some (.int .u8 (zs.getD i 0)):=fun i hi=>by
  obtain ⟨b',off,e1,e2,e3⟩:=h i hi
  exact ⟨b',off,e1,e2,cellB e3 hb0⟩
 go_enter Tryz.func5,Tryz.ntmps5
 go_wp2_with fail
 generalize w.alloc (.cells #[.bool false,.slice none 0 0,.slice none 0 0,.slice none 0 0] 28)=W at *
 refine (source_any w.heap.size a cap zs W hb0.size hl hu hby).mono ?_
 rintro e x1 ⟨rfl,hS,hb1⟩
 replace R0:=R0.below hb1
 replace hb0:=hb0.trans (hb1.mono hb0.size)
 generalize hbb:W.heap.size=b at *
 clear hb1 hby
 obtain ⟨B,HB⟩:∃ B,Hid (w.heap.size=B):=⟨_,rfl⟩
 rw [HB.out] at hS
 clear hbb
 go_wp2_with fail
 refine (l6Bent_any B b 0 x1 hS (by omega)).mono ?_
 rintro e x2 ⟨q,rfl,hn,oq,nq,gq,hSn,hgn⟩
 have hx1:=hS.lt
 have hU:Out [b] _ _:=Out.of_grown hgn
 replace R0:=R0.outs hU (fun hk=>by simp only [List.mem_singleton] at hk;omega)
 replace hb0:=Out.keep hb0 hU hb0.size (fun k hk=>by simp only [List.mem_singleton] at hk;omega)
 have hsz:=hU.size
 replace hS:=hSn
 clear hSn hgn hU
 obtain ⟨ch,cb,cbs,cr,crs,cd,cds⟩:=q
 obtain ⟨c1,c4,rfl⟩:∃ a c,cb=.slice a cbs.length c:=oq.1.shape
 obtain ⟨c2,c5,rfl⟩:∃ a c,cr=.slice a crs.length c:=oq.2.1.shape
 obtain ⟨c3,c6,rfl⟩:∃ a c,cd=.slice a cds.length c:=oq.2.2.shape
 have Rr:=R0.row #[.bool ch,.slice c1 cbs.length c4,.slice c2 crs.length c5,.slice c3 cds.length c6]
 have hU:=out_row x2 w.heap.size #[.bool ch,.slice c1 cbs.length c4,.slice c2 crs.length c5,.slice c3 cds.length c6]
 have hb9:=below_row hb0 (g:=w.heap.size) (Nat.le_refl _) #[.bool ch,.slice c1 cbs.length c4,.slice c2 crs.length c5,.slice c3 cds.length c6]
 have oz:=instK.own_out oq hU (fun k hk=>by have:=gq k hk;simp only [List.mem_singleton];omega)
 have hsr:(Tryz.prog.info? 28).map (·.size)=some (#[.bool ch,.slice c1 cbs.length c4,.slice c2 crs.length c5,.slice c3 cds.length c6]:Array Value).size:=by kernel_rfl
 go_wp2_with (refine st_row (by kernel_rfl) 28 _ _ rfl _ #[.bool ch,.slice c1 cbs.length c4,.slice c2 crs.length c5,.slice c3 cds.length c6] rfl rfl 28 _ R0 hsr rfl (by simp [Value.oneCell']) ?_)
 obtain ⟨r0,r1,r2,r3⟩:=Rr.cel4
 exact bodyPost_ret (v:=.agg #[.bool ch,.slice c1 cbs.length c4,.slice c2 crs.length c5,.slice c3 cds.length c6]) (by simp [results,Tryz.results5,go_sem,r0,r1,r2,r3]) rfl ⟨(⟨ch,.slice c1 cbs.length c4,cbs,.slice c2 crs.length c5,crs,.slice c3 cds.length c6,cds⟩:InstQ),rfl,hn,oz,hb9⟩

set_option maxRecDepth 100000 in
set_option maxHeartbeats 8000000 in
theorem drawOutcomeOf_any (a:Option Addr) (cap:Nat) (zs:List Int) (w:World) (h:Row .u8 w a zs) (hu:∀ i,0≤zs.getD i 0∧zs.getD i 0≤255) (hl:zs.length≤1048576) :
  Calls Tryz.prog 6 #[.slice a zs.length cap] w fun e w' => ∃ q:InstQ,e=.returned (.agg #[.bool q.has,q.vb,q.vr,q.vd])∧q.n≤1000∧instK.own w' q∧Below w.heap.size w w' := by
 have hb0:Below w.heap.size w (w.alloc (.cells #[.bool false,.slice none 0 0,.slice none 0 0,.slice none 0 0] 28)):=by go_grown
 have R0:=Blk.new w 28 #[.bool false,.slice none 0 0,.slice none 0 0,.slice none 0 0]
 have hW1:w.heap.size < (w.alloc (.cells #[.bool false,.slice none 0 0,.slice none 0 0,.slice none 0 0] 28)).heap.size:=by simp
 have hby:∀ i,i < zs.length→∃ b' off,a=some ⟨b',off,none⟩∧b' < w.heap.size∧(w.alloc (.cells #[.bool false,.slice none 0 0,.slice none 0 0,.slice none 0 0] 28)).cell? ⟨b',off + i,none⟩=some (.int .u8 (zs.getD i 0)):=fun i hi=>by
  obtain ⟨b',off,e1,e2,e3⟩:=h i hi
  exact ⟨b',off,e1,e2,cellB e3 hb0⟩
 go_enter Tryz.func6,Tryz.ntmps6
 go_wp2_with fail
 generalize w.alloc (.cells #[.bool false,.slice none 0 0,.slice none 0 0,.slice none 0 0] 28)=W at *
 refine (source_any w.heap.size a cap zs W hb0.size hl hu hby).mono ?_
 rintro e x1 ⟨rfl,hS,hb1⟩
 replace R0:=R0.below hb1
 replace hb0:=hb0.trans (hb1.mono hb0.size)
 generalize hbb:W.heap.size=b at *
 clear hb1 hby
 obtain ⟨B,HB⟩:∃ B,Hid (w.heap.size=B):=⟨_,rfl⟩
 rw [HB.out] at hS
 clear hbb
 go_wp2_with fail
 refine (l6Bent_any B b 0 x1 hS (by omega)).mono ?_
 rintro e x2 ⟨q,rfl,hn,oq,nq,gq,hSn,hgn⟩
 have hx1:=hS.lt
 have hU:Out [b] _ _:=Out.of_grown hgn
 replace R0:=R0.outs hU (fun hk=>by simp only [List.mem_singleton] at hk;omega)
 replace hb0:=Out.keep hb0 hU hb0.size (fun k hk=>by simp only [List.mem_singleton] at hk;omega)
 have hsz:=hU.size
 replace hS:=hSn
 clear hSn hgn hU
 obtain ⟨ch,cb,cbs,cr,crs,cd,cds⟩:=q
 obtain ⟨c1,c4,rfl⟩:∃ a c,cb=.slice a cbs.length c:=oq.1.shape
 obtain ⟨c2,c5,rfl⟩:∃ a c,cr=.slice a crs.length c:=oq.2.1.shape
 obtain ⟨c3,c6,rfl⟩:∃ a c,cd=.slice a cds.length c:=oq.2.2.shape
 have Rr:=R0.row #[.bool ch,.slice c1 cbs.length c4,.slice c2 crs.length c5,.slice c3 cds.length c6]
 have hU:=out_row x2 w.heap.size #[.bool ch,.slice c1 cbs.length c4,.slice c2 crs.length c5,.slice c3 cds.length c6]
 have hb9:=below_row hb0 (g:=w.heap.size) (Nat.le_refl _) #[.bool ch,.slice c1 cbs.length c4,.slice c2 crs.length c5,.slice c3 cds.length c6]
 have oz:=instK.own_out oq hU (fun k hk=>by have:=gq k hk;simp only [List.mem_singleton];omega)
 have hsr:(Tryz.prog.info? 28).map (·.size)=some (#[.bool ch,.slice c1 cbs.length c4,.slice c2 crs.length c5,.slice c3 cds.length c6]:Array Value).size:=by kernel_rfl
 go_wp2_with (refine st_row (by kernel_rfl) 28 _ _ rfl _ #[.bool ch,.slice c1 cbs.length c4,.slice c2 crs.length c5,.slice c3 cds.length c6] rfl rfl 28 _ R0 hsr rfl (by simp [Value.oneCell']) ?_)
 obtain ⟨r0,r1,r2,r3⟩:=Rr.cel4
 exact bodyPost_ret (v:=.agg #[.bool ch,.slice c1 cbs.length c4,.slice c2 crs.length c5,.slice c3 cds.length c6]) (by simp [results,Tryz.results6,go_sem,r0,r1,r2,r3]) rfl ⟨(⟨ch,.slice c1 cbs.length c4,cbs,.slice c2 crs.length c5,crs,.slice c3 cds.length c6,cds⟩:InstQ),rfl,hn,oz,hb9⟩

set_option maxRecDepth 100000 in
set_option maxHeartbeats 16000000 in
theorem agreeFn (a:Option Addr) (cap:Nat) (zs:List Int) (w:World) (hG:Rul w) (h:Row .u8 w a zs) (hu:∀ i,0≤zs.getD i 0∧zs.getD i 0≤255) (hm:zs.length≤9223372036854775807) :
  Calls Tryz.prog 3 #[.slice a zs.length cap] w fun e w' => e=.returned (.bool true)∧Below w.heap.size w w' := by
 by_cases hle:zs.length≤1048576
 ·have hd:decide (1048576 < (zs.length:Int))=false:=decide_eq_false (by omega)
  go_enter Tryz.func3,Tryz.ntmps3
  go_wp2_with fail
  refine (lwBig_any a zs.length cap w hm).mono ?_
  rintro e w1 ⟨rfl,hw⟩
  replace hw:=hw.symm
  subst hw
  rw [hd]
  clear hd
  go_wp2_with fail
  refine (drawSafeOf_any a cap zs _ h hu hle).mono ?_
  rintro e w2 ⟨qX,rfl,hnX,oX,hb⟩
  obtain ⟨ch,cb,cbs,cr,crs,cd,cds⟩:=qX
  obtain ⟨c1,c4,rfl⟩:∃ a c,cb=.slice a cbs.length c:=oX.1.shape
  obtain ⟨c2,c5,rfl⟩:∃ a c,cr=.slice a crs.length c:=oX.2.1.shape
  obtain ⟨c3,c6,rfl⟩:∃ a c,cd=.slice a cds.length c:=oX.2.2.shape
  have hl:InstQ.n (⟨ch,.slice c1 cbs.length c4,cbs,.slice c2 crs.length c5,crs,.slice c3 cds.length c6,cds⟩:InstQ)≤1048576:=by omega
  have his0:=fun w hG h=>implSafeOf_any (⟨ch,.slice c1 cbs.length c4,cbs,.slice c2 crs.length c5,crs,.slice c3 cds.length c6,cds⟩:InstQ) w hG h hl
  have hss0:=fun w h=>specSafeOf_any (⟨ch,.slice c1 cbs.length c4,cbs,.slice c2 crs.length c5,crs,.slice c3 cds.length c6,cds⟩:InstQ) w h hl
  have hif:=fun w hG h=>implInstanceFault_any (⟨ch,.slice c1 cbs.length c4,cbs,.slice c2 crs.length c5,crs,.slice c3 cds.length c6,cds⟩:InstQ) w hG h hl
  rw [safe_all] at his0 hss0
  have his:=his0
  have hss:=hss0
  clear his0 hss0
  dsimp only at his hss hif
  generalize insF (InstQ.e (⟨ch,.slice c1 cbs.length c4,cbs,.slice c2 crs.length c5,crs,.slice c3 cds.length c6,cds⟩:InstQ))=F at *
  obtain ⟨S,hS⟩:∃ S,(F == 0)=S:=⟨_,rfl⟩
  rw [hS] at his hss
  have B3:=Blk.new w2 28 #[.bool ch,.slice c1 cbs.length c4,.slice c2 crs.length c5,.slice c3 cds.length c6]
  have hbA:Below w2.heap.size w2 (w2.alloc (.cells #[.bool ch,.slice c1 cbs.length c4,.slice c2 crs.length c5,.slice c3 cds.length c6] 28)):=by go_grown
  have rX:=instK.rd_below (instK.own_rd oX) hbA
  replace hb:=hb.trans (hbA.mono hb.size)
  clear hbA oX
  go_wp2_with fail
  generalize w2.alloc (.cells #[.bool ch,.slice c1 cbs.length c4,.slice c2 crs.length c5,.slice c3 cds.length c6] 28)=W2 at *
  refine (drawOutcomeOf_any a cap zs W2 (h.below hb) hu hle).mono ?_
  rintro e w3 ⟨qY,rfl,hnY,oY,hb3⟩
  clear h hu
  obtain ⟨dh,db,dbs,dr,drs,dd,dds⟩:=qY
  obtain ⟨d1,d4,rfl⟩:∃ a c,db=.slice a dbs.length c:=oY.1.shape
  obtain ⟨d2,d5,rfl⟩:∃ a c,dr=.slice a drs.length c:=oY.2.1.shape
  obtain ⟨d3,d6,rfl⟩:∃ a c,dd=.slice a dds.length c:=oY.2.2.shape
  have hlY:InstQ.n (⟨dh,.slice d1 dbs.length d4,dbs,.slice d2 drs.length d5,drs,.slice d3 dds.length d6,dds⟩:InstQ)≤1048576:=by omega
  have hio:=fun w hG h=>implOutcome_any (⟨dh,.slice d1 dbs.length d4,dbs,.slice d2 drs.length d5,drs,.slice d3 dds.length d6,dds⟩:InstQ) w hG h hlY
  have hso:=fun w h=>specOutcome_any (⟨dh,.slice d1 dbs.length d4,dbs,.slice d2 drs.length d5,drs,.slice d3 dds.length d6,dds⟩:InstQ) w h hlY
  have HD:Hid (ocC (InstQ.e (⟨dh,.slice d1 dbs.length d4,dbs,.slice d2 drs.length d5,drs,.slice d3 dds.length d6,dds⟩:InstQ))=0→∀ z∈dds,z=3∨z=ocV (InstQ.e (⟨dh,.slice d1 dbs.length d4,dbs,.slice d2 drs.length d5,drs,.slice d3 dds.length d6,dds⟩:InstQ))):=fun h0=>oc_dec (x:=InstQ.e (⟨dh,.slice d1 dbs.length d4,dbs,.slice d2 drs.length d5,drs,.slice d3 dds.length d6,dds⟩:InstQ)) h0
  have HV:Hid (ocC (InstQ.e (⟨dh,.slice d1 dbs.length d4,dbs,.slice d2 drs.length d5,drs,.slice d3 dds.length d6,dds⟩:InstQ))=0→ocV (InstQ.e (⟨dh,.slice d1 dbs.length d4,dbs,.slice d2 drs.length d5,drs,.slice d3 dds.length d6,dds⟩:InstQ))=0∨(ocV (InstQ.e (⟨dh,.slice d1 dbs.length d4,dbs,.slice d2 drs.length d5,drs,.slice d3 dds.length d6,dds⟩:InstQ))=1∧dh=true)):=fun h0=>oc_val (x:=InstQ.e (⟨dh,.slice d1 dbs.length d4,dbs,.slice d2 drs.length d5,drs,.slice d3 dds.length d6,dds⟩:InstQ)) h0
  have hdl:dds.length≤1048576:=by dsimp only [InstQ.n] at hlY;omega
  dsimp only at hio hso
  generalize ocC (InstQ.e (⟨dh,.slice d1 dbs.length d4,dbs,.slice d2 drs.length d5,drs,.slice d3 dds.length d6,dds⟩:InstQ))=OC at *
  generalize ocV (InstQ.e (⟨dh,.slice d1 dbs.length d4,dbs,.slice d2 drs.length d5,drs,.slice d3 dds.length d6,dds⟩:InstQ))=OV at *
  have B4:=Blk.new w3 28 #[.bool dh,.slice d1 dbs.length d4,.slice d2 drs.length d5,.slice d3 dds.length d6]
  have hbA:Below w3.heap.size w3 (w3.alloc (.cells #[.bool dh,.slice d1 dbs.length d4,.slice d2 drs.length d5,.slice d3 dds.length d6] 28)):=by go_grown
  replace hb:=hb.trans (hb3.mono hb.size)
  replace hb:=hb.trans (hbA.mono hb.size)
  replace rX:=instK.rd_below (instK.rd_below rX hb3) hbA
  replace B3:=(B3.below hb3).below hbA
  have rY:=instK.rd_below (instK.own_rd oY) hbA
  clear hb3 hbA oY
  obtain ⟨p0,p1,p2,p3⟩:=B4.cel4
  go_wp2_with fail
  clear p0 p1 p2 p3
  generalize w3.alloc (.cells #[.bool dh,.slice d1 dbs.length d4,.slice d2 drs.length d5,.slice d3 dds.length d6] 28)=W3 at *
  refine (hio W3 (hG.below hb) rY).mono ?_
  rintro e w4 ⟨rfl,hb4⟩
  have B8:=Blk.new w4 31 #[.int .i64 OC,.int .i64 OV]
  have hbA:Below w4.heap.size w4 (w4.alloc (.cells #[.int .i64 OC,.int .i64 OV] 31)):=by go_grown
  replace hb:=hb.trans (hb4.mono hb.size)
  replace hb:=hb.trans (hbA.mono hb.size)
  replace rX:=instK.rd_below (instK.rd_below rX hb4) hbA
  replace rY:=instK.rd_below (instK.rd_below rY hb4) hbA
  replace B3:=(B3.below hb4).below hbA
  replace B4:=(B4.below hb4).below hbA
  clear hb4 hbA hio
  go_wp2_with fail
  generalize w4.alloc (.cells #[.int .i64 OC,.int .i64 OV] 31)=W4 at *
  have hGX:=hG.below hb
  have t0:(S != S)=false:=by simp
  have hW:Below W4.heap.size W4 W4.drew:=(Below.refl _ _).drew
  have hnn:Nonempty (Lat W4):=⟨⟨W4,Below.refl _ _⟩⟩
  obtain ⟨mm0,mm1,mm2,mm3⟩:=B3.lts4
  refine text_begin (S:=fun w' => ∃ u:Lat W4,w' = u.val) (by kernel_rfl) ?_
  refine sgr [(0,1),(2,1)] 11 (by kernel_rfl) ⟨⟨_,hW⟩,rfl⟩ ?_
  simp only [pkE]
  repeat go_big_quiet_step (fail)
  refine wpQuiet_nil ?_
  refine cla 1 (some 16) 8 #[.agg #[.bool ch,.slice c1 cbs.length c4,.slice c2 crs.length c5,.slice c3 cds.length c6]] 10 (by kernel_rfl) ?_
  refine (his _ (hGX.below hW) (instK.rd_below rX hW)).mono ?_
  rintro e w9 ⟨rfl,hb9⟩
  replace hW:=hW.trans (hb9.mono hW.size)
  clear hb9
  refine ⟨_,rfl,⟨⟨_,hW⟩,rfl⟩,?_⟩
  simp only [Act.put,pjE]
  refine cla 3 (some 18) 9 #[.agg #[.bool ch,.slice c1 cbs.length c4,.slice c2 crs.length c5,.slice c3 cds.length c6]] 9 (by kernel_rfl) ?_
  refine (hss _ (instK.rd_below rX hW)).mono ?_
  rintro e w9 ⟨rfl,hb9⟩
  replace hW:=hW.trans (hb9.mono hW.size)
  clear hb9
  refine ⟨_,rfl,⟨⟨_,hW⟩,rfl⟩,?_⟩
  simp only [Act.put,pjE]
  refine sgr [(4,3),(8,1)] 5 (by kernel_rfl) ⟨⟨_,hW⟩,rfl⟩ ?_
  simp only [pkE]
  repeat go_big_quiet_step (fail)
  refine wpQuiet_nil ?_
  refine cla 7 (some 22) 8 #[.agg #[.bool ch,.slice c1 cbs.length c4,.slice c2 crs.length c5,.slice c3 cds.length c6]] 4 (by kernel_rfl) ?_
  refine (his _ (hGX.below hW) (instK.rd_below rX hW)).mono ?_
  rintro e w9 ⟨rfl,hb9⟩
  replace hW:=hW.trans (hb9.mono hW.size)
  clear hb9
  refine ⟨_,rfl,⟨⟨_,hW⟩,rfl⟩,?_⟩
  simp only [Act.put,pjE]
  refine cla 9 (some 24) 10 #[.agg #[.bool ch,.slice c1 cbs.length c4,.slice c2 crs.length c5,.slice c3 cds.length c6]] 3 (by kernel_rfl) ?_
  refine (hif _ (hGX.below hW) (instK.rd_below rX hW)).mono ?_
  rintro e w9 ⟨rfl,hb9⟩
  replace hW:=hW.trans (hb9.mono hW.size)
  clear hb9
  refine ⟨_,rfl,⟨⟨_,hW⟩,rfl⟩,?_⟩
  simp only [Act.put,pjE]
  refine sgr [(10,3)] 0 (by kernel_rfl) ⟨⟨_,hW⟩,rfl⟩ ?_
  simp only [pkE]
  repeat go_big_quiet_step (fail)
  refine wpQuiet_nil ?_
  refine text_end (by kernel_rfl) ?_
  replace hb:=hb.trans (hW.mono hb.size)
  replace rY:=instK.rd_below rY hW
  replace B4:=B4.below hW
  replace B8:=B8.below hW
  clear mm0 mm1 mm2 mm3 hnn his hss hif rX B3 hGX t0 hS
  generalize w9=w5 at *
  clear hW
  have c80:=B8.cell 0 _ rfl
  by_cases hoc:OC=0
  case neg=>
   have hoc' : (OC != 0)=true:=by simpa using hoc
   go_wp2_with fail
   have t1:(OC == OC)=true:=by simp
   have hW:Below w5.heap.size w5 w5.drew:=(Below.refl _ _).drew
   have hnn:Nonempty (Lat w5):=⟨⟨w5,Below.refl _ _⟩⟩
   obtain ⟨nn0,nn1,nn2,nn3⟩:=B4.lts4
   have e0:=B8.lat 0 _ rfl
   refine text_begin (S:=fun w' => ∃ u:Lat w5,w' = u.val) (by kernel_rfl) ?_
   refine sgr [(0,1),(3,2)] 4 (by kernel_rfl) ⟨⟨_,hW⟩,rfl⟩ ?_
   simp only [pkE]
   repeat go_big_quiet_step (fail)
   refine wpQuiet_nil ?_
   refine cla 1 (some 32) 11 #[.agg #[.bool dh,.slice d1 dbs.length d4,.slice d2 drs.length d5,.slice d3 dds.length d6]] 3 (by kernel_rfl) ?_
   refine (hso _ (instK.rd_below rY hW)).mono ?_
   rintro e w9 ⟨rfl,hb9⟩
   replace hW:=hW.trans (hb9.mono hW.size)
   clear hb9
   refine ⟨_,rfl,⟨⟨_,hW⟩,rfl⟩,?_⟩
   simp only [Act.put,pjE]
   refine qta 2 (some 33) (.int .i64 OC) 2 (by kernel_rfl) (fun u _=>by kernel_rfl) ⟨⟨_,hW⟩,rfl⟩ ?_
   simp only [Act.put,pjE]
   refine sgr [(5,2)] 0 (by kernel_rfl) ⟨⟨_,hW⟩,rfl⟩ ?_
   simp only [pkE]
   repeat go_big_quiet_step (fail)
   refine wpQuiet_nil ?_
   refine text_end (by kernel_rfl) ?_
   replace hb:=hb.trans (hW.mono hb.size)
   go_wp2
   go_ret
   exact ⟨rfl,hb⟩
  case pos=>
   have HD' : Hid (∀ z∈dds,z=3∨z=OV):=HD.out hoc
   have HV' : Hid (OV=0∨(OV=1∧dh=true)):=HV.out hoc
   subst hoc
   clear HD HV hso
   go_wp2
   clear c80
   go_loopw [6] (fun j wr=>∃ k:Nat,k≤dds.length∧j=.int .i64 k∧Below w5.heap.size w5 wr) (fun j _=>dds.length - (intOf j).toNat)
   case atStart=>exact ⟨0,Nat.zero_le _,rfl,Below.refl _ _⟩
   case round=>
    obtain ⟨k,hk,rfl,hb6⟩:=hrel
    have B4r:=B4.below hb6
    have B8r:=B8.below hb6
    have p3:=B4r.cell 3 _ rfl
    by_cases hlt:k < dds.length
    ·obtain ⟨b',off,rfl,hbs,hc,_⟩:=(rY.2.2.below hb6).cell (by decide) k hlt
     have hz:wr.cell? ⟨b',off + k * 1 + 0,none⟩=some (.int .i64 dds[k]):=hc 0 _ rfl
     rw [Nat.mul_one,Nat.add_zero] at hz
     have hzz:=HD'.out dds[k] (List.getElem_mem hlt)
     clear hc
     generalize dds[k]=z at *
     have hlti:(k:Int) < (dds.length:Int):=by omega
     go_wp2_with fail
     clear p3
     by_cases z3:z=3
     ·subst z3
      have t3:((3:Int) != 3)=false:=by decide
      clear hzz
      have hW:Below wr.heap.size wr wr.drew:=(Below.refl _ _).drew
      have hnn:Nonempty (Lat wr):=⟨⟨wr,Below.refl _ _⟩⟩
      have mm3:=B4r.lat 3 _ rfl
      have cz:=lat_cell hz
      refine text_begin (S:=fun w' => ∃ u:Lat wr,w' = u.val) (by kernel_rfl) ?_
      refine sgr [(0,16)] 0 (by kernel_rfl) ⟨⟨_,hW⟩,rfl⟩ ?_
      simp only [pkE]
      repeat go_big_quiet_step (fail)
      refine wpQuiet_nil ?_
      refine text_end (by kernel_rfl) ?_
      replace hb6:=hb6.trans (hW.mono hb6.size)
      clear mm3 cz hnn hW hz B4r B8r
      go_wp2
      go_roundw
      case rel=>exact ⟨k + 1,by omega,by go_num,hb6⟩
      case measure=>simp [intOf];omega
     ·obtain rfl:z=OV:=hzz.resolve_left z3
      have t3:(z != 3)=true:=by simpa using z3
      have t4:(z != z)=false:=by simp
      clear hzz
      have hW:Below wr.heap.size wr wr.drew:=(Below.refl _ _).drew
      have hnn:Nonempty (Lat wr):=⟨⟨wr,Below.refl _ _⟩⟩
      have mm3:=B4r.lat 3 _ rfl
      have e1:=B8r.lat 1 _ rfl
      have cz:=lat_cell hz
      refine text_begin (S:=fun w' => ∃ u:Lat wr,w' = u.val) (by kernel_rfl) ?_
      refine sgr [(0,16)] 0 (by kernel_rfl) ⟨⟨_,hW⟩,rfl⟩ ?_
      simp only [pkE]
      repeat go_big_quiet_step (fail)
      refine wpQuiet_nil ?_
      refine text_end (by kernel_rfl) ?_
      replace hb6:=hb6.trans (hW.mono hb6.size)
      clear mm3 cz e1 hnn hW hz B4r B8r
      go_wp2
      go_roundw
      case rel=>exact ⟨k + 1,by omega,by go_num,hb6⟩
      case measure=>simp [intOf];omega
    ·have hkl:k=dds.length:=by omega
     subst hkl
     have hlti:¬ (dds.length:Int) < (dds.length:Int):=by omega
     have HX:=HV'.out
     have q1:=B8r.cell 1 _ rfl
     have q0:=B4r.cell 0 _ rfl
     clear HV' HD'
     by_cases h0:OV=0
     ·subst h0
      clear HX
      go_wp2
      go_ret
      exact ⟨rfl,hb.trans (hb6.mono hb.size)⟩
     ·obtain ⟨rfl,rfl⟩:=HX.resolve_left h0
      go_wp2
      go_ret
      exact ⟨rfl,hb.trans (hb6.mono hb.size)⟩
 ·have hd:decide (1048576 < (zs.length:Int))=true:=decide_eq_true (by omega)
  go_enter Tryz.func3,Tryz.ntmps3
  go_wp2_with fail
  refine (lwBig_any a zs.length cap w hm).mono ?_
  rintro e w1 ⟨rfl,hw⟩
  replace hw:=hw.symm
  subst hw
  rw [hd]
  go_wp2
  go_ret
  exact ⟨rfl,Below.refl _ _⟩

end Go.Proofs.YtnnenkoeklabpaaGreatDoor
namespace Go.Proofs.YtnnenkoeklabpaaGreatDoor
open Go.RowKit Go.Deep Go.ChangeShapes Go.WideShapes
set_option maxRecDepth 100000
end Go.Proofs.YtnnenkoeklabpaaGreatDoor
namespace Go.Proofs.YtnnenkoeklabpaaGreatDoor
open Go.RowKit Go.Deep Go.ChangeShapes Go.WideShapes
set_option maxRecDepth 100000
end Go.Proofs.YtnnenkoeklabpaaGreatDoor
namespace Go.Proofs.YtnnenkoeklabpaaGreatDoor
open Go.RowKit Go.Deep Go.ChangeShapes Go.WideShapes
set_option maxRecDepth 100000
end Go.Proofs.YtnnenkoeklabpaaGreatDoor
namespace Go.Proofs.YtnnenkoeklabpaaGreatDoor
open Go.RowKit Go.ChangeShapes Go.WideShapes
set_option maxRecDepth 100000
theorem gRul : Tryz.prog.globalNamed "loop.example/g00631/impl.rules" = some 0 := by kernel_rfl

theorem tRul:(Tryz.prog.globals[0]?).map (·.type)=some 145:=by kernel_rfl

theorem cRule:Tryz.prog.cellsOf 137=7:=by kernel_rfl

theorem cCh:Tryz.prog.cellsOf 86=4:=by kernel_rfl

theorem cI:Tryz.prog.cellsOf 2=1:=by kernel_rfl

theorem cB:Tryz.prog.cellsOf 4=1:=by kernel_rfl

section
variable {H:Type} {enc:TypeId × Value→H} {w:World} {base:Nat} {spare:Nat→Bool} {held:Bool}
theorem choice_cells {fuel:Nat} {cs:List Value} {c v:Int} {d k:Bool} {q:List MemPlace} (h:DataW.trod enc Tryz.prog w base spare held fuel 86 cs=some (.agg [.lit (.int .i64 c),.lit (.bool d),.lit (.bool k),.lit (.int .i64 v)],q)):cs=[.int .i64 c,.bool d,.bool k,.int .i64 v]:=by
 obtain ⟨y0,y1,y2,y3,n,hx,hl,h0,h1,h2,h3⟩:=Go.Joins.trod_struct4 Tryz.underlying86 h
 rw [cCh] at hl
 simp only [Prod.mk.injEq,DataW.agg.injEq,List.cons.injEq,and_true] at hx
 obtain ⟨⟨x0,x1,x2,x3⟩,_⟩:=hx
 match cs,hl with
 | [c0,c1,c2,c3],_=>
  simp only [cI,cB,List.drop_zero,List.drop_succ_cons,List.take_succ_cons,List.take_zero] at h0 h1 h2 h3
  obtain ⟨n0,e0,g0,_⟩:=DataW.trod_int Tryz.underlying2 h0
  obtain ⟨n1,e1,g1⟩:=DataW.trod_bool Tryz.underlying4 h1
  obtain ⟨n2,e2,g2⟩:=DataW.trod_bool Tryz.underlying4 h2
  obtain ⟨n3,e3,g3,_⟩:=DataW.trod_int Tryz.underlying2 h3
  simp only [List.cons.injEq,and_true] at e0 e1 e2 e3
  rw [g0] at x0
  rw [g1] at x1
  rw [g2] at x2
  rw [g3] at x3
  simp at x0 x1 x2 x3
  rw [e0,e1,e2,e3,x0,x1,x2,x3]

theorem rule_cells {fuel:Nat} {cs:List Value} {z o p c v:Int} {d k:Bool} {q:List MemPlace} (h:DataW.trod enc Tryz.prog w base spare held fuel 137 cs=some (.agg [.lit (.int .i64 z),.lit (.int .i64 o),.lit (.int .i64 p),.agg [.lit (.int .i64 c),.lit (.bool d),.lit (.bool k),.lit (.int .i64 v)]],q)) :
  cs=[.int .i64 z,.int .i64 o,.int .i64 p,.int .i64 c,.bool d,.bool k,.int .i64 v]:=by
 obtain ⟨y0,y1,y2,y3,n,hx,hl,h0,h1,h2,h3⟩:=Go.Joins.trod_struct4 Tryz.underlying137 h
 rw [cRule] at hl
 simp only [Prod.mk.injEq,DataW.agg.injEq,List.cons.injEq,and_true] at hx
 obtain ⟨⟨x0,x1,x2,x3⟩,_⟩:=hx
 match cs,hl with
 | [c0,c1,c2,c3,c4,c5,c6],_=>
  simp only [cI,cCh,List.drop_zero,List.drop_succ_cons,List.take_succ_cons,List.take_zero] at h0 h1 h2 h3
  obtain ⟨n0,e0,g0,_⟩:=DataW.trod_int Tryz.underlying2 h0
  obtain ⟨n1,e1,g1,_⟩:=DataW.trod_int Tryz.underlying2 h1
  obtain ⟨n2,e2,g2,_⟩:=DataW.trod_int Tryz.underlying2 h2
  obtain ⟨y30,y31⟩:=y3
  dsimp only at x3
  rw [← x3] at h3
  have e3:=choice_cells h3
  simp only [List.cons.injEq,and_true] at e0 e1 e2 e3
  rw [g0] at x0
  rw [g1] at x1
  rw [g2] at x2
  simp at x0 x1 x2
  obtain ⟨e3,e4,e5,e6⟩:=e3
  rw [e0,e1,e2,e3,e4,e5,e6,x0,x1,x2]

end
theorem rul_of_laid {W : World} (h : laidMetH Tryz.prog [("loop.example/g00631/impl.rules", Rows.laid_loop_example_g00631_impl_rules)] W) : Rul W := by
 rw [MakeChecks.laidMetH_plain _ _ _ (by kernel_rfl)] at h
 obtain ⟨g,t,cs,fuel,p,hg,ht,hvar,hd⟩:=Lib.laidMet.reads h (List.mem_singleton.2 rfl)
 obtain rfl:=Option.some.inj (gRul.symm.trans hg)
 obtain rfl:=Option.some.inj (tRul.symm.trans ht)
 unfold Rows.laid_loop_example_g00631_impl_rules at hd
 have e:∀ i,i < 5→∃ fuel' d q,_∧_:=fun i hi=>Lib.array_elem Tryz.underlying145 hd i hi
 rw [cRule] at e
 obtain ⟨f0,d0,q0,r0,s0⟩:=e 0 (by omega)
 obtain ⟨f1,d1,q1,r1,s1⟩:=e 1 (by omega)
 obtain ⟨f2,d2,q2,r2,s2⟩:=e 2 (by omega)
 obtain ⟨f3,d3,q3,r3,s3⟩:=e 3 (by omega)
 obtain ⟨f4,d4,q4,r4,s4⟩:=e 4 (by omega)
 simp only [List.getElem?_cons_zero,List.getElem?_cons_succ,Option.some.injEq] at r0 r1 r2 r3 r4
 subst r0 r1 r2 r3 r4
 have t0:=rule_cells s0
 have t1:=rule_cells s1
 have t2:=rule_cells s2
 have t3:=rule_cells s3
 have t4:=rule_cells s4
 have hall:cs.toList.take 35=rulL:=by
  rw [show 35=0 * 7 + 7 + 7 + 7 + 7 + 7 from rfl,List.take_add,List.take_add,List.take_add,List.take_add]
  rw [show 0 * 7 + 7 + 7 + 7 + 7=4 * 7 from rfl,show 0 * 7 + 7 + 7 + 7=3 * 7 from rfl,show 0 * 7 + 7 + 7=2 * 7 from rfl,show 0 * 7 + 7=1 * 7 from rfl,t1,t2,t3,t4]
  have t0' : List.take (1 * 7) cs.toList=_:=t0
  rw [t0']
  rfl
 intro i v hv
 have hi:i < 35:=by
  have:=(List.getElem?_eq_some_iff.1 hv).1
  simpa [rulL] using this
 rw [World.var?_cell hg hvar i,← Array.getElem?_toList]
 rw [← hall,List.getElem?_take,if_pos hi] at hv
 exact hv

end Go.Proofs.YtnnenkoeklabpaaGreatDoor
