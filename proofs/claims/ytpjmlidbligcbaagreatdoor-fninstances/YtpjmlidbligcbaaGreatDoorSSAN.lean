/- Texts joined, with what the laws reach alone. -/
import Derived.Test.YtpjmlidbligcbaaGreatDoorSSAM
set_option linter.unusedVariables false
set_option linter.unusedSimpArgs false
namespace Go.Proofs.YtpjmlidbligcbaaGreatDoor
open Go.RowKit
open Go.BigFrame
set_option maxRecDepth 100000
/-- Propose, plainly: its code, and its instance. -/
def prC (x:InstE) (node round mask:Int):Int:=if atC x node round=0 then (if proA x.rounds round.toNat node.toNat=3 then (if repA x.rounds round.toNat node.toNat=3 then 8 else pfC (x.rounds.getD round.toNat rnd0).rep mask) else 6) else atC x node round

def prI (x:InstE) (node round mask:Int):InstE:=if prC x node round mask=0 then ⟨x.has,x.batch,rstP x.rounds round.toNat node.toNat (pfV (x.rounds.getD round.toNat rnd0).rep mask),x.dec⟩ else ine0

theorem pr_facts (x:InstE) (node round mask:Int):(atC x node round≠0→prC x node round mask=atC x node round∧prI x node round mask=ine0) ∧
  (atC x node round=0→insF x=0∧∃ n r:Nat,node=(n:Int)∧round=(r:Int)∧n < 3∧r < x.rounds.length ∧
   (proA x.rounds r n≠3→prC x node round mask=6∧prI x node round mask=ine0) ∧
   (proA x.rounds r n=3→repA x.rounds r n=3→prC x node round mask=8∧prI x node round mask=ine0) ∧
   (proA x.rounds r n=3→repA x.rounds r n≠3→pfC (x.rounds.getD r rnd0).rep mask≠0→prC x node round mask=pfC (x.rounds.getD r rnd0).rep mask∧prI x node round mask=ine0) ∧
   (proA x.rounds r n=3→repA x.rounds r n≠3→pfC (x.rounds.getD r rnd0).rep mask=0→prC x node round mask=0∧prI x node round mask=⟨x.has,x.batch,rstP x.rounds r n (pfV (x.rounds.getD r rnd0).rep mask),x.dec⟩)):=by
 have hne:∀ c,prC x node round mask=c→c≠0→prI x node round mask=ine0:=fun c hc h0=>if_neg (by rw [hc];exact h0)
 refine ⟨fun h0=>?_,fun h0=>?_⟩
 ·have e:prC x node round mask=atC x node round:=if_neg h0
  exact ⟨e,hne _ e h0⟩
 ·obtain ⟨hi,n,r,rfl,rfl,hn,hr⟩:=at_zero h0
  refine ⟨hi,n,r,rfl,rfl,hn,hr,fun h1=>?_,fun h1 h2=>?_,fun h1 h2 h3=>?_,fun h1 h2 h3=>?_⟩
  ·have e:prC x n r mask=6:=by unfold prC;rw [if_pos h0,Int.toNat_natCast,Int.toNat_natCast,if_neg h1]
   exact ⟨e,hne _ e (by decide)⟩
  ·have e:prC x n r mask=8:=by unfold prC;rw [if_pos h0,Int.toNat_natCast,Int.toNat_natCast,if_pos h1,if_pos h2]
   exact ⟨e,hne _ e (by decide)⟩
  ·have e:prC x n r mask=pfC (x.rounds.getD r rnd0).rep mask:=by unfold prC;rw [if_pos h0,Int.toNat_natCast,Int.toNat_natCast,if_pos h1,if_neg h2]
   exact ⟨e,hne _ e h3⟩
  ·have e:prC x n r mask=0:=by unfold prC;rw [if_pos h0,Int.toNat_natCast,Int.toNat_natCast,if_pos h1,if_neg h2,h3]
   exact ⟨e,by unfold prI;rw [if_pos e,Int.toNat_natCast,Int.toNat_natCast]⟩

theorem bdAt_zero {p:InstQ} {node round:Int} (h:atC p.e node round=0):bdAt p node round=brdC p.has p.vb p.e.rounds p.dec∧Wel p.e.rounds∧p.e.rounds.length≤4∧p.dec.length=3:=by
 obtain ⟨h1,h2,h3,_⟩:=ins_ok (at_zero h).1
 exact ⟨if_pos h,h1,h2.2,h3⟩

set_option maxHeartbeats 4000000 in
theorem implPropose_any (p:InstQ) (node round mask:Int) (w:World) (hG:Rul w) (h:instK.rd w p) (hl:p.n≤1048576) :
  Calls Tryz.prog 14 #[.agg #[.bool p.has,p.vb,p.vr,p.vd],.int .i64 node,.int .i64 round,.int .i64 mask] w fun e w' => ∃ q:InstQ,e=.returned (.agg (resC (prC p.e node round mask) 0 false false 0 q))∧q.e=prI p.e node round mask∧instK.own w' q∧(instK.foot q).Nodup∧(∀ k∈instK.foot q,w.heap.size≤k)∧Below w.heap.size w w' := by
 obtain ⟨hl30,hone⟩:=bdAt_ok node round h
 have hbo:=fun w hG h=>boardAt_any p node round w hG h hl
 have hrb:=fun (w' : World) hb=>instK.rd_below (w' := w') h hb
 have hTx:txnK.At w p.vb p.batch:=h.1
 have hin:=fun (h0:insF p.e=0) (rs:List RoundE) (dec:List Int) w (hT:txnK.At w p.vb p.batch) hw h4 h3=>instance_any p.has p.vb p.batch rs dec w hT (ins_low h0).1 (by unfold InstQ.n at hl;omega) hw h4 h3
 have HBD:Hid (atC p.e node round=0→bdAt p node round=brdC p.has p.vb p.e.rounds p.dec∧Wel p.e.rounds∧p.e.rounds.length≤4∧p.dec.length=3):=bdAt_zero
 have HF:=pr_facts p.e node round mask
 rw [show p.e.has=p.has from rfl,show p.e.batch=p.batch.map TxnQ.e from rfl,show p.e.dec=p.dec from rfl] at HF
 generalize prC p.e node round mask=D at *
 generalize prI p.e node round mask=E at *
 generalize insF p.e=IF at *
 generalize bdAt p node round=BD at *
 generalize atC p.e node round=C at *
 generalize p.e.rounds=rs at *
 replace HF:Hid _:=HF
 obtain ⟨has,vb,batch,vr,rounds,vd,dec⟩:=p
 obtain ⟨ba,bk,rfl⟩:∃ a c,vb=.slice a batch.length c:=h.1.shape
 obtain ⟨va,vk,rfl⟩:∃ a c,vr=.slice a rounds.length c:=h.2.1.shape
 obtain ⟨da,dk,rfl⟩:∃ a c,vd=.slice a dec.length c:=h.2.2.shape
 dsimp only at hbo hrb HBD HF hin hTx
 have hB:Below w.heap.size w ((w.alloc (.cells #[.bool has,.slice ba batch.length bk,.slice va rounds.length vk,.slice da dec.length dk] 28)).alloc (.cells #[.int .i64 0,.int .i64 0,.bool false,.bool false,.int .i64 0,.bool false,.slice none 0 0,.slice none 0 0,.slice none 0 0] 34)):=by go_grown
 have Rb:=Blk.new (w.alloc (.cells #[.bool has,.slice ba batch.length bk,.slice va rounds.length vk,.slice da dec.length dk] 28)) 34 #[.int .i64 0,.int .i64 0,.bool false,.bool false,.int .i64 0,.bool false,.slice none 0 0,.slice none 0 0,.slice none 0 0]
 simp only [World.size_alloc] at Rb
 have hszB:(Tryz.prog.info? 104).map (·.size)=some BD.toArray.size:=by rw [List.size_toArray,hl30];exact sz_board
 have hold:(#[.int .i64 0,.int .i64 0,.int .i64 0,.int .i64 0,.int .i64 0,.int .i64 0,.int .i64 0,.int .i64 0,.int .i64 0,.int .i64 0,.int .i64 0,.int .i64 0,.int .i64 0,.int .i64 0,.int .i64 0,.int .i64 0,.int .i64 0,.int .i64 0,.int .i64 0,.int .i64 0,.int .i64 0,.int .i64 0,.int .i64 0,.int .i64 0,.int .i64 0,.bool false,.slice none 0 0,.int .i64 0,.int .i64 0,.int .i64 0]:Array Value).size=BD.toArray.size:=(show 30=BD.length from hl30.symm)
 go_enter Tryz.func14,Tryz.ntmps14
 go_wp2_with fail
 generalize ((w.alloc (.cells #[.bool has,.slice ba batch.length bk,.slice va rounds.length vk,.slice da dec.length dk] 28)).alloc (.cells #[.int .i64 0,.int .i64 0,.bool false,.bool false,.int .i64 0,.bool false,.slice none 0 0,.slice none 0 0,.slice none 0 0] 34))=W at *
 refine (hbo W (hG.below hB) (hrb W hB)).mono ?_
 rintro e w1 ⟨rfl,hb1⟩
 replace hB:=hB.trans (hb1.mono hB.size)
 replace Rb:=Rb.below hb1
 have Bz:=Blk.new w1 104 #[.int .i64 0,.int .i64 0,.int .i64 0,.int .i64 0,.int .i64 0,.int .i64 0,.int .i64 0,.int .i64 0,.int .i64 0,.int .i64 0,.int .i64 0,.int .i64 0,.int .i64 0,.int .i64 0,.int .i64 0,.int .i64 0,.int .i64 0,.int .i64 0,.int .i64 0,.int .i64 0,.int .i64 0,.int .i64 0,.int .i64 0,.int .i64 0,.int .i64 0,.bool false,.slice none 0 0,.int .i64 0,.int .i64 0,.int .i64 0]
 have hB2:=below_row (hB.alloc hB.size (.cells #[.int .i64 0,.int .i64 0,.int .i64 0,.int .i64 0,.int .i64 0,.int .i64 0,.int .i64 0,.int .i64 0,.int .i64 0,.int .i64 0,.int .i64 0,.int .i64 0,.int .i64 0,.int .i64 0,.int .i64 0,.int .i64 0,.int .i64 0,.int .i64 0,.int .i64 0,.int .i64 0,.int .i64 0,.int .i64 0,.int .i64 0,.int .i64 0,.int .i64 0,.bool false,.slice none 0 0,.int .i64 0,.int .i64 0,.int .i64 0] 104)) (g:=w1.heap.size) hB.size BD.toArray
 have Rb2:Blk ((w1.alloc (.cells #[.int .i64 0,.int .i64 0,.int .i64 0,.int .i64 0,.int .i64 0,.int .i64 0,.int .i64 0,.int .i64 0,.int .i64 0,.int .i64 0,.int .i64 0,.int .i64 0,.int .i64 0,.int .i64 0,.int .i64 0,.int .i64 0,.int .i64 0,.int .i64 0,.int .i64 0,.int .i64 0,.int .i64 0,.int .i64 0,.int .i64 0,.int .i64 0,.int .i64 0,.bool false,.slice none 0 0,.int .i64 0,.int .i64 0,.int .i64 0] 104)).setRow w1.heap.size BD.toArray) (w.heap.size + 1) 34 #[.int .i64 0,.int .i64 0,.bool false,.bool false,.int .i64 0,.bool false,.slice none 0 0,.slice none 0 0,.slice none 0 0]:=(setRow_other _ _ _ _ (by have:=Rb.lt;omega)).trans (Rb.below ((Below.refl _ _).alloc (Nat.le_refl _) _))
 have B2:=Bz.row BD.toArray
 have hlt2:w.heap.size + 1 < w1.heap.size:=Rb.lt
 clear hbo hrb hb1 Rb
 by_cases h0:C=0
 case neg=>
  have E1:Hid (D=C∧E=ine0):=HF.out.1 h0
  have h0' : (C != 0)=true:=by simpa using h0
  clear HF HBD h0 B2 hin
  have Rr:=Rb2.row #[.int .i64 C,.int .i64 0,.bool false,.bool false,.int .i64 0,.bool false,.slice none 0 0,.slice none 0 0,.slice none 0 0]
  have hBr:=below_row hB2 (g:=w.heap.size + 1) (by omega) #[.int .i64 C,.int .i64 0,.bool false,.bool false,.int .i64 0,.bool false,.slice none 0 0,.slice none 0 0,.slice none 0 0]
  have hsr:(Tryz.prog.info? 34).map (·.size)=some (#[.int .i64 C,.int .i64 0,.bool false,.bool false,.int .i64 0,.bool false,.slice none 0 0,.slice none 0 0,.slice none 0 0]:Array Value).size:=sz_res
  go_wp2_with (first | (refine st_row (by kernel_rfl) 104 _ _ rfl _ BD.toArray rfl rfl 104 _ Bz hszB hold hone ?_) | (refine st_row (by kernel_rfl) 34 _ _ rfl _ #[.int .i64 C,.int .i64 0,.bool false,.bool false,.int .i64 0,.bool false,.slice none 0 0,.slice none 0 0,.slice none 0 0] rfl rfl 34 _ Rb2 hsr rfl (by simp [Value.oneCell']) ?_))
  have q0:=Rr.cell 0 _ rfl
  have q1:=Rr.cell 1 _ rfl
  have q2:=Rr.cell 2 _ rfl
  have q3:=Rr.cell 3 _ rfl
  have q4:=Rr.cell 4 _ rfl
  have q5:=Rr.cell 5 _ rfl
  have q6:=Rr.cell 6 _ rfl
  have q7:=Rr.cell 7 _ rfl
  have q8:=Rr.cell 8 _ rfl
  exact bodyPost_ret (v:=.agg #[.int .i64 C,.int .i64 0,.bool false,.bool false,.int .i64 0,.bool false,.slice none 0 0,.slice none 0 0,.slice none 0 0]) (by simp [results,Tryz.results14,go_sem,q0,q1,q2,q3,q4,q5,q6,q7,q8]) rfl ⟨inst0,by rw [E1.out.1];rfl,E1.out.2.symm,inst0_own _,inst0_nd,fun k hk=>by rw [inst0_ft] at hk;simp at hk,hBr⟩

 case pos=>
  obtain ⟨hBD,hwel,h4,hd3⟩:=HBD.out h0
  obtain ⟨hi0,n,r,rfl,rfl,hn,hr,f6,f8,fP,f0⟩:=HF.out.2 h0
  have H0:Hid (IF=0):=hi0
  have HB9:Hid (BD=brdC has (.slice ba batch.length bk) rs dec):=hBD
  have HD3:Hid (dec.length=3):=hd3
  have F6:Hid _:=f6
  have F8:Hid _:=f8
  have FP:Hid _:=fP
  have F0:Hid _:=f0
  subst h0
  clear HBD hBD hd3 hi0 f6 f8 fP f0 HF
  have hsR:(Tryz.prog.info? 102).map (·.size)=some (rndC rs).length:=by rw [rndC_length hwel h4];exact sz_rounds
  have RGR:=rng B2 (rndC rs) (o:=0) (fun j v hv=>by
   have hj:=(List.getElem?_eq_some_iff.1 hv).1
   rw [rndC_length hwel h4] at hj
   rw [Nat.zero_add,List.getElem?_toArray,HB9.out,brd_rnd hwel h4 j hj]
   exact hv)
  go_wp2_with (first | (refine st_row (by kernel_rfl) 104 _ _ rfl _ BD.toArray rfl rfl 104 _ Bz hszB hold hone ?_) | (refine ld_g (by kernel_rfl) 102 _ rfl _ _ rfl (rndC rs) _ RGR Tryz.underlying102 rfl hsR ?_))
  generalize ((w1.alloc (.cells #[.int .i64 0,.int .i64 0,.int .i64 0,.int .i64 0,.int .i64 0,.int .i64 0,.int .i64 0,.int .i64 0,.int .i64 0,.int .i64 0,.int .i64 0,.int .i64 0,.int .i64 0,.int .i64 0,.int .i64 0,.int .i64 0,.int .i64 0,.int .i64 0,.int .i64 0,.int .i64 0,.int .i64 0,.int .i64 0,.int .i64 0,.int .i64 0,.int .i64 0,.bool false,.slice none 0 0,.int .i64 0,.int .i64 0,.int .i64 0] 104)).setRow w1.heap.size BD.toArray)=X at *
  refine (hasProp_any rs r n X hwel h4 hr hn).mono ?_
  rintro e w2 ⟨rfl,hb2⟩
  replace Rb2:=Rb2.below hb2
  replace B2:=B2.below hb2
  replace hB2:=hB2.trans (hb2.mono hB2.size)
  clear hb2 Bz RGR
  by_cases hp3:proA rs r n=3
  case neg=>
   have E1:Hid (D=6∧E=ine0):=F6.out hp3
   have hq:(proA rs r n != 3)=true:=by simpa using hp3
   clear F6 F8 FP F0 hp3 hin B2 HB9 hsR
   have Rr:=Rb2.row #[.int .i64 6,.int .i64 0,.bool false,.bool false,.int .i64 0,.bool false,.slice none 0 0,.slice none 0 0,.slice none 0 0]
   have hBr:=below_row hB2 (g:=w.heap.size + 1) (by omega) #[.int .i64 6,.int .i64 0,.bool false,.bool false,.int .i64 0,.bool false,.slice none 0 0,.slice none 0 0,.slice none 0 0]
   have hsr:(Tryz.prog.info? 34).map (·.size)=some (#[.int .i64 6,.int .i64 0,.bool false,.bool false,.int .i64 0,.bool false,.slice none 0 0,.slice none 0 0,.slice none 0 0]:Array Value).size:=sz_res
   go_wp2_with (first | (refine st_row (by kernel_rfl) 34 _ _ rfl _ #[.int .i64 6,.int .i64 0,.bool false,.bool false,.int .i64 0,.bool false,.slice none 0 0,.slice none 0 0,.slice none 0 0] rfl rfl 34 _ Rb2 hsr rfl (by simp [Value.oneCell']) ?_))
   have q0:=Rr.cell 0 _ rfl
   have q1:=Rr.cell 1 _ rfl
   have q2:=Rr.cell 2 _ rfl
   have q3:=Rr.cell 3 _ rfl
   have q4:=Rr.cell 4 _ rfl
   have q5:=Rr.cell 5 _ rfl
   have q6:=Rr.cell 6 _ rfl
   have q7:=Rr.cell 7 _ rfl
   have q8:=Rr.cell 8 _ rfl
   exact bodyPost_ret (v:=.agg #[.int .i64 6,.int .i64 0,.bool false,.bool false,.int .i64 0,.bool false,.slice none 0 0,.slice none 0 0,.slice none 0 0]) (by simp [results,Tryz.results14,go_sem,q0,q1,q2,q3,q4,q5,q6,q7,q8]) rfl ⟨inst0,by rw [E1.out.1];rfl,E1.out.2.symm,inst0_own _,inst0_nd,fun k hk=>by rw [inst0_ft] at hk;simp at hk,hBr⟩

  case pos=>
   have hq:(proA rs r n != 3)=false:=by rw [hp3];rfl
   have RGR:=rng B2 (rndC rs) (o:=0) (fun j v hv=>by
    have hj:=(List.getElem?_eq_some_iff.1 hv).1
    rw [rndC_length hwel h4] at hj
    rw [Nat.zero_add,List.getElem?_toArray,HB9.out,brd_rnd hwel h4 j hj]
    exact hv)
   have hhr:∀ b,(repA rs r n != 3)=b→∀ w,Calls Tryz.prog 69 #[.agg (rndC rs).toArray,.int .i64 (r:Int),.int .i64 (n:Int)] w fun e w' => e=.returned (.bool b)∧Below w.heap.size w w' := fun b hb w=>by
    have:=hasReport_any rs r n w hwel h4 hn
    rw [hb,decide_eq_true hr,Bool.true_and] at this
    exact this
   have HP3:Hid (proA rs r n=3):=hp3
   clear hp3
   go_wp2_with (first | (refine ld_g (by kernel_rfl) 102 _ rfl _ _ rfl (rndC rs) _ RGR Tryz.underlying102 rfl hsR ?_))
   clear hq RGR
   by_cases hp4:repA rs r n=3
   case pos=>
    have E1:Hid (D=8∧E=ine0):=F8.out HP3.out hp4
    refine (hhr false (by rw [hp4];rfl) w2).mono ?_
    rintro e w3 ⟨rfl,hb3⟩
    replace Rb2:=Rb2.below hb3
    replace hB2:=hB2.trans (hb3.mono hB2.size)
    clear F6 F8 FP F0 hp4 hin B2 HB9 hsR hhr hb3
    have Rr:=Rb2.row #[.int .i64 8,.int .i64 0,.bool false,.bool false,.int .i64 0,.bool false,.slice none 0 0,.slice none 0 0,.slice none 0 0]
    have hBr:=below_row hB2 (g:=w.heap.size + 1) (by omega) #[.int .i64 8,.int .i64 0,.bool false,.bool false,.int .i64 0,.bool false,.slice none 0 0,.slice none 0 0,.slice none 0 0]
    have hsr:(Tryz.prog.info? 34).map (·.size)=some (#[.int .i64 8,.int .i64 0,.bool false,.bool false,.int .i64 0,.bool false,.slice none 0 0,.slice none 0 0,.slice none 0 0]:Array Value).size:=sz_res
    go_wp2_with (first | (refine st_row (by kernel_rfl) 34 _ _ rfl _ #[.int .i64 8,.int .i64 0,.bool false,.bool false,.int .i64 0,.bool false,.slice none 0 0,.slice none 0 0,.slice none 0 0] rfl rfl 34 _ Rb2 hsr rfl (by simp [Value.oneCell']) ?_))
    have q0:=Rr.cell 0 _ rfl
    have q1:=Rr.cell 1 _ rfl
    have q2:=Rr.cell 2 _ rfl
    have q3:=Rr.cell 3 _ rfl
    have q4:=Rr.cell 4 _ rfl
    have q5:=Rr.cell 5 _ rfl
    have q6:=Rr.cell 6 _ rfl
    have q7:=Rr.cell 7 _ rfl
    have q8:=Rr.cell 8 _ rfl
    exact bodyPost_ret (v:=.agg #[.int .i64 8,.int .i64 0,.bool false,.bool false,.int .i64 0,.bool false,.slice none 0 0,.slice none 0 0,.slice none 0 0]) (by simp [results,Tryz.results14,go_sem,q0,q1,q2,q3,q4,q5,q6,q7,q8]) rfl ⟨inst0,by rw [E1.out.1];rfl,E1.out.2.symm,inst0_own _,inst0_nd,fun k hk=>by rw [inst0_ft] at hk;simp at hk,hBr⟩

   case neg=>
    have F1:Hid ((pfC (rs.getD r rnd0).rep mask≠0→D=pfC (rs.getD r rnd0).rep mask∧E=ine0)∧(pfC (rs.getD r rnd0).rep mask=0→D=0∧E=⟨has,batch.map TxnQ.e,rstP rs r n (pfV (rs.getD r rnd0).rep mask),dec⟩)):=⟨FP.out HP3.out hp4,F0.out HP3.out hp4⟩
    refine (hhr true (by simpa using hp4) w2).mono ?_
    rintro e w3 ⟨rfl,hb3⟩
    replace Rb2:=Rb2.below hb3
    replace B2:=B2.below hb3
    replace hB2:=hB2.trans (hb3.mono hB2.size)
    clear F6 F8 FP F0 hp4 hhr hb3 HP3 hsR
    obtain ⟨hl1,hl2⟩:=wel_at hwel r hr
    have RGV:=rng B2 ((rs.getD r rnd0).rep.map iv) (o:=1 + r * 6) (fun j v hv=>by
     obtain ⟨hj,rfl⟩:=row_get hl1 hv
     rw [List.getElem?_toArray,HB9.out,brd_rnd hwel h4 _ (by omega),rnd_rep hwel r hr j hj]
     rfl)
    have hsV:(Tryz.prog.info? 97).map (·.size)=some ((rs.getD r rnd0).rep.map iv).length:=by rw [List.length_map,hl1];exact sz_row
    have hr4:(r:Int) < 4:=by omega
    have hn3:(n:Int) < 3:=by omega
    have hli:=fun w=>list_any (rs.getD r rnd0).rep w hl1
    have hpf:=fun a c w hG (hR:Row .i64 w a (rs.getD r rnd0).rep)=>implProp_any a c (rs.getD r rnd0).rep mask w hG hR (by omega)
    rw [hl1] at hpf
    generalize hrep:(rs.getD r rnd0).rep=rep at *
    have HREP:Hid ((rs.getD r rnd0).rep=rep):=hrep
    clear hrep hl2
    generalize pfC rep mask=PC at *
    generalize pfV rep mask=PV at *
    go_wp2_with (first | (refine ld_g (by kernel_rfl) 97 _ rfl _ _ rfl (rep.map iv) _ RGV Tryz.underlying97 rfl hsV ?_))
    clear RGV hsV
    refine (hli w3).mono ?_
    rintro e w4 ⟨a4,c4,rfl,O4,G4,RW,hb4⟩
    replace Rb2:=Rb2.below hb4
    replace B2:=B2.below hb4
    replace hB2:=hB2.trans (hb4.mono hB2.size)
    clear O4 G4 hb4 hli
    go_wp2_with fail
    refine (hpf a4 c4 w4 (hG.below hB2) RW).mono ?_
    rintro e w5 ⟨rfl,hb5⟩
    have hbA:Below w5.heap.size w5 (w5.alloc (.cells #[.int .i64 PC,.int .i64 PV] 50)):=by go_grown
    have BI:=Blk.new w5 50 #[.int .i64 PC,.int .i64 PV]
    have h15:w1.heap.size < w5.heap.size:=by have:=(B2.below hb5).lt;exact this
    replace Rb2:=(Rb2.below hb5).below hbA
    replace B2:=(B2.below hb5).below hbA
    replace hB2:=hB2.trans (hb5.mono hB2.size)
    replace hB2:=hB2.trans (hbA.mono hB2.size)
    clear hb5 hpf RW hbA
    by_cases hpc:PC=0
    case neg=>
     have E1:Hid (D=PC∧E=ine0):=F1.out.1 hpc
     have h0' : (PC != 0)=true:=by simpa using hpc
     clear F1 hpc hin B2 HB9
     have Rr:=Rb2.row #[.int .i64 PC,.int .i64 0,.bool false,.bool false,.int .i64 0,.bool false,.slice none 0 0,.slice none 0 0,.slice none 0 0]
     have hBr:=below_row hB2 (g:=w.heap.size + 1) (by omega) #[.int .i64 PC,.int .i64 0,.bool false,.bool false,.int .i64 0,.bool false,.slice none 0 0,.slice none 0 0,.slice none 0 0]
     have hsr:(Tryz.prog.info? 34).map (·.size)=some (#[.int .i64 PC,.int .i64 0,.bool false,.bool false,.int .i64 0,.bool false,.slice none 0 0,.slice none 0 0,.slice none 0 0]:Array Value).size:=sz_res
     go_wp2_with (first | (refine st_row (by kernel_rfl) 34 _ _ rfl _ #[.int .i64 PC,.int .i64 0,.bool false,.bool false,.int .i64 0,.bool false,.slice none 0 0,.slice none 0 0,.slice none 0 0] rfl rfl 34 _ Rb2 hsr rfl (by simp [Value.oneCell']) ?_))
     have q0:=Rr.cell 0 _ rfl
     have q1:=Rr.cell 1 _ rfl
     have q2:=Rr.cell 2 _ rfl
     have q3:=Rr.cell 3 _ rfl
     have q4:=Rr.cell 4 _ rfl
     have q5:=Rr.cell 5 _ rfl
     have q6:=Rr.cell 6 _ rfl
     have q7:=Rr.cell 7 _ rfl
     have q8:=Rr.cell 8 _ rfl
     exact bodyPost_ret (v:=.agg #[.int .i64 PC,.int .i64 0,.bool false,.bool false,.int .i64 0,.bool false,.slice none 0 0,.slice none 0 0,.slice none 0 0]) (by simp [results,Tryz.results14,go_sem,q0,q1,q2,q3,q4,q5,q6,q7,q8]) rfl ⟨inst0,by rw [E1.out.1];rfl,E1.out.2.symm,inst0_own _,inst0_nd,fun k hk=>by rw [inst0_ft] at hk;simp at hk,hBr⟩

    case pos=>
     have E1:Hid (D=0∧E=⟨has,batch.map TxnQ.e,rstP rs r n PV,dec⟩):=F1.out.2 hpc
     subst hpc
     clear F1
     have hwel5:=wel_rstP hwel r n hr PV
     have h45:(rstP rs r n PV).length≤4:=by rw [rstP_length];exact h4
     have HD5:Hid (dec.length=3):=HD3
     go_wp2_with fail
     generalize (w5.alloc (.cells #[.int .i64 0,.int .i64 PV] 50))=Y at *
     have hYd:Below Y.heap.size Y Y.drew:=(Below.refl _ _).drew
     have hF5:w5.heap.size ∉ [w1.heap.size]:=by simp only [List.mem_singleton];omega
     have k1:=lato_cell (F:=[w1.heap.size]) (BI.cell 1 _ rfl) hF5
     have hnn:Nonempty (LatO [w1.heap.size] Y):=⟨⟨Y,Out.refl _ _⟩⟩
     have hS0:∃ u:LatO [w1.heap.size] Y,Y.drew=u.val:=⟨⟨_,Out.of_below hYd⟩,rfl⟩
     refine text_begin (S:=fun w' => ∃ u:LatO [w1.heap.size] Y,w' = u.val) (by kernel_rfl) ?_
     refine seg_range [(0,9)] 1 (by kernel_rfl) (by kernel_rfl) (by kernel_rfl) (by kernel_rfl) (by kernel_rfl) hS0 ?_
     simp only [pickR,List.toList_toArray,List.flatMap_cons,List.flatMap_nil,List.drop_succ_cons,List.drop_zero,List.take_succ_cons,List.take_zero,List.cons_append,List.nil_append,List.append_nil]
     repeat go_big_quiet_step (fail)
     refine wpQuiet_nil ?_
     refine one_at 9 _ 0 (by kernel_rfl) rfl (by kernel_rfl) ?_
     replace B2:=B2.below hYd
     replace Rb2:=Rb2.below hYd
     replace hB2:=hB2.trans (hYd.mono hB2.size)
     clear k1 hYd hF5 BI hS0
     have hcc:Y.drew.cell? ⟨w1.heap.size,1 + r * 6 + 3 + n,none⟩=some (iv (proA rs r n)):=B2.cell _ _ (by rw [List.getElem?_toArray,HB9.out,brd_rnd hwel h4 _ (by omega)];exact rnd_pro hwel r hr n hn)
     have hcf:=B2.frozen (1 + r * 6 + 3 + n)
     have hUU:Out [w1.heap.size] Y (Y.drew.setCell ⟨w1.heap.size,1 + r * 6 + 3 + n,none⟩ (iv PV)):=(Out.of_below ((Below.refl _ _).drew)).set (by simp)
     have B5:=B2.set (1 + r * 6 + 3 + n) (iv PV)
     rw [HB9.out,List.setIfInBounds_toArray,brd_setP hwel h4 r hr n hn] at B5
     have R3:=Rb2.other (b' := w1.heap.size) (by omega) (1 + r * 6 + 3 + n) (iv PV)
     have hBg:Below w.heap.size w (Y.drew.setCell ⟨w1.heap.size,1 + r * 6 + 3 + n,none⟩ (iv PV)):=hB2.setCell (p:=⟨w1.heap.size,1 + r * 6 + 3 + n,none⟩) (by show w.heap.size≤w1.heap.size;omega) _
     clear B2 Rb2 hB2 HB9
     change Blk (Y.setCell ⟨w1.heap.size,1 + r * 6 + 3 + n,none⟩ (iv PV)).drew _ _ _ at B5
     change Blk (Y.setCell ⟨w1.heap.size,1 + r * 6 + 3 + n,none⟩ (iv PV)).drew _ _ _ at R3
     change Below _ _ (Y.setCell ⟨w1.heap.size,1 + r * 6 + 3 + n,none⟩ (iv PV)).drew at hBg
     change Out _ _ (Y.setCell ⟨w1.heap.size,1 + r * 6 + 3 + n,none⟩ (iv PV)).drew at hUU
     go_wp2
     refine ThenGo.to ⟨⟨⟨_,hUU⟩,rfl⟩,?_⟩
     refine text_end (by kernel_rfl) ?_
     clear hcc hcf hUU hnn
     generalize (Y.setCell ⟨w1.heap.size,1 + r * 6 + 3 + n,none⟩ (iv PV)).drew=X5 at *
     have X4:=rng B5 (brdC has (.slice ba batch.length bk) (rstP rs r n PV) dec) (o:=0) (fun j v hv=>by rw [Nat.zero_add,List.getElem?_toArray];exact hv)
     have hs30:(Tryz.prog.info? 104).map (·.size)=some (brdC has (.slice ba batch.length bk) (rstP rs r n PV) dec).length:=by rw [brdC_length hwel5 h45 HD5.out];exact sz_board
     clear B5
     go_wp2_with (first | (refine ld_g (by kernel_rfl) 104 _ rfl _ _ rfl (brdC has (.slice ba batch.length bk) (rstP rs r n PV) dec) _ X4 Tryz.underlying104 rfl hs30 ?_))
     clear X4 hs30
     refine (hin H0.out (rstP rs r n PV) dec X5 (hTx.below hBg) hwel5 h45 HD5.out).mono ?_
     rintro e w7 ⟨q,rfl,eq,oq,nq,gq,hb7⟩
     have R5:=R3.below hb7
     have hR5:=R3.lt
     have L5:∀ k∈instK.foot q,w.heap.size + 2≤k:=fun k hk=>by have:=gq k hk;omega
     replace hBg:=hBg.trans (hb7.mono hBg.size)
     clear hin gq hb7 R3
     have hous:∀ cs,instK.own (w7.setRow (w.heap.size + 1) cs) q:=fun cs=>instK.own_out oq (out_row w7 (w.heap.size + 1) cs) (fun k hk=>by have:=L5 k hk;simp only [List.mem_singleton];omega)
     have HQ:Hid (q.e=E∧(instK.foot q).Nodup∧(∀ k∈instK.foot q,w.heap.size≤k)∧∀ cs,instK.own (w7.setRow (w.heap.size + 1) cs) q):=⟨by rw [eq,E1.out.2],nq,fun k hk=>by have:=L5 k hk;omega,hous⟩
     have HD0:Hid (D=0):=E1.out.1
     clear E1 eq nq hous L5
     obtain ⟨qh,qb,qbs,qr,qrs,qd,qds⟩:=q
     obtain ⟨s1,t1,rfl⟩:∃ a c,qb=.slice a qbs.length c:=oq.1.shape
     obtain ⟨s2,t2,rfl⟩:∃ a c,qr=.slice a qrs.length c:=oq.2.1.shape
     obtain ⟨s3,t3,rfl⟩:∃ a c,qd=.slice a qds.length c:=oq.2.2.shape
     have Rr:=R5.row #[.int .i64 0,.int .i64 0,.bool false,.bool false,.int .i64 0,.bool qh,.slice s1 qbs.length t1,.slice s2 qrs.length t2,.slice s3 qds.length t3]
     have hBr:=below_row hBg (g:=w.heap.size + 1) (by omega) #[.int .i64 0,.int .i64 0,.bool false,.bool false,.int .i64 0,.bool qh,.slice s1 qbs.length t1,.slice s2 qrs.length t2,.slice s3 qds.length t3]
     have hsr:(Tryz.prog.info? 34).map (·.size)=some (#[.int .i64 0,.int .i64 0,.bool false,.bool false,.int .i64 0,.bool qh,.slice s1 qbs.length t1,.slice s2 qrs.length t2,.slice s3 qds.length t3]:Array Value).size:=sz_res
     clear oq
     go_wp2_with (first | (refine st_row (by kernel_rfl) 34 _ _ rfl _ #[.int .i64 0,.int .i64 0,.bool false,.bool false,.int .i64 0,.bool qh,.slice s1 qbs.length t1,.slice s2 qrs.length t2,.slice s3 qds.length t3] rfl rfl 34 _ R5 hsr rfl (by simp [Value.oneCell']) ?_))
     have q0:=Rr.cell 0 _ rfl
     have q1:=Rr.cell 1 _ rfl
     have q2:=Rr.cell 2 _ rfl
     have q3:=Rr.cell 3 _ rfl
     have q4:=Rr.cell 4 _ rfl
     have q5:=Rr.cell 5 _ rfl
     have q6:=Rr.cell 6 _ rfl
     have q7:=Rr.cell 7 _ rfl
     have q8:=Rr.cell 8 _ rfl
     exact bodyPost_ret (v:=.agg #[.int .i64 0,.int .i64 0,.bool false,.bool false,.int .i64 0,.bool qh,.slice s1 qbs.length t1,.slice s2 qrs.length t2,.slice s3 qds.length t3]) (by simp [results,Tryz.results14,go_sem,q0,q1,q2,q3,q4,q5,q6,q7,q8]) rfl ⟨⟨qh,.slice s1 qbs.length t1,qbs,.slice s2 qrs.length t2,qrs,.slice s3 qds.length t3,qds⟩,by rw [HD0.out],HQ.out.1,HQ.out.2.2.2 _,HQ.out.2.1,HQ.out.2.2.1,hBr⟩

end Go.Proofs.YtpjmlidbligcbaaGreatDoor
