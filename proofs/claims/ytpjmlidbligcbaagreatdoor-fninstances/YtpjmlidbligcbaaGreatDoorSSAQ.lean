/- Texts joined, with what the laws reach alone. -/
import Derived.Test.YtpjmlidbligcbaaGreatDoorSSAP
set_option linter.unusedVariables false
set_option linter.unusedSimpArgs false
namespace Go.Proofs.YtpjmlidbligcbaaGreatDoor
open Go.RowKit
open Go.BigFrame
set_option maxRecDepth 100000
/-- The coin of who has no batch. -/
def coF (has:Bool) (coin:Int):Int:=if coin=1∧has=false then 0 else coin

/-- GoOn, plainly: its code, its instance, its choice. -/
def goC (x:InstE) (node round mask coin:Int):Int:=if atC x node round=0 then (if proA x.rounds round.toNat node.toNat=3 then 8 else if chC (x.rounds.getD round.toNat rnd0).pro mask (coF x.has coin)=0 then rpC x.rounds (round.toNat + 1) node.toNat else chC (x.rounds.getD round.toNat rnd0).pro mask (coF x.has coin)) else atC x node round

def goI (x:InstE) (node round mask coin:Int):InstE:=if goC x node round mask coin=0 then ⟨x.has,x.batch,rpI x.rounds (round.toNat + 1) node.toNat (cfV (x.rounds.getD round.toNat rnd0).pro mask (coF x.has coin)),if cfD (x.rounds.getD round.toNat rnd0).pro mask (coF x.has coin) then x.dec.set node.toNat (cfV (x.rounds.getD round.toNat rnd0).pro mask (coF x.has coin)) else x.dec⟩ else ine0

def goZ (x:InstE) (node round mask coin:Int):Int:=0

def goD (x:InstE) (node round mask coin:Int):Bool:=if goC x node round mask coin=0 then cfD (x.rounds.getD round.toNat rnd0).pro mask (coF x.has coin) else false

def goK (x:InstE) (node round mask coin:Int):Bool:=if goC x node round mask coin=0 then cfK (x.rounds.getD round.toNat rnd0).pro mask (coF x.has coin) else false

def goV (x:InstE) (node round mask coin:Int):Int:=if goC x node round mask coin=0 then cfV (x.rounds.getD round.toNat rnd0).pro mask (coF x.has coin) else 0

/-- No answer but a code. -/
def goNo (x:InstE) (node round mask coin c:Int):Prop:=goC x node round mask coin=c∧goI x node round mask coin=ine0∧goZ x node round mask coin=0∧goD x node round mask coin=false∧goK x node round mask coin=false∧goV x node round mask coin=0

theorem go_no {x:InstE} {node round mask coin c:Int} (h:goC x node round mask coin=c) (h0:c≠0):goNo x node round mask coin c:=by
 have hc:¬ goC x node round mask coin=0:=by rw [h];exact h0
 exact ⟨h,if_neg hc,rfl,if_neg hc,if_neg hc,if_neg hc⟩

theorem go_facts (x:InstE) (node round mask coin:Int):(atC x node round≠0→goNo x node round mask coin (atC x node round)) ∧
  (atC x node round=0→insF x=0∧∃ n r:Nat,node=(n:Int)∧round=(r:Int)∧n < 3∧r < x.rounds.length ∧
   (proA x.rounds r n=3→goNo x node round mask coin 8) ∧
   (proA x.rounds r n≠3→chC (x.rounds.getD r rnd0).pro mask (coF x.has coin)≠0→goNo x node round mask coin (chC (x.rounds.getD r rnd0).pro mask (coF x.has coin))) ∧
   (proA x.rounds r n≠3→chC (x.rounds.getD r rnd0).pro mask (coF x.has coin)=0→rpC x.rounds (r + 1) n≠0→goNo x node round mask coin (rpC x.rounds (r + 1) n)) ∧
   (proA x.rounds r n≠3→chC (x.rounds.getD r rnd0).pro mask (coF x.has coin)=0→rpC x.rounds (r + 1) n=0→goC x node round mask coin=0∧goI x node round mask coin=⟨x.has,x.batch,rpI x.rounds (r + 1) n (cfV (x.rounds.getD r rnd0).pro mask (coF x.has coin)),if cfD (x.rounds.getD r rnd0).pro mask (coF x.has coin) then x.dec.set n (cfV (x.rounds.getD r rnd0).pro mask (coF x.has coin)) else x.dec⟩∧goZ x node round mask coin=0∧goD x node round mask coin=cfD (x.rounds.getD r rnd0).pro mask (coF x.has coin)∧goK x node round mask coin=cfK (x.rounds.getD r rnd0).pro mask (coF x.has coin)∧goV x node round mask coin=cfV (x.rounds.getD r rnd0).pro mask (coF x.has coin))):=by
 refine ⟨fun h0=>go_no (if_neg h0) h0,fun h0=>?_⟩
 obtain ⟨hi,n,r,rfl,rfl,hn,hr⟩:=at_zero h0
 refine ⟨hi,n,r,rfl,rfl,hn,hr,fun h1=>?_,fun h1 h2=>?_,fun h1 h2 h3=>?_,fun h1 h2 h3=>?_⟩
 ·exact go_no (by unfold goC;rw [if_pos h0,Int.toNat_natCast,Int.toNat_natCast,if_pos h1]) (by decide)
 ·exact go_no (by unfold goC;rw [if_pos h0,Int.toNat_natCast,Int.toNat_natCast,if_neg h1,if_neg h2]) h2
 ·exact go_no (by unfold goC;rw [if_pos h0,Int.toNat_natCast,Int.toNat_natCast,if_neg h1,if_pos h2]) h3
 ·have e:goC x n r mask coin=0:=by unfold goC;rw [if_pos h0,Int.toNat_natCast,Int.toNat_natCast,if_neg h1,if_pos h2,h3]
  refine ⟨e,?_,rfl,?_,?_,?_⟩
  ·unfold goI;rw [if_pos e,Int.toNat_natCast,Int.toNat_natCast]
  ·unfold goD;rw [if_pos e,Int.toNat_natCast]
  ·unfold goK;rw [if_pos e,Int.toNat_natCast]
  ·unfold goV;rw [if_pos e,Int.toNat_natCast]

theorem sz_choice:(Tryz.prog.info? 32).map (·.size)=some 4:=by kernel_rfl

set_option maxHeartbeats 1000000 in
theorem coinFor_any (has:Bool) (vb:Value) (rs:List RoundE) (dec:List Int) (coin:Int) (w:World) (hwel:Wel rs) (h4:rs.length≤4) :
  Calls Tryz.prog 76 #[.agg (brdC has vb rs dec).toArray,.int .i64 coin] w fun e w' => e=.returned (.int .i64 (coF has coin))∧Below w.heap.size w w' := by
 have hh:=brd_has (has:=has) (vb:=vb) (dec:=dec) hwel h4
 generalize brdC has vb rs dec=cs at *
 have hB:Below w.heap.size w (w.alloc (.cells cs.toArray 104)):=by go_grown
 have B:=Blk.new w 104 cs.toArray
 have c25:=B.cell 25 (.bool has) (by rw [List.getElem?_toArray];exact hh)
 by_cases h1:coin=1
 ·cases has with
  | true=>
   have e:coF true coin=coin:=if_neg (fun h=>by simp at h)
   rw [e]
   subst h1
   go_enter Tryz.func76,Tryz.ntmps76
   go_wp2
   go_ret
   exact ⟨rfl,hB⟩
  | false=>
   have e:coF false coin=0:=if_pos ⟨h1,rfl⟩
   rw [e]
   subst h1
   go_enter Tryz.func76,Tryz.ntmps76
   go_wp2
   go_ret
   exact ⟨rfl,hB⟩
 ·have e:coF has coin=coin:=if_neg (fun h=>h1 h.1)
  rw [e]
  have h1' : (coin == 1)=false:=by simpa using h1
  go_enter Tryz.func76,Tryz.ntmps76
  go_wp2
  go_ret
  exact ⟨rfl,hB⟩

set_option maxHeartbeats 8000000 in
theorem implGoOn_any (p:InstQ) (node round mask coin:Int) (w:World) (hG:RulO w) (h:instK.rd w p) (hl:p.n≤1048576) :
  Calls Tryz.prog 16 #[.agg #[.bool p.has,p.vb,p.vr,p.vd],.int .i64 node,.int .i64 round,.int .i64 mask,.int .i64 coin] w fun e w' => ∃ q:InstQ,e=.returned (.agg (resC (goC p.e node round mask coin) (goZ p.e node round mask coin) (goD p.e node round mask coin) (goK p.e node round mask coin) (goV p.e node round mask coin) q))∧q.e=goI p.e node round mask coin∧instK.own w' q∧(instK.foot q).Nodup∧(∀ k∈instK.foot q,w.heap.size≤k)∧Below w.heap.size w w' := by
 obtain ⟨hl30,hone⟩:=bdAt_ok node round h
 have hbo:=fun w hG h=>boardAt_any p node round w hG h hl
 have hrb:=fun (w' : World) hb=>instK.rd_below (w' := w') h hb
 have hTx:txnK.At w p.vb p.batch:=h.1
 have hin:=fun (h0:insF p.e=0) (rs:List RoundE) (dec:List Int) w (hT:txnK.At w p.vb p.batch) hw h4 h3=>instance_any p.has p.vb p.batch rs dec w hT (ins_low h0).1 (by unfold InstQ.n at hl;omega) hw h4 h3
 have HBD:Hid (atC p.e node round=0→bdAt p node round=brdC p.has p.vb p.e.rounds p.dec∧Wel p.e.rounds∧p.e.rounds.length≤4∧p.dec.length=3):=bdAt_zero
 have HF:=go_facts p.e node round mask coin
 unfold goNo at HF
 rw [show p.e.has=p.has from rfl,show p.e.batch=p.batch.map TxnQ.e from rfl,show p.e.dec=p.dec from rfl] at HF
 generalize goC p.e node round mask coin=D at *
 generalize goI p.e node round mask coin=E at *
 generalize goZ p.e node round mask coin=K0 at *
 generalize goD p.e node round mask coin=K1 at *
 generalize goK p.e node round mask coin=K2 at *
 generalize goV p.e node round mask coin=K3 at *
 generalize insF p.e=IF at *
 generalize bdAt p node round=BD at *
 generalize atC p.e node round=C at *
 generalize p.e.rounds=rs at *
 replace HF:Hid _:=HF
 obtain ⟨has,vb,batch,vr,rounds,vd,dec⟩:=p
 obtain ⟨ba,bk,rfl⟩:∃ a c,vb=.slice a batch.length c:=h.1.shape
 obtain ⟨va,vk,rfl⟩:∃ a c,vr=.slice a rounds.length c:=h.2.1.shape
 obtain ⟨da,dk,rfl⟩:∃ a c,vd=.slice a dec.length c:=h.2.2.shape
 dsimp only at hbo hrb HBD HF hin hTx
 have hB:Below w.heap.size w ((w.alloc (.cells #[.bool has,.slice ba batch.length bk,.slice va rounds.length vk,.slice da dec.length dk] 28)).alloc (.cells #[.int .i64 0,.int .i64 0,.bool false,.bool false,.int .i64 0,.bool false,.slice none 0 0,.slice none 0 0,.slice none 0 0] 34)):=by go_grown
 have Rb:=Blk.new (w.alloc (.cells #[.bool has,.slice ba batch.length bk,.slice va rounds.length vk,.slice da dec.length dk] 28)) 34 #[.int .i64 0,.int .i64 0,.bool false,.bool false,.int .i64 0,.bool false,.slice none 0 0,.slice none 0 0,.slice none 0 0]
 simp only [World.size_alloc] at Rb
 have hszB:(Tryz.prog.info? 104).map (·.size)=some BD.toArray.size:=by rw [List.size_toArray,hl30];exact sz_board
 have hold:(#[.int .i64 0,.int .i64 0,.int .i64 0,.int .i64 0,.int .i64 0,.int .i64 0,.int .i64 0,.int .i64 0,.int .i64 0,.int .i64 0,.int .i64 0,.int .i64 0,.int .i64 0,.int .i64 0,.int .i64 0,.int .i64 0,.int .i64 0,.int .i64 0,.int .i64 0,.int .i64 0,.int .i64 0,.int .i64 0,.int .i64 0,.int .i64 0,.int .i64 0,.bool false,.slice none 0 0,.int .i64 0,.int .i64 0,.int .i64 0]:Array Value).size=BD.toArray.size:=(show 30=BD.length from hl30.symm)
 go_enter Tryz.func16,Tryz.ntmps16
 go_wp2_with fail
 generalize ((w.alloc (.cells #[.bool has,.slice ba batch.length bk,.slice va rounds.length vk,.slice da dec.length dk] 28)).alloc (.cells #[.int .i64 0,.int .i64 0,.bool false,.bool false,.int .i64 0,.bool false,.slice none 0 0,.slice none 0 0,.slice none 0 0] 34))=W at *
 refine (hbo W (hG.r.below hB) (hrb W hB)).mono ?_
 rintro e w1 ⟨rfl,hb1⟩
 replace hB:=hB.trans (hb1.mono hB.size)
 have hgo:w1.heap.size≠0:=by have h1:=hG.o.glob;have h2:=hB.size;omega
 replace Rb:=Rb.below hb1
 have Bz:=Blk.new w1 104 #[.int .i64 0,.int .i64 0,.int .i64 0,.int .i64 0,.int .i64 0,.int .i64 0,.int .i64 0,.int .i64 0,.int .i64 0,.int .i64 0,.int .i64 0,.int .i64 0,.int .i64 0,.int .i64 0,.int .i64 0,.int .i64 0,.int .i64 0,.int .i64 0,.int .i64 0,.int .i64 0,.int .i64 0,.int .i64 0,.int .i64 0,.int .i64 0,.int .i64 0,.bool false,.slice none 0 0,.int .i64 0,.int .i64 0,.int .i64 0]
 have hB2:=below_row (hB.alloc hB.size (.cells #[.int .i64 0,.int .i64 0,.int .i64 0,.int .i64 0,.int .i64 0,.int .i64 0,.int .i64 0,.int .i64 0,.int .i64 0,.int .i64 0,.int .i64 0,.int .i64 0,.int .i64 0,.int .i64 0,.int .i64 0,.int .i64 0,.int .i64 0,.int .i64 0,.int .i64 0,.int .i64 0,.int .i64 0,.int .i64 0,.int .i64 0,.int .i64 0,.int .i64 0,.bool false,.slice none 0 0,.int .i64 0,.int .i64 0,.int .i64 0] 104)) (g:=w1.heap.size) hB.size BD.toArray
 have Rb2:Blk ((w1.alloc (.cells #[.int .i64 0,.int .i64 0,.int .i64 0,.int .i64 0,.int .i64 0,.int .i64 0,.int .i64 0,.int .i64 0,.int .i64 0,.int .i64 0,.int .i64 0,.int .i64 0,.int .i64 0,.int .i64 0,.int .i64 0,.int .i64 0,.int .i64 0,.int .i64 0,.int .i64 0,.int .i64 0,.int .i64 0,.int .i64 0,.int .i64 0,.int .i64 0,.int .i64 0,.bool false,.slice none 0 0,.int .i64 0,.int .i64 0,.int .i64 0] 104)).setRow w1.heap.size BD.toArray) (w.heap.size + 1) 34 #[.int .i64 0,.int .i64 0,.bool false,.bool false,.int .i64 0,.bool false,.slice none 0 0,.slice none 0 0,.slice none 0 0]:=(setRow_other _ _ _ _ (by have:=Rb.lt;omega)).trans (Rb.below ((Below.refl _ _).alloc (Nat.le_refl _) _))
 have B2:=Bz.row BD.toArray
 have hlt2:w.heap.size + 1 < w1.heap.size:=Rb.lt
 clear hbo hrb hb1 Rb
 by_cases h0:C=0
 case neg=>
  have E1:Hid (D=C∧E=ine0∧K0=0∧K1=false∧K2=false∧K3=0):=HF.out.1 h0
  have h0' : (C != 0)=true:=by simpa using h0
  clear HF HBD h0 B2 hin
  have Rr:=Rb2.row #[.int .i64 C,.int .i64 0,.bool false,.bool false,.int .i64 0,.bool false,.slice none 0 0,.slice none 0 0,.slice none 0 0]
  have hBr:=below_row hB2 (g:=w.heap.size + 1) (by omega) #[.int .i64 C,.int .i64 0,.bool false,.bool false,.int .i64 0,.bool false,.slice none 0 0,.slice none 0 0,.slice none 0 0]
  have hsr:(Tryz.prog.info? 34).map (·.size)=some (#[.int .i64 C,.int .i64 0,.bool false,.bool false,.int .i64 0,.bool false,.slice none 0 0,.slice none 0 0,.slice none 0 0]:Array Value).size:=sz_res
  go_wp2_with (first | (refine st_row (by kernel_rfl) 104 _ _ rfl _ BD.toArray rfl rfl 104 _ Bz hszB hold hone ?_) | (refine st_row (by kernel_rfl) 34 _ _ rfl _ #[.int .i64 C,.int .i64 0,.bool false,.bool false,.int .i64 0,.bool false,.slice none 0 0,.slice none 0 0,.slice none 0 0] rfl rfl 34 _ Rb2 hsr rfl (by simp [Value.oneCell']) ?_))
  have q0:=Rr.cell 0 _ rfl
  have q1:=Rr.cell 1 _ rfl
  have q2:=Rr.cell 2 _ rfl
  have q3:=Rr.cell 3 _ rfl
  have q4:=Rr.cell 4 _ rfl
  have q5:=Rr.cell 5 _ rfl
  have q6:=Rr.cell 6 _ rfl
  have q7:=Rr.cell 7 _ rfl
  have q8:=Rr.cell 8 _ rfl
  exact bodyPost_ret (v:=.agg #[.int .i64 C,.int .i64 0,.bool false,.bool false,.int .i64 0,.bool false,.slice none 0 0,.slice none 0 0,.slice none 0 0]) (by simp [results,Tryz.results16,go_sem,q0,q1,q2,q3,q4,q5,q6,q7,q8]) rfl ⟨inst0,by rw [E1.out.1,E1.out.2.2.1,E1.out.2.2.2.1,E1.out.2.2.2.2.1,E1.out.2.2.2.2.2];rfl,E1.out.2.1.symm,inst0_own _,inst0_nd,fun k hk=>by rw [inst0_ft] at hk;simp at hk,hBr⟩

 case pos=>
  obtain ⟨hBD,hwel,h4,hd3⟩:=HBD.out h0
  obtain ⟨hi0,n,r,rfl,rfl,hn,hr,f8,fC,f6,f0⟩:=HF.out.2 h0
  have H0:Hid (IF=0):=hi0
  have HB9:Hid (BD=brdC has (.slice ba batch.length bk) rs dec):=hBD
  have HD3:Hid (dec.length=3):=hd3
  have F8:Hid _:=f8
  have FC:Hid _:=fC
  have F6' : Hid _:=f6
  have F0:Hid _:=f0
  subst h0
  clear HBD hBD hd3 hi0 f8 fC f6 f0 HF
  have hsR:(Tryz.prog.info? 102).map (·.size)=some (rndC rs).length:=by rw [rndC_length hwel h4];exact sz_rounds
  have RGR:=rng B2 (rndC rs) (o:=0) (fun j v hv=>by
   have hj:=(List.getElem?_eq_some_iff.1 hv).1
   rw [rndC_length hwel h4] at hj
   rw [Nat.zero_add,List.getElem?_toArray,HB9.out,brd_rnd hwel h4 j hj]
   exact hv)
  go_wp2_with (first | (refine st_row (by kernel_rfl) 104 _ _ rfl _ BD.toArray rfl rfl 104 _ Bz hszB hold hone ?_) | (refine ld_g (by kernel_rfl) 102 _ rfl _ _ rfl (rndC rs) _ RGR Tryz.underlying102 rfl hsR ?_))
  generalize ((w1.alloc (.cells #[.int .i64 0,.int .i64 0,.int .i64 0,.int .i64 0,.int .i64 0,.int .i64 0,.int .i64 0,.int .i64 0,.int .i64 0,.int .i64 0,.int .i64 0,.int .i64 0,.int .i64 0,.int .i64 0,.int .i64 0,.int .i64 0,.int .i64 0,.int .i64 0,.int .i64 0,.int .i64 0,.int .i64 0,.int .i64 0,.int .i64 0,.int .i64 0,.int .i64 0,.bool false,.slice none 0 0,.int .i64 0,.int .i64 0,.int .i64 0] 104)).setRow w1.heap.size BD.toArray)=X0 at *
  refine (hasProp_any rs r n X0 hwel h4 hr hn).mono ?_
  rintro e X ⟨rfl,hb2⟩
  replace Rb2:=Rb2.below hb2
  replace B2:=B2.below hb2
  have hBX:=hB2.trans (hb2.mono hB2.size)
  clear hb2 Bz RGR hB2 hsR
  by_cases hp3:proA rs r n=3
  case pos=>
   have E1:Hid (D=8∧E=ine0∧K0=0∧K1=false∧K2=false∧K3=0):=F8.out hp3
   have hq:(proA rs r n != 3)=false:=by rw [hp3];rfl
   clear F8 FC F6' F0 hp3 hin B2 HB9
   have Rr:=Rb2.row #[.int .i64 8,.int .i64 0,.bool false,.bool false,.int .i64 0,.bool false,.slice none 0 0,.slice none 0 0,.slice none 0 0]
   have hBr:=below_row hBX (g:=w.heap.size + 1) (by omega) #[.int .i64 8,.int .i64 0,.bool false,.bool false,.int .i64 0,.bool false,.slice none 0 0,.slice none 0 0,.slice none 0 0]
   have hsr:(Tryz.prog.info? 34).map (·.size)=some (#[.int .i64 8,.int .i64 0,.bool false,.bool false,.int .i64 0,.bool false,.slice none 0 0,.slice none 0 0,.slice none 0 0]:Array Value).size:=sz_res
   go_wp2_with (first | (refine st_row (by kernel_rfl) 34 _ _ rfl _ #[.int .i64 8,.int .i64 0,.bool false,.bool false,.int .i64 0,.bool false,.slice none 0 0,.slice none 0 0,.slice none 0 0] rfl rfl 34 _ Rb2 hsr rfl (by simp [Value.oneCell']) ?_))
   have q0:=Rr.cell 0 _ rfl
   have q1:=Rr.cell 1 _ rfl
   have q2:=Rr.cell 2 _ rfl
   have q3:=Rr.cell 3 _ rfl
   have q4:=Rr.cell 4 _ rfl
   have q5:=Rr.cell 5 _ rfl
   have q6:=Rr.cell 6 _ rfl
   have q7:=Rr.cell 7 _ rfl
   have q8:=Rr.cell 8 _ rfl
   exact bodyPost_ret (v:=.agg #[.int .i64 8,.int .i64 0,.bool false,.bool false,.int .i64 0,.bool false,.slice none 0 0,.slice none 0 0,.slice none 0 0]) (by simp [results,Tryz.results16,go_sem,q0,q1,q2,q3,q4,q5,q6,q7,q8]) rfl ⟨inst0,by rw [E1.out.1,E1.out.2.2.1,E1.out.2.2.2.1,E1.out.2.2.2.2.1,E1.out.2.2.2.2.2];rfl,E1.out.2.1.symm,inst0_own _,inst0_nd,fun k hk=>by rw [inst0_ft] at hk;simp at hk,hBr⟩

  case neg=>
   have hq:(proA rs r n != 3)=true:=by simpa using hp3
   have FC1:=FC.out hp3
   have F61:=F6'.out hp3
   have F01:=F0.out hp3
   clear FC F6' F0 F8 hp3
   obtain ⟨hl1,hl2⟩:=wel_at hwel r hr
   have hsV:(Tryz.prog.info? 97).map (·.size)=some ((rs.getD r rnd0).pro.map iv).length:=by rw [List.length_map,hl2];exact sz_row
   have hs30:(Tryz.prog.info? 104).map (·.size)=some (brdC has (.slice ba batch.length bk) rs dec).length:=by rw [brdC_length hwel h4 HD3.out];exact sz_board
   have hr4:(r:Int) < 4:=by omega
   have hn3:(n:Int) < 3:=by omega
   rw [HB9.out] at B2
   have LV:=ld_at ((rs.getD r rnd0).pro.map iv) 97 _ (rng B2 ((rs.getD r rnd0).pro.map iv) (o:=1 + r * 6 + 3) (fun j v hv=>by
     obtain ⟨hj,rfl⟩:=row_get hl2 hv
     rw [List.getElem?_toArray,brd_rnd hwel h4 _ (by omega)]
     exact rnd_pro hwel r hr j hj)) B2.lt Tryz.underlying97 rfl hsV
   have LB:=ld_at (brdC has (.slice ba batch.length bk) rs dec) 104 _ (rng B2 (brdC has (.slice ba batch.length bk) rs dec) (o:=0) (fun j v hv=>by rw [Nat.zero_add,List.getElem?_toArray];exact hv)) B2.lt Tryz.underlying104 rfl hs30
   have hli:=fun w=>list_any (rs.getD r rnd0).pro w hl2
   have hcf:=fun w=>coinFor_any has (.slice ba batch.length bk) rs dec coin w hwel h4
   have hch:=fun a c w hG (hR:Row .i64 w a (rs.getD r rnd0).pro)=>implChoice_any a c (rs.getD r rnd0).pro mask (coF has coin) w hG hR (by omega)
   rw [hl2] at hch
   have F6:Hid (∀ (_:chC (rs.getD r rnd0).pro mask (coF has coin)=0),r + 1 < 4→r + 1 < rs.length→repA rs (r + 1) n≠3→D=6∧E=ine0∧K0=0∧K1=false∧K2=false∧K3=0):=fun hc h1 h2 h3=>by
    have e:rpC rs (r + 1) n=6:=if_pos ⟨h1,h2,h3⟩
    have:=F61 hc (by rw [e];decide)
    rw [e] at this
    exact this
   have FA:Hid (∀ (_:chC (rs.getD r rnd0).pro mask (coF has coin)=0),r + 1 < 4→¬ (r + 1 < rs.length∧repA rs (r + 1) n≠3)→D=0∧E=⟨has,batch.map TxnQ.e,rstR (ensR rs (r + 1)) (r + 1) n (cfV (rs.getD r rnd0).pro mask (coF has coin)),if cfD (rs.getD r rnd0).pro mask (coF has coin) then dec.set n (cfV (rs.getD r rnd0).pro mask (coF has coin)) else dec⟩∧K0=0∧K1=cfD (rs.getD r rnd0).pro mask (coF has coin)∧K2=cfK (rs.getD r rnd0).pro mask (coF has coin)∧K3=cfV (rs.getD r rnd0).pro mask (coF has coin)):=fun hc h1 h2=>by
    have e:rpC rs (r + 1) n=0:=if_neg (fun h=>h2 h.2)
    have e2:∀ v,rpI rs (r + 1) n v=rstR (ensR rs (r + 1)) (r + 1) n v:=fun v=>if_pos ⟨h1,h2⟩
    have:=F01 hc e
    rw [e2] at this
    exact this
   have FB:Hid (∀ (_:chC (rs.getD r rnd0).pro mask (coF has coin)=0),¬ (r + 1 < 4)→D=0∧E=⟨has,batch.map TxnQ.e,rs,if cfD (rs.getD r rnd0).pro mask (coF has coin) then dec.set n (cfV (rs.getD r rnd0).pro mask (coF has coin)) else dec⟩∧K0=0∧K1=cfD (rs.getD r rnd0).pro mask (coF has coin)∧K2=cfK (rs.getD r rnd0).pro mask (coF has coin)∧K3=cfV (rs.getD r rnd0).pro mask (coF has coin)):=fun hc h1=>by
    have e:rpC rs (r + 1) n=0:=if_neg (fun h=>h1 h.1)
    have e2:∀ v,rpI rs (r + 1) n v=rs:=fun v=>if_neg (fun h=>h1 h.1)
    have:=F01 hc e
    rw [e2] at this
    exact this
   have FC:Hid _:=FC1
   clear FC1 F61 F01 HB9 hsV hs30 hl1
   generalize chC (rs.getD r rnd0).pro mask (coF has coin)=CC at *
   generalize cfD (rs.getD r rnd0).pro mask (coF has coin)=CD at *
   generalize cfK (rs.getD r rnd0).pro mask (coF has coin)=CK at *
   generalize cfV (rs.getD r rnd0).pro mask (coF has coin)=CV at *
   generalize coF has coin=co at *
   generalize hpro:(rs.getD r rnd0).pro=pro at *
   clear hpro
   go_wp2_with fail
   clear hq
   refine region_vals [some 33,some 34,some 35,some 36,some 37,some 38,some 39,some 40,some 41,some 42,some 43,some 44,some 13] (fun vs w' => ∃ (a4:Option Addr) (c4 g:Nat),vs=[.int .i64 (r:Int),.pointer (some ⟨w1.heap.size,0,none⟩),.pointer (some ⟨w1.heap.size,1,none⟩),.pointer (some ⟨w1.heap.size,1 + r * 6,none⟩),.pointer (some ⟨w1.heap.size,1 + r * 6 + 3,none⟩),.agg (pro.map iv).toArray,.slice a4 3 c4,.int .i64 mask,.agg (brdC has (.slice ba batch.length bk) rs dec).toArray,.int .i64 coin,.int .i64 co,.agg #[.int .i64 CC,.bool CD,.bool CK,.int .i64 CV],.pointer (some ⟨g,0,none⟩)]∧X.heap.size≤g∧Blk w' g 32 #[.int .i64 CC,.bool CD,.bool CK,.int .i64 CV]∧Below X.heap.size X w') ?_ ?_
   ·have hW:Below X.heap.size X X.drew:=(Below.refl _ _).drew
    have hnn:Nonempty (Lat X):=⟨⟨X,Below.refl _ _⟩⟩
    refine text_begin (S:=fun w' => ∃ u:Lat X,w' = u.val) (by kernel_rfl) ?_
    refine seg_range [(0,5),(7,1),(9,1)] 7 (by kernel_rfl) (by kernel_rfl) (by kernel_rfl) (by kernel_rfl) (by kernel_rfl) ⟨⟨_,hW⟩,rfl⟩ ?_
    simp only [pickR,List.toList_toArray,List.flatMap_cons,List.flatMap_nil,List.drop_succ_cons,List.drop_zero,List.take_succ_cons,List.take_zero,List.cons_append,List.nil_append,List.append_nil]
    repeat go_big_quiet_step (fail)
    refine wpQuiet_nil ?_
    refine quiet_at 5 (some 38) (.agg (pro.map iv).toArray) 6 (by kernel_rfl) (by kernel_rfl) (by kernel_rfl) (by kernel_rfl) (by kernel_rfl) (fun u hu=>?_) ⟨⟨_,hW⟩,rfl⟩ ?_
    ·obtain ⟨u,rfl⟩:=hu
     show some (((Instr.loadAt 97 (.pointer (some ⟨w1.heap.size,1 + r * 6 + 3,none⟩))) >>= fun x=>pure (Next.value x):Sem Next).run Tryz.prog u.val)=_
     rw [Sem.run_bind,LV u]
     rfl
    simp only [Act.put,List.getElem_toArray,List.getElem_cons_succ,List.getElem_cons_zero,List.setIfInBounds_toArray,List.set_cons_zero,List.set_cons_succ]
    refine quiet_at 8 (some 41) (.agg (brdC has (.slice ba batch.length bk) rs dec).toArray) 5 (by kernel_rfl) (by kernel_rfl) (by kernel_rfl) (by kernel_rfl) (by kernel_rfl) (fun u hu=>?_) ⟨⟨_,hW⟩,rfl⟩ ?_
    ·obtain ⟨u,rfl⟩:=hu
     show some (((Instr.loadAt 104 (.pointer (some ⟨w1.heap.size,0,none⟩))) >>= fun x=>pure (Next.value x):Sem Next).run Tryz.prog u.val)=_
     rw [Sem.run_bind,LB u]
     rfl
    simp only [Act.put,List.getElem_toArray,List.getElem_cons_succ,List.getElem_cons_zero,List.setIfInBounds_toArray,List.set_cons_zero,List.set_cons_succ]
    clear LV LB
    generalize X.drew=wd at hW ⊢
    refine two_at 6 12 4 (by kernel_rfl) (by kernel_rfl) ?_ ?_
    ·skip
     refine op_call 6 (some 39) 73 #[.agg (pro.map iv).toArray] (by kernel_rfl) (by kernel_rfl) (by kernel_rfl) ?_
     refine (hli _).mono ?_
     rintro e x1 ⟨a4,c4,rfl,O4,G4,RW,hb⟩
     clear O4 G4
     replace hW:=hW.trans (hb.mono hW.size)
     clear hb
     refine ⟨_,rfl,⟨⟨_,hW⟩,rfl⟩,?_⟩
     simp only [Act.put,List.getElem_toArray,List.getElem_cons_succ,List.getElem_cons_zero,List.setIfInBounds_toArray,List.set_cons_zero,List.set_cons_succ]
     refine two_at 10 12 3 (by kernel_rfl) (by kernel_rfl) ?_ ?_
     ·skip
      refine op_call 10 (some 43) 76 #[.agg (brdC has (.slice ba batch.length bk) rs dec).toArray,.int .i64 coin] (by kernel_rfl) (by kernel_rfl) (by kernel_rfl) ?_
      refine (hcf _).mono ?_
      rintro e x2 ⟨rfl,hb⟩
      replace RW:=RW.below hb
      replace hW:=hW.trans (hb.mono hW.size)
      clear hb
      refine ⟨_,rfl,⟨⟨_,hW⟩,rfl⟩,?_⟩
      simp only [Act.put,List.getElem_toArray,List.getElem_cons_succ,List.getElem_cons_zero,List.setIfInBounds_toArray,List.set_cons_zero,List.set_cons_succ]
      refine two_at 11 12 2 (by kernel_rfl) (by kernel_rfl) ?_ ?_
      ·skip
       refine op_call 11 (some 44) 75 #[.slice a4 3 c4,.int .i64 mask,.int .i64 co] (by kernel_rfl) (by kernel_rfl) (by kernel_rfl) ?_
       refine (hch a4 c4 _ (hG.r.below (hBX.trans (hW.mono hBX.size))) RW).mono ?_
       rintro e x3 ⟨rfl,hb⟩
       replace RW:=RW.below hb
       replace hW:=hW.trans (hb.mono hW.size)
       clear hb
       refine ⟨_,rfl,⟨⟨_,hW⟩,rfl⟩,?_⟩
       simp only [Act.put,List.getElem_toArray,List.getElem_cons_succ,List.getElem_cons_zero,List.setIfInBounds_toArray,List.set_cons_zero,List.set_cons_succ]
       refine one_at 12 _ 1 (by kernel_rfl) rfl (by kernel_rfl) ?_
       have Bz:=Blk.new x3 32 #[.int .i64 0,.bool false,.bool false,.int .i64 0]
       have hzz:X.heap.size≤x3.heap.size:=hW.size
       have hba:Below x3.heap.size x3 (x3.alloc (.cells #[.int .i64 0,.bool false,.bool false,.int .i64 0] 32)):=by go_grown
       replace hW:=hW.trans (hba.mono hW.size)
       clear hba
       go_wp2
       refine ThenGo.to ⟨⟨⟨_,hW⟩,rfl⟩,?_⟩
       generalize hGy4:x3.heap.size=g at *
       clear hGy4
       generalize x3.alloc (.cells #[.int .i64 0,.bool false,.bool false,.int .i64 0] 32)=y4 at *
       refine one_at 13 _ 0 (by kernel_rfl) rfl (by kernel_rfl) ?_
       have hgW:X.heap.size≤g:=by omega
       have Rz:=Bz.row #[.int .i64 CC,.bool CD,.bool CK,.int .i64 CV]
       replace hW:=below_row hW hgW #[.int .i64 CC,.bool CD,.bool CK,.int .i64 CV]
       refine st_row (by kernel_rfl) 32 _ _ rfl _ #[.int .i64 CC,.bool CD,.bool CK,.int .i64 CV] rfl rfl 32 _ Bz sz_choice rfl (by simp [Value.oneCell']) ?_
       refine ThenGo.to ⟨⟨⟨_,hW⟩,rfl⟩,?_⟩
       refine text_end (by kernel_rfl) ?_
       refine ⟨rfl,_,⟨a4,c4,g,rfl,hgW,Rz,hW⟩,?_⟩
       simp only [putAll,Act.put,List.getElem_toArray,List.getElem_cons_succ,List.getElem_cons_zero,List.setIfInBounds_toArray,List.set_cons_zero,List.set_cons_succ]
       try rfl
      ·skip
       refine op_one 12 _ rfl ?_
       have Bz:=Blk.new x2 32 #[.int .i64 0,.bool false,.bool false,.int .i64 0]
       have hzz:X.heap.size≤x2.heap.size:=hW.size
       have hba:Below x2.heap.size x2 (x2.alloc (.cells #[.int .i64 0,.bool false,.bool false,.int .i64 0] 32)):=by go_grown
       replace RW:=RW.below hba
       replace hW:=hW.trans (hba.mono hW.size)
       clear hba
       go_wp2
       refine ThenGo.to ⟨⟨⟨_,hW⟩,rfl⟩,?_⟩
       generalize hGy5:x2.heap.size=g at *
       clear hGy5
       generalize x2.alloc (.cells #[.int .i64 0,.bool false,.bool false,.int .i64 0] 32)=y5 at *
       refine call_at 11 (some 44) 75 #[.slice a4 3 c4,.int .i64 mask,.int .i64 co] 1 (by kernel_rfl) (by kernel_rfl) (by kernel_rfl) (by kernel_rfl) (by kernel_rfl) ?_
       refine (hch a4 c4 _ (hG.r.below (hBX.trans (hW.mono hBX.size))) RW).mono ?_
       rintro e x6 ⟨rfl,hb⟩
       replace RW:=RW.below hb
       replace Bz:=Bz.below hb
       replace hW:=hW.trans (hb.mono hW.size)
       clear hb
       refine ⟨_,rfl,⟨⟨_,hW⟩,rfl⟩,?_⟩
       simp only [Act.put,List.getElem_toArray,List.getElem_cons_succ,List.getElem_cons_zero,List.setIfInBounds_toArray,List.set_cons_zero,List.set_cons_succ]
       refine one_at 13 _ 0 (by kernel_rfl) rfl (by kernel_rfl) ?_
       have hgW:X.heap.size≤g:=by omega
       have Rz:=Bz.row #[.int .i64 CC,.bool CD,.bool CK,.int .i64 CV]
       replace hW:=below_row hW hgW #[.int .i64 CC,.bool CD,.bool CK,.int .i64 CV]
       refine st_row (by kernel_rfl) 32 _ _ rfl _ #[.int .i64 CC,.bool CD,.bool CK,.int .i64 CV] rfl rfl 32 _ Bz sz_choice rfl (by simp [Value.oneCell']) ?_
       refine ThenGo.to ⟨⟨⟨_,hW⟩,rfl⟩,?_⟩
       refine text_end (by kernel_rfl) ?_
       refine ⟨rfl,_,⟨a4,c4,g,rfl,hgW,Rz,hW⟩,?_⟩
       simp only [putAll,Act.put,List.getElem_toArray,List.getElem_cons_succ,List.getElem_cons_zero,List.setIfInBounds_toArray,List.set_cons_zero,List.set_cons_succ]
       try rfl
     ·skip
      refine op_one 12 _ rfl ?_
      have Bz:=Blk.new x1 32 #[.int .i64 0,.bool false,.bool false,.int .i64 0]
      have hzz:X.heap.size≤x1.heap.size:=hW.size
      have hba:Below x1.heap.size x1 (x1.alloc (.cells #[.int .i64 0,.bool false,.bool false,.int .i64 0] 32)):=by go_grown
      replace RW:=RW.below hba
      replace hW:=hW.trans (hba.mono hW.size)
      clear hba
      go_wp2
      refine ThenGo.to ⟨⟨⟨_,hW⟩,rfl⟩,?_⟩
      generalize hGy7:x1.heap.size=g at *
      clear hGy7
      generalize x1.alloc (.cells #[.int .i64 0,.bool false,.bool false,.int .i64 0] 32)=y7 at *
      refine call_at 10 (some 43) 76 #[.agg (brdC has (.slice ba batch.length bk) rs dec).toArray,.int .i64 coin] 2 (by kernel_rfl) (by kernel_rfl) (by kernel_rfl) (by kernel_rfl) (by kernel_rfl) ?_
      refine (hcf _).mono ?_
      rintro e x8 ⟨rfl,hb⟩
      replace RW:=RW.below hb
      replace Bz:=Bz.below hb
      replace hW:=hW.trans (hb.mono hW.size)
      clear hb
      refine ⟨_,rfl,⟨⟨_,hW⟩,rfl⟩,?_⟩
      simp only [Act.put,List.getElem_toArray,List.getElem_cons_succ,List.getElem_cons_zero,List.setIfInBounds_toArray,List.set_cons_zero,List.set_cons_succ]
      refine call_at 11 (some 44) 75 #[.slice a4 3 c4,.int .i64 mask,.int .i64 co] 1 (by kernel_rfl) (by kernel_rfl) (by kernel_rfl) (by kernel_rfl) (by kernel_rfl) ?_
      refine (hch a4 c4 _ (hG.r.below (hBX.trans (hW.mono hBX.size))) RW).mono ?_
      rintro e x9 ⟨rfl,hb⟩
      replace RW:=RW.below hb
      replace Bz:=Bz.below hb
      replace hW:=hW.trans (hb.mono hW.size)
      clear hb
      refine ⟨_,rfl,⟨⟨_,hW⟩,rfl⟩,?_⟩
      simp only [Act.put,List.getElem_toArray,List.getElem_cons_succ,List.getElem_cons_zero,List.setIfInBounds_toArray,List.set_cons_zero,List.set_cons_succ]
      refine one_at 13 _ 0 (by kernel_rfl) rfl (by kernel_rfl) ?_
      have hgW:X.heap.size≤g:=by omega
      have Rz:=Bz.row #[.int .i64 CC,.bool CD,.bool CK,.int .i64 CV]
      replace hW:=below_row hW hgW #[.int .i64 CC,.bool CD,.bool CK,.int .i64 CV]
      refine st_row (by kernel_rfl) 32 _ _ rfl _ #[.int .i64 CC,.bool CD,.bool CK,.int .i64 CV] rfl rfl 32 _ Bz sz_choice rfl (by simp [Value.oneCell']) ?_
      refine ThenGo.to ⟨⟨⟨_,hW⟩,rfl⟩,?_⟩
      refine text_end (by kernel_rfl) ?_
      refine ⟨rfl,_,⟨a4,c4,g,rfl,hgW,Rz,hW⟩,?_⟩
      simp only [putAll,Act.put,List.getElem_toArray,List.getElem_cons_succ,List.getElem_cons_zero,List.setIfInBounds_toArray,List.set_cons_zero,List.set_cons_succ]
      try rfl
    ·skip
     refine op_one 12 _ rfl ?_
     have Bz:=Blk.new wd 32 #[.int .i64 0,.bool false,.bool false,.int .i64 0]
     have hzz:X.heap.size≤wd.heap.size:=hW.size
     have hba:Below wd.heap.size wd (wd.alloc (.cells #[.int .i64 0,.bool false,.bool false,.int .i64 0] 32)):=by go_grown
     replace hW:=hW.trans (hba.mono hW.size)
     clear hba
     go_wp2
     refine ThenGo.to ⟨⟨⟨_,hW⟩,rfl⟩,?_⟩
     generalize hGy10:wd.heap.size=g at *
     clear hGy10
     generalize wd.alloc (.cells #[.int .i64 0,.bool false,.bool false,.int .i64 0] 32)=y10 at *
     refine call_at 6 (some 39) 73 #[.agg (pro.map iv).toArray] 3 (by kernel_rfl) (by kernel_rfl) (by kernel_rfl) (by kernel_rfl) (by kernel_rfl) ?_
     refine (hli _).mono ?_
     rintro e x11 ⟨a4,c4,rfl,O4,G4,RW,hb⟩
     clear O4 G4
     replace Bz:=Bz.below hb
     replace hW:=hW.trans (hb.mono hW.size)
     clear hb
     refine ⟨_,rfl,⟨⟨_,hW⟩,rfl⟩,?_⟩
     simp only [Act.put,List.getElem_toArray,List.getElem_cons_succ,List.getElem_cons_zero,List.setIfInBounds_toArray,List.set_cons_zero,List.set_cons_succ]
     refine call_at 10 (some 43) 76 #[.agg (brdC has (.slice ba batch.length bk) rs dec).toArray,.int .i64 coin] 2 (by kernel_rfl) (by kernel_rfl) (by kernel_rfl) (by kernel_rfl) (by kernel_rfl) ?_
     refine (hcf _).mono ?_
     rintro e x12 ⟨rfl,hb⟩
     replace RW:=RW.below hb
     replace Bz:=Bz.below hb
     replace hW:=hW.trans (hb.mono hW.size)
     clear hb
     refine ⟨_,rfl,⟨⟨_,hW⟩,rfl⟩,?_⟩
     simp only [Act.put,List.getElem_toArray,List.getElem_cons_succ,List.getElem_cons_zero,List.setIfInBounds_toArray,List.set_cons_zero,List.set_cons_succ]
     refine call_at 11 (some 44) 75 #[.slice a4 3 c4,.int .i64 mask,.int .i64 co] 1 (by kernel_rfl) (by kernel_rfl) (by kernel_rfl) (by kernel_rfl) (by kernel_rfl) ?_
     refine (hch a4 c4 _ (hG.r.below (hBX.trans (hW.mono hBX.size))) RW).mono ?_
     rintro e x13 ⟨rfl,hb⟩
     replace RW:=RW.below hb
     replace Bz:=Bz.below hb
     replace hW:=hW.trans (hb.mono hW.size)
     clear hb
     refine ⟨_,rfl,⟨⟨_,hW⟩,rfl⟩,?_⟩
     simp only [Act.put,List.getElem_toArray,List.getElem_cons_succ,List.getElem_cons_zero,List.setIfInBounds_toArray,List.set_cons_zero,List.set_cons_succ]
     refine one_at 13 _ 0 (by kernel_rfl) rfl (by kernel_rfl) ?_
     have hgW:X.heap.size≤g:=by omega
     have Rz:=Bz.row #[.int .i64 CC,.bool CD,.bool CK,.int .i64 CV]
     replace hW:=below_row hW hgW #[.int .i64 CC,.bool CD,.bool CK,.int .i64 CV]
     refine st_row (by kernel_rfl) 32 _ _ rfl _ #[.int .i64 CC,.bool CD,.bool CK,.int .i64 CV] rfl rfl 32 _ Bz sz_choice rfl (by simp [Value.oneCell']) ?_
     refine ThenGo.to ⟨⟨⟨_,hW⟩,rfl⟩,?_⟩
     refine text_end (by kernel_rfl) ?_
     refine ⟨rfl,_,⟨a4,c4,g,rfl,hgW,Rz,hW⟩,?_⟩
     simp only [putAll,Act.put,List.getElem_toArray,List.getElem_cons_succ,List.getElem_cons_zero,List.setIfInBounds_toArray,List.set_cons_zero,List.set_cons_succ]
     try rfl
   rintro vs w5 ⟨a4,c4,g,rfl,hgX,BC,hX5⟩
   simp only [putAll,Act.put,List.setIfInBounds_toArray,List.set_cons_zero,List.set_cons_succ]
   clear LV LB hli hcf hch
   have hX1:=B2.lt
   have B5:=B2.below hX5
   have R3:=Rb2.below hX5
   have hBg:=hBX.trans (hX5.mono hBX.size)
   clear B2 Rb2 hBX hX5
   have c0:=BC.cell 0 _ rfl
   have c1:=BC.cell 1 _ rfl
   have c2:=BC.cell 2 _ rfl
   have c3:=BC.cell 3 _ rfl
   by_cases hcc:CC=0
   case neg=>
    have E1:Hid (D=CC∧E=ine0∧K0=0∧K1=false∧K2=false∧K3=0):=FC.out hcc
    have h0' : (CC != 0)=true:=by simpa using hcc
    clear FC F6 FA FB hcc hin B5
    have Rr:=R3.row #[.int .i64 CC,.int .i64 0,.bool false,.bool false,.int .i64 0,.bool false,.slice none 0 0,.slice none 0 0,.slice none 0 0]
    have hBr:=below_row hBg (g:=w.heap.size + 1) (by omega) #[.int .i64 CC,.int .i64 0,.bool false,.bool false,.int .i64 0,.bool false,.slice none 0 0,.slice none 0 0,.slice none 0 0]
    have hsr:(Tryz.prog.info? 34).map (·.size)=some (#[.int .i64 CC,.int .i64 0,.bool false,.bool false,.int .i64 0,.bool false,.slice none 0 0,.slice none 0 0,.slice none 0 0]:Array Value).size:=sz_res
    go_wp2_with (first | (refine st_row (by kernel_rfl) 34 _ _ rfl _ #[.int .i64 CC,.int .i64 0,.bool false,.bool false,.int .i64 0,.bool false,.slice none 0 0,.slice none 0 0,.slice none 0 0] rfl rfl 34 _ R3 hsr rfl (by simp [Value.oneCell']) ?_))
    have q0:=Rr.cell 0 _ rfl
    have q1:=Rr.cell 1 _ rfl
    have q2:=Rr.cell 2 _ rfl
    have q3:=Rr.cell 3 _ rfl
    have q4:=Rr.cell 4 _ rfl
    have q5:=Rr.cell 5 _ rfl
    have q6:=Rr.cell 6 _ rfl
    have q7:=Rr.cell 7 _ rfl
    have q8:=Rr.cell 8 _ rfl
    exact bodyPost_ret (v:=.agg #[.int .i64 CC,.int .i64 0,.bool false,.bool false,.int .i64 0,.bool false,.slice none 0 0,.slice none 0 0,.slice none 0 0]) (by simp [results,Tryz.results16,go_sem,q0,q1,q2,q3,q4,q5,q6,q7,q8]) rfl ⟨inst0,by rw [E1.out.1,E1.out.2.2.1,E1.out.2.2.2.1,E1.out.2.2.2.2.1,E1.out.2.2.2.2.2];rfl,E1.out.2.1.symm,inst0_own _,inst0_nd,fun k hk=>by rw [inst0_ft] at hk;simp at hk,hBr⟩

   case pos=>
    replace F6:Hid _:=F6.out hcc
    replace FA:Hid _:=FA.out hcc
    replace FB:Hid _:=FB.out hcc
    subst hcc
    clear FC
    cases CD with
    | true=>
     simp only [if_true] at FA FB
     have HD5:Hid ((dec.set n CV).length=3):=by
      show (dec.set n CV).length=3
      rw [List.length_set]
      exact HD3.out
     have hcd:=B5.cell (27 + n) (iv (dec.getD n 0)) (by rw [List.getElem?_toArray];exact brd_dec hwel h4 HD3.out n hn)
     have hcf:=B5.frozen (27 + n)
     have B6:=B5.set (27 + n) (iv CV)
     rw [List.setIfInBounds_toArray,brd_setD hwel h4] at B6
     have R6:=R3.other (b' := w1.heap.size) (by omega) (27 + n) (iv CV)
     have BC6:=BC.other (b' := w1.heap.size) (by omega) (27 + n) (iv CV)
     have hBg6:Below w.heap.size w (w5.setCell ⟨w1.heap.size,27 + n,none⟩ (iv CV)):=hBg.setCell (p:=⟨w1.heap.size,27 + n,none⟩) (by show w.heap.size≤w1.heap.size;omega) _
     replace B5:=B6
     replace R3:=R6
     replace BC:=BC6
     replace hBg:=hBg6
     clear B6 R6 BC6 hBg6
     have hgw1:g≠w1.heap.size:=by omega
     by_cases hnx:r + 1 < 4
     case pos=>
      have hnx' : (r:Int) + 1 < 4:=by omega
      have hsR:(Tryz.prog.info? 102).map (·.size)=some (rndC rs).length:=by rw [rndC_length hwel h4];exact sz_rounds
      have RGR:=rng B5 (rndC rs) (o:=0) (fun j v hv=>by
       have hj:=(List.getElem?_eq_some_iff.1 hv).1
       rw [rndC_length hwel h4] at hj
       rw [Nat.zero_add,List.getElem?_toArray,brd_rnd hwel h4 j hj]
       exact hv)
      have hhr:∀ b,(decide (r + 1 < rs.length) && (repA rs (r + 1) n != 3))=b→∀ w,Calls Tryz.prog 69 #[.agg (rndC rs).toArray,.int .i64 ((r:Int) + 1),.int .i64 (n:Int)] w fun e w' => e=.returned (.bool b)∧Below w.heap.size w w' := fun b hb w=>by
       have:=hasReport_any rs (r + 1) n w hwel h4 hn
       rw [hb] at this
       exact this
      go_wp2_with (first | (refine ld_g (by kernel_rfl) 102 _ rfl _ _ rfl (rndC rs) _ RGR Tryz.underlying102 rfl hsR ?_))
      clear RGR hsR c0 c1 c2 c3
      generalize w5.setCell ⟨w1.heap.size,27 + n,none⟩ (iv CV)=X2 at *
      by_cases ht:r + 1 < rs.length∧repA rs (r + 1) n≠3
      case pos=>
       have E1:Hid (D=6∧E=ine0∧K0=0∧K1=false∧K2=false∧K3=0):=F6.out hnx ht.1 ht.2
       refine (hhr true (by rw [decide_eq_true ht.1,Bool.true_and];simpa using ht.2) X2).mono ?_
       rintro e w6 ⟨rfl,hb6⟩
       replace R3:=R3.below hb6
       replace hBg:=hBg.trans (hb6.mono hBg.size)
       clear F6 FA FB ht hin B5 hhr hb6
       have Rr:=R3.row #[.int .i64 6,.int .i64 0,.bool false,.bool false,.int .i64 0,.bool false,.slice none 0 0,.slice none 0 0,.slice none 0 0]
       have hBr:=below_row hBg (g:=w.heap.size + 1) (by omega) #[.int .i64 6,.int .i64 0,.bool false,.bool false,.int .i64 0,.bool false,.slice none 0 0,.slice none 0 0,.slice none 0 0]
       have hsr:(Tryz.prog.info? 34).map (·.size)=some (#[.int .i64 6,.int .i64 0,.bool false,.bool false,.int .i64 0,.bool false,.slice none 0 0,.slice none 0 0,.slice none 0 0]:Array Value).size:=sz_res
       go_wp2_with (first | (refine st_row (by kernel_rfl) 34 _ _ rfl _ #[.int .i64 6,.int .i64 0,.bool false,.bool false,.int .i64 0,.bool false,.slice none 0 0,.slice none 0 0,.slice none 0 0] rfl rfl 34 _ R3 hsr rfl (by simp [Value.oneCell']) ?_))
       have q0:=Rr.cell 0 _ rfl
       have q1:=Rr.cell 1 _ rfl
       have q2:=Rr.cell 2 _ rfl
       have q3:=Rr.cell 3 _ rfl
       have q4:=Rr.cell 4 _ rfl
       have q5:=Rr.cell 5 _ rfl
       have q6:=Rr.cell 6 _ rfl
       have q7:=Rr.cell 7 _ rfl
       have q8:=Rr.cell 8 _ rfl
       exact bodyPost_ret (v:=.agg #[.int .i64 6,.int .i64 0,.bool false,.bool false,.int .i64 0,.bool false,.slice none 0 0,.slice none 0 0,.slice none 0 0]) (by simp [results,Tryz.results16,go_sem,q0,q1,q2,q3,q4,q5,q6,q7,q8]) rfl ⟨inst0,by rw [E1.out.1,E1.out.2.2.1,E1.out.2.2.2.1,E1.out.2.2.2.2.1,E1.out.2.2.2.2.2];rfl,E1.out.2.1.symm,inst0_own _,inst0_nd,fun k hk=>by rw [inst0_ft] at hk;simp at hk,hBr⟩

      case neg=>
       have E1:Hid _:=FA.out hnx ht
       have hht:(decide (r + 1 < rs.length) && (repA rs (r + 1) n != 3))=false:=by
        by_cases h9:r + 1 < rs.length
        ·have h8:repA rs (r + 1) n=3:=Decidable.byContradiction (fun h=>ht ⟨h9,h⟩)
         rw [decide_eq_true h9,Bool.true_and,h8]
         rfl
        ·rw [decide_eq_false h9]
         rfl
       refine (hhr false hht X2).mono ?_
       clear hht
       rintro e w6 ⟨rfl,hb6⟩
       replace R3:=R3.below hb6
       replace B5:=B5.below hb6
       replace BC:=BC.below hb6
       replace hBg:=hBg.trans (hb6.mono hBg.size)
       clear F6 FA FB ht hhr hb6
       have hrp:Calls Tryz.prog 70 #[.pointer (some ⟨w1.heap.size,0,none⟩),.int .i64 ((r:Int) + 1),.int .i64 (n:Int),.int .i64 CV] w6 _:=report_any w1.heap.size 104 rs ([.bool has,.slice ba batch.length bk] ++ ((dec.set n CV)).map iv) (r + 1) n CV w6 (hG.o.below hBg) hgo B5 hwel h4 (by omega) hnx hn
       change Calls Tryz.prog _ _ _ fun e w' => _∧Blk w' _ _ (brdC has (.slice ba batch.length bk) (rstR (ensR rs (r + 1)) (r + 1) n CV) (dec.set n CV)).toArray∧_ at hrp
       have hwel5:=wel_rstR (ensR_wel hwel (r + 1)) (r + 1) n (ensR_lt rs (r + 1) (by omega)) CV
       have h45:(rstR (ensR rs (r + 1)) (r + 1) n CV).length≤4:=by rw [rstR_length];exact ensR_le rs (r + 1) h4 hnx
       have c3:=BC.cell 3 _ rfl
       clear B5
       go_wp2_with fail
       clear c3
       refine hrp.mono ?_
       rintro e X5 ⟨rfl,B5,hU5⟩
       replace R3:Blk X5 (w.heap.size + 1) 34 _:=(hU5.block _ R3.lt (by simp only [List.mem_singleton];omega)).trans R3
       replace BC:Blk X5 g 32 _:=(hU5.block _ BC.lt (by simp only [List.mem_singleton];omega)).trans BC
       replace hBg:=Out.keep hBg hU5 hBg.size (fun k hk=>by simp only [List.mem_singleton] at hk;omega)
       clear hU5 hrp
       generalize rstR (ensR rs (r + 1)) (r + 1) n CV=rs5 at *
       go_wp2_with fail
       have hs30:(Tryz.prog.info? 104).map (·.size)=some (brdC has (.slice ba batch.length bk) rs5 (dec.set n CV)).length:=by rw [brdC_length hwel5 h45 HD5.out];exact sz_board
       have hF1:g ∉ [w.heap.size + 1]:=by simp only [List.mem_singleton];omega
       have hF2:w1.heap.size ∉ [w.heap.size + 1]:=by simp only [List.mem_singleton];omega
       have k0:=lato_cell (F:=[w.heap.size + 1]) (BC.cell 0 _ rfl) hF1
       have k1:=lato_cell (F:=[w.heap.size + 1]) (BC.cell 1 _ rfl) hF1
       have k2:=lato_cell (F:=[w.heap.size + 1]) (BC.cell 2 _ rfl) hF1
       have k3:=lato_cell (F:=[w.heap.size + 1]) (BC.cell 3 _ rfl) hF1
       have pB:=ld_atO (F:=[w.heap.size + 1]) (brdC has (.slice ba batch.length bk) rs5 (dec.set n CV)) 104 _ (rng B5 (brdC has (.slice ba batch.length bk) rs5 (dec.set n CV)) (o:=0) (fun j v hv=>by rw [Nat.zero_add,List.getElem?_toArray];exact hv)) hF2 Tryz.underlying104 rfl hs30
       have hnn:Nonempty (LatO [w.heap.size + 1] X5):=⟨⟨X5,Out.refl _ _⟩⟩
       have hW:Below X5.heap.size X5 X5.drew:=(Below.refl _ _).drew
       have hnw:∀ w',Below X5.heap.size X5 w' → ∃ u:LatO [w.heap.size + 1] X5,w' = u.val:=fun w' hw' => ⟨⟨w',Out.of_below hw'⟩,rfl⟩
       refine text_begin (S:=fun w' => ∃ u:LatO [w.heap.size + 1] X5,w' = u.val) (by kernel_rfl) ?_
       refine seg_range [(0,1)] 4 (by kernel_rfl) (by kernel_rfl) (by kernel_rfl) (by kernel_rfl) (by kernel_rfl) (hnw _ hW) ?_
       simp only [pickR,List.toList_toArray,List.flatMap_cons,List.flatMap_nil,List.drop_succ_cons,List.drop_zero,List.take_succ_cons,List.take_zero,List.cons_append,List.nil_append,List.append_nil]
       repeat go_big_quiet_step (fail)
       refine wpQuiet_nil ?_
       refine quiet_at 1 (some 75) (.agg (brdC has (.slice ba batch.length bk) rs5 (dec.set n CV)).toArray) 3 (by kernel_rfl) (by kernel_rfl) (by kernel_rfl) (by kernel_rfl) (by kernel_rfl) (fun u hu=>?_) (hnw _ hW) ?_
       ·obtain ⟨u,rfl⟩:=hu
        show some (((Instr.loadAt 104 (.pointer (some ⟨w1.heap.size,0,none⟩))) >>= fun x=>pure (Next.value x):Sem Next).run Tryz.prog u.val)=_
        rw [Sem.run_bind,pB u]
        rfl
       simp only [Act.put,List.getElem_toArray,List.getElem_cons_succ,List.getElem_cons_zero,List.setIfInBounds_toArray,List.set_cons_zero,List.set_cons_succ]
       refine call_at 2 (some 76) 63 #[.agg (brdC has (.slice ba batch.length bk) rs5 (dec.set n CV)).toArray] 2 (by kernel_rfl) (by kernel_rfl) (by kernel_rfl) (by kernel_rfl) (by kernel_rfl) ?_
       refine (hin H0.out rs5 (dec.set n CV) _ (hTx.below (hBg.trans (hW.mono hBg.size))) hwel5 h45 HD5.out).mono ?_
       rintro e w7 ⟨q,rfl,eq,oq,nq,gq,hb7⟩
       have hX1:=R3.lt
       have hX2:=hW.size
       replace hW:=hW.trans (hb7.mono hW.size)
       have R5:=R3.below hW
       have L5:∀ k∈instK.foot q,w.heap.size + 2≤k:=fun k hk=>by have:=gq k hk;omega
       replace hBg:=hBg.trans (hW.mono hBg.size)
       clear hin gq hb7 R3 pB k0 k1 k2 k3 BC B5 hs30
       have hous:∀ cs,instK.own (w7.setRow (w.heap.size + 1) cs) q:=fun cs=>instK.own_out oq (out_row w7 (w.heap.size + 1) cs) (fun k hk=>by have:=L5 k hk;simp only [List.mem_singleton];omega)
       have HQ:Hid (q.e=E∧(instK.foot q).Nodup∧(∀ k∈instK.foot q,w.heap.size≤k)∧∀ cs,instK.own (w7.setRow (w.heap.size + 1) cs) q):=⟨by rw [eq,E1.out.2.1],nq,fun k hk=>by have:=L5 k hk;omega,hous⟩
       have HD0:Hid (D=0∧K0=0∧K1=true∧K2=CK∧K3=CV):=⟨E1.out.1,E1.out.2.2⟩
       clear E1 eq nq hous L5
       obtain ⟨qh,qb,qbs,qr,qrs,qd,qds⟩:=q
       obtain ⟨s1,t1,rfl⟩:∃ a c,qb=.slice a qbs.length c:=oq.1.shape
       obtain ⟨s2,t2,rfl⟩:∃ a c,qr=.slice a qrs.length c:=oq.2.1.shape
       obtain ⟨s3,t3,rfl⟩:∃ a c,qd=.slice a qds.length c:=oq.2.2.shape
       have Rr:=R5.row #[.int .i64 0,.int .i64 0,.bool true,.bool CK,.int .i64 CV,.bool qh,.slice s1 qbs.length t1,.slice s2 qrs.length t2,.slice s3 qds.length t3]
       have hBr:=below_row hBg (g:=w.heap.size + 1) (by omega) #[.int .i64 0,.int .i64 0,.bool true,.bool CK,.int .i64 CV,.bool qh,.slice s1 qbs.length t1,.slice s2 qrs.length t2,.slice s3 qds.length t3]
       have hUU:Out [w.heap.size + 1] X5 (w7.setRow (w.heap.size + 1) #[.int .i64 0,.int .i64 0,.bool true,.bool CK,.int .i64 CV,.bool qh,.slice s1 qbs.length t1,.slice s2 qrs.length t2,.slice s3 qds.length t3]):=(Out.of_below hW).trans (out_row _ _ _)
       have hsr:(Tryz.prog.info? 34).map (·.size)=some (#[.int .i64 0,.int .i64 0,.bool true,.bool CK,.int .i64 CV,.bool qh,.slice s1 qbs.length t1,.slice s2 qrs.length t2,.slice s3 qds.length t3]:Array Value).size:=sz_res
       clear oq
       refine ⟨_,rfl,hnw _ hW,?_⟩
       simp only [Act.put,List.getElem_toArray,List.getElem_cons_succ,List.getElem_cons_zero,List.setIfInBounds_toArray,List.set_cons_zero,List.set_cons_succ]
       refine quiet_at 3 (some 77) (.agg #[.int .i64 0,.int .i64 0,.bool true,.bool CK,.int .i64 CV,.bool qh,.slice s1 qbs.length t1,.slice s2 qrs.length t2,.slice s3 qds.length t3]) 1 (by kernel_rfl) (by kernel_rfl) (by kernel_rfl) (by kernel_rfl) (by kernel_rfl) (fun u _=>by kernel_rfl) (hnw _ hW) ?_
       simp only [Act.put,List.getElem_toArray,List.getElem_cons_succ,List.getElem_cons_zero,List.setIfInBounds_toArray,List.set_cons_zero,List.set_cons_succ]
       refine one_at 4 _ 0 (by kernel_rfl) rfl (by kernel_rfl) ?_
       refine st_row (by kernel_rfl) 34 _ _ rfl _ #[.int .i64 0,.int .i64 0,.bool true,.bool CK,.int .i64 CV,.bool qh,.slice s1 qbs.length t1,.slice s2 qrs.length t2,.slice s3 qds.length t3] rfl rfl 34 _ R5 hsr rfl (by simp [Value.oneCell']) ?_
       refine ThenGo.to ⟨⟨⟨_,hUU⟩,rfl⟩,?_⟩
       refine text_end (by kernel_rfl) ?_
       go_wp2
       have q0:=Rr.cell 0 _ rfl
       have q1:=Rr.cell 1 _ rfl
       have q2:=Rr.cell 2 _ rfl
       have q3:=Rr.cell 3 _ rfl
       have q4:=Rr.cell 4 _ rfl
       have q5:=Rr.cell 5 _ rfl
       have q6:=Rr.cell 6 _ rfl
       have q7:=Rr.cell 7 _ rfl
       have q8:=Rr.cell 8 _ rfl
       exact bodyPost_ret (v:=.agg #[.int .i64 0,.int .i64 0,.bool true,.bool CK,.int .i64 CV,.bool qh,.slice s1 qbs.length t1,.slice s2 qrs.length t2,.slice s3 qds.length t3]) (by simp [results,Tryz.results16,go_sem,q0,q1,q2,q3,q4,q5,q6,q7,q8]) rfl ⟨⟨qh,.slice s1 qbs.length t1,qbs,.slice s2 qrs.length t2,qrs,.slice s3 qds.length t3,qds⟩,by rw [HD0.out.1,HD0.out.2.1,HD0.out.2.2.1,HD0.out.2.2.2.1,HD0.out.2.2.2.2],HQ.out.1,HQ.out.2.2.2 _,HQ.out.2.1,HQ.out.2.2.1,hBr⟩

     case neg=>
      have E1:Hid _:=FB.out hnx
      have hnx' : ¬ ((r:Int) + 1 < 4):=by omega
      have hwel5:=hwel
      have h45:=h4
      clear F6 FA FB
      go_wp2_with fail
      clear c0 c1 c2 c3
      generalize w5.setCell ⟨w1.heap.size,27 + n,none⟩ (iv CV)=X5 at *
      have hs30:(Tryz.prog.info? 104).map (·.size)=some (brdC has (.slice ba batch.length bk) rs (dec.set n CV)).length:=by rw [brdC_length hwel5 h45 HD5.out];exact sz_board
      have hF1:g ∉ [w.heap.size + 1]:=by simp only [List.mem_singleton];omega
      have hF2:w1.heap.size ∉ [w.heap.size + 1]:=by simp only [List.mem_singleton];omega
      have k0:=lato_cell (F:=[w.heap.size + 1]) (BC.cell 0 _ rfl) hF1
      have k1:=lato_cell (F:=[w.heap.size + 1]) (BC.cell 1 _ rfl) hF1
      have k2:=lato_cell (F:=[w.heap.size + 1]) (BC.cell 2 _ rfl) hF1
      have k3:=lato_cell (F:=[w.heap.size + 1]) (BC.cell 3 _ rfl) hF1
      have pB:=ld_atO (F:=[w.heap.size + 1]) (brdC has (.slice ba batch.length bk) rs (dec.set n CV)) 104 _ (rng B5 (brdC has (.slice ba batch.length bk) rs (dec.set n CV)) (o:=0) (fun j v hv=>by rw [Nat.zero_add,List.getElem?_toArray];exact hv)) hF2 Tryz.underlying104 rfl hs30
      have hnn:Nonempty (LatO [w.heap.size + 1] X5):=⟨⟨X5,Out.refl _ _⟩⟩
      have hW:Below X5.heap.size X5 X5.drew:=(Below.refl _ _).drew
      have hnw:∀ w',Below X5.heap.size X5 w' → ∃ u:LatO [w.heap.size + 1] X5,w' = u.val:=fun w' hw' => ⟨⟨w',Out.of_below hw'⟩,rfl⟩
      refine text_begin (S:=fun w' => ∃ u:LatO [w.heap.size + 1] X5,w' = u.val) (by kernel_rfl) ?_
      refine seg_range [(0,1)] 4 (by kernel_rfl) (by kernel_rfl) (by kernel_rfl) (by kernel_rfl) (by kernel_rfl) (hnw _ hW) ?_
      simp only [pickR,List.toList_toArray,List.flatMap_cons,List.flatMap_nil,List.drop_succ_cons,List.drop_zero,List.take_succ_cons,List.take_zero,List.cons_append,List.nil_append,List.append_nil]
      repeat go_big_quiet_step (fail)
      refine wpQuiet_nil ?_
      refine quiet_at 1 (some 75) (.agg (brdC has (.slice ba batch.length bk) rs (dec.set n CV)).toArray) 3 (by kernel_rfl) (by kernel_rfl) (by kernel_rfl) (by kernel_rfl) (by kernel_rfl) (fun u hu=>?_) (hnw _ hW) ?_
      ·obtain ⟨u,rfl⟩:=hu
       show some (((Instr.loadAt 104 (.pointer (some ⟨w1.heap.size,0,none⟩))) >>= fun x=>pure (Next.value x):Sem Next).run Tryz.prog u.val)=_
       rw [Sem.run_bind,pB u]
       rfl
      simp only [Act.put,List.getElem_toArray,List.getElem_cons_succ,List.getElem_cons_zero,List.setIfInBounds_toArray,List.set_cons_zero,List.set_cons_succ]
      refine call_at 2 (some 76) 63 #[.agg (brdC has (.slice ba batch.length bk) rs (dec.set n CV)).toArray] 2 (by kernel_rfl) (by kernel_rfl) (by kernel_rfl) (by kernel_rfl) (by kernel_rfl) ?_
      refine (hin H0.out rs (dec.set n CV) _ (hTx.below (hBg.trans (hW.mono hBg.size))) hwel5 h45 HD5.out).mono ?_
      rintro e w7 ⟨q,rfl,eq,oq,nq,gq,hb7⟩
      have hX1:=R3.lt
      have hX2:=hW.size
      replace hW:=hW.trans (hb7.mono hW.size)
      have R5:=R3.below hW
      have L5:∀ k∈instK.foot q,w.heap.size + 2≤k:=fun k hk=>by have:=gq k hk;omega
      replace hBg:=hBg.trans (hW.mono hBg.size)
      clear hin gq hb7 R3 pB k0 k1 k2 k3 BC B5 hs30
      have hous:∀ cs,instK.own (w7.setRow (w.heap.size + 1) cs) q:=fun cs=>instK.own_out oq (out_row w7 (w.heap.size + 1) cs) (fun k hk=>by have:=L5 k hk;simp only [List.mem_singleton];omega)
      have HQ:Hid (q.e=E∧(instK.foot q).Nodup∧(∀ k∈instK.foot q,w.heap.size≤k)∧∀ cs,instK.own (w7.setRow (w.heap.size + 1) cs) q):=⟨by rw [eq,E1.out.2.1],nq,fun k hk=>by have:=L5 k hk;omega,hous⟩
      have HD0:Hid (D=0∧K0=0∧K1=true∧K2=CK∧K3=CV):=⟨E1.out.1,E1.out.2.2⟩
      clear E1 eq nq hous L5
      obtain ⟨qh,qb,qbs,qr,qrs,qd,qds⟩:=q
      obtain ⟨s1,t1,rfl⟩:∃ a c,qb=.slice a qbs.length c:=oq.1.shape
      obtain ⟨s2,t2,rfl⟩:∃ a c,qr=.slice a qrs.length c:=oq.2.1.shape
      obtain ⟨s3,t3,rfl⟩:∃ a c,qd=.slice a qds.length c:=oq.2.2.shape
      have Rr:=R5.row #[.int .i64 0,.int .i64 0,.bool true,.bool CK,.int .i64 CV,.bool qh,.slice s1 qbs.length t1,.slice s2 qrs.length t2,.slice s3 qds.length t3]
      have hBr:=below_row hBg (g:=w.heap.size + 1) (by omega) #[.int .i64 0,.int .i64 0,.bool true,.bool CK,.int .i64 CV,.bool qh,.slice s1 qbs.length t1,.slice s2 qrs.length t2,.slice s3 qds.length t3]
      have hUU:Out [w.heap.size + 1] X5 (w7.setRow (w.heap.size + 1) #[.int .i64 0,.int .i64 0,.bool true,.bool CK,.int .i64 CV,.bool qh,.slice s1 qbs.length t1,.slice s2 qrs.length t2,.slice s3 qds.length t3]):=(Out.of_below hW).trans (out_row _ _ _)
      have hsr:(Tryz.prog.info? 34).map (·.size)=some (#[.int .i64 0,.int .i64 0,.bool true,.bool CK,.int .i64 CV,.bool qh,.slice s1 qbs.length t1,.slice s2 qrs.length t2,.slice s3 qds.length t3]:Array Value).size:=sz_res
      clear oq
      refine ⟨_,rfl,hnw _ hW,?_⟩
      simp only [Act.put,List.getElem_toArray,List.getElem_cons_succ,List.getElem_cons_zero,List.setIfInBounds_toArray,List.set_cons_zero,List.set_cons_succ]
      refine quiet_at 3 (some 77) (.agg #[.int .i64 0,.int .i64 0,.bool true,.bool CK,.int .i64 CV,.bool qh,.slice s1 qbs.length t1,.slice s2 qrs.length t2,.slice s3 qds.length t3]) 1 (by kernel_rfl) (by kernel_rfl) (by kernel_rfl) (by kernel_rfl) (by kernel_rfl) (fun u _=>by kernel_rfl) (hnw _ hW) ?_
      simp only [Act.put,List.getElem_toArray,List.getElem_cons_succ,List.getElem_cons_zero,List.setIfInBounds_toArray,List.set_cons_zero,List.set_cons_succ]
      refine one_at 4 _ 0 (by kernel_rfl) rfl (by kernel_rfl) ?_
      refine st_row (by kernel_rfl) 34 _ _ rfl _ #[.int .i64 0,.int .i64 0,.bool true,.bool CK,.int .i64 CV,.bool qh,.slice s1 qbs.length t1,.slice s2 qrs.length t2,.slice s3 qds.length t3] rfl rfl 34 _ R5 hsr rfl (by simp [Value.oneCell']) ?_
      refine ThenGo.to ⟨⟨⟨_,hUU⟩,rfl⟩,?_⟩
      refine text_end (by kernel_rfl) ?_
      go_wp2
      have q0:=Rr.cell 0 _ rfl
      have q1:=Rr.cell 1 _ rfl
      have q2:=Rr.cell 2 _ rfl
      have q3:=Rr.cell 3 _ rfl
      have q4:=Rr.cell 4 _ rfl
      have q5:=Rr.cell 5 _ rfl
      have q6:=Rr.cell 6 _ rfl
      have q7:=Rr.cell 7 _ rfl
      have q8:=Rr.cell 8 _ rfl
      exact bodyPost_ret (v:=.agg #[.int .i64 0,.int .i64 0,.bool true,.bool CK,.int .i64 CV,.bool qh,.slice s1 qbs.length t1,.slice s2 qrs.length t2,.slice s3 qds.length t3]) (by simp [results,Tryz.results16,go_sem,q0,q1,q2,q3,q4,q5,q6,q7,q8]) rfl ⟨⟨qh,.slice s1 qbs.length t1,qbs,.slice s2 qrs.length t2,qrs,.slice s3 qds.length t3,qds⟩,by rw [HD0.out.1,HD0.out.2.1,HD0.out.2.2.1,HD0.out.2.2.2.1,HD0.out.2.2.2.2],HQ.out.1,HQ.out.2.2.2 _,HQ.out.2.1,HQ.out.2.2.1,hBr⟩

    | false=>
     simp only [Bool.false_eq_true,if_false] at FA FB
     have HD5:=HD3
     have hgw1:g≠w1.heap.size:=by omega
     by_cases hnx:r + 1 < 4
     case pos=>
      have hnx' : (r:Int) + 1 < 4:=by omega
      have hsR:(Tryz.prog.info? 102).map (·.size)=some (rndC rs).length:=by rw [rndC_length hwel h4];exact sz_rounds
      have RGR:=rng B5 (rndC rs) (o:=0) (fun j v hv=>by
       have hj:=(List.getElem?_eq_some_iff.1 hv).1
       rw [rndC_length hwel h4] at hj
       rw [Nat.zero_add,List.getElem?_toArray,brd_rnd hwel h4 j hj]
       exact hv)
      have hhr:∀ b,(decide (r + 1 < rs.length) && (repA rs (r + 1) n != 3))=b→∀ w,Calls Tryz.prog 69 #[.agg (rndC rs).toArray,.int .i64 ((r:Int) + 1),.int .i64 (n:Int)] w fun e w' => e=.returned (.bool b)∧Below w.heap.size w w' := fun b hb w=>by
       have:=hasReport_any rs (r + 1) n w hwel h4 hn
       rw [hb] at this
       exact this
      go_wp2_with (first | (refine ld_g (by kernel_rfl) 102 _ rfl _ _ rfl (rndC rs) _ RGR Tryz.underlying102 rfl hsR ?_))
      clear RGR hsR c0 c1 c2 c3
      generalize w5=X2 at *
      by_cases ht:r + 1 < rs.length∧repA rs (r + 1) n≠3
      case pos=>
       have E1:Hid (D=6∧E=ine0∧K0=0∧K1=false∧K2=false∧K3=0):=F6.out hnx ht.1 ht.2
       refine (hhr true (by rw [decide_eq_true ht.1,Bool.true_and];simpa using ht.2) X2).mono ?_
       rintro e w6 ⟨rfl,hb6⟩
       replace R3:=R3.below hb6
       replace hBg:=hBg.trans (hb6.mono hBg.size)
       clear F6 FA FB ht hin B5 hhr hb6
       have Rr:=R3.row #[.int .i64 6,.int .i64 0,.bool false,.bool false,.int .i64 0,.bool false,.slice none 0 0,.slice none 0 0,.slice none 0 0]
       have hBr:=below_row hBg (g:=w.heap.size + 1) (by omega) #[.int .i64 6,.int .i64 0,.bool false,.bool false,.int .i64 0,.bool false,.slice none 0 0,.slice none 0 0,.slice none 0 0]
       have hsr:(Tryz.prog.info? 34).map (·.size)=some (#[.int .i64 6,.int .i64 0,.bool false,.bool false,.int .i64 0,.bool false,.slice none 0 0,.slice none 0 0,.slice none 0 0]:Array Value).size:=sz_res
       go_wp2_with (first | (refine st_row (by kernel_rfl) 34 _ _ rfl _ #[.int .i64 6,.int .i64 0,.bool false,.bool false,.int .i64 0,.bool false,.slice none 0 0,.slice none 0 0,.slice none 0 0] rfl rfl 34 _ R3 hsr rfl (by simp [Value.oneCell']) ?_))
       have q0:=Rr.cell 0 _ rfl
       have q1:=Rr.cell 1 _ rfl
       have q2:=Rr.cell 2 _ rfl
       have q3:=Rr.cell 3 _ rfl
       have q4:=Rr.cell 4 _ rfl
       have q5:=Rr.cell 5 _ rfl
       have q6:=Rr.cell 6 _ rfl
       have q7:=Rr.cell 7 _ rfl
       have q8:=Rr.cell 8 _ rfl
       exact bodyPost_ret (v:=.agg #[.int .i64 6,.int .i64 0,.bool false,.bool false,.int .i64 0,.bool false,.slice none 0 0,.slice none 0 0,.slice none 0 0]) (by simp [results,Tryz.results16,go_sem,q0,q1,q2,q3,q4,q5,q6,q7,q8]) rfl ⟨inst0,by rw [E1.out.1,E1.out.2.2.1,E1.out.2.2.2.1,E1.out.2.2.2.2.1,E1.out.2.2.2.2.2];rfl,E1.out.2.1.symm,inst0_own _,inst0_nd,fun k hk=>by rw [inst0_ft] at hk;simp at hk,hBr⟩

      case neg=>
       have E1:Hid _:=FA.out hnx ht
       have hht:(decide (r + 1 < rs.length) && (repA rs (r + 1) n != 3))=false:=by
        by_cases h9:r + 1 < rs.length
        ·have h8:repA rs (r + 1) n=3:=Decidable.byContradiction (fun h=>ht ⟨h9,h⟩)
         rw [decide_eq_true h9,Bool.true_and,h8]
         rfl
        ·rw [decide_eq_false h9]
         rfl
       refine (hhr false hht X2).mono ?_
       clear hht
       rintro e w6 ⟨rfl,hb6⟩
       replace R3:=R3.below hb6
       replace B5:=B5.below hb6
       replace BC:=BC.below hb6
       replace hBg:=hBg.trans (hb6.mono hBg.size)
       clear F6 FA FB ht hhr hb6
       have hrp:Calls Tryz.prog 70 #[.pointer (some ⟨w1.heap.size,0,none⟩),.int .i64 ((r:Int) + 1),.int .i64 (n:Int),.int .i64 CV] w6 _:=report_any w1.heap.size 104 rs ([.bool has,.slice ba batch.length bk] ++ (dec).map iv) (r + 1) n CV w6 (hG.o.below hBg) hgo B5 hwel h4 (by omega) hnx hn
       change Calls Tryz.prog _ _ _ fun e w' => _∧Blk w' _ _ (brdC has (.slice ba batch.length bk) (rstR (ensR rs (r + 1)) (r + 1) n CV) dec).toArray∧_ at hrp
       have hwel5:=wel_rstR (ensR_wel hwel (r + 1)) (r + 1) n (ensR_lt rs (r + 1) (by omega)) CV
       have h45:(rstR (ensR rs (r + 1)) (r + 1) n CV).length≤4:=by rw [rstR_length];exact ensR_le rs (r + 1) h4 hnx
       have c3:=BC.cell 3 _ rfl
       clear B5
       go_wp2_with fail
       clear c3
       refine hrp.mono ?_
       rintro e X5 ⟨rfl,B5,hU5⟩
       replace R3:Blk X5 (w.heap.size + 1) 34 _:=(hU5.block _ R3.lt (by simp only [List.mem_singleton];omega)).trans R3
       replace BC:Blk X5 g 32 _:=(hU5.block _ BC.lt (by simp only [List.mem_singleton];omega)).trans BC
       replace hBg:=Out.keep hBg hU5 hBg.size (fun k hk=>by simp only [List.mem_singleton] at hk;omega)
       clear hU5 hrp
       generalize rstR (ensR rs (r + 1)) (r + 1) n CV=rs5 at *
       go_wp2_with fail
       have hs30:(Tryz.prog.info? 104).map (·.size)=some (brdC has (.slice ba batch.length bk) rs5 dec).length:=by rw [brdC_length hwel5 h45 HD5.out];exact sz_board
       have hF1:g ∉ [w.heap.size + 1]:=by simp only [List.mem_singleton];omega
       have hF2:w1.heap.size ∉ [w.heap.size + 1]:=by simp only [List.mem_singleton];omega
       have k0:=lato_cell (F:=[w.heap.size + 1]) (BC.cell 0 _ rfl) hF1
       have k1:=lato_cell (F:=[w.heap.size + 1]) (BC.cell 1 _ rfl) hF1
       have k2:=lato_cell (F:=[w.heap.size + 1]) (BC.cell 2 _ rfl) hF1
       have k3:=lato_cell (F:=[w.heap.size + 1]) (BC.cell 3 _ rfl) hF1
       have pB:=ld_atO (F:=[w.heap.size + 1]) (brdC has (.slice ba batch.length bk) rs5 dec) 104 _ (rng B5 (brdC has (.slice ba batch.length bk) rs5 dec) (o:=0) (fun j v hv=>by rw [Nat.zero_add,List.getElem?_toArray];exact hv)) hF2 Tryz.underlying104 rfl hs30
       have hnn:Nonempty (LatO [w.heap.size + 1] X5):=⟨⟨X5,Out.refl _ _⟩⟩
       have hW:Below X5.heap.size X5 X5.drew:=(Below.refl _ _).drew
       have hnw:∀ w',Below X5.heap.size X5 w' → ∃ u:LatO [w.heap.size + 1] X5,w' = u.val:=fun w' hw' => ⟨⟨w',Out.of_below hw'⟩,rfl⟩
       refine text_begin (S:=fun w' => ∃ u:LatO [w.heap.size + 1] X5,w' = u.val) (by kernel_rfl) ?_
       refine seg_range [(0,1)] 4 (by kernel_rfl) (by kernel_rfl) (by kernel_rfl) (by kernel_rfl) (by kernel_rfl) (hnw _ hW) ?_
       simp only [pickR,List.toList_toArray,List.flatMap_cons,List.flatMap_nil,List.drop_succ_cons,List.drop_zero,List.take_succ_cons,List.take_zero,List.cons_append,List.nil_append,List.append_nil]
       repeat go_big_quiet_step (fail)
       refine wpQuiet_nil ?_
       refine quiet_at 1 (some 75) (.agg (brdC has (.slice ba batch.length bk) rs5 dec).toArray) 3 (by kernel_rfl) (by kernel_rfl) (by kernel_rfl) (by kernel_rfl) (by kernel_rfl) (fun u hu=>?_) (hnw _ hW) ?_
       ·obtain ⟨u,rfl⟩:=hu
        show some (((Instr.loadAt 104 (.pointer (some ⟨w1.heap.size,0,none⟩))) >>= fun x=>pure (Next.value x):Sem Next).run Tryz.prog u.val)=_
        rw [Sem.run_bind,pB u]
        rfl
       simp only [Act.put,List.getElem_toArray,List.getElem_cons_succ,List.getElem_cons_zero,List.setIfInBounds_toArray,List.set_cons_zero,List.set_cons_succ]
       refine call_at 2 (some 76) 63 #[.agg (brdC has (.slice ba batch.length bk) rs5 dec).toArray] 2 (by kernel_rfl) (by kernel_rfl) (by kernel_rfl) (by kernel_rfl) (by kernel_rfl) ?_
       refine (hin H0.out rs5 dec _ (hTx.below (hBg.trans (hW.mono hBg.size))) hwel5 h45 HD5.out).mono ?_
       rintro e w7 ⟨q,rfl,eq,oq,nq,gq,hb7⟩
       have hX1:=R3.lt
       have hX2:=hW.size
       replace hW:=hW.trans (hb7.mono hW.size)
       have R5:=R3.below hW
       have L5:∀ k∈instK.foot q,w.heap.size + 2≤k:=fun k hk=>by have:=gq k hk;omega
       replace hBg:=hBg.trans (hW.mono hBg.size)
       clear hin gq hb7 R3 pB k0 k1 k2 k3 BC B5 hs30
       have hous:∀ cs,instK.own (w7.setRow (w.heap.size + 1) cs) q:=fun cs=>instK.own_out oq (out_row w7 (w.heap.size + 1) cs) (fun k hk=>by have:=L5 k hk;simp only [List.mem_singleton];omega)
       have HQ:Hid (q.e=E∧(instK.foot q).Nodup∧(∀ k∈instK.foot q,w.heap.size≤k)∧∀ cs,instK.own (w7.setRow (w.heap.size + 1) cs) q):=⟨by rw [eq,E1.out.2.1],nq,fun k hk=>by have:=L5 k hk;omega,hous⟩
       have HD0:Hid (D=0∧K0=0∧K1=false∧K2=CK∧K3=CV):=⟨E1.out.1,E1.out.2.2⟩
       clear E1 eq nq hous L5
       obtain ⟨qh,qb,qbs,qr,qrs,qd,qds⟩:=q
       obtain ⟨s1,t1,rfl⟩:∃ a c,qb=.slice a qbs.length c:=oq.1.shape
       obtain ⟨s2,t2,rfl⟩:∃ a c,qr=.slice a qrs.length c:=oq.2.1.shape
       obtain ⟨s3,t3,rfl⟩:∃ a c,qd=.slice a qds.length c:=oq.2.2.shape
       have Rr:=R5.row #[.int .i64 0,.int .i64 0,.bool false,.bool CK,.int .i64 CV,.bool qh,.slice s1 qbs.length t1,.slice s2 qrs.length t2,.slice s3 qds.length t3]
       have hBr:=below_row hBg (g:=w.heap.size + 1) (by omega) #[.int .i64 0,.int .i64 0,.bool false,.bool CK,.int .i64 CV,.bool qh,.slice s1 qbs.length t1,.slice s2 qrs.length t2,.slice s3 qds.length t3]
       have hUU:Out [w.heap.size + 1] X5 (w7.setRow (w.heap.size + 1) #[.int .i64 0,.int .i64 0,.bool false,.bool CK,.int .i64 CV,.bool qh,.slice s1 qbs.length t1,.slice s2 qrs.length t2,.slice s3 qds.length t3]):=(Out.of_below hW).trans (out_row _ _ _)
       have hsr:(Tryz.prog.info? 34).map (·.size)=some (#[.int .i64 0,.int .i64 0,.bool false,.bool CK,.int .i64 CV,.bool qh,.slice s1 qbs.length t1,.slice s2 qrs.length t2,.slice s3 qds.length t3]:Array Value).size:=sz_res
       clear oq
       refine ⟨_,rfl,hnw _ hW,?_⟩
       simp only [Act.put,List.getElem_toArray,List.getElem_cons_succ,List.getElem_cons_zero,List.setIfInBounds_toArray,List.set_cons_zero,List.set_cons_succ]
       refine quiet_at 3 (some 77) (.agg #[.int .i64 0,.int .i64 0,.bool false,.bool CK,.int .i64 CV,.bool qh,.slice s1 qbs.length t1,.slice s2 qrs.length t2,.slice s3 qds.length t3]) 1 (by kernel_rfl) (by kernel_rfl) (by kernel_rfl) (by kernel_rfl) (by kernel_rfl) (fun u _=>by kernel_rfl) (hnw _ hW) ?_
       simp only [Act.put,List.getElem_toArray,List.getElem_cons_succ,List.getElem_cons_zero,List.setIfInBounds_toArray,List.set_cons_zero,List.set_cons_succ]
       refine one_at 4 _ 0 (by kernel_rfl) rfl (by kernel_rfl) ?_
       refine st_row (by kernel_rfl) 34 _ _ rfl _ #[.int .i64 0,.int .i64 0,.bool false,.bool CK,.int .i64 CV,.bool qh,.slice s1 qbs.length t1,.slice s2 qrs.length t2,.slice s3 qds.length t3] rfl rfl 34 _ R5 hsr rfl (by simp [Value.oneCell']) ?_
       refine ThenGo.to ⟨⟨⟨_,hUU⟩,rfl⟩,?_⟩
       refine text_end (by kernel_rfl) ?_
       go_wp2
       have q0:=Rr.cell 0 _ rfl
       have q1:=Rr.cell 1 _ rfl
       have q2:=Rr.cell 2 _ rfl
       have q3:=Rr.cell 3 _ rfl
       have q4:=Rr.cell 4 _ rfl
       have q5:=Rr.cell 5 _ rfl
       have q6:=Rr.cell 6 _ rfl
       have q7:=Rr.cell 7 _ rfl
       have q8:=Rr.cell 8 _ rfl
       exact bodyPost_ret (v:=.agg #[.int .i64 0,.int .i64 0,.bool false,.bool CK,.int .i64 CV,.bool qh,.slice s1 qbs.length t1,.slice s2 qrs.length t2,.slice s3 qds.length t3]) (by simp [results,Tryz.results16,go_sem,q0,q1,q2,q3,q4,q5,q6,q7,q8]) rfl ⟨⟨qh,.slice s1 qbs.length t1,qbs,.slice s2 qrs.length t2,qrs,.slice s3 qds.length t3,qds⟩,by rw [HD0.out.1,HD0.out.2.1,HD0.out.2.2.1,HD0.out.2.2.2.1,HD0.out.2.2.2.2],HQ.out.1,HQ.out.2.2.2 _,HQ.out.2.1,HQ.out.2.2.1,hBr⟩

     case neg=>
      have E1:Hid _:=FB.out hnx
      have hnx' : ¬ ((r:Int) + 1 < 4):=by omega
      have hwel5:=hwel
      have h45:=h4
      clear F6 FA FB
      go_wp2_with fail
      clear c0 c1 c2 c3
      generalize w5=X5 at *
      have hs30:(Tryz.prog.info? 104).map (·.size)=some (brdC has (.slice ba batch.length bk) rs dec).length:=by rw [brdC_length hwel5 h45 HD5.out];exact sz_board
      have hF1:g ∉ [w.heap.size + 1]:=by simp only [List.mem_singleton];omega
      have hF2:w1.heap.size ∉ [w.heap.size + 1]:=by simp only [List.mem_singleton];omega
      have k0:=lato_cell (F:=[w.heap.size + 1]) (BC.cell 0 _ rfl) hF1
      have k1:=lato_cell (F:=[w.heap.size + 1]) (BC.cell 1 _ rfl) hF1
      have k2:=lato_cell (F:=[w.heap.size + 1]) (BC.cell 2 _ rfl) hF1
      have k3:=lato_cell (F:=[w.heap.size + 1]) (BC.cell 3 _ rfl) hF1
      have pB:=ld_atO (F:=[w.heap.size + 1]) (brdC has (.slice ba batch.length bk) rs dec) 104 _ (rng B5 (brdC has (.slice ba batch.length bk) rs dec) (o:=0) (fun j v hv=>by rw [Nat.zero_add,List.getElem?_toArray];exact hv)) hF2 Tryz.underlying104 rfl hs30
      have hnn:Nonempty (LatO [w.heap.size + 1] X5):=⟨⟨X5,Out.refl _ _⟩⟩
      have hW:Below X5.heap.size X5 X5.drew:=(Below.refl _ _).drew
      have hnw:∀ w',Below X5.heap.size X5 w' → ∃ u:LatO [w.heap.size + 1] X5,w' = u.val:=fun w' hw' => ⟨⟨w',Out.of_below hw'⟩,rfl⟩
      refine text_begin (S:=fun w' => ∃ u:LatO [w.heap.size + 1] X5,w' = u.val) (by kernel_rfl) ?_
      refine seg_range [(0,1)] 4 (by kernel_rfl) (by kernel_rfl) (by kernel_rfl) (by kernel_rfl) (by kernel_rfl) (hnw _ hW) ?_
      simp only [pickR,List.toList_toArray,List.flatMap_cons,List.flatMap_nil,List.drop_succ_cons,List.drop_zero,List.take_succ_cons,List.take_zero,List.cons_append,List.nil_append,List.append_nil]
      repeat go_big_quiet_step (fail)
      refine wpQuiet_nil ?_
      refine quiet_at 1 (some 75) (.agg (brdC has (.slice ba batch.length bk) rs dec).toArray) 3 (by kernel_rfl) (by kernel_rfl) (by kernel_rfl) (by kernel_rfl) (by kernel_rfl) (fun u hu=>?_) (hnw _ hW) ?_
      ·obtain ⟨u,rfl⟩:=hu
       show some (((Instr.loadAt 104 (.pointer (some ⟨w1.heap.size,0,none⟩))) >>= fun x=>pure (Next.value x):Sem Next).run Tryz.prog u.val)=_
       rw [Sem.run_bind,pB u]
       rfl
      simp only [Act.put,List.getElem_toArray,List.getElem_cons_succ,List.getElem_cons_zero,List.setIfInBounds_toArray,List.set_cons_zero,List.set_cons_succ]
      refine call_at 2 (some 76) 63 #[.agg (brdC has (.slice ba batch.length bk) rs dec).toArray] 2 (by kernel_rfl) (by kernel_rfl) (by kernel_rfl) (by kernel_rfl) (by kernel_rfl) ?_
      refine (hin H0.out rs dec _ (hTx.below (hBg.trans (hW.mono hBg.size))) hwel5 h45 HD5.out).mono ?_
      rintro e w7 ⟨q,rfl,eq,oq,nq,gq,hb7⟩
      have hX1:=R3.lt
      have hX2:=hW.size
      replace hW:=hW.trans (hb7.mono hW.size)
      have R5:=R3.below hW
      have L5:∀ k∈instK.foot q,w.heap.size + 2≤k:=fun k hk=>by have:=gq k hk;omega
      replace hBg:=hBg.trans (hW.mono hBg.size)
      clear hin gq hb7 R3 pB k0 k1 k2 k3 BC B5 hs30
      have hous:∀ cs,instK.own (w7.setRow (w.heap.size + 1) cs) q:=fun cs=>instK.own_out oq (out_row w7 (w.heap.size + 1) cs) (fun k hk=>by have:=L5 k hk;simp only [List.mem_singleton];omega)
      have HQ:Hid (q.e=E∧(instK.foot q).Nodup∧(∀ k∈instK.foot q,w.heap.size≤k)∧∀ cs,instK.own (w7.setRow (w.heap.size + 1) cs) q):=⟨by rw [eq,E1.out.2.1],nq,fun k hk=>by have:=L5 k hk;omega,hous⟩
      have HD0:Hid (D=0∧K0=0∧K1=false∧K2=CK∧K3=CV):=⟨E1.out.1,E1.out.2.2⟩
      clear E1 eq nq hous L5
      obtain ⟨qh,qb,qbs,qr,qrs,qd,qds⟩:=q
      obtain ⟨s1,t1,rfl⟩:∃ a c,qb=.slice a qbs.length c:=oq.1.shape
      obtain ⟨s2,t2,rfl⟩:∃ a c,qr=.slice a qrs.length c:=oq.2.1.shape
      obtain ⟨s3,t3,rfl⟩:∃ a c,qd=.slice a qds.length c:=oq.2.2.shape
      have Rr:=R5.row #[.int .i64 0,.int .i64 0,.bool false,.bool CK,.int .i64 CV,.bool qh,.slice s1 qbs.length t1,.slice s2 qrs.length t2,.slice s3 qds.length t3]
      have hBr:=below_row hBg (g:=w.heap.size + 1) (by omega) #[.int .i64 0,.int .i64 0,.bool false,.bool CK,.int .i64 CV,.bool qh,.slice s1 qbs.length t1,.slice s2 qrs.length t2,.slice s3 qds.length t3]
      have hUU:Out [w.heap.size + 1] X5 (w7.setRow (w.heap.size + 1) #[.int .i64 0,.int .i64 0,.bool false,.bool CK,.int .i64 CV,.bool qh,.slice s1 qbs.length t1,.slice s2 qrs.length t2,.slice s3 qds.length t3]):=(Out.of_below hW).trans (out_row _ _ _)
      have hsr:(Tryz.prog.info? 34).map (·.size)=some (#[.int .i64 0,.int .i64 0,.bool false,.bool CK,.int .i64 CV,.bool qh,.slice s1 qbs.length t1,.slice s2 qrs.length t2,.slice s3 qds.length t3]:Array Value).size:=sz_res
      clear oq
      refine ⟨_,rfl,hnw _ hW,?_⟩
      simp only [Act.put,List.getElem_toArray,List.getElem_cons_succ,List.getElem_cons_zero,List.setIfInBounds_toArray,List.set_cons_zero,List.set_cons_succ]
      refine quiet_at 3 (some 77) (.agg #[.int .i64 0,.int .i64 0,.bool false,.bool CK,.int .i64 CV,.bool qh,.slice s1 qbs.length t1,.slice s2 qrs.length t2,.slice s3 qds.length t3]) 1 (by kernel_rfl) (by kernel_rfl) (by kernel_rfl) (by kernel_rfl) (by kernel_rfl) (fun u _=>by kernel_rfl) (hnw _ hW) ?_
      simp only [Act.put,List.getElem_toArray,List.getElem_cons_succ,List.getElem_cons_zero,List.setIfInBounds_toArray,List.set_cons_zero,List.set_cons_succ]
      refine one_at 4 _ 0 (by kernel_rfl) rfl (by kernel_rfl) ?_
      refine st_row (by kernel_rfl) 34 _ _ rfl _ #[.int .i64 0,.int .i64 0,.bool false,.bool CK,.int .i64 CV,.bool qh,.slice s1 qbs.length t1,.slice s2 qrs.length t2,.slice s3 qds.length t3] rfl rfl 34 _ R5 hsr rfl (by simp [Value.oneCell']) ?_
      refine ThenGo.to ⟨⟨⟨_,hUU⟩,rfl⟩,?_⟩
      refine text_end (by kernel_rfl) ?_
      go_wp2
      have q0:=Rr.cell 0 _ rfl
      have q1:=Rr.cell 1 _ rfl
      have q2:=Rr.cell 2 _ rfl
      have q3:=Rr.cell 3 _ rfl
      have q4:=Rr.cell 4 _ rfl
      have q5:=Rr.cell 5 _ rfl
      have q6:=Rr.cell 6 _ rfl
      have q7:=Rr.cell 7 _ rfl
      have q8:=Rr.cell 8 _ rfl
      exact bodyPost_ret (v:=.agg #[.int .i64 0,.int .i64 0,.bool false,.bool CK,.int .i64 CV,.bool qh,.slice s1 qbs.length t1,.slice s2 qrs.length t2,.slice s3 qds.length t3]) (by simp [results,Tryz.results16,go_sem,q0,q1,q2,q3,q4,q5,q6,q7,q8]) rfl ⟨⟨qh,.slice s1 qbs.length t1,qbs,.slice s2 qrs.length t2,qrs,.slice s3 qds.length t3,qds⟩,by rw [HD0.out.1,HD0.out.2.1,HD0.out.2.2.1,HD0.out.2.2.2.1,HD0.out.2.2.2.2],HQ.out.1,HQ.out.2.2.2 _,HQ.out.2.1,HQ.out.2.2.1,hBr⟩

end Go.Proofs.YtpjmlidbligcbaaGreatDoor
