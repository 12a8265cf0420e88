/- Texts joined, with what the laws reach alone. -/
import Derived.Test.YtpjmlidbligcbaaGreatDoorSSAS
set_option linter.unusedVariables false
set_option linter.unusedSimpArgs false
namespace Go.Proofs.YtpjmlidbligcbaaGreatDoor
open Go.RowKit
open Go.BigFrame
set_option maxRecDepth 100000
theorem outV_at (L:List Int):∀ k,(∀ j,j < k→L.getD j 0=3)→k < L.length→L.getD k 0≠3→outV L=L.getD k 0:=by
 induction L with
 | nil=>intro k _ h;simp at h
 | cons x r ih=>
  intro k h0 hk hne
  cases k with
  | zero=>simp [List.getD] at hne ⊢;simp [outV,hne]
  | succ k=>
   have hx:x=3:=by simpa [List.getD] using h0 0 (by omega)
   have:=ih k (fun j hj=>by simpa [List.getD] using h0 (j + 1) (by omega)) (by simpa using hk) (by simpa [List.getD] using hne)
   simp only [outV,hx,if_true]
   rw [this]
   simp [List.getD]

theorem outV_none (L:List Int) (h:∀ j,j < L.length→L.getD j 0=3):outV L=3:=by
 induction L with
 | nil=>rfl
 | cons x r ih=>
  have hx:x=3:=by simpa [List.getD] using h 0 (by simp)
  simp only [outV,hx,if_true]
  exact ih (fun j hj=>by simpa [List.getD] using h (j + 1) (by simpa using hj))

/-- OutcomeOf: code and value. -/
def ocC (x:InstE):Int:=if insF x=0 then (if outV x.dec=3 then 4 else 0) else insF x

def ocV (x:InstE):Int:=if insF x=0 then (if outV x.dec=3 then 0 else outV x.dec) else 0

set_option maxHeartbeats 2000000 in
theorem implOutcome_any (p:InstQ) (w:World) (hG:Rul w) (h:instK.rd w p) (hl:p.n≤1048576) :
  Calls Tryz.prog 25 #[.agg #[.bool p.has,p.vb,p.vr,p.vd]] w fun e w' => e=.returned (.agg #[.int .i64 (ocC p.e),.int .i64 (ocV p.e)])∧Below w.heap.size w w' := by
 obtain ⟨hl30,hone⟩:=bd_ok h
 have hbo:=fun w hG h=>boardOf_any p w hG h hl
 have hrb:=fun (w' : World) hb=>instK.rd_below (w' := w') h hb
 change ∀ w hG h,Calls _ _ _ _ fun e w' => e=.returned (.tuple #[.agg (bdOf p).toArray,_])∧_ at hbo
 have HBD:Hid (insF p.e=0→bdOf p=brdC p.has p.vb p.e.rounds p.dec∧Wel p.e.rounds∧p.e.rounds.length≤4∧p.dec.length=3):=fun h0=>by
  obtain ⟨h1,h2,h3,_⟩:=ins_ok h0
  exact ⟨if_pos h0,h1,h2.2,h3⟩
 obtain ⟨D,hD⟩:∃ D,ocC p.e=D:=⟨_,rfl⟩
 obtain ⟨E,hE⟩:∃ E,ocV p.e=E:=⟨_,rfl⟩
 have HDE:Hid ((insF p.e=0→(D=if outV p.dec=3 then 4 else 0)∧(E=if outV p.dec=3 then 0 else outV p.dec))∧(insF p.e≠0→D=insF p.e∧E=0)):=by
  refine ⟨fun h0=>⟨?_,?_⟩,fun h0=>⟨?_,?_⟩⟩
  ·rw [← hD];exact if_pos h0
  ·rw [← hE];exact if_pos h0
  ·rw [← hD];exact if_neg h0
  ·rw [← hE];exact if_neg h0
 rw [hD,hE]
 clear hD hE
 generalize bdOf p=BD at *
 generalize insF p.e=C at *
 generalize p.e.rounds=rs at *
 obtain ⟨has,vb,batch,vr,rounds,vd,dec⟩:=p
 obtain ⟨ba,bk,rfl⟩:∃ a c,vb=.slice a batch.length c:=h.1.shape
 obtain ⟨va,vk,rfl⟩:∃ a c,vr=.slice a rounds.length c:=h.2.1.shape
 obtain ⟨da,dk,rfl⟩:∃ a c,vd=.slice a dec.length c:=h.2.2.shape
 dsimp only at hbo hrb HBD HDE
 have hB:Below w.heap.size w ((w.alloc (.cells #[.bool has,.slice ba batch.length bk,.slice va rounds.length vk,.slice da dec.length dk] 28)).alloc (.cells #[.int .i64 0,.int .i64 0] 50)):=by go_grown
 have Rb:=Blk.new (w.alloc (.cells #[.bool has,.slice ba batch.length bk,.slice va rounds.length vk,.slice da dec.length dk] 28)) 50 #[.int .i64 0,.int .i64 0]
 simp only [World.size_alloc] at Rb
 have hszB:(Tryz.prog.info? 104).map (·.size)=some BD.toArray.size:=by rw [List.size_toArray,hl30];exact sz_board
 have hold:(#[.int .i64 0,.int .i64 0,.int .i64 0,.int .i64 0,.int .i64 0,.int .i64 0,.int .i64 0,.int .i64 0,.int .i64 0,.int .i64 0,.int .i64 0,.int .i64 0,.int .i64 0,.int .i64 0,.int .i64 0,.int .i64 0,.int .i64 0,.int .i64 0,.int .i64 0,.int .i64 0,.int .i64 0,.int .i64 0,.int .i64 0,.int .i64 0,.int .i64 0,.bool false,.slice none 0 0,.int .i64 0,.int .i64 0,.int .i64 0]:Array Value).size=BD.toArray.size:=(show 30=BD.length from hl30.symm)
 go_enter Tryz.func25,Tryz.ntmps25
 go_wp2_with fail
 generalize (w.alloc (.cells #[.bool has,.slice ba batch.length bk,.slice va rounds.length vk,.slice da dec.length dk] 28)).alloc (.cells #[.int .i64 0,.int .i64 0] 50)=W at *
 refine (hbo W (hG.below hB) (hrb W hB)).mono ?_
 rintro e w1 ⟨rfl,hb1⟩
 replace hB:=hB.trans (hb1.mono hB.size)
 replace Rb:=Rb.below hb1
 have Bz:=Blk.new w1 104 #[.int .i64 0,.int .i64 0,.int .i64 0,.int .i64 0,.int .i64 0,.int .i64 0,.int .i64 0,.int .i64 0,.int .i64 0,.int .i64 0,.int .i64 0,.int .i64 0,.int .i64 0,.int .i64 0,.int .i64 0,.int .i64 0,.int .i64 0,.int .i64 0,.int .i64 0,.int .i64 0,.int .i64 0,.int .i64 0,.int .i64 0,.int .i64 0,.int .i64 0,.bool false,.slice none 0 0,.int .i64 0,.int .i64 0,.int .i64 0]
 have hB2:=below_row (hB.alloc hB.size (.cells #[.int .i64 0,.int .i64 0,.int .i64 0,.int .i64 0,.int .i64 0,.int .i64 0,.int .i64 0,.int .i64 0,.int .i64 0,.int .i64 0,.int .i64 0,.int .i64 0,.int .i64 0,.int .i64 0,.int .i64 0,.int .i64 0,.int .i64 0,.int .i64 0,.int .i64 0,.int .i64 0,.int .i64 0,.int .i64 0,.int .i64 0,.int .i64 0,.int .i64 0,.bool false,.slice none 0 0,.int .i64 0,.int .i64 0,.int .i64 0] 104)) (g:=w1.heap.size) hB.size BD.toArray
 have Rb2:Blk ((w1.alloc (.cells #[.int .i64 0,.int .i64 0,.int .i64 0,.int .i64 0,.int .i64 0,.int .i64 0,.int .i64 0,.int .i64 0,.int .i64 0,.int .i64 0,.int .i64 0,.int .i64 0,.int .i64 0,.int .i64 0,.int .i64 0,.int .i64 0,.int .i64 0,.int .i64 0,.int .i64 0,.int .i64 0,.int .i64 0,.int .i64 0,.int .i64 0,.int .i64 0,.int .i64 0,.bool false,.slice none 0 0,.int .i64 0,.int .i64 0,.int .i64 0] 104)).setRow w1.heap.size BD.toArray) (w.heap.size + 1) 50 #[.int .i64 0,.int .i64 0]:=(setRow_other _ _ _ _ (by have:=Rb.lt;omega)).trans (Rb.below ((Below.refl _ _).alloc (Nat.le_refl _) _))
 have B2:=Bz.row BD.toArray
 clear hbo hrb hb1 Rb
 by_cases h0:C=0
 ·obtain ⟨hBD,hwel,h4,hd3⟩:=HBD.out h0
  have HD:Hid (D=if outV dec=3 then 4 else 0):=(HDE.out.1 h0).1
  have HV:Hid (E=if outV dec=3 then 0 else outV dec):=(HDE.out.1 h0).2
  subst h0
  have hrg:=rng B2 (dec.map iv) (o:=27) (fun j v hv=>by
   obtain ⟨hj,rfl⟩:=row_get hd3 hv
   rw [List.getElem?_toArray,hBD]
   exact brd_dec hwel h4 hd3 j hj)
  have hszD:(Tryz.prog.info? 97).map (·.size)=some (dec.map iv).length:=by rw [List.length_map,hd3];exact sz_row
  clear HBD HDE hBD
  go_wp2_with (first | (refine st_row (by kernel_rfl) 104 _ _ rfl _ BD.toArray rfl rfl 104 _ Bz hszB hold hone ?_) | (refine ld_g (by kernel_rfl) 97 _ rfl _ _ rfl (dec.map iv) _ hrg Tryz.underlying97 rfl hszD ?_))
  clear hrg Bz
  generalize (w1.alloc (.cells #[.int .i64 0,.int .i64 0,.int .i64 0,.int .i64 0,.int .i64 0,.int .i64 0,.int .i64 0,.int .i64 0,.int .i64 0,.int .i64 0,.int .i64 0,.int .i64 0,.int .i64 0,.int .i64 0,.int .i64 0,.int .i64 0,.int .i64 0,.int .i64 0,.int .i64 0,.int .i64 0,.int .i64 0,.int .i64 0,.int .i64 0,.int .i64 0,.int .i64 0,.bool false,.slice none 0 0,.int .i64 0,.int .i64 0,.int .i64 0] 104)).setRow w1.heap.size BD.toArray=X at *
  go_loopw [18] (fun j wr=>∃ m:Nat,m≤3∧j=.int .i64 m∧Hid (∀ j,j < m→dec.getD j 0=3)∧wr=X) (fun j _=>3 - (intOf j).toNat)
  case atStart=>exact ⟨0,Nat.zero_le _,rfl,fun j hj=>absurd hj (Nat.not_lt_zero _),rfl⟩
  case round=>
   obtain ⟨m,hm,rfl,HA,rfl⟩:=hrel
   have q0:=Rb2.cell 0 _ rfl
   have q1:=Rb2.cell 1 _ rfl
   have f0:=Rb2.frozen 0
   have f1:=Rb2.frozen 1
   by_cases hm3:m < 3
   ·have hm3' : (m:Int) < 3:=by omega
    have hix:=fun w=>idx_any hd3 m hm3 w
    have HY:Hid (dec.getD m 0≠3→outV dec=dec.getD m 0):=fun hx=>outV_at dec m HA.out (by omega) hx
    have HN:Hid (dec.getD m 0=3→∀ j,j < m + 1→dec.getD j 0=3):=fun hx j hj=>by
     by_cases hjm:j=m
     ·subst hjm;exact hx
     ·exact HA.out j (by omega)
    clear HA
    generalize dec.getD m 0=v at *
    by_cases hv:v=3
    ·have hv' : (v != 3)=false:=by simp [hv]
     have R:=HN.out hv
     have HR:Hid _:=R
     clear HY HN R hv
     go_wp2
     go_roundw
     case rel=>exact ⟨m + 1,by omega,by go_num,HR.out,by first | rfl | trivial⟩
     case measure=>simp [intOf];omega
    ·have hv' : (v != 3)=true:=by simpa using hv
     have hov:=HY.out hv
     have E1:Hid (D=0∧E=v):=by
      refine ⟨?_,?_⟩
      ·rw [HD.out,hov,if_neg hv]
      ·rw [HV.out,hov,if_neg hv]
     clear HY HN HD HV hov hv
     go_wp2
     exact bodyPost_ret (v:=.agg #[.int .i64 0,.int .i64 v]) (by simp [results,Tryz.results25,go_sem,q0,q1]) rfl ⟨by rw [E1.out.1,E1.out.2],(hB2.setCell (p:=⟨w.heap.size + 1,0,none⟩) (by show w.heap.size≤w.heap.size + 1;omega) _).setCell (p:=⟨w.heap.size + 1,1,none⟩) (by show w.heap.size≤w.heap.size + 1;omega) _⟩
   ·have hme:m=3:=by omega
    subst hme
    have hov:=outV_none dec (by rw [hd3];exact HA.out)
    have E1:Hid (D=4∧E=0):=by
     refine ⟨?_,?_⟩
     ·rw [HD.out,hov,if_pos rfl]
     ·rw [HV.out,hov,if_pos rfl]
    clear HA HD HV hov
    go_wp2
    exact bodyPost_ret (v:=.agg #[.int .i64 4,.int .i64 0]) (by simp [results,Tryz.results25,go_sem,q0,q1]) rfl ⟨by rw [E1.out.1,E1.out.2],(hB2.setCell (p:=⟨w.heap.size + 1,0,none⟩) (by show w.heap.size≤w.heap.size + 1;omega) _).setCell (p:=⟨w.heap.size + 1,1,none⟩) (by show w.heap.size≤w.heap.size + 1;omega) _⟩
 ·have E1:Hid (D=C∧E=0):=HDE.out.2 h0
  have h0' : (C != 0)=true:=by simpa using h0
  have q0:=Rb2.cell 0 _ rfl
  have q1:=Rb2.cell 1 _ rfl
  have f0:=Rb2.frozen 0
  have f1:=Rb2.frozen 1
  clear HDE HBD h0 B2 Rb2
  generalize hX:(w1.alloc (.cells #[.int .i64 0,.int .i64 0,.int .i64 0,.int .i64 0,.int .i64 0,.int .i64 0,.int .i64 0,.int .i64 0,.int .i64 0,.int .i64 0,.int .i64 0,.int .i64 0,.int .i64 0,.int .i64 0,.int .i64 0,.int .i64 0,.int .i64 0,.int .i64 0,.int .i64 0,.int .i64 0,.int .i64 0,.int .i64 0,.int .i64 0,.int .i64 0,.int .i64 0,.bool false,.slice none 0 0,.int .i64 0,.int .i64 0,.int .i64 0] 104)).setRow w1.heap.size BD.toArray=X at q0 q1 f0 f1 hB2
  go_wp2_with (refine st_row (by kernel_rfl) 104 _ _ rfl _ BD.toArray rfl rfl 104 _ Bz hszB hold hone ?_)
  exact bodyPost_ret (v:=.agg #[.int .i64 C,.int .i64 0]) (by simp [results,Tryz.results25,go_sem,q0,q1]) rfl ⟨by rw [E1.out.1,E1.out.2],(hB2.setCell (p:=⟨w.heap.size + 1,0,none⟩) (by show w.heap.size≤w.heap.size + 1;omega) _).setCell (p:=⟨w.heap.size + 1,1,none⟩) (by show w.heap.size≤w.heap.size + 1;omega) _⟩

set_option maxHeartbeats 2000000 in
theorem l6Outcome_any (b o:Nat) (p:InstQ) (w:World) (hP:InstP w b o p) (hl:p.n≤1048576) :
  Calls Tryz.prog 89 #[.pointer (some ⟨b,o,none⟩)] w fun e w' => e=.returned (.int .i64 (outV p.dec))∧w' = w:=by
 obtain ⟨has,vb,batch,vr,rounds,vd,dec⟩:=p
 have hD:intK.At w vd dec:=hP.dec
 obtain ⟨da,dk,rfl⟩:=hD.shape
 have hRow:=(intK_at hD).2
 obtain ⟨c0,c1,c2,c3⟩:=hP.box
 dsimp only [InstQ.n] at c0 c1 c2 c3 hl ⊢
 generalize hE:outV dec=E
 have HE:Hid (outV dec=E):=hE
 clear hE
 go_enter Tryz.func89,Tryz.ntmps89
 go_wp2
 go_loop [3] (fun j=>∃ k:Nat,k≤dec.length∧j=.int .i64 k∧Hid (∀ j,j < k→dec.getD j 0=3)) (fun j=>dec.length - (intOf j).toNat)
 case atStart=>exact ⟨0,Nat.zero_le _,rfl,fun j hj=>absurd hj (Nat.not_lt_zero _)⟩
 case round=>
  obtain ⟨k,hk,rfl,HA⟩:=hrel
  by_cases hlt:k < dec.length
  ·obtain ⟨bb,off,rfl,hbs,hc⟩:=hRow k hlt
   have HY:Hid (dec.getD k 0≠3→E=dec.getD k 0):=fun hx=>by rw [← HE.out];exact outV_at dec k HA.out hlt hx
   have HN:Hid (dec.getD k 0=3→∀ j,j < k + 1→dec.getD j 0=3):=fun hx j hj=>by
    by_cases hjm:j=k
    ·subst hjm;exact hx
    ·exact HA.out j (by omega)
   clear HA
   generalize dec.getD k 0=v at *
   by_cases hv:v=3
   ·have hv' : (v != 3)=false:=by simp [hv]
    have R:=HN.out hv
    have HR:Hid _:=R
    clear HY HN R hv
    go_wp2
    go_round
    case rel=>exact ⟨k + 1,by omega,by go_num,HR.out⟩
    case measure=>simp [intOf];omega
   ·have hv' : (v != 3)=true:=by simpa using hv
    have E1:Hid (E=v):=HY.out hv
    clear HY HN hv
    go_wp2
    go_ret
    exact ⟨by rw [E1.out];rfl,rfl⟩
  ·have hkl:k=dec.length:=by omega
   subst hkl
   have E1:Hid (E=3):=by rw [← HE.out];exact outV_none dec HA.out
   clear HA HE
   go_wp2
   go_ret
   exact ⟨by rw [E1.out];rfl,rfl⟩

set_option maxHeartbeats 2000000 in
theorem specOutcome_any (p:InstQ) (w:World) (h:instK.rd w p) (hl:p.n≤1048576) :
  Calls Tryz.prog 26 #[.agg #[.bool p.has,p.vb,p.vr,p.vd]] w fun e w' => e=.returned (.agg #[.int .i64 (ocC p.e),.int .i64 (ocV p.e)])∧Below w.heap.size w w' := by
 have hB:Below w.heap.size w ((w.alloc (.cells #[.bool p.has,p.vb,p.vr,p.vd] 28)).alloc (.cells #[.int .i64 0,.int .i64 0] 50)):=by go_grown
 have Rb:=Blk.new (w.alloc (.cells #[.bool p.has,p.vb,p.vr,p.vd] 28)) 50 #[.int .i64 0,.int .i64 0]
 simp only [World.size_alloc] at Rb
 have hP:InstP ((w.alloc (.cells #[.bool p.has,p.vb,p.vr,p.vd] 28)).alloc (.cells #[.int .i64 0,.int .i64 0] 50)) w.heap.size 0 p:=⟨(box4_new w _ _ _ _ 28).below (by go_grown),instK.rd_below h hB⟩
 obtain ⟨D,hD⟩:∃ D,ocC p.e=D:=⟨_,rfl⟩
 obtain ⟨E,hE⟩:∃ E,ocV p.e=E:=⟨_,rfl⟩
 have HDE:Hid ((insF p.e=0→(D=if outV p.dec=3 then 4 else 0)∧(E=if outV p.dec=3 then 0 else outV p.dec))∧(insF p.e≠0→D=insF p.e∧E=0)):=by
  refine ⟨fun h0=>⟨?_,?_⟩,fun h0=>⟨?_,?_⟩⟩
  ·rw [← hD];exact if_pos h0
  ·rw [← hE];exact if_pos h0
  ·rw [← hD];exact if_neg h0
  ·rw [← hE];exact if_neg h0
 rw [hD,hE]
 clear hD hE
 have hf:=fun w hP=>l6Fault_any w.heap.size 0 p w hP hl
 have hf1:=l6Fault_any w.heap.size 0 p _ hP hl
 have ho1:=fun w' hP=>l6Outcome_any w.heap.size 0 p w' hP hl
 generalize insF p.e=C at *
 generalize outV p.dec=O at *
 clear hf
 go_enter Tryz.func26,Tryz.ntmps26
 go_wp2_with fail
 generalize (w.alloc (.cells #[.bool p.has,p.vb,p.vr,p.vd] 28)).alloc (.cells #[.int .i64 0,.int .i64 0] 50)=W at *
 refine hf1.mono ?_
 rintro e w1 ⟨rfl,hb1⟩
 replace hB:=hB.trans (hb1.mono hB.size)
 replace Rb:=Rb.below hb1
 have ho2:=ho1 w1 (hP.below hb1)
 have q0:=Rb.cell 0 _ rfl
 have q1:=Rb.cell 1 _ rfl
 have f0:=Rb.frozen 0
 have f1:=Rb.frozen 1
 clear hf1 ho1 hP hb1
 by_cases h0:C=0
 ·obtain ⟨hd,he⟩:=HDE.out.1 h0
  subst h0
  have HD:Hid (D=if O=3 then 4 else 0):=hd
  have HV:Hid (E=if O=3 then 0 else O):=he
  clear HDE hd he
  go_wp2_with fail
  refine ho2.mono ?_
  rintro e w' ⟨rfl,hw⟩
  replace hw:=hw.symm
  subst hw
  clear ho2
  by_cases hO:O=3
  ·have E1:Hid (D=4∧E=0):=And.intro (by rw [HD.out,if_pos hO]) (by rw [HV.out,if_pos hO])
   have hO' : (O == 3)=true:=by simp [hO]
   clear HD HV hO
   go_wp2
   exact bodyPost_ret (v:=.agg #[.int .i64 4,.int .i64 0]) (by simp [results,Tryz.results26,go_sem,q0,q1]) rfl ⟨by rw [E1.out.1,E1.out.2],(hB.setCell (p:=⟨w.heap.size + 1,0,none⟩) (by show w.heap.size≤w.heap.size + 1;omega) _).setCell (p:=⟨w.heap.size + 1,1,none⟩) (by show w.heap.size≤w.heap.size + 1;omega) _⟩
  ·have E1:Hid (D=0∧E=O):=And.intro (by rw [HD.out,if_neg hO]) (by rw [HV.out,if_neg hO])
   have hO' : (O == 3)=false:=by simpa using hO
   clear HD HV hO
   go_wp2
   exact bodyPost_ret (v:=.agg #[.int .i64 0,.int .i64 O]) (by simp [results,Tryz.results26,go_sem,q0,q1]) rfl ⟨by rw [E1.out.1,E1.out.2],(hB.setCell (p:=⟨w.heap.size + 1,0,none⟩) (by show w.heap.size≤w.heap.size + 1;omega) _).setCell (p:=⟨w.heap.size + 1,1,none⟩) (by show w.heap.size≤w.heap.size + 1;omega) _⟩
 ·have E1:Hid (D=C∧E=0):=HDE.out.2 h0
  have h0' : (C != 0)=true:=by simpa using h0
  clear HDE h0 ho2
  go_wp2
  exact bodyPost_ret (v:=.agg #[.int .i64 C,.int .i64 0]) (by simp [results,Tryz.results26,go_sem,q0,q1]) rfl ⟨by rw [E1.out.1,E1.out.2],(hB.setCell (p:=⟨w.heap.size + 1,0,none⟩) (by show w.heap.size≤w.heap.size + 1;omega) _).setCell (p:=⟨w.heap.size + 1,1,none⟩) (by show w.heap.size≤w.heap.size + 1;omega) _⟩

end Go.Proofs.YtpjmlidbligcbaaGreatDoor
namespace Go.Proofs.YtpjmlidbligcbaaGreatDoor
open Go.RowKit
open Go.BigFrame
set_option maxRecDepth 100000
theorem ine0_n:InstE.n ine0=0:=rfl

theorem prI_n {q p:InstQ} {node round mask:Int} (h:q.e=prI p.e node round mask) (hp:p.n≤1048576):q.n≤1048576:=by
 rw [inst_ne] at hp ⊢
 rw [h]
 unfold prI
 split
 ·unfold InstE.n at hp ⊢
  dsimp only
  rw [rstP_n]
  exact hp
 ·rw [ine0_n];omega

end Go.Proofs.YtpjmlidbligcbaaGreatDoor
namespace Go.Proofs.YtpjmlidbligcbaaGreatDoor
open Go.RowKit
open Go.BigFrame
set_option maxRecDepth 100000
theorem ensR_n (rs:List RoundE) (r:Nat):roundsN (ensR rs r)≤roundsN rs + 7:=by
 unfold ensR
 split
 ·unfold roundsN nmL
  simp [RoundE.n,opn3]
  omega
 ·omega

theorem rpI_n (rs:List RoundE) (nx n:Nat) (v:Int):roundsN (rpI rs nx n v)≤roundsN rs + 7:=by
 unfold rpI
 split
 ·rw [rstR_n]
  exact ensR_n rs nx
 ·omega

theorem goI_n {q p:InstQ} {node round mask coin:Int} (h:q.e=goI p.e node round mask coin) (hp:p.n≤1048576):q.n≤1048576:=by
 rw [inst_ne] at hp ⊢
 rw [h]
 by_cases hc:goC p.e node round mask coin=0
 ·have hat:atC p.e node round=0:=by
   rcases Decidable.em (atC p.e node round=0) with h0 | h0
   ·exact h0
   ·have:=((go_facts p.e node round mask coin).1 h0).1
    rw [hc] at this
    exact this.symm
  have hs:=ins_small (at_zero hat).1
  unfold goI
  rw [if_pos hc]
  have hr:=rpI_n p.e.rounds (round.toNat + 1) node.toNat (cfV (p.e.rounds.getD round.toNat rnd0).pro mask (coF p.e.has coin))
  unfold InstE.n at hs ⊢
  dsimp only
  split
  ·rw [List.length_set]
   omega
  ·omega
 ·unfold goI
  rw [if_neg hc,ine0_n]
  omega

end Go.Proofs.YtpjmlidbligcbaaGreatDoor
