/- Texts joined, with what the laws reach alone. -/
import Derived.Test.YtpmkhnakgeillaaGreatDoorSNAL
set_option linter.unusedVariables false
set_option linter.unusedSimpArgs false
namespace Go.Proofs.YtpmkhnakgeillaaGreatDoor
open Go.RowKit
open Go.BigFrame
set_option maxRecDepth 100000
/-- The board that boardOf answers. -/
def bdOf (p:InstQ):List Value:=if insF p.e=0 then brdC p.has p.vb p.e.rounds p.dec else brd0

theorem ins_zero {x:InstE} (h:insF x=0):shpF x=0∧rgtI x=true:=by
 unfold insF at h
 by_cases h0:shpF x=0
 ·rw [if_pos h0] at h
  refine ⟨h0,?_⟩
  by_cases h1:rgtI x=true
  ·exact h1
  ·rw [if_neg h1] at h
   simp at h
 ·rw [if_neg h0] at h
  exact absurd h h0

/-- What a right instance is like. -/
theorem ins_ok {x:InstE} (h:insF x=0):Wel x.rounds∧(1≤x.rounds.length∧x.rounds.length≤4)∧x.dec.length=3∧rndsF x.rounds=0∧vf x.dec 1=0:=by
 obtain ⟨h0,_⟩:=ins_zero h
 obtain ⟨h1,h2,h3,_⟩:=shp_zero h0
 exact ⟨wel_of h2,h1,vf_len h3,h2,h3⟩

theorem brd_one {has:Bool} {vb:Value} {rs:List RoundE} {dec:List Int} (hv:vb.oneCell' = true):(brdC has vb rs dec).toArray.all (·.oneCell')=true:=all_oneCell_toArray (fun v hm=>by
 simp only [brdC,rndC,rowsV,List.mem_append,List.mem_cons,List.mem_flatMap,List.mem_replicate,List.mem_map,rowC,List.not_mem_nil,or_false] at hm
 rcases hm with (rfl | ⟨r,_,z,_,rfl⟩ | ⟨_,rfl⟩) | (rfl | rfl) | ⟨z,_,rfl⟩ <;> first | rfl | exact hv)

theorem bd_ok {w:World} {p:InstQ} (h:instK.rd w p):(bdOf p).length=30∧(bdOf p).toArray.all (·.oneCell')=true:=by
 unfold bdOf
 by_cases h0:insF p.e=0
 ·rw [if_pos h0]
  obtain ⟨h1,h2,h3,_⟩:=ins_ok h0
  refine ⟨brdC_length h1 h2.2 h3,brd_one ?_⟩
  obtain ⟨a,c,e⟩:=h.1.shape
  rw [e];rfl
 ·rw [if_neg h0]
  exact ⟨rfl,by kernel_rfl⟩

set_option maxHeartbeats 2000000 in
theorem implInstanceFault_any (p:InstQ) (w:World) (hG:Rul w) (h:instK.rd w p) (hl:p.n≤1048576) :
  Calls Tryz.prog 128 #[.agg #[.bool p.has,p.vb,p.vr,p.vd]] w fun e w' => e=.returned (.int .i64 (insF p.e))∧Below w.heap.size w w' := by
 obtain ⟨hl30,hone⟩:=bd_ok h
 have hbo:=fun w hG h=>boardOf_any p w hG h hl
 have hrb:=fun (w' : World) hb=>instK.rd_below (w' := w') h hb
 change ∀ w hG h,Calls _ _ _ _ fun e w' => e=.returned (.tuple #[.agg (bdOf p).toArray,_])∧_ at hbo
 generalize bdOf p=BD at *
 generalize insF p.e=C at *
 obtain ⟨has,vb,batch,vr,rounds,vd,dec⟩:=p
 obtain ⟨ba,bk,rfl⟩:∃ a c,vb=.slice a batch.length c:=h.1.shape
 obtain ⟨va,vk,rfl⟩:∃ a c,vr=.slice a rounds.length c:=h.2.1.shape
 obtain ⟨da,dk,rfl⟩:∃ a c,vd=.slice a dec.length c:=h.2.2.shape
 dsimp only at hbo hrb
 have hB:Below w.heap.size w (w.alloc (.cells #[.bool has,.slice ba batch.length bk,.slice va rounds.length vk,.slice da dec.length dk] 117)):=by go_grown
 have hszB:(Tryz.prog.info? 261).map (·.size)=some BD.toArray.size:=by rw [List.size_toArray,hl30];exact sz_board
 have hold:(#[.int .i64 0,.int .i64 0,.int .i64 0,.int .i64 0,.int .i64 0,.int .i64 0,.int .i64 0,.int .i64 0,.int .i64 0,.int .i64 0,.int .i64 0,.int .i64 0,.int .i64 0,.int .i64 0,.int .i64 0,.int .i64 0,.int .i64 0,.int .i64 0,.int .i64 0,.int .i64 0,.int .i64 0,.int .i64 0,.int .i64 0,.int .i64 0,.int .i64 0,.bool false,.slice none 0 0,.int .i64 0,.int .i64 0,.int .i64 0]:Array Value).size=BD.toArray.size:=(show 30=BD.length from hl30.symm)
 go_enter Tryz.func128,Tryz.ntmps128
 go_wp2_with fail
 generalize w.alloc (.cells #[.bool has,.slice ba batch.length bk,.slice va rounds.length vk,.slice da dec.length dk] 117)=W at *
 refine (hbo W (hG.below hB) (hrb W hB)).mono ?_
 rintro e w1 ⟨rfl,hb1⟩
 replace hB:=hB.trans (hb1.mono hB.size)
 have Bz:=Blk.new w1 261 #[.int .i64 0,.int .i64 0,.int .i64 0,.int .i64 0,.int .i64 0,.int .i64 0,.int .i64 0,.int .i64 0,.int .i64 0,.int .i64 0,.int .i64 0,.int .i64 0,.int .i64 0,.int .i64 0,.int .i64 0,.int .i64 0,.int .i64 0,.int .i64 0,.int .i64 0,.int .i64 0,.int .i64 0,.int .i64 0,.int .i64 0,.int .i64 0,.int .i64 0,.bool false,.slice none 0 0,.int .i64 0,.int .i64 0,.int .i64 0]
 have hB2:=below_row (hB.alloc hB.size (.cells #[.int .i64 0,.int .i64 0,.int .i64 0,.int .i64 0,.int .i64 0,.int .i64 0,.int .i64 0,.int .i64 0,.int .i64 0,.int .i64 0,.int .i64 0,.int .i64 0,.int .i64 0,.int .i64 0,.int .i64 0,.int .i64 0,.int .i64 0,.int .i64 0,.int .i64 0,.int .i64 0,.int .i64 0,.int .i64 0,.int .i64 0,.int .i64 0,.int .i64 0,.bool false,.slice none 0 0,.int .i64 0,.int .i64 0,.int .i64 0] 261)) (g:=w1.heap.size) hB.size BD.toArray
 clear hbo hrb hb1
 go_wp2_with (refine st_row (by kernel_rfl) 261 _ _ rfl _ BD.toArray rfl rfl 261 _ Bz hszB hold hone ?_)
 go_ret
 exact ⟨rfl,hB2⟩

/-- What the first one that decided decided, or that none did. -/
def outV:List Int→Int
 | []=>3
 | x :: r=>if x=3 then outV r else x

theorem outV_at (L:List Int):∀ k,(∀ j,j < k→L.getD j 0=3)→k < L.length→L.getD k 0≠3→outV L=L.getD k 0:=by
 induction L with
 | nil=>intro k _ h;simp at h
 | cons x r ih=>
  intro k h0 hk hne
  cases k with
  | zero=>simp [List.getD] at hne ⊢;simp [outV,hne]
  | succ k=>
   have hx:x=3:=by simpa [List.getD] using h0 0 (by omega)
   have:=ih k (fun j hj=>by simpa [List.getD] using h0 (j + 1) (by omega)) (by simpa using hk) (by simpa [List.getD] using hne)
   simp only [outV,hx,if_true]
   rw [this]
   simp [List.getD]

theorem outV_none (L:List Int) (h:∀ j,j < L.length→L.getD j 0=3):outV L=3:=by
 induction L with
 | nil=>rfl
 | cons x r ih=>
  have hx:x=3:=by simpa [List.getD] using h 0 (by simp)
  simp only [outV,hx,if_true]
  exact ih (fun j hj=>by simpa [List.getD] using h (j + 1) (by simpa using hj))

/-- OutcomeOf: code and value. -/
def ocC (x:InstE):Int:=if insF x=0 then (if outV x.dec=3 then 4 else 0) else insF x

def ocV (x:InstE):Int:=if insF x=0 then (if outV x.dec=3 then 0 else outV x.dec) else 0

set_option maxHeartbeats 2000000 in
theorem implOutcome_any (p:InstQ) (w:World) (hG:Rul w) (h:instK.rd w p) (hl:p.n≤1048576) :
  Calls Tryz.prog 127 #[.agg #[.bool p.has,p.vb,p.vr,p.vd]] w fun e w' => e=.returned (.agg #[.int .i64 (ocC p.e),.int .i64 (ocV p.e)])∧Below w.heap.size w w' := by
 obtain ⟨hl30,hone⟩:=bd_ok h
 have hbo:=fun w hG h=>boardOf_any p w hG h hl
 have hrb:=fun (w' : World) hb=>instK.rd_below (w' := w') h hb
 change ∀ w hG h,Calls _ _ _ _ fun e w' => e=.returned (.tuple #[.agg (bdOf p).toArray,_])∧_ at hbo
 have HBD:Hid (insF p.e=0→bdOf p=brdC p.has p.vb p.e.rounds p.dec∧Wel p.e.rounds∧p.e.rounds.length≤4∧p.dec.length=3):=fun h0=>by
  obtain ⟨h1,h2,h3,_⟩:=ins_ok h0
  exact ⟨if_pos h0,h1,h2.2,h3⟩
 obtain ⟨D,hD⟩:∃ D,ocC p.e=D:=⟨_,rfl⟩
 obtain ⟨E,hE⟩:∃ E,ocV p.e=E:=⟨_,rfl⟩
 have HDE:Hid ((insF p.e=0→(D=if outV p.dec=3 then 4 else 0)∧(E=if outV p.dec=3 then 0 else outV p.dec))∧(insF p.e≠0→D=insF p.e∧E=0)):=by
  refine ⟨fun h0=>⟨?_,?_⟩,fun h0=>⟨?_,?_⟩⟩
  ·rw [← hD];exact if_pos h0
  ·rw [← hE];exact if_pos h0
  ·rw [← hD];exact if_neg h0
  ·rw [← hE];exact if_neg h0
 rw [hD,hE]
 clear hD hE
 generalize bdOf p=BD at *
 generalize insF p.e=C at *
 generalize p.e.rounds=rs at *
 obtain ⟨has,vb,batch,vr,rounds,vd,dec⟩:=p
 obtain ⟨ba,bk,rfl⟩:∃ a c,vb=.slice a batch.length c:=h.1.shape
 obtain ⟨va,vk,rfl⟩:∃ a c,vr=.slice a rounds.length c:=h.2.1.shape
 obtain ⟨da,dk,rfl⟩:∃ a c,vd=.slice a dec.length c:=h.2.2.shape
 dsimp only at hbo hrb HBD HDE
 have hB:Below w.heap.size w ((w.alloc (.cells #[.bool has,.slice ba batch.length bk,.slice va rounds.length vk,.slice da dec.length dk] 117)).alloc (.cells #[.int .i64 0,.int .i64 0] 53)):=by go_grown
 have Rb:=Blk.new (w.alloc (.cells #[.bool has,.slice ba batch.length bk,.slice va rounds.length vk,.slice da dec.length dk] 117)) 53 #[.int .i64 0,.int .i64 0]
 simp only [World.size_alloc] at Rb
 have hszB:(Tryz.prog.info? 261).map (·.size)=some BD.toArray.size:=by rw [List.size_toArray,hl30];exact sz_board
 have hold:(#[.int .i64 0,.int .i64 0,.int .i64 0,.int .i64 0,.int .i64 0,.int .i64 0,.int .i64 0,.int .i64 0,.int .i64 0,.int .i64 0,.int .i64 0,.int .i64 0,.int .i64 0,.int .i64 0,.int .i64 0,.int .i64 0,.int .i64 0,.int .i64 0,.int .i64 0,.int .i64 0,.int .i64 0,.int .i64 0,.int .i64 0,.int .i64 0,.int .i64 0,.bool false,.slice none 0 0,.int .i64 0,.int .i64 0,.int .i64 0]:Array Value).size=BD.toArray.size:=(show 30=BD.length from hl30.symm)
 go_enter Tryz.func127,Tryz.ntmps127
 go_wp2_with fail
 generalize (w.alloc (.cells #[.bool has,.slice ba batch.length bk,.slice va rounds.length vk,.slice da dec.length dk] 117)).alloc (.cells #[.int .i64 0,.int .i64 0] 53)=W at *
 refine (hbo W (hG.below hB) (hrb W hB)).mono ?_
 rintro e w1 ⟨rfl,hb1⟩
 replace hB:=hB.trans (hb1.mono hB.size)
 replace Rb:=Rb.below hb1
 have Bz:=Blk.new w1 261 #[.int .i64 0,.int .i64 0,.int .i64 0,.int .i64 0,.int .i64 0,.int .i64 0,.int .i64 0,.int .i64 0,.int .i64 0,.int .i64 0,.int .i64 0,.int .i64 0,.int .i64 0,.int .i64 0,.int .i64 0,.int .i64 0,.int .i64 0,.int .i64 0,.int .i64 0,.int .i64 0,.int .i64 0,.int .i64 0,.int .i64 0,.int .i64 0,.int .i64 0,.bool false,.slice none 0 0,.int .i64 0,.int .i64 0,.int .i64 0]
 have hB2:=below_row (hB.alloc hB.size (.cells #[.int .i64 0,.int .i64 0,.int .i64 0,.int .i64 0,.int .i64 0,.int .i64 0,.int .i64 0,.int .i64 0,.int .i64 0,.int .i64 0,.int .i64 0,.int .i64 0,.int .i64 0,.int .i64 0,.int .i64 0,.int .i64 0,.int .i64 0,.int .i64 0,.int .i64 0,.int .i64 0,.int .i64 0,.int .i64 0,.int .i64 0,.int .i64 0,.int .i64 0,.bool false,.slice none 0 0,.int .i64 0,.int .i64 0,.int .i64 0] 261)) (g:=w1.heap.size) hB.size BD.toArray
 have Rb2:Blk ((w1.alloc (.cells #[.int .i64 0,.int .i64 0,.int .i64 0,.int .i64 0,.int .i64 0,.int .i64 0,.int .i64 0,.int .i64 0,.int .i64 0,.int .i64 0,.int .i64 0,.int .i64 0,.int .i64 0,.int .i64 0,.int .i64 0,.int .i64 0,.int .i64 0,.int .i64 0,.int .i64 0,.int .i64 0,.int .i64 0,.int .i64 0,.int .i64 0,.int .i64 0,.int .i64 0,.bool false,.slice none 0 0,.int .i64 0,.int .i64 0,.int .i64 0] 261)).setRow w1.heap.size BD.toArray) (w.heap.size + 1) 53 #[.int .i64 0,.int .i64 0]:=(setRow_other _ _ _ _ (by have:=Rb.lt;omega)).trans (Rb.below ((Below.refl _ _).alloc (Nat.le_refl _) _))
 have B2:=Bz.row BD.toArray
 clear hbo hrb hb1 Rb
 by_cases h0:C=0
 ·obtain ⟨hBD,hwel,h4,hd3⟩:=HBD.out h0
  have HD:Hid (D=if outV dec=3 then 4 else 0):=(HDE.out.1 h0).1
  have HV:Hid (E=if outV dec=3 then 0 else outV dec):=(HDE.out.1 h0).2
  subst h0
  have hrg:=rng B2 (dec.map iv) (o:=27) (fun j v hv=>by
   obtain ⟨hj,rfl⟩:=row_get hd3 hv
   rw [List.getElem?_toArray,hBD]
   exact brd_dec hwel h4 hd3 j hj)
  have hszD:(Tryz.prog.info? 254).map (·.size)=some (dec.map iv).length:=by rw [List.length_map,hd3];exact sz_row
  clear HBD HDE hBD
  go_wp2_with (first | (refine st_row (by kernel_rfl) 261 _ _ rfl _ BD.toArray rfl rfl 261 _ Bz hszB hold hone ?_) | (refine ld_g (by kernel_rfl) 254 _ rfl _ _ rfl (dec.map iv) _ hrg Tryz.underlying254 rfl hszD ?_))
  clear hrg Bz
  generalize (w1.alloc (.cells #[.int .i64 0,.int .i64 0,.int .i64 0,.int .i64 0,.int .i64 0,.int .i64 0,.int .i64 0,.int .i64 0,.int .i64 0,.int .i64 0,.int .i64 0,.int .i64 0,.int .i64 0,.int .i64 0,.int .i64 0,.int .i64 0,.int .i64 0,.int .i64 0,.int .i64 0,.int .i64 0,.int .i64 0,.int .i64 0,.int .i64 0,.int .i64 0,.int .i64 0,.bool false,.slice none 0 0,.int .i64 0,.int .i64 0,.int .i64 0] 261)).setRow w1.heap.size BD.toArray=X at *
  go_loopw [18] (fun j wr=>∃ m:Nat,m≤3∧j=.int .i64 m∧Hid (∀ j,j < m→dec.getD j 0=3)∧wr=X) (fun j _=>3 - (intOf j).toNat)
  case atStart=>exact ⟨0,Nat.zero_le _,rfl,fun j hj=>absurd hj (Nat.not_lt_zero _),rfl⟩
  case round=>
   obtain ⟨m,hm,rfl,HA,rfl⟩:=hrel
   have q0:=Rb2.cell 0 _ rfl
   have q1:=Rb2.cell 1 _ rfl
   have f0:=Rb2.frozen 0
   have f1:=Rb2.frozen 1
   by_cases hm3:m < 3
   ·have hm3' : (m:Int) < 3:=by omega
    have hix:=fun w=>idx_any hd3 m hm3 w
    have HY:Hid (dec.getD m 0≠3→outV dec=dec.getD m 0):=fun hx=>outV_at dec m HA.out (by omega) hx
    have HN:Hid (dec.getD m 0=3→∀ j,j < m + 1→dec.getD j 0=3):=fun hx j hj=>by
     by_cases hjm:j=m
     ·subst hjm;exact hx
     ·exact HA.out j (by omega)
    clear HA
    generalize dec.getD m 0=v at *
    by_cases hv:v=3
    ·have hv' : (v != 3)=false:=by simp [hv]
     have R:=HN.out hv
     have HR:Hid _:=R
     clear HY HN R hv
     go_wp2
     go_roundw
     case rel=>exact ⟨m + 1,by omega,by go_num,HR.out,by first | rfl | trivial⟩
     case measure=>simp [intOf];omega
    ·have hv' : (v != 3)=true:=by simpa using hv
     have hov:=HY.out hv
     have E1:Hid (D=0∧E=v):=by
      refine ⟨?_,?_⟩
      ·rw [HD.out,hov,if_neg hv]
      ·rw [HV.out,hov,if_neg hv]
     clear HY HN HD HV hov hv
     go_wp2
     exact bodyPost_ret (v:=.agg #[.int .i64 0,.int .i64 v]) (by simp [results,Tryz.results127,go_sem,q0,q1]) rfl ⟨by rw [E1.out.1,E1.out.2],(hB2.setCell (p:=⟨w.heap.size + 1,0,none⟩) (by show w.heap.size≤w.heap.size + 1;omega) _).setCell (p:=⟨w.heap.size + 1,1,none⟩) (by show w.heap.size≤w.heap.size + 1;omega) _⟩
   ·have hme:m=3:=by omega
    subst hme
    have hov:=outV_none dec (by rw [hd3];exact HA.out)
    have E1:Hid (D=4∧E=0):=by
     refine ⟨?_,?_⟩
     ·rw [HD.out,hov,if_pos rfl]
     ·rw [HV.out,hov,if_pos rfl]
    clear HA HD HV hov
    go_wp2
    exact bodyPost_ret (v:=.agg #[.int .i64 4,.int .i64 0]) (by simp [results,Tryz.results127,go_sem,q0,q1]) rfl ⟨by rw [E1.out.1,E1.out.2],(hB2.setCell (p:=⟨w.heap.size + 1,0,none⟩) (by show w.heap.size≤w.heap.size + 1;omega) _).setCell (p:=⟨w.heap.size + 1,1,none⟩) (by show w.heap.size≤w.heap.size + 1;omega) _⟩
 ·have E1:Hid (D=C∧E=0):=HDE.out.2 h0
  have h0' : (C != 0)=true:=by simpa using h0
  have q0:=Rb2.cell 0 _ rfl
  have q1:=Rb2.cell 1 _ rfl
  have f0:=Rb2.frozen 0
  have f1:=Rb2.frozen 1
  clear HDE HBD h0 B2 Rb2
  generalize hX:(w1.alloc (.cells #[.int .i64 0,.int .i64 0,.int .i64 0,.int .i64 0,.int .i64 0,.int .i64 0,.int .i64 0,.int .i64 0,.int .i64 0,.int .i64 0,.int .i64 0,.int .i64 0,.int .i64 0,.int .i64 0,.int .i64 0,.int .i64 0,.int .i64 0,.int .i64 0,.int .i64 0,.int .i64 0,.int .i64 0,.int .i64 0,.int .i64 0,.int .i64 0,.int .i64 0,.bool false,.slice none 0 0,.int .i64 0,.int .i64 0,.int .i64 0] 261)).setRow w1.heap.size BD.toArray=X at q0 q1 f0 f1 hB2
  go_wp2_with (refine st_row (by kernel_rfl) 261 _ _ rfl _ BD.toArray rfl rfl 261 _ Bz hszB hold hone ?_)
  exact bodyPost_ret (v:=.agg #[.int .i64 C,.int .i64 0]) (by simp [results,Tryz.results127,go_sem,q0,q1]) rfl ⟨by rw [E1.out.1,E1.out.2],(hB2.setCell (p:=⟨w.heap.size + 1,0,none⟩) (by show w.heap.size≤w.heap.size + 1;omega) _).setCell (p:=⟨w.heap.size + 1,1,none⟩) (by show w.heap.size≤w.heap.size + 1;omega) _⟩

set_option maxHeartbeats 2000000 in
theorem l6Outcome_any (b o:Nat) (p:InstQ) (w:World) (hP:InstP w b o p) (hl:p.n≤1048576) :
  Calls Tryz.prog 125 #[.pointer (some ⟨b,o,none⟩)] w fun e w' => e=.returned (.int .i64 (outV p.dec))∧w' = w:=by
 obtain ⟨has,vb,batch,vr,rounds,vd,dec⟩:=p
 have hD:intK.At w vd dec:=hP.dec
 obtain ⟨da,dk,rfl⟩:=hD.shape
 have hRow:=(intK_at hD).2
 obtain ⟨c0,c1,c2,c3⟩:=hP.box
 dsimp only [InstQ.n] at c0 c1 c2 c3 hl ⊢
 generalize hE:outV dec=E
 have HE:Hid (outV dec=E):=hE
 clear hE
 go_enter Tryz.func125,Tryz.ntmps125
 go_wp2
 go_loop [3] (fun j=>∃ k:Nat,k≤dec.length∧j=.int .i64 k∧Hid (∀ j,j < k→dec.getD j 0=3)) (fun j=>dec.length - (intOf j).toNat)
 case atStart=>exact ⟨0,Nat.zero_le _,rfl,fun j hj=>absurd hj (Nat.not_lt_zero _)⟩
 case round=>
  obtain ⟨k,hk,rfl,HA⟩:=hrel
  by_cases hlt:k < dec.length
  ·obtain ⟨bb,off,rfl,hbs,hc⟩:=hRow k hlt
   have HY:Hid (dec.getD k 0≠3→E=dec.getD k 0):=fun hx=>by rw [← HE.out];exact outV_at dec k HA.out hlt hx
   have HN:Hid (dec.getD k 0=3→∀ j,j < k + 1→dec.getD j 0=3):=fun hx j hj=>by
    by_cases hjm:j=k
    ·subst hjm;exact hx
    ·exact HA.out j (by omega)
   clear HA
   generalize dec.getD k 0=v at *
   by_cases hv:v=3
   ·have hv' : (v != 3)=false:=by simp [hv]
    have R:=HN.out hv
    have HR:Hid _:=R
    clear HY HN R hv
    go_wp2
    go_round
    case rel=>exact ⟨k + 1,by omega,by go_num,HR.out⟩
    case measure=>simp [intOf];omega
   ·have hv' : (v != 3)=true:=by simpa using hv
    have E1:Hid (E=v):=HY.out hv
    clear HY HN hv
    go_wp2
    go_ret
    exact ⟨by rw [E1.out];rfl,rfl⟩
  ·have hkl:k=dec.length:=by omega
   subst hkl
   have E1:Hid (E=3):=by rw [← HE.out];exact outV_none dec HA.out
   clear HA HE
   go_wp2
   go_ret
   exact ⟨by rw [E1.out];rfl,rfl⟩

end Go.Proofs.YtpmkhnakgeillaaGreatDoor
namespace Go.Proofs.YtpmkhnakgeillaaGreatDoor
open Go.RowKit
set_option maxRecDepth 100000
def instNo:InstE:=⟨false,[],[],[]⟩

/-- The fault of the instances, one by one. -/
def ordGo:List InstE→Int
 | []=>0
 | x :: r=>if insF x=0 then (if 0 < r.length∧outV x.dec=3 then 8 else ordGo r) else insF x

/-- The fault of an order. -/
def ordF (ds:List InstE):Int:=if ds.length < 1∨4 < ds.length then 2 else ordGo ds

def lastE (ds:List InstE):InstE:=ds.getD (ds.length - 1) instNo

/-- How many have an outcome. -/
def decN (ds:List InstE):Nat:=if outV (lastE ds).dec=3 then ds.length - 1 else ds.length

theorem drop_at (ds:List InstE) (k:Nat) (hk:k < ds.length):ds.drop k=ds.getD k instNo :: ds.drop (k + 1):=by
 rw [List.drop_eq_getElem_cons hk]
 simp [List.getD,hk]

theorem ordGo_bad (ds:List InstE) (k:Nat) (hk:k < ds.length) (h:insF (ds.getD k instNo)≠0):ordGo (ds.drop k)=insF (ds.getD k instNo):=by
 rw [drop_at ds k hk,ordGo,if_neg h]

theorem ordGo_open (ds:List InstE) (k:Nat) (hk:k + 1 < ds.length) (h:insF (ds.getD k instNo)=0) (h3:outV (ds.getD k instNo).dec=3):ordGo (ds.drop k)=8:=by
 rw [drop_at ds k (by omega),ordGo,if_pos h,if_pos ⟨by simp;omega,h3⟩]

theorem ordGo_next (ds:List InstE) (k:Nat) (hk:k < ds.length) (h:insF (ds.getD k instNo)=0) (h3:¬ (k + 1 < ds.length∧outV (ds.getD k instNo).dec=3)):ordGo (ds.drop k)=ordGo (ds.drop (k + 1)):=by
 rw [drop_at ds k hk,ordGo,if_pos h,if_neg]
 rintro ⟨h1,h2⟩
 exact h3 ⟨by simp at h1;omega,h2⟩

theorem ordGo_end (ds:List InstE) (k:Nat) (hk:ds.length≤k):ordGo (ds.drop k)=0:=by
 rw [List.drop_of_length_le hk]
 rfl

theorem ordGo_iff:∀ (ds:List InstE),ordGo ds=0↔∀ k,k < ds.length→insF (ds.getD k instNo)=0∧(k + 1 < ds.length→outV (ds.getD k instNo).dec≠3)
 | []=>by simp [ordGo]
 | x :: r=>by
  rw [ordGo]
  constructor
  ·intro h k hk
   by_cases h0:insF x=0
   ·rw [if_pos h0] at h
    by_cases h1:0 < r.length∧outV x.dec=3
    ·rw [if_pos h1] at h
     exact absurd h (by decide)
    ·rw [if_neg h1] at h
     cases k with
     | zero=>exact ⟨h0,fun hl h3=>h1 ⟨by simpa using hl,h3⟩⟩
     | succ k=>
      have:=(ordGo_iff r).1 h k (by simpa using hk)
      simp only [List.getD_cons_succ,List.length_cons]
      exact ⟨this.1,fun hl=>this.2 (by omega)⟩
   ·rw [if_neg h0] at h
    exact absurd h h0
  ·intro h
   have h0:=h 0 (by simp)
   have e0:insF x=0:=h0.1
   rw [if_pos e0,if_neg (fun e=>h0.2 (by simpa using e.1) e.2)]
   refine (ordGo_iff r).2 (fun k hk=>?_)
   have:=h (k + 1) (by simpa using hk)
   simp only [List.getD_cons_succ,List.length_cons] at this
   exact ⟨this.1,fun hl=>this.2 (by omega)⟩

theorem ord_iff (ds:List InstE):ordF ds=0↔(1≤ds.length∧ds.length≤4)∧∀ k,k < ds.length→insF (ds.getD k instNo)=0∧(k + 1 < ds.length→outV (ds.getD k instNo).dec≠3):=by
 unfold ordF
 by_cases h:ds.length < 1∨4 < ds.length
 ·rw [if_pos h]
  constructor
  ·intro h;exact absurd h (by decide)
  ·rintro ⟨h1,_⟩;omega
 ·rw [if_neg h,ordGo_iff]
  constructor
  ·intro h2;exact ⟨by omega,h2⟩
  ·rintro ⟨_,h2⟩;exact h2

theorem ord_mem {ds:List InstE} (h:ordF ds=0):∀ x∈ds,insF x=0:=by
 intro x hx
 obtain ⟨k,hk,rfl⟩:=List.getElem_of_mem hx
 have:=(((ord_iff ds).1 h).2 k hk).1
 simpa [List.getD,hk] using this

theorem decN_le (ds:List InstE):decN ds≤ds.length:=by
 unfold decN
 split <;> omega

/-- One stands for another. -/
def stF (a b:TxnD):Bool:=(a.id == b.id) || ((a.session == b.session) && (a.seq == b.seq))

def knw (acc:List TxnD) (t:TxnD):Bool:=acc.any (fun a=>stF a t)

/-- Each one once. -/
def onc:List TxnD→List TxnD→List TxnD
 | acc,[]=>acc
 | acc,t :: r=>onc (if knw acc t then acc else acc ++ [t]) r

/-- What is taken, in order. -/
def takF (ds:List InstE):List TxnD:=ds.flatMap (fun x=>if outV x.dec=1 then x.batch else [])

def defL (ds:List InstE) (n:Nat):List TxnD:=onc [] (takF (ds.take n))

theorem onc_append:∀ (xs ys acc:List TxnD),onc acc (xs ++ ys)=onc (onc acc xs) ys
 | [],_,_=>rfl
 | t :: r,ys,acc=>by
  simp only [List.cons_append,onc]
  exact onc_append r ys _

theorem onc_sub:∀ (xs acc:List TxnD),∀ t∈onc acc xs,t∈acc∨t∈xs
 | [],acc,t,h=>Or.inl h
 | x :: r,acc,t,h=>by
  simp only [onc] at h
  rcases onc_sub r _ t h with h | h
  ·split at h
   ·exact Or.inl h
   ·rcases List.mem_append.1 h with h | h
    ·exact Or.inl h
    ·simp only [List.mem_singleton] at h
     exact Or.inr (by rw [h];simp)
  ·exact Or.inr (List.mem_cons_of_mem _ h)

theorem onc_len (xs acc:List TxnD):(onc acc xs).length≤acc.length + xs.length:=by
 induction xs generalizing acc with
 | nil=>simp [onc]
 | cons t r ih=>
  simp only [onc,List.length_cons]
  have:=ih (if knw acc t then acc else acc ++ [t])
  split at this
  ·rename_i h;rw [if_pos h];omega
  ·rename_i h;rw [if_neg h];simp only [List.length_append,List.length_singleton] at this;omega

end Go.Proofs.YtpmkhnakgeillaaGreatDoor
namespace Go.Proofs.YtpmkhnakgeillaaGreatDoor
open Go.RowKit
open Go.BigFrame
set_option maxRecDepth 100000
theorem infoInstance:(Tryz.prog.info? 117).map (fun i=>(i.zero,i.size,i.bytes))=some (some (.agg #[.bool false,.slice none 0 0,.slice none 0 0,.slice none 0 0]),4,80):=by kernel_rfl

set_option maxHeartbeats 1000000 in
theorem szInstances_k (v:Value) (ps:List InstQ) (c:Int) (w:World) (h:instK.At w v ps) (hn:ps.length≤9223372036854775807) (hn1:∀ p∈ps,InstQ.wf p) (h0:0≤c) (h1:c≤1048576) :
  Calls Tryz.prog 36 #[v,.int .i64 c] w fun e w' => ∃ r:Int,e=.returned (.int .i64 r)∧(¬ r < 0→((ps.length + nmL InstQ.n ps:Nat):Int) + r=c)∧Below w.heap.size w w' := by
 obtain ⟨a,cap,rfl⟩:=h.shape
 by_cases hbig:c - ps.length < 0
 ·go_enter Tryz.func36,Tryz.ntmps36
  go_wp2
  go_ret
  exact ⟨_,rfl,fun h=>by omega,Below.refl _ _⟩
 ·go_enter Tryz.func36,Tryz.ntmps36
  go_wp2
  go_loopw [1,5] (fun l i wr=>∃ (k:Nat) (x:Int),k≤ps.length∧i=.int .i64 k∧l=.int .i64 x∧0≤x∧x≤1048576∧Hid (ps.length + nmL InstQ.n (ps.take k) + x=c)∧Below w.heap.size w wr) (fun _ i _=>ps.length - (intOf i).toNat)
  case atStart=>exact ⟨0,c - ps.length,Nat.zero_le _,rfl,by go_num,by omega,by omega,show _=_ by simp [nmL];omega,Below.refl _ _⟩
  case round=>
   obtain ⟨k,x,hk,rfl,rfl,hx0,hx1,HS,hb⟩:=hrel
   by_cases hlt:k < ps.length
   ·obtain ⟨b,off,rfl,hbs,hc,hrd⟩:=(h.below hb).cell (by decide) k hlt
    have hc' : ∀ j x,(instK.cells ps[k])[j]? = some x→wr.cell? ⟨b,off + k * 4 + j,none⟩=some x:=hc
    have c0:=hc' 0 (.bool ps[k].has) rfl
    have c1:=hc' 1 (ps[k].vb) rfl
    have c2:=hc' 2 (ps[k].vr) rfl
    have c3:=hc' 3 (ps[k].vd) rfl
    have hs:=nmL_succ InstQ.n ps k hlt
    have HN:=hn1 _ (List.getElem_mem hlt)
    have HS' : Hid (∀ y:Int,(InstQ.n ps[k]:Int) + y=x→ps.length + nmL InstQ.n (ps.take (k + 1)) + y=c):=by
     intro y hy
     have:=HS.out
     omega
    clear HS hs hc hc'
    generalize ps[k]=p at *
    have hsz:=szInstance_k p x wr hrd HN hx0 hx1
    generalize InstQ.n p=m at *
    rw [Nat.add_zero] at c0
    go_wp2_with fail
    refine hsz.mono ?_
    rintro e w2 ⟨r,rfl,hr,hb2⟩
    replace hb:=hb.trans (hb2.mono hb.size)
    clear hb2 hsz c0 c1 c2 c3
    by_cases hneg:r < 0
    ·go_wp2
     go_ret
     exact ⟨_,rfl,fun h=>by omega,hb⟩
    ·have hrx:=hr (by omega)
     have HR:Hid (ps.length + nmL InstQ.n (ps.take (k + 1)) + r=c):=HS'.out r hrx
     have hr1:r≤1048576:=by omega
     clear HS' hr hrx
     go_wp2
     go_roundw
     case rel=>exact ⟨k + 1,r,by omega,by go_num,rfl,by omega,hr1,HR.out,hb⟩
     case measure=>simp [intOf];omega
   ·have hkl:k=ps.length:=by omega
    subst hkl
    rw [List.take_length] at HS
    go_wp2
    go_ret
    exact ⟨_,rfl,fun _=>by have:=HS.out;omega,hb⟩

set_option maxHeartbeats 2000000 in
theorem eqInstances_k (v v' : Value) (ps qs:List InstQ) (w:World) (h:instK.At w v ps) (h' : instK.At w v' qs) (he:ps.map InstQ.e=qs.map InstQ.e) (hl:(ps.length + nmL InstQ.n ps)≤1048576) :
  Calls Tryz.prog 40 #[v,v'] w fun e w' => e=.returned (.bool true)∧Below w.heap.size w w' := by
 obtain ⟨a,cap,rfl⟩:=h.shape
 obtain ⟨a',cap',rfl⟩:=h'.shape
 have hlen:qs.length=ps.length:=by
  have:=congrArg List.length he
  simpa using this.symm
 rw [hlen] at h' ⊢
 have HL:Hid (qs.length=ps.length):=hlen
 clear hlen
 go_enter Tryz.func40,Tryz.ntmps40
 go_wp2
 go_loopw [5] (fun i wr=>∃ k:Nat,k≤ps.length∧i=.int .i64 k∧Below w.heap.size w wr) (fun i _=>ps.length - (intOf i).toNat)
 case atStart=>exact ⟨0,Nat.zero_le _,rfl,Below.refl _ _⟩
 case round=>
  obtain ⟨k,hk,rfl,hb⟩:=hrel
  by_cases hlt:k < ps.length
  ·have hlt' : k < qs.length:=by have:=HL.out;omega
   obtain ⟨b,off,rfl,hbs,hc,hrd⟩:=(h.below hb).cell (by decide) k hlt
   obtain ⟨b',off',rfl,hbs',hd,hrd'⟩:=(h'.below hb).cell (by decide) k hlt'
   have hc' : ∀ j x,(instK.cells ps[k])[j]? = some x→wr.cell? ⟨b,off + k * 4 + j,none⟩=some x:=hc
   have hd' : ∀ j x,(instK.cells qs[k])[j]? = some x→wr.cell? ⟨b',off' + k * 4 + j,none⟩=some x:=hd
   have c0:=hc' 0 (.bool ps[k].has) rfl
   have d0:=hd' 0 (.bool qs[k].has) rfl
   have c1:=hc' 1 (ps[k].vb) rfl
   have d1:=hd' 1 (qs[k].vb) rfl
   have c2:=hc' 2 (ps[k].vr) rfl
   have d2:=hd' 2 (qs[k].vr) rfl
   have c3:=hc' 3 (ps[k].vd) rfl
   have d3:=hd' 3 (qs[k].vd) rfl
   have hee:InstQ.e ps[k]=InstQ.e qs[k]:=by
    have:=congrArg (·[k]?) he
    simpa [hlt,hlt'] using this
   have hzl:=nm_le InstQ.n ps k hlt
   clear hc hc' hd hd'
   generalize ps[k]=p at *
   generalize qs[k]=p' at *
   have hEQ:=fun w h1 h2=>eqInstance_k p p' w h1 h2 hee (show InstQ.n p≤1048576 by omega)
   clear hee hzl
   rw [Nat.add_zero] at c0 d0
   have k0:=lat_cell c0
   have l0:=lat_cell d0
   have k1:=lat_cell c1
   have l1:=lat_cell d1
   have k2:=lat_cell c2
   have l2:=lat_cell d2
   have k3:=lat_cell c3
   have l3:=lat_cell d3
   clear c0 d0 c1 d1 c2 d2 c3 d3
   have hW:Below wr.heap.size wr wr.drew:=(Below.refl _ _).drew
   have hne:Nonempty (Lat wr):=⟨⟨wr,Below.refl _ _⟩⟩
   go_wp2_with fail
   refine text_begin (S:=fun w' => ∃ u:Lat wr,w' = u.val) (by kernel_rfl) ?_
   refine seg_range [(0,8)] 2 (by kernel_rfl) (by kernel_rfl) (by kernel_rfl) (by kernel_rfl) (by kernel_rfl) ⟨⟨_,hW⟩,rfl⟩ ?_
   simp only [pickR,List.toList_toArray,List.flatMap_cons,List.flatMap_nil,List.drop_succ_cons,List.drop_zero,List.take_succ_cons,List.take_zero,List.cons_append,List.nil_append,List.append_nil]
   repeat go_big_quiet_step (fail)
   refine wpQuiet_nil ?_
   refine call_at 8 (some 25) 84 #[.agg #[.bool p.has,p.vb,p.vr,p.vd],.agg #[.bool p'.has,p'.vb,p'.vr,p'.vd]] 1 (by kernel_rfl) (by kernel_rfl) (by kernel_rfl) (by kernel_rfl) (by kernel_rfl) ?_
   refine (hEQ _ (instK.rd_below hrd hW) (instK.rd_below hrd' hW)).mono ?_
   rintro e w2 ⟨rfl,hb2⟩
   replace hW:=hW.trans (hb2.mono hW.size)
   clear hb2
   refine ⟨_,rfl,⟨⟨_,hW⟩,rfl⟩,?_⟩
   simp only [Act.put,List.setIfInBounds_toArray,List.set_cons_zero,List.set_cons_succ]
   refine seg_range [(9,1)] 0 (by kernel_rfl) (by kernel_rfl) (by kernel_rfl) (by kernel_rfl) (by kernel_rfl) ⟨⟨_,hW⟩,rfl⟩ ?_
   simp only [pickR,List.toList_toArray,List.flatMap_cons,List.flatMap_nil,List.drop_succ_cons,List.drop_zero,List.take_succ_cons,List.take_zero,List.cons_append,List.nil_append,List.append_nil]
   repeat go_big_quiet_step (fail)
   refine wpQuiet_nil ?_
   refine text_end (by kernel_rfl) ?_
   replace hb:=hb.trans (hW.mono hb.size)
   clear k0 l0 k1 l1 k2 l2 k3 l3 hW hne hrd hrd' hEQ
   go_wp2
   go_roundw
   case rel=>exact ⟨k + 1,by omega,by go_num,hb⟩
   case measure=>simp [intOf];omega
  ·go_wp2
   go_ret
   exact ⟨rfl,hb⟩

set_option maxHeartbeats 2000000 in
theorem toInstances_k (v:Value) (ps:List InstQ) (w:World) (h:instK.At w v ps) (hl:(ps.length + nmL InstQ.n ps)≤1048576) :
  Calls Tryz.prog 38 #[v] w fun e w' => ∃ v' qs,e=.returned v' ∧ qs.map InstQ.e=ps.map InstQ.e∧instK.Own w' v' qs∧(instK.fp v' qs).Nodup∧(∀ k∈instK.fp v' qs,w.heap.size≤k)∧Below w.heap.size w w' := by
 obtain ⟨a,cap,rfl⟩:=h.shape
 obtain ⟨i0,hi,hz0,hz1,hz2⟩:=info_parts infoInstance
 have hbytes:i0.bytes * ps.length≤281474976710656:=by rw [hz2];omega
 have hmax:ps.length≤maxLen:=by unfold maxLen;omega
 go_enter Tryz.func38,Tryz.ntmps38
 go_wp2_with (at_make;refine wpList_make_full _ rfl _ _ 24 rfl w.heap.size 117 i0 (.agg #[.bool false,.slice none 0 0,.slice none 0 0,.slice none 0 0]) 4 Tryz.underlying24 hi hz0 hz1 _ _ _ _ ps.length rfl rfl rfl rfl hbytes hmax (Nat.le_refl _) ?_)
 intro w1 hown hgrow
 have hb1:Below w.heap.size w w1:=(Below.refl _ _).grown hgrow (Nat.le_refl _) (by simp)
 have hO:instK.Own w1 (.slice (some ⟨w.heap.size,0,none⟩) ps.length ps.length) (List.replicate ps.length (⟨false,.slice none 0 0,[],.slice none 0 0,[],.slice none 0 0,[]⟩:InstQ)):=by
  refine ⟨?_,fun p hp=>?_⟩
  ·rw [List.length_replicate,← made_row (⟨false,.slice none 0 0,[],.slice none 0 0,[],.slice none 0 0,[]⟩:InstQ) _ (by decide)]
   exact own_base hown (Nat.zero_le _)
  ·rw [(List.mem_replicate.1 hp).2]
   exact ⟨⟨World.ownsRow_nil _ _ _ _,fun p hp=>by simp at hp⟩,⟨World.ownsRow_nil _ _ _ _,fun p hp=>by simp at hp⟩,⟨World.ownsRow_nil _ _ _ _,fun p hp=>by simp at hp⟩⟩
 have hF:instK.fp (.slice (some ⟨w.heap.size,0,none⟩) ps.length ps.length) (List.replicate ps.length (⟨false,.slice none 0 0,[],.slice none 0 0,[],.slice none 0 0,[]⟩:InstQ))=[w.heap.size]:=fp_new rfl
 have HN:Hid ((instK.fp (.slice (some ⟨w.heap.size,0,none⟩) ps.length ps.length) (List.replicate ps.length (⟨false,.slice none 0 0,[],.slice none 0 0,[],.slice none 0 0,[]⟩:InstQ))).Nodup):=by rw [hF];show List.Nodup _;simp
 have HG:Hid (∀ x∈instK.fp (.slice (some ⟨w.heap.size,0,none⟩) ps.length ps.length) (List.replicate ps.length (⟨false,.slice none 0 0,[],.slice none 0 0,[],.slice none 0 0,[]⟩:InstQ)),w.heap.size≤x):=by rw [hF];intro x hx;simp at hx;omega
 have HZ:Hid (∀ j (hj:j < (List.replicate ps.length (⟨false,.slice none 0 0,[],.slice none 0 0,[],.slice none 0 0,[]⟩:InstQ)).length),0≤j→(List.replicate ps.length (⟨false,.slice none 0 0,[],.slice none 0 0,[],.slice none 0 0,[]⟩:InstQ))[j]=(⟨false,.slice none 0 0,[],.slice none 0 0,[],.slice none 0 0,[]⟩:InstQ)):=fun j hj _=>by simp
 have hql:(List.replicate ps.length (⟨false,.slice none 0 0,[],.slice none 0 0,[],.slice none 0 0,[]⟩:InstQ)).length=ps.length:=by simp
 clear hown hgrow hF
 generalize List.replicate ps.length (⟨false,.slice none 0 0,[],.slice none 0 0,[],.slice none 0 0,[]⟩:InstQ)=qs0 at *
 have HE:Hid ((qs0.take 0).map InstQ.e=(ps.take 0).map InstQ.e):=show _=_ by simp
 go_wp2
 go_loopw [4] (fun i wr=>∃ (k:Nat) (qs:List InstQ),k≤ps.length∧i=.int .i64 k∧Hid (qs.length=ps.length)∧Hid ((qs.take k).map InstQ.e=(ps.take k).map InstQ.e)∧Hid (∀ j (hj:j < qs.length),k≤j→qs[j]=(⟨false,.slice none 0 0,[],.slice none 0 0,[],.slice none 0 0,[]⟩:InstQ))∧instK.Own wr (.slice (some ⟨w.heap.size,0,none⟩) ps.length ps.length) qs ∧
  Hid ((instK.fp (.slice (some ⟨w.heap.size,0,none⟩) ps.length ps.length) qs).Nodup)∧Hid (∀ x∈instK.fp (.slice (some ⟨w.heap.size,0,none⟩) ps.length ps.length) qs,w.heap.size≤x)∧Below w.heap.size w wr) (fun i _=>ps.length - (intOf i).toNat)
 case atStart=>exact ⟨0,qs0,Nat.zero_le _,rfl,hql,HE,HZ,hO,HN,HG,hb1⟩
 case round=>
  clear HE HZ hO HN HG hb1 hql
  obtain ⟨k,qs,hk,rfl,HQ,HE,HZ,hO,HN,HG,hb⟩:=hrel
  by_cases hlt:k < ps.length
  ·have hltq:k < qs.length:=by have:=HQ.out;omega
   have hzk:=HZ.out k hltq (Nat.le_refl _)
   obtain ⟨b,off,rfl,hbs,hc,hrd⟩:=(h.below hb).cell (by decide) k hlt
   have hc' : ∀ j x,(instK.cells ps[k])[j]? = some x→wr.cell? ⟨b,off + k * 4 + j,none⟩=some x:=hc
   have c0:=hc' 0 (.bool ps[k].has) rfl
   have c1:=hc' 1 (ps[k].vb) rfl
   have c2:=hc' 2 (ps[k].vr) rfl
   have c3:=hc' 3 (ps[k].vd) rfl
   have hzl:=nm_le InstQ.n ps k hlt
   have HPE:Hid (∀ p' : InstQ,p'.e=InstQ.e ps[k]→((qs.set k p').take (k + 1)).map InstQ.e=(ps.take (k + 1)).map InstQ.e):=by
    intro p' hp'
    have h1:=HE.out
    rw [List.take_succ_eq_append_getElem hlt,List.take_succ_eq_append_getElem (show k < (qs.set k p').length by simpa using hltq)]
    simp only [List.map_append,List.map_cons,List.map_nil,List.getElem_set_self,hp',List.take_set_of_le (Nat.le_refl k),h1]
   clear hc hc'
   generalize ps[k]=p at *
   have hto:=toInstance_k p wr hrd (by omega)
   rw [Nat.add_zero] at c0
   go_wp2_with fail
   refine hto.mono ?_
   rintro e w2 ⟨p',rfl,hpe,hown',hnd',hlo',hb2⟩
   obtain ⟨x0,x1,y1,x2,y2,x3,y3⟩:=p'
   obtain ⟨o1,o2,o3⟩:txnK.Own w2 x1 y1∧roundK.Own w2 x2 y2∧intK.Own w2 x3 y3:=And.intro hown'.1 hown'.2
   obtain ⟨a1,b1,rfl⟩:=o1.shape
   obtain ⟨a2,b2,rfl⟩:=o2.shape
   obtain ⟨a3,b3,rfl⟩:=o3.shape
   clear o1 o2 o3
   dsimp only
   generalize hP:(⟨x0,.slice a1 y1.length b1,y1,.slice a2 y2.length b2,y2,.slice a3 y3.length b3,y3⟩:InstQ)=p' at hpe hown' hnd' hlo'
   have hcp:instK.cells p' = [.bool x0,.slice a1 y1.length b1,.slice a2 y2.length b2,.slice a3 y3.length b3]:=by rw [← hP];rfl
   have hO2:=hO.below hb2
   obtain ⟨e0,f0⟩:=hO2.cell k hltq 0 _ (by rw [hzk];rfl)
   obtain ⟨e1,f1⟩:=hO2.cell k hltq 1 _ (by rw [hzk];rfl)
   obtain ⟨e2,f2⟩:=hO2.cell k hltq 2 _ (by rw [hzk];rfl)
   obtain ⟨e3,f3⟩:=hO2.cell k hltq 3 _ (by rw [hzk];rfl)
   have hkk:∀ j,k * instK.size + j=k * 4 + j:=fun j=>rfl
   rw [hkk] at e0 f0 e1 f1 e2 f2 e3 f3
   rw [Nat.add_zero] at e0 f0
   have hrow0:=hO2.1
   have hQ:=HQ.out
   rw [hQ] at hrow0
   have hrow:=own_setFrom hrow0 (k * 4) [.bool x0,.slice a1 y1.length b1,.slice a2 y2.length b2,.slice a3 y3.length b3]
   rw [← hcp] at hrow
   have hfp:∀ x∈instK.fp (.slice (some ⟨w.heap.size,0,none⟩) ps.length ps.length) qs,x < wr.heap.size:=hO.lt
   have hg0:w.heap.size∈instK.fp (.slice (some ⟨w.heap.size,0,none⟩) ps.length ps.length) qs:=by simp [Kind.fp,blk,Value.ownBlock]
   have hgl:w.heap.size < wr.heap.size:=hfp _ hg0
   have hNq:=HN.out
   have hdis:∀ x∈instK.foot p',x ∉ instK.fp (.slice (some ⟨w.heap.size,0,none⟩) ps.length ps.length) qs:=fun x hx hxx=>by have:=hlo' x hx;have:=hfp x hxx;omega
   have hput:instK.Own ((((w2.setCell ⟨w.heap.size,k * 4,none⟩ (.bool x0)).setCell ⟨w.heap.size,k * 4 + 1,none⟩ (.slice a1 y1.length b1)).setCell ⟨w.heap.size,k * 4 + 2,none⟩ (.slice a2 y2.length b2)).setCell ⟨w.heap.size,k * 4 + 3,none⟩ (.slice a3 y3.length b3)) (.slice (some ⟨w.heap.size,0,none⟩) ps.length ps.length) (qs.set k p'):=by
    refine Kind.Own.put hO2 k hltq p' ?_ ((((Out.setCell _ _ _ _).trans (Out.setCell _ _ _ _)).trans (Out.setCell _ _ _ _)).trans (Out.setCell _ _ _ _)) ?_ hown' ?_
    ·rw [hQ]
     rw [hcp] at hrow ⊢
     exact hrow
    ·intro q hq x hx hxe
     simp only [Kind.fp,blk,Value.ownBlock,Option.toList,List.cons_append,List.nil_append,List.nodup_cons] at hNq
     exact hNq.1 (List.mem_flatMap.2 ⟨q,hq,hxe ▸ hx⟩)
    ·intro x hx hxe
     have:=hlo' x hx
     omega
   have R:Hid (instK.Own ((((w2.setCell ⟨w.heap.size,k * 4,none⟩ (.bool x0)).setCell ⟨w.heap.size,k * 4 + 1,none⟩ (.slice a1 y1.length b1)).setCell ⟨w.heap.size,k * 4 + 2,none⟩ (.slice a2 y2.length b2)).setCell ⟨w.heap.size,k * 4 + 3,none⟩ (.slice a3 y3.length b3)) (.slice (some ⟨w.heap.size,0,none⟩) ps.length ps.length) (qs.set k p')∧Below w.heap.size w ((((w2.setCell ⟨w.heap.size,k * 4,none⟩ (.bool x0)).setCell ⟨w.heap.size,k * 4 + 1,none⟩ (.slice a1 y1.length b1)).setCell ⟨w.heap.size,k * 4 + 2,none⟩ (.slice a2 y2.length b2)).setCell ⟨w.heap.size,k * 4 + 3,none⟩ (.slice a3 y3.length b3))):=by
    refine ⟨hput,?_⟩
    have hbb:=hb.trans (hb2.mono hb.size)
    exact ((((hbb.setCell (p:=⟨w.heap.size,k * 4,none⟩) (Nat.le_refl _) _).setCell (p:=⟨w.heap.size,k * 4 + 1,none⟩) (Nat.le_refl _) _).setCell (p:=⟨w.heap.size,k * 4 + 2,none⟩) (Nat.le_refl _) _).setCell (p:=⟨w.heap.size,k * 4 + 3,none⟩) (Nat.le_refl _) _)
   have R1:Hid ((instK.fp (.slice (some ⟨w.heap.size,0,none⟩) ps.length ps.length) (qs.set k p')).Nodup):=nodup_put hNq k hltq p' (by rw [hzk];rfl) hnd' hdis
   have R2:Hid (∀ x∈instK.fp (.slice (some ⟨w.heap.size,0,none⟩) ps.length ps.length) (qs.set k p'),w.heap.size≤x):=by
    intro x hx
    simp only [Kind.fp,List.mem_append] at hx
    rcases hx with hx | hx
    ·exact HG.out x (by simp only [Kind.fp,List.mem_append];exact Or.inl hx)
    ·rcases mem_foot_set hltq hx with hx | hx
     ·exact HG.out x (by simp only [Kind.fp,List.mem_append];exact Or.inr hx)
     ·have:=hlo' x hx
      omega
   have R3:Hid (∀ j (hj:j < (qs.set k p').length),k + 1≤j→(qs.set k p')[j]=(⟨false,.slice none 0 0,[],.slice none 0 0,[],.slice none 0 0,[]⟩:InstQ)):=fun j hj hkj=>by
    rw [List.getElem_set_ne (by omega)]
    exact HZ.out j (by simpa using hj) (by omega)
   have R4:Hid ((qs.set k p').length=ps.length):=by rw [List.length_set];exact HQ.out
   have R5:Hid (((qs.set k p').take (k + 1)).map InstQ.e=(ps.take (k + 1)).map InstQ.e):=HPE.out p' hpe
   clear hput hrow hrow0 hQ hO2 hO HN HG HZ HE HQ HPE hNq hdis hown' hnd' hlo' hfp hg0 hb hzk hrd hto hpe hkk hcp hP
   go_wp2
   go_roundw
   case rel=>exact ⟨k + 1,qs.set k p',by omega,by go_num,R4.out,R5.out,R3.out,R.out.1,R1.out,R2.out,R.out.2⟩
   case measure=>simp [intOf];omega
  ·have hkl:k=ps.length:=by omega
   subst hkl
   have hQ:=HQ.out
   have hE:=HE.out
   rw [List.take_length,List.take_of_length_le (by omega)] at hE
   clear HE HZ
   go_wp2
   go_ret
   exact ⟨_,qs,rfl,hE,hO,HN.out,HG.out,hb⟩

end Go.Proofs.YtpmkhnakgeillaaGreatDoor
namespace Go.Proofs.YtpmkhnakgeillaaGreatDoor
open Go.RowKit
open Go.BigFrame
set_option maxRecDepth 100000
theorem fieldI0 (c v:Int) (w:World):(Instr.field 53 (.agg #[.int .i64 c,.int .i64 v]) 0).run Tryz.prog w=.ok (.int .i64 c) w:=by kernel_rfl

theorem fieldI1 (c v:Int) (w:World):(Instr.field 53 (.agg #[.int .i64 c,.int .i64 v]) 1).run Tryz.prog w=.ok (.int .i64 v) w:=by kernel_rfl

theorem oc_eq (x:InstE):(ocC x == 0)=((insF x == 0) && (outV x.dec != 3)):=by
 unfold ocC
 by_cases h0:insF x=0
 ·rw [if_pos h0,h0]
  by_cases h3:outV x.dec=3
  ·rw [if_pos h3,h3];rfl
  ·rw [if_neg h3]
   have:(outV x.dec != 3)=true:=by simpa using h3
   rw [this];rfl
 ·rw [if_neg h0]
  have:(insF x == 0)=false:=by simpa using h0
  rw [this];rfl

theorem inst_at (ps:List InstQ) (k:Nat) (hk:k < ps.length):(ps.map InstQ.e).getD k instNo=InstQ.e ps[k]:=by simp [List.getD,hk]

theorem nmI_le (ps:List InstQ) (k:Nat) (hk:k < ps.length):InstQ.n ps[k]≤nmL InstQ.n ps:=nm_le InstQ.n ps k hk

theorem instP_at {w:World} {a:Option Addr} {n cap:Nat} {ps:List InstQ} (h:instK.At w (.slice a n cap) ps) (k:Nat) (hk:k < ps.length):∃ b off,a=some ⟨b,off,none⟩∧b < w.heap.size∧InstP w b (off + k * 4) ps[k]:=by
 obtain ⟨b,off,e,hb,hc,hrd⟩:=h.cell (by decide) k hk
 have hc' : ∀ j x,(instK.cells ps[k])[j]? = some x→w.cell? ⟨b,off + k * 4 + j,none⟩=some x:=hc
 exact ⟨b,off,e,hb,⟨hc' 0 (.bool ps[k].has) rfl,hc' 1 ps[k].vb rfl,hc' 2 ps[k].vr rfl,hc' 3 ps[k].vd rfl⟩,hrd⟩

set_option maxHeartbeats 2000000 in
theorem hasOutcome_any (p:InstQ) (w:World) (hG:Rul w) (h:instK.rd w p) (hl:p.n≤1048576) :
  Calls Tryz.prog 78 #[.agg #[.bool p.has,p.vb,p.vr,p.vd]] w fun e w' => e=.returned (.bool (ocC p.e == 0))∧Below w.heap.size w w' := by
 have hbo:=fun w hG h=>implOutcome_any p w hG h hl
 have hrb:=fun (w' : World) hb=>instK.rd_below (w' := w') h hb
 generalize ocC p.e=D at *
 generalize ocV p.e=E at *
 obtain ⟨has,vb,batch,vr,rounds,vd,dec⟩:=p
 obtain ⟨ba,bk,rfl⟩:∃ a c,vb=.slice a batch.length c:=h.1.shape
 obtain ⟨va,vk,rfl⟩:∃ a c,vr=.slice a rounds.length c:=h.2.1.shape
 obtain ⟨da,dk,rfl⟩:∃ a c,vd=.slice a dec.length c:=h.2.2.shape
 dsimp only at hbo hrb
 have hf0:=fieldI0 D E
 have hB:Below w.heap.size w (w.alloc (.cells #[.bool has,.slice ba batch.length bk,.slice va rounds.length vk,.slice da dec.length dk] 117)):=by go_grown
 go_enter Tryz.func78,Tryz.ntmps78
 go_wp2_with fail
 generalize w.alloc (.cells #[.bool has,.slice ba batch.length bk,.slice va rounds.length vk,.slice da dec.length dk] 117)=W at *
 refine (hbo W (hG.below hB) (hrb W hB)).mono ?_
 rintro e w1 ⟨rfl,hb1⟩
 replace hB:=hB.trans (hb1.mono hB.size)
 go_wp2
 go_ret
 exact ⟨rfl,hB⟩

set_option maxHeartbeats 4000000 in
theorem implOrderFault_any (v:Value) (ps:List InstQ) (w:World) (hG:Rul w) (h:instK.At w v ps) (hl:(ps.length + nmL InstQ.n ps)≤1048576) :
  Calls Tryz.prog 77 #[v] w fun e w' => e=.returned (.int .i64 (ordF (ps.map InstQ.e)))∧Below w.heap.size w w' := by
 obtain ⟨a,cap,rfl⟩:=h.shape
 generalize hE:ordF (ps.map InstQ.e)=E
 have HE:Hid (ordF (ps.map InstQ.e)=E):=hE
 clear hE
 by_cases hlen:ps.length < 1∨4 < ps.length
 ·have E1:Hid (E=2):=by
   have:=HE.out
   unfold ordF at this
   rw [if_pos (by simpa using hlen)] at this
   exact this.symm
  clear HE
  rcases hlen with hlen | hlen
  ·go_enter Tryz.func77,Tryz.ntmps77
   go_wp2
   go_ret
   exact ⟨by rw [E1.out];rfl,Below.refl _ _⟩
  ·have h1:¬ ps.length < 1:=by omega
   go_enter Tryz.func77,Tryz.ntmps77
   go_wp2
   go_ret
   exact ⟨by rw [E1.out];rfl,Below.refl _ _⟩
 ·have HG:Hid (E=ordGo (ps.map InstQ.e)):=by
   have:=HE.out
   unfold ordF at this
   rw [if_neg (by simpa using hlen)] at this
   exact this.symm
  have h1:¬ ps.length < 1:=by omega
  have h4:ps.length≤4:=by omega
  clear HE hlen
  go_enter Tryz.func77,Tryz.ntmps77
  go_wp2
  go_loopw [16] (fun i wr=>∃ k:Nat,k≤ps.length∧i=.int .i64 k∧Hid (E=ordGo ((ps.map InstQ.e).drop k))∧Below w.heap.size w wr) (fun i _=>ps.length - (intOf i).toNat)
  case atStart=>exact ⟨0,Nat.zero_le _,rfl,HG,Below.refl _ _⟩
  case round=>
   clear HG
   obtain ⟨k,hk,rfl,HG,hb⟩:=hrel
   by_cases hlt:k < ps.length
   ·have hat:=inst_at ps k hlt
    have HBAD:Hid (insF (InstQ.e ps[k])≠0→E=insF (InstQ.e ps[k])):=fun hx=>by
     rw [HG.out,ordGo_bad _ k (by simpa using hlt) (by rw [hat];exact hx),hat]
    have HOPN:Hid (k + 1 < ps.length→insF (InstQ.e ps[k])=0→outV (InstQ.e ps[k]).dec=3→E=8):=fun h1 h2 h3=>by
     rw [HG.out,ordGo_open _ k (by simpa using h1) (by rw [hat];exact h2) (by rw [hat];exact h3)]
    have HNXT:Hid (insF (InstQ.e ps[k])=0→¬ (k + 1 < ps.length∧outV (InstQ.e ps[k]).dec=3)→E=ordGo ((ps.map InstQ.e).drop (k + 1))):=fun h2 h3=>by
     rw [HG.out,ordGo_next _ k (by simpa using hlt) (by rw [hat];exact h2) (by rw [hat];simpa using h3)]
    have hn:InstQ.n ps[k]≤1048576:=by have:=nmI_le ps k hlt;omega
    have hif0:=implInstanceFault_any ps[k]
    have hho0:=hasOutcome_any ps[k]
    have hif:=fun w hG h=>hif0 w hG h hn
    have hho:=fun w hG h=>hho0 w hG h hn
    clear hif0 hho0
    have hoc:=oc_eq (InstQ.e ps[k])
    clear hat HG
    obtain ⟨b,off,rfl,hbs,hc,hrd⟩:=(h.below hb).cell (by decide) k hlt
    have hc' : ∀ j x,(instK.cells ps[k])[j]? = some x→wr.cell? ⟨b,off + k * 4 + j,none⟩=some x:=hc
    have c0:=hc' 0 (.bool ps[k].has) rfl
    have c1:=hc' 1 ps[k].vb rfl
    have c2:=hc' 2 ps[k].vr rfl
    have c3:=hc' 3 ps[k].vd rfl
    rw [Nat.add_zero] at c0
    clear hc hc'
    have hrb:=fun (w' : World) hb=>instK.rd_below (w' := w') hrd hb
    generalize ocC (InstQ.e ps[k])=OC at *
    generalize outV (InstQ.e ps[k]).dec=OV at *
    generalize insF (InstQ.e ps[k])=C at *
    generalize ps[k]=p at *
    obtain ⟨has,vb,batch,vr,rounds,vd,dec⟩:=p
    obtain ⟨ba,bk,rfl⟩:∃ a c,vb=.slice a batch.length c:=hrd.1.shape
    obtain ⟨va,vk,rfl⟩:∃ a c,vr=.slice a rounds.length c:=hrd.2.1.shape
    obtain ⟨da,dk,rfl⟩:∃ a c,vd=.slice a dec.length c:=hrd.2.2.shape
    dsimp only at c0 c1 c2 c3 hif hho hrb
    have hB1:Below wr.heap.size wr (wr.alloc (.cells #[.bool has,.slice ba batch.length bk,.slice va rounds.length vk,.slice da dec.length dk] 117)):=by go_grown
    have Bk:=Blk.new wr 117 #[.bool has,.slice ba batch.length bk,.slice va rounds.length vk,.slice da dec.length dk]
    have rd1:=hrb _ hB1
    go_wp2_with fail
    generalize wr.alloc (.cells #[.bool has,.slice ba batch.length bk,.slice va rounds.length vk,.slice da dec.length dk] 117)=W1 at *
    refine (hif W1 (hG.below (hb.trans (hB1.mono hb.size))) rd1).mono ?_
    rintro e w2 ⟨rfl,hb2⟩
    have rd2:=instK.rd_below rd1 hb2
    replace Bk:=Bk.below hb2
    replace hb:=(hb.trans (hB1.mono hb.size)).trans (hb2.mono (hb.trans (hB1.mono hb.size)).size)
    clear hB1 hb2 rd1 hif c0 c1 c2 c3 hrb
    by_cases hC:C=0
    ·subst hC
     by_cases hk1:k + 1 < ps.length
     ·have hk2:(k:Int) < (ps.length:Int) - 1:=by omega
      have p0:=Bk.cell 0 _ rfl
      have p1:=Bk.cell 1 _ rfl
      have p2:=Bk.cell 2 _ rfl
      have p3:=Bk.cell 3 _ rfl
      go_wp2_with fail
      refine (hho w2 (hG.below hb) rd2).mono ?_
      rintro e w3 ⟨rfl,hb3⟩
      replace hb:=hb.trans (hb3.mono hb.size)
      clear hb3 hho p0 p1 p2 p3 Bk rd2
      by_cases hO:OV=3
      ·have e1:(OC == 0)=false:=by rw [hoc,hO];rfl
       have E1:Hid (E=8):=HOPN.out hk1 (by simp) hO
       clear hoc HOPN HNXT HBAD
       go_wp2
       go_ret
       exact ⟨by rw [E1.out];rfl,hb⟩
      ·have e1:(OC == 0)=true:=by
        rw [hoc]
        have:(OV != 3)=true:=by simpa using hO
        rw [this];rfl
       have E1:Hid (E=ordGo ((ps.map InstQ.e).drop (k + 1))):=HNXT.out (by simp) (fun h=>hO h.2)
       clear hoc HOPN HNXT HBAD
       go_wp2
       go_roundw
       case rel=>exact ⟨k + 1,by omega,by go_num,E1.out,hb⟩
       case measure=>simp [intOf];omega
     ·have hk2:¬ (k:Int) < (ps.length:Int) - 1:=by omega
      have E1:Hid (E=ordGo ((ps.map InstQ.e).drop (k + 1))):=HNXT.out (by simp) (fun h=>hk1 h.1)
      clear hoc HOPN HNXT HBAD hho
      go_wp2
      go_roundw
      case rel=>exact ⟨k + 1,by omega,by go_num,E1.out,hb⟩
      case measure=>simp [intOf];omega
    ·have hC' : (C != 0)=true:=by simpa using hC
     have E1:Hid (E=C):=HBAD.out hC
     clear hoc HOPN HNXT HBAD hho
     go_wp2
     go_ret
     exact ⟨by rw [E1.out];rfl,hb⟩
   ·have E1:Hid (E=0):=by rw [HG.out];exact ordGo_end _ k (by simp;omega)
    clear HG
    go_wp2
    go_ret
    exact ⟨by rw [E1.out];rfl,hb⟩

set_option maxHeartbeats 4000000 in
theorem l7Fault_any (v:Value) (ps:List InstQ) (w:World) (h:instK.At w v ps) (hl:(ps.length + nmL InstQ.n ps)≤1048576) :
  Calls Tryz.prog 108 #[v] w fun e w' => e=.returned (.int .i64 (ordF (ps.map InstQ.e)))∧Below w.heap.size w w' := by
 obtain ⟨a,cap,rfl⟩:=h.shape
 generalize hE:ordF (ps.map InstQ.e)=E
 have HE:Hid (ordF (ps.map InstQ.e)=E):=hE
 clear hE
 by_cases hlen:ps.length < 1∨4 < ps.length
 ·have E1:Hid (E=2):=by
   have:=HE.out
   unfold ordF at this
   rw [if_pos (by simpa using hlen)] at this
   exact this.symm
  clear HE
  rcases hlen with hlen | hlen
  ·go_enter Tryz.func108,Tryz.ntmps108
   go_wp2
   go_ret
   exact ⟨by rw [E1.out];rfl,Below.refl _ _⟩
  ·have h1:¬ ps.length < 1:=by omega
   go_enter Tryz.func108,Tryz.ntmps108
   go_wp2
   go_ret
   exact ⟨by rw [E1.out];rfl,Below.refl _ _⟩
 ·have HG:Hid (E=ordGo (ps.map InstQ.e)):=by
   have:=HE.out
   unfold ordF at this
   rw [if_neg (by simpa using hlen)] at this
   exact this.symm
  have h1:¬ ps.length < 1:=by omega
  have h4:ps.length≤4:=by omega
  clear HE hlen
  go_enter Tryz.func108,Tryz.ntmps108
  go_wp2
  go_loopw [3] (fun i wr=>∃ k:Nat,k≤ps.length∧i=.int .i64 k∧Hid (E=ordGo ((ps.map InstQ.e).drop k))∧Below w.heap.size w wr) (fun i _=>ps.length - (intOf i).toNat)
  case atStart=>exact ⟨0,Nat.zero_le _,rfl,HG,Below.refl _ _⟩
  case round=>
   clear HG
   obtain ⟨k,hk,rfl,HG,hb⟩:=hrel
   by_cases hlt:k < ps.length
   ·have hat:=inst_at ps k hlt
    have HBAD:Hid (insF (InstQ.e ps[k])≠0→E=insF (InstQ.e ps[k])):=fun hx=>by
     rw [HG.out,ordGo_bad _ k (by simpa using hlt) (by rw [hat];exact hx),hat]
    have HOPN:Hid (k + 1 < ps.length→insF (InstQ.e ps[k])=0→outV (InstQ.e ps[k]).dec=3→E=8):=fun h1 h2 h3=>by
     rw [HG.out,ordGo_open _ k (by simpa using h1) (by rw [hat];exact h2) (by rw [hat];exact h3)]
    have HNXT:Hid (insF (InstQ.e ps[k])=0→¬ (k + 1 < ps.length∧outV (InstQ.e ps[k]).dec=3)→E=ordGo ((ps.map InstQ.e).drop (k + 1))):=fun h2 h3=>by
     rw [HG.out,ordGo_next _ k (by simpa using hlt) (by rw [hat];exact h2) (by rw [hat];simpa using h3)]
    obtain ⟨b,off,rfl,hbs,hP⟩:=instP_at (h.below hb) k hlt
    have hn:InstQ.n ps[k]≤1048576:=by have:=nmI_le ps k hlt;omega
    have hif0:=l6Fault_any b (off + k * 4) ps[k]
    have hho0:=l6Outcome_any b (off + k * 4) ps[k]
    have hif:=fun w hP=>hif0 w hP hn
    have hho:=fun w hP=>hho0 w hP hn
    clear hif0 hho0
    have ho2:outV (InstQ.e ps[k]).dec=outV ps[k].dec:=rfl
    rw [ho2] at HOPN HNXT
    clear hat HG ho2
    generalize outV ps[k].dec=OV at *
    generalize insF (InstQ.e ps[k])=C at *
    generalize ps[k]=p at *
    go_wp2_with fail
    refine (hif wr hP).mono ?_
    rintro e w2 ⟨rfl,hb2⟩
    replace hP:=hP.below hb2
    replace hb:=hb.trans (hb2.mono hb.size)
    clear hb2 hif
    by_cases hC:C=0
    ·subst hC
     by_cases hk1:k + 1 < ps.length
     ·have hk2:(k:Int) < (ps.length:Int) - 1:=by omega
      go_wp2_with fail
      refine (hho w2 hP).mono ?_
      rintro e w3 ⟨rfl,hw⟩
      replace hw:=hw.symm
      subst hw
      clear hho hP
      by_cases hO:OV=3
      ·have E1:Hid (E=8):=HOPN.out hk1 (by simp) hO
       have hO' : (OV == 3)=true:=by simpa using hO
       clear HOPN HNXT HBAD hO
       go_wp2
       go_ret
       exact ⟨by rw [E1.out];rfl,hb⟩
      ·have hO' : (OV == 3)=false:=by simpa using hO
       have E1:Hid (E=ordGo ((ps.map InstQ.e).drop (k + 1))):=HNXT.out (by simp) (fun h=>hO h.2)
       clear HOPN HNXT HBAD hO
       go_wp2
       go_roundw
       case rel=>exact ⟨k + 1,by omega,by go_num,E1.out,hb⟩
       case measure=>simp [intOf];omega
     ·have hk2:¬ (k:Int) < (ps.length:Int) - 1:=by omega
      have E1:Hid (E=ordGo ((ps.map InstQ.e).drop (k + 1))):=HNXT.out (by simp) (fun h=>hk1 h.1)
      clear HOPN HNXT HBAD hho
      go_wp2
      go_roundw
      case rel=>exact ⟨k + 1,by omega,by go_num,E1.out,hb⟩
      case measure=>simp [intOf];omega
    ·have hC' : (C != 0)=true:=by simpa using hC
     have E1:Hid (E=C):=HBAD.out hC
     clear HOPN HNXT HBAD hho
     go_wp2
     go_ret
     exact ⟨by rw [E1.out];rfl,hb⟩
   ·have E1:Hid (E=0):=by rw [HG.out];exact ordGo_end _ k (by simp;omega)
    clear HG
    go_wp2
    go_ret
    exact ⟨by rw [E1.out];rfl,hb⟩

end Go.Proofs.YtpmkhnakgeillaaGreatDoor
