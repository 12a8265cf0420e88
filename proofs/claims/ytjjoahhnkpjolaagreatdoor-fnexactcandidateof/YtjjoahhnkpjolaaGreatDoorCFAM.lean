/- Texts joined, with what the laws reach alone. -/
import Derived.Test.YtjjoahhnkpjolaaGreatDoorCFAL
import Derived.Maps.AppendAt
set_option linter.unusedVariables false
set_option linter.unusedSimpArgs false
namespace Go.Proofs.YtjjoahhnkpjolaaGreatDoor
open Go.RowKit
open Go.BigFrame
set_option maxRecDepth 100000
/-- The board that boardOf answers. -/
def bdOf (p:InstQ):List Value:=if insF p.e=0 then brdC p.has p.vb p.e.rounds p.dec else brd0

theorem ins_zero {x:InstE} (h:insF x=0):shpF x=0∧rgtI x=true:=by
 unfold insF at h
 by_cases h0:shpF x=0
 ·rw [if_pos h0] at h
  refine ⟨h0,?_⟩
  by_cases h1:rgtI x=true
  ·exact h1
  ·rw [if_neg h1] at h
   simp at h
 ·rw [if_neg h0] at h
  exact absurd h h0

/-- What a right instance is like. -/
theorem ins_ok {x:InstE} (h:insF x=0):Wel x.rounds∧(1≤x.rounds.length∧x.rounds.length≤4)∧x.dec.length=3∧rndsF x.rounds=0∧vf x.dec 1=0:=by
 obtain ⟨h0,_⟩:=ins_zero h
 obtain ⟨h1,h2,h3,_⟩:=shp_zero h0
 exact ⟨wel_of h2,h1,vf_len h3,h2,h3⟩

theorem brd_one {has:Bool} {vb:Value} {rs:List RoundE} {dec:List Int} (hv:vb.oneCell' = true):(brdC has vb rs dec).toArray.all (·.oneCell')=true:=all_oneCell_toArray (fun v hm=>by
 simp only [brdC,rndC,rowsV,List.mem_append,List.mem_cons,List.mem_flatMap,List.mem_replicate,List.mem_map,rowC,List.not_mem_nil,or_false] at hm
 rcases hm with (rfl | ⟨r,_,z,_,rfl⟩ | ⟨_,rfl⟩) | (rfl | rfl) | ⟨z,_,rfl⟩ <;> first | rfl | exact hv)

theorem bd_ok {w:World} {p:InstQ} (h:instK.rd w p):(bdOf p).length=30∧(bdOf p).toArray.all (·.oneCell')=true:=by
 unfold bdOf
 by_cases h0:insF p.e=0
 ·rw [if_pos h0]
  obtain ⟨h1,h2,h3,_⟩:=ins_ok h0
  refine ⟨brdC_length h1 h2.2 h3,brd_one ?_⟩
  obtain ⟨a,c,e⟩:=h.1.shape
  rw [e];rfl
 ·rw [if_neg h0]
  exact ⟨rfl,by kernel_rfl⟩

set_option maxHeartbeats 2000000 in
theorem implInstanceFault_any (p:InstQ) (w:World) (hG:Rul w) (h:instK.rd w p) (hl:p.n≤1048576) :
  Calls Tryz.prog 44 #[.agg #[.bool p.has,p.vb,p.vr,p.vd]] w fun e w' => e=.returned (.int .i64 (insF p.e))∧Below w.heap.size w w' := by
 obtain ⟨hl30,hone⟩:=bd_ok h
 have hbo:=fun w hG h=>boardOf_any p w hG h hl
 have hrb:=fun (w' : World) hb=>instK.rd_below (w' := w') h hb
 change ∀ w hG h,Calls _ _ _ _ fun e w' => e=.returned (.tuple #[.agg (bdOf p).toArray,_])∧_ at hbo
 generalize bdOf p=BD at *
 generalize insF p.e=C at *
 obtain ⟨has,vb,batch,vr,rounds,vd,dec⟩:=p
 obtain ⟨ba,bk,rfl⟩:∃ a c,vb=.slice a batch.length c:=h.1.shape
 obtain ⟨va,vk,rfl⟩:∃ a c,vr=.slice a rounds.length c:=h.2.1.shape
 obtain ⟨da,dk,rfl⟩:∃ a c,vd=.slice a dec.length c:=h.2.2.shape
 dsimp only at hbo hrb
 have hB:Below w.heap.size w (w.alloc (.cells #[.bool has,.slice ba batch.length bk,.slice va rounds.length vk,.slice da dec.length dk] 89)):=by go_grown
 have hszB:(Tryz.prog.info? 138).map (·.size)=some BD.toArray.size:=by rw [List.size_toArray,hl30];exact sz_board
 have hold:(#[.int .i64 0,.int .i64 0,.int .i64 0,.int .i64 0,.int .i64 0,.int .i64 0,.int .i64 0,.int .i64 0,.int .i64 0,.int .i64 0,.int .i64 0,.int .i64 0,.int .i64 0,.int .i64 0,.int .i64 0,.int .i64 0,.int .i64 0,.int .i64 0,.int .i64 0,.int .i64 0,.int .i64 0,.int .i64 0,.int .i64 0,.int .i64 0,.int .i64 0,.bool false,.slice none 0 0,.int .i64 0,.int .i64 0,.int .i64 0]:Array Value).size=BD.toArray.size:=(show 30=BD.length from hl30.symm)
 go_enter Tryz.func44,Tryz.ntmps44
 go_wp2_with fail
 generalize w.alloc (.cells #[.bool has,.slice ba batch.length bk,.slice va rounds.length vk,.slice da dec.length dk] 89)=W at *
 refine (hbo W (hG.below hB) (hrb W hB)).mono ?_
 rintro e w1 ⟨rfl,hb1⟩
 replace hB:=hB.trans (hb1.mono hB.size)
 have Bz:=Blk.new w1 138 #[.int .i64 0,.int .i64 0,.int .i64 0,.int .i64 0,.int .i64 0,.int .i64 0,.int .i64 0,.int .i64 0,.int .i64 0,.int .i64 0,.int .i64 0,.int .i64 0,.int .i64 0,.int .i64 0,.int .i64 0,.int .i64 0,.int .i64 0,.int .i64 0,.int .i64 0,.int .i64 0,.int .i64 0,.int .i64 0,.int .i64 0,.int .i64 0,.int .i64 0,.bool false,.slice none 0 0,.int .i64 0,.int .i64 0,.int .i64 0]
 have hB2:=below_row (hB.alloc hB.size (.cells #[.int .i64 0,.int .i64 0,.int .i64 0,.int .i64 0,.int .i64 0,.int .i64 0,.int .i64 0,.int .i64 0,.int .i64 0,.int .i64 0,.int .i64 0,.int .i64 0,.int .i64 0,.int .i64 0,.int .i64 0,.int .i64 0,.int .i64 0,.int .i64 0,.int .i64 0,.int .i64 0,.int .i64 0,.int .i64 0,.int .i64 0,.int .i64 0,.int .i64 0,.bool false,.slice none 0 0,.int .i64 0,.int .i64 0,.int .i64 0] 138)) (g:=w1.heap.size) hB.size BD.toArray
 clear hbo hrb hb1
 go_wp2_with (refine st_row (by kernel_rfl) 138 _ _ rfl _ BD.toArray rfl rfl 138 _ Bz hszB hold hone ?_)
 go_ret
 exact ⟨rfl,hB2⟩

/-- What the first one that decided decided, or that none did. -/
def outV:List Int→Int
 | []=>3
 | x :: r=>if x=3 then outV r else x

theorem outV_at (L:List Int):∀ k,(∀ j,j < k→L.getD j 0=3)→k < L.length→L.getD k 0≠3→outV L=L.getD k 0:=by
 induction L with
 | nil=>intro k _ h;simp at h
 | cons x r ih=>
  intro k h0 hk hne
  cases k with
  | zero=>simp [List.getD] at hne ⊢;simp [outV,hne]
  | succ k=>
   have hx:x=3:=by simpa [List.getD] using h0 0 (by omega)
   have:=ih k (fun j hj=>by simpa [List.getD] using h0 (j + 1) (by omega)) (by simpa using hk) (by simpa [List.getD] using hne)
   simp only [outV,hx,if_true]
   rw [this]
   simp [List.getD]

theorem outV_none (L:List Int) (h:∀ j,j < L.length→L.getD j 0=3):outV L=3:=by
 induction L with
 | nil=>rfl
 | cons x r ih=>
  have hx:x=3:=by simpa [List.getD] using h 0 (by simp)
  simp only [outV,hx,if_true]
  exact ih (fun j hj=>by simpa [List.getD] using h (j + 1) (by simpa using hj))

/-- OutcomeOf: code and value. -/
def ocC (x:InstE):Int:=if insF x=0 then (if outV x.dec=3 then 4 else 0) else insF x

def ocV (x:InstE):Int:=if insF x=0 then (if outV x.dec=3 then 0 else outV x.dec) else 0

set_option maxHeartbeats 2000000 in
theorem implOutcome_any (p:InstQ) (w:World) (hG:Rul w) (h:instK.rd w p) (hl:p.n≤1048576) :
  Calls Tryz.prog 81 #[.agg #[.bool p.has,p.vb,p.vr,p.vd]] w fun e w' => e=.returned (.agg #[.int .i64 (ocC p.e),.int .i64 (ocV p.e)])∧Below w.heap.size w w' := by
 obtain ⟨hl30,hone⟩:=bd_ok h
 have hbo:=fun w hG h=>boardOf_any p w hG h hl
 have hrb:=fun (w' : World) hb=>instK.rd_below (w' := w') h hb
 change ∀ w hG h,Calls _ _ _ _ fun e w' => e=.returned (.tuple #[.agg (bdOf p).toArray,_])∧_ at hbo
 have HBD:Hid (insF p.e=0→bdOf p=brdC p.has p.vb p.e.rounds p.dec∧Wel p.e.rounds∧p.e.rounds.length≤4∧p.dec.length=3):=fun h0=>by
  obtain ⟨h1,h2,h3,_⟩:=ins_ok h0
  exact ⟨if_pos h0,h1,h2.2,h3⟩
 obtain ⟨D,hD⟩:∃ D,ocC p.e=D:=⟨_,rfl⟩
 obtain ⟨E,hE⟩:∃ E,ocV p.e=E:=⟨_,rfl⟩
 have HDE:Hid ((insF p.e=0→(D=if outV p.dec=3 then 4 else 0)∧(E=if outV p.dec=3 then 0 else outV p.dec))∧(insF p.e≠0→D=insF p.e∧E=0)):=by
  refine ⟨fun h0=>⟨?_,?_⟩,fun h0=>⟨?_,?_⟩⟩
  ·rw [← hD];exact if_pos h0
  ·rw [← hE];exact if_pos h0
  ·rw [← hD];exact if_neg h0
  ·rw [← hE];exact if_neg h0
 rw [hD,hE]
 clear hD hE
 generalize bdOf p=BD at *
 generalize insF p.e=C at *
 generalize p.e.rounds=rs at *
 obtain ⟨has,vb,batch,vr,rounds,vd,dec⟩:=p
 obtain ⟨ba,bk,rfl⟩:∃ a c,vb=.slice a batch.length c:=h.1.shape
 obtain ⟨va,vk,rfl⟩:∃ a c,vr=.slice a rounds.length c:=h.2.1.shape
 obtain ⟨da,dk,rfl⟩:∃ a c,vd=.slice a dec.length c:=h.2.2.shape
 dsimp only at hbo hrb HBD HDE
 have hB:Below w.heap.size w ((w.alloc (.cells #[.bool has,.slice ba batch.length bk,.slice va rounds.length vk,.slice da dec.length dk] 89)).alloc (.cells #[.int .i64 0,.int .i64 0] 42)):=by go_grown
 have Rb:=Blk.new (w.alloc (.cells #[.bool has,.slice ba batch.length bk,.slice va rounds.length vk,.slice da dec.length dk] 89)) 42 #[.int .i64 0,.int .i64 0]
 simp only [World.size_alloc] at Rb
 have hszB:(Tryz.prog.info? 138).map (·.size)=some BD.toArray.size:=by rw [List.size_toArray,hl30];exact sz_board
 have hold:(#[.int .i64 0,.int .i64 0,.int .i64 0,.int .i64 0,.int .i64 0,.int .i64 0,.int .i64 0,.int .i64 0,.int .i64 0,.int .i64 0,.int .i64 0,.int .i64 0,.int .i64 0,.int .i64 0,.int .i64 0,.int .i64 0,.int .i64 0,.int .i64 0,.int .i64 0,.int .i64 0,.int .i64 0,.int .i64 0,.int .i64 0,.int .i64 0,.int .i64 0,.bool false,.slice none 0 0,.int .i64 0,.int .i64 0,.int .i64 0]:Array Value).size=BD.toArray.size:=(show 30=BD.length from hl30.symm)
 go_enter Tryz.func81,Tryz.ntmps81
 go_wp2_with fail
 generalize (w.alloc (.cells #[.bool has,.slice ba batch.length bk,.slice va rounds.length vk,.slice da dec.length dk] 89)).alloc (.cells #[.int .i64 0,.int .i64 0] 42)=W at *
 refine (hbo W (hG.below hB) (hrb W hB)).mono ?_
 rintro e w1 ⟨rfl,hb1⟩
 replace hB:=hB.trans (hb1.mono hB.size)
 replace Rb:=Rb.below hb1
 have Bz:=Blk.new w1 138 #[.int .i64 0,.int .i64 0,.int .i64 0,.int .i64 0,.int .i64 0,.int .i64 0,.int .i64 0,.int .i64 0,.int .i64 0,.int .i64 0,.int .i64 0,.int .i64 0,.int .i64 0,.int .i64 0,.int .i64 0,.int .i64 0,.int .i64 0,.int .i64 0,.int .i64 0,.int .i64 0,.int .i64 0,.int .i64 0,.int .i64 0,.int .i64 0,.int .i64 0,.bool false,.slice none 0 0,.int .i64 0,.int .i64 0,.int .i64 0]
 have hB2:=below_row (hB.alloc hB.size (.cells #[.int .i64 0,.int .i64 0,.int .i64 0,.int .i64 0,.int .i64 0,.int .i64 0,.int .i64 0,.int .i64 0,.int .i64 0,.int .i64 0,.int .i64 0,.int .i64 0,.int .i64 0,.int .i64 0,.int .i64 0,.int .i64 0,.int .i64 0,.int .i64 0,.int .i64 0,.int .i64 0,.int .i64 0,.int .i64 0,.int .i64 0,.int .i64 0,.int .i64 0,.bool false,.slice none 0 0,.int .i64 0,.int .i64 0,.int .i64 0] 138)) (g:=w1.heap.size) hB.size BD.toArray
 have Rb2:Blk ((w1.alloc (.cells #[.int .i64 0,.int .i64 0,.int .i64 0,.int .i64 0,.int .i64 0,.int .i64 0,.int .i64 0,.int .i64 0,.int .i64 0,.int .i64 0,.int .i64 0,.int .i64 0,.int .i64 0,.int .i64 0,.int .i64 0,.int .i64 0,.int .i64 0,.int .i64 0,.int .i64 0,.int .i64 0,.int .i64 0,.int .i64 0,.int .i64 0,.int .i64 0,.int .i64 0,.bool false,.slice none 0 0,.int .i64 0,.int .i64 0,.int .i64 0] 138)).setRow w1.heap.size BD.toArray) (w.heap.size + 1) 42 #[.int .i64 0,.int .i64 0]:=(setRow_other _ _ _ _ (by have:=Rb.lt;omega)).trans (Rb.below ((Below.refl _ _).alloc (Nat.le_refl _) _))
 have B2:=Bz.row BD.toArray
 clear hbo hrb hb1 Rb
 by_cases h0:C=0
 ·obtain ⟨hBD,hwel,h4,hd3⟩:=HBD.out h0
  have HD:Hid (D=if outV dec=3 then 4 else 0):=(HDE.out.1 h0).1
  have HV:Hid (E=if outV dec=3 then 0 else outV dec):=(HDE.out.1 h0).2
  subst h0
  have hrg:=rng B2 (dec.map iv) (o:=27) (fun j v hv=>by
   obtain ⟨hj,rfl⟩:=row_get hd3 hv
   rw [List.getElem?_toArray,hBD]
   exact brd_dec hwel h4 hd3 j hj)
  have hszD:(Tryz.prog.info? 131).map (·.size)=some (dec.map iv).length:=by rw [List.length_map,hd3];exact sz_row
  clear HBD HDE hBD
  go_wp2_with (first | (refine st_row (by kernel_rfl) 138 _ _ rfl _ BD.toArray rfl rfl 138 _ Bz hszB hold hone ?_) | (refine ld_g (by kernel_rfl) 131 _ rfl _ _ rfl (dec.map iv) _ hrg Tryz.underlying131 rfl hszD ?_))
  clear hrg Bz
  generalize (w1.alloc (.cells #[.int .i64 0,.int .i64 0,.int .i64 0,.int .i64 0,.int .i64 0,.int .i64 0,.int .i64 0,.int .i64 0,.int .i64 0,.int .i64 0,.int .i64 0,.int .i64 0,.int .i64 0,.int .i64 0,.int .i64 0,.int .i64 0,.int .i64 0,.int .i64 0,.int .i64 0,.int .i64 0,.int .i64 0,.int .i64 0,.int .i64 0,.int .i64 0,.int .i64 0,.bool false,.slice none 0 0,.int .i64 0,.int .i64 0,.int .i64 0] 138)).setRow w1.heap.size BD.toArray=X at *
  go_loopw [18] (fun j wr=>∃ m:Nat,m≤3∧j=.int .i64 m∧Hid (∀ j,j < m→dec.getD j 0=3)∧wr=X) (fun j _=>3 - (intOf j).toNat)
  case atStart=>exact ⟨0,Nat.zero_le _,rfl,fun j hj=>absurd hj (Nat.not_lt_zero _),rfl⟩
  case round=>
   obtain ⟨m,hm,rfl,HA,rfl⟩:=hrel
   obtain ⟨q0,q1⟩:=Rb2.cel2
   obtain ⟨f0,f1⟩:=Rb2.frz2
   by_cases hm3:m < 3
   ·have hm3' : (m:Int) < 3:=by omega
    have hix:=fun w=>idx_any hd3 m hm3 w
    have HY:Hid (dec.getD m 0≠3→outV dec=dec.getD m 0):=fun hx=>outV_at dec m HA.out (by omega) hx
    have HN:Hid (dec.getD m 0=3→∀ j,j < m + 1→dec.getD j 0=3):=fun hx j hj=>by
     by_cases hjm:j=m
     ·subst hjm;exact hx
     ·exact HA.out j (by omega)
    clear HA
    generalize dec.getD m 0=v at *
    by_cases hv:v=3
    ·have hv' : (v != 3)=false:=by simp [hv]
     have R:=HN.out hv
     have HR:Hid _:=R
     clear HY HN R hv
     go_wp2
     go_roundw
     case rel=>exact ⟨m + 1,by omega,by go_num,HR.out,by first | rfl | trivial⟩
     case measure=>simp [intOf];omega
    ·have hv' : (v != 3)=true:=by simpa using hv
     have hov:=HY.out hv
     have E1:Hid (D=0∧E=v):=by
      refine ⟨?_,?_⟩
      ·rw [HD.out,hov,if_neg hv]
      ·rw [HV.out,hov,if_neg hv]
     clear HY HN HD HV hov hv
     go_wp2
     exact bodyPost_ret (v:=.agg #[.int .i64 0,.int .i64 v]) (by simp [results,Tryz.results81,go_sem,q0,q1]) rfl ⟨by rw [E1.out.1,E1.out.2],(hB2.setCell (p:=⟨w.heap.size + 1,0,none⟩) (by show w.heap.size≤w.heap.size + 1;omega) _).setCell (p:=⟨w.heap.size + 1,1,none⟩) (by show w.heap.size≤w.heap.size + 1;omega) _⟩
   ·have hme:m=3:=by omega
    subst hme
    have hov:=outV_none dec (by rw [hd3];exact HA.out)
    have E1:Hid (D=4∧E=0):=by
     refine ⟨?_,?_⟩
     ·rw [HD.out,hov,if_pos rfl]
     ·rw [HV.out,hov,if_pos rfl]
    clear HA HD HV hov
    go_wp2
    exact bodyPost_ret (v:=.agg #[.int .i64 4,.int .i64 0]) (by simp [results,Tryz.results81,go_sem,q0,q1]) rfl ⟨by rw [E1.out.1,E1.out.2],(hB2.setCell (p:=⟨w.heap.size + 1,0,none⟩) (by show w.heap.size≤w.heap.size + 1;omega) _).setCell (p:=⟨w.heap.size + 1,1,none⟩) (by show w.heap.size≤w.heap.size + 1;omega) _⟩
 ·have E1:Hid (D=C∧E=0):=HDE.out.2 h0
  have h0' : (C != 0)=true:=by simpa using h0
  obtain ⟨q0,q1⟩:=Rb2.cel2
  obtain ⟨f0,f1⟩:=Rb2.frz2
  clear HDE HBD h0 B2 Rb2
  generalize hX:(w1.alloc (.cells #[.int .i64 0,.int .i64 0,.int .i64 0,.int .i64 0,.int .i64 0,.int .i64 0,.int .i64 0,.int .i64 0,.int .i64 0,.int .i64 0,.int .i64 0,.int .i64 0,.int .i64 0,.int .i64 0,.int .i64 0,.int .i64 0,.int .i64 0,.int .i64 0,.int .i64 0,.int .i64 0,.int .i64 0,.int .i64 0,.int .i64 0,.int .i64 0,.int .i64 0,.bool false,.slice none 0 0,.int .i64 0,.int .i64 0,.int .i64 0] 138)).setRow w1.heap.size BD.toArray=X at q0 q1 f0 f1 hB2
  go_wp2_with (refine st_row (by kernel_rfl) 138 _ _ rfl _ BD.toArray rfl rfl 138 _ Bz hszB hold hone ?_)
  exact bodyPost_ret (v:=.agg #[.int .i64 C,.int .i64 0]) (by simp [results,Tryz.results81,go_sem,q0,q1]) rfl ⟨by rw [E1.out.1,E1.out.2],(hB2.setCell (p:=⟨w.heap.size + 1,0,none⟩) (by show w.heap.size≤w.heap.size + 1;omega) _).setCell (p:=⟨w.heap.size + 1,1,none⟩) (by show w.heap.size≤w.heap.size + 1;omega) _⟩

set_option maxHeartbeats 2000000 in
theorem l6Outcome_any (b o:Nat) (p:InstQ) (w:World) (hP:InstP w b o p) (hl:p.n≤1048576) :
  Calls Tryz.prog 70 #[.pointer (some ⟨b,o,none⟩)] w fun e w' => e=.returned (.int .i64 (outV p.dec))∧w' = w:=by
 obtain ⟨has,vb,batch,vr,rounds,vd,dec⟩:=p
 have hD:intK.At w vd dec:=hP.dec
 obtain ⟨da,dk,rfl⟩:=hD.shape
 have hRow:=(intK_at hD).2
 obtain ⟨c0,c1,c2,c3⟩:=hP.box
 dsimp only [InstQ.n] at c0 c1 c2 c3 hl ⊢
 generalize hE:outV dec=E
 have HE:Hid (outV dec=E):=hE
 clear hE
 go_enter Tryz.func70,Tryz.ntmps70
 go_wp2
 go_loop [3] (fun j=>∃ k:Nat,k≤dec.length∧j=.int .i64 k∧Hid (∀ j,j < k→dec.getD j 0=3)) (fun j=>dec.length - (intOf j).toNat)
 case atStart=>exact ⟨0,Nat.zero_le _,rfl,fun j hj=>absurd hj (Nat.not_lt_zero _)⟩
 case round=>
  obtain ⟨k,hk,rfl,HA⟩:=hrel
  by_cases hlt:k < dec.length
  ·obtain ⟨bb,off,rfl,hbs,hc⟩:=hRow k hlt
   have HY:Hid (dec.getD k 0≠3→E=dec.getD k 0):=fun hx=>by rw [← HE.out];exact outV_at dec k HA.out hlt hx
   have HN:Hid (dec.getD k 0=3→∀ j,j < k + 1→dec.getD j 0=3):=fun hx j hj=>by
    by_cases hjm:j=k
    ·subst hjm;exact hx
    ·exact HA.out j (by omega)
   clear HA
   generalize dec.getD k 0=v at *
   by_cases hv:v=3
   ·have hv' : (v != 3)=false:=by simp [hv]
    have R:=HN.out hv
    have HR:Hid _:=R
    clear HY HN R hv
    go_wp2
    go_round
    case rel=>exact ⟨k + 1,by omega,by go_num,HR.out⟩
    case measure=>simp [intOf];omega
   ·have hv' : (v != 3)=true:=by simpa using hv
    have E1:Hid (E=v):=HY.out hv
    clear HY HN hv
    go_wp2
    go_ret
    exact ⟨by rw [E1.out];rfl,rfl⟩
  ·have hkl:k=dec.length:=by omega
   subst hkl
   have E1:Hid (E=3):=by rw [← HE.out];exact outV_none dec HA.out
   clear HA HE
   go_wp2
   go_ret
   exact ⟨by rw [E1.out];rfl,rfl⟩

end Go.Proofs.YtjjoahhnkpjolaaGreatDoor
namespace Go.Proofs.YtjjoahhnkpjolaaGreatDoor
open Go.RowKit
set_option maxRecDepth 100000
section
variable {P:Type} {K:Kind P} {w w' : World} {v v' : Value} {ps:List P} {p:P} {B:Nat}
theorem Kind.row_snoc (ps:List P) (p:P):K.row (ps ++ [p])=K.row ps ++ K.cells p:=by simp [Kind.row]

theorem Kind.Own.snoc (h:K.Own w v ps) (hnd:(K.fp v ps).Nodup) (hlo:∀ k∈K.fp v ps,B≤k) (hp:K.own w p) (hpn:(K.foot p).Nodup) (hpd:∀ k∈K.foot p,k ∉ K.fp v ps) (hplo:∀ k∈K.foot p,B≤k) (hB:B≤w.heap.size)
  (hrow:w'.ownsRow 0 K.ty K.size v' (ps.length + 1) (K.row ps ++ K.cells p)) (hg:w.grownBy w' v.ownBlock) (hat:v'.ownBlock=v.ownBlock∨v'.ownBlock=some w.heap.size) :
  K.Own w' v' (ps ++ [p])∧(K.fp v' (ps ++ [p])).Nodup∧(∀ k∈K.fp v' (ps ++ [p]),B≤k)∧Out (blk v) w w' := by
 have hO:Out (blk v) w w' := Out.of_grown hg
 have hnd2:=List.nodup_append.1 hnd
 have hlt:=h.lt
 have hplt:=K.own_lt hp
 have hfe:(ps ++ [p]).flatMap K.foot=ps.flatMap K.foot ++ K.foot p:=by simp
 refine ⟨⟨?_,?_⟩,?_,?_,hO⟩
 ·rw [List.length_append,List.length_singleton,Kind.row_snoc]
  exact hrow
 ·intro q hq
  rcases List.mem_append.1 hq with hq | hq
  ·exact K.own_out (h.2 q hq) hO (fun k hk hkb=>hnd2.2.2 k hkb k (List.mem_flatMap.2 ⟨q,hq,hk⟩) rfl)
  ·simp only [List.mem_singleton] at hq
   subst hq
   exact K.own_out hp hO (fun k hk hkb=>hpd k hk (by simp only [Kind.fp,List.mem_append];exact Or.inl hkb))
 ·unfold Kind.fp
  rw [hfe]
  have hrest:(ps.flatMap K.foot ++ K.foot p).Nodup:=List.nodup_append.2 ⟨hnd2.2.1,hpn,fun a ha b hb e=>hpd b hb (by simp only [Kind.fp,List.mem_append];exact Or.inr (e ▸ ha))⟩
  rcases hat with hat | hat
  ·have e:blk v' = blk v:=by unfold blk;rw [hat]
   rw [e]
   refine List.nodup_append.2 ⟨hnd2.1,hrest,fun a ha b hb e=>?_⟩
   subst e
   rcases List.mem_append.1 hb with hb | hb
   ·exact hnd2.2.2 a ha a hb rfl
   ·exact hpd a hb (by simp only [Kind.fp,List.mem_append];exact Or.inl ha)
  ·have e:blk v' = [w.heap.size]:=by unfold blk;rw [hat];rfl
   rw [e]
   refine List.nodup_append.2 ⟨by simp,hrest,fun a ha b hb e=>?_⟩
   simp only [List.mem_singleton] at ha
   subst e ha
   rcases List.mem_append.1 hb with hb | hb
   ·have:=hlt _ (show w.heap.size∈K.fp v ps by simp only [Kind.fp,List.mem_append];exact Or.inr hb)
    omega
   ·have:=hplt _ hb
    omega
 ·intro k hk
  unfold Kind.fp at hk
  rw [hfe] at hk
  rcases List.mem_append.1 hk with hk | hk
  ·rcases hat with hat | hat
   ·exact hlo k (by simp only [Kind.fp,List.mem_append];left;unfold blk at hk ⊢;rw [hat] at hk;exact hk)
   ·unfold blk at hk
    rw [hat] at hk
    simp only [Option.toList,List.mem_singleton] at hk
    omega
  ·rcases List.mem_append.1 hk with hk | hk
   ·exact hlo k (by simp only [Kind.fp,List.mem_append];exact Or.inr hk)
   ·exact hplo k hk

theorem Kind.own_nil (w:World):K.Own w (.slice none 0 0) ([]:List P)∧(K.fp (.slice none 0 0) ([]:List P))=[]:=⟨⟨World.ownsRow_nil _ _ _ _,fun p hp=>by simp at hp⟩,by simp [Kind.fp,blk,Value.ownBlock]⟩

end
end Go.Proofs.YtjjoahhnkpjolaaGreatDoor
namespace Go.Proofs.YtjjoahhnkpjolaaGreatDoor
open Go.RowKit
open Go.BigFrame
set_option maxRecDepth 100000
set_option maxHeartbeats 2000000 in
theorem cloneTxns_any (v:Value) (ps:List TxnQ) (w:World) (h:txnK.At w v ps) (hne:∀ p∈ps,0 < p.acts.length) (hl:ps.length + nmL TxnQ.n ps≤1048576) :
  Calls Tryz.prog 86 #[v] w fun e w' => ∃ v' qs,e=.returned v' ∧ qs.map TxnQ.e=ps.map TxnQ.e∧txnK.Own w' v' qs∧(txnK.fp v' qs).Nodup∧(∀ k∈txnK.fp v' qs,w.heap.size≤k)∧Below w.heap.size w w' := by
 obtain ⟨a,cap,rfl⟩:=h.shape
 obtain ⟨i0,hi,hz0,hz1,hz2⟩:=info_parts infoTxn
 obtain ⟨hn1,hn2⟩:=Kind.own_nil (K:=txnK) w
 have HN0:Hid ((txnK.fp (.slice none 0 0) ([]:List TxnQ)).Nodup∧∀ k∈txnK.fp (.slice none 0 0) ([]:List TxnQ),w.heap.size≤k):=by
  rw [hn2]
  exact ⟨by simp,by simp⟩
 clear hn2
 go_enter Tryz.func86,Tryz.ntmps86
 go_wp2
 go_loopw [3,8] (fun v j wr=>∃ (k:Nat) (qs:List TxnQ),k≤ps.length∧j=.int .i64 k∧Hid (qs.map TxnQ.e=(ps.take k).map TxnQ.e)∧txnK.Own wr v qs∧Hid ((txnK.fp v qs).Nodup∧∀ k∈txnK.fp v qs,w.heap.size≤k)∧Below w.heap.size w wr) (fun _ j _=>ps.length - (intOf j).toNat)
 case atStart=>exact ⟨0,[],Nat.zero_le _,rfl,(rfl:_=_),hn1,HN0,Below.refl _ _⟩
 case round=>
  clear HN0 hn1
  obtain ⟨k,qs,hk,rfl,HE,hO,HN,hb⟩:=hrel
  obtain ⟨sa,sc,rfl⟩:=hO.shape
  have HQL:Hid (qs.length=k):=by
   have:=congrArg List.length HE.out
   rw [List.length_map,List.length_map,List.length_take] at this
   show qs.length=k
   omega
  by_cases hlt:k < ps.length
  ·obtain ⟨b,off,rfl,hbs,hc,hrd⟩:=(h.below hb).cell (by decide) k hlt
   have hc' : ∀ j x,(txnK.cells ps[k])[j]? = some x→wr.cell? ⟨b,off + k * 4 + j,none⟩=some x:=hc
   have c0:=hc' 0 (.int .i64 ps[k].i) rfl
   have c1:=hc' 1 (.int .i64 ps[k].s) rfl
   have c2:=hc' 2 (.int .i64 ps[k].q) rfl
   have c3:=hc' 3 (ps[k].va) rfl
   have hzl:=nm_le TxnQ.n ps k hlt
   have hpos:=hne _ (List.getElem_mem hlt)
   have HPE:Hid (∀ p' : TxnQ,p'.e=TxnQ.e ps[k]→(qs ++ [p']).map TxnQ.e=(ps.take (k + 1)).map TxnQ.e):=fun p' hp' => by
    rw [List.take_succ_eq_append_getElem hlt,List.map_append,List.map_append,HE.out,List.map_singleton,List.map_singleton,hp']
   clear hc hc'
   generalize ps[k]=p at *
   obtain ⟨i,s,q,va,acts⟩:=p
   replace hrd:actK.At wr va acts:=hrd
   replace hzl:acts.length≤nmL TxnQ.n ps:=hzl
   obtain ⟨aa,ac,rfl⟩:=hrd.shape
   dsimp only at c0 c1 c2 c3 hpos
   obtain ⟨ab,ao,haa⟩:∃ ab ao,aa=some ⟨ab,ao,none⟩:=by
    rcases (actK_at hrd).2 with h0 | ⟨ab,ao,e,_⟩
    ·have:=actCells_length acts
     rw [h0] at this
     simp at this
     omega
    ·exact ⟨ab,ao,e⟩
   subst haa
   have hbY:Below wr.heap.size wr (wr.alloc (.cells #[.int .i64 i,.int .i64 s,.int .i64 q,.slice (some ⟨ab,ao,none⟩) acts.length ac] 158)):=by go_grown
   have hcl:=cloneTxn_any i s q ab ao ac acts _ ((actK_at hrd).2.below hbY) hpos (by omega)
   rw [Nat.add_zero] at c0
   replace hO:=hO.below hbY
   replace hb:=hb.trans (hbY.mono hb.size)
   clear HE hbY
   go_wp2_with fail
   clear c0 c1 c2 c3
   generalize wr.alloc (.cells #[.int .i64 i,.int .i64 s,.int .i64 q,.slice (some ⟨ab,ao,none⟩) acts.length ac] 158)=Y at *
   have hYs:w.heap.size≤Y.heap.size:=hb.size
   refine hcl.mono ?_
   rintro e w2 ⟨a2,c2,rfl,ho2,hb2⟩
   have HLT:=hO.lt
   replace hO:=hO.below hb2
   replace hb:=hb.trans (hb2.mono hb.size)
   obtain ⟨o2,hk2⟩:=own_zero ho2
   have hP:txnK.own w2 ⟨i,s,q,.slice a2 acts.length c2,acts⟩:=⟨o2,fun _ _=>trivial⟩
   have hPlo:∀ x∈txnK.foot ⟨i,s,q,.slice a2 acts.length c2,acts⟩,Y.heap.size≤x:=fun x hx=>hk2 x (by rw [← actK_fp (.slice a2 acts.length c2) acts];exact hx)
   have hPn:(txnK.foot ⟨i,s,q,.slice a2 acts.length c2,acts⟩).Nodup:=by
    show (actK.fp _ _).Nodup
    rw [actK_fp];exact blk_nodup _
   have hbA:Below w2.heap.size w2 (w2.alloc (.cells #[.int .i64 i,.int .i64 s,.int .i64 q,.slice a2 acts.length c2] 158)):=by go_grown
   have hOA:=hO.below hbA
   have hPA:=txnK.own_out (F:=[]) hP (Out.of_below hbA) (fun _ _=>by simp)
   have hbB:=hb.trans (hbA.mono hb.size)
   clear hcl ho2 hO hP hk2
   have hrow0:=hOA.1
   go_wp2_with (at_builtin;refine wpList_append_own_at _ rfl _ _ 52 rfl 0 158 i0 (.agg #[.int .i64 0,.int .i64 0,.int .i64 0,.slice none 0 0]) 4 48 Tryz.underlying52 hi hz0 hz1 hz2 rfl (by decide) _ qs.length (txnK.row qs) rfl hrow0 ⟨w2.heap.size,0,none⟩ 1 1 [.int .i64 i,.int .i64 s,.int .i64 q,.slice a2 acts.length c2] rfl rfl ?c1 ?c2 ?c3 ?c4 ?c5 ?_)
   all_goals try (case c1=>intro j u hj;match j,hj with | 0,hj=>simp at hj;subst hj;simp [Addr.add] | 1,hj=>simp at hj;subst hj;simp [Addr.add] | 2,hj=>simp at hj;subst hj;simp [Addr.add] | 3,hj=>simp at hj;subst hj;simp [Addr.add])
   all_goals try (case c2=>intro u hu;simp at hu;rcases hu with rfl | rfl | rfl | rfl <;> rfl)
   all_goals try (case c3=>have:=HQL.out;unfold maxLen;omega)
   all_goals try (case c4=>have:=HQL.out;omega)
   all_goals try (case c5=>first | omega | simp)
   intro v' w5 hown hgrow hnil hat
   clear hnil hrow0
   rw [show w2.heap.size + 1=(w2.alloc (.cells #[.int .i64 i,.int .i64 s,.int .i64 q,.slice a2 acts.length c2] 158)).heap.size from (World.size_alloc _ _).symm] at hat
   generalize hwA:w2.alloc (.cells #[.int .i64 i,.int .i64 s,.int .i64 q,.slice a2 acts.length c2] 158)=WA at *
   clear hwA
   have hsz:Y.heap.size≤WA.heap.size:=by have:=hb2.size;have:=hbA.size;omega
   obtain ⟨hO5,hn5,hlo5,hou⟩:=hOA.snoc HN.out.1 HN.out.2 hPA hPn (fun x hx hx' => by have:=HLT x hx';have:=hPlo x hx;omega) (fun x hx=>by have:=hPlo x hx;omega) hbB.size hown hgrow hat
   have hb5:Below w.heap.size w w5:=Out.keep hbB hou hbB.size (fun x hx=>HN.out.2 x (by simp only [Kind.fp,List.mem_append];exact Or.inl hx))
   have HE5:Hid ((qs ++ [(⟨i,s,q,.slice a2 acts.length c2,acts⟩:TxnQ)]).map TxnQ.e=(ps.take (k + 1)).map TxnQ.e):=HPE.out _ rfl
   have HN5:Hid ((txnK.fp v' (qs ++ [(⟨i,s,q,.slice a2 acts.length c2,acts⟩:TxnQ)])).Nodup∧∀ k∈txnK.fp v' (qs ++ [(⟨i,s,q,.slice a2 acts.length c2,acts⟩:TxnQ)]),w.heap.size≤k):=⟨hn5,hlo5⟩
   clear HPE HN HLT hPlo hPn hPA hOA hbB hown hgrow hat hou hn5 hlo5 hrd hb hbA hb2 hzl hpos
   go_wp2
   go_roundw
   case rel=>exact ⟨k + 1,_,by omega,by go_num,HE5,hO5,HN5,hb5⟩
   case measure=>simp [intOf];omega
  ·have hkl:k=ps.length:=by omega
   subst hkl
   have hE:=HE.out
   rw [List.take_length] at hE
   clear HE
   go_wp2
   go_ret
   exact ⟨_,qs,rfl,hE,hO,HN.out.1,HN.out.2,hb⟩

end Go.Proofs.YtjjoahhnkpjolaaGreatDoor
namespace Go.Proofs.YtjjoahhnkpjolaaGreatDoor
open Go.RowKit
open Go.BigFrame
set_option maxRecDepth 100000
theorem out_row (w:World) (g:Nat) (cs:Array Value):Out [g] w (w.setRow g cs):=
 ⟨rfl,rfl,rfl,by rw [setRow_size];exact Nat.le_refl _,fun k _ hn=>setRow_other w g k cs (by simpa using hn)⟩

end Go.Proofs.YtjjoahhnkpjolaaGreatDoor
namespace Go.Proofs.YtjjoahhnkpjolaaGreatDoor
open Go.RowKit
set_option maxRecDepth 100000
section
variable {ops:Array Oper} {rest:List Oper} {op:Oper} {a:Act} {w:World} {Q:Exit→Act→World→Prop}
theorem st_mid (hw:Region.wanted op (yielded ops a.tmps)=true) (ty:TypeId) (x y:Operand) (ho:op.op=.store ty x y)
  (g o:Nat) (cells:Array Value) (hx:a.eval x=.pointer (some ⟨g,o,none⟩)) (hy:a.eval y=.agg cells)
  (t:TypeId) (old:Array Value) (hg:Blk w g t old) (hi:(Tryz.prog.info? ty).map (·.size)=some cells.size)
  (hold:o + cells.size≤old.size) (h1:cells.all (·.oneCell')=true)
  (h:wpList Tryz.prog ops Q rest (a.put op.dst undef) (w.setCells g o cells.toList)):wpList Tryz.prog ops Q (op :: rest) a w:=by
 simp only [wpList]
 rw [if_pos hw]
 refine Or.inl (wp_store_mid ty x y ho g o cells hx hy ?_ hi h1 h)
 intro j hj
 refine ⟨?_,hg.frozen _⟩
 rw [hg.cell (o + j) (old[o + j]'(by omega)) (by rw [Array.getElem?_eq_getElem])]
 rfl

end
/-- A node's replica is stored: five cells behind two. -/
theorem Blk.mid5 {w:World} {b:Nat} {t:TypeId} {c0 c1 d0 d1 d2 d3 d4:Value} (h:Blk w b t #[c0,c1,d0,d1,d2,d3,d4]) (x0 x1 x2 x3 x4:Value):Blk (w.setCells b 2 [x0,x1,x2,x3,x4]) b t #[c0,c1,x0,x1,x2,x3,x4]:=by
 have:=((((h.set 2 x0).set 3 x1).set 4 x2).set 5 x3).set 6 x4
 simpa only [World.setCells,pjE] using this

theorem out_mid5 (w:World) (b:Nat) (x0 x1 x2 x3 x4:Value):Out [b] w (w.setCells b 2 [x0,x1,x2,x3,x4]):=
 (((((Out.refl [b] w).set (b:=b) (j:=2) (u:=x0) (by simp)).set (b:=b) (j:=3) (u:=x1) (by simp)).set (b:=b) (j:=4) (u:=x2) (by simp)).set (b:=b) (j:=5) (u:=x3) (by simp)).set (b:=b) (j:=6) (u:=x4) (by simp)

theorem out_row11 (w:World) (g:Nat) (cs:Array Value):Out [g] w (w.setRow g cs):=
 ⟨rfl,rfl,rfl,by rw [setRow_size];exact Nat.le_refl _,fun k _ hn=>setRow_other w g k cs (by simpa using hn)⟩

end Go.Proofs.YtjjoahhnkpjolaaGreatDoor
namespace Go.Proofs.YtjjoahhnkpjolaaGreatDoor
open Go.RowKit
set_option maxRecDepth 100000
set_option maxHeartbeats 2000000 in
theorem szNode_k (kn sf:Int) (p:RepQ) (c:Int) (w:World) (h:repK.rd w p) (hn:RepQ.wf p) (h0:0≤c) (h1:c≤1048576) :
  Calls Tryz.prog 39 #[.agg #[.int .i64 kn,.int .i64 sf,p.vd,p.vb,p.vt,p.vu,p.vn],.int .i64 c] w fun e w' => ∃ r:Int,e=.returned (.int .i64 r)∧(¬ r < 0→(RepQ.n p:Int) + r=c)∧Below w.heap.size w w' := by
 have hm:=fun w h=>szReplica_k p c w h hn h0 h1
 have hr:=fun (w' : World) hb=>repK.rd_below (w' := w') h hb
 generalize (RepQ.n p:Int)=NP at *
 clear hn
 obtain ⟨vd,done,vb,base,vt,tent,vu,undos,vn,now⟩:=p
 obtain ⟨a0,k0,rfl⟩:∃ a c,vd=.slice a done.length c:=h.1.shape
 obtain ⟨a1,k1,rfl⟩:∃ a c,vb=.slice a base.length c:=h.2.1.shape
 obtain ⟨a2,k2,rfl⟩:∃ a c,vt=.slice a tent.length c:=h.2.2.1.shape
 obtain ⟨a3,k3,rfl⟩:∃ a c,vu=.slice a undos.length c:=h.2.2.2.1.shape
 obtain ⟨a4,k4,rfl⟩:∃ a c,vn=.slice a now.length c:=h.2.2.2.2.shape
 dsimp only at hm
 have hB:Below w.heap.size w (w.alloc (.cells #[.int .i64 kn,.int .i64 sf,.slice a0 done.length k0,.slice a1 base.length k1,.slice a2 tent.length k2,.slice a3 undos.length k3,.slice a4 now.length k4] 84)):=by go_grown
 have B:=Blk.new w 84 #[.int .i64 kn,.int .i64 sf,.slice a0 done.length k0,.slice a1 base.length k1,.slice a2 tent.length k2,.slice a3 undos.length k3,.slice a4 now.length k4]
 obtain ⟨q0,q1,q2,q3,q4,q5,q6⟩:=B.cel7
 go_enter Tryz.func39,Tryz.ntmps39
 go_wp2_with fail
 clear q0 q1 q2 q3 q4 q5 q6 B
 have hr0:=hr _ hB
 generalize w.alloc (.cells #[.int .i64 kn,.int .i64 sf,.slice a0 done.length k0,.slice a1 base.length k1,.slice a2 tent.length k2,.slice a3 undos.length k3,.slice a4 now.length k4] 84)=W at *
 refine (hm W hr0).mono ?_
 rintro e w1 ⟨r,rfl,hq,hb⟩
 replace hB:=hB.trans (hb.mono hB.size)
 by_cases hneg:r < 0
 ·go_wp2
  go_ret
  exact ⟨_,rfl,fun h=>absurd h (by decide),hB⟩
 ·go_wp2
  go_ret
  exact ⟨_,rfl,hq,hB⟩

set_option maxHeartbeats 4000000 in
theorem toNode_k (kn sf:Int) (p:RepQ) (w:World) (h:repK.rd w p) (hl:RepQ.n p≤1048576) :
  Calls Tryz.prog 43 #[.agg #[.int .i64 kn,.int .i64 sf,p.vd,p.vb,p.vt,p.vu,p.vn]] w fun e w' => ∃ p' : RepQ,e=.returned (.agg #[.int .i64 kn,.int .i64 sf,p'.vd,p'.vb,p'.vt,p'.vu,p'.vn])∧p'.e=p.e∧repK.own w' p' ∧ (repK.foot p').Nodup∧(∀ k∈repK.foot p',w.heap.size≤k)∧Below w.heap.size w w' := by
 have hm:=fun w h=>toReplica_k p w h hl
 have hr:=fun (w' : World) hb=>repK.rd_below (w' := w') h hb
 generalize p.e=PE at *
 obtain ⟨vd,done,vb,base,vt,tent,vu,undos,vn,now⟩:=p
 obtain ⟨a0,k0,rfl⟩:∃ a c,vd=.slice a done.length c:=h.1.shape
 obtain ⟨a1,k1,rfl⟩:∃ a c,vb=.slice a base.length c:=h.2.1.shape
 obtain ⟨a2,k2,rfl⟩:∃ a c,vt=.slice a tent.length c:=h.2.2.1.shape
 obtain ⟨a3,k3,rfl⟩:∃ a c,vu=.slice a undos.length c:=h.2.2.2.1.shape
 obtain ⟨a4,k4,rfl⟩:∃ a c,vn=.slice a now.length c:=h.2.2.2.2.shape
 dsimp only at hm
 clear hl
 have hB:Below w.heap.size w (((w.alloc (.cells #[.int .i64 kn,.int .i64 sf,.slice a0 done.length k0,.slice a1 base.length k1,.slice a2 tent.length k2,.slice a3 undos.length k3,.slice a4 now.length k4] 84)).alloc (.cells #[.int .i64 0,.int .i64 0,.slice none 0 0,.slice none 0 0,.slice none 0 0,.slice none 0 0,.slice none 0 0] 58)).alloc (.cells #[.int .i64 kn,.int .i64 sf,.slice none 0 0,.slice none 0 0,.slice none 0 0,.slice none 0 0,.slice none 0 0] 58)):=by go_grown
 have R:=(Blk.new (w.alloc (.cells #[.int .i64 kn,.int .i64 sf,.slice a0 done.length k0,.slice a1 base.length k1,.slice a2 tent.length k2,.slice a3 undos.length k3,.slice a4 now.length k4] 84)) 58 #[.int .i64 0,.int .i64 0,.slice none 0 0,.slice none 0 0,.slice none 0 0,.slice none 0 0,.slice none 0 0]).below (w' := (((w.alloc (.cells #[.int .i64 kn,.int .i64 sf,.slice a0 done.length k0,.slice a1 base.length k1,.slice a2 tent.length k2,.slice a3 undos.length k3,.slice a4 now.length k4] 84)).alloc (.cells #[.int .i64 0,.int .i64 0,.slice none 0 0,.slice none 0 0,.slice none 0 0,.slice none 0 0,.slice none 0 0] 58)).alloc (.cells #[.int .i64 kn,.int .i64 sf,.slice none 0 0,.slice none 0 0,.slice none 0 0,.slice none 0 0,.slice none 0 0] 58))) (by go_grown)
 have O:=Blk.new ((w.alloc (.cells #[.int .i64 kn,.int .i64 sf,.slice a0 done.length k0,.slice a1 base.length k1,.slice a2 tent.length k2,.slice a3 undos.length k3,.slice a4 now.length k4] 84)).alloc (.cells #[.int .i64 0,.int .i64 0,.slice none 0 0,.slice none 0 0,.slice none 0 0,.slice none 0 0,.slice none 0 0] 58)) 58 #[.int .i64 kn,.int .i64 sf,.slice none 0 0,.slice none 0 0,.slice none 0 0,.slice none 0 0,.slice none 0 0]
 have hS:(((w.alloc (.cells #[.int .i64 kn,.int .i64 sf,.slice a0 done.length k0,.slice a1 base.length k1,.slice a2 tent.length k2,.slice a3 undos.length k3,.slice a4 now.length k4] 84)).alloc (.cells #[.int .i64 0,.int .i64 0,.slice none 0 0,.slice none 0 0,.slice none 0 0,.slice none 0 0,.slice none 0 0] 58)).alloc (.cells #[.int .i64 kn,.int .i64 sf,.slice none 0 0,.slice none 0 0,.slice none 0 0,.slice none 0 0,.slice none 0 0] 58)).heap.size=w.heap.size + 3:=by simp only [World.size_alloc]
 simp only [World.size_alloc] at R O
 have B:=(Blk.new w 84 #[.int .i64 kn,.int .i64 sf,.slice a0 done.length k0,.slice a1 base.length k1,.slice a2 tent.length k2,.slice a3 undos.length k3,.slice a4 now.length k4]).below (w' := (((w.alloc (.cells #[.int .i64 kn,.int .i64 sf,.slice a0 done.length k0,.slice a1 base.length k1,.slice a2 tent.length k2,.slice a3 undos.length k3,.slice a4 now.length k4] 84)).alloc (.cells #[.int .i64 0,.int .i64 0,.slice none 0 0,.slice none 0 0,.slice none 0 0,.slice none 0 0,.slice none 0 0] 58)).alloc (.cells #[.int .i64 0,.int .i64 0,.slice none 0 0,.slice none 0 0,.slice none 0 0,.slice none 0 0,.slice none 0 0] 58))) (by go_grown)
 obtain ⟨q0,q1,q2,q3,q4,q5,q6⟩:=B.cel7
 go_enter Tryz.func43,Tryz.ntmps43
 go_wp2_with fail
 clear q0 q1 q2 q3 q4 q5 q6 B
 have hr0:=hr _ hB
 generalize (((w.alloc (.cells #[.int .i64 kn,.int .i64 sf,.slice a0 done.length k0,.slice a1 base.length k1,.slice a2 tent.length k2,.slice a3 undos.length k3,.slice a4 now.length k4] 84)).alloc (.cells #[.int .i64 0,.int .i64 0,.slice none 0 0,.slice none 0 0,.slice none 0 0,.slice none 0 0,.slice none 0 0] 58)).alloc (.cells #[.int .i64 kn,.int .i64 sf,.slice none 0 0,.slice none 0 0,.slice none 0 0,.slice none 0 0,.slice none 0 0] 58))=W at *
 refine (hm W hr0).mono ?_
 rintro e w1 ⟨q,rfl,E0,O0,N0,G0,hb⟩
 replace hB:=hB.trans (hb.mono hB.size)
 replace R:=R.below hb
 replace O:=O.below hb
 have hs1:=hb.size
 clear hb hm hr hr0
 obtain ⟨vqd,qd,vqb,qb,vqt,qt,vqu,qu,vqn,qn⟩:=q
 obtain ⟨x0,z0,rfl⟩:∃ a c,vqd=.slice a qd.length c:=O0.1.shape
 obtain ⟨x1,z1,rfl⟩:∃ a c,vqb=.slice a qb.length c:=O0.2.1.shape
 obtain ⟨x2,z2,rfl⟩:∃ a c,vqt=.slice a qt.length c:=O0.2.2.1.shape
 obtain ⟨x3,z3,rfl⟩:∃ a c,vqu=.slice a qu.length c:=O0.2.2.2.1.shape
 obtain ⟨x4,z4,rfl⟩:∃ a c,vqn=.slice a qn.length c:=O0.2.2.2.2.shape
 have U1:=out_mid5 w1 (w.heap.size + 1 + 1) (.slice x0 qd.length z0) (.slice x1 qb.length z1) (.slice x2 qt.length z2) (.slice x3 qu.length z3) (.slice x4 qn.length z4)
 have O2:=O.mid5 (.slice x0 qd.length z0) (.slice x1 qb.length z1) (.slice x2 qt.length z2) (.slice x3 qu.length z3) (.slice x4 qn.length z4)
 have R2:Blk _ _ _ _:=(U1.block _ R.lt (by simp)).trans R
 have OW:=repK.own_out O0 U1 (fun k hk=>by have:=G0 k hk;simp;omega)
 have hB2:=Out.keep hB U1 hB.size (fun k hk=>by simp at hk;omega)
 have hsz:(Tryz.prog.info? 56).map (·.size)=some (#[.slice x0 qd.length z0,.slice x1 qb.length z1,.slice x2 qt.length z2,.slice x3 qu.length z3,.slice x4 qn.length z4]:Array Value).size:=by kernel_rfl
 have hsn:(Tryz.prog.info? 58).map (·.size)=some (#[.int .i64 kn,.int .i64 sf,.slice x0 qd.length z0,.slice x1 qb.length z1,.slice x2 qt.length z2,.slice x3 qu.length z3,.slice x4 qn.length z4]:Array Value).size:=by kernel_rfl
 generalize hV:w1.setCells (w.heap.size + 1 + 1) 2 [.slice x0 qd.length z0,.slice x1 qb.length z1,.slice x2 qt.length z2,.slice x3 qu.length z3,.slice x4 qn.length z4]=V at *
 have R3:=R2.row #[.int .i64 kn,.int .i64 sf,.slice x0 qd.length z0,.slice x1 qb.length z1,.slice x2 qt.length z2,.slice x3 qu.length z3,.slice x4 qn.length z4]
 have U3:=out_row11 V (w.heap.size + 1) #[.int .i64 kn,.int .i64 sf,.slice x0 qd.length z0,.slice x1 qb.length z1,.slice x2 qt.length z2,.slice x3 qu.length z3,.slice x4 qn.length z4]
 have OW3:=repK.own_out OW U3 (fun k hk=>by have:=G0 k hk;simp;omega)
 have hB3:=Out.keep hB2 U3 hB2.size (fun k hk=>by simp at hk;omega)
 obtain ⟨q0,q1,q2,q3,q4,q5,q6⟩:=O2.cel7
 go_wp2_with (first | (refine st_mid (by kernel_rfl) 56 _ _ rfl _ 2 #[.slice x0 qd.length z0,.slice x1 qb.length z1,.slice x2 qt.length z2,.slice x3 qu.length z3,.slice x4 qn.length z4] rfl rfl 58 _ O hsz (by simp) (by simp [Value.oneCell']) ?_;(try dsimp only);rw [hV]) | (refine st_row (by kernel_rfl) 58 _ _ rfl _ #[.int .i64 kn,.int .i64 sf,.slice x0 qd.length z0,.slice x1 qb.length z1,.slice x2 qt.length z2,.slice x3 qu.length z3,.slice x4 qn.length z4] rfl rfl 58 _ R2 hsn rfl (by simp [Value.oneCell']) ?_))
 obtain ⟨r0,r1,r2,r3,r4,r5,r6⟩:=R3.cel7
 exact bodyPost_ret (v:=.agg #[.int .i64 kn,.int .i64 sf,.slice x0 qd.length z0,.slice x1 qb.length z1,.slice x2 qt.length z2,.slice x3 qu.length z3,.slice x4 qn.length z4]) (by simp [results,Tryz.results43,go_sem,r0,r1,r2,r3,r4,r5,r6]) rfl ⟨_,rfl,E0,OW3,N0,fun k hk=>by have:=G0 k hk;omega,hB3⟩

set_option maxHeartbeats 2000000 in
theorem eqNode_k (kn sf:Int) (p p' : RepQ) (w:World) (h:repK.rd w p) (h' : repK.rd w p') (he:p.e=p'.e) (hl:RepQ.n p≤1048576) :
  Calls Tryz.prog 52 #[.agg #[.int .i64 kn,.int .i64 sf,p.vd,p.vb,p.vt,p.vu,p.vn],.agg #[.int .i64 kn,.int .i64 sf,p'.vd,p'.vb,p'.vt,p'.vu,p'.vn]] w fun e w' => e=.returned (.bool true)∧Below w.heap.size w w' := by
 have hm:=fun w h h' => eqReplica_k p p' w h h' he hl
 have hr:=fun (w' : World) hb=>repK.rd_below (w' := w') h hb
 have hr' := fun (w' : World) hb=>repK.rd_below (w' := w') h' hb
 obtain ⟨vd,done,vb,base,vt,tent,vu,undos,vn,now⟩:=p
 obtain ⟨a0,k0,rfl⟩:∃ a c,vd=.slice a done.length c:=h.1.shape
 obtain ⟨a1,k1,rfl⟩:∃ a c,vb=.slice a base.length c:=h.2.1.shape
 obtain ⟨a2,k2,rfl⟩:∃ a c,vt=.slice a tent.length c:=h.2.2.1.shape
 obtain ⟨a3,k3,rfl⟩:∃ a c,vu=.slice a undos.length c:=h.2.2.2.1.shape
 obtain ⟨a4,k4,rfl⟩:∃ a c,vn=.slice a now.length c:=h.2.2.2.2.shape
 obtain ⟨vd',done',vb',base',vt',tent',vu',undos',vn',now'⟩:=p'
 obtain ⟨a0',k0',rfl⟩:∃ a c,vd' = .slice a done'.length c:=h'.1.shape
 obtain ⟨a1',k1',rfl⟩:∃ a c,vb' = .slice a base'.length c:=h'.2.1.shape
 obtain ⟨a2',k2',rfl⟩:∃ a c,vt' = .slice a tent'.length c:=h'.2.2.1.shape
 obtain ⟨a3',k3',rfl⟩:∃ a c,vu' = .slice a undos'.length c:=h'.2.2.2.1.shape
 obtain ⟨a4',k4',rfl⟩:∃ a c,vn' = .slice a now'.length c:=h'.2.2.2.2.shape
 dsimp only at hm
 clear he hl
 have hB:Below w.heap.size w ((w.alloc (.cells #[.int .i64 kn,.int .i64 sf,.slice a0 done.length k0,.slice a1 base.length k1,.slice a2 tent.length k2,.slice a3 undos.length k3,.slice a4 now.length k4] 58)).alloc (.cells #[.int .i64 kn,.int .i64 sf,.slice a0' done'.length k0',.slice a1' base'.length k1',.slice a2' tent'.length k2',.slice a3' undos'.length k3',.slice a4' now'.length k4'] 58)):=by go_grown
 have B:=(Blk.new w 58 #[.int .i64 kn,.int .i64 sf,.slice a0 done.length k0,.slice a1 base.length k1,.slice a2 tent.length k2,.slice a3 undos.length k3,.slice a4 now.length k4]).below (w' := (w.alloc (.cells #[.int .i64 kn,.int .i64 sf,.slice a0 done.length k0,.slice a1 base.length k1,.slice a2 tent.length k2,.slice a3 undos.length k3,.slice a4 now.length k4] 58)).alloc (.cells #[.int .i64 kn,.int .i64 sf,.slice a0' done'.length k0',.slice a1' base'.length k1',.slice a2' tent'.length k2',.slice a3' undos'.length k3',.slice a4' now'.length k4'] 58)) (by go_grown)
 have B' := Blk.new (w.alloc (.cells #[.int .i64 kn,.int .i64 sf,.slice a0 done.length k0,.slice a1 base.length k1,.slice a2 tent.length k2,.slice a3 undos.length k3,.slice a4 now.length k4] 58)) 58 #[.int .i64 kn,.int .i64 sf,.slice a0' done'.length k0',.slice a1' base'.length k1',.slice a2' tent'.length k2',.slice a3' undos'.length k3',.slice a4' now'.length k4']
 simp only [World.size_alloc] at B'
 obtain ⟨q0,q1,q2,q3,q4,q5,q6⟩:=B.cel7
 have s0:=B'.cell 0 _ rfl
 have s1:=B'.cell 1 _ rfl
 have s2:=B'.cell 2 _ rfl
 have s3:=B'.cell 3 _ rfl
 have s4:=B'.cell 4 _ rfl
 have s5:=B'.cell 5 _ rfl
 have s6:=B'.cell 6 _ rfl
 have n0:(kn != kn)=false:=by simp
 have n1:(sf != sf)=false:=by simp
 go_enter Tryz.func52,Tryz.ntmps52
 go_wp2_with fail
 clear q0 q1 q2 q3 q4 q5 q6 s0 s1 s2 s3 s4 s5 s6 B B'
 have hr0:=hr _ hB
 have hr0' := hr' _ hB
 generalize ((w.alloc (.cells #[.int .i64 kn,.int .i64 sf,.slice a0 done.length k0,.slice a1 base.length k1,.slice a2 tent.length k2,.slice a3 undos.length k3,.slice a4 now.length k4] 58)).alloc (.cells #[.int .i64 kn,.int .i64 sf,.slice a0' done'.length k0',.slice a1' base'.length k1',.slice a2' tent'.length k2',.slice a3' undos'.length k3',.slice a4' now'.length k4'] 58))=W at *
 refine (hm W hr0 hr0').mono ?_
 rintro e w3 ⟨rfl,hb⟩
 replace hB:=hB.trans (hb.mono hB.size)
 go_wp2
 go_ret
 exact ⟨rfl,hB⟩

end Go.Proofs.YtjjoahhnkpjolaaGreatDoor
