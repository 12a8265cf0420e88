/- Texts joined, with what the laws reach alone. -/
import Derived.Test.YtpjmlidbligcbaaGreatDoorSSAO
set_option linter.unusedVariables false
set_option linter.unusedSimpArgs false
namespace Go.Proofs.YtpjmlidbligcbaaGreatDoor
open Go.RowKit
set_option maxRecDepth 100000
end Go.Proofs.YtpjmlidbligcbaaGreatDoor
namespace Go.Proofs.YtpjmlidbligcbaaGreatDoor
open Go.RowKit
set_option maxRecDepth 100000
end Go.Proofs.YtpjmlidbligcbaaGreatDoor
namespace Go.Proofs.YtpjmlidbligcbaaGreatDoor
open Go.RowKit
open Go.BigFrame
set_option maxRecDepth 100000
end Go.Proofs.YtpjmlidbligcbaaGreatDoor
namespace Go.Proofs.YtpjmlidbligcbaaGreatDoor
open Go.RowKit
set_option maxRecDepth 100000
end Go.Proofs.YtpjmlidbligcbaaGreatDoor
namespace Go.Proofs.YtpjmlidbligcbaaGreatDoor
open Go.RowKit
set_option maxRecDepth 100000
end Go.Proofs.YtpjmlidbligcbaaGreatDoor
namespace Go.Proofs.YtpjmlidbligcbaaGreatDoor
open Go.RowKit
set_option maxRecDepth 100000
end Go.Proofs.YtpjmlidbligcbaaGreatDoor
namespace Go.Proofs.YtpjmlidbligcbaaGreatDoor
open Go.RowKit
set_option maxRecDepth 100000
theorem own_apart3 {w w' : World} {base base' e e' n n' s s' : Nat} {v v' : Value} {xs xs' : List Value} (h:w.ownsRow base e s v n xs) (h' : w'.ownsRow base' e' s' v' n' xs') (hb:w.heap.size≤base'):v.ownBlock=none∨v.ownBlock≠v'.ownBlock:=by
 cases hv:v.ownBlock with
 | none=>exact Or.inl rfl
 | some g=>
  right
  intro e
  have h1:=(h.lt g hv).2
  have h2:=(h'.lt g e.symm).1
  omega

theorem own_apart3' {w w' : World} {base base' e e' n n' s s' : Nat} {v v' : Value} {xs xs' : List Value} (h:w.ownsRow base e s v n xs) (h' : w'.ownsRow base' e' s' v' n' xs') (hb:w.heap.size≤base'):v'.ownBlock=none∨v'.ownBlock≠v.ownBlock:=by
 rcases own_apart3 h h' hb with e | e
 ·cases hv:v'.ownBlock with
  | none=>exact Or.inl rfl
  | some g=>right;rw [e];simp
 ·exact Or.inr (fun k=>e k.symm)

end Go.Proofs.YtpjmlidbligcbaaGreatDoor
namespace Go.Proofs.YtpjmlidbligcbaaGreatDoor
open Go.RowKit
set_option maxRecDepth 100000
end Go.Proofs.YtpjmlidbligcbaaGreatDoor
namespace Go.Proofs.YtpjmlidbligcbaaGreatDoor
open Go.RowKit
open Go.BigFrame
set_option maxRecDepth 100000
set_option maxHeartbeats 2000000 in
theorem implInstanceFault_any (p:InstQ) (w:World) (hG:Rul w) (h:instK.rd w p) (hl:p.n≤1048576) :
  Calls Tryz.prog 18 #[.agg #[.bool p.has,p.vb,p.vr,p.vd]] w fun e w' => e=.returned (.int .i64 (insF p.e))∧Below w.heap.size w w' := by
 obtain ⟨hl30,hone⟩:=bd_ok h
 have hbo:=fun w hG h=>boardOf_any p w hG h hl
 have hrb:=fun (w' : World) hb=>instK.rd_below (w' := w') h hb
 change ∀ w hG h,Calls _ _ _ _ fun e w' => e=.returned (.tuple #[.agg (bdOf p).toArray,_])∧_ at hbo
 generalize bdOf p=BD at *
 generalize insF p.e=C at *
 obtain ⟨has,vb,batch,vr,rounds,vd,dec⟩:=p
 obtain ⟨ba,bk,rfl⟩:∃ a c,vb=.slice a batch.length c:=h.1.shape
 obtain ⟨va,vk,rfl⟩:∃ a c,vr=.slice a rounds.length c:=h.2.1.shape
 obtain ⟨da,dk,rfl⟩:∃ a c,vd=.slice a dec.length c:=h.2.2.shape
 dsimp only at hbo hrb
 have hB:Below w.heap.size w (w.alloc (.cells #[.bool has,.slice ba batch.length bk,.slice va rounds.length vk,.slice da dec.length dk] 28)):=by go_grown
 have hszB:(Tryz.prog.info? 104).map (·.size)=some BD.toArray.size:=by rw [List.size_toArray,hl30];exact sz_board
 have hold:(#[.int .i64 0,.int .i64 0,.int .i64 0,.int .i64 0,.int .i64 0,.int .i64 0,.int .i64 0,.int .i64 0,.int .i64 0,.int .i64 0,.int .i64 0,.int .i64 0,.int .i64 0,.int .i64 0,.int .i64 0,.int .i64 0,.int .i64 0,.int .i64 0,.int .i64 0,.int .i64 0,.int .i64 0,.int .i64 0,.int .i64 0,.int .i64 0,.int .i64 0,.bool false,.slice none 0 0,.int .i64 0,.int .i64 0,.int .i64 0]:Array Value).size=BD.toArray.size:=(show 30=BD.length from hl30.symm)
 go_enter Tryz.func18,Tryz.ntmps18
 go_wp2_with fail
 generalize w.alloc (.cells #[.bool has,.slice ba batch.length bk,.slice va rounds.length vk,.slice da dec.length dk] 28)=W at *
 refine (hbo W (hG.below hB) (hrb W hB)).mono ?_
 rintro e w1 ⟨rfl,hb1⟩
 replace hB:=hB.trans (hb1.mono hB.size)
 have Bz:=Blk.new w1 104 #[.int .i64 0,.int .i64 0,.int .i64 0,.int .i64 0,.int .i64 0,.int .i64 0,.int .i64 0,.int .i64 0,.int .i64 0,.int .i64 0,.int .i64 0,.int .i64 0,.int .i64 0,.int .i64 0,.int .i64 0,.int .i64 0,.int .i64 0,.int .i64 0,.int .i64 0,.int .i64 0,.int .i64 0,.int .i64 0,.int .i64 0,.int .i64 0,.int .i64 0,.bool false,.slice none 0 0,.int .i64 0,.int .i64 0,.int .i64 0]
 have hB2:=below_row (hB.alloc hB.size (.cells #[.int .i64 0,.int .i64 0,.int .i64 0,.int .i64 0,.int .i64 0,.int .i64 0,.int .i64 0,.int .i64 0,.int .i64 0,.int .i64 0,.int .i64 0,.int .i64 0,.int .i64 0,.int .i64 0,.int .i64 0,.int .i64 0,.int .i64 0,.int .i64 0,.int .i64 0,.int .i64 0,.int .i64 0,.int .i64 0,.int .i64 0,.int .i64 0,.int .i64 0,.bool false,.slice none 0 0,.int .i64 0,.int .i64 0,.int .i64 0] 104)) (g:=w1.heap.size) hB.size BD.toArray
 clear hbo hrb hb1
 go_wp2_with (refine st_row (by kernel_rfl) 104 _ _ rfl _ BD.toArray rfl rfl 104 _ Bz hszB hold hone ?_)
 go_ret
 exact ⟨rfl,hB2⟩

end Go.Proofs.YtpjmlidbligcbaaGreatDoor
namespace Go.Proofs.YtpjmlidbligcbaaGreatDoor
open Go.RowKit
open Go.BigFrame
set_option maxRecDepth 100000
theorem brd_put {has has' : Bool} {vb vb' : Value} {rs:List RoundE} {dec:List Int} (h:Wel rs) (h4:rs.length≤4):((brdC has vb rs dec).toArray.setIfInBounds 25 (.bool has')).setIfInBounds 26 vb' = (brdC has' vb' rs dec).toArray:=by
 have hl:=rndC_length h h4
 rw [List.setIfInBounds_toArray,List.setIfInBounds_toArray]
 congr 1
 unfold brdC
 rw [List.set_append_right _ _ (by omega),List.set_append_right _ _ (by omega),hl]
 rfl

set_option maxHeartbeats 4000000 in
theorem implSetBatch_any (p:InstQ) (vn:Value) (bt:List TxnQ) (w:World) (hG:Rul w) (h:instK.rd w p) (hl:p.n≤1048576) (hT:txnK.At w vn bt) (hl' : bt.length + nmL TxnQ.n bt≤1048576) :
  Calls Tryz.prog 10 #[.agg #[.bool p.has,p.vb,p.vr,p.vd],vn] w fun e w' => ∃ q:InstQ,e=.returned (.agg (resC (sbC p.e (bt.map TxnQ.e)) 0 false false 0 q))∧q.e=sbI p.e (bt.map TxnQ.e)∧instK.own w' q∧(instK.foot q).Nodup∧(∀ k∈instK.foot q,w.heap.size≤k)∧Below w.heap.size w w' := by
 obtain ⟨hl30,hone⟩:=bd_ok h
 have hbo:=fun w hG h=>boardOf_any p w hG h hl
 have hrb:=fun (w' : World) hb=>instK.rd_below (w' := w') h hb
 have hba:=fun w (hT:txnK.At w vn bt)=>batchFault_any vn (bt.map TxnQ.e) w (txnsAt_of hT) (by rw [List.length_map,sumA_of];omega)
 have hin:=fun (hp:batF (bt.map TxnQ.e)=0) (rs:List RoundE) (dec:List Int) w (hT:txnK.At w vn bt) hw h4 h3=>instance_any true vn bt rs dec w hT (bat_pos hp) hl' hw h4 h3
 change ∀ w hG h,Calls _ _ _ _ fun e w' => e=.returned (.tuple #[.agg (bdOf p).toArray,_])∧_ at hbo
 have HBD:Hid (insF p.e=0→bdOf p=brdC p.has p.vb p.e.rounds p.dec∧Wel p.e.rounds∧p.e.rounds.length≤4∧p.dec.length=3):=fun h0=>by
  obtain ⟨h1,h2,h3,_⟩:=ins_ok h0
  exact ⟨if_pos h0,h1,h2.2,h3⟩
 obtain ⟨D,hD⟩:∃ D,sbC p.e (bt.map TxnQ.e)=D:=⟨_,rfl⟩
 obtain ⟨E,hE⟩:∃ E,sbI p.e (bt.map TxnQ.e)=E:=⟨_,rfl⟩
 have HDE:Hid ((insF p.e≠0→D=insF p.e∧E=ine0)∧(insF p.e=0→p.has=true→D=6∧E=ine0)∧(insF p.e=0→p.has=false→batF (bt.map TxnQ.e)≠0→D=batF (bt.map TxnQ.e)∧E=ine0)∧(insF p.e=0→p.has=false→batF (bt.map TxnQ.e)=0→D=0∧E=⟨true,bt.map TxnQ.e,p.e.rounds,p.dec⟩)):=by
  have hph:p.e.has=p.has:=rfl
  refine ⟨fun h0=>?_,fun h0 h1=>?_,fun h0 h1 h2=>?_,fun h0 h1 h2=>?_⟩
  ·have e:D=insF p.e:=by rw [← hD];exact if_neg h0
   exact ⟨e,by rw [← hE];exact if_neg (by rw [hD,e];exact h0)⟩
  ·have e:D=6:=by rw [← hD];unfold sbC;rw [if_pos h0,hph,h1];rfl
   exact ⟨e,by rw [← hE];exact if_neg (by rw [hD,e];decide)⟩
  ·have e:D=batF (bt.map TxnQ.e):=by rw [← hD];unfold sbC;rw [if_pos h0,hph,h1];rfl
   exact ⟨e,by rw [← hE];exact if_neg (by rw [hD,e];exact h2)⟩
  ·have e:D=0:=by rw [← hD];unfold sbC;rw [if_pos h0,hph,h1];exact h2
   exact ⟨e,by rw [← hE];exact if_pos (by rw [hD,e])⟩
 rw [hD,hE]
 clear hD hE
 generalize bdOf p=BD at *
 generalize insF p.e=C at *
 generalize p.e.rounds=rs at *
 generalize hds:bt.map TxnQ.e=dsn at *
 generalize hbf:batF dsn=BF at *
 clear hbf
 obtain ⟨has,vb,batch,vr,rounds,vd,dec⟩:=p
 obtain ⟨ba,bk,rfl⟩:∃ a c,vb=.slice a batch.length c:=h.1.shape
 obtain ⟨va,vk,rfl⟩:∃ a c,vr=.slice a rounds.length c:=h.2.1.shape
 obtain ⟨da,dk,rfl⟩:∃ a c,vd=.slice a dec.length c:=h.2.2.shape
 obtain ⟨na,nk,rfl⟩:=hT.shape
 dsimp only at hbo hrb HBD HDE
 have hB:Below w.heap.size w ((w.alloc (.cells #[.bool has,.slice ba batch.length bk,.slice va rounds.length vk,.slice da dec.length dk] 28)).alloc (.cells #[.int .i64 0,.int .i64 0,.bool false,.bool false,.int .i64 0,.bool false,.slice none 0 0,.slice none 0 0,.slice none 0 0] 34)):=by go_grown
 have Rb:=Blk.new (w.alloc (.cells #[.bool has,.slice ba batch.length bk,.slice va rounds.length vk,.slice da dec.length dk] 28)) 34 #[.int .i64 0,.int .i64 0,.bool false,.bool false,.int .i64 0,.bool false,.slice none 0 0,.slice none 0 0,.slice none 0 0]
 simp only [World.size_alloc] at Rb
 have hszB:(Tryz.prog.info? 104).map (·.size)=some BD.toArray.size:=by rw [List.size_toArray,hl30];exact sz_board
 have hold:(#[.int .i64 0,.int .i64 0,.int .i64 0,.int .i64 0,.int .i64 0,.int .i64 0,.int .i64 0,.int .i64 0,.int .i64 0,.int .i64 0,.int .i64 0,.int .i64 0,.int .i64 0,.int .i64 0,.int .i64 0,.int .i64 0,.int .i64 0,.int .i64 0,.int .i64 0,.int .i64 0,.int .i64 0,.int .i64 0,.int .i64 0,.int .i64 0,.int .i64 0,.bool false,.slice none 0 0,.int .i64 0,.int .i64 0,.int .i64 0]:Array Value).size=BD.toArray.size:=(show 30=BD.length from hl30.symm)
 go_enter Tryz.func10,Tryz.ntmps10
 go_wp2_with fail
 generalize ((w.alloc (.cells #[.bool has,.slice ba batch.length bk,.slice va rounds.length vk,.slice da dec.length dk] 28)).alloc (.cells #[.int .i64 0,.int .i64 0,.bool false,.bool false,.int .i64 0,.bool false,.slice none 0 0,.slice none 0 0,.slice none 0 0] 34))=W at *
 refine (hbo W (hG.below hB) (hrb W hB)).mono ?_
 rintro e w1 ⟨rfl,hb1⟩
 replace hB:=hB.trans (hb1.mono hB.size)
 replace Rb:=Rb.below hb1
 have Bz:=Blk.new w1 104 #[.int .i64 0,.int .i64 0,.int .i64 0,.int .i64 0,.int .i64 0,.int .i64 0,.int .i64 0,.int .i64 0,.int .i64 0,.int .i64 0,.int .i64 0,.int .i64 0,.int .i64 0,.int .i64 0,.int .i64 0,.int .i64 0,.int .i64 0,.int .i64 0,.int .i64 0,.int .i64 0,.int .i64 0,.int .i64 0,.int .i64 0,.int .i64 0,.int .i64 0,.bool false,.slice none 0 0,.int .i64 0,.int .i64 0,.int .i64 0]
 have hB2:=below_row (hB.alloc hB.size (.cells #[.int .i64 0,.int .i64 0,.int .i64 0,.int .i64 0,.int .i64 0,.int .i64 0,.int .i64 0,.int .i64 0,.int .i64 0,.int .i64 0,.int .i64 0,.int .i64 0,.int .i64 0,.int .i64 0,.int .i64 0,.int .i64 0,.int .i64 0,.int .i64 0,.int .i64 0,.int .i64 0,.int .i64 0,.int .i64 0,.int .i64 0,.int .i64 0,.int .i64 0,.bool false,.slice none 0 0,.int .i64 0,.int .i64 0,.int .i64 0] 104)) (g:=w1.heap.size) hB.size BD.toArray
 have Rb2:Blk ((w1.alloc (.cells #[.int .i64 0,.int .i64 0,.int .i64 0,.int .i64 0,.int .i64 0,.int .i64 0,.int .i64 0,.int .i64 0,.int .i64 0,.int .i64 0,.int .i64 0,.int .i64 0,.int .i64 0,.int .i64 0,.int .i64 0,.int .i64 0,.int .i64 0,.int .i64 0,.int .i64 0,.int .i64 0,.int .i64 0,.int .i64 0,.int .i64 0,.int .i64 0,.int .i64 0,.bool false,.slice none 0 0,.int .i64 0,.int .i64 0,.int .i64 0] 104)).setRow w1.heap.size BD.toArray) (w.heap.size + 1) 34 #[.int .i64 0,.int .i64 0,.bool false,.bool false,.int .i64 0,.bool false,.slice none 0 0,.slice none 0 0,.slice none 0 0]:=(setRow_other _ _ _ _ (by have:=Rb.lt;omega)).trans (Rb.below ((Below.refl _ _).alloc (Nat.le_refl _) _))
 have B2:=Bz.row BD.toArray
 have hlt2:=Rb.lt
 clear hbo hrb hb1 Rb
 by_cases h0:C=0
 case neg=>
  have E1:Hid (D=C∧E=ine0):=HDE.out.1 h0
  have h0' : (C != 0)=true:=by simpa using h0
  clear HDE HBD h0 B2 hba hin
  have Rr:=Rb2.row #[.int .i64 C,.int .i64 0,.bool false,.bool false,.int .i64 0,.bool false,.slice none 0 0,.slice none 0 0,.slice none 0 0]
  have hBr:=below_row hB2 (g:=w.heap.size + 1) (by omega) #[.int .i64 C,.int .i64 0,.bool false,.bool false,.int .i64 0,.bool false,.slice none 0 0,.slice none 0 0,.slice none 0 0]
  have hsr:(Tryz.prog.info? 34).map (·.size)=some (#[.int .i64 C,.int .i64 0,.bool false,.bool false,.int .i64 0,.bool false,.slice none 0 0,.slice none 0 0,.slice none 0 0]:Array Value).size:=sz_res
  go_wp2_with (first | (refine st_row (by kernel_rfl) 104 _ _ rfl _ BD.toArray rfl rfl 104 _ Bz hszB hold hone ?_) | (refine st_row (by kernel_rfl) 34 _ _ rfl _ #[.int .i64 C,.int .i64 0,.bool false,.bool false,.int .i64 0,.bool false,.slice none 0 0,.slice none 0 0,.slice none 0 0] rfl rfl 34 _ Rb2 hsr rfl (by simp [Value.oneCell']) ?_))
  have q0:=Rr.cell 0 _ rfl
  have q1:=Rr.cell 1 _ rfl
  have q2:=Rr.cell 2 _ rfl
  have q3:=Rr.cell 3 _ rfl
  have q4:=Rr.cell 4 _ rfl
  have q5:=Rr.cell 5 _ rfl
  have q6:=Rr.cell 6 _ rfl
  have q7:=Rr.cell 7 _ rfl
  have q8:=Rr.cell 8 _ rfl
  exact bodyPost_ret (v:=.agg #[.int .i64 C,.int .i64 0,.bool false,.bool false,.int .i64 0,.bool false,.slice none 0 0,.slice none 0 0,.slice none 0 0]) (by simp [results,Tryz.results10,go_sem,q0,q1,q2,q3,q4,q5,q6,q7,q8]) rfl ⟨inst0,by rw [E1.out.1];rfl,E1.out.2.symm,inst0_own _,inst0_nd,fun k hk=>by rw [inst0_ft] at hk;simp at hk,hBr⟩

 case pos=>
  obtain ⟨hBD,hwel,h4,hd3⟩:=HBD.out h0
  have c25:((w1.alloc (.cells #[.int .i64 0,.int .i64 0,.int .i64 0,.int .i64 0,.int .i64 0,.int .i64 0,.int .i64 0,.int .i64 0,.int .i64 0,.int .i64 0,.int .i64 0,.int .i64 0,.int .i64 0,.int .i64 0,.int .i64 0,.int .i64 0,.int .i64 0,.int .i64 0,.int .i64 0,.int .i64 0,.int .i64 0,.int .i64 0,.int .i64 0,.int .i64 0,.int .i64 0,.bool false,.slice none 0 0,.int .i64 0,.int .i64 0,.int .i64 0] 104)).setRow w1.heap.size BD.toArray).cell? ⟨w1.heap.size,25,none⟩=some (.bool has):=B2.cell 25 _ (by rw [List.getElem?_toArray,hBD];exact brd_has hwel h4)
  subst h0
  cases has with
  | true=>
   have E1:Hid (D=6∧E=ine0):=HDE.out.2.1 rfl rfl
   clear HDE HBD B2 hba hin hBD
   have Rr:=Rb2.row #[.int .i64 6,.int .i64 0,.bool false,.bool false,.int .i64 0,.bool false,.slice none 0 0,.slice none 0 0,.slice none 0 0]
   have hBr:=below_row hB2 (g:=w.heap.size + 1) (by omega) #[.int .i64 6,.int .i64 0,.bool false,.bool false,.int .i64 0,.bool false,.slice none 0 0,.slice none 0 0,.slice none 0 0]
   have hsr:(Tryz.prog.info? 34).map (·.size)=some (#[.int .i64 6,.int .i64 0,.bool false,.bool false,.int .i64 0,.bool false,.slice none 0 0,.slice none 0 0,.slice none 0 0]:Array Value).size:=sz_res
   go_wp2_with (first | (refine st_row (by kernel_rfl) 104 _ _ rfl _ BD.toArray rfl rfl 104 _ Bz hszB hold hone ?_) | (refine st_row (by kernel_rfl) 34 _ _ rfl _ #[.int .i64 6,.int .i64 0,.bool false,.bool false,.int .i64 0,.bool false,.slice none 0 0,.slice none 0 0,.slice none 0 0] rfl rfl 34 _ Rb2 hsr rfl (by simp [Value.oneCell']) ?_))
   have q0:=Rr.cell 0 _ rfl
   have q1:=Rr.cell 1 _ rfl
   have q2:=Rr.cell 2 _ rfl
   have q3:=Rr.cell 3 _ rfl
   have q4:=Rr.cell 4 _ rfl
   have q5:=Rr.cell 5 _ rfl
   have q6:=Rr.cell 6 _ rfl
   have q7:=Rr.cell 7 _ rfl
   have q8:=Rr.cell 8 _ rfl
   exact bodyPost_ret (v:=.agg #[.int .i64 6,.int .i64 0,.bool false,.bool false,.int .i64 0,.bool false,.slice none 0 0,.slice none 0 0,.slice none 0 0]) (by simp [results,Tryz.results10,go_sem,q0,q1,q2,q3,q4,q5,q6,q7,q8]) rfl ⟨inst0,by rw [E1.out.1];rfl,E1.out.2.symm,inst0_own _,inst0_nd,fun k hk=>by rw [inst0_ft] at hk;simp at hk,hBr⟩

  | false=>
   have E4:Hid ((BF≠0→D=BF∧E=ine0)∧(BF=0→D=0∧E=⟨true,dsn,rs,dec⟩)):=⟨HDE.out.2.2.1 rfl rfl,HDE.out.2.2.2 rfl rfl⟩
   have HB9:Hid (BD=brdC false (.slice ba batch.length bk) rs dec):=hBD
   have HD3:Hid (dec.length=3):=hd3
   clear HDE HBD hBD hd3
   go_wp2_with (first | (refine st_row (by kernel_rfl) 104 _ _ rfl _ BD.toArray rfl rfl 104 _ Bz hszB hold hone ?_))
   clear c25
   generalize ((w1.alloc (.cells #[.int .i64 0,.int .i64 0,.int .i64 0,.int .i64 0,.int .i64 0,.int .i64 0,.int .i64 0,.int .i64 0,.int .i64 0,.int .i64 0,.int .i64 0,.int .i64 0,.int .i64 0,.int .i64 0,.int .i64 0,.int .i64 0,.int .i64 0,.int .i64 0,.int .i64 0,.int .i64 0,.int .i64 0,.int .i64 0,.int .i64 0,.int .i64 0,.int .i64 0,.bool false,.slice none 0 0,.int .i64 0,.int .i64 0,.int .i64 0] 104)).setRow w1.heap.size BD.toArray)=X at *
   refine (hba X (hT.below hB2)).mono ?_
   rintro e w2 ⟨rfl,hb2⟩
   replace Rb2:=Rb2.below hb2
   replace B2:=B2.below hb2
   replace hB2:=hB2.trans (hb2.mono hB2.size)
   clear hb2 hba Bz
   by_cases hbf:BF=0
   case neg=>
    have E1:Hid (D=BF∧E=ine0):=E4.out.1 hbf
    have h0' : (BF != 0)=true:=by simpa using hbf
    clear E4 hbf hin
    have Rr:=Rb2.row #[.int .i64 BF,.int .i64 0,.bool false,.bool false,.int .i64 0,.bool false,.slice none 0 0,.slice none 0 0,.slice none 0 0]
    have hBr:=below_row hB2 (g:=w.heap.size + 1) (by omega) #[.int .i64 BF,.int .i64 0,.bool false,.bool false,.int .i64 0,.bool false,.slice none 0 0,.slice none 0 0,.slice none 0 0]
    have hsr:(Tryz.prog.info? 34).map (·.size)=some (#[.int .i64 BF,.int .i64 0,.bool false,.bool false,.int .i64 0,.bool false,.slice none 0 0,.slice none 0 0,.slice none 0 0]:Array Value).size:=sz_res
    go_wp2_with (first | (refine st_row (by kernel_rfl) 34 _ _ rfl _ #[.int .i64 BF,.int .i64 0,.bool false,.bool false,.int .i64 0,.bool false,.slice none 0 0,.slice none 0 0,.slice none 0 0] rfl rfl 34 _ Rb2 hsr rfl (by simp [Value.oneCell']) ?_))
    have q0:=Rr.cell 0 _ rfl
    have q1:=Rr.cell 1 _ rfl
    have q2:=Rr.cell 2 _ rfl
    have q3:=Rr.cell 3 _ rfl
    have q4:=Rr.cell 4 _ rfl
    have q5:=Rr.cell 5 _ rfl
    have q6:=Rr.cell 6 _ rfl
    have q7:=Rr.cell 7 _ rfl
    have q8:=Rr.cell 8 _ rfl
    exact bodyPost_ret (v:=.agg #[.int .i64 BF,.int .i64 0,.bool false,.bool false,.int .i64 0,.bool false,.slice none 0 0,.slice none 0 0,.slice none 0 0]) (by simp [results,Tryz.results10,go_sem,q0,q1,q2,q3,q4,q5,q6,q7,q8]) rfl ⟨inst0,by rw [E1.out.1];rfl,E1.out.2.symm,inst0_own _,inst0_nd,fun k hk=>by rw [inst0_ft] at hk;simp at hk,hBr⟩

   case pos=>
    have E1:Hid (D=0∧E=⟨true,dsn,rs,dec⟩):=E4.out.2 hbf
    subst hbf
    clear E4
    have X3:=(B2.set 25 (.bool true)).set 26 (.slice na bt.length nk)
    rw [HB9.out,brd_put hwel h4] at X3
    have X4:=rng X3 (brdC true (.slice na bt.length nk) rs dec) (o:=0) (fun j v hv=>by rw [Nat.zero_add,List.getElem?_toArray];exact hv)
    have hgs:w.heap.size + 2≤w1.heap.size:=by omega
    have hBg:Below w.heap.size w ((w2.setCell ⟨w1.heap.size,25,none⟩ (.bool true)).setCell ⟨w1.heap.size,26,none⟩ (.slice na bt.length nk)):=(hB2.setCell (p:=⟨w1.heap.size,25,none⟩) (by show w.heap.size≤w1.heap.size;omega) _).setCell (p:=⟨w1.heap.size,26,none⟩) (by show w.heap.size≤w1.heap.size;omega) _
    have R3:Blk ((w2.setCell ⟨w1.heap.size,25,none⟩ (.bool true)).setCell ⟨w1.heap.size,26,none⟩ (.slice na bt.length nk)) (w.heap.size + 1) 34 #[.int .i64 0,.int .i64 0,.bool false,.bool false,.int .i64 0,.bool false,.slice none 0 0,.slice none 0 0,.slice none 0 0]:=(Rb2.other (b' := w1.heap.size) (by omega) _ _).other (b' := w1.heap.size) (by omega) _ _
    have hs30:(Tryz.prog.info? 104).map (·.size)=some (brdC true (.slice na bt.length nk) rs dec).length:=by rw [brdC_length hwel h4 HD3.out];exact sz_board
    have c25:w2.cell? ⟨w1.heap.size,25,none⟩=some (.bool false):=B2.cell 25 _ (by rw [List.getElem?_toArray,HB9.out];exact brd_has hwel h4)
    have c26:w2.cell? ⟨w1.heap.size,26,none⟩=some (.slice ba batch.length bk):=B2.cell 26 _ (by rw [List.getElem?_toArray,HB9.out];exact brd_bat hwel h4)
    have f25:=B2.frozen 25
    have f26:=B2.frozen 26
    clear B2 Rb2 HB9
    go_wp2_with (first | (refine ld_g (by kernel_rfl) 104 _ rfl _ _ rfl (brdC true (.slice na bt.length nk) rs dec) _ X4 Tryz.underlying104 rfl hs30 ?_))
    clear c25 c26 f25 f26 X4 X3 hs30
    generalize (w2.setCell ⟨w1.heap.size,25,none⟩ (.bool true)).setCell ⟨w1.heap.size,26,none⟩ (.slice na bt.length nk)=X5 at *
    refine (hin (by trivial) rs dec X5 (hT.below hBg) hwel h4 HD3.out).mono ?_
    rintro e w5 ⟨q,rfl,eq,oq,nq,gq,hb5⟩
    have R5:=R3.below hb5
    have hR5:=R3.lt
    have L5:∀ k∈instK.foot q,w.heap.size + 2≤k:=fun k hk=>by have:=gq k hk;omega
    replace hBg:=hBg.trans (hb5.mono hBg.size)
    clear hin gq hb5 R3
    have hous:∀ cs,instK.own (w5.setRow (w.heap.size + 1) cs) q:=fun cs=>instK.own_out oq (out_row w5 (w.heap.size + 1) cs) (fun k hk=>by have:=L5 k hk;simp only [List.mem_singleton];omega)
    have HQ:Hid (q.e=E∧(instK.foot q).Nodup∧(∀ k∈instK.foot q,w.heap.size≤k)∧∀ cs,instK.own (w5.setRow (w.heap.size + 1) cs) q):=⟨by rw [eq,E1.out.2],nq,fun k hk=>by have:=L5 k hk;omega,hous⟩
    have HD0:Hid (D=0):=E1.out.1
    clear E1 eq nq hous L5
    obtain ⟨qh,qb,qbs,qr,qrs,qd,qds⟩:=q
    obtain ⟨s1,t1,rfl⟩:∃ a c,qb=.slice a qbs.length c:=oq.1.shape
    obtain ⟨s2,t2,rfl⟩:∃ a c,qr=.slice a qrs.length c:=oq.2.1.shape
    obtain ⟨s3,t3,rfl⟩:∃ a c,qd=.slice a qds.length c:=oq.2.2.shape
    have Rr:=R5.row #[.int .i64 0,.int .i64 0,.bool false,.bool false,.int .i64 0,.bool qh,.slice s1 qbs.length t1,.slice s2 qrs.length t2,.slice s3 qds.length t3]
    have hBr:=below_row hBg (g:=w.heap.size + 1) (by omega) #[.int .i64 0,.int .i64 0,.bool false,.bool false,.int .i64 0,.bool qh,.slice s1 qbs.length t1,.slice s2 qrs.length t2,.slice s3 qds.length t3]
    have hsr:(Tryz.prog.info? 34).map (·.size)=some (#[.int .i64 0,.int .i64 0,.bool false,.bool false,.int .i64 0,.bool qh,.slice s1 qbs.length t1,.slice s2 qrs.length t2,.slice s3 qds.length t3]:Array Value).size:=sz_res
    clear oq
    go_wp2_with (first | (refine st_row (by kernel_rfl) 34 _ _ rfl _ #[.int .i64 0,.int .i64 0,.bool false,.bool false,.int .i64 0,.bool qh,.slice s1 qbs.length t1,.slice s2 qrs.length t2,.slice s3 qds.length t3] rfl rfl 34 _ R5 hsr rfl (by simp [Value.oneCell']) ?_))
    have q0:=Rr.cell 0 _ rfl
    have q1:=Rr.cell 1 _ rfl
    have q2:=Rr.cell 2 _ rfl
    have q3:=Rr.cell 3 _ rfl
    have q4:=Rr.cell 4 _ rfl
    have q5:=Rr.cell 5 _ rfl
    have q6:=Rr.cell 6 _ rfl
    have q7:=Rr.cell 7 _ rfl
    have q8:=Rr.cell 8 _ rfl
    exact bodyPost_ret (v:=.agg #[.int .i64 0,.int .i64 0,.bool false,.bool false,.int .i64 0,.bool qh,.slice s1 qbs.length t1,.slice s2 qrs.length t2,.slice s3 qds.length t3]) (by simp [results,Tryz.results10,go_sem,q0,q1,q2,q3,q4,q5,q6,q7,q8]) rfl ⟨⟨qh,.slice s1 qbs.length t1,qbs,.slice s2 qrs.length t2,qrs,.slice s3 qds.length t3,qds⟩,by rw [HD0.out],HQ.out.1,HQ.out.2.2.2 _,HQ.out.2.1,HQ.out.2.2.1,hBr⟩

end Go.Proofs.YtpjmlidbligcbaaGreatDoor
namespace Go.Proofs.YtpjmlidbligcbaaGreatDoor
open Go.RowKit
open Go.BigFrame
set_option maxRecDepth 100000
set_option maxHeartbeats 4000000 in
theorem specSetBatch_any (p:InstQ) (vn:Value) (bt:List TxnQ) (w:World) (h:instK.rd w p) (hl:p.n≤1048576) (hT:txnK.At w vn bt) (hl' : bt.length + nmL TxnQ.n bt≤1048576) :
  Calls Tryz.prog 17 #[.agg #[.bool p.has,p.vb,p.vr,p.vd],vn] w fun e w' => ∃ q:InstQ,e=.returned (.agg (resC (sbC p.e (bt.map TxnQ.e)) 0 false false 0 q))∧q.e=sbI p.e (bt.map TxnQ.e)∧instK.own w' q∧(instK.foot q).Nodup∧(∀ k∈instK.foot q,w.heap.size≤k)∧Below w.heap.size w w' := by
 have hB:Below w.heap.size w ((w.alloc (.cells #[.bool p.has,p.vb,p.vr,p.vd] 28)).alloc (.cells #[.int .i64 0,.int .i64 0,.bool false,.bool false,.int .i64 0,.bool false,.slice none 0 0,.slice none 0 0,.slice none 0 0] 34)):=by go_grown
 have Rb:=Blk.new (w.alloc (.cells #[.bool p.has,p.vb,p.vr,p.vd] 28)) 34 #[.int .i64 0,.int .i64 0,.bool false,.bool false,.int .i64 0,.bool false,.slice none 0 0,.slice none 0 0,.slice none 0 0]
 rw [World.size_alloc] at Rb
 have hws:w.heap.size + 2≤((w.alloc (.cells #[.bool p.has,p.vb,p.vr,p.vd] 28)).alloc (.cells #[.int .i64 0,.int .i64 0,.bool false,.bool false,.int .i64 0,.bool false,.slice none 0 0,.slice none 0 0,.slice none 0 0] 34)).heap.size:=by simp
 have hP:InstP ((w.alloc (.cells #[.bool p.has,p.vb,p.vr,p.vd] 28)).alloc (.cells #[.int .i64 0,.int .i64 0,.bool false,.bool false,.int .i64 0,.bool false,.slice none 0 0,.slice none 0 0,.slice none 0 0] 34)) w.heap.size 0 p:=⟨(box4_new w _ _ _ _ 28).below (by go_grown),instK.rd_below h hB⟩
 have hf1:=l6Fault_any w.heap.size 0 p _ hP hl
 have hst:=fun w' hP hb h0 hT=>l6Set_any w.heap.size 0 p vn bt w' hP hb hl h0 hT hl'
 have HC:Hid (insF p.e≠0→sbC p.e (bt.map TxnQ.e)=insF p.e∧sbI p.e (bt.map TxnQ.e)=ine0):=fun h0=>by
  have e:sbC p.e (bt.map TxnQ.e)=insF p.e:=if_neg h0
  exact ⟨e,if_neg (by rw [e];exact h0)⟩
 generalize sbC p.e (bt.map TxnQ.e)=D at *
 generalize sbI p.e (bt.map TxnQ.e)=E at *
 generalize insF p.e=C at *
 obtain ⟨na,nk,rfl⟩:=hT.shape
 go_enter Tryz.func17,Tryz.ntmps17
 go_wp2_with fail
 generalize (w.alloc (.cells #[.bool p.has,p.vb,p.vr,p.vd] 28)).alloc (.cells #[.int .i64 0,.int .i64 0,.bool false,.bool false,.int .i64 0,.bool false,.slice none 0 0,.slice none 0 0,.slice none 0 0] 34)=W at *
 refine hf1.mono ?_
 rintro e w1 ⟨rfl,hb1⟩
 replace hB:=hB.trans (hb1.mono hB.size)
 replace Rb:=Rb.below hb1
 have hP1:=hP.below hb1
 have hws1:w.heap.size + 2≤w1.heap.size:=by have:=hb1.size;omega
 clear hf1 hb1 hP
 by_cases h0:C=0
 case neg=>
  have E1:Hid (D=C∧E=ine0):=HC.out h0
  have h0' : (C != 0)=true:=by simpa using h0
  clear HC h0 hst
  go_wp2_with fail
  refine (l6Bad_any C _).mono ?_
  rintro e w8 ⟨rfl,hb8⟩
  replace hB:=hB.trans (hb8.mono hB.size)
  replace Rb:=Rb.below hb8
  clear hb8
  have Rr:=Rb.row #[.int .i64 C,.int .i64 0,.bool false,.bool false,.int .i64 0,.bool false,.slice none 0 0,.slice none 0 0,.slice none 0 0]
  have hBr:=below_row hB (g:=w.heap.size + 1) (by omega) #[.int .i64 C,.int .i64 0,.bool false,.bool false,.int .i64 0,.bool false,.slice none 0 0,.slice none 0 0,.slice none 0 0]
  have hsr:(Tryz.prog.info? 34).map (·.size)=some (#[.int .i64 C,.int .i64 0,.bool false,.bool false,.int .i64 0,.bool false,.slice none 0 0,.slice none 0 0,.slice none 0 0]:Array Value).size:=sz_res
  go_wp2_with (first | (refine st_row (by kernel_rfl) 34 _ _ rfl _ #[.int .i64 C,.int .i64 0,.bool false,.bool false,.int .i64 0,.bool false,.slice none 0 0,.slice none 0 0,.slice none 0 0] rfl rfl 34 _ Rb hsr rfl (by simp [Value.oneCell']) ?_))
  have q0:=Rr.cell 0 _ rfl
  have q1:=Rr.cell 1 _ rfl
  have q2:=Rr.cell 2 _ rfl
  have q3:=Rr.cell 3 _ rfl
  have q4:=Rr.cell 4 _ rfl
  have q5:=Rr.cell 5 _ rfl
  have q6:=Rr.cell 6 _ rfl
  have q7:=Rr.cell 7 _ rfl
  have q8:=Rr.cell 8 _ rfl
  exact bodyPost_ret (v:=.agg #[.int .i64 C,.int .i64 0,.bool false,.bool false,.int .i64 0,.bool false,.slice none 0 0,.slice none 0 0,.slice none 0 0]) (by simp [results,Tryz.results17,go_sem,q0,q1,q2,q3,q4,q5,q6,q7,q8]) rfl ⟨inst0,by rw [E1.out.1];rfl,E1.out.2.symm,inst0_own _,inst0_nd,fun k hk=>by rw [inst0_ft] at hk;simp at hk,hBr⟩

 case pos=>
  subst h0
  clear HC
  go_wp2_with fail
  refine (hst w1 hP1 (by omega) (by trivial) (hT.below hB)).mono ?_
  rintro e w2 ⟨q,rfl,eq,oq,nq,gq,hb2⟩
  replace Rb:=Rb.below hb2
  replace hB:=hB.trans (hb2.mono hB.size)
  have HQ:Hid (q.e=E∧(instK.foot q).Nodup∧(∀ k∈instK.foot q,w.heap.size≤k)∧∀ cs,instK.own (w2.setRow (w.heap.size + 1) cs) q):=⟨eq,nq,fun k hk=>by have:=gq k hk;omega,fun cs=>instK.own_out oq (out_row w2 (w.heap.size + 1) cs) (fun k hk=>by have:=gq k hk;simp only [List.mem_singleton];omega)⟩
  clear hst hP1 hb2 eq nq gq
  obtain ⟨qh,qb,qbs,qr,qrs,qd,qds⟩:=q
  obtain ⟨s1,t1,rfl⟩:∃ a c,qb=.slice a qbs.length c:=oq.1.shape
  obtain ⟨s2,t2,rfl⟩:∃ a c,qr=.slice a qrs.length c:=oq.2.1.shape
  obtain ⟨s3,t3,rfl⟩:∃ a c,qd=.slice a qds.length c:=oq.2.2.shape
  have Rr:=Rb.row #[.int .i64 D,.int .i64 0,.bool false,.bool false,.int .i64 0,.bool qh,.slice s1 qbs.length t1,.slice s2 qrs.length t2,.slice s3 qds.length t3]
  have hBr:=below_row hB (g:=w.heap.size + 1) (by omega) #[.int .i64 D,.int .i64 0,.bool false,.bool false,.int .i64 0,.bool qh,.slice s1 qbs.length t1,.slice s2 qrs.length t2,.slice s3 qds.length t3]
  have hsr:(Tryz.prog.info? 34).map (·.size)=some (#[.int .i64 D,.int .i64 0,.bool false,.bool false,.int .i64 0,.bool qh,.slice s1 qbs.length t1,.slice s2 qrs.length t2,.slice s3 qds.length t3]:Array Value).size:=sz_res
  clear oq
  go_wp2_with (first | (refine st_row (by kernel_rfl) 34 _ _ rfl _ #[.int .i64 D,.int .i64 0,.bool false,.bool false,.int .i64 0,.bool qh,.slice s1 qbs.length t1,.slice s2 qrs.length t2,.slice s3 qds.length t3] rfl rfl 34 _ Rb hsr rfl (by simp [Value.oneCell']) ?_))
  have q0:=Rr.cell 0 _ rfl
  have q1:=Rr.cell 1 _ rfl
  have q2:=Rr.cell 2 _ rfl
  have q3:=Rr.cell 3 _ rfl
  have q4:=Rr.cell 4 _ rfl
  have q5:=Rr.cell 5 _ rfl
  have q6:=Rr.cell 6 _ rfl
  have q7:=Rr.cell 7 _ rfl
  have q8:=Rr.cell 8 _ rfl
  exact bodyPost_ret (v:=.agg #[.int .i64 D,.int .i64 0,.bool false,.bool false,.int .i64 0,.bool qh,.slice s1 qbs.length t1,.slice s2 qrs.length t2,.slice s3 qds.length t3]) (by simp [results,Tryz.results17,go_sem,q0,q1,q2,q3,q4,q5,q6,q7,q8]) rfl ⟨⟨qh,.slice s1 qbs.length t1,qbs,.slice s2 qrs.length t2,qrs,.slice s3 qds.length t3,qds⟩,rfl,HQ.out.1,HQ.out.2.2.2 _,HQ.out.2.1,HQ.out.2.2.1,hBr⟩

end Go.Proofs.YtpjmlidbligcbaaGreatDoor
namespace Go.Proofs.YtpjmlidbligcbaaGreatDoor
open Go.RowKit
open Go.BigFrame
set_option maxRecDepth 100000
set_option maxHeartbeats 4000000 in
theorem implFirstReport_any (p:InstQ) (node value:Int) (w:World) (hG:RulO w) (h:instK.rd w p) (hl:p.n≤1048576) :
  Calls Tryz.prog 12 #[.agg #[.bool p.has,p.vb,p.vr,p.vd],.int .i64 node,.int .i64 value] w fun e w' => ∃ q:InstQ,e=.returned (.agg (resC (frC p.e node value) 0 false false 0 q))∧q.e=frI p.e node value∧instK.own w' q∧(instK.foot q).Nodup∧(∀ k∈instK.foot q,w.heap.size≤k)∧Below w.heap.size w w' := by
 obtain ⟨hl30,hone⟩:=bdAt_ok node 0 h
 have hbo:=fun w hG h=>boardAt_any p node 0 w hG h hl
 have hrb:=fun (w' : World) hb=>instK.rd_below (w' := w') h hb
 have hTx:txnK.At w p.vb p.batch:=h.1
 have hin:=fun (h0:insF p.e=0) (rs:List RoundE) (dec:List Int) w (hT:txnK.At w p.vb p.batch) hw h4 h3=>instance_any p.has p.vb p.batch rs dec w hT (ins_low h0).1 (by unfold InstQ.n at hl;omega) hw h4 h3
 have HBD:Hid (atC p.e node 0=0→bdAt p node 0=brdC p.has p.vb p.e.rounds p.dec∧Wel p.e.rounds∧p.e.rounds.length≤4∧p.dec.length=3):=bdAt_zero
 have HF:=fr_facts p.e node value
 rw [show p.e.has=p.has from rfl,show p.e.batch=p.batch.map TxnQ.e from rfl,show p.e.dec=p.dec from rfl] at HF
 generalize frC p.e node value=D at *
 generalize frI p.e node value=E at *
 generalize insF p.e=IF at *
 generalize bdAt p node 0=BD at *
 generalize atC p.e node 0=C at *
 generalize p.e.rounds=rs at *
 replace HF:Hid _:=HF
 obtain ⟨has,vb,batch,vr,rounds,vd,dec⟩:=p
 obtain ⟨ba,bk,rfl⟩:∃ a c,vb=.slice a batch.length c:=h.1.shape
 obtain ⟨va,vk,rfl⟩:∃ a c,vr=.slice a rounds.length c:=h.2.1.shape
 obtain ⟨da,dk,rfl⟩:∃ a c,vd=.slice a dec.length c:=h.2.2.shape
 dsimp only at hbo hrb HBD HF hin hTx
 have hB:Below w.heap.size w ((w.alloc (.cells #[.bool has,.slice ba batch.length bk,.slice va rounds.length vk,.slice da dec.length dk] 28)).alloc (.cells #[.int .i64 0,.int .i64 0,.bool false,.bool false,.int .i64 0,.bool false,.slice none 0 0,.slice none 0 0,.slice none 0 0] 34)):=by go_grown
 have Rb:=Blk.new (w.alloc (.cells #[.bool has,.slice ba batch.length bk,.slice va rounds.length vk,.slice da dec.length dk] 28)) 34 #[.int .i64 0,.int .i64 0,.bool false,.bool false,.int .i64 0,.bool false,.slice none 0 0,.slice none 0 0,.slice none 0 0]
 simp only [World.size_alloc] at Rb
 have hszB:(Tryz.prog.info? 104).map (·.size)=some BD.toArray.size:=by rw [List.size_toArray,hl30];exact sz_board
 have hold:(#[.int .i64 0,.int .i64 0,.int .i64 0,.int .i64 0,.int .i64 0,.int .i64 0,.int .i64 0,.int .i64 0,.int .i64 0,.int .i64 0,.int .i64 0,.int .i64 0,.int .i64 0,.int .i64 0,.int .i64 0,.int .i64 0,.int .i64 0,.int .i64 0,.int .i64 0,.int .i64 0,.int .i64 0,.int .i64 0,.int .i64 0,.int .i64 0,.int .i64 0,.bool false,.slice none 0 0,.int .i64 0,.int .i64 0,.int .i64 0]:Array Value).size=BD.toArray.size:=(show 30=BD.length from hl30.symm)
 go_enter Tryz.func12,Tryz.ntmps12
 go_wp2_with fail
 generalize ((w.alloc (.cells #[.bool has,.slice ba batch.length bk,.slice va rounds.length vk,.slice da dec.length dk] 28)).alloc (.cells #[.int .i64 0,.int .i64 0,.bool false,.bool false,.int .i64 0,.bool false,.slice none 0 0,.slice none 0 0,.slice none 0 0] 34))=W at *
 refine (hbo W (hG.r.below hB) (hrb W hB)).mono ?_
 rintro e w1 ⟨rfl,hb1⟩
 replace hB:=hB.trans (hb1.mono hB.size)
 have hgo:w1.heap.size≠0:=by have h1:=hG.o.glob;have h2:=hB.size;omega
 replace Rb:=Rb.below hb1
 have Bz:=Blk.new w1 104 #[.int .i64 0,.int .i64 0,.int .i64 0,.int .i64 0,.int .i64 0,.int .i64 0,.int .i64 0,.int .i64 0,.int .i64 0,.int .i64 0,.int .i64 0,.int .i64 0,.int .i64 0,.int .i64 0,.int .i64 0,.int .i64 0,.int .i64 0,.int .i64 0,.int .i64 0,.int .i64 0,.int .i64 0,.int .i64 0,.int .i64 0,.int .i64 0,.int .i64 0,.bool false,.slice none 0 0,.int .i64 0,.int .i64 0,.int .i64 0]
 have hB2:=below_row (hB.alloc hB.size (.cells #[.int .i64 0,.int .i64 0,.int .i64 0,.int .i64 0,.int .i64 0,.int .i64 0,.int .i64 0,.int .i64 0,.int .i64 0,.int .i64 0,.int .i64 0,.int .i64 0,.int .i64 0,.int .i64 0,.int .i64 0,.int .i64 0,.int .i64 0,.int .i64 0,.int .i64 0,.int .i64 0,.int .i64 0,.int .i64 0,.int .i64 0,.int .i64 0,.int .i64 0,.bool false,.slice none 0 0,.int .i64 0,.int .i64 0,.int .i64 0] 104)) (g:=w1.heap.size) hB.size BD.toArray
 have Rb2:Blk ((w1.alloc (.cells #[.int .i64 0,.int .i64 0,.int .i64 0,.int .i64 0,.int .i64 0,.int .i64 0,.int .i64 0,.int .i64 0,.int .i64 0,.int .i64 0,.int .i64 0,.int .i64 0,.int .i64 0,.int .i64 0,.int .i64 0,.int .i64 0,.int .i64 0,.int .i64 0,.int .i64 0,.int .i64 0,.int .i64 0,.int .i64 0,.int .i64 0,.int .i64 0,.int .i64 0,.bool false,.slice none 0 0,.int .i64 0,.int .i64 0,.int .i64 0] 104)).setRow w1.heap.size BD.toArray) (w.heap.size + 1) 34 #[.int .i64 0,.int .i64 0,.bool false,.bool false,.int .i64 0,.bool false,.slice none 0 0,.slice none 0 0,.slice none 0 0]:=(setRow_other _ _ _ _ (by have:=Rb.lt;omega)).trans (Rb.below ((Below.refl _ _).alloc (Nat.le_refl _) _))
 have B2:=Bz.row BD.toArray
 have hlt2:w.heap.size + 1 < w1.heap.size:=Rb.lt
 clear hbo hrb hb1 Rb
 by_cases h0:C=0
 case neg=>
  have E1:Hid (D=C∧E=ine0):=HF.out.1 h0
  have h0' : (C != 0)=true:=by simpa using h0
  clear HF HBD h0 B2 hin
  have Rr:=Rb2.row #[.int .i64 C,.int .i64 0,.bool false,.bool false,.int .i64 0,.bool false,.slice none 0 0,.slice none 0 0,.slice none 0 0]
  have hBr:=below_row hB2 (g:=w.heap.size + 1) (by omega) #[.int .i64 C,.int .i64 0,.bool false,.bool false,.int .i64 0,.bool false,.slice none 0 0,.slice none 0 0,.slice none 0 0]
  have hsr:(Tryz.prog.info? 34).map (·.size)=some (#[.int .i64 C,.int .i64 0,.bool false,.bool false,.int .i64 0,.bool false,.slice none 0 0,.slice none 0 0,.slice none 0 0]:Array Value).size:=sz_res
  go_wp2_with (first | (refine st_row (by kernel_rfl) 104 _ _ rfl _ BD.toArray rfl rfl 104 _ Bz hszB hold hone ?_) | (refine st_row (by kernel_rfl) 34 _ _ rfl _ #[.int .i64 C,.int .i64 0,.bool false,.bool false,.int .i64 0,.bool false,.slice none 0 0,.slice none 0 0,.slice none 0 0] rfl rfl 34 _ Rb2 hsr rfl (by simp [Value.oneCell']) ?_))
  have q0:=Rr.cell 0 _ rfl
  have q1:=Rr.cell 1 _ rfl
  have q2:=Rr.cell 2 _ rfl
  have q3:=Rr.cell 3 _ rfl
  have q4:=Rr.cell 4 _ rfl
  have q5:=Rr.cell 5 _ rfl
  have q6:=Rr.cell 6 _ rfl
  have q7:=Rr.cell 7 _ rfl
  have q8:=Rr.cell 8 _ rfl
  exact bodyPost_ret (v:=.agg #[.int .i64 C,.int .i64 0,.bool false,.bool false,.int .i64 0,.bool false,.slice none 0 0,.slice none 0 0,.slice none 0 0]) (by simp [results,Tryz.results12,go_sem,q0,q1,q2,q3,q4,q5,q6,q7,q8]) rfl ⟨inst0,by rw [E1.out.1];rfl,E1.out.2.symm,inst0_own _,inst0_nd,fun k hk=>by rw [inst0_ft] at hk;simp at hk,hBr⟩

 case pos=>
  obtain ⟨hBD,hwel,h4,hd3⟩:=HBD.out h0
  obtain ⟨hi0,n,rfl,hn,hr,f3,f6,f10,f0⟩:=HF.out.2 h0
  have H0:Hid (IF=0):=hi0
  have HB9:Hid (BD=brdC has (.slice ba batch.length bk) rs dec):=hBD
  have HD5:Hid (dec.length=3):=hd3
  have F3:Hid _:=f3
  have F6:Hid _:=f6
  have F10:Hid _:=f10
  have F0:Hid _:=f0
  subst h0
  clear HBD hBD hd3 hi0 f3 f6 f10 f0 HF
  have hsR:(Tryz.prog.info? 102).map (·.size)=some (rndC rs).length:=by rw [rndC_length hwel h4];exact sz_rounds
  cases hV:inB value 0 1 with
  | false=>
   have E1:Hid (D=3∧E=ine0):=F3.out hV
   clear F3 F6 F10 F0 hin B2 HB9 hsR
   have Rr:=Rb2.row #[.int .i64 3,.int .i64 0,.bool false,.bool false,.int .i64 0,.bool false,.slice none 0 0,.slice none 0 0,.slice none 0 0]
   have hBr:=below_row hB2 (g:=w.heap.size + 1) (by omega) #[.int .i64 3,.int .i64 0,.bool false,.bool false,.int .i64 0,.bool false,.slice none 0 0,.slice none 0 0,.slice none 0 0]
   have hsr:(Tryz.prog.info? 34).map (·.size)=some (#[.int .i64 3,.int .i64 0,.bool false,.bool false,.int .i64 0,.bool false,.slice none 0 0,.slice none 0 0,.slice none 0 0]:Array Value).size:=sz_res
   go_wp2_with (first | (refine st_row (by kernel_rfl) 104 _ _ rfl _ BD.toArray rfl rfl 104 _ Bz hszB hold hone ?_) | (go_at_call 68;refine (within_any _ _ _ _).mono ?_;rintro e w' ⟨rfl,rfl⟩) | (refine st_row (by kernel_rfl) 34 _ _ rfl _ #[.int .i64 3,.int .i64 0,.bool false,.bool false,.int .i64 0,.bool false,.slice none 0 0,.slice none 0 0,.slice none 0 0] rfl rfl 34 _ Rb2 hsr rfl (by simp [Value.oneCell']) ?_))
   have q0:=Rr.cell 0 _ rfl
   have q1:=Rr.cell 1 _ rfl
   have q2:=Rr.cell 2 _ rfl
   have q3:=Rr.cell 3 _ rfl
   have q4:=Rr.cell 4 _ rfl
   have q5:=Rr.cell 5 _ rfl
   have q6:=Rr.cell 6 _ rfl
   have q7:=Rr.cell 7 _ rfl
   have q8:=Rr.cell 8 _ rfl
   exact bodyPost_ret (v:=.agg #[.int .i64 3,.int .i64 0,.bool false,.bool false,.int .i64 0,.bool false,.slice none 0 0,.slice none 0 0,.slice none 0 0]) (by simp [results,Tryz.results12,go_sem,q0,q1,q2,q3,q4,q5,q6,q7,q8]) rfl ⟨inst0,by rw [E1.out.1];rfl,E1.out.2.symm,inst0_own _,inst0_nd,fun k hk=>by rw [inst0_ft] at hk;simp at hk,hBr⟩

  | true=>
   have RGR:=rng B2 (rndC rs) (o:=0) (fun j v hv=>by
    have hj:=(List.getElem?_eq_some_iff.1 hv).1
    rw [rndC_length hwel h4] at hj
    rw [Nat.zero_add,List.getElem?_toArray,HB9.out,brd_rnd hwel h4 j hj]
    exact hv)
   have hhr:∀ b,(repA rs 0 n != 3)=b→∀ w,Calls Tryz.prog 69 #[.agg (rndC rs).toArray,.int .i64 0,.int .i64 (n:Int)] w fun e w' => e=.returned (.bool b)∧Below w.heap.size w w' := fun b hb w=>by
    have:=hasReport_any rs 0 n w hwel h4 hn
    rw [hb,decide_eq_true hr,Bool.true_and] at this
    exact this
   go_wp2_with (first | (refine st_row (by kernel_rfl) 104 _ _ rfl _ BD.toArray rfl rfl 104 _ Bz hszB hold hone ?_) | (refine ld_g (by kernel_rfl) 102 _ rfl _ _ rfl (rndC rs) _ RGR Tryz.underlying102 rfl hsR ?_) | (go_at_call 68;refine (within_any _ _ _ _).mono ?_;rintro e w' ⟨rfl,rfl⟩))
   generalize ((w1.alloc (.cells #[.int .i64 0,.int .i64 0,.int .i64 0,.int .i64 0,.int .i64 0,.int .i64 0,.int .i64 0,.int .i64 0,.int .i64 0,.int .i64 0,.int .i64 0,.int .i64 0,.int .i64 0,.int .i64 0,.int .i64 0,.int .i64 0,.int .i64 0,.int .i64 0,.int .i64 0,.int .i64 0,.int .i64 0,.int .i64 0,.int .i64 0,.int .i64 0,.int .i64 0,.bool false,.slice none 0 0,.int .i64 0,.int .i64 0,.int .i64 0] 104)).setRow w1.heap.size BD.toArray)=X at *
   clear RGR Bz
   by_cases hp4:repA rs 0 n=3
   case neg=>
    have E1:Hid (D=6∧E=ine0):=F6.out hV hp4
    refine (hhr true (by simpa using hp4) X).mono ?_
    rintro e w3 ⟨rfl,hb3⟩
    replace Rb2:=Rb2.below hb3
    replace hB2:=hB2.trans (hb3.mono hB2.size)
    clear F3 F6 F10 F0 hp4 hin B2 HB9 hsR hhr hb3
    have Rr:=Rb2.row #[.int .i64 6,.int .i64 0,.bool false,.bool false,.int .i64 0,.bool false,.slice none 0 0,.slice none 0 0,.slice none 0 0]
    have hBr:=below_row hB2 (g:=w.heap.size + 1) (by omega) #[.int .i64 6,.int .i64 0,.bool false,.bool false,.int .i64 0,.bool false,.slice none 0 0,.slice none 0 0,.slice none 0 0]
    have hsr:(Tryz.prog.info? 34).map (·.size)=some (#[.int .i64 6,.int .i64 0,.bool false,.bool false,.int .i64 0,.bool false,.slice none 0 0,.slice none 0 0,.slice none 0 0]:Array Value).size:=sz_res
    go_wp2_with (first | (refine st_row (by kernel_rfl) 34 _ _ rfl _ #[.int .i64 6,.int .i64 0,.bool false,.bool false,.int .i64 0,.bool false,.slice none 0 0,.slice none 0 0,.slice none 0 0] rfl rfl 34 _ Rb2 hsr rfl (by simp [Value.oneCell']) ?_))
    have q0:=Rr.cell 0 _ rfl
    have q1:=Rr.cell 1 _ rfl
    have q2:=Rr.cell 2 _ rfl
    have q3:=Rr.cell 3 _ rfl
    have q4:=Rr.cell 4 _ rfl
    have q5:=Rr.cell 5 _ rfl
    have q6:=Rr.cell 6 _ rfl
    have q7:=Rr.cell 7 _ rfl
    have q8:=Rr.cell 8 _ rfl
    exact bodyPost_ret (v:=.agg #[.int .i64 6,.int .i64 0,.bool false,.bool false,.int .i64 0,.bool false,.slice none 0 0,.slice none 0 0,.slice none 0 0]) (by simp [results,Tryz.results12,go_sem,q0,q1,q2,q3,q4,q5,q6,q7,q8]) rfl ⟨inst0,by rw [E1.out.1];rfl,E1.out.2.symm,inst0_own _,inst0_nd,fun k hk=>by rw [inst0_ft] at hk;simp at hk,hBr⟩

   case pos=>
    refine (hhr false (by rw [hp4];rfl) X).mono ?_
    rintro e w3 ⟨rfl,hb3⟩
    replace Rb2:=Rb2.below hb3
    replace B2:=B2.below hb3
    replace hB2:=hB2.trans (hb3.mono hB2.size)
    have c25:w3.cell? ⟨w1.heap.size,25,none⟩=some (.bool has):=B2.cell 25 _ (by rw [List.getElem?_toArray,HB9.out];exact brd_has hwel h4)
    have F1:Hid ((value=1→has=false→D=10∧E=ine0)∧(¬ (value=1∧has=false)→D=0∧E=⟨has,batch.map TxnQ.e,rstR rs 0 n value,dec⟩)):=⟨F10.out hV hp4,F0.out hV hp4⟩
    clear F3 F6 F10 F0 hp4 hhr hb3 hsR
    by_cases hbad:value=1∧has=false
    case pos=>
     obtain ⟨rfl,rfl⟩:=hbad
     have E1:Hid (D=10∧E=ine0):=F1.out.1 rfl rfl
     clear F1 hin B2 HB9
     have Rr:=Rb2.row #[.int .i64 10,.int .i64 0,.bool false,.bool false,.int .i64 0,.bool false,.slice none 0 0,.slice none 0 0,.slice none 0 0]
     have hBr:=below_row hB2 (g:=w.heap.size + 1) (by omega) #[.int .i64 10,.int .i64 0,.bool false,.bool false,.int .i64 0,.bool false,.slice none 0 0,.slice none 0 0,.slice none 0 0]
     have hsr:(Tryz.prog.info? 34).map (·.size)=some (#[.int .i64 10,.int .i64 0,.bool false,.bool false,.int .i64 0,.bool false,.slice none 0 0,.slice none 0 0,.slice none 0 0]:Array Value).size:=sz_res
     go_wp2_with (first | (refine st_row (by kernel_rfl) 34 _ _ rfl _ #[.int .i64 10,.int .i64 0,.bool false,.bool false,.int .i64 0,.bool false,.slice none 0 0,.slice none 0 0,.slice none 0 0] rfl rfl 34 _ Rb2 hsr rfl (by simp [Value.oneCell']) ?_))
     have q0:=Rr.cell 0 _ rfl
     have q1:=Rr.cell 1 _ rfl
     have q2:=Rr.cell 2 _ rfl
     have q3:=Rr.cell 3 _ rfl
     have q4:=Rr.cell 4 _ rfl
     have q5:=Rr.cell 5 _ rfl
     have q6:=Rr.cell 6 _ rfl
     have q7:=Rr.cell 7 _ rfl
     have q8:=Rr.cell 8 _ rfl
     exact bodyPost_ret (v:=.agg #[.int .i64 10,.int .i64 0,.bool false,.bool false,.int .i64 0,.bool false,.slice none 0 0,.slice none 0 0,.slice none 0 0]) (by simp [results,Tryz.results12,go_sem,q0,q1,q2,q3,q4,q5,q6,q7,q8]) rfl ⟨inst0,by rw [E1.out.1];rfl,E1.out.2.symm,inst0_own _,inst0_nd,fun k hk=>by rw [inst0_ft] at hk;simp at hk,hBr⟩

    case neg=>
     have E1:Hid (D=0∧E=⟨has,batch.map TxnQ.e,rstR rs 0 n value,dec⟩):=F1.out.2 hbad
     clear F1
     have hrp:=report_any w1.heap.size 104 rs ([.bool has,.slice ba batch.length bk] ++ dec.map iv) 0 n value w3 (hG.o.below hB2) hgo (by have:=B2;rw [HB9.out] at this;exact this) hwel h4 (by omega) (by omega) hn
     have ee:ensR rs 0=rs:=if_neg (by omega)
     rw [ee] at hrp
     change Calls Tryz.prog _ #[_,.int .i64 0,_,_] _ fun e w' => _∧Blk w' _ _ (brdC has (.slice ba batch.length bk) (rstR rs 0 n value) dec).toArray∧_ at hrp
     have hwel5:=wel_rstR hwel 0 n hr value
     have h45:(rstR rs 0 n value).length≤4:=by rw [rstR_length];exact h4
     have hcall:∀ (Q:Exit→World→Prop),True:=fun _=>trivial
     clear ee B2 HB9 hcall
     by_cases hv1:value=1
     ·have hh:has=true:=by cases has with | true=>rfl | false=>exact absurd ⟨hv1,rfl⟩ hbad
      subst hv1 hh
      clear hbad
      go_wp2_with fail
      clear c25
      refine hrp.mono ?_
      rintro e X5 ⟨rfl,B5,hU5⟩
      have R3:Blk X5 (w.heap.size + 1) 34 _:=(hU5.block _ Rb2.lt (by simp only [List.mem_singleton];omega)).trans Rb2
      have hBg:=Out.keep hB2 hU5 hB2.size (fun k hk=>by simp only [List.mem_singleton] at hk;omega)
      clear Rb2 hB2 hU5 hrp
      have X4:=rng B5 (brdC true (.slice ba batch.length bk) (rstR rs 0 n 1) dec) (o:=0) (fun j v hv=>by rw [Nat.zero_add,List.getElem?_toArray];exact hv)
      have hs30:(Tryz.prog.info? 104).map (·.size)=some (brdC true (.slice ba batch.length bk) (rstR rs 0 n 1) dec).length:=by rw [brdC_length hwel5 h45 HD5.out];exact sz_board
      clear B5
      go_wp2_with (first | (refine ld_g (by kernel_rfl) 104 _ rfl _ _ rfl (brdC true (.slice ba batch.length bk) (rstR rs 0 n 1) dec) _ X4 Tryz.underlying104 rfl hs30 ?_))
      clear X4 hs30
      refine (hin H0.out (rstR rs 0 n 1) dec X5 (hTx.below hBg) hwel5 h45 HD5.out).mono ?_
      rintro e w7 ⟨q,rfl,eq,oq,nq,gq,hb7⟩
      have R5:=R3.below hb7
      have hR5:=R3.lt
      have L5:∀ k∈instK.foot q,w.heap.size + 2≤k:=fun k hk=>by have:=gq k hk;omega
      replace hBg:=hBg.trans (hb7.mono hBg.size)
      clear hin gq hb7 R3
      have hous:∀ cs,instK.own (w7.setRow (w.heap.size + 1) cs) q:=fun cs=>instK.own_out oq (out_row w7 (w.heap.size + 1) cs) (fun k hk=>by have:=L5 k hk;simp only [List.mem_singleton];omega)
      have HQ:Hid (q.e=E∧(instK.foot q).Nodup∧(∀ k∈instK.foot q,w.heap.size≤k)∧∀ cs,instK.own (w7.setRow (w.heap.size + 1) cs) q):=⟨by rw [eq,E1.out.2],nq,fun k hk=>by have:=L5 k hk;omega,hous⟩
      have HD0:Hid (D=0):=E1.out.1
      clear E1 eq nq hous L5
      obtain ⟨qh,qb,qbs,qr,qrs,qd,qds⟩:=q
      obtain ⟨s1,t1,rfl⟩:∃ a c,qb=.slice a qbs.length c:=oq.1.shape
      obtain ⟨s2,t2,rfl⟩:∃ a c,qr=.slice a qrs.length c:=oq.2.1.shape
      obtain ⟨s3,t3,rfl⟩:∃ a c,qd=.slice a qds.length c:=oq.2.2.shape
      have Rr:=R5.row #[.int .i64 0,.int .i64 0,.bool false,.bool false,.int .i64 0,.bool qh,.slice s1 qbs.length t1,.slice s2 qrs.length t2,.slice s3 qds.length t3]
      have hBr:=below_row hBg (g:=w.heap.size + 1) (by omega) #[.int .i64 0,.int .i64 0,.bool false,.bool false,.int .i64 0,.bool qh,.slice s1 qbs.length t1,.slice s2 qrs.length t2,.slice s3 qds.length t3]
      have hsr:(Tryz.prog.info? 34).map (·.size)=some (#[.int .i64 0,.int .i64 0,.bool false,.bool false,.int .i64 0,.bool qh,.slice s1 qbs.length t1,.slice s2 qrs.length t2,.slice s3 qds.length t3]:Array Value).size:=sz_res
      clear oq
      go_wp2_with (first | (refine st_row (by kernel_rfl) 34 _ _ rfl _ #[.int .i64 0,.int .i64 0,.bool false,.bool false,.int .i64 0,.bool qh,.slice s1 qbs.length t1,.slice s2 qrs.length t2,.slice s3 qds.length t3] rfl rfl 34 _ R5 hsr rfl (by simp [Value.oneCell']) ?_))
      have q0:=Rr.cell 0 _ rfl
      have q1:=Rr.cell 1 _ rfl
      have q2:=Rr.cell 2 _ rfl
      have q3:=Rr.cell 3 _ rfl
      have q4:=Rr.cell 4 _ rfl
      have q5:=Rr.cell 5 _ rfl
      have q6:=Rr.cell 6 _ rfl
      have q7:=Rr.cell 7 _ rfl
      have q8:=Rr.cell 8 _ rfl
      exact bodyPost_ret (v:=.agg #[.int .i64 0,.int .i64 0,.bool false,.bool false,.int .i64 0,.bool qh,.slice s1 qbs.length t1,.slice s2 qrs.length t2,.slice s3 qds.length t3]) (by simp [results,Tryz.results12,go_sem,q0,q1,q2,q3,q4,q5,q6,q7,q8]) rfl ⟨⟨qh,.slice s1 qbs.length t1,qbs,.slice s2 qrs.length t2,qrs,.slice s3 qds.length t3,qds⟩,by rw [HD0.out],HQ.out.1,HQ.out.2.2.2 _,HQ.out.2.1,HQ.out.2.2.1,hBr⟩

     ·have hv1' : (value == 1)=false:=by simpa using hv1
      clear hbad hv1
      go_wp2_with fail
      clear c25 hv1'
      refine hrp.mono ?_
      rintro e X5 ⟨rfl,B5,hU5⟩
      have R3:Blk X5 (w.heap.size + 1) 34 _:=(hU5.block _ Rb2.lt (by simp only [List.mem_singleton];omega)).trans Rb2
      have hBg:=Out.keep hB2 hU5 hB2.size (fun k hk=>by simp only [List.mem_singleton] at hk;omega)
      clear Rb2 hB2 hU5 hrp
      have X4:=rng B5 (brdC has (.slice ba batch.length bk) (rstR rs 0 n value) dec) (o:=0) (fun j v hv=>by rw [Nat.zero_add,List.getElem?_toArray];exact hv)
      have hs30:(Tryz.prog.info? 104).map (·.size)=some (brdC has (.slice ba batch.length bk) (rstR rs 0 n value) dec).length:=by rw [brdC_length hwel5 h45 HD5.out];exact sz_board
      clear B5
      go_wp2_with (first | (refine ld_g (by kernel_rfl) 104 _ rfl _ _ rfl (brdC has (.slice ba batch.length bk) (rstR rs 0 n value) dec) _ X4 Tryz.underlying104 rfl hs30 ?_))
      clear X4 hs30
      refine (hin H0.out (rstR rs 0 n value) dec X5 (hTx.below hBg) hwel5 h45 HD5.out).mono ?_
      rintro e w7 ⟨q,rfl,eq,oq,nq,gq,hb7⟩
      have R5:=R3.below hb7
      have hR5:=R3.lt
      have L5:∀ k∈instK.foot q,w.heap.size + 2≤k:=fun k hk=>by have:=gq k hk;omega
      replace hBg:=hBg.trans (hb7.mono hBg.size)
      clear hin gq hb7 R3
      have hous:∀ cs,instK.own (w7.setRow (w.heap.size + 1) cs) q:=fun cs=>instK.own_out oq (out_row w7 (w.heap.size + 1) cs) (fun k hk=>by have:=L5 k hk;simp only [List.mem_singleton];omega)
      have HQ:Hid (q.e=E∧(instK.foot q).Nodup∧(∀ k∈instK.foot q,w.heap.size≤k)∧∀ cs,instK.own (w7.setRow (w.heap.size + 1) cs) q):=⟨by rw [eq,E1.out.2],nq,fun k hk=>by have:=L5 k hk;omega,hous⟩
      have HD0:Hid (D=0):=E1.out.1
      clear E1 eq nq hous L5
      obtain ⟨qh,qb,qbs,qr,qrs,qd,qds⟩:=q
      obtain ⟨s1,t1,rfl⟩:∃ a c,qb=.slice a qbs.length c:=oq.1.shape
      obtain ⟨s2,t2,rfl⟩:∃ a c,qr=.slice a qrs.length c:=oq.2.1.shape
      obtain ⟨s3,t3,rfl⟩:∃ a c,qd=.slice a qds.length c:=oq.2.2.shape
      have Rr:=R5.row #[.int .i64 0,.int .i64 0,.bool false,.bool false,.int .i64 0,.bool qh,.slice s1 qbs.length t1,.slice s2 qrs.length t2,.slice s3 qds.length t3]
      have hBr:=below_row hBg (g:=w.heap.size + 1) (by omega) #[.int .i64 0,.int .i64 0,.bool false,.bool false,.int .i64 0,.bool qh,.slice s1 qbs.length t1,.slice s2 qrs.length t2,.slice s3 qds.length t3]
      have hsr:(Tryz.prog.info? 34).map (·.size)=some (#[.int .i64 0,.int .i64 0,.bool false,.bool false,.int .i64 0,.bool qh,.slice s1 qbs.length t1,.slice s2 qrs.length t2,.slice s3 qds.length t3]:Array Value).size:=sz_res
      clear oq
      go_wp2_with (first | (refine st_row (by kernel_rfl) 34 _ _ rfl _ #[.int .i64 0,.int .i64 0,.bool false,.bool false,.int .i64 0,.bool qh,.slice s1 qbs.length t1,.slice s2 qrs.length t2,.slice s3 qds.length t3] rfl rfl 34 _ R5 hsr rfl (by simp [Value.oneCell']) ?_))
      have q0:=Rr.cell 0 _ rfl
      have q1:=Rr.cell 1 _ rfl
      have q2:=Rr.cell 2 _ rfl
      have q3:=Rr.cell 3 _ rfl
      have q4:=Rr.cell 4 _ rfl
      have q5:=Rr.cell 5 _ rfl
      have q6:=Rr.cell 6 _ rfl
      have q7:=Rr.cell 7 _ rfl
      have q8:=Rr.cell 8 _ rfl
      exact bodyPost_ret (v:=.agg #[.int .i64 0,.int .i64 0,.bool false,.bool false,.int .i64 0,.bool qh,.slice s1 qbs.length t1,.slice s2 qrs.length t2,.slice s3 qds.length t3]) (by simp [results,Tryz.results12,go_sem,q0,q1,q2,q3,q4,q5,q6,q7,q8]) rfl ⟨⟨qh,.slice s1 qbs.length t1,qbs,.slice s2 qrs.length t2,qrs,.slice s3 qds.length t3,qds⟩,by rw [HD0.out],HQ.out.1,HQ.out.2.2.2 _,HQ.out.2.1,HQ.out.2.2.1,hBr⟩

end Go.Proofs.YtpjmlidbligcbaaGreatDoor
