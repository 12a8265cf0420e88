/- Texts joined, with what the laws reach alone. -/
import Derived.Test.YtpmkhnakgeillaaGreatDoorSNAK
set_option linter.unusedVariables false
set_option linter.unusedSimpArgs false
namespace Go.Proofs.YtpmkhnakgeillaaGreatDoor
open Go.RowKit
open Go.BigFrame
set_option maxRecDepth 100000
set_option maxHeartbeats 4000000 in
theorem formFault_any (p:InstQ) (w:World) (h:instK.rd w p) (hl:p.n≤1048576) :
  Calls Tryz.prog 238 #[.agg #[.bool p.has,p.vb,p.vr,p.vd]] w fun e w' => e=.returned (.int .i64 (shpF p.e))∧Below w.heap.size w w' := by
 obtain ⟨has,vb,batch,vr,rounds,vd,dec⟩:=p
 dsimp only [InstQ.n] at hl
 have HE:Hid (shpF (InstQ.e ⟨has,vb,batch,vr,rounds,vd,dec⟩)=if has=false∧0 < (batch.map TxnQ.e).length then 1 else
  if has=true∧batF (batch.map TxnQ.e)≠0 then batF (batch.map TxnQ.e) else
  if (rounds.map RoundQ.e).length < 1∨4 < (rounds.map RoundQ.e).length then 2 else
  if rndsF (rounds.map RoundQ.e)=0 then vf dec 1 else rndsF (rounds.map RoundQ.e)):=by
  exact (rfl:shpF _=_)
 generalize shpF (InstQ.e ⟨has,vb,batch,vr,rounds,vd,dec⟩)=E at HE ⊢
 obtain ⟨hT,hR,hD⟩:txnK.At w vb batch∧roundK.At w vr rounds∧intK.At w vd dec:=h
 obtain ⟨ba,bk,rfl⟩:=hT.shape
 obtain ⟨va,vk,rfl⟩:=hR.shape
 obtain ⟨da,dk,rfl⟩:=hD.shape
 have hv:=fun w h=>batchFault_any (.slice ba batch.length bk) (batch.map TxnQ.e) w h (by rw [List.length_map,sumA_of];omega)
 have hB:Below w.heap.size w (w.alloc (.cells #[.bool has,.slice ba batch.length bk,.slice va rounds.length vk,.slice da dec.length dk] 117)):=by go_grown
 have Bx:=Blk.new w 117 #[.bool has,.slice ba batch.length bk,.slice va rounds.length vk,.slice da dec.length dk]
 replace hT:=hT.below hB
 replace hR:=hR.below hB
 replace hD:=hD.below hB
 cases has with
 | false=>
  by_cases h0:0 < batch.length
  ·have E1:Hid (E=1):=by rw [HE.out,if_pos ⟨rfl,by simpa using h0⟩];rfl
   clear HE hv
   go_enter Tryz.func238,Tryz.ntmps238
   go_wp2
   go_ret
   exact ⟨by rw [E1.out];rfl,hB⟩
  ·have HS:Hid (E=if (rounds.map RoundQ.e).length < 1∨4 < (rounds.map RoundQ.e).length then 2 else if rndsF (rounds.map RoundQ.e)=0 then vf dec 1 else rndsF (rounds.map RoundQ.e)):=by
    have:=HE.out
    rw [if_neg (fun h=>h0 (by simpa using h.2)),if_neg (by simp)] at this
    exact this
   clear HE hv
   have h0' : ¬ (0:Int) < batch.length:=by omega
   go_enter Tryz.func238,Tryz.ntmps238
   by_cases hr1:rounds.length < 1
   ·have E2:Hid (E=2):=by rw [HS.out,if_pos (Or.inl (by simpa using hr1))];rfl
    clear HS
    go_wp2
    go_ret
    exact ⟨by rw [E2.out];rfl,hB⟩
   ·by_cases hr4:4 < rounds.length
    ·have E2:Hid (E=2):=by rw [HS.out,if_pos (Or.inr (by simpa using hr4))];rfl
     clear HS
     go_wp2
     go_ret
     exact ⟨by rw [E2.out];rfl,hB⟩
    ·have HS2:Hid (E=if rndsF (rounds.map RoundQ.e)=0 then vf dec 1 else rndsF (rounds.map RoundQ.e)):=by
      have:=HS.out
      rw [if_neg (by simp only [List.length_map];omega)] at this
      exact this
     have hr1' : ¬ (rounds.length:Int) < 1:=by omega
     have hr4' : ¬ (4:Int) < rounds.length:=by omega
     clear HS hr1 hr4
     go_wp2
     generalize (w.alloc (.cells #[.bool false,.slice ba batch.length bk,.slice va rounds.length vk,.slice da dec.length dk] 117))=W at *
     go_loopw [38] (fun j wr=>∃ k:Nat,k≤rounds.length∧j=.int .i64 k∧Hid (∀ j,j < k→vf ((rounds.map RoundQ.e).getD j rnd0).rep 1=0∧vf ((rounds.map RoundQ.e).getD j rnd0).pro 2=0)∧Below W.heap.size W wr) (fun j _=>rounds.length - (intOf j).toNat)
     case atStart=>exact ⟨0,Nat.zero_le _,rfl,fun j hj=>absurd hj (Nat.not_lt_zero _),Below.refl _ _⟩
     case round=>
      obtain ⟨k,hk,rfl,HA,hb⟩:=hrel
      have hBr:=hB.trans (hb.mono hB.size)
      by_cases hlt:k < rounds.length
      ·obtain ⟨rb,ro,rfl,hbs,hc,hrd⟩:=(hR.below hb).cell (by decide) k hlt
       have hc' : ∀ j x,(roundK.cells rounds[k])[j]? = some x→wr.cell? ⟨rb,ro + k * 2 + j,none⟩=some x:=hc
       have r0:=hc' 0 (rounds[k].vr) rfl
       have r1:=hc' 1 (rounds[k].vp) rfl
       have hnm:=nmR_le rounds k hlt
       have hfst:=rndsF_first (rounds.map RoundQ.e) k HA.out (by simpa using hlt)
       rw [rnd_at rounds k hlt] at hfst
       dsimp only [RoundQ.e] at hfst
       have HF1:Hid (vf rounds[k].rep 1≠0→E=vf rounds[k].rep 1):=fun h=>by rw [HS2.out,hfst.1 h,if_neg h]
       have HF2:Hid (vf rounds[k].rep 1=0→vf rounds[k].pro 2≠0→E=vf rounds[k].pro 2):=fun h h2=>by rw [HS2.out,hfst.2 h h2,if_neg h2]
       have HN:Hid (vf rounds[k].rep 1=0→vf rounds[k].pro 2=0→∀ j,j < k + 1→vf ((rounds.map RoundQ.e).getD j rnd0).rep 1=0∧vf ((rounds.map RoundQ.e).getD j rnd0).pro 2=0):=by
        intro h1 h2 j hj
        by_cases hjk:j=k
        ·subst hjk
         rw [rnd_at rounds j hlt]
         exact ⟨h1,h2⟩
        ·exact HA.out j (by omega)
       clear HA hfst hc hc'
       generalize rounds[k]=q at *
       obtain ⟨qv,qr,qw,qp⟩:=q
       obtain ⟨rA,rP⟩:intK.At wr qv qr∧intK.At wr qw qp:=hrd
       dsimp only at *
       obtain ⟨ra,rk,rfl⟩:=rA.shape
       obtain ⟨pa,pk,rfl⟩:=rP.shape
       have hbn:Below wr.heap.size wr (wr.alloc (.cells #[.slice ra qr.length rk,.slice pa qp.length pk] 204)):=by go_grown
       have hBn:=hb.alloc hb.size (.cells #[.slice ra qr.length rk,.slice pa qp.length pk] 204)
       have hBr:=hBr.alloc hBr.size (.cells #[.slice ra qr.length rk,.slice pa qp.length pk] 204)
       have Bx:=Blk.new wr 204 #[.slice ra qr.length rk,.slice pa qp.length pk]
       have hv1:=votesFault_any ra rk qr 1 _ (intK_at (rA.below hbn)).2 (by omega)
       have hv2:=votesFault_any pa pk qp 2 _ (intK_at (rP.below hbn)).2 (by omega)
       rw [vfa1] at hv1
       rw [vfa2] at hv2
       rw [Nat.add_zero] at r0
       clear rA rP hbn
       go_wp2_with fail
       generalize wr.alloc (.cells #[.slice ra qr.length rk,.slice pa qp.length pk] 204)=X at *
       refine hv1.mono ?_
       rintro e w2 ⟨rfl,hw⟩
       replace hw:=hw.symm
       subst hw
       clear hv1 r0 r1
       by_cases h1:vf qr 1=0
       ·have HF:Hid (vf qp 2≠0→E=vf qp 2):=HF2.out h1
        have HM:Hid (vf qp 2=0→_):=HN.out h1
        rw [h1]
        clear HF1 HF2 HN h1
        have p1:=Bx.cell 1 _ rfl
        go_wp2_with fail
        refine hv2.mono ?_
        rintro e w2 ⟨rfl,hw⟩
        replace hw:=hw.symm
        subst hw
        clear hv2 p1 Bx
        by_cases h2:vf qp 2=0
        ·have R:=HM.out h2
         have HR:Hid _:=R
         rw [h2]
         clear HF HM R h2
         go_wp2
         go_roundw
         case rel=>exact ⟨k + 1,by omega,by go_num,HR.out,hBn⟩
         case measure=>simp [intOf];omega
        ·have E2:Hid (E=vf qp 2):=HF.out h2
         have h2' : (vf qp 2 != 0)=true:=by simpa using h2
         clear HF HM h2
         generalize vf qp 2=r at *
         go_wp2
         go_ret
         exact ⟨by rw [E2.out];rfl,hBr⟩
       ·have E2:Hid (E=vf qr 1):=HF1.out h1
        have h1' : (vf qr 1 != 0)=true:=by simpa using h1
        clear HF1 HF2 HN h1 hv2
        generalize vf qr 1=r at *
        go_wp2
        go_ret
        exact ⟨by rw [E2.out];rfl,hBr⟩
      ·have hkl:k=rounds.length:=by omega
       subst hkl
       have E2:Hid (E=vf dec 1):=by
        have:=HS2.out
        rw [if_pos (rndsF_none _ (by simpa using HA.out))] at this
        exact this
       have Br:=Bx.below hb
       have c3:=Br.cell 3 _ rfl
       have hv1:=votesFault_any da dk dec 1 wr (intK_at (hD.below hb)).2 (by omega)
       rw [vfa1] at hv1
       clear HA HS2
       go_wp2_with fail
       refine hv1.mono ?_
       rintro e w2 ⟨rfl,hw⟩
       replace hw:=hw.symm
       subst hw
       generalize vf dec 1=r at *
       clear hv1 c3
       go_wp2
       go_ret
       exact ⟨by rw [E2.out];rfl,hBr⟩
 | true=>
  go_enter Tryz.func238,Tryz.ntmps238
  go_wp2_with fail
  generalize w.alloc (.cells #[.bool true,.slice ba batch.length bk,.slice va rounds.length vk,.slice da dec.length dk] 117)=W at *
  refine (hv W (txnsAt_of hT)).mono ?_
  rintro e w1 ⟨rfl,hb1⟩
  replace hR:=hR.below hb1
  replace hD:=hD.below hb1
  replace Bx:=Bx.below hb1
  replace hB:=hB.trans (hb1.mono hB.size)
  clear hv hb1 hT
  by_cases h1:batF (batch.map TxnQ.e)=0
  ·have HS:Hid (E=if (rounds.map RoundQ.e).length < 1∨4 < (rounds.map RoundQ.e).length then 2 else if rndsF (rounds.map RoundQ.e)=0 then vf dec 1 else rndsF (rounds.map RoundQ.e)):=by
    have:=HE.out
    rw [if_neg (by simp),if_neg (fun h=>h.2 h1)] at this
    exact this
   rw [h1]
   clear HE h1
   by_cases hr1:rounds.length < 1
   ·have E2:Hid (E=2):=by rw [HS.out,if_pos (Or.inl (by simpa using hr1))];rfl
    clear HS
    have c0:=Bx.cell 0 _ rfl
    have c1:=Bx.cell 1 _ rfl
    have c2:=Bx.cell 2 _ rfl
    go_wp2
    go_ret
    exact ⟨by rw [E2.out];rfl,hB⟩
   ·by_cases hr4:4 < rounds.length
    ·have E2:Hid (E=2):=by rw [HS.out,if_pos (Or.inr (by simpa using hr4))];rfl
     clear HS
     have c0:=Bx.cell 0 _ rfl
     have c1:=Bx.cell 1 _ rfl
     have c2:=Bx.cell 2 _ rfl
     go_wp2
     go_ret
     exact ⟨by rw [E2.out];rfl,hB⟩
    ·have HS2:Hid (E=if rndsF (rounds.map RoundQ.e)=0 then vf dec 1 else rndsF (rounds.map RoundQ.e)):=by
      have:=HS.out
      rw [if_neg (by simp only [List.length_map];omega)] at this
      exact this
     have hr1' : ¬ (rounds.length:Int) < 1:=by omega
     have hr4' : ¬ (4:Int) < rounds.length:=by omega
     clear HS hr1 hr4
     have c0:=Bx.cell 0 _ rfl
     have c1:=Bx.cell 1 _ rfl
     have c2:=Bx.cell 2 _ rfl
     go_wp2
     clear c0 c1 c2
     go_loopw [38] (fun j wr=>∃ k:Nat,k≤rounds.length∧j=.int .i64 k∧Hid (∀ j,j < k→vf ((rounds.map RoundQ.e).getD j rnd0).rep 1=0∧vf ((rounds.map RoundQ.e).getD j rnd0).pro 2=0)∧Below w1.heap.size w1 wr) (fun j _=>rounds.length - (intOf j).toNat)
     case atStart=>exact ⟨0,Nat.zero_le _,rfl,fun j hj=>absurd hj (Nat.not_lt_zero _),Below.refl _ _⟩
     case round=>
      obtain ⟨k,hk,rfl,HA,hb⟩:=hrel
      have hBr:=hB.trans (hb.mono hB.size)
      by_cases hlt:k < rounds.length
      ·obtain ⟨rb,ro,rfl,hbs,hc,hrd⟩:=(hR.below hb).cell (by decide) k hlt
       have hc' : ∀ j x,(roundK.cells rounds[k])[j]? = some x→wr.cell? ⟨rb,ro + k * 2 + j,none⟩=some x:=hc
       have r0:=hc' 0 (rounds[k].vr) rfl
       have r1:=hc' 1 (rounds[k].vp) rfl
       have hnm:=nmR_le rounds k hlt
       have hfst:=rndsF_first (rounds.map RoundQ.e) k HA.out (by simpa using hlt)
       rw [rnd_at rounds k hlt] at hfst
       dsimp only [RoundQ.e] at hfst
       have HF1:Hid (vf rounds[k].rep 1≠0→E=vf rounds[k].rep 1):=fun h=>by rw [HS2.out,hfst.1 h,if_neg h]
       have HF2:Hid (vf rounds[k].rep 1=0→vf rounds[k].pro 2≠0→E=vf rounds[k].pro 2):=fun h h2=>by rw [HS2.out,hfst.2 h h2,if_neg h2]
       have HN:Hid (vf rounds[k].rep 1=0→vf rounds[k].pro 2=0→∀ j,j < k + 1→vf ((rounds.map RoundQ.e).getD j rnd0).rep 1=0∧vf ((rounds.map RoundQ.e).getD j rnd0).pro 2=0):=by
        intro h1 h2 j hj
        by_cases hjk:j=k
        ·subst hjk
         rw [rnd_at rounds j hlt]
         exact ⟨h1,h2⟩
        ·exact HA.out j (by omega)
       clear HA hfst hc hc'
       generalize rounds[k]=q at *
       obtain ⟨qv,qr,qw,qp⟩:=q
       obtain ⟨rA,rP⟩:intK.At wr qv qr∧intK.At wr qw qp:=hrd
       dsimp only at *
       obtain ⟨ra,rk,rfl⟩:=rA.shape
       obtain ⟨pa,pk,rfl⟩:=rP.shape
       have hbn:Below wr.heap.size wr (wr.alloc (.cells #[.slice ra qr.length rk,.slice pa qp.length pk] 204)):=by go_grown
       have hBn:=hb.alloc hb.size (.cells #[.slice ra qr.length rk,.slice pa qp.length pk] 204)
       have hBr:=hBr.alloc hBr.size (.cells #[.slice ra qr.length rk,.slice pa qp.length pk] 204)
       have Bx:=Blk.new wr 204 #[.slice ra qr.length rk,.slice pa qp.length pk]
       have hv1:=votesFault_any ra rk qr 1 _ (intK_at (rA.below hbn)).2 (by omega)
       have hv2:=votesFault_any pa pk qp 2 _ (intK_at (rP.below hbn)).2 (by omega)
       rw [vfa1] at hv1
       rw [vfa2] at hv2
       rw [Nat.add_zero] at r0
       clear rA rP hbn
       go_wp2_with fail
       generalize wr.alloc (.cells #[.slice ra qr.length rk,.slice pa qp.length pk] 204)=X at *
       refine hv1.mono ?_
       rintro e w2 ⟨rfl,hw⟩
       replace hw:=hw.symm
       subst hw
       clear hv1 r0 r1
       by_cases h1:vf qr 1=0
       ·have HF:Hid (vf qp 2≠0→E=vf qp 2):=HF2.out h1
        have HM:Hid (vf qp 2=0→_):=HN.out h1
        rw [h1]
        clear HF1 HF2 HN h1
        have p1:=Bx.cell 1 _ rfl
        go_wp2_with fail
        refine hv2.mono ?_
        rintro e w2 ⟨rfl,hw⟩
        replace hw:=hw.symm
        subst hw
        clear hv2 p1 Bx
        by_cases h2:vf qp 2=0
        ·have R:=HM.out h2
         have HR:Hid _:=R
         rw [h2]
         clear HF HM R h2
         go_wp2
         go_roundw
         case rel=>exact ⟨k + 1,by omega,by go_num,HR.out,hBn⟩
         case measure=>simp [intOf];omega
        ·have E2:Hid (E=vf qp 2):=HF.out h2
         have h2' : (vf qp 2 != 0)=true:=by simpa using h2
         clear HF HM h2
         generalize vf qp 2=r at *
         go_wp2
         go_ret
         exact ⟨by rw [E2.out];rfl,hBr⟩
       ·have E2:Hid (E=vf qr 1):=HF1.out h1
        have h1' : (vf qr 1 != 0)=true:=by simpa using h1
        clear HF1 HF2 HN h1 hv2
        generalize vf qr 1=r at *
        go_wp2
        go_ret
        exact ⟨by rw [E2.out];rfl,hBr⟩
      ·have hkl:k=rounds.length:=by omega
       subst hkl
       have E2:Hid (E=vf dec 1):=by
        have:=HS2.out
        rw [if_pos (rndsF_none _ (by simpa using HA.out))] at this
        exact this
       have Br:=Bx.below hb
       have c3:=Br.cell 3 _ rfl
       have hv1:=votesFault_any da dk dec 1 wr (intK_at (hD.below hb)).2 (by omega)
       rw [vfa1] at hv1
       clear HA HS2
       go_wp2_with fail
       refine hv1.mono ?_
       rintro e w2 ⟨rfl,hw⟩
       replace hw:=hw.symm
       subst hw
       generalize vf dec 1=r at *
       clear hv1 c3
       go_wp2
       go_ret
       exact ⟨by rw [E2.out];rfl,hBr⟩
  ·have E1:Hid (E=batF (batch.map TxnQ.e)):=by
    have:=HE.out
    rw [if_neg (by simp),if_pos ⟨by simp,h1⟩] at this
    exact this
   have h1' : (batF (batch.map TxnQ.e) != 0)=true:=by simpa using h1
   clear HE h1
   generalize batF (batch.map TxnQ.e)=r at *
   go_wp2
   go_ret
   exact ⟨by rw [E1.out];rfl,hB⟩

end Go.Proofs.YtpmkhnakgeillaaGreatDoor
namespace Go.Proofs.YtpmkhnakgeillaaGreatDoor
open Go.RowKit
open Go.BigFrame
set_option maxRecDepth 100000
/-- No board. -/
def brd0:List Value:=brdC false (.slice none 0 0) [] [0,0,0]

/-- An answer of two: the first one lies in a block. -/
theorem results_two {fn:Func} {p q:Tmp} {ty:TypeId} (h:fn.results=#[.cell p ty,.tmp q]) (tmps:Array Value) (w:World) (g:Nat) (cs:Array Value) (v:Value)
  (hp:tmps.getD p undef=.pointer (some ⟨g,0,none⟩)) (hq:tmps.getD q undef=v) (hld:(loadVar ty ⟨g,0,none⟩).run Tryz.prog w=.ok (.agg cs) w) :
  (results fn tmps).run Tryz.prog w=.ok (.tuple #[.agg cs,v]) w:=by
 have hp' : tmps[p]?.getD undef=.pointer (some ⟨g,0,none⟩):=by simpa using hp
 have hq' : tmps[q]?.getD undef=v:=by simpa using hq
 simp [results,h,hp',hq',asAddr,hld]

theorem ld_brd {w:World} {g:Nat} {t:TypeId} {L:List Value} (hB:Blk w g t L.toArray) (hl:L.length=30):(loadVar 261 ⟨g,0,none⟩).run Tryz.prog w=.ok (.agg L.toArray) w:=
 run_loadVar_mid w g 0 261 L _ (rng hB L (fun j v hv=>by rw [Nat.zero_add,List.getElem?_toArray];exact hv)) Tryz.underlying261 rfl (by rw [hl];exact sz_board)

theorem wel_of {rs:List RoundE} (h:rndsF rs=0):Wel rs:=fun r hr=>by
 obtain ⟨k,hk,rfl⟩:=List.getElem_of_mem hr
 have:=rndsF_at h k hk
 have e:rs.getD k rnd0=rs[k]:=by simp [List.getD,hk]
 rw [e] at this
 exact ⟨vf_len this.1,vf_len this.2⟩

theorem wel_take {rs:List RoundE} (h:Wel rs) (k:Nat):Wel (rs.take k):=fun r hr=>h r (List.mem_of_mem_take hr)

theorem insF_I {x:InstE} (h:shpF x=0):insF x=if rgtI x then 0 else 10:=if_pos h

set_option maxHeartbeats 8000000 in
theorem boardOf_any (p:InstQ) (w:World) (hG:Rul w) (h:instK.rd w p) (hl:p.n≤1048576) :
  Calls Tryz.prog 187 #[.agg #[.bool p.has,p.vb,p.vr,p.vd]] w fun e w' => e=.returned (.tuple #[.agg (if insF p.e=0 then brdC p.has p.vb p.e.rounds p.dec else brd0).toArray,.int .i64 (insF p.e)])∧Below w.heap.size w w' := by
 have hff:=fun w h=>formFault_any p w h hl
 have hrb:=fun (w' : World) hb=>instK.rd_below (w' := w') h hb
 generalize hC:insF p.e=C
 generalize hBD:(if C=0 then brdC p.has p.vb p.e.rounds p.dec else brd0)=BD
 have HC:Hid (insF p.e=C∧(if C=0 then brdC p.has p.vb p.e.rounds p.dec else brd0)=BD):=And.intro hC hBD
 clear hC hBD
 obtain ⟨has,vb,batch,vr,rounds,vd,dec⟩:=p
 obtain ⟨hT,hR,hD⟩:txnK.At w vb batch∧roundK.At w vr rounds∧intK.At w vd dec:=h
 obtain ⟨ba,bk,rfl⟩:=hT.shape
 obtain ⟨va,vk,rfl⟩:=hR.shape
 obtain ⟨da,dk,rfl⟩:=hD.shape
 dsimp only at hff hrb
 have B:=(Blk.new w 117 #[.bool has,.slice ba batch.length bk,.slice va rounds.length vk,.slice da dec.length dk]).below (w' := (w.alloc (.cells #[.bool has,.slice ba batch.length bk,.slice va rounds.length vk,.slice da dec.length dk] 117)).alloc (.cells brd0.toArray 261)) (by go_grown)
 have Rb:=Blk.new (w.alloc (.cells #[.bool has,.slice ba batch.length bk,.slice va rounds.length vk,.slice da dec.length dk] 117)) 261 brd0.toArray
 simp only [World.size_alloc] at Rb
 have hB:Below w.heap.size w ((w.alloc (.cells #[.bool has,.slice ba batch.length bk,.slice va rounds.length vk,.slice da dec.length dk] 117)).alloc (.cells brd0.toArray 261)):=by go_grown
 have hsz0:(Tryz.prog.info? 261).map (·.size)=some brd0.toArray.size:=by kernel_rfl
 have hold0:brd0.toArray.size=brd0.toArray.size:=rfl
 have hszZ:(Tryz.prog.info? 261).map (·.size)=some (#[.int .i64 0,.int .i64 0,.int .i64 0,.int .i64 0,.int .i64 0,.int .i64 0,.int .i64 0,.int .i64 0,.int .i64 0,.int .i64 0,.int .i64 0,.int .i64 0,.int .i64 0,.int .i64 0,.int .i64 0,.int .i64 0,.int .i64 0,.int .i64 0,.int .i64 0,.int .i64 0,.int .i64 0,.int .i64 0,.int .i64 0,.int .i64 0,.int .i64 0,.bool false,.slice none 0 0,.int .i64 0,.int .i64 0,.int .i64 0]:Array Value).size:=by kernel_rfl
 have holdZ:brd0.toArray.size=(#[.int .i64 0,.int .i64 0,.int .i64 0,.int .i64 0,.int .i64 0,.int .i64 0,.int .i64 0,.int .i64 0,.int .i64 0,.int .i64 0,.int .i64 0,.int .i64 0,.int .i64 0,.int .i64 0,.int .i64 0,.int .i64 0,.int .i64 0,.int .i64 0,.int .i64 0,.int .i64 0,.int .i64 0,.int .i64 0,.int .i64 0,.int .i64 0,.int .i64 0,.bool false,.slice none 0 0,.int .i64 0,.int .i64 0,.int .i64 0]:Array Value).size:=rfl
 have honeZ:(#[.int .i64 0,.int .i64 0,.int .i64 0,.int .i64 0,.int .i64 0,.int .i64 0,.int .i64 0,.int .i64 0,.int .i64 0,.int .i64 0,.int .i64 0,.int .i64 0,.int .i64 0,.int .i64 0,.int .i64 0,.int .i64 0,.int .i64 0,.int .i64 0,.int .i64 0,.int .i64 0,.int .i64 0,.int .i64 0,.int .i64 0,.int .i64 0,.int .i64 0,.bool false,.slice none 0 0,.int .i64 0,.int .i64 0,.int .i64 0]:Array Value).all (·.oneCell')=true:=by kernel_rfl
 have hone0:brd0.toArray.all (·.oneCell')=true:=by kernel_rfl
 have hz30:#[.int .i64 0,.int .i64 0,.int .i64 0,.int .i64 0,.int .i64 0,.int .i64 0,.int .i64 0,.int .i64 0,.int .i64 0,.int .i64 0,.int .i64 0,.int .i64 0,.int .i64 0,.int .i64 0,.int .i64 0,.int .i64 0,.int .i64 0,.int .i64 0,.int .i64 0,.int .i64 0,.int .i64 0,.int .i64 0,.int .i64 0,.int .i64 0,.int .i64 0,.bool false,.slice none 0 0,.int .i64 0,.int .i64 0,.int .i64 0]=brd0.toArray:=rfl
 go_enter Tryz.func187,Tryz.ntmps187
 go_wp2_with fail
 generalize (w.alloc (.cells #[.bool has,.slice ba batch.length bk,.slice va rounds.length vk,.slice da dec.length dk] 117)).alloc (.cells brd0.toArray 261)=W at *
 refine (hff W (hrb W hB)).mono ?_
 rintro e w1 ⟨rfl,hb1⟩
 have Bx:=B.below hb1
 replace Rb:=Rb.below hb1
 replace hB:=hB.trans (hb1.mono hB.size)
 have hs1:w.heap.size + 1 < w1.heap.size:=Rb.lt
 clear hff hrb hb1 B
 by_cases h0:shpF (InstQ.e ⟨has,.slice ba batch.length bk,batch,.slice va rounds.length vk,rounds,.slice da dec.length dk,dec⟩)=0
 ·obtain ⟨⟨h1,h4⟩,hF,hDv,_,_⟩:=shp_zero h0
  have hCI:=insF_I h0
  replace hF:rndsF (rounds.map RoundQ.e)=0:=hF
  replace hDv:vf dec 1=0:=hDv
  replace h1:1≤(rounds.map RoundQ.e).length:=h1
  replace h4:(rounds.map RoundQ.e).length≤4:=h4
  rw [List.length_map] at h1 h4
  have HCI:Hid (C=if (List.range (rounds.map RoundQ.e).length).all (allS has (rounds.map RoundQ.e)) && endA (rounds.map RoundQ.e) dec then 0 else 10):=HC.out.1.symm.trans hCI
  have HBD:Hid ((if C=0 then brdC has (.slice ba batch.length bk) (rounds.map RoundQ.e) dec else brd0)=BD):=HC.out.2
  rw [h0]
  clear h0 hCI HC
  have hd3:=vf_len hDv
  obtain ⟨d0,d1,d2,rfl⟩:=three hd3
  have hDR:=(intK_at (hD.below hB)).2
  obtain ⟨db,dof,hda,_,_⟩:=hDR 0 (by simp)
  subst hda
  have hro:=fun b off cap w h h3=>rowOf_any b off cap [d0,d1,d2] w h h3
  have hroR:=fun zs b off cap w h h3=>rowOf_any b off cap zs w h h3
  have hW3:[d0,d1,d2].length=3:=rfl
  rw [hW3] at Bx
  go_wp2_with fail
  refine region_vals [some 14,some 15,some 16,some 17,some 18,some 19,some 20,some 21,some 5] (fun vs w' => ∃ g:Nat,vs=[.pointer (some ⟨w.heap.size,0,none⟩),.bool has,.pointer (some ⟨w.heap.size,1,none⟩),.slice ba batch.length bk,.pointer (some ⟨w.heap.size,3,none⟩),.slice (some ⟨db,dof,none⟩) 3 dk,.agg #[iv d0,iv d1,iv d2],.agg (brdC has (.slice ba batch.length bk) [] [d0,d1,d2]).toArray,.pointer (some ⟨g,0,none⟩)]∧w1.heap.size≤g∧Blk w' g 261 (brdC has (.slice ba batch.length bk) [] [d0,d1,d2]).toArray∧Below w1.heap.size w1 w') ?_ ?_
  ·have hW:Below w1.heap.size w1 w1.drew:=(Below.refl _ _).drew
   have hnn:Nonempty (Lat w1):=⟨⟨w1,Below.refl _ _⟩⟩
   have p0:=Bx.lat 0 _ rfl
   have p1:=Bx.lat 1 _ rfl
   have p3:=Bx.lat 3 _ rfl
   have hszB:(Tryz.prog.info? 261).map (·.size)=some (brdC has (.slice ba batch.length bk) [] [d0,d1,d2]).toArray.size:=by kernel_rfl
   have hold:brd0.toArray.size=(brdC has (.slice ba batch.length bk) [] [d0,d1,d2]).toArray.size:=rfl
   have hone:(brdC has (.slice ba batch.length bk) [] [d0,d1,d2]).toArray.all (·.oneCell')=true:=by kernel_rfl
   refine text_begin (S:=fun w' => ∃ u:Lat w1,w' = u.val) (by kernel_rfl) ?_
   refine seg_range [(0,6)] 4 (by kernel_rfl) (by kernel_rfl) (by kernel_rfl) (by kernel_rfl) (by kernel_rfl) ⟨⟨_,hW⟩,rfl⟩ ?_
   simp only [pickR,List.toList_toArray,List.flatMap_cons,List.flatMap_nil,List.drop_succ_cons,List.drop_zero,List.take_succ_cons,List.take_zero,List.cons_append,List.nil_append,List.append_nil]
   repeat go_big_quiet_step (fail)
   refine wpQuiet_nil ?_
   clear p0 p1 p3
   generalize w1.drew=wd at hW ⊢
   refine two_at 6 8 3 (by kernel_rfl) (by kernel_rfl) ?_ ?_
   ·refine op_call 6 (some 20) 239 #[.slice (some ⟨db,dof,none⟩) 3 dk] (by kernel_rfl) (by kernel_rfl) (by kernel_rfl) ?_
    refine (hro db dof dk _ (hDR.below hW) rfl).mono ?_
    rintro e w8 ⟨rfl,hb8⟩
    replace hW:=hW.trans (hb8.mono hW.size)
    clear hb8
    refine ⟨_,rfl,⟨⟨_,hW⟩,rfl⟩,?_⟩
    simp only [Act.put,List.getElem_toArray,List.getElem_cons_succ,List.getElem_cons_zero,List.setIfInBounds_toArray,List.set_cons_zero,List.set_cons_succ]
    refine quiet_at 7 (some 21) (.agg (brdC has (.slice ba batch.length bk) [] [d0,d1,d2]).toArray) 2 (by kernel_rfl) (by kernel_rfl) (by kernel_rfl) (by kernel_rfl) (by kernel_rfl) (fun u _=>by kernel_rfl) ⟨⟨_,hW⟩,rfl⟩ ?_
    simp only [Act.put,List.getElem_toArray,List.getElem_cons_succ,List.getElem_cons_zero,List.setIfInBounds_toArray,List.set_cons_zero,List.set_cons_succ]
    refine one_at 8 _ 1 (by kernel_rfl) rfl (by kernel_rfl) ?_
    have Bz:=Blk.new w8 261 brd0.toArray
    have hzz:w1.heap.size≤w8.heap.size:=hW.size
    replace hW:=hW.alloc hW.size (.cells brd0.toArray 261)
    go_wp2
    refine ThenGo.to ⟨⟨⟨_,hW⟩,rfl⟩,?_⟩
    generalize w8.alloc (.cells brd0.toArray 261)=Z8 at Bz hW ⊢
    refine one_at 9 _ 0 (by kernel_rfl) rfl (by kernel_rfl) ?_
    refine st_row (by kernel_rfl) 261 _ _ rfl _ (brdC has (.slice ba batch.length bk) [] [d0,d1,d2]).toArray rfl rfl 261 _ Bz hszB hold hone ?_
    refine ThenGo.to ⟨⟨⟨_,below_row hW hzz _⟩,rfl⟩,?_⟩
    refine text_end (by kernel_rfl) ?_
    refine ⟨rfl,_,⟨w8.heap.size,rfl,hzz,Bz.row _,below_row hW hzz _⟩,?_⟩
    simp only [putAll,Act.put,List.getElem_toArray,List.getElem_cons_succ,List.getElem_cons_zero,List.setIfInBounds_toArray,List.set_cons_zero,List.set_cons_succ]
    try rfl
   ·refine op_one 8 _ rfl ?_
    have Bz:=Blk.new wd 261 brd0.toArray
    have hzz:w1.heap.size≤wd.heap.size:=hW.size
    replace hW:=hW.alloc hW.size (.cells brd0.toArray 261)
    go_wp2
    refine ThenGo.to ⟨⟨⟨_,hW⟩,rfl⟩,?_⟩
    generalize wd.alloc (.cells brd0.toArray 261)=Z8 at Bz hW ⊢
    refine call_at 6 (some 20) 239 #[.slice (some ⟨db,dof,none⟩) 3 dk] 2 (by kernel_rfl) (by kernel_rfl) (by kernel_rfl) (by kernel_rfl) (by kernel_rfl) ?_
    refine (hro db dof dk _ (hDR.below hW) rfl).mono ?_
    rintro e w8 ⟨rfl,hb8⟩
    replace hW:=hW.trans (hb8.mono hW.size)
    replace Bz:=Bz.below hb8
    clear hb8
    refine ⟨_,rfl,⟨⟨_,hW⟩,rfl⟩,?_⟩
    simp only [Act.put,List.getElem_toArray,List.getElem_cons_succ,List.getElem_cons_zero,List.setIfInBounds_toArray,List.set_cons_zero,List.set_cons_succ]
    refine quiet_at 7 (some 21) (.agg (brdC has (.slice ba batch.length bk) [] [d0,d1,d2]).toArray) 1 (by kernel_rfl) (by kernel_rfl) (by kernel_rfl) (by kernel_rfl) (by kernel_rfl) (fun u _=>by kernel_rfl) ⟨⟨_,hW⟩,rfl⟩ ?_
    simp only [Act.put,List.getElem_toArray,List.getElem_cons_succ,List.getElem_cons_zero,List.setIfInBounds_toArray,List.set_cons_zero,List.set_cons_succ]
    refine one_at 9 _ 0 (by kernel_rfl) rfl (by kernel_rfl) ?_
    refine st_row (by kernel_rfl) 261 _ _ rfl _ (brdC has (.slice ba batch.length bk) [] [d0,d1,d2]).toArray rfl rfl 261 _ Bz hszB hold hone ?_
    refine ThenGo.to ⟨⟨⟨_,below_row hW hzz _⟩,rfl⟩,?_⟩
    refine text_end (by kernel_rfl) ?_
    refine ⟨rfl,_,⟨wd.heap.size,rfl,hzz,Bz.row _,below_row hW hzz _⟩,?_⟩
    simp only [putAll,Act.put,List.getElem_toArray,List.getElem_cons_succ,List.getElem_cons_zero,List.setIfInBounds_toArray,List.set_cons_zero,List.set_cons_succ]
    try rfl
  rintro vs X ⟨g,rfl,hg,Bg,hX⟩
  simp only [putAll,Act.put,List.setIfInBounds_toArray,List.set_cons_zero,List.set_cons_succ]
  have hBX:Below w.heap.size w X:=hB.trans (hX.mono hB.size)
  have RbX:=Rb.below hX
  have BxX:=Bx.below hX
  have hgs:w.heap.size + 1 < g:=by omega
  have hRX:=hR.below hBX
  have hGX:=hG.below hBX
  have p2:=BxX.cell 2 _ rfl
  clear hX hB Rb Bx hro hDR
  go_wp2
  clear p2
  generalize hrs:rounds.map RoundQ.e=rs at *
  have hwel:=wel_of hF
  have hrl:rs.length=rounds.length:=by rw [← hrs,List.length_map]
  go_loopw [25] (fun j wr=>∃ k:Nat,k≤rounds.length∧j=.int .i64 k∧Hid (Blk wr g 261 (brdC has (.slice ba batch.length bk) (rs.take k) [d0,d1,d2]).toArray)∧Hid (Out [g] X wr)) (fun j _=>rounds.length - (intOf j).toNat)
  case atStart=>exact ⟨0,Nat.zero_le _,rfl,Bg,Out.refl _ _⟩
  case round=>
   obtain ⟨k,hk,rfl,HB,HO⟩:=hrel
   have hBr:Below w.heap.size w wr:=Out.keep hBX HO.out hBX.size (fun k hk=>by simp only [List.mem_singleton] at hk;omega)
   by_cases hlt:k < rounds.length
   ·obtain ⟨rb,ro,hra,hbs,hc,hrd⟩:=(hR.below hBr).cell (by decide) k hlt
    have hc' : ∀ j x,(roundK.cells rounds[k])[j]? = some x→wr.cell? ⟨rb,ro + k * 2 + j,none⟩=some x:=hc
    have r0:=hc' 0 (rounds[k].vr) rfl
    have r1:=hc' 1 (rounds[k].vp) rfl
    have hat:rs.getD k rnd0=RoundQ.e rounds[k]:=by rw [← hrs];exact rnd_at rounds k hlt
    obtain ⟨hv1,hv2⟩:=rndsF_at hF k (by rw [hrl];exact hlt)
    rw [hat] at hv1 hv2
    replace hv1:vf rounds[k].rep 1=0:=hv1
    replace hv2:vf rounds[k].pro 2=0:=hv2
    have hgk:rs[k]'(by rw [hrl];exact hlt)=RoundQ.e rounds[k]:=by rw [← hat];simp [List.getD,show k < rs.length by rw [hrl];exact hlt]
    have HTK:Hid (rs.take (k + 1)=rs.take k ++ [RoundE.mk rounds[k].rep rounds[k].pro]):=by
     rw [List.take_succ_eq_append_getElem (show k < rs.length by rw [hrl];exact hlt),hgk]
     exact (rfl:_=_)
    have hrdw:roundK.rd w rounds[k]:=by
     obtain ⟨_,_,_,_,_,hx⟩:=hR.cell (by decide) k hlt
     exact hx
    obtain ⟨hA1,hA2⟩:intK.At w rounds[k].vr rounds[k].rep∧intK.At w rounds[k].vp rounds[k].pro:=hrdw
    clear hc hc' hat hgk hrd
    generalize rounds[k].vr=qv at *
    generalize rounds[k].rep=qr at *
    generalize rounds[k].vp=qw at *
    generalize rounds[k].pro=qp at *
    obtain ⟨xa,xc,xb,xo,rfl,hxa,_,xRow⟩:=vf_row hA1 hv1 0 (by omega)
    obtain ⟨ya,yc,yb,yo,rfl,hya,_,yRow⟩:=vf_row hA2 hv2 0 (by omega)
    subst hra hxa hya
    obtain ⟨x0,x1,x2,rfl⟩:=three (vf_len hv1)
    obtain ⟨y0,y1,y2,rfl⟩:=three (vf_len hv2)
    have By:=Blk.new wr 204 #[.slice (some ⟨xb,xo,none⟩) 3 xc,.slice (some ⟨yb,yo,none⟩) 3 yc]
    have hbY:Below wr.heap.size wr (wr.alloc (.cells #[.slice (some ⟨xb,xo,none⟩) 3 xc,.slice (some ⟨yb,yo,none⟩) 3 yc] 204)):=by go_grown
    have HOY:Hid (Out [g] X (wr.alloc (.cells #[.slice (some ⟨xb,xo,none⟩) 3 xc,.slice (some ⟨yb,yo,none⟩) 3 yc] 204))):=HO.out.call hbY
    have HBY:Hid (Blk (wr.alloc (.cells #[.slice (some ⟨xb,xo,none⟩) 3 xc,.slice (some ⟨yb,yo,none⟩) 3 yc] 204)) g 261 (brdC has (.slice ba batch.length bk) (rs.take k) [d0,d1,d2]).toArray):=HB.out.below hbY
    have hgw:g < wr.heap.size:=HB.out.lt
    have hyg:wr.heap.size≠g:=by omega
    replace hBr:=hBr.trans (hbY.mono hBr.size)
    rw [Nat.add_zero] at r0
    clear HB HO hbY hA1 hA2
    go_wp2_with fail
    clear r0 r1
    generalize wr.alloc (.cells #[.slice (some ⟨xb,xo,none⟩) 3 xc,.slice (some ⟨yb,yo,none⟩) 3 yc] 204)=Y at *
    have hkeep:∀ W',Out [g] Y W' → Below w.heap.size w W' := fun W' hW' => Out.keep hBr hW' hBr.size (fun k hk=>by simp only [List.mem_singleton] at hk;omega)
    have hadd:=fun w' hB' => addRound_any g 261 (rs.take k) ([.bool has,.slice ba batch.length bk] ++ [d0,d1,d2].map iv) ⟨[x0,x1,x2],[y0,y1,y2]⟩ w' hB' (wel_take hwel k) ⟨rfl,rfl⟩ (by rw [List.length_take];omega)
    have hnn:Nonempty (LatO [g] Y):=⟨⟨Y,Out.refl _ _⟩⟩
    have hW:Out [g] Y Y.drew:=Out.of_below ((Below.refl _ _).drew)
    have p0:=lato_cell (F:=[g]) (By.cell 0 _ rfl) (by simp only [List.mem_singleton];exact hyg)
    have p1:=lato_cell (F:=[g]) (By.cell 1 _ rfl) (by simp only [List.mem_singleton];exact hyg)
    have Bg2:=HBY.out.below (w' := Y.drew) ((Below.refl _ _).drew)
    refine text_begin (S:=fun w' => ∃ u:LatO [g] Y,w' = u.val) (by kernel_rfl) ?_
    refine seg_range [(0,3),(4,2)] 4 (by kernel_rfl) (by kernel_rfl) (by kernel_rfl) (by kernel_rfl) (by kernel_rfl) ⟨⟨_,hW⟩,rfl⟩ ?_
    simp only [pickR,List.toList_toArray,List.flatMap_cons,List.flatMap_nil,List.drop_succ_cons,List.drop_zero,List.take_succ_cons,List.take_zero,List.cons_append,List.nil_append,List.append_nil]
    repeat go_big_quiet_step (fail)
    refine wpQuiet_nil ?_
    refine call_at 3 (some 32) 239 #[.slice (some ⟨xb,xo,none⟩) 3 xc] 3 (by kernel_rfl) (by kernel_rfl) (by kernel_rfl) (by kernel_rfl) (by kernel_rfl) ?_
    refine (hroR _ xb xo xc _ (xRow.below (hkeep _ hW)) rfl).mono ?_
    rintro e w8 ⟨rfl,hb8⟩
    replace hW:=hW.call hb8
    replace Bg2:=Bg2.below hb8
    clear hb8
    refine ⟨_,rfl,⟨⟨_,hW⟩,rfl⟩,?_⟩
    simp only [Act.put,List.setIfInBounds_toArray,List.set_cons_zero,List.set_cons_succ]
    refine call_at 6 (some 35) 239 #[.slice (some ⟨yb,yo,none⟩) 3 yc] 2 (by kernel_rfl) (by kernel_rfl) (by kernel_rfl) (by kernel_rfl) (by kernel_rfl) ?_
    refine (hroR _ yb yo yc _ (yRow.below (hkeep _ hW)) rfl).mono ?_
    rintro e w9 ⟨rfl,hb9⟩
    replace hW:=hW.call hb9
    replace Bg2:=Bg2.below hb9
    clear hb9
    refine ⟨_,rfl,⟨⟨_,hW⟩,rfl⟩,?_⟩
    simp only [Act.put,List.setIfInBounds_toArray,List.set_cons_zero,List.set_cons_succ]
    refine quiet_at 7 (some 36) (.agg (rowC ⟨[x0,x1,x2],[y0,y1,y2]⟩).toArray) 1 (by kernel_rfl) (by kernel_rfl) (by kernel_rfl) (by kernel_rfl) (by kernel_rfl) (fun u _=>by kernel_rfl) ⟨⟨_,hW⟩,rfl⟩ ?_
    simp only [Act.put,List.setIfInBounds_toArray,List.set_cons_zero,List.set_cons_succ]
    refine call_at 8 (some 37) 240 #[.pointer (some ⟨g,0,none⟩),.agg (rowC ⟨[x0,x1,x2],[y0,y1,y2]⟩).toArray] 0 (by kernel_rfl) (by kernel_rfl) (by kernel_rfl) (by kernel_rfl) (by kernel_rfl) ?_
    refine (hadd w9 Bg2).mono ?_
    rintro e w10 ⟨rfl,hB10,u10⟩
    replace hW:=hW.trans u10
    clear u10
    refine ⟨_,rfl,⟨⟨_,hW⟩,rfl⟩,?_⟩
    simp only [Act.put,List.setIfInBounds_toArray,List.set_cons_zero,List.set_cons_succ]
    refine text_end (by kernel_rfl) ?_
    have HB2:Hid (Blk w10 g 261 (brdC has (.slice ba batch.length bk) (rs.take (k + 1)) [d0,d1,d2]).toArray):=by rw [HTK.out];exact hB10
    have HO2:Hid (Out [g] X w10):=HOY.out.trans hW
    clear hB10 hW hadd HBY HOY p0 p1 hnn hkeep HTK
    go_wp2
    go_roundw
    case rel=>exact ⟨k + 1,by omega,by go_num,HB2.out,HO2.out⟩
    case measure=>simp [intOf];omega
   ·have hkl:k=rounds.length:=by omega
    subst hkl
    have Bw:=HB.out
    rw [← hrl,List.take_length] at Bw
    have Rw:Blk wr (w.heap.size + 1) 261 brd0.toArray:=(HO.out.block _ RbX.lt (by simp only [List.mem_singleton];omega)).trans RbX
    have hlen:=brdC_length (has:=has) (vb:=.slice ba batch.length bk) (dec:=[d0,d1,d2]) hwel (by rw [hrl];exact h4) rfl
    have hir:=isRight_any has (.slice ba batch.length bk) rs [d0,d1,d2] wr (hG.below hBr) hwel (by rw [hrl];exact h4) rfl
    have hrgB:=rng Bw (brdC has (.slice ba batch.length bk) rs [d0,d1,d2]) (o:=0) (fun j v hv=>by rw [Nat.zero_add,List.getElem?_toArray];exact hv)
    have hszB:(Tryz.prog.info? 261).map (·.size)=some (brdC has (.slice ba batch.length bk) rs [d0,d1,d2]).length:=by rw [hlen];exact sz_board
    have honeB:(brdC has (.slice ba batch.length bk) rs [d0,d1,d2]).toArray.all (·.oneCell')=true:=all_oneCell_toArray (fun v hv=>by
     simp only [brdC,rndC,rowsV,List.mem_append,List.mem_cons,List.mem_flatMap,List.mem_replicate,List.mem_map,rowC,List.not_mem_nil,or_false] at hv
     rcases hv with (rfl | ⟨r,_,z,_,rfl⟩ | ⟨_,rfl⟩) | (rfl | rfl) | ⟨z,_,rfl⟩ <;> rfl)
    clear HB HO hroR
    generalize hX2:((List.range rs.length).all (allS has rs) && endA rs [d0,d1,d2])=XX at *
    generalize hcs:brdC has (.slice ba batch.length bk) rs [d0,d1,d2]=cs at *
    go_wp2_with (refine ld_g (by kernel_rfl) 261 _ rfl _ _ rfl cs _ hrgB Tryz.underlying261 rfl hszB ?_)
    refine hir.mono ?_
    rintro e w5 ⟨rfl,hb5⟩
    replace Rw:=Rw.below hb5
    replace Bw:=Bw.below hb5
    replace hBr:=hBr.trans (hb5.mono hBr.size)
    replace hrgB:=rng_below hrgB hb5
    clear hir hb5
    cases XX with
    | false=>
     have E1:Hid (C=10):=by rw [HCI.out];exact (rfl:_=_)
     have E2:Hid (BD=brd0):=by
      have:=HBD.out
      rw [E1.out,if_neg (by decide)] at this
      exact this.symm
     clear HCI HBD hrgB
     go_wp2_with (refine st_row (by kernel_rfl) 261 _ _ rfl _ #[.int .i64 0,.int .i64 0,.int .i64 0,.int .i64 0,.int .i64 0,.int .i64 0,.int .i64 0,.int .i64 0,.int .i64 0,.int .i64 0,.int .i64 0,.int .i64 0,.int .i64 0,.int .i64 0,.int .i64 0,.int .i64 0,.int .i64 0,.int .i64 0,.int .i64 0,.int .i64 0,.int .i64 0,.int .i64 0,.int .i64 0,.int .i64 0,.int .i64 0,.bool false,.slice none 0 0,.int .i64 0,.int .i64 0,.int .i64 0] rfl rfl 261 _ Rw hszZ holdZ honeZ ?_)
     rw [E2.out,E1.out]
     exact bodyPost_ret (v:=.tuple #[.agg brd0.toArray,.int .i64 10]) (results_two Tryz.results187 _ _ (w.heap.size + 1) brd0.toArray _ rfl rfl (ld_brd (Rw.row _) rfl)) rfl ⟨rfl,below_row hBr (by omega) _⟩
    | true=>
     have E1:Hid (C=0):=by rw [HCI.out];exact (rfl:_=_)
     have E2:Hid (BD=cs):=by
      have:=HBD.out
      rw [E1.out,if_pos rfl] at this
      exact this.symm
     have hszC:(Tryz.prog.info? 261).map (·.size)=some cs.toArray.size:=hszB
     have holdC:brd0.toArray.size=cs.toArray.size:=(show 30=cs.length from hlen.symm)
     clear HCI HBD
     go_wp2_with (first | (refine ld_g (by kernel_rfl) 261 _ rfl _ _ rfl cs _ hrgB Tryz.underlying261 rfl hszB ?_) | (refine st_row (by kernel_rfl) 261 _ _ rfl _ cs.toArray rfl rfl 261 _ Rw hszC holdC honeB ?_))
     rw [E2.out,E1.out]
     exact bodyPost_ret (v:=.tuple #[.agg cs.toArray,.int .i64 0]) (results_two Tryz.results187 _ _ (w.heap.size + 1) cs.toArray _ rfl rfl (ld_brd (Rw.row _) hlen)) rfl ⟨rfl,below_row hBr (by omega) _⟩
 ·have hC:C≠0∧C=shpF (InstQ.e ⟨has,.slice ba batch.length bk,batch,.slice va rounds.length vk,rounds,.slice da dec.length dk,dec⟩):=by
   have:=HC.out.1
   unfold insF at this
   rw [if_neg h0] at this
   exact ⟨by rw [← this];exact h0,this.symm⟩
  have E2:Hid (BD=brd0):=by
   have:=HC.out.2
   rw [if_neg hC.1] at this
   exact this.symm
  rw [← hC.2]
  have h0' : (C != 0)=true:=by simpa using hC.1
  clear HC h0 hC hR hT hD
  go_wp2_with (refine st_row (by kernel_rfl) 261 _ _ rfl _ #[.int .i64 0,.int .i64 0,.int .i64 0,.int .i64 0,.int .i64 0,.int .i64 0,.int .i64 0,.int .i64 0,.int .i64 0,.int .i64 0,.int .i64 0,.int .i64 0,.int .i64 0,.int .i64 0,.int .i64 0,.int .i64 0,.int .i64 0,.int .i64 0,.int .i64 0,.int .i64 0,.int .i64 0,.int .i64 0,.int .i64 0,.int .i64 0,.int .i64 0,.bool false,.slice none 0 0,.int .i64 0,.int .i64 0,.int .i64 0] rfl rfl 261 _ Rb hszZ holdZ honeZ ?_)
  rw [E2.out]
  exact bodyPost_ret (v:=.tuple #[.agg brd0.toArray,.int .i64 C]) (results_two Tryz.results187 _ _ (w.heap.size + 1) brd0.toArray _ rfl rfl (ld_brd (Rb.row _) rfl)) rfl ⟨rfl,below_row hB (by omega) _⟩

end Go.Proofs.YtpmkhnakgeillaaGreatDoor
