/- Texts joined, with what the law reaches alone. -/
import Derived.Test.YtjjolkihiclopaaGreatDoorSBBE
import Derived.Test.YtjjolkihiclopaaGreatDoorSBAP
import Derived.Test.YtjjolkihiclopaaGreatDoorSBAQ
import Derived.Test.YtjjolkihiclopaaGreatDoorSBBD
set_option linter.unusedVariables false
set_option linter.unusedSimpArgs false
namespace Go.Proofs.YtjjolkihiclopaaGreatDoor
open Go.RowKit
open Go.BigFrame
set_option maxRecDepth 100000
set_option maxHeartbeats 8000000 in
theorem isGrown_any (p q:InstQ) (w:World) (h:instK.rd w p) (h' : instK.rd w q) (hl:p.n≤1048576) (hl' : q.n≤1048576) (hw:∀ r∈p.rounds,r.rep.length=3∧r.pro.length=3) (hw' : ∀ r∈q.rounds,r.rep.length=3∧r.pro.length=3) (hd3:p.dec.length=3) (hd3' : q.dec.length=3) :
  Calls Tryz.prog 52 #[.agg #[.bool p.has,p.vb,p.vr,p.vd],.agg #[.bool q.has,q.vb,q.vr,q.vd]] w fun e w' => e=.returned (.bool (grw p.e q.e))∧Below w.heap.size w w' := by
 obtain ⟨h1,vb,bt,vr,rs,vd,dc⟩:=p
 obtain ⟨h2,vb',bt',vr',rs',vd',dc'⟩:=q
 obtain ⟨hT,hR,hD⟩:txnK.At w vb bt∧roundK.At w vr rs∧intK.At w vd dc:=h
 obtain ⟨gT,gR,gD⟩:txnK.At w vb' bt' ∧ roundK.At w vr' rs' ∧ intK.At w vd' dc' := h'
 dsimp only [InstQ.n] at hl hl' hw hw' hd3 hd3'
 obtain ⟨a1,k1,rfl⟩:=hT.shape
 obtain ⟨a2,k2,rfl⟩:=hR.shape
 obtain ⟨a3,k3,rfl⟩:=hD.shape
 obtain ⟨b1,m1,rfl⟩:=gT.shape
 obtain ⟨b2,m2,rfl⟩:=gR.shape
 obtain ⟨b3,m3,rfl⟩:=gD.shape
 have e1:=fun w h h' => implSameTxns_any (.slice a1 bt.length k1) (.slice b1 bt'.length m1) (bt.map TxnQ.e) (bt'.map TxnQ.e) w h h' (by rw [List.length_map,sumA_of'];omega) (by rw [List.length_map,sumA_of'];omega)
 have e3:=fun w h h' => areKept_any (.slice a3 dc.length k3) (.slice b3 dc'.length m3) dc dc' w h h' hd3 hd3'
 generalize hE:grw _ _=E
 have HE:Hid (E=((!h1 || (h2 && sameTs (bt.map TxnQ.e) (bt'.map TxnQ.e))) && decide (rs.length≤rs'.length) && kpRs (rs.map RoundQ.e) (rs'.map RoundQ.e) && kps dc dc')):=show _=_ by
  rw [← hE]
  unfold grw
  simp only [InstQ.e,List.length_map]
 clear hE hd3 hd3'
 generalize sameTs (bt.map TxnQ.e) (bt'.map TxnQ.e)=X at *
 generalize kps dc dc' = Z at *
 by_cases hlen:rs'.length < rs.length
 ·have hd2:(rs'.length:Int) < (rs.length:Int):=by omega
  have hle:decide (rs.length≤rs'.length)=false:=decide_eq_false (by omega)
  have E1:Hid (E=false):=show _=_ by rw [HE.out,hle];simp
  clear hle hlen HE
  cases h1 with
  | false=>
   have hB:Below w.heap.size w ((w.alloc (.cells #[.bool false,.slice a1 bt.length k1,.slice a2 rs.length k2,.slice a3 dc.length k3] 49)).alloc (.cells #[.bool h2,.slice b1 bt'.length m1,.slice b2 rs'.length m2,.slice b3 dc'.length m3] 49)):=by go_grown
   have B1:=(Blk.new w 49 #[.bool false,.slice a1 bt.length k1,.slice a2 rs.length k2,.slice a3 dc.length k3]).below (w' := ((w.alloc (.cells #[.bool false,.slice a1 bt.length k1,.slice a2 rs.length k2,.slice a3 dc.length k3] 49)).alloc (.cells #[.bool h2,.slice b1 bt'.length m1,.slice b2 rs'.length m2,.slice b3 dc'.length m3] 49))) (by go_grown)
   have B2:=Blk.new (w.alloc (.cells #[.bool false,.slice a1 bt.length k1,.slice a2 rs.length k2,.slice a3 dc.length k3] 49)) 49 #[.bool h2,.slice b1 bt'.length m1,.slice b2 rs'.length m2,.slice b3 dc'.length m3]
   rw [World.size_alloc] at B2
   go_enter Tryz.func52,Tryz.ntmps52
   go_wp2
   go_ret
   exact ⟨by rw [E1.out];rfl,hB⟩
  | true=>
   cases h2 with
   | false=>
    have hB:Below w.heap.size w ((w.alloc (.cells #[.bool true,.slice a1 bt.length k1,.slice a2 rs.length k2,.slice a3 dc.length k3] 49)).alloc (.cells #[.bool false,.slice b1 bt'.length m1,.slice b2 rs'.length m2,.slice b3 dc'.length m3] 49)):=by go_grown
    have B1:=(Blk.new w 49 #[.bool true,.slice a1 bt.length k1,.slice a2 rs.length k2,.slice a3 dc.length k3]).below (w' := ((w.alloc (.cells #[.bool true,.slice a1 bt.length k1,.slice a2 rs.length k2,.slice a3 dc.length k3] 49)).alloc (.cells #[.bool false,.slice b1 bt'.length m1,.slice b2 rs'.length m2,.slice b3 dc'.length m3] 49))) (by go_grown)
    have B2:=Blk.new (w.alloc (.cells #[.bool true,.slice a1 bt.length k1,.slice a2 rs.length k2,.slice a3 dc.length k3] 49)) 49 #[.bool false,.slice b1 bt'.length m1,.slice b2 rs'.length m2,.slice b3 dc'.length m3]
    rw [World.size_alloc] at B2
    go_enter Tryz.func52,Tryz.ntmps52
    go_wp2
    go_ret
    exact ⟨by rw [E1.out];rfl,hB⟩
   | true=>
    have hB:Below w.heap.size w ((w.alloc (.cells #[.bool true,.slice a1 bt.length k1,.slice a2 rs.length k2,.slice a3 dc.length k3] 49)).alloc (.cells #[.bool true,.slice b1 bt'.length m1,.slice b2 rs'.length m2,.slice b3 dc'.length m3] 49)):=by go_grown
    have B1:=(Blk.new w 49 #[.bool true,.slice a1 bt.length k1,.slice a2 rs.length k2,.slice a3 dc.length k3]).below (w' := ((w.alloc (.cells #[.bool true,.slice a1 bt.length k1,.slice a2 rs.length k2,.slice a3 dc.length k3] 49)).alloc (.cells #[.bool true,.slice b1 bt'.length m1,.slice b2 rs'.length m2,.slice b3 dc'.length m3] 49))) (by go_grown)
    have B2:=Blk.new (w.alloc (.cells #[.bool true,.slice a1 bt.length k1,.slice a2 rs.length k2,.slice a3 dc.length k3] 49)) 49 #[.bool true,.slice b1 bt'.length m1,.slice b2 rs'.length m2,.slice b3 dc'.length m3]
    rw [World.size_alloc] at B2
    go_enter Tryz.func52,Tryz.ntmps52
    go_wp2_with fail
    generalize ((w.alloc (.cells #[.bool true,.slice a1 bt.length k1,.slice a2 rs.length k2,.slice a3 dc.length k3] 49)).alloc (.cells #[.bool true,.slice b1 bt'.length m1,.slice b2 rs'.length m2,.slice b3 dc'.length m3] 49))=X0 at *
    refine (e1 X0 (txnsAt_of' (hT.below hB)) (txnsAt_of' (gT.below hB))).mono ?_
    rintro e w1 ⟨rfl,hb1⟩
    replace hB:=hB.trans (hb1.mono hB.size)
    have p2:=(B1.below hb1).cell 2 _ rfl
    have q2:=(B2.below hb1).cell 2 _ rfl
    clear hb1 B1 B2
    cases X with
    | false=>
     go_wp2
     go_ret
     exact ⟨by rw [E1.out];rfl,hB⟩
    | true=>
     go_wp2
     go_ret
     exact ⟨by rw [E1.out];rfl,hB⟩
 ·have hd2:¬ (rs'.length:Int) < (rs.length:Int):=by omega
  have hle:decide (rs.length≤rs'.length)=true:=decide_eq_true (by omega)
  have HL:Hid (rs.length≤rs'.length):=show _≤_ by omega
  rw [hle] at HE
  clear hle hlen
  cases h1 with
  | false=>
   have HE2:Hid (E=(kpRs (rs.map RoundQ.e) (rs'.map RoundQ.e) && Z)):=show _=_ by rw [HE.out];simp
   clear HE
   have hB:Below w.heap.size w ((w.alloc (.cells #[.bool false,.slice a1 bt.length k1,.slice a2 rs.length k2,.slice a3 dc.length k3] 49)).alloc (.cells #[.bool h2,.slice b1 bt'.length m1,.slice b2 rs'.length m2,.slice b3 dc'.length m3] 49)):=by go_grown
   have B1:=(Blk.new w 49 #[.bool false,.slice a1 bt.length k1,.slice a2 rs.length k2,.slice a3 dc.length k3]).below (w' := ((w.alloc (.cells #[.bool false,.slice a1 bt.length k1,.slice a2 rs.length k2,.slice a3 dc.length k3] 49)).alloc (.cells #[.bool h2,.slice b1 bt'.length m1,.slice b2 rs'.length m2,.slice b3 dc'.length m3] 49))) (by go_grown)
   have B2:=Blk.new (w.alloc (.cells #[.bool false,.slice a1 bt.length k1,.slice a2 rs.length k2,.slice a3 dc.length k3] 49)) 49 #[.bool h2,.slice b1 bt'.length m1,.slice b2 rs'.length m2,.slice b3 dc'.length m3]
   rw [World.size_alloc] at B2
   go_enter Tryz.func52,Tryz.ntmps52
   go_wp2_with fail
   generalize ((w.alloc (.cells #[.bool false,.slice a1 bt.length k1,.slice a2 rs.length k2,.slice a3 dc.length k3] 49)).alloc (.cells #[.bool h2,.slice b1 bt'.length m1,.slice b2 rs'.length m2,.slice b3 dc'.length m3] 49))=X0 at *
   have p2:=B1.cell 2 _ rfl
   go_wp2
   clear p2
   go_loopw [33] (fun j wr=>∃ k:Nat,k≤rs.length∧j=.int .i64 k∧Hid (∀ j,j < k→kpR ((rs.map RoundQ.e).getD j rndNo) ((rs'.map RoundQ.e).getD j rndNo)=true)∧Below X0.heap.size X0 wr) (fun j _=>rs.length - (intOf j).toNat)
   case atStart=>exact ⟨0,Nat.zero_le _,rfl,fun j hj=>absurd hj (Nat.not_lt_zero _),Below.refl _ _⟩
   case round=>
    obtain ⟨k,hk,rfl,HA,hb⟩:=hrel
    have hBw:=hB.trans (hb.mono hB.size)
    replace B1:=B1.below hb
    replace B2:=B2.below hb
    by_cases hlt:k < rs.length
    ·have hlt' : k < rs'.length:=by have:=HL.out;omega
     obtain ⟨rb,ro,rfl,hbs,hc,hrd⟩:=(hR.below hBw).cell (by decide) k hlt
     obtain ⟨rb',ro',rfl,hbs',hd2,hrd'⟩:=(gR.below hBw).cell (by decide) k hlt'
     have hc' : ∀ j x,(roundK.cells rs[k])[j]? = some x→wr.cell? ⟨rb,ro + k * 2 + j,none⟩=some x:=hc
     have hd' : ∀ j x,(roundK.cells rs'[k])[j]? = some x→wr.cell? ⟨rb',ro' + k * 2 + j,none⟩=some x:=hd2
     have f0:=hc' 0 (rs[k].vr) rfl
     have f1:=hc' 1 (rs[k].vp) rfl
     have g0:=hd' 0 (rs'[k].vr) rfl
     have g1:=hd' 1 (rs'[k].vp) rfl
     have w1:=hw _ (List.getElem_mem hlt)
     have w2:=hw' _ (List.getElem_mem hlt')
     have HY:Hid (kpR (RoundQ.e rs[k]) (RoundQ.e rs'[k])=false→E=false):=fun hx=>by
      rw [HE2.out,kpRs_bad k (by simpa using hlt) (by rw [rnd_get rs k hlt,rnd_get rs' k hlt'];exact hx),Bool.false_and]
     have HN:Hid (kpR (RoundQ.e rs[k]) (RoundQ.e rs'[k])=true→∀ j,j < k + 1→kpR ((rs.map RoundQ.e).getD j rndNo) ((rs'.map RoundQ.e).getD j rndNo)=true):=fun hx j hj=>by
      by_cases hjk:j=k
      ·subst hjk
       rw [rnd_get rs j hlt,rnd_get rs' j hlt']
       exact hx
      ·exact HA.out j (by omega)
     clear HA hc hc' hd2 hd'
     generalize rs[k]=p at *
     generalize rs'[k]=q at *
     obtain ⟨pv,pr,pw,pp⟩:=p
     obtain ⟨qv,qr,qw,qp⟩:=q
     obtain ⟨u1,u2⟩:intK.At wr pv pr∧intK.At wr pw pp:=hrd
     obtain ⟨t1,t2⟩:intK.At wr qv qr∧intK.At wr qw qp:=hrd'
     obtain ⟨x1,j1,rfl⟩:=u1.shape
     obtain ⟨x2,j2,rfl⟩:=u2.shape
     obtain ⟨y1,l1,rfl⟩:=t1.shape
     obtain ⟨y2,l2,rfl⟩:=t2.shape
     dsimp only [RoundQ.e,kpR] at f0 f1 g0 g1 w1 w2 HY HN
     rw [Nat.add_zero] at f0 g0
     have s1:=fun w h h' => areKept_any (.slice x1 pr.length j1) (.slice y1 qr.length l1) pr qr w h h' w1.1 w2.1
     have s2:=fun w h h' => areKept_any (.slice x2 pp.length j2) (.slice y2 qp.length l2) pp qp w h h' w1.2 w2.2
     clear w1 w2
     generalize kps pr qr=X1 at *
     generalize kps pp qp=X2 at *
     have hba:Below wr.heap.size wr (wr.alloc (.cells #[.slice x1 pr.length j1,.slice x2 pp.length j2] 117)):=by go_grown
     have Rk:=Blk.new wr 117 #[.slice x1 pr.length j1,.slice x2 pp.length j2]
     replace B2:=B2.below hba
     replace u1:=u1.below hba
     replace u2:=u2.below hba
     replace t1:=t1.below hba
     replace t2:=t2.below hba
     have gg0:=cellB g0 hba
     have gg1:=cellB g1 hba
     have hlti:(k:Int) < (rs.length:Int):=by omega
     have hlti' : (k:Int) < (rs'.length:Int):=by omega
     clear g0 g1 B1
     go_wp2_with fail
     replace hb:=hb.trans (hba.mono hb.size)
     clear f0 f1 hba hBw
     generalize wr.alloc (.cells #[.slice x1 pr.length j1,.slice x2 pp.length j2] 117)=W3 at *
     have hW:Below W3.heap.size W3 W3.drew:=(Below.refl _ _).drew
     have hnn:Nonempty (Lat W3):=⟨⟨W3,Below.refl _ _⟩⟩
     have d2:=B2.lat 2 _ rfl
     have v0:=Rk.lat 0 _ rfl
     have v1:=Rk.lat 1 _ rfl
     have z0:=lat_cell gg0
     have z1:=lat_cell gg1
     clear gg0 gg1 B2 Rk
     cases X1 with
     | false=>
      have E1:Hid (E=false):=HY.out rfl
      refine text_begin (S:=fun w' => ∃ u:Lat W3,w' = u.val) (by kernel_rfl) ?_
      refine seg_range [(0,8)] 14 (by kernel_rfl) (by kernel_rfl) (by kernel_rfl) (by kernel_rfl) (by kernel_rfl) ⟨⟨_,hW⟩,rfl⟩ ?_
      simp only [pickR,List.toList_toArray,List.flatMap_cons,List.flatMap_nil,List.drop_succ_cons,List.drop_zero,List.take_succ_cons,List.take_zero,List.cons_append,List.nil_append,List.append_nil]
      repeat go_big_quiet_step (fail)
      refine wpQuiet_nil ?_
      refine call_at 8 (some 46) 85 #[.slice x1 pr.length j1,.slice y1 qr.length l1] 13 (by kernel_rfl) (by kernel_rfl) (by kernel_rfl) (by kernel_rfl) (by kernel_rfl) ?_
      refine (s1 _ (u1.below hW) (t1.below hW)).mono ?_
      rintro e w9 ⟨rfl,hb9⟩
      replace hW:=hW.trans (hb9.mono hW.size)
      clear hb9
      refine ⟨_,rfl,⟨⟨_,hW⟩,rfl⟩,?_⟩
      simp only [Act.put,List.setIfInBounds_toArray,List.set_cons_zero,List.set_cons_succ]
      refine seg_range [(9,10)] 3 (by kernel_rfl) (by kernel_rfl) (by kernel_rfl) (by kernel_rfl) (by kernel_rfl) ⟨⟨_,hW⟩,rfl⟩ ?_
      simp only [pickR,List.toList_toArray,List.flatMap_cons,List.flatMap_nil,List.drop_succ_cons,List.drop_zero,List.take_succ_cons,List.take_zero,List.cons_append,List.nil_append,List.append_nil]
      repeat go_big_quiet_step (fail)
      refine wpQuiet_nil ?_
      refine skip_at 19 (some 57) 2 (by kernel_rfl) (by kernel_rfl) (by kernel_rfl) (by kernel_rfl) (by kernel_rfl) ⟨⟨_,hW⟩,rfl⟩ ?_
      simp only [Act.put,List.setIfInBounds_toArray,List.set_cons_zero,List.set_cons_succ]
      refine seg_range [(20,2)] 0 (by kernel_rfl) (by kernel_rfl) (by kernel_rfl) (by kernel_rfl) (by kernel_rfl) ⟨⟨_,hW⟩,rfl⟩ ?_
      simp only [pickR,List.toList_toArray,List.flatMap_cons,List.flatMap_nil,List.drop_succ_cons,List.drop_zero,List.take_succ_cons,List.take_zero,List.cons_append,List.nil_append,List.append_nil]
      repeat go_big_quiet_step (fail)
      refine wpQuiet_nil ?_
      refine text_end (by kernel_rfl) ?_
      replace hb:=hb.trans (hW.mono hb.size)
      clear v0 v1 z0 z1 d2 hW hnn s1 s2 HY HN
      go_wp2
      go_ret
      exact ⟨by rw [E1.out];rfl,hB.trans (hb.mono hB.size)⟩
     | true=>
      cases X2 with
      | false=>
       have E1:Hid (E=false):=HY.out rfl
       refine text_begin (S:=fun w' => ∃ u:Lat W3,w' = u.val) (by kernel_rfl) ?_
       refine seg_range [(0,8)] 14 (by kernel_rfl) (by kernel_rfl) (by kernel_rfl) (by kernel_rfl) (by kernel_rfl) ⟨⟨_,hW⟩,rfl⟩ ?_
       simp only [pickR,List.toList_toArray,List.flatMap_cons,List.flatMap_nil,List.drop_succ_cons,List.drop_zero,List.take_succ_cons,List.take_zero,List.cons_append,List.nil_append,List.append_nil]
       repeat go_big_quiet_step (fail)
       refine wpQuiet_nil ?_
       refine call_at 8 (some 46) 85 #[.slice x1 pr.length j1,.slice y1 qr.length l1] 13 (by kernel_rfl) (by kernel_rfl) (by kernel_rfl) (by kernel_rfl) (by kernel_rfl) ?_
       refine (s1 _ (u1.below hW) (t1.below hW)).mono ?_
       rintro e w9 ⟨rfl,hb9⟩
       replace hW:=hW.trans (hb9.mono hW.size)
       clear hb9
       refine ⟨_,rfl,⟨⟨_,hW⟩,rfl⟩,?_⟩
       simp only [Act.put,List.setIfInBounds_toArray,List.set_cons_zero,List.set_cons_succ]
       refine seg_range [(9,10)] 3 (by kernel_rfl) (by kernel_rfl) (by kernel_rfl) (by kernel_rfl) (by kernel_rfl) ⟨⟨_,hW⟩,rfl⟩ ?_
       simp only [pickR,List.toList_toArray,List.flatMap_cons,List.flatMap_nil,List.drop_succ_cons,List.drop_zero,List.take_succ_cons,List.take_zero,List.cons_append,List.nil_append,List.append_nil]
       repeat go_big_quiet_step (fail)
       refine wpQuiet_nil ?_
       refine call_at 19 (some 57) 85 #[.slice x2 pp.length j2,.slice y2 qp.length l2] 2 (by kernel_rfl) (by kernel_rfl) (by kernel_rfl) (by kernel_rfl) (by kernel_rfl) ?_
       refine (s2 _ (u2.below hW) (t2.below hW)).mono ?_
       rintro e w9 ⟨rfl,hb9⟩
       replace hW:=hW.trans (hb9.mono hW.size)
       clear hb9
       refine ⟨_,rfl,⟨⟨_,hW⟩,rfl⟩,?_⟩
       simp only [Act.put,List.setIfInBounds_toArray,List.set_cons_zero,List.set_cons_succ]
       refine seg_range [(20,2)] 0 (by kernel_rfl) (by kernel_rfl) (by kernel_rfl) (by kernel_rfl) (by kernel_rfl) ⟨⟨_,hW⟩,rfl⟩ ?_
       simp only [pickR,List.toList_toArray,List.flatMap_cons,List.flatMap_nil,List.drop_succ_cons,List.drop_zero,List.take_succ_cons,List.take_zero,List.cons_append,List.nil_append,List.append_nil]
       repeat go_big_quiet_step (fail)
       refine wpQuiet_nil ?_
       refine text_end (by kernel_rfl) ?_
       replace hb:=hb.trans (hW.mono hb.size)
       clear v0 v1 z0 z1 d2 hW hnn s1 s2 HY HN
       go_wp2
       go_ret
       exact ⟨by rw [E1.out];rfl,hB.trans (hb.mono hB.size)⟩
      | true=>
       have HR:=HN.out rfl
       have HR' : Hid _:=HR
       clear HR
       refine text_begin (S:=fun w' => ∃ u:Lat W3,w' = u.val) (by kernel_rfl) ?_
       refine seg_range [(0,8)] 14 (by kernel_rfl) (by kernel_rfl) (by kernel_rfl) (by kernel_rfl) (by kernel_rfl) ⟨⟨_,hW⟩,rfl⟩ ?_
       simp only [pickR,List.toList_toArray,List.flatMap_cons,List.flatMap_nil,List.drop_succ_cons,List.drop_zero,List.take_succ_cons,List.take_zero,List.cons_append,List.nil_append,List.append_nil]
       repeat go_big_quiet_step (fail)
       refine wpQuiet_nil ?_
       refine call_at 8 (some 46) 85 #[.slice x1 pr.length j1,.slice y1 qr.length l1] 13 (by kernel_rfl) (by kernel_rfl) (by kernel_rfl) (by kernel_rfl) (by kernel_rfl) ?_
       refine (s1 _ (u1.below hW) (t1.below hW)).mono ?_
       rintro e w9 ⟨rfl,hb9⟩
       replace hW:=hW.trans (hb9.mono hW.size)
       clear hb9
       refine ⟨_,rfl,⟨⟨_,hW⟩,rfl⟩,?_⟩
       simp only [Act.put,List.setIfInBounds_toArray,List.set_cons_zero,List.set_cons_succ]
       refine seg_range [(9,10)] 3 (by kernel_rfl) (by kernel_rfl) (by kernel_rfl) (by kernel_rfl) (by kernel_rfl) ⟨⟨_,hW⟩,rfl⟩ ?_
       simp only [pickR,List.toList_toArray,List.flatMap_cons,List.flatMap_nil,List.drop_succ_cons,List.drop_zero,List.take_succ_cons,List.take_zero,List.cons_append,List.nil_append,List.append_nil]
       repeat go_big_quiet_step (fail)
       refine wpQuiet_nil ?_
       refine call_at 19 (some 57) 85 #[.slice x2 pp.length j2,.slice y2 qp.length l2] 2 (by kernel_rfl) (by kernel_rfl) (by kernel_rfl) (by kernel_rfl) (by kernel_rfl) ?_
       refine (s2 _ (u2.below hW) (t2.below hW)).mono ?_
       rintro e w9 ⟨rfl,hb9⟩
       replace hW:=hW.trans (hb9.mono hW.size)
       clear hb9
       refine ⟨_,rfl,⟨⟨_,hW⟩,rfl⟩,?_⟩
       simp only [Act.put,List.setIfInBounds_toArray,List.set_cons_zero,List.set_cons_succ]
       refine seg_range [(20,2)] 0 (by kernel_rfl) (by kernel_rfl) (by kernel_rfl) (by kernel_rfl) (by kernel_rfl) ⟨⟨_,hW⟩,rfl⟩ ?_
       simp only [pickR,List.toList_toArray,List.flatMap_cons,List.flatMap_nil,List.drop_succ_cons,List.drop_zero,List.take_succ_cons,List.take_zero,List.cons_append,List.nil_append,List.append_nil]
       repeat go_big_quiet_step (fail)
       refine wpQuiet_nil ?_
       refine text_end (by kernel_rfl) ?_
       replace hb:=hb.trans (hW.mono hb.size)
       clear v0 v1 z0 z1 d2 hW hnn s1 s2 HY HN
       go_wp2
       go_roundw
       case rel=>exact ⟨k + 1,by omega,by go_num,HR'.out,hb⟩
       case measure=>simp [intOf];omega
    ·have E1:Hid (E=Z):=show _=_ by rw [HE2.out,kpRs_all (fun j hj=>HA.out j (by simp at hj;omega))];simp
     have hlti:¬ (k:Int) < (rs.length:Int):=by omega
     have p3:=B1.cell 3 _ rfl
     have q3:=B2.cell 3 _ rfl
     clear HA HE2
     go_wp2_with fail
     clear p3 q3
     refine (e3 wr (hD.below hBw) (gD.below hBw)).mono ?_
     rintro e w9 ⟨rfl,hb9⟩
     have hBf:=hBw.trans (hb9.mono hBw.size)
     clear hb9 e3
     go_wp2
     go_ret
     exact ⟨by rw [E1.out];rfl,hBf⟩
  | true=>
   cases h2 with
   | false=>
    have E1:Hid (E=false):=show _=_ by rw [HE.out];simp
    clear HE
    have hB:Below w.heap.size w ((w.alloc (.cells #[.bool true,.slice a1 bt.length k1,.slice a2 rs.length k2,.slice a3 dc.length k3] 49)).alloc (.cells #[.bool false,.slice b1 bt'.length m1,.slice b2 rs'.length m2,.slice b3 dc'.length m3] 49)):=by go_grown
    have B1:=(Blk.new w 49 #[.bool true,.slice a1 bt.length k1,.slice a2 rs.length k2,.slice a3 dc.length k3]).below (w' := ((w.alloc (.cells #[.bool true,.slice a1 bt.length k1,.slice a2 rs.length k2,.slice a3 dc.length k3] 49)).alloc (.cells #[.bool false,.slice b1 bt'.length m1,.slice b2 rs'.length m2,.slice b3 dc'.length m3] 49))) (by go_grown)
    have B2:=Blk.new (w.alloc (.cells #[.bool true,.slice a1 bt.length k1,.slice a2 rs.length k2,.slice a3 dc.length k3] 49)) 49 #[.bool false,.slice b1 bt'.length m1,.slice b2 rs'.length m2,.slice b3 dc'.length m3]
    rw [World.size_alloc] at B2
    go_enter Tryz.func52,Tryz.ntmps52
    go_wp2
    go_ret
    exact ⟨by rw [E1.out];rfl,hB⟩
   | true=>
    have hB:Below w.heap.size w ((w.alloc (.cells #[.bool true,.slice a1 bt.length k1,.slice a2 rs.length k2,.slice a3 dc.length k3] 49)).alloc (.cells #[.bool true,.slice b1 bt'.length m1,.slice b2 rs'.length m2,.slice b3 dc'.length m3] 49)):=by go_grown
    have B1:=(Blk.new w 49 #[.bool true,.slice a1 bt.length k1,.slice a2 rs.length k2,.slice a3 dc.length k3]).below (w' := ((w.alloc (.cells #[.bool true,.slice a1 bt.length k1,.slice a2 rs.length k2,.slice a3 dc.length k3] 49)).alloc (.cells #[.bool true,.slice b1 bt'.length m1,.slice b2 rs'.length m2,.slice b3 dc'.length m3] 49))) (by go_grown)
    have B2:=Blk.new (w.alloc (.cells #[.bool true,.slice a1 bt.length k1,.slice a2 rs.length k2,.slice a3 dc.length k3] 49)) 49 #[.bool true,.slice b1 bt'.length m1,.slice b2 rs'.length m2,.slice b3 dc'.length m3]
    rw [World.size_alloc] at B2
    go_enter Tryz.func52,Tryz.ntmps52
    go_wp2_with fail
    generalize ((w.alloc (.cells #[.bool true,.slice a1 bt.length k1,.slice a2 rs.length k2,.slice a3 dc.length k3] 49)).alloc (.cells #[.bool true,.slice b1 bt'.length m1,.slice b2 rs'.length m2,.slice b3 dc'.length m3] 49))=Y0 at *
    refine (e1 Y0 (txnsAt_of' (hT.below hB)) (txnsAt_of' (gT.below hB))).mono ?_
    rintro e X0 ⟨rfl,hb1⟩
    replace hB:=hB.trans (hb1.mono hB.size)
    replace B1:=B1.below hb1
    replace B2:=B2.below hb1
    clear hb1 e1
    cases X with
    | false=>
     have E1:Hid (E=false):=show _=_ by rw [HE.out];simp
     clear HE
     go_wp2
     go_ret
     exact ⟨by rw [E1.out];rfl,hB⟩
    | true=>
     have HE2:Hid (E=(kpRs (rs.map RoundQ.e) (rs'.map RoundQ.e) && Z)):=show _=_ by rw [HE.out];simp
     clear HE
     have q2:=B2.cell 2 _ rfl
     have p2:=B1.cell 2 _ rfl
     go_wp2
     clear p2 q2
     go_loopw [33] (fun j wr=>∃ k:Nat,k≤rs.length∧j=.int .i64 k∧Hid (∀ j,j < k→kpR ((rs.map RoundQ.e).getD j rndNo) ((rs'.map RoundQ.e).getD j rndNo)=true)∧Below X0.heap.size X0 wr) (fun j _=>rs.length - (intOf j).toNat)
     case atStart=>exact ⟨0,Nat.zero_le _,rfl,fun j hj=>absurd hj (Nat.not_lt_zero _),Below.refl _ _⟩
     case round=>
      obtain ⟨k,hk,rfl,HA,hb⟩:=hrel
      have hBw:=hB.trans (hb.mono hB.size)
      replace B1:=B1.below hb
      replace B2:=B2.below hb
      by_cases hlt:k < rs.length
      ·have hlt' : k < rs'.length:=by have:=HL.out;omega
       obtain ⟨rb,ro,rfl,hbs,hc,hrd⟩:=(hR.below hBw).cell (by decide) k hlt
       obtain ⟨rb',ro',rfl,hbs',hd2,hrd'⟩:=(gR.below hBw).cell (by decide) k hlt'
       have hc' : ∀ j x,(roundK.cells rs[k])[j]? = some x→wr.cell? ⟨rb,ro + k * 2 + j,none⟩=some x:=hc
       have hd' : ∀ j x,(roundK.cells rs'[k])[j]? = some x→wr.cell? ⟨rb',ro' + k * 2 + j,none⟩=some x:=hd2
       have f0:=hc' 0 (rs[k].vr) rfl
       have f1:=hc' 1 (rs[k].vp) rfl
       have g0:=hd' 0 (rs'[k].vr) rfl
       have g1:=hd' 1 (rs'[k].vp) rfl
       have w1:=hw _ (List.getElem_mem hlt)
       have w2:=hw' _ (List.getElem_mem hlt')
       have HY:Hid (kpR (RoundQ.e rs[k]) (RoundQ.e rs'[k])=false→E=false):=fun hx=>by
        rw [HE2.out,kpRs_bad k (by simpa using hlt) (by rw [rnd_get rs k hlt,rnd_get rs' k hlt'];exact hx),Bool.false_and]
       have HN:Hid (kpR (RoundQ.e rs[k]) (RoundQ.e rs'[k])=true→∀ j,j < k + 1→kpR ((rs.map RoundQ.e).getD j rndNo) ((rs'.map RoundQ.e).getD j rndNo)=true):=fun hx j hj=>by
        by_cases hjk:j=k
        ·subst hjk
         rw [rnd_get rs j hlt,rnd_get rs' j hlt']
         exact hx
        ·exact HA.out j (by omega)
       clear HA hc hc' hd2 hd'
       generalize rs[k]=p at *
       generalize rs'[k]=q at *
       obtain ⟨pv,pr,pw,pp⟩:=p
       obtain ⟨qv,qr,qw,qp⟩:=q
       obtain ⟨u1,u2⟩:intK.At wr pv pr∧intK.At wr pw pp:=hrd
       obtain ⟨t1,t2⟩:intK.At wr qv qr∧intK.At wr qw qp:=hrd'
       obtain ⟨x1,j1,rfl⟩:=u1.shape
       obtain ⟨x2,j2,rfl⟩:=u2.shape
       obtain ⟨y1,l1,rfl⟩:=t1.shape
       obtain ⟨y2,l2,rfl⟩:=t2.shape
       dsimp only [RoundQ.e,kpR] at f0 f1 g0 g1 w1 w2 HY HN
       rw [Nat.add_zero] at f0 g0
       have s1:=fun w h h' => areKept_any (.slice x1 pr.length j1) (.slice y1 qr.length l1) pr qr w h h' w1.1 w2.1
       have s2:=fun w h h' => areKept_any (.slice x2 pp.length j2) (.slice y2 qp.length l2) pp qp w h h' w1.2 w2.2
       clear w1 w2
       generalize kps pr qr=X1 at *
       generalize kps pp qp=X2 at *
       have hba:Below wr.heap.size wr (wr.alloc (.cells #[.slice x1 pr.length j1,.slice x2 pp.length j2] 117)):=by go_grown
       have Rk:=Blk.new wr 117 #[.slice x1 pr.length j1,.slice x2 pp.length j2]
       replace B2:=B2.below hba
       replace u1:=u1.below hba
       replace u2:=u2.below hba
       replace t1:=t1.below hba
       replace t2:=t2.below hba
       have gg0:=cellB g0 hba
       have gg1:=cellB g1 hba
       have hlti:(k:Int) < (rs.length:Int):=by omega
       have hlti' : (k:Int) < (rs'.length:Int):=by omega
       clear g0 g1 B1
       go_wp2_with fail
       replace hb:=hb.trans (hba.mono hb.size)
       clear f0 f1 hba hBw
       generalize wr.alloc (.cells #[.slice x1 pr.length j1,.slice x2 pp.length j2] 117)=W3 at *
       have hW:Below W3.heap.size W3 W3.drew:=(Below.refl _ _).drew
       have hnn:Nonempty (Lat W3):=⟨⟨W3,Below.refl _ _⟩⟩
       have d2:=B2.lat 2 _ rfl
       have v0:=Rk.lat 0 _ rfl
       have v1:=Rk.lat 1 _ rfl
       have z0:=lat_cell gg0
       have z1:=lat_cell gg1
       clear gg0 gg1 B2 Rk
       cases X1 with
       | false=>
        have E1:Hid (E=false):=HY.out rfl
        refine text_begin (S:=fun w' => ∃ u:Lat W3,w' = u.val) (by kernel_rfl) ?_
        refine seg_range [(0,8)] 14 (by kernel_rfl) (by kernel_rfl) (by kernel_rfl) (by kernel_rfl) (by kernel_rfl) ⟨⟨_,hW⟩,rfl⟩ ?_
        simp only [pickR,List.toList_toArray,List.flatMap_cons,List.flatMap_nil,List.drop_succ_cons,List.drop_zero,List.take_succ_cons,List.take_zero,List.cons_append,List.nil_append,List.append_nil]
        repeat go_big_quiet_step (fail)
        refine wpQuiet_nil ?_
        refine call_at 8 (some 46) 85 #[.slice x1 pr.length j1,.slice y1 qr.length l1] 13 (by kernel_rfl) (by kernel_rfl) (by kernel_rfl) (by kernel_rfl) (by kernel_rfl) ?_
        refine (s1 _ (u1.below hW) (t1.below hW)).mono ?_
        rintro e w9 ⟨rfl,hb9⟩
        replace hW:=hW.trans (hb9.mono hW.size)
        clear hb9
        refine ⟨_,rfl,⟨⟨_,hW⟩,rfl⟩,?_⟩
        simp only [Act.put,List.setIfInBounds_toArray,List.set_cons_zero,List.set_cons_succ]
        refine seg_range [(9,10)] 3 (by kernel_rfl) (by kernel_rfl) (by kernel_rfl) (by kernel_rfl) (by kernel_rfl) ⟨⟨_,hW⟩,rfl⟩ ?_
        simp only [pickR,List.toList_toArray,List.flatMap_cons,List.flatMap_nil,List.drop_succ_cons,List.drop_zero,List.take_succ_cons,List.take_zero,List.cons_append,List.nil_append,List.append_nil]
        repeat go_big_quiet_step (fail)
        refine wpQuiet_nil ?_
        refine skip_at 19 (some 57) 2 (by kernel_rfl) (by kernel_rfl) (by kernel_rfl) (by kernel_rfl) (by kernel_rfl) ⟨⟨_,hW⟩,rfl⟩ ?_
        simp only [Act.put,List.setIfInBounds_toArray,List.set_cons_zero,List.set_cons_succ]
        refine seg_range [(20,2)] 0 (by kernel_rfl) (by kernel_rfl) (by kernel_rfl) (by kernel_rfl) (by kernel_rfl) ⟨⟨_,hW⟩,rfl⟩ ?_
        simp only [pickR,List.toList_toArray,List.flatMap_cons,List.flatMap_nil,List.drop_succ_cons,List.drop_zero,List.take_succ_cons,List.take_zero,List.cons_append,List.nil_append,List.append_nil]
        repeat go_big_quiet_step (fail)
        refine wpQuiet_nil ?_
        refine text_end (by kernel_rfl) ?_
        replace hb:=hb.trans (hW.mono hb.size)
        clear v0 v1 z0 z1 d2 hW hnn s1 s2 HY HN
        go_wp2
        go_ret
        exact ⟨by rw [E1.out];rfl,hB.trans (hb.mono hB.size)⟩
       | true=>
        cases X2 with
        | false=>
         have E1:Hid (E=false):=HY.out rfl
         refine text_begin (S:=fun w' => ∃ u:Lat W3,w' = u.val) (by kernel_rfl) ?_
         refine seg_range [(0,8)] 14 (by kernel_rfl) (by kernel_rfl) (by kernel_rfl) (by kernel_rfl) (by kernel_rfl) ⟨⟨_,hW⟩,rfl⟩ ?_
         simp only [pickR,List.toList_toArray,List.flatMap_cons,List.flatMap_nil,List.drop_succ_cons,List.drop_zero,List.take_succ_cons,List.take_zero,List.cons_append,List.nil_append,List.append_nil]
         repeat go_big_quiet_step (fail)
         refine wpQuiet_nil ?_
         refine call_at 8 (some 46) 85 #[.slice x1 pr.length j1,.slice y1 qr.length l1] 13 (by kernel_rfl) (by kernel_rfl) (by kernel_rfl) (by kernel_rfl) (by kernel_rfl) ?_
         refine (s1 _ (u1.below hW) (t1.below hW)).mono ?_
         rintro e w9 ⟨rfl,hb9⟩
         replace hW:=hW.trans (hb9.mono hW.size)
         clear hb9
         refine ⟨_,rfl,⟨⟨_,hW⟩,rfl⟩,?_⟩
         simp only [Act.put,List.setIfInBounds_toArray,List.set_cons_zero,List.set_cons_succ]
         refine seg_range [(9,10)] 3 (by kernel_rfl) (by kernel_rfl) (by kernel_rfl) (by kernel_rfl) (by kernel_rfl) ⟨⟨_,hW⟩,rfl⟩ ?_
         simp only [pickR,List.toList_toArray,List.flatMap_cons,List.flatMap_nil,List.drop_succ_cons,List.drop_zero,List.take_succ_cons,List.take_zero,List.cons_append,List.nil_append,List.append_nil]
         repeat go_big_quiet_step (fail)
         refine wpQuiet_nil ?_
         refine call_at 19 (some 57) 85 #[.slice x2 pp.length j2,.slice y2 qp.length l2] 2 (by kernel_rfl) (by kernel_rfl) (by kernel_rfl) (by kernel_rfl) (by kernel_rfl) ?_
         refine (s2 _ (u2.below hW) (t2.below hW)).mono ?_
         rintro e w9 ⟨rfl,hb9⟩
         replace hW:=hW.trans (hb9.mono hW.size)
         clear hb9
         refine ⟨_,rfl,⟨⟨_,hW⟩,rfl⟩,?_⟩
         simp only [Act.put,List.setIfInBounds_toArray,List.set_cons_zero,List.set_cons_succ]
         refine seg_range [(20,2)] 0 (by kernel_rfl) (by kernel_rfl) (by kernel_rfl) (by kernel_rfl) (by kernel_rfl) ⟨⟨_,hW⟩,rfl⟩ ?_
         simp only [pickR,List.toList_toArray,List.flatMap_cons,List.flatMap_nil,List.drop_succ_cons,List.drop_zero,List.take_succ_cons,List.take_zero,List.cons_append,List.nil_append,List.append_nil]
         repeat go_big_quiet_step (fail)
         refine wpQuiet_nil ?_
         refine text_end (by kernel_rfl) ?_
         replace hb:=hb.trans (hW.mono hb.size)
         clear v0 v1 z0 z1 d2 hW hnn s1 s2 HY HN
         go_wp2
         go_ret
         exact ⟨by rw [E1.out];rfl,hB.trans (hb.mono hB.size)⟩
        | true=>
         have HR:=HN.out rfl
         have HR' : Hid _:=HR
         clear HR
         refine text_begin (S:=fun w' => ∃ u:Lat W3,w' = u.val) (by kernel_rfl) ?_
         refine seg_range [(0,8)] 14 (by kernel_rfl) (by kernel_rfl) (by kernel_rfl) (by kernel_rfl) (by kernel_rfl) ⟨⟨_,hW⟩,rfl⟩ ?_
         simp only [pickR,List.toList_toArray,List.flatMap_cons,List.flatMap_nil,List.drop_succ_cons,List.drop_zero,List.take_succ_cons,List.take_zero,List.cons_append,List.nil_append,List.append_nil]
         repeat go_big_quiet_step (fail)
         refine wpQuiet_nil ?_
         refine call_at 8 (some 46) 85 #[.slice x1 pr.length j1,.slice y1 qr.length l1] 13 (by kernel_rfl) (by kernel_rfl) (by kernel_rfl) (by kernel_rfl) (by kernel_rfl) ?_
         refine (s1 _ (u1.below hW) (t1.below hW)).mono ?_
         rintro e w9 ⟨rfl,hb9⟩
         replace hW:=hW.trans (hb9.mono hW.size)
         clear hb9
         refine ⟨_,rfl,⟨⟨_,hW⟩,rfl⟩,?_⟩
         simp only [Act.put,List.setIfInBounds_toArray,List.set_cons_zero,List.set_cons_succ]
         refine seg_range [(9,10)] 3 (by kernel_rfl) (by kernel_rfl) (by kernel_rfl) (by kernel_rfl) (by kernel_rfl) ⟨⟨_,hW⟩,rfl⟩ ?_
         simp only [pickR,List.toList_toArray,List.flatMap_cons,List.flatMap_nil,List.drop_succ_cons,List.drop_zero,List.take_succ_cons,List.take_zero,List.cons_append,List.nil_append,List.append_nil]
         repeat go_big_quiet_step (fail)
         refine wpQuiet_nil ?_
         refine call_at 19 (some 57) 85 #[.slice x2 pp.length j2,.slice y2 qp.length l2] 2 (by kernel_rfl) (by kernel_rfl) (by kernel_rfl) (by kernel_rfl) (by kernel_rfl) ?_
         refine (s2 _ (u2.below hW) (t2.below hW)).mono ?_
         rintro e w9 ⟨rfl,hb9⟩
         replace hW:=hW.trans (hb9.mono hW.size)
         clear hb9
         refine ⟨_,rfl,⟨⟨_,hW⟩,rfl⟩,?_⟩
         simp only [Act.put,List.setIfInBounds_toArray,List.set_cons_zero,List.set_cons_succ]
         refine seg_range [(20,2)] 0 (by kernel_rfl) (by kernel_rfl) (by kernel_rfl) (by kernel_rfl) (by kernel_rfl) ⟨⟨_,hW⟩,rfl⟩ ?_
         simp only [pickR,List.toList_toArray,List.flatMap_cons,List.flatMap_nil,List.drop_succ_cons,List.drop_zero,List.take_succ_cons,List.take_zero,List.cons_append,List.nil_append,List.append_nil]
         repeat go_big_quiet_step (fail)
         refine wpQuiet_nil ?_
         refine text_end (by kernel_rfl) ?_
         replace hb:=hb.trans (hW.mono hb.size)
         clear v0 v1 z0 z1 d2 hW hnn s1 s2 HY HN
         go_wp2
         go_roundw
         case rel=>exact ⟨k + 1,by omega,by go_num,HR'.out,hb⟩
         case measure=>simp [intOf];omega
      ·have E1:Hid (E=Z):=show _=_ by rw [HE2.out,kpRs_all (fun j hj=>HA.out j (by simp at hj;omega))];simp
       have hlti:¬ (k:Int) < (rs.length:Int):=by omega
       have p3:=B1.cell 3 _ rfl
       have q3:=B2.cell 3 _ rfl
       clear HA HE2
       go_wp2_with fail
       clear p3 q3
       refine (e3 wr (hD.below hBw) (gD.below hBw)).mono ?_
       rintro e w9 ⟨rfl,hb9⟩
       have hBf:=hBw.trans (hb9.mono hBw.size)
       clear hb9 e3
       go_wp2
       go_ret
       exact ⟨by rw [E1.out];rfl,hBf⟩

end Go.Proofs.YtjjolkihiclopaaGreatDoor
namespace Go.Proofs.YtjjolkihiclopaaGreatDoor
open Go.RowKit
open Go.BigFrame
set_option maxRecDepth 100000
def diV (ds:List InstE):Int:=if ordF ds=0 then (decN ds:Int) else 0

theorem last_at (ps:List InstQ) (hlt:ps.length - 1 < ps.length):lastE (ps.map InstQ.e)=InstQ.e ps[ps.length - 1]:=by
 unfold lastE
 rw [List.length_map]
 exact inst_at ps _ hlt

set_option maxHeartbeats 4000000 in
theorem implDecidedIn_any (v:Value) (ps:List InstQ) (w:World) (hG:Rul w) (h:instK.At w v ps) (hl:(ps.length + nmL InstQ.n ps)≤1048576) :
  Calls Tryz.prog 12 #[v] w fun e w' => e=.returned (.agg #[.int .i64 (ordF (ps.map InstQ.e)),.int .i64 (diV (ps.map InstQ.e))])∧Below w.heap.size w w' := by
 have hof:=fun w hG h=>implOrderFault_any v ps w hG h hl
 have HO:Hid (ordF (ps.map InstQ.e)=0→1≤ps.length∧ps.length≤4∧∀ q∈ps,insF (InstQ.e q)=0):=fun h0=>by
  have:=((ord_iff _).1 h0).1
  rw [List.length_map] at this
  exact ⟨this.1,this.2,fun q hq=>ord_mem h0 _ (List.mem_map.2 ⟨q,hq,rfl⟩)⟩
 have HV:Hid ((ordF (ps.map InstQ.e)=0→diV (ps.map InstQ.e)=(decN (ps.map InstQ.e):Int))∧(ordF (ps.map InstQ.e)≠0→diV (ps.map InstQ.e)=0)):=⟨fun h0=>if_pos h0,fun h0=>if_neg h0⟩
 obtain ⟨a,cap,rfl⟩:=h.shape
 generalize ordF (ps.map InstQ.e)=C at *
 generalize diV (ps.map InstQ.e)=V at *
 have hB:Below w.heap.size w (w.alloc (.cells #[.int .i64 0,.int .i64 0] 38)):=by go_grown
 have Rb:=Blk.new w 38 #[.int .i64 0,.int .i64 0]
 go_enter Tryz.func12,Tryz.ntmps12
 go_wp2_with fail
 generalize w.alloc (.cells #[.int .i64 0,.int .i64 0] 38)=W at *
 refine (hof W (hG.below hB) (h.below hB)).mono ?_
 rintro e w1 ⟨rfl,hb⟩
 replace hB:=hB.trans (hb.mono hB.size)
 replace Rb:=Rb.below hb
 clear hb hof
 by_cases hC:C=0
 ·obtain ⟨h1,h4,hin⟩:=HO.out hC
  have hv:=HV.out.1 hC
  subst hC
  have hlt:ps.length - 1 < ps.length:=by omega
  have hin2:=hin _ (List.getElem_mem hlt)
  have hoc:=oc_eq (InstQ.e ps[ps.length - 1])
  have HV3:Hid (outV (InstQ.e ps[ps.length - 1]).dec=3→V=(ps.length:Int) - 1):=fun h3=>by
   rw [hv]
   unfold decN
   rw [last_at ps hlt,if_pos h3,List.length_map]
   omega
  have HVn:Hid (outV (InstQ.e ps[ps.length - 1]).dec≠3→V=(ps.length:Int)):=fun h3=>by
   rw [hv]
   unfold decN
   rw [last_at ps hlt,if_neg h3,List.length_map]
  rw [hin2] at hoc
  have hn:InstQ.n ps[ps.length - 1]≤1048576:=by have:=nmI_le ps _ hlt;omega
  have hho0:=hasOutcome_any ps[ps.length - 1]
  have hho:=fun w hG h=>hho0 w hG h hn
  clear hho0 hin hin2 hv HV HO hn
  obtain ⟨b,off,rfl,hbs,hc,hrd⟩:=(h.below hB).cell (by decide) (ps.length - 1) hlt
  have hc' : ∀ j x,(instK.cells ps[ps.length - 1])[j]? = some x→w1.cell? ⟨b,off + (ps.length - 1) * 4 + j,none⟩=some x:=hc
  have c0:=hc' 0 (.bool ps[ps.length - 1].has) rfl
  have c1:=hc' 1 ps[ps.length - 1].vb rfl
  have c2:=hc' 2 ps[ps.length - 1].vr rfl
  have c3:=hc' 3 ps[ps.length - 1].vd rfl
  rw [Nat.add_zero] at c0
  clear hc hc'
  have hidx:((ps.length:Int) - 1).toNat=ps.length - 1:=by omega
  generalize ocC (InstQ.e ps[ps.length - 1])=OC at *
  generalize outV (InstQ.e ps[ps.length - 1]).dec=OV at *
  generalize ps[ps.length - 1]=p at *
  generalize hm:ps.length - 1=m at *
  have hpl:(ps.length:Int) - 1=(m:Int):=by omega
  have hpl2:ps.length=m + 1:=by omega
  rw [hpl] at HV3
  rw [hpl2] at h4 HVn ⊢
  rw [hpl2] at *
  clear hm hidx hpl hpl2
  obtain ⟨has,vb,batch,vr,rounds,vd,dec⟩:=p
  obtain ⟨ba,bk,rfl⟩:∃ a c,vb=.slice a batch.length c:=hrd.1.shape
  obtain ⟨va,vk,rfl⟩:∃ a c,vr=.slice a rounds.length c:=hrd.2.1.shape
  obtain ⟨da,dk,rfl⟩:∃ a c,vd=.slice a dec.length c:=hrd.2.2.shape
  dsimp only at c0 c1 c2 c3 hho
  have q0:=Rb.cell 0 _ rfl
  have q1:=Rb.cell 1 _ rfl
  have f0:=Rb.frozen 0
  have f1:=Rb.frozen 1
  clear q0 q1 f0 f1
  go_wp2_with fail
  refine (hho w1 (hG.below hB) hrd).mono ?_
  rintro e w3 ⟨rfl,hb3⟩
  replace hB:=hB.trans (hb3.mono hB.size)
  replace Rb:=Rb.below hb3
  have q0:=Rb.cell 0 _ rfl
  have q1:=Rb.cell 1 _ rfl
  have f0:=Rb.frozen 0
  have f1:=Rb.frozen 1
  clear hb3 hho c0 c1 c2 c3
  by_cases hO:OV=3
  ·have e1:(OC == 0)=false:=by rw [hoc,hO];rfl
   have E1:Hid (V=(m:Int)):=HV3.out hO
   clear hoc HV3 HVn
   go_wp2
   exact bodyPost_ret (v:=.agg #[.int .i64 0,.int .i64 m]) (by simp [results,Tryz.results12,go_sem,q0,q1]) rfl ⟨by rw [E1.out],(hB.setCell (p:=⟨w.heap.size,0,none⟩) (Nat.le_refl _) _).setCell (p:=⟨w.heap.size,1,none⟩) (Nat.le_refl _) _⟩
  ·have e1:(OC == 0)=true:=by
    rw [hoc]
    have:(OV != 3)=true:=by simpa using hO
    rw [this];rfl
   have E1:Hid (V=(m:Int) + 1):=by have:=HVn.out hO;exact this.trans (by omega)
   clear hoc HV3 HVn
   go_wp2
   exact bodyPost_ret (v:=.agg #[.int .i64 0,.int .i64 ((m:Int) + 1)]) (by simp [results,Tryz.results12,go_sem,q0,q1]) rfl ⟨by rw [E1.out],(hB.setCell (p:=⟨w.heap.size,0,none⟩) (Nat.le_refl _) _).setCell (p:=⟨w.heap.size,1,none⟩) (Nat.le_refl _) _⟩
 ·have E1:Hid (V=0):=HV.out.2 hC
  have hC' : (C != 0)=true:=by simpa using hC
  have q0:=Rb.cell 0 _ rfl
  have q1:=Rb.cell 1 _ rfl
  have f0:=Rb.frozen 0
  have f1:=Rb.frozen 1
  clear HV HO
  go_wp2
  exact bodyPost_ret (v:=.agg #[.int .i64 C,.int .i64 0]) (by simp [results,Tryz.results12,go_sem,q0,q1]) rfl ⟨by rw [E1.out],(hB.setCell (p:=⟨w.heap.size,0,none⟩) (Nat.le_refl _) _).setCell (p:=⟨w.heap.size,1,none⟩) (Nat.le_refl _) _⟩

end Go.Proofs.YtjjolkihiclopaaGreatDoor
