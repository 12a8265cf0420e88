/- Texts joined, with what the law reaches alone. -/
import Derived.Test.YtjjolkihiclopaaGreatDoorSBBE
set_option linter.unusedVariables false
set_option linter.unusedSimpArgs false
namespace Go.Proofs.YtjjolkihiclopaaGreatDoor
open Go.RowKit
open Go.BigFrame
set_option maxRecDepth 100000
set_option maxHeartbeats 8000000 in
theorem l7Grown_any (b o b' o' : Nat) (p q:InstQ) (w:World) (hP:InstP w b o p) (hQ:InstP w b' o' q) (hl:p.n≤1048576) (hl' : q.n≤1048576) (hw:∀ r∈p.rounds,r.rep.length=3∧r.pro.length=3) (hw' : ∀ r∈q.rounds,r.rep.length=3∧r.pro.length=3) (hd3:p.dec.length=3) (hd3' : q.dec.length=3) :
  Calls Tryz.prog 54 #[.pointer (some ⟨b,o,none⟩),.pointer (some ⟨b',o',none⟩)] w fun e w' => e=.returned (.bool (grw p.e q.e))∧Below w.heap.size w w' := by
 have hB:Below w.heap.size w w:=Below.refl _ _
 obtain ⟨h1,vb,bt,vr,rs,vd,dc⟩:=p
 obtain ⟨h2,vb',bt',vr',rs',vd',dc'⟩:=q
 obtain ⟨hT,hR,hD⟩:txnK.At w vb bt∧roundK.At w vr rs∧intK.At w vd dc:=hP.rd
 obtain ⟨gT,gR,gD⟩:txnK.At w vb' bt' ∧ roundK.At w vr' rs' ∧ intK.At w vd' dc' := hQ.rd
 dsimp only [InstQ.n] at hl hl' hw hw' hd3 hd3'
 obtain ⟨a1,k1,rfl⟩:=hT.shape
 obtain ⟨a2,k2,rfl⟩:=hR.shape
 obtain ⟨a3,k3,rfl⟩:=hD.shape
 obtain ⟨b1,m1,rfl⟩:=gT.shape
 obtain ⟨b2,m2,rfl⟩:=gR.shape
 obtain ⟨b3,m3,rfl⟩:=gD.shape
 have e1:=fun w h h' => specSameTxns_any (.slice a1 bt.length k1) (.slice b1 bt'.length m1) (bt.map TxnQ.e) (bt'.map TxnQ.e) w h h' (by rw [List.length_map,sumA_of'];omega) (by rw [List.length_map,sumA_of'];omega)
 have e3:=fun w h h' => l7Keeps_any (.slice a3 dc.length k3) (.slice b3 dc'.length m3) dc dc' w h h' hd3 hd3'
 generalize hE:grw _ _=E
 have HE:Hid (E=((!h1 || (h2 && sameTs (bt.map TxnQ.e) (bt'.map TxnQ.e))) && decide (rs.length≤rs'.length) && kpRs (rs.map RoundQ.e) (rs'.map RoundQ.e) && kps dc dc')):=show _=_ by
  rw [← hE]
  unfold grw
  simp only [InstQ.e,List.length_map]
 clear hE hd3 hd3'
 generalize sameTs (bt.map TxnQ.e) (bt'.map TxnQ.e)=X at *
 generalize kps dc dc' = Z at *
 go_enter Tryz.func54,Tryz.ntmps54
 go_wp2_with fail
 by_cases hlen:rs'.length < rs.length
 ·have hd:decide ((rs'.length:Int) < (rs.length:Int))=true:=decide_eq_true (by omega)
  have hd2:(rs'.length:Int) < (rs.length:Int):=by omega
  have hle:decide (rs.length≤rs'.length)=false:=decide_eq_false (by omega)
  have HE0:Hid (E=false):=show _=_ by rw [HE.out,hle];simp
  clear hle hlen
  cases h1 with
  | false=>
   have E1:Hid (E=false):=HE0.out
   have hW:Below w.heap.size w w.drew:=(Below.refl _ _).drew
   have hnn:Nonempty (Lat w):=⟨⟨w,Below.refl _ _⟩⟩
   have c0:=lat_cell hP.box.c0
   have c1:=lat_cell hP.box.c1
   have c2:=lat_cell hP.box.c2
   have c3:=lat_cell hP.box.c3
   have d0:=lat_cell hQ.box.c0
   have d1:=lat_cell hQ.box.c1
   have d2:=lat_cell hQ.box.c2
   have d3:=lat_cell hQ.box.c3
   dsimp only at c0 c1 c2 c3 d0 d1 d2 d3
   clear HE
   refine text_begin (S:=fun w' => ∃ u:Lat w,w' = u.val) (by kernel_rfl) ?_
   refine seg_range [(0,19)] 29 (by kernel_rfl) (by kernel_rfl) (by kernel_rfl) (by kernel_rfl) (by kernel_rfl) ⟨⟨_,hW⟩,rfl⟩ ?_
   simp only [pickR,List.toList_toArray,List.flatMap_cons,List.flatMap_nil,List.drop_succ_cons,List.drop_zero,List.take_succ_cons,List.take_zero,List.cons_append,List.nil_append,List.append_nil]
   repeat go_big_quiet_step (fail)
   refine wpQuiet_nil ?_
   refine skip_at 19 (some 25) 28 (by kernel_rfl) (by kernel_rfl) (by kernel_rfl) (by kernel_rfl) (by kernel_rfl) ⟨⟨_,hW⟩,rfl⟩ ?_
   simp only [Act.put,List.setIfInBounds_toArray,List.set_cons_zero,List.set_cons_succ]
   refine seg_range [(20,8),(29,4)] 16 (by kernel_rfl) (by kernel_rfl) (by kernel_rfl) (by kernel_rfl) (by kernel_rfl) ⟨⟨_,hW⟩,rfl⟩ ?_
   simp only [pickR,List.toList_toArray,List.flatMap_cons,List.flatMap_nil,List.drop_succ_cons,List.drop_zero,List.take_succ_cons,List.take_zero,List.cons_append,List.nil_append,List.append_nil]
   repeat go_big_quiet_step (fail)
   refine wpQuiet_nil ?_
   refine quiet_at 28 (some 34) (.int .i64 (rs'.length:Int)) 15 (by kernel_rfl) (by kernel_rfl) (by kernel_rfl) (by kernel_rfl) (by kernel_rfl) (fun u _=>by kernel_rfl) ⟨⟨_,hW⟩,rfl⟩ ?_
   simp only [Act.put,List.setIfInBounds_toArray,List.set_cons_zero,List.set_cons_succ]
   refine quiet_at 33 (some 39) (.int .i64 (rs.length:Int)) 14 (by kernel_rfl) (by kernel_rfl) (by kernel_rfl) (by kernel_rfl) (by kernel_rfl) (fun u _=>by kernel_rfl) ⟨⟨_,hW⟩,rfl⟩ ?_
   simp only [Act.put,List.setIfInBounds_toArray,List.set_cons_zero,List.set_cons_succ]
   refine seg_range [(34,11)] 3 (by kernel_rfl) (by kernel_rfl) (by kernel_rfl) (by kernel_rfl) (by kernel_rfl) ⟨⟨_,hW⟩,rfl⟩ ?_
   simp only [pickR,List.toList_toArray,List.flatMap_cons,List.flatMap_nil,List.drop_succ_cons,List.drop_zero,List.take_succ_cons,List.take_zero,List.cons_append,List.nil_append,List.append_nil]
   repeat go_big_quiet_step (fail)
   refine wpQuiet_nil ?_
   refine skip_at 45 (some 51) 2 (by kernel_rfl) (by kernel_rfl) (by kernel_rfl) (by kernel_rfl) (by kernel_rfl) ⟨⟨_,hW⟩,rfl⟩ ?_
   simp only [Act.put,List.setIfInBounds_toArray,List.set_cons_zero,List.set_cons_succ]
   refine seg_range [(46,2)] 0 (by kernel_rfl) (by kernel_rfl) (by kernel_rfl) (by kernel_rfl) (by kernel_rfl) ⟨⟨_,hW⟩,rfl⟩ ?_
   simp only [pickR,List.toList_toArray,List.flatMap_cons,List.flatMap_nil,List.drop_succ_cons,List.drop_zero,List.take_succ_cons,List.take_zero,List.cons_append,List.nil_append,List.append_nil]
   repeat go_big_quiet_step (fail)
   refine wpQuiet_nil ?_
   refine text_end (by kernel_rfl) ?_
   replace hB:=hB.trans (hW.mono hB.size)
   clear c0 c1 c2 c3 d0 d1 d2 d3 hW hnn
   go_wp2
   go_ret
   exact ⟨by rw [E1.out];rfl,hB⟩
  | true=>
   cases h2 with
   | false=>
    have E1:Hid (E=false):=HE0.out
    have hW:Below w.heap.size w w.drew:=(Below.refl _ _).drew
    have hnn:Nonempty (Lat w):=⟨⟨w,Below.refl _ _⟩⟩
    have c0:=lat_cell hP.box.c0
    have c1:=lat_cell hP.box.c1
    have c2:=lat_cell hP.box.c2
    have c3:=lat_cell hP.box.c3
    have d0:=lat_cell hQ.box.c0
    have d1:=lat_cell hQ.box.c1
    have d2:=lat_cell hQ.box.c2
    have d3:=lat_cell hQ.box.c3
    dsimp only at c0 c1 c2 c3 d0 d1 d2 d3
    clear HE
    refine text_begin (S:=fun w' => ∃ u:Lat w,w' = u.val) (by kernel_rfl) ?_
    refine seg_range [(0,19)] 29 (by kernel_rfl) (by kernel_rfl) (by kernel_rfl) (by kernel_rfl) (by kernel_rfl) ⟨⟨_,hW⟩,rfl⟩ ?_
    simp only [pickR,List.toList_toArray,List.flatMap_cons,List.flatMap_nil,List.drop_succ_cons,List.drop_zero,List.take_succ_cons,List.take_zero,List.cons_append,List.nil_append,List.append_nil]
    repeat go_big_quiet_step (fail)
    refine wpQuiet_nil ?_
    refine skip_at 19 (some 25) 28 (by kernel_rfl) (by kernel_rfl) (by kernel_rfl) (by kernel_rfl) (by kernel_rfl) ⟨⟨_,hW⟩,rfl⟩ ?_
    simp only [Act.put,List.setIfInBounds_toArray,List.set_cons_zero,List.set_cons_succ]
    refine seg_range [(20,8),(29,4)] 16 (by kernel_rfl) (by kernel_rfl) (by kernel_rfl) (by kernel_rfl) (by kernel_rfl) ⟨⟨_,hW⟩,rfl⟩ ?_
    simp only [pickR,List.toList_toArray,List.flatMap_cons,List.flatMap_nil,List.drop_succ_cons,List.drop_zero,List.take_succ_cons,List.take_zero,List.cons_append,List.nil_append,List.append_nil]
    repeat go_big_quiet_step (fail)
    refine wpQuiet_nil ?_
    refine skip_at 28 (some 34) 15 (by kernel_rfl) (by kernel_rfl) (by kernel_rfl) (by kernel_rfl) (by kernel_rfl) ⟨⟨_,hW⟩,rfl⟩ ?_
    simp only [Act.put,List.setIfInBounds_toArray,List.set_cons_zero,List.set_cons_succ]
    refine skip_at 33 (some 39) 14 (by kernel_rfl) (by kernel_rfl) (by kernel_rfl) (by kernel_rfl) (by kernel_rfl) ⟨⟨_,hW⟩,rfl⟩ ?_
    simp only [Act.put,List.setIfInBounds_toArray,List.set_cons_zero,List.set_cons_succ]
    refine seg_range [(34,11)] 3 (by kernel_rfl) (by kernel_rfl) (by kernel_rfl) (by kernel_rfl) (by kernel_rfl) ⟨⟨_,hW⟩,rfl⟩ ?_
    simp only [pickR,List.toList_toArray,List.flatMap_cons,List.flatMap_nil,List.drop_succ_cons,List.drop_zero,List.take_succ_cons,List.take_zero,List.cons_append,List.nil_append,List.append_nil]
    repeat go_big_quiet_step (fail)
    refine wpQuiet_nil ?_
    refine skip_at 45 (some 51) 2 (by kernel_rfl) (by kernel_rfl) (by kernel_rfl) (by kernel_rfl) (by kernel_rfl) ⟨⟨_,hW⟩,rfl⟩ ?_
    simp only [Act.put,List.setIfInBounds_toArray,List.set_cons_zero,List.set_cons_succ]
    refine seg_range [(46,2)] 0 (by kernel_rfl) (by kernel_rfl) (by kernel_rfl) (by kernel_rfl) (by kernel_rfl) ⟨⟨_,hW⟩,rfl⟩ ?_
    simp only [pickR,List.toList_toArray,List.flatMap_cons,List.flatMap_nil,List.drop_succ_cons,List.drop_zero,List.take_succ_cons,List.take_zero,List.cons_append,List.nil_append,List.append_nil]
    repeat go_big_quiet_step (fail)
    refine wpQuiet_nil ?_
    refine text_end (by kernel_rfl) ?_
    replace hB:=hB.trans (hW.mono hB.size)
    clear c0 c1 c2 c3 d0 d1 d2 d3 hW hnn
    go_wp2
    go_ret
    exact ⟨by rw [E1.out];rfl,hB⟩
   | true=>
    cases X with
    | false=>
     have E1:Hid (E=false):=HE0.out
     have hW:Below w.heap.size w w.drew:=(Below.refl _ _).drew
     have hnn:Nonempty (Lat w):=⟨⟨w,Below.refl _ _⟩⟩
     have c0:=lat_cell hP.box.c0
     have c1:=lat_cell hP.box.c1
     have c2:=lat_cell hP.box.c2
     have c3:=lat_cell hP.box.c3
     have d0:=lat_cell hQ.box.c0
     have d1:=lat_cell hQ.box.c1
     have d2:=lat_cell hQ.box.c2
     have d3:=lat_cell hQ.box.c3
     dsimp only at c0 c1 c2 c3 d0 d1 d2 d3
     clear HE
     refine text_begin (S:=fun w' => ∃ u:Lat w,w' = u.val) (by kernel_rfl) ?_
     refine seg_range [(0,19)] 29 (by kernel_rfl) (by kernel_rfl) (by kernel_rfl) (by kernel_rfl) (by kernel_rfl) ⟨⟨_,hW⟩,rfl⟩ ?_
     simp only [pickR,List.toList_toArray,List.flatMap_cons,List.flatMap_nil,List.drop_succ_cons,List.drop_zero,List.take_succ_cons,List.take_zero,List.cons_append,List.nil_append,List.append_nil]
     repeat go_big_quiet_step (fail)
     refine wpQuiet_nil ?_
     refine call_at 19 (some 25) 69 #[.slice a1 bt.length k1,.slice b1 bt'.length m1] 28 (by kernel_rfl) (by kernel_rfl) (by kernel_rfl) (by kernel_rfl) (by kernel_rfl) ?_
     refine (e1 _ (txnsAt_of' (hT.below hW)) (txnsAt_of' (gT.below hW))).mono ?_
     rintro e w9 ⟨rfl,hb9⟩
     replace hW:=hW.trans (hb9.mono hW.size)
     clear hb9
     refine ⟨_,rfl,⟨⟨_,hW⟩,rfl⟩,?_⟩
     simp only [Act.put,List.setIfInBounds_toArray,List.set_cons_zero,List.set_cons_succ]
     refine seg_range [(20,8),(29,4)] 16 (by kernel_rfl) (by kernel_rfl) (by kernel_rfl) (by kernel_rfl) (by kernel_rfl) ⟨⟨_,hW⟩,rfl⟩ ?_
     simp only [pickR,List.toList_toArray,List.flatMap_cons,List.flatMap_nil,List.drop_succ_cons,List.drop_zero,List.take_succ_cons,List.take_zero,List.cons_append,List.nil_append,List.append_nil]
     repeat go_big_quiet_step (fail)
     refine wpQuiet_nil ?_
     refine skip_at 28 (some 34) 15 (by kernel_rfl) (by kernel_rfl) (by kernel_rfl) (by kernel_rfl) (by kernel_rfl) ⟨⟨_,hW⟩,rfl⟩ ?_
     simp only [Act.put,List.setIfInBounds_toArray,List.set_cons_zero,List.set_cons_succ]
     refine skip_at 33 (some 39) 14 (by kernel_rfl) (by kernel_rfl) (by kernel_rfl) (by kernel_rfl) (by kernel_rfl) ⟨⟨_,hW⟩,rfl⟩ ?_
     simp only [Act.put,List.setIfInBounds_toArray,List.set_cons_zero,List.set_cons_succ]
     refine seg_range [(34,11)] 3 (by kernel_rfl) (by kernel_rfl) (by kernel_rfl) (by kernel_rfl) (by kernel_rfl) ⟨⟨_,hW⟩,rfl⟩ ?_
     simp only [pickR,List.toList_toArray,List.flatMap_cons,List.flatMap_nil,List.drop_succ_cons,List.drop_zero,List.take_succ_cons,List.take_zero,List.cons_append,List.nil_append,List.append_nil]
     repeat go_big_quiet_step (fail)
     refine wpQuiet_nil ?_
     refine skip_at 45 (some 51) 2 (by kernel_rfl) (by kernel_rfl) (by kernel_rfl) (by kernel_rfl) (by kernel_rfl) ⟨⟨_,hW⟩,rfl⟩ ?_
     simp only [Act.put,List.setIfInBounds_toArray,List.set_cons_zero,List.set_cons_succ]
     refine seg_range [(46,2)] 0 (by kernel_rfl) (by kernel_rfl) (by kernel_rfl) (by kernel_rfl) (by kernel_rfl) ⟨⟨_,hW⟩,rfl⟩ ?_
     simp only [pickR,List.toList_toArray,List.flatMap_cons,List.flatMap_nil,List.drop_succ_cons,List.drop_zero,List.take_succ_cons,List.take_zero,List.cons_append,List.nil_append,List.append_nil]
     repeat go_big_quiet_step (fail)
     refine wpQuiet_nil ?_
     refine text_end (by kernel_rfl) ?_
     replace hB:=hB.trans (hW.mono hB.size)
     clear c0 c1 c2 c3 d0 d1 d2 d3 hW hnn
     go_wp2
     go_ret
     exact ⟨by rw [E1.out];rfl,hB⟩
    | true=>
     have E1:Hid (E=false):=HE0.out
     have hW:Below w.heap.size w w.drew:=(Below.refl _ _).drew
     have hnn:Nonempty (Lat w):=⟨⟨w,Below.refl _ _⟩⟩
     have c0:=lat_cell hP.box.c0
     have c1:=lat_cell hP.box.c1
     have c2:=lat_cell hP.box.c2
     have c3:=lat_cell hP.box.c3
     have d0:=lat_cell hQ.box.c0
     have d1:=lat_cell hQ.box.c1
     have d2:=lat_cell hQ.box.c2
     have d3:=lat_cell hQ.box.c3
     dsimp only at c0 c1 c2 c3 d0 d1 d2 d3
     clear HE
     refine text_begin (S:=fun w' => ∃ u:Lat w,w' = u.val) (by kernel_rfl) ?_
     refine seg_range [(0,19)] 29 (by kernel_rfl) (by kernel_rfl) (by kernel_rfl) (by kernel_rfl) (by kernel_rfl) ⟨⟨_,hW⟩,rfl⟩ ?_
     simp only [pickR,List.toList_toArray,List.flatMap_cons,List.flatMap_nil,List.drop_succ_cons,List.drop_zero,List.take_succ_cons,List.take_zero,List.cons_append,List.nil_append,List.append_nil]
     repeat go_big_quiet_step (fail)
     refine wpQuiet_nil ?_
     refine call_at 19 (some 25) 69 #[.slice a1 bt.length k1,.slice b1 bt'.length m1] 28 (by kernel_rfl) (by kernel_rfl) (by kernel_rfl) (by kernel_rfl) (by kernel_rfl) ?_
     refine (e1 _ (txnsAt_of' (hT.below hW)) (txnsAt_of' (gT.below hW))).mono ?_
     rintro e w9 ⟨rfl,hb9⟩
     replace hW:=hW.trans (hb9.mono hW.size)
     clear hb9
     refine ⟨_,rfl,⟨⟨_,hW⟩,rfl⟩,?_⟩
     simp only [Act.put,List.setIfInBounds_toArray,List.set_cons_zero,List.set_cons_succ]
     refine seg_range [(20,8),(29,4)] 16 (by kernel_rfl) (by kernel_rfl) (by kernel_rfl) (by kernel_rfl) (by kernel_rfl) ⟨⟨_,hW⟩,rfl⟩ ?_
     simp only [pickR,List.toList_toArray,List.flatMap_cons,List.flatMap_nil,List.drop_succ_cons,List.drop_zero,List.take_succ_cons,List.take_zero,List.cons_append,List.nil_append,List.append_nil]
     repeat go_big_quiet_step (fail)
     refine wpQuiet_nil ?_
     refine quiet_at 28 (some 34) (.int .i64 (rs'.length:Int)) 15 (by kernel_rfl) (by kernel_rfl) (by kernel_rfl) (by kernel_rfl) (by kernel_rfl) (fun u _=>by kernel_rfl) ⟨⟨_,hW⟩,rfl⟩ ?_
     simp only [Act.put,List.setIfInBounds_toArray,List.set_cons_zero,List.set_cons_succ]
     refine quiet_at 33 (some 39) (.int .i64 (rs.length:Int)) 14 (by kernel_rfl) (by kernel_rfl) (by kernel_rfl) (by kernel_rfl) (by kernel_rfl) (fun u _=>by kernel_rfl) ⟨⟨_,hW⟩,rfl⟩ ?_
     simp only [Act.put,List.setIfInBounds_toArray,List.set_cons_zero,List.set_cons_succ]
     refine seg_range [(34,11)] 3 (by kernel_rfl) (by kernel_rfl) (by kernel_rfl) (by kernel_rfl) (by kernel_rfl) ⟨⟨_,hW⟩,rfl⟩ ?_
     simp only [pickR,List.toList_toArray,List.flatMap_cons,List.flatMap_nil,List.drop_succ_cons,List.drop_zero,List.take_succ_cons,List.take_zero,List.cons_append,List.nil_append,List.append_nil]
     repeat go_big_quiet_step (fail)
     refine wpQuiet_nil ?_
     refine skip_at 45 (some 51) 2 (by kernel_rfl) (by kernel_rfl) (by kernel_rfl) (by kernel_rfl) (by kernel_rfl) ⟨⟨_,hW⟩,rfl⟩ ?_
     simp only [Act.put,List.setIfInBounds_toArray,List.set_cons_zero,List.set_cons_succ]
     refine seg_range [(46,2)] 0 (by kernel_rfl) (by kernel_rfl) (by kernel_rfl) (by kernel_rfl) (by kernel_rfl) ⟨⟨_,hW⟩,rfl⟩ ?_
     simp only [pickR,List.toList_toArray,List.flatMap_cons,List.flatMap_nil,List.drop_succ_cons,List.drop_zero,List.take_succ_cons,List.take_zero,List.cons_append,List.nil_append,List.append_nil]
     repeat go_big_quiet_step (fail)
     refine wpQuiet_nil ?_
     refine text_end (by kernel_rfl) ?_
     replace hB:=hB.trans (hW.mono hB.size)
     clear c0 c1 c2 c3 d0 d1 d2 d3 hW hnn
     go_wp2
     go_ret
     exact ⟨by rw [E1.out];rfl,hB⟩
 ·have hd:decide ((rs'.length:Int) < (rs.length:Int))=false:=decide_eq_false (by omega)
  have hd2:¬ (rs'.length:Int) < (rs.length:Int):=by omega
  have hle:decide (rs.length≤rs'.length)=true:=decide_eq_true (by omega)
  have HL:Hid (rs.length≤rs'.length):=show _≤_ by omega
  rw [hle] at HE
  clear hle hlen
  cases Z with
  | false=>
   have HE0:Hid (E=false):=show _=_ by rw [HE.out];simp
   cases h1 with
   | false=>
    have E1:Hid (E=false):=HE0.out
    have hW:Below w.heap.size w w.drew:=(Below.refl _ _).drew
    have hnn:Nonempty (Lat w):=⟨⟨w,Below.refl _ _⟩⟩
    have c0:=lat_cell hP.box.c0
    have c1:=lat_cell hP.box.c1
    have c2:=lat_cell hP.box.c2
    have c3:=lat_cell hP.box.c3
    have d0:=lat_cell hQ.box.c0
    have d1:=lat_cell hQ.box.c1
    have d2:=lat_cell hQ.box.c2
    have d3:=lat_cell hQ.box.c3
    dsimp only at c0 c1 c2 c3 d0 d1 d2 d3
    clear HE
    refine text_begin (S:=fun w' => ∃ u:Lat w,w' = u.val) (by kernel_rfl) ?_
    refine seg_range [(0,19)] 29 (by kernel_rfl) (by kernel_rfl) (by kernel_rfl) (by kernel_rfl) (by kernel_rfl) ⟨⟨_,hW⟩,rfl⟩ ?_
    simp only [pickR,List.toList_toArray,List.flatMap_cons,List.flatMap_nil,List.drop_succ_cons,List.drop_zero,List.take_succ_cons,List.take_zero,List.cons_append,List.nil_append,List.append_nil]
    repeat go_big_quiet_step (fail)
    refine wpQuiet_nil ?_
    refine skip_at 19 (some 25) 28 (by kernel_rfl) (by kernel_rfl) (by kernel_rfl) (by kernel_rfl) (by kernel_rfl) ⟨⟨_,hW⟩,rfl⟩ ?_
    simp only [Act.put,List.setIfInBounds_toArray,List.set_cons_zero,List.set_cons_succ]
    refine seg_range [(20,8),(29,4)] 16 (by kernel_rfl) (by kernel_rfl) (by kernel_rfl) (by kernel_rfl) (by kernel_rfl) ⟨⟨_,hW⟩,rfl⟩ ?_
    simp only [pickR,List.toList_toArray,List.flatMap_cons,List.flatMap_nil,List.drop_succ_cons,List.drop_zero,List.take_succ_cons,List.take_zero,List.cons_append,List.nil_append,List.append_nil]
    repeat go_big_quiet_step (fail)
    refine wpQuiet_nil ?_
    refine quiet_at 28 (some 34) (.int .i64 (rs'.length:Int)) 15 (by kernel_rfl) (by kernel_rfl) (by kernel_rfl) (by kernel_rfl) (by kernel_rfl) (fun u _=>by kernel_rfl) ⟨⟨_,hW⟩,rfl⟩ ?_
    simp only [Act.put,List.setIfInBounds_toArray,List.set_cons_zero,List.set_cons_succ]
    refine quiet_at 33 (some 39) (.int .i64 (rs.length:Int)) 14 (by kernel_rfl) (by kernel_rfl) (by kernel_rfl) (by kernel_rfl) (by kernel_rfl) (fun u _=>by kernel_rfl) ⟨⟨_,hW⟩,rfl⟩ ?_
    simp only [Act.put,List.setIfInBounds_toArray,List.set_cons_zero,List.set_cons_succ]
    refine seg_range [(34,11)] 3 (by kernel_rfl) (by kernel_rfl) (by kernel_rfl) (by kernel_rfl) (by kernel_rfl) ⟨⟨_,hW⟩,rfl⟩ ?_
    simp only [pickR,List.toList_toArray,List.flatMap_cons,List.flatMap_nil,List.drop_succ_cons,List.drop_zero,List.take_succ_cons,List.take_zero,List.cons_append,List.nil_append,List.append_nil]
    repeat go_big_quiet_step (fail)
    refine wpQuiet_nil ?_
    refine call_at 45 (some 51) 88 #[.slice a3 dc.length k3,.slice b3 dc'.length m3] 2 (by kernel_rfl) (by kernel_rfl) (by kernel_rfl) (by kernel_rfl) (by kernel_rfl) ?_
    refine (e3 _ (hD.below hW) (gD.below hW)).mono ?_
    rintro e w9 ⟨rfl,hb9⟩
    replace hW:=hW.trans (hb9.mono hW.size)
    clear hb9
    refine ⟨_,rfl,⟨⟨_,hW⟩,rfl⟩,?_⟩
    simp only [Act.put,List.setIfInBounds_toArray,List.set_cons_zero,List.set_cons_succ]
    refine seg_range [(46,2)] 0 (by kernel_rfl) (by kernel_rfl) (by kernel_rfl) (by kernel_rfl) (by kernel_rfl) ⟨⟨_,hW⟩,rfl⟩ ?_
    simp only [pickR,List.toList_toArray,List.flatMap_cons,List.flatMap_nil,List.drop_succ_cons,List.drop_zero,List.take_succ_cons,List.take_zero,List.cons_append,List.nil_append,List.append_nil]
    repeat go_big_quiet_step (fail)
    refine wpQuiet_nil ?_
    refine text_end (by kernel_rfl) ?_
    replace hB:=hB.trans (hW.mono hB.size)
    clear c0 c1 c2 c3 d0 d1 d2 d3 hW hnn
    go_wp2
    go_ret
    exact ⟨by rw [E1.out];rfl,hB⟩
   | true=>
    cases h2 with
    | false=>
     have E1:Hid (E=false):=HE0.out
     have hW:Below w.heap.size w w.drew:=(Below.refl _ _).drew
     have hnn:Nonempty (Lat w):=⟨⟨w,Below.refl _ _⟩⟩
     have c0:=lat_cell hP.box.c0
     have c1:=lat_cell hP.box.c1
     have c2:=lat_cell hP.box.c2
     have c3:=lat_cell hP.box.c3
     have d0:=lat_cell hQ.box.c0
     have d1:=lat_cell hQ.box.c1
     have d2:=lat_cell hQ.box.c2
     have d3:=lat_cell hQ.box.c3
     dsimp only at c0 c1 c2 c3 d0 d1 d2 d3
     clear HE
     refine text_begin (S:=fun w' => ∃ u:Lat w,w' = u.val) (by kernel_rfl) ?_
     refine seg_range [(0,19)] 29 (by kernel_rfl) (by kernel_rfl) (by kernel_rfl) (by kernel_rfl) (by kernel_rfl) ⟨⟨_,hW⟩,rfl⟩ ?_
     simp only [pickR,List.toList_toArray,List.flatMap_cons,List.flatMap_nil,List.drop_succ_cons,List.drop_zero,List.take_succ_cons,List.take_zero,List.cons_append,List.nil_append,List.append_nil]
     repeat go_big_quiet_step (fail)
     refine wpQuiet_nil ?_
     refine skip_at 19 (some 25) 28 (by kernel_rfl) (by kernel_rfl) (by kernel_rfl) (by kernel_rfl) (by kernel_rfl) ⟨⟨_,hW⟩,rfl⟩ ?_
     simp only [Act.put,List.setIfInBounds_toArray,List.set_cons_zero,List.set_cons_succ]
     refine seg_range [(20,8),(29,4)] 16 (by kernel_rfl) (by kernel_rfl) (by kernel_rfl) (by kernel_rfl) (by kernel_rfl) ⟨⟨_,hW⟩,rfl⟩ ?_
     simp only [pickR,List.toList_toArray,List.flatMap_cons,List.flatMap_nil,List.drop_succ_cons,List.drop_zero,List.take_succ_cons,List.take_zero,List.cons_append,List.nil_append,List.append_nil]
     repeat go_big_quiet_step (fail)
     refine wpQuiet_nil ?_
     refine skip_at 28 (some 34) 15 (by kernel_rfl) (by kernel_rfl) (by kernel_rfl) (by kernel_rfl) (by kernel_rfl) ⟨⟨_,hW⟩,rfl⟩ ?_
     simp only [Act.put,List.setIfInBounds_toArray,List.set_cons_zero,List.set_cons_succ]
     refine skip_at 33 (some 39) 14 (by kernel_rfl) (by kernel_rfl) (by kernel_rfl) (by kernel_rfl) (by kernel_rfl) ⟨⟨_,hW⟩,rfl⟩ ?_
     simp only [Act.put,List.setIfInBounds_toArray,List.set_cons_zero,List.set_cons_succ]
     refine seg_range [(34,11)] 3 (by kernel_rfl) (by kernel_rfl) (by kernel_rfl) (by kernel_rfl) (by kernel_rfl) ⟨⟨_,hW⟩,rfl⟩ ?_
     simp only [pickR,List.toList_toArray,List.flatMap_cons,List.flatMap_nil,List.drop_succ_cons,List.drop_zero,List.take_succ_cons,List.take_zero,List.cons_append,List.nil_append,List.append_nil]
     repeat go_big_quiet_step (fail)
     refine wpQuiet_nil ?_
     refine skip_at 45 (some 51) 2 (by kernel_rfl) (by kernel_rfl) (by kernel_rfl) (by kernel_rfl) (by kernel_rfl) ⟨⟨_,hW⟩,rfl⟩ ?_
     simp only [Act.put,List.setIfInBounds_toArray,List.set_cons_zero,List.set_cons_succ]
     refine seg_range [(46,2)] 0 (by kernel_rfl) (by kernel_rfl) (by kernel_rfl) (by kernel_rfl) (by kernel_rfl) ⟨⟨_,hW⟩,rfl⟩ ?_
     simp only [pickR,List.toList_toArray,List.flatMap_cons,List.flatMap_nil,List.drop_succ_cons,List.drop_zero,List.take_succ_cons,List.take_zero,List.cons_append,List.nil_append,List.append_nil]
     repeat go_big_quiet_step (fail)
     refine wpQuiet_nil ?_
     refine text_end (by kernel_rfl) ?_
     replace hB:=hB.trans (hW.mono hB.size)
     clear c0 c1 c2 c3 d0 d1 d2 d3 hW hnn
     go_wp2
     go_ret
     exact ⟨by rw [E1.out];rfl,hB⟩
    | true=>
     cases X with
     | false=>
      have E1:Hid (E=false):=HE0.out
      have hW:Below w.heap.size w w.drew:=(Below.refl _ _).drew
      have hnn:Nonempty (Lat w):=⟨⟨w,Below.refl _ _⟩⟩
      have c0:=lat_cell hP.box.c0
      have c1:=lat_cell hP.box.c1
      have c2:=lat_cell hP.box.c2
      have c3:=lat_cell hP.box.c3
      have d0:=lat_cell hQ.box.c0
      have d1:=lat_cell hQ.box.c1
      have d2:=lat_cell hQ.box.c2
      have d3:=lat_cell hQ.box.c3
      dsimp only at c0 c1 c2 c3 d0 d1 d2 d3
      clear HE
      refine text_begin (S:=fun w' => ∃ u:Lat w,w' = u.val) (by kernel_rfl) ?_
      refine seg_range [(0,19)] 29 (by kernel_rfl) (by kernel_rfl) (by kernel_rfl) (by kernel_rfl) (by kernel_rfl) ⟨⟨_,hW⟩,rfl⟩ ?_
      simp only [pickR,List.toList_toArray,List.flatMap_cons,List.flatMap_nil,List.drop_succ_cons,List.drop_zero,List.take_succ_cons,List.take_zero,List.cons_append,List.nil_append,List.append_nil]
      repeat go_big_quiet_step (fail)
      refine wpQuiet_nil ?_
      refine call_at 19 (some 25) 69 #[.slice a1 bt.length k1,.slice b1 bt'.length m1] 28 (by kernel_rfl) (by kernel_rfl) (by kernel_rfl) (by kernel_rfl) (by kernel_rfl) ?_
      refine (e1 _ (txnsAt_of' (hT.below hW)) (txnsAt_of' (gT.below hW))).mono ?_
      rintro e w9 ⟨rfl,hb9⟩
      replace hW:=hW.trans (hb9.mono hW.size)
      clear hb9
      refine ⟨_,rfl,⟨⟨_,hW⟩,rfl⟩,?_⟩
      simp only [Act.put,List.setIfInBounds_toArray,List.set_cons_zero,List.set_cons_succ]
      refine seg_range [(20,8),(29,4)] 16 (by kernel_rfl) (by kernel_rfl) (by kernel_rfl) (by kernel_rfl) (by kernel_rfl) ⟨⟨_,hW⟩,rfl⟩ ?_
      simp only [pickR,List.toList_toArray,List.flatMap_cons,List.flatMap_nil,List.drop_succ_cons,List.drop_zero,List.take_succ_cons,List.take_zero,List.cons_append,List.nil_append,List.append_nil]
      repeat go_big_quiet_step (fail)
      refine wpQuiet_nil ?_
      refine skip_at 28 (some 34) 15 (by kernel_rfl) (by kernel_rfl) (by kernel_rfl) (by kernel_rfl) (by kernel_rfl) ⟨⟨_,hW⟩,rfl⟩ ?_
      simp only [Act.put,List.setIfInBounds_toArray,List.set_cons_zero,List.set_cons_succ]
      refine skip_at 33 (some 39) 14 (by kernel_rfl) (by kernel_rfl) (by kernel_rfl) (by kernel_rfl) (by kernel_rfl) ⟨⟨_,hW⟩,rfl⟩ ?_
      simp only [Act.put,List.setIfInBounds_toArray,List.set_cons_zero,List.set_cons_succ]
      refine seg_range [(34,11)] 3 (by kernel_rfl) (by kernel_rfl) (by kernel_rfl) (by kernel_rfl) (by kernel_rfl) ⟨⟨_,hW⟩,rfl⟩ ?_
      simp only [pickR,List.toList_toArray,List.flatMap_cons,List.flatMap_nil,List.drop_succ_cons,List.drop_zero,List.take_succ_cons,List.take_zero,List.cons_append,List.nil_append,List.append_nil]
      repeat go_big_quiet_step (fail)
      refine wpQuiet_nil ?_
      refine skip_at 45 (some 51) 2 (by kernel_rfl) (by kernel_rfl) (by kernel_rfl) (by kernel_rfl) (by kernel_rfl) ⟨⟨_,hW⟩,rfl⟩ ?_
      simp only [Act.put,List.setIfInBounds_toArray,List.set_cons_zero,List.set_cons_succ]
      refine seg_range [(46,2)] 0 (by kernel_rfl) (by kernel_rfl) (by kernel_rfl) (by kernel_rfl) (by kernel_rfl) ⟨⟨_,hW⟩,rfl⟩ ?_
      simp only [pickR,List.toList_toArray,List.flatMap_cons,List.flatMap_nil,List.drop_succ_cons,List.drop_zero,List.take_succ_cons,List.take_zero,List.cons_append,List.nil_append,List.append_nil]
      repeat go_big_quiet_step (fail)
      refine wpQuiet_nil ?_
      refine text_end (by kernel_rfl) ?_
      replace hB:=hB.trans (hW.mono hB.size)
      clear c0 c1 c2 c3 d0 d1 d2 d3 hW hnn
      go_wp2
      go_ret
      exact ⟨by rw [E1.out];rfl,hB⟩
     | true=>
      have E1:Hid (E=false):=HE0.out
      have hW:Below w.heap.size w w.drew:=(Below.refl _ _).drew
      have hnn:Nonempty (Lat w):=⟨⟨w,Below.refl _ _⟩⟩
      have c0:=lat_cell hP.box.c0
      have c1:=lat_cell hP.box.c1
      have c2:=lat_cell hP.box.c2
      have c3:=lat_cell hP.box.c3
      have d0:=lat_cell hQ.box.c0
      have d1:=lat_cell hQ.box.c1
      have d2:=lat_cell hQ.box.c2
      have d3:=lat_cell hQ.box.c3
      dsimp only at c0 c1 c2 c3 d0 d1 d2 d3
      clear HE
      refine text_begin (S:=fun w' => ∃ u:Lat w,w' = u.val) (by kernel_rfl) ?_
      refine seg_range [(0,19)] 29 (by kernel_rfl) (by kernel_rfl) (by kernel_rfl) (by kernel_rfl) (by kernel_rfl) ⟨⟨_,hW⟩,rfl⟩ ?_
      simp only [pickR,List.toList_toArray,List.flatMap_cons,List.flatMap_nil,List.drop_succ_cons,List.drop_zero,List.take_succ_cons,List.take_zero,List.cons_append,List.nil_append,List.append_nil]
      repeat go_big_quiet_step (fail)
      refine wpQuiet_nil ?_
      refine call_at 19 (some 25) 69 #[.slice a1 bt.length k1,.slice b1 bt'.length m1] 28 (by kernel_rfl) (by kernel_rfl) (by kernel_rfl) (by kernel_rfl) (by kernel_rfl) ?_
      refine (e1 _ (txnsAt_of' (hT.below hW)) (txnsAt_of' (gT.below hW))).mono ?_
      rintro e w9 ⟨rfl,hb9⟩
      replace hW:=hW.trans (hb9.mono hW.size)
      clear hb9
      refine ⟨_,rfl,⟨⟨_,hW⟩,rfl⟩,?_⟩
      simp only [Act.put,List.setIfInBounds_toArray,List.set_cons_zero,List.set_cons_succ]
      refine seg_range [(20,8),(29,4)] 16 (by kernel_rfl) (by kernel_rfl) (by kernel_rfl) (by kernel_rfl) (by kernel_rfl) ⟨⟨_,hW⟩,rfl⟩ ?_
      simp only [pickR,List.toList_toArray,List.flatMap_cons,List.flatMap_nil,List.drop_succ_cons,List.drop_zero,List.take_succ_cons,List.take_zero,List.cons_append,List.nil_append,List.append_nil]
      repeat go_big_quiet_step (fail)
      refine wpQuiet_nil ?_
      refine quiet_at 28 (some 34) (.int .i64 (rs'.length:Int)) 15 (by kernel_rfl) (by kernel_rfl) (by kernel_rfl) (by kernel_rfl) (by kernel_rfl) (fun u _=>by kernel_rfl) ⟨⟨_,hW⟩,rfl⟩ ?_
      simp only [Act.put,List.setIfInBounds_toArray,List.set_cons_zero,List.set_cons_succ]
      refine quiet_at 33 (some 39) (.int .i64 (rs.length:Int)) 14 (by kernel_rfl) (by kernel_rfl) (by kernel_rfl) (by kernel_rfl) (by kernel_rfl) (fun u _=>by kernel_rfl) ⟨⟨_,hW⟩,rfl⟩ ?_
      simp only [Act.put,List.setIfInBounds_toArray,List.set_cons_zero,List.set_cons_succ]
      refine seg_range [(34,11)] 3 (by kernel_rfl) (by kernel_rfl) (by kernel_rfl) (by kernel_rfl) (by kernel_rfl) ⟨⟨_,hW⟩,rfl⟩ ?_
      simp only [pickR,List.toList_toArray,List.flatMap_cons,List.flatMap_nil,List.drop_succ_cons,List.drop_zero,List.take_succ_cons,List.take_zero,List.cons_append,List.nil_append,List.append_nil]
      repeat go_big_quiet_step (fail)
      refine wpQuiet_nil ?_
      refine call_at 45 (some 51) 88 #[.slice a3 dc.length k3,.slice b3 dc'.length m3] 2 (by kernel_rfl) (by kernel_rfl) (by kernel_rfl) (by kernel_rfl) (by kernel_rfl) ?_
      refine (e3 _ (hD.below hW) (gD.below hW)).mono ?_
      rintro e w9 ⟨rfl,hb9⟩
      replace hW:=hW.trans (hb9.mono hW.size)
      clear hb9
      refine ⟨_,rfl,⟨⟨_,hW⟩,rfl⟩,?_⟩
      simp only [Act.put,List.setIfInBounds_toArray,List.set_cons_zero,List.set_cons_succ]
      refine seg_range [(46,2)] 0 (by kernel_rfl) (by kernel_rfl) (by kernel_rfl) (by kernel_rfl) (by kernel_rfl) ⟨⟨_,hW⟩,rfl⟩ ?_
      simp only [pickR,List.toList_toArray,List.flatMap_cons,List.flatMap_nil,List.drop_succ_cons,List.drop_zero,List.take_succ_cons,List.take_zero,List.cons_append,List.nil_append,List.append_nil]
      repeat go_big_quiet_step (fail)
      refine wpQuiet_nil ?_
      refine text_end (by kernel_rfl) ?_
      replace hB:=hB.trans (hW.mono hB.size)
      clear c0 c1 c2 c3 d0 d1 d2 d3 hW hnn
      go_wp2
      go_ret
      exact ⟨by rw [E1.out];rfl,hB⟩
  | true=>
   cases h1 with
   | false=>
    have HE2:Hid (E=kpRs (rs.map RoundQ.e) (rs'.map RoundQ.e)):=show _=_ by rw [HE.out];simp
    clear HE
    have hW:Below w.heap.size w w.drew:=(Below.refl _ _).drew
    have hnn:Nonempty (Lat w):=⟨⟨w,Below.refl _ _⟩⟩
    have c0:=lat_cell hP.box.c0
    have c1:=lat_cell hP.box.c1
    have c2:=lat_cell hP.box.c2
    have c3:=lat_cell hP.box.c3
    have d0:=lat_cell hQ.box.c0
    have d1:=lat_cell hQ.box.c1
    have d2:=lat_cell hQ.box.c2
    have d3:=lat_cell hQ.box.c3
    dsimp only at c0 c1 c2 c3 d0 d1 d2 d3
    refine text_begin (S:=fun w' => ∃ u:Lat w,w' = u.val) (by kernel_rfl) ?_
    refine seg_range [(0,19)] 29 (by kernel_rfl) (by kernel_rfl) (by kernel_rfl) (by kernel_rfl) (by kernel_rfl) ⟨⟨_,hW⟩,rfl⟩ ?_
    simp only [pickR,List.toList_toArray,List.flatMap_cons,List.flatMap_nil,List.drop_succ_cons,List.drop_zero,List.take_succ_cons,List.take_zero,List.cons_append,List.nil_append,List.append_nil]
    repeat go_big_quiet_step (fail)
    refine wpQuiet_nil ?_
    refine skip_at 19 (some 25) 28 (by kernel_rfl) (by kernel_rfl) (by kernel_rfl) (by kernel_rfl) (by kernel_rfl) ⟨⟨_,hW⟩,rfl⟩ ?_
    simp only [Act.put,List.setIfInBounds_toArray,List.set_cons_zero,List.set_cons_succ]
    refine seg_range [(20,8),(29,4)] 16 (by kernel_rfl) (by kernel_rfl) (by kernel_rfl) (by kernel_rfl) (by kernel_rfl) ⟨⟨_,hW⟩,rfl⟩ ?_
    simp only [pickR,List.toList_toArray,List.flatMap_cons,List.flatMap_nil,List.drop_succ_cons,List.drop_zero,List.take_succ_cons,List.take_zero,List.cons_append,List.nil_append,List.append_nil]
    repeat go_big_quiet_step (fail)
    refine wpQuiet_nil ?_
    refine quiet_at 28 (some 34) (.int .i64 (rs'.length:Int)) 15 (by kernel_rfl) (by kernel_rfl) (by kernel_rfl) (by kernel_rfl) (by kernel_rfl) (fun u _=>by kernel_rfl) ⟨⟨_,hW⟩,rfl⟩ ?_
    simp only [Act.put,List.setIfInBounds_toArray,List.set_cons_zero,List.set_cons_succ]
    refine quiet_at 33 (some 39) (.int .i64 (rs.length:Int)) 14 (by kernel_rfl) (by kernel_rfl) (by kernel_rfl) (by kernel_rfl) (by kernel_rfl) (fun u _=>by kernel_rfl) ⟨⟨_,hW⟩,rfl⟩ ?_
    simp only [Act.put,List.setIfInBounds_toArray,List.set_cons_zero,List.set_cons_succ]
    refine seg_range [(34,11)] 3 (by kernel_rfl) (by kernel_rfl) (by kernel_rfl) (by kernel_rfl) (by kernel_rfl) ⟨⟨_,hW⟩,rfl⟩ ?_
    simp only [pickR,List.toList_toArray,List.flatMap_cons,List.flatMap_nil,List.drop_succ_cons,List.drop_zero,List.take_succ_cons,List.take_zero,List.cons_append,List.nil_append,List.append_nil]
    repeat go_big_quiet_step (fail)
    refine wpQuiet_nil ?_
    refine call_at 45 (some 51) 88 #[.slice a3 dc.length k3,.slice b3 dc'.length m3] 2 (by kernel_rfl) (by kernel_rfl) (by kernel_rfl) (by kernel_rfl) (by kernel_rfl) ?_
    refine (e3 _ (hD.below hW) (gD.below hW)).mono ?_
    rintro e w9 ⟨rfl,hb9⟩
    replace hW:=hW.trans (hb9.mono hW.size)
    clear hb9
    refine ⟨_,rfl,⟨⟨_,hW⟩,rfl⟩,?_⟩
    simp only [Act.put,List.setIfInBounds_toArray,List.set_cons_zero,List.set_cons_succ]
    refine seg_range [(46,2)] 0 (by kernel_rfl) (by kernel_rfl) (by kernel_rfl) (by kernel_rfl) (by kernel_rfl) ⟨⟨_,hW⟩,rfl⟩ ?_
    simp only [pickR,List.toList_toArray,List.flatMap_cons,List.flatMap_nil,List.drop_succ_cons,List.drop_zero,List.take_succ_cons,List.take_zero,List.cons_append,List.nil_append,List.append_nil]
    repeat go_big_quiet_step (fail)
    refine wpQuiet_nil ?_
    refine text_end (by kernel_rfl) ?_
    replace hB:=hB.trans (hW.mono hB.size)
    clear c0 c1 c2 c3 d0 d1 d2 d3 hW hnn
    clear e1 e3 hd hd2 hT gT hD gD
    have hP9:=hP.below hB
    obtain ⟨c0,c1,c2,c3⟩:=hP9.box
    dsimp only at c0 c1 c2 c3
    go_wp2
    clear c0 c1 c2 c3 hP9
    go_loopw [5] (fun j wr=>∃ k:Nat,k≤rs.length∧j=.int .i64 k∧Hid (∀ j,j < k→kpR ((rs.map RoundQ.e).getD j rndNo) ((rs'.map RoundQ.e).getD j rndNo)=true)∧Below w.heap.size w wr) (fun j _=>rs.length - (intOf j).toNat)
    case atStart=>exact ⟨0,Nat.zero_le _,rfl,fun j hj=>absurd hj (Nat.not_lt_zero _),hB⟩
    case round=>
     clear hB
     obtain ⟨k,hk,rfl,HA,hB⟩:=hrel
     have hPr:=hP.below hB
     have hQr:=hQ.below hB
     have HS0:=hPr.box.c2
     have hs0:=hPr.box.c2
     dsimp only at hs0
     by_cases hlt:k < rs.length
     ·have hlt' : k < rs'.length:=by have:=HL.out;omega
      obtain ⟨rb,ro,rfl,hbs,hc,hrd⟩:=(hR.below hB).cell (by decide) k hlt
      obtain ⟨rb',ro',rfl,hbs',hd2,hrd'⟩:=(gR.below hB).cell (by decide) k hlt'
      have hc' : ∀ j x,(roundK.cells rs[k])[j]? = some x→wr.cell? ⟨rb,ro + k * 2 + j,none⟩=some x:=hc
      have hd' : ∀ j x,(roundK.cells rs'[k])[j]? = some x→wr.cell? ⟨rb',ro' + k * 2 + j,none⟩=some x:=hd2
      have f0:=hc' 0 (rs[k].vr) rfl
      have f1:=hc' 1 (rs[k].vp) rfl
      have g0:=hd' 0 (rs'[k].vr) rfl
      have g1:=hd' 1 (rs'[k].vp) rfl
      have w1:=hw _ (List.getElem_mem hlt)
      have w2:=hw' _ (List.getElem_mem hlt')
      have HY:Hid (kpR (RoundQ.e rs[k]) (RoundQ.e rs'[k])=false→E=false):=fun hx=>by
       rw [HE2.out,kpRs_bad k (by simpa using hlt) (by rw [rnd_get rs k hlt,rnd_get rs' k hlt'];exact hx)]
      have HN:Hid (kpR (RoundQ.e rs[k]) (RoundQ.e rs'[k])=true→∀ j,j < k + 1→kpR ((rs.map RoundQ.e).getD j rndNo) ((rs'.map RoundQ.e).getD j rndNo)=true):=fun hx j hj=>by
       by_cases hjk:j=k
       ·subst hjk
        rw [rnd_get rs j hlt,rnd_get rs' j hlt']
        exact hx
       ·exact HA.out j (by omega)
      clear HA hc hc' hd2 hd' HS0
      generalize rs[k]=p at *
      generalize rs'[k]=q at *
      obtain ⟨pv,pr,pw,pp⟩:=p
      obtain ⟨qv,qr,qw,qp⟩:=q
      obtain ⟨u1,u2⟩:intK.At wr pv pr∧intK.At wr pw pp:=hrd
      obtain ⟨t1,t2⟩:intK.At wr qv qr∧intK.At wr qw qp:=hrd'
      obtain ⟨x1,j1,rfl⟩:=u1.shape
      obtain ⟨x2,j2,rfl⟩:=u2.shape
      obtain ⟨y1,l1,rfl⟩:=t1.shape
      obtain ⟨y2,l2,rfl⟩:=t2.shape
      dsimp only [RoundQ.e,kpR] at f0 f1 g0 g1 w1 w2 HY HN
      rw [Nat.add_zero] at f0 g0
      have s1:=fun w h h' => l7Keeps_any (.slice x1 pr.length j1) (.slice y1 qr.length l1) pr qr w h h' w1.1 w2.1
      have s2:=fun w h h' => l7Keeps_any (.slice x2 pp.length j2) (.slice y2 qp.length l2) pp qp w h h' w1.2 w2.2
      clear w1 w2
      generalize kps pr qr=X1 at *
      generalize kps pp qp=X2 at *
      have hW:Below wr.heap.size wr wr.drew:=(Below.refl _ _).drew
      have hnn:Nonempty (Lat wr):=⟨⟨wr,Below.refl _ _⟩⟩
      have c2:=lat_cell hPr.box.c2
      have d2:=lat_cell hQr.box.c2
      have v0:=lat_cell f0
      have v1:=lat_cell f1
      have z0:=lat_cell g0
      have z1:=lat_cell g1
      dsimp only at c2 d2
      have hlti:(k:Int) < (rs.length:Int):=by omega
      have hlti' : (k:Int) < (rs'.length:Int):=by omega
      clear f0 f1 g0 g1
      go_wp2_with fail
      clear hs0
      cases X1 with
      | false=>
       have E1:Hid (E=false):=HY.out rfl
       refine text_begin (S:=fun w' => ∃ u:Lat wr,w' = u.val) (by kernel_rfl) ?_
       refine seg_range [(0,16)] 22 (by kernel_rfl) (by kernel_rfl) (by kernel_rfl) (by kernel_rfl) (by kernel_rfl) ⟨⟨_,hW⟩,rfl⟩ ?_
       simp only [pickR,List.toList_toArray,List.flatMap_cons,List.flatMap_nil,List.drop_succ_cons,List.drop_zero,List.take_succ_cons,List.take_zero,List.cons_append,List.nil_append,List.append_nil]
       repeat go_big_quiet_step (fail)
       refine wpQuiet_nil ?_
       refine call_at 16 (some 79) 88 #[.slice x1 pr.length j1,.slice y1 qr.length l1] 21 (by kernel_rfl) (by kernel_rfl) (by kernel_rfl) (by kernel_rfl) (by kernel_rfl) ?_
       refine (s1 _ (u1.below hW) (t1.below hW)).mono ?_
       rintro e w9 ⟨rfl,hb9⟩
       replace hW:=hW.trans (hb9.mono hW.size)
       clear hb9
       refine ⟨_,rfl,⟨⟨_,hW⟩,rfl⟩,?_⟩
       simp only [Act.put,List.setIfInBounds_toArray,List.set_cons_zero,List.set_cons_succ]
       refine seg_range [(17,18)] 3 (by kernel_rfl) (by kernel_rfl) (by kernel_rfl) (by kernel_rfl) (by kernel_rfl) ⟨⟨_,hW⟩,rfl⟩ ?_
       simp only [pickR,List.toList_toArray,List.flatMap_cons,List.flatMap_nil,List.drop_succ_cons,List.drop_zero,List.take_succ_cons,List.take_zero,List.cons_append,List.nil_append,List.append_nil]
       repeat go_big_quiet_step (fail)
       refine wpQuiet_nil ?_
       refine skip_at 35 (some 98) 2 (by kernel_rfl) (by kernel_rfl) (by kernel_rfl) (by kernel_rfl) (by kernel_rfl) ⟨⟨_,hW⟩,rfl⟩ ?_
       simp only [Act.put,List.setIfInBounds_toArray,List.set_cons_zero,List.set_cons_succ]
       refine seg_range [(36,2)] 0 (by kernel_rfl) (by kernel_rfl) (by kernel_rfl) (by kernel_rfl) (by kernel_rfl) ⟨⟨_,hW⟩,rfl⟩ ?_
       simp only [pickR,List.toList_toArray,List.flatMap_cons,List.flatMap_nil,List.drop_succ_cons,List.drop_zero,List.take_succ_cons,List.take_zero,List.cons_append,List.nil_append,List.append_nil]
       repeat go_big_quiet_step (fail)
       refine wpQuiet_nil ?_
       refine text_end (by kernel_rfl) ?_
       replace hB:=hB.trans (hW.mono hB.size)
       clear c2 d2 v0 v1 z0 z1 hW hnn s1 s2 HY HN HE2
       go_wp2
       go_ret
       exact ⟨by rw [E1.out];rfl,hB⟩
      | true=>
       cases X2 with
       | false=>
        have E1:Hid (E=false):=HY.out rfl
        refine text_begin (S:=fun w' => ∃ u:Lat wr,w' = u.val) (by kernel_rfl) ?_
        refine seg_range [(0,16)] 22 (by kernel_rfl) (by kernel_rfl) (by kernel_rfl) (by kernel_rfl) (by kernel_rfl) ⟨⟨_,hW⟩,rfl⟩ ?_
        simp only [pickR,List.toList_toArray,List.flatMap_cons,List.flatMap_nil,List.drop_succ_cons,List.drop_zero,List.take_succ_cons,List.take_zero,List.cons_append,List.nil_append,List.append_nil]
        repeat go_big_quiet_step (fail)
        refine wpQuiet_nil ?_
        refine call_at 16 (some 79) 88 #[.slice x1 pr.length j1,.slice y1 qr.length l1] 21 (by kernel_rfl) (by kernel_rfl) (by kernel_rfl) (by kernel_rfl) (by kernel_rfl) ?_
        refine (s1 _ (u1.below hW) (t1.below hW)).mono ?_
        rintro e w9 ⟨rfl,hb9⟩
        replace hW:=hW.trans (hb9.mono hW.size)
        clear hb9
        refine ⟨_,rfl,⟨⟨_,hW⟩,rfl⟩,?_⟩
        simp only [Act.put,List.setIfInBounds_toArray,List.set_cons_zero,List.set_cons_succ]
        refine seg_range [(17,18)] 3 (by kernel_rfl) (by kernel_rfl) (by kernel_rfl) (by kernel_rfl) (by kernel_rfl) ⟨⟨_,hW⟩,rfl⟩ ?_
        simp only [pickR,List.toList_toArray,List.flatMap_cons,List.flatMap_nil,List.drop_succ_cons,List.drop_zero,List.take_succ_cons,List.take_zero,List.cons_append,List.nil_append,List.append_nil]
        repeat go_big_quiet_step (fail)
        refine wpQuiet_nil ?_
        refine call_at 35 (some 98) 88 #[.slice x2 pp.length j2,.slice y2 qp.length l2] 2 (by kernel_rfl) (by kernel_rfl) (by kernel_rfl) (by kernel_rfl) (by kernel_rfl) ?_
        refine (s2 _ (u2.below hW) (t2.below hW)).mono ?_
        rintro e w9 ⟨rfl,hb9⟩
        replace hW:=hW.trans (hb9.mono hW.size)
        clear hb9
        refine ⟨_,rfl,⟨⟨_,hW⟩,rfl⟩,?_⟩
        simp only [Act.put,List.setIfInBounds_toArray,List.set_cons_zero,List.set_cons_succ]
        refine seg_range [(36,2)] 0 (by kernel_rfl) (by kernel_rfl) (by kernel_rfl) (by kernel_rfl) (by kernel_rfl) ⟨⟨_,hW⟩,rfl⟩ ?_
        simp only [pickR,List.toList_toArray,List.flatMap_cons,List.flatMap_nil,List.drop_succ_cons,List.drop_zero,List.take_succ_cons,List.take_zero,List.cons_append,List.nil_append,List.append_nil]
        repeat go_big_quiet_step (fail)
        refine wpQuiet_nil ?_
        refine text_end (by kernel_rfl) ?_
        replace hB:=hB.trans (hW.mono hB.size)
        clear c2 d2 v0 v1 z0 z1 hW hnn s1 s2 HY HN HE2
        go_wp2
        go_ret
        exact ⟨by rw [E1.out];rfl,hB⟩
       | true=>
        have HR:=HN.out rfl
        have HR' : Hid _:=HR
        refine text_begin (S:=fun w' => ∃ u:Lat wr,w' = u.val) (by kernel_rfl) ?_
        refine seg_range [(0,16)] 22 (by kernel_rfl) (by kernel_rfl) (by kernel_rfl) (by kernel_rfl) (by kernel_rfl) ⟨⟨_,hW⟩,rfl⟩ ?_
        simp only [pickR,List.toList_toArray,List.flatMap_cons,List.flatMap_nil,List.drop_succ_cons,List.drop_zero,List.take_succ_cons,List.take_zero,List.cons_append,List.nil_append,List.append_nil]
        repeat go_big_quiet_step (fail)
        refine wpQuiet_nil ?_
        refine call_at 16 (some 79) 88 #[.slice x1 pr.length j1,.slice y1 qr.length l1] 21 (by kernel_rfl) (by kernel_rfl) (by kernel_rfl) (by kernel_rfl) (by kernel_rfl) ?_
        refine (s1 _ (u1.below hW) (t1.below hW)).mono ?_
        rintro e w9 ⟨rfl,hb9⟩
        replace hW:=hW.trans (hb9.mono hW.size)
        clear hb9
        refine ⟨_,rfl,⟨⟨_,hW⟩,rfl⟩,?_⟩
        simp only [Act.put,List.setIfInBounds_toArray,List.set_cons_zero,List.set_cons_succ]
        refine seg_range [(17,18)] 3 (by kernel_rfl) (by kernel_rfl) (by kernel_rfl) (by kernel_rfl) (by kernel_rfl) ⟨⟨_,hW⟩,rfl⟩ ?_
        simp only [pickR,List.toList_toArray,List.flatMap_cons,List.flatMap_nil,List.drop_succ_cons,List.drop_zero,List.take_succ_cons,List.take_zero,List.cons_append,List.nil_append,List.append_nil]
        repeat go_big_quiet_step (fail)
        refine wpQuiet_nil ?_
        refine call_at 35 (some 98) 88 #[.slice x2 pp.length j2,.slice y2 qp.length l2] 2 (by kernel_rfl) (by kernel_rfl) (by kernel_rfl) (by kernel_rfl) (by kernel_rfl) ?_
        refine (s2 _ (u2.below hW) (t2.below hW)).mono ?_
        rintro e w9 ⟨rfl,hb9⟩
        replace hW:=hW.trans (hb9.mono hW.size)
        clear hb9
        refine ⟨_,rfl,⟨⟨_,hW⟩,rfl⟩,?_⟩
        simp only [Act.put,List.setIfInBounds_toArray,List.set_cons_zero,List.set_cons_succ]
        refine seg_range [(36,2)] 0 (by kernel_rfl) (by kernel_rfl) (by kernel_rfl) (by kernel_rfl) (by kernel_rfl) ⟨⟨_,hW⟩,rfl⟩ ?_
        simp only [pickR,List.toList_toArray,List.flatMap_cons,List.flatMap_nil,List.drop_succ_cons,List.drop_zero,List.take_succ_cons,List.take_zero,List.cons_append,List.nil_append,List.append_nil]
        repeat go_big_quiet_step (fail)
        refine wpQuiet_nil ?_
        refine text_end (by kernel_rfl) ?_
        replace hB:=hB.trans (hW.mono hB.size)
        clear c2 d2 v0 v1 z0 z1 hW hnn s1 s2 HY HN HR
        go_wp2
        go_roundw
        case rel=>exact ⟨k + 1,by omega,by go_num,HR'.out,hB⟩
        case measure=>simp [intOf];omega
     ·have E1:Hid (E=true):=by rw [HE2.out];exact kpRs_all (fun j hj=>HA.out j (by simp at hj;omega))
      have hlti:¬ (k:Int) < (rs.length:Int):=by omega
      clear HA HE2 HS0
      go_wp2
      go_ret
      exact ⟨by rw [E1.out];rfl,hB⟩
   | true=>
    cases h2 with
    | false=>
     have E1:Hid (E=false):=show _=_ by rw [HE.out];simp
     have hW:Below w.heap.size w w.drew:=(Below.refl _ _).drew
     have hnn:Nonempty (Lat w):=⟨⟨w,Below.refl _ _⟩⟩
     have c0:=lat_cell hP.box.c0
     have c1:=lat_cell hP.box.c1
     have c2:=lat_cell hP.box.c2
     have c3:=lat_cell hP.box.c3
     have d0:=lat_cell hQ.box.c0
     have d1:=lat_cell hQ.box.c1
     have d2:=lat_cell hQ.box.c2
     have d3:=lat_cell hQ.box.c3
     dsimp only at c0 c1 c2 c3 d0 d1 d2 d3
     clear HE
     refine text_begin (S:=fun w' => ∃ u:Lat w,w' = u.val) (by kernel_rfl) ?_
     refine seg_range [(0,19)] 29 (by kernel_rfl) (by kernel_rfl) (by kernel_rfl) (by kernel_rfl) (by kernel_rfl) ⟨⟨_,hW⟩,rfl⟩ ?_
     simp only [pickR,List.toList_toArray,List.flatMap_cons,List.flatMap_nil,List.drop_succ_cons,List.drop_zero,List.take_succ_cons,List.take_zero,List.cons_append,List.nil_append,List.append_nil]
     repeat go_big_quiet_step (fail)
     refine wpQuiet_nil ?_
     refine skip_at 19 (some 25) 28 (by kernel_rfl) (by kernel_rfl) (by kernel_rfl) (by kernel_rfl) (by kernel_rfl) ⟨⟨_,hW⟩,rfl⟩ ?_
     simp only [Act.put,List.setIfInBounds_toArray,List.set_cons_zero,List.set_cons_succ]
     refine seg_range [(20,8),(29,4)] 16 (by kernel_rfl) (by kernel_rfl) (by kernel_rfl) (by kernel_rfl) (by kernel_rfl) ⟨⟨_,hW⟩,rfl⟩ ?_
     simp only [pickR,List.toList_toArray,List.flatMap_cons,List.flatMap_nil,List.drop_succ_cons,List.drop_zero,List.take_succ_cons,List.take_zero,List.cons_append,List.nil_append,List.append_nil]
     repeat go_big_quiet_step (fail)
     refine wpQuiet_nil ?_
     refine skip_at 28 (some 34) 15 (by kernel_rfl) (by kernel_rfl) (by kernel_rfl) (by kernel_rfl) (by kernel_rfl) ⟨⟨_,hW⟩,rfl⟩ ?_
     simp only [Act.put,List.setIfInBounds_toArray,List.set_cons_zero,List.set_cons_succ]
     refine skip_at 33 (some 39) 14 (by kernel_rfl) (by kernel_rfl) (by kernel_rfl) (by kernel_rfl) (by kernel_rfl) ⟨⟨_,hW⟩,rfl⟩ ?_
     simp only [Act.put,List.setIfInBounds_toArray,List.set_cons_zero,List.set_cons_succ]
     refine seg_range [(34,11)] 3 (by kernel_rfl) (by kernel_rfl) (by kernel_rfl) (by kernel_rfl) (by kernel_rfl) ⟨⟨_,hW⟩,rfl⟩ ?_
     simp only [pickR,List.toList_toArray,List.flatMap_cons,List.flatMap_nil,List.drop_succ_cons,List.drop_zero,List.take_succ_cons,List.take_zero,List.cons_append,List.nil_append,List.append_nil]
     repeat go_big_quiet_step (fail)
     refine wpQuiet_nil ?_
     refine skip_at 45 (some 51) 2 (by kernel_rfl) (by kernel_rfl) (by kernel_rfl) (by kernel_rfl) (by kernel_rfl) ⟨⟨_,hW⟩,rfl⟩ ?_
     simp only [Act.put,List.setIfInBounds_toArray,List.set_cons_zero,List.set_cons_succ]
     refine seg_range [(46,2)] 0 (by kernel_rfl) (by kernel_rfl) (by kernel_rfl) (by kernel_rfl) (by kernel_rfl) ⟨⟨_,hW⟩,rfl⟩ ?_
     simp only [pickR,List.toList_toArray,List.flatMap_cons,List.flatMap_nil,List.drop_succ_cons,List.drop_zero,List.take_succ_cons,List.take_zero,List.cons_append,List.nil_append,List.append_nil]
     repeat go_big_quiet_step (fail)
     refine wpQuiet_nil ?_
     refine text_end (by kernel_rfl) ?_
     replace hB:=hB.trans (hW.mono hB.size)
     clear c0 c1 c2 c3 d0 d1 d2 d3 hW hnn
     go_wp2
     go_ret
     exact ⟨by rw [E1.out];rfl,hB⟩
    | true=>
     cases X with
     | false=>
      have E1:Hid (E=false):=show _=_ by rw [HE.out];simp
      have hW:Below w.heap.size w w.drew:=(Below.refl _ _).drew
      have hnn:Nonempty (Lat w):=⟨⟨w,Below.refl _ _⟩⟩
      have c0:=lat_cell hP.box.c0
      have c1:=lat_cell hP.box.c1
      have c2:=lat_cell hP.box.c2
      have c3:=lat_cell hP.box.c3
      have d0:=lat_cell hQ.box.c0
      have d1:=lat_cell hQ.box.c1
      have d2:=lat_cell hQ.box.c2
      have d3:=lat_cell hQ.box.c3
      dsimp only at c0 c1 c2 c3 d0 d1 d2 d3
      clear HE
      refine text_begin (S:=fun w' => ∃ u:Lat w,w' = u.val) (by kernel_rfl) ?_
      refine seg_range [(0,19)] 29 (by kernel_rfl) (by kernel_rfl) (by kernel_rfl) (by kernel_rfl) (by kernel_rfl) ⟨⟨_,hW⟩,rfl⟩ ?_
      simp only [pickR,List.toList_toArray,List.flatMap_cons,List.flatMap_nil,List.drop_succ_cons,List.drop_zero,List.take_succ_cons,List.take_zero,List.cons_append,List.nil_append,List.append_nil]
      repeat go_big_quiet_step (fail)
      refine wpQuiet_nil ?_
      refine call_at 19 (some 25) 69 #[.slice a1 bt.length k1,.slice b1 bt'.length m1] 28 (by kernel_rfl) (by kernel_rfl) (by kernel_rfl) (by kernel_rfl) (by kernel_rfl) ?_
      refine (e1 _ (txnsAt_of' (hT.below hW)) (txnsAt_of' (gT.below hW))).mono ?_
      rintro e w9 ⟨rfl,hb9⟩
      replace hW:=hW.trans (hb9.mono hW.size)
      clear hb9
      refine ⟨_,rfl,⟨⟨_,hW⟩,rfl⟩,?_⟩
      simp only [Act.put,List.setIfInBounds_toArray,List.set_cons_zero,List.set_cons_succ]
      refine seg_range [(20,8),(29,4)] 16 (by kernel_rfl) (by kernel_rfl) (by kernel_rfl) (by kernel_rfl) (by kernel_rfl) ⟨⟨_,hW⟩,rfl⟩ ?_
      simp only [pickR,List.toList_toArray,List.flatMap_cons,List.flatMap_nil,List.drop_succ_cons,List.drop_zero,List.take_succ_cons,List.take_zero,List.cons_append,List.nil_append,List.append_nil]
      repeat go_big_quiet_step (fail)
      refine wpQuiet_nil ?_
      refine skip_at 28 (some 34) 15 (by kernel_rfl) (by kernel_rfl) (by kernel_rfl) (by kernel_rfl) (by kernel_rfl) ⟨⟨_,hW⟩,rfl⟩ ?_
      simp only [Act.put,List.setIfInBounds_toArray,List.set_cons_zero,List.set_cons_succ]
      refine skip_at 33 (some 39) 14 (by kernel_rfl) (by kernel_rfl) (by kernel_rfl) (by kernel_rfl) (by kernel_rfl) ⟨⟨_,hW⟩,rfl⟩ ?_
      simp only [Act.put,List.setIfInBounds_toArray,List.set_cons_zero,List.set_cons_succ]
      refine seg_range [(34,11)] 3 (by kernel_rfl) (by kernel_rfl) (by kernel_rfl) (by kernel_rfl) (by kernel_rfl) ⟨⟨_,hW⟩,rfl⟩ ?_
      simp only [pickR,List.toList_toArray,List.flatMap_cons,List.flatMap_nil,List.drop_succ_cons,List.drop_zero,List.take_succ_cons,List.take_zero,List.cons_append,List.nil_append,List.append_nil]
      repeat go_big_quiet_step (fail)
      refine wpQuiet_nil ?_
      refine skip_at 45 (some 51) 2 (by kernel_rfl) (by kernel_rfl) (by kernel_rfl) (by kernel_rfl) (by kernel_rfl) ⟨⟨_,hW⟩,rfl⟩ ?_
      simp only [Act.put,List.setIfInBounds_toArray,List.set_cons_zero,List.set_cons_succ]
      refine seg_range [(46,2)] 0 (by kernel_rfl) (by kernel_rfl) (by kernel_rfl) (by kernel_rfl) (by kernel_rfl) ⟨⟨_,hW⟩,rfl⟩ ?_
      simp only [pickR,List.toList_toArray,List.flatMap_cons,List.flatMap_nil,List.drop_succ_cons,List.drop_zero,List.take_succ_cons,List.take_zero,List.cons_append,List.nil_append,List.append_nil]
      repeat go_big_quiet_step (fail)
      refine wpQuiet_nil ?_
      refine text_end (by kernel_rfl) ?_
      replace hB:=hB.trans (hW.mono hB.size)
      clear c0 c1 c2 c3 d0 d1 d2 d3 hW hnn
      go_wp2
      go_ret
      exact ⟨by rw [E1.out];rfl,hB⟩
     | true=>
      have HE2:Hid (E=kpRs (rs.map RoundQ.e) (rs'.map RoundQ.e)):=show _=_ by rw [HE.out];simp
      clear HE
      have hW:Below w.heap.size w w.drew:=(Below.refl _ _).drew
      have hnn:Nonempty (Lat w):=⟨⟨w,Below.refl _ _⟩⟩
      have c0:=lat_cell hP.box.c0
      have c1:=lat_cell hP.box.c1
      have c2:=lat_cell hP.box.c2
      have c3:=lat_cell hP.box.c3
      have d0:=lat_cell hQ.box.c0
      have d1:=lat_cell hQ.box.c1
      have d2:=lat_cell hQ.box.c2
      have d3:=lat_cell hQ.box.c3
      dsimp only at c0 c1 c2 c3 d0 d1 d2 d3
      refine text_begin (S:=fun w' => ∃ u:Lat w,w' = u.val) (by kernel_rfl) ?_
      refine seg_range [(0,19)] 29 (by kernel_rfl) (by kernel_rfl) (by kernel_rfl) (by kernel_rfl) (by kernel_rfl) ⟨⟨_,hW⟩,rfl⟩ ?_
      simp only [pickR,List.toList_toArray,List.flatMap_cons,List.flatMap_nil,List.drop_succ_cons,List.drop_zero,List.take_succ_cons,List.take_zero,List.cons_append,List.nil_append,List.append_nil]
      repeat go_big_quiet_step (fail)
      refine wpQuiet_nil ?_
      refine call_at 19 (some 25) 69 #[.slice a1 bt.length k1,.slice b1 bt'.length m1] 28 (by kernel_rfl) (by kernel_rfl) (by kernel_rfl) (by kernel_rfl) (by kernel_rfl) ?_
      refine (e1 _ (txnsAt_of' (hT.below hW)) (txnsAt_of' (gT.below hW))).mono ?_
      rintro e w9 ⟨rfl,hb9⟩
      replace hW:=hW.trans (hb9.mono hW.size)
      clear hb9
      refine ⟨_,rfl,⟨⟨_,hW⟩,rfl⟩,?_⟩
      simp only [Act.put,List.setIfInBounds_toArray,List.set_cons_zero,List.set_cons_succ]
      refine seg_range [(20,8),(29,4)] 16 (by kernel_rfl) (by kernel_rfl) (by kernel_rfl) (by kernel_rfl) (by kernel_rfl) ⟨⟨_,hW⟩,rfl⟩ ?_
      simp only [pickR,List.toList_toArray,List.flatMap_cons,List.flatMap_nil,List.drop_succ_cons,List.drop_zero,List.take_succ_cons,List.take_zero,List.cons_append,List.nil_append,List.append_nil]
      repeat go_big_quiet_step (fail)
      refine wpQuiet_nil ?_
      refine quiet_at 28 (some 34) (.int .i64 (rs'.length:Int)) 15 (by kernel_rfl) (by kernel_rfl) (by kernel_rfl) (by kernel_rfl) (by kernel_rfl) (fun u _=>by kernel_rfl) ⟨⟨_,hW⟩,rfl⟩ ?_
      simp only [Act.put,List.setIfInBounds_toArray,List.set_cons_zero,List.set_cons_succ]
      refine quiet_at 33 (some 39) (.int .i64 (rs.length:Int)) 14 (by kernel_rfl) (by kernel_rfl) (by kernel_rfl) (by kernel_rfl) (by kernel_rfl) (fun u _=>by kernel_rfl) ⟨⟨_,hW⟩,rfl⟩ ?_
      simp only [Act.put,List.setIfInBounds_toArray,List.set_cons_zero,List.set_cons_succ]
      refine seg_range [(34,11)] 3 (by kernel_rfl) (by kernel_rfl) (by kernel_rfl) (by kernel_rfl) (by kernel_rfl) ⟨⟨_,hW⟩,rfl⟩ ?_
      simp only [pickR,List.toList_toArray,List.flatMap_cons,List.flatMap_nil,List.drop_succ_cons,List.drop_zero,List.take_succ_cons,List.take_zero,List.cons_append,List.nil_append,List.append_nil]
      repeat go_big_quiet_step (fail)
      refine wpQuiet_nil ?_
      refine call_at 45 (some 51) 88 #[.slice a3 dc.length k3,.slice b3 dc'.length m3] 2 (by kernel_rfl) (by kernel_rfl) (by kernel_rfl) (by kernel_rfl) (by kernel_rfl) ?_
      refine (e3 _ (hD.below hW) (gD.below hW)).mono ?_
      rintro e w9 ⟨rfl,hb9⟩
      replace hW:=hW.trans (hb9.mono hW.size)
      clear hb9
      refine ⟨_,rfl,⟨⟨_,hW⟩,rfl⟩,?_⟩
      simp only [Act.put,List.setIfInBounds_toArray,List.set_cons_zero,List.set_cons_succ]
      refine seg_range [(46,2)] 0 (by kernel_rfl) (by kernel_rfl) (by kernel_rfl) (by kernel_rfl) (by kernel_rfl) ⟨⟨_,hW⟩,rfl⟩ ?_
      simp only [pickR,List.toList_toArray,List.flatMap_cons,List.flatMap_nil,List.drop_succ_cons,List.drop_zero,List.take_succ_cons,List.take_zero,List.cons_append,List.nil_append,List.append_nil]
      repeat go_big_quiet_step (fail)
      refine wpQuiet_nil ?_
      refine text_end (by kernel_rfl) ?_
      replace hB:=hB.trans (hW.mono hB.size)
      clear c0 c1 c2 c3 d0 d1 d2 d3 hW hnn
      clear e1 e3 hd hd2 hT gT hD gD
      have hP9:=hP.below hB
      obtain ⟨c0,c1,c2,c3⟩:=hP9.box
      dsimp only at c0 c1 c2 c3
      go_wp2
      clear c0 c1 c2 c3 hP9
      go_loopw [5] (fun j wr=>∃ k:Nat,k≤rs.length∧j=.int .i64 k∧Hid (∀ j,j < k→kpR ((rs.map RoundQ.e).getD j rndNo) ((rs'.map RoundQ.e).getD j rndNo)=true)∧Below w.heap.size w wr) (fun j _=>rs.length - (intOf j).toNat)
      case atStart=>exact ⟨0,Nat.zero_le _,rfl,fun j hj=>absurd hj (Nat.not_lt_zero _),hB⟩
      case round=>
       clear hB
       obtain ⟨k,hk,rfl,HA,hB⟩:=hrel
       have hPr:=hP.below hB
       have hQr:=hQ.below hB
       have HS0:=hPr.box.c2
       have hs0:=hPr.box.c2
       dsimp only at hs0
       by_cases hlt:k < rs.length
       ·have hlt' : k < rs'.length:=by have:=HL.out;omega
        obtain ⟨rb,ro,rfl,hbs,hc,hrd⟩:=(hR.below hB).cell (by decide) k hlt
        obtain ⟨rb',ro',rfl,hbs',hd2,hrd'⟩:=(gR.below hB).cell (by decide) k hlt'
        have hc' : ∀ j x,(roundK.cells rs[k])[j]? = some x→wr.cell? ⟨rb,ro + k * 2 + j,none⟩=some x:=hc
        have hd' : ∀ j x,(roundK.cells rs'[k])[j]? = some x→wr.cell? ⟨rb',ro' + k * 2 + j,none⟩=some x:=hd2
        have f0:=hc' 0 (rs[k].vr) rfl
        have f1:=hc' 1 (rs[k].vp) rfl
        have g0:=hd' 0 (rs'[k].vr) rfl
        have g1:=hd' 1 (rs'[k].vp) rfl
        have w1:=hw _ (List.getElem_mem hlt)
        have w2:=hw' _ (List.getElem_mem hlt')
        have HY:Hid (kpR (RoundQ.e rs[k]) (RoundQ.e rs'[k])=false→E=false):=fun hx=>by
         rw [HE2.out,kpRs_bad k (by simpa using hlt) (by rw [rnd_get rs k hlt,rnd_get rs' k hlt'];exact hx)]
        have HN:Hid (kpR (RoundQ.e rs[k]) (RoundQ.e rs'[k])=true→∀ j,j < k + 1→kpR ((rs.map RoundQ.e).getD j rndNo) ((rs'.map RoundQ.e).getD j rndNo)=true):=fun hx j hj=>by
         by_cases hjk:j=k
         ·subst hjk
          rw [rnd_get rs j hlt,rnd_get rs' j hlt']
          exact hx
         ·exact HA.out j (by omega)
        clear HA hc hc' hd2 hd' HS0
        generalize rs[k]=p at *
        generalize rs'[k]=q at *
        obtain ⟨pv,pr,pw,pp⟩:=p
        obtain ⟨qv,qr,qw,qp⟩:=q
        obtain ⟨u1,u2⟩:intK.At wr pv pr∧intK.At wr pw pp:=hrd
        obtain ⟨t1,t2⟩:intK.At wr qv qr∧intK.At wr qw qp:=hrd'
        obtain ⟨x1,j1,rfl⟩:=u1.shape
        obtain ⟨x2,j2,rfl⟩:=u2.shape
        obtain ⟨y1,l1,rfl⟩:=t1.shape
        obtain ⟨y2,l2,rfl⟩:=t2.shape
        dsimp only [RoundQ.e,kpR] at f0 f1 g0 g1 w1 w2 HY HN
        rw [Nat.add_zero] at f0 g0
        have s1:=fun w h h' => l7Keeps_any (.slice x1 pr.length j1) (.slice y1 qr.length l1) pr qr w h h' w1.1 w2.1
        have s2:=fun w h h' => l7Keeps_any (.slice x2 pp.length j2) (.slice y2 qp.length l2) pp qp w h h' w1.2 w2.2
        clear w1 w2
        generalize kps pr qr=X1 at *
        generalize kps pp qp=X2 at *
        have hW:Below wr.heap.size wr wr.drew:=(Below.refl _ _).drew
        have hnn:Nonempty (Lat wr):=⟨⟨wr,Below.refl _ _⟩⟩
        have c2:=lat_cell hPr.box.c2
        have d2:=lat_cell hQr.box.c2
        have v0:=lat_cell f0
        have v1:=lat_cell f1
        have z0:=lat_cell g0
        have z1:=lat_cell g1
        dsimp only at c2 d2
        have hlti:(k:Int) < (rs.length:Int):=by omega
        have hlti' : (k:Int) < (rs'.length:Int):=by omega
        clear f0 f1 g0 g1
        go_wp2_with fail
        clear hs0
        cases X1 with
        | false=>
         have E1:Hid (E=false):=HY.out rfl
         refine text_begin (S:=fun w' => ∃ u:Lat wr,w' = u.val) (by kernel_rfl) ?_
         refine seg_range [(0,16)] 22 (by kernel_rfl) (by kernel_rfl) (by kernel_rfl) (by kernel_rfl) (by kernel_rfl) ⟨⟨_,hW⟩,rfl⟩ ?_
         simp only [pickR,List.toList_toArray,List.flatMap_cons,List.flatMap_nil,List.drop_succ_cons,List.drop_zero,List.take_succ_cons,List.take_zero,List.cons_append,List.nil_append,List.append_nil]
         repeat go_big_quiet_step (fail)
         refine wpQuiet_nil ?_
         refine call_at 16 (some 79) 88 #[.slice x1 pr.length j1,.slice y1 qr.length l1] 21 (by kernel_rfl) (by kernel_rfl) (by kernel_rfl) (by kernel_rfl) (by kernel_rfl) ?_
         refine (s1 _ (u1.below hW) (t1.below hW)).mono ?_
         rintro e w9 ⟨rfl,hb9⟩
         replace hW:=hW.trans (hb9.mono hW.size)
         clear hb9
         refine ⟨_,rfl,⟨⟨_,hW⟩,rfl⟩,?_⟩
         simp only [Act.put,List.setIfInBounds_toArray,List.set_cons_zero,List.set_cons_succ]
         refine seg_range [(17,18)] 3 (by kernel_rfl) (by kernel_rfl) (by kernel_rfl) (by kernel_rfl) (by kernel_rfl) ⟨⟨_,hW⟩,rfl⟩ ?_
         simp only [pickR,List.toList_toArray,List.flatMap_cons,List.flatMap_nil,List.drop_succ_cons,List.drop_zero,List.take_succ_cons,List.take_zero,List.cons_append,List.nil_append,List.append_nil]
         repeat go_big_quiet_step (fail)
         refine wpQuiet_nil ?_
         refine skip_at 35 (some 98) 2 (by kernel_rfl) (by kernel_rfl) (by kernel_rfl) (by kernel_rfl) (by kernel_rfl) ⟨⟨_,hW⟩,rfl⟩ ?_
         simp only [Act.put,List.setIfInBounds_toArray,List.set_cons_zero,List.set_cons_succ]
         refine seg_range [(36,2)] 0 (by kernel_rfl) (by kernel_rfl) (by kernel_rfl) (by kernel_rfl) (by kernel_rfl) ⟨⟨_,hW⟩,rfl⟩ ?_
         simp only [pickR,List.toList_toArray,List.flatMap_cons,List.flatMap_nil,List.drop_succ_cons,List.drop_zero,List.take_succ_cons,List.take_zero,List.cons_append,List.nil_append,List.append_nil]
         repeat go_big_quiet_step (fail)
         refine wpQuiet_nil ?_
         refine text_end (by kernel_rfl) ?_
         replace hB:=hB.trans (hW.mono hB.size)
         clear c2 d2 v0 v1 z0 z1 hW hnn s1 s2 HY HN HE2
         go_wp2
         go_ret
         exact ⟨by rw [E1.out];rfl,hB⟩
        | true=>
         cases X2 with
         | false=>
          have E1:Hid (E=false):=HY.out rfl
          refine text_begin (S:=fun w' => ∃ u:Lat wr,w' = u.val) (by kernel_rfl) ?_
          refine seg_range [(0,16)] 22 (by kernel_rfl) (by kernel_rfl) (by kernel_rfl) (by kernel_rfl) (by kernel_rfl) ⟨⟨_,hW⟩,rfl⟩ ?_
          simp only [pickR,List.toList_toArray,List.flatMap_cons,List.flatMap_nil,List.drop_succ_cons,List.drop_zero,List.take_succ_cons,List.take_zero,List.cons_append,List.nil_append,List.append_nil]
          repeat go_big_quiet_step (fail)
          refine wpQuiet_nil ?_
          refine call_at 16 (some 79) 88 #[.slice x1 pr.length j1,.slice y1 qr.length l1] 21 (by kernel_rfl) (by kernel_rfl) (by kernel_rfl) (by kernel_rfl) (by kernel_rfl) ?_
          refine (s1 _ (u1.below hW) (t1.below hW)).mono ?_
          rintro e w9 ⟨rfl,hb9⟩
          replace hW:=hW.trans (hb9.mono hW.size)
          clear hb9
          refine ⟨_,rfl,⟨⟨_,hW⟩,rfl⟩,?_⟩
          simp only [Act.put,List.setIfInBounds_toArray,List.set_cons_zero,List.set_cons_succ]
          refine seg_range [(17,18)] 3 (by kernel_rfl) (by kernel_rfl) (by kernel_rfl) (by kernel_rfl) (by kernel_rfl) ⟨⟨_,hW⟩,rfl⟩ ?_
          simp only [pickR,List.toList_toArray,List.flatMap_cons,List.flatMap_nil,List.drop_succ_cons,List.drop_zero,List.take_succ_cons,List.take_zero,List.cons_append,List.nil_append,List.append_nil]
          repeat go_big_quiet_step (fail)
          refine wpQuiet_nil ?_
          refine call_at 35 (some 98) 88 #[.slice x2 pp.length j2,.slice y2 qp.length l2] 2 (by kernel_rfl) (by kernel_rfl) (by kernel_rfl) (by kernel_rfl) (by kernel_rfl) ?_
          refine (s2 _ (u2.below hW) (t2.below hW)).mono ?_
          rintro e w9 ⟨rfl,hb9⟩
          replace hW:=hW.trans (hb9.mono hW.size)
          clear hb9
          refine ⟨_,rfl,⟨⟨_,hW⟩,rfl⟩,?_⟩
          simp only [Act.put,List.setIfInBounds_toArray,List.set_cons_zero,List.set_cons_succ]
          refine seg_range [(36,2)] 0 (by kernel_rfl) (by kernel_rfl) (by kernel_rfl) (by kernel_rfl) (by kernel_rfl) ⟨⟨_,hW⟩,rfl⟩ ?_
          simp only [pickR,List.toList_toArray,List.flatMap_cons,List.flatMap_nil,List.drop_succ_cons,List.drop_zero,List.take_succ_cons,List.take_zero,List.cons_append,List.nil_append,List.append_nil]
          repeat go_big_quiet_step (fail)
          refine wpQuiet_nil ?_
          refine text_end (by kernel_rfl) ?_
          replace hB:=hB.trans (hW.mono hB.size)
          clear c2 d2 v0 v1 z0 z1 hW hnn s1 s2 HY HN HE2
          go_wp2
          go_ret
          exact ⟨by rw [E1.out];rfl,hB⟩
         | true=>
          have HR:=HN.out rfl
          have HR' : Hid _:=HR
          refine text_begin (S:=fun w' => ∃ u:Lat wr,w' = u.val) (by kernel_rfl) ?_
          refine seg_range [(0,16)] 22 (by kernel_rfl) (by kernel_rfl) (by kernel_rfl) (by kernel_rfl) (by kernel_rfl) ⟨⟨_,hW⟩,rfl⟩ ?_
          simp only [pickR,List.toList_toArray,List.flatMap_cons,List.flatMap_nil,List.drop_succ_cons,List.drop_zero,List.take_succ_cons,List.take_zero,List.cons_append,List.nil_append,List.append_nil]
          repeat go_big_quiet_step (fail)
          refine wpQuiet_nil ?_
          refine call_at 16 (some 79) 88 #[.slice x1 pr.length j1,.slice y1 qr.length l1] 21 (by kernel_rfl) (by kernel_rfl) (by kernel_rfl) (by kernel_rfl) (by kernel_rfl) ?_
          refine (s1 _ (u1.below hW) (t1.below hW)).mono ?_
          rintro e w9 ⟨rfl,hb9⟩
          replace hW:=hW.trans (hb9.mono hW.size)
          clear hb9
          refine ⟨_,rfl,⟨⟨_,hW⟩,rfl⟩,?_⟩
          simp only [Act.put,List.setIfInBounds_toArray,List.set_cons_zero,List.set_cons_succ]
          refine seg_range [(17,18)] 3 (by kernel_rfl) (by kernel_rfl) (by kernel_rfl) (by kernel_rfl) (by kernel_rfl) ⟨⟨_,hW⟩,rfl⟩ ?_
          simp only [pickR,List.toList_toArray,List.flatMap_cons,List.flatMap_nil,List.drop_succ_cons,List.drop_zero,List.take_succ_cons,List.take_zero,List.cons_append,List.nil_append,List.append_nil]
          repeat go_big_quiet_step (fail)
          refine wpQuiet_nil ?_
          refine call_at 35 (some 98) 88 #[.slice x2 pp.length j2,.slice y2 qp.length l2] 2 (by kernel_rfl) (by kernel_rfl) (by kernel_rfl) (by kernel_rfl) (by kernel_rfl) ?_
          refine (s2 _ (u2.below hW) (t2.below hW)).mono ?_
          rintro e w9 ⟨rfl,hb9⟩
          replace hW:=hW.trans (hb9.mono hW.size)
          clear hb9
          refine ⟨_,rfl,⟨⟨_,hW⟩,rfl⟩,?_⟩
          simp only [Act.put,List.setIfInBounds_toArray,List.set_cons_zero,List.set_cons_succ]
          refine seg_range [(36,2)] 0 (by kernel_rfl) (by kernel_rfl) (by kernel_rfl) (by kernel_rfl) (by kernel_rfl) ⟨⟨_,hW⟩,rfl⟩ ?_
          simp only [pickR,List.toList_toArray,List.flatMap_cons,List.flatMap_nil,List.drop_succ_cons,List.drop_zero,List.take_succ_cons,List.take_zero,List.cons_append,List.nil_append,List.append_nil]
          repeat go_big_quiet_step (fail)
          refine wpQuiet_nil ?_
          refine text_end (by kernel_rfl) ?_
          replace hB:=hB.trans (hW.mono hB.size)
          clear c2 d2 v0 v1 z0 z1 hW hnn s1 s2 HY HN HR
          go_wp2
          go_roundw
          case rel=>exact ⟨k + 1,by omega,by go_num,HR'.out,hB⟩
          case measure=>simp [intOf];omega
       ·have E1:Hid (E=true):=by rw [HE2.out];exact kpRs_all (fun j hj=>HA.out j (by simp at hj;omega))
        have hlti:¬ (k:Int) < (rs.length:Int):=by omega
        clear HA HE2 HS0
        go_wp2
        go_ret
        exact ⟨by rw [E1.out];rfl,hB⟩

end Go.Proofs.YtjjolkihiclopaaGreatDoor
