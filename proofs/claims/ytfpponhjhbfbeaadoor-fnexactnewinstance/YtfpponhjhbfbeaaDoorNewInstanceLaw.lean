/- The law FnExactNewInstance, walked: it answers true, and it writes into nothing that was there. -/
import Derived.Test.YtfpponhjhbfbeaaDoorNW
namespace Go.Proofs.YtfpponhjhbfbeaaDoor
open Go.RowKit
open Go.BigFrame
set_option linter.unusedVariables false
set_option linter.unusedSimpArgs false

theorem Blk.outs {w w' : World} {b : Nat} {t : TypeId} {cs : Array Value} {F : List Nat} (h : Blk w b t cs) (hU : Out F w w') (hF : b ∉ F) : Blk w' b t cs := (hU.block b h.lt hF).trans h
theorem newE_n {q : InstQ} (h : q.e = newE) : q.n ≤ 1048576 := by
  have := inst_n (q := q) (p := ⟨false, .slice none 0 0, [], .slice none 0 0, [⟨.slice none 0 0, [3, 3, 3], .slice none 0 0, [3, 3, 3]⟩], .slice none 0 0, [3, 3, 3]⟩) h
  rw [this]
  decide

set_option maxHeartbeats 8000000 in
theorem newInstanceLaw (w : World) (hG : Opn w) :
    Calls Tryd.prog 3 #[] w fun e w' => e = .returned (.bool true) ∧ Below w.heap.size w w' := by
  have hqs : Hid (∀ q : InstQ, q.e = newE → q.n ≤ 1048576) := fun q hq => newE_n hq
  have b0 : Below w.heap.size w w := Below.refl _ _
  go_enter Tryd.func3, Tryd.ntmps3
  go_wp2_with fail
  refine (specNewInstance_any w).mono ?_
  rintro e w5 ⟨qs, rfl, es, os, ns, gs, hb⟩
  have us : ∀ k ∈ instK.foot qs, w.heap.size ≤ k ∧ k < w5.heap.size := fun k hk => ⟨gs k hk, instK.own_lt os k hk⟩
  replace b0 := b0.trans (hb.mono b0.size)
  clear hb
  clear ns gs
  have hls : InstQ.n qs ≤ 1048576 := hqs.out qs es
  obtain ⟨hass, vbs, batchs, vrs, roundss, vds, decs⟩ := qs
  obtain ⟨bas, bks, rfl⟩ : ∃ a c, vbs = .slice a batchs.length c := os.1.shape
  obtain ⟨vas, vks, rfl⟩ : ∃ a c, vrs = .slice a roundss.length c := os.2.1.shape
  obtain ⟨das, dks, rfl⟩ : ∃ a c, vds = .slice a decs.length c := os.2.2.shape
  have hw5 := b0.size
  have S0 := Blk.new w5 30 #[.int .i64 0, .int .i64 0, .bool false, .bool false, .int .i64 0, .bool hass, .slice bas batchs.length bks, .slice vas roundss.length vks, .slice das decs.length dks]
  have hb : Below w5.heap.size w5 (w5.alloc (.cells #[.int .i64 0, .int .i64 0, .bool false, .bool false, .int .i64 0, .bool hass, .slice bas batchs.length bks, .slice vas roundss.length vks, .slice das decs.length dks] 30)) := by go_grown
  replace os := instK.own_out (F := []) os (Out.of_below hb) (fun _ _ => by simp)
  replace b0 := b0.trans (hb.mono b0.size)
  clear hb
  go_wp2_with fail
  generalize w5.alloc (.cells #[.int .i64 0, .int .i64 0, .bool false, .bool false, .int .i64 0, .bool hass, .slice bas batchs.length bks, .slice vas roundss.length vks, .slice das decs.length dks] 30) = W5 at *
  refine (implNewInstance_any W5 (hG.below b0)).mono ?_
  rintro e w8 ⟨qi, rfl, ei, oi, ni, gi, hb⟩
  have h78 := hb.size
  have hS5 := S0.lt
  have ui : ∀ k ∈ instK.foot qi, w5.heap.size < k ∧ k < w8.heap.size := fun k hk => ⟨by have := gi k hk; omega, instK.own_lt oi k hk⟩
  replace S0 := S0.below hb
  replace os := instK.own_out (F := []) os (Out.of_below hb) (fun _ _ => by simp)
  replace b0 := b0.trans (hb.mono b0.size)
  clear hb
  clear gi
  have hS8 := S0.lt
  have hli : InstQ.n qi ≤ 1048576 := hqs.out qi ei
  obtain ⟨hasi, vbi, batchi, vri, roundsi, vdi, deci⟩ := qi
  obtain ⟨bai, bki, rfl⟩ : ∃ a c, vbi = .slice a batchi.length c := oi.1.shape
  obtain ⟨vai, vki, rfl⟩ : ∃ a c, vri = .slice a roundsi.length c := oi.2.1.shape
  obtain ⟨dai, dki, rfl⟩ : ∃ a c, vdi = .slice a deci.length c := oi.2.2.shape
  have Y0 := Blk.new w8 30 #[.int .i64 0, .int .i64 0, .bool false, .bool false, .int .i64 0, .bool hasi, .slice bai batchi.length bki, .slice vai roundsi.length vki, .slice dai deci.length dki]
  have hb : Below w8.heap.size w8 (w8.alloc (.cells #[.int .i64 0, .int .i64 0, .bool false, .bool false, .int .i64 0, .bool hasi, .slice bai batchi.length bki, .slice vai roundsi.length vki, .slice dai deci.length dki] 30)) := by go_grown
  replace S0 := S0.below hb
  replace os := instK.own_out (F := []) os (Out.of_below hb) (fun _ _ => by simp)
  replace oi := instK.own_out (F := []) oi (Out.of_below hb) (fun _ _ => by simp)
  replace b0 := b0.trans (hb.mono b0.size)
  clear hb
  have r0 := S0.cell 0 _ rfl
  have r1 := S0.cell 1 _ rfl
  have r2 := S0.cell 2 _ rfl
  have r3 := S0.cell 3 _ rfl
  have r4 := S0.cell 4 _ rfl
  have r5 := S0.cell 5 _ rfl
  have r6 := S0.cell 6 _ rfl
  have r7 := S0.cell 7 _ rfl
  have r8 := S0.cell 8 _ rfl
  go_wp2_with fail
  clear r0 r1 r2 r3 r4 r5 r6 r7 r8
  generalize w8.alloc (.cells #[.int .i64 0, .int .i64 0, .bool false, .bool false, .int .i64 0, .bool hasi, .slice bai batchi.length bki, .slice vai roundsi.length vki, .slice dai deci.length dki] 30) = W8 at *
  refine (eqIR6_k 0 0 false false 0 (⟨hasi, .slice bai batchi.length bki, batchi, .slice vai roundsi.length vki, roundsi, .slice dai deci.length dki, deci⟩ : InstQ) (⟨hass, .slice bas batchs.length bks, batchs, .slice vas roundss.length vks, roundss, .slice das decs.length dks, decs⟩ : InstQ) _ (instK.own_rd oi) (instK.own_rd os) (ei.trans es.symm) hli).mono ?_
  rintro e w15 ⟨rfl, hb⟩
  replace S0 := S0.below hb
  replace Y0 := Y0.below hb
  replace os := instK.own_out (F := []) os (Out.of_below hb) (fun _ _ => by simp)
  replace oi := instK.own_out (F := []) oi (Out.of_below hb) (fun _ _ => by simp)
  replace b0 := b0.trans (hb.mono b0.size)
  clear hb
  have p0 := Y0.cell 0 _ rfl
  have p1 := Y0.cell 1 _ rfl
  have p2 := Y0.cell 2 _ rfl
  have p3 := Y0.cell 3 _ rfl
  have p4 := Y0.cell 4 _ rfl
  have p5 := Y0.cell 5 _ rfl
  have p6 := Y0.cell 6 _ rfl
  have p7 := Y0.cell 7 _ rfl
  have p8 := Y0.cell 8 _ rfl
  go_wp2_with fail
  clear p0 p1 p2 p3 p4 p5 p6 p7 p8
  have hmi := nmInst_le (⟨hasi, .slice bai batchi.length bki, batchi, .slice vai roundsi.length vki, roundsi, .slice dai deci.length dki, deci⟩ : InstQ)
  refine (markIR6_k 0 0 false false 0 (⟨hasi, .slice bai batchi.length bki, batchi, .slice vai roundsi.length vki, roundsi, .slice dai deci.length dki, deci⟩ : InstQ) 1 w15 oi ni hli (by omega) (by omega)).mono ?_
  rintro e w16 ⟨rfl, om, hU⟩
  have hNU : ∀ k, k ∈ instK.foot (⟨hasi, .slice bai batchi.length bki, batchi, .slice vai roundsi.length vki, roundsi, .slice dai deci.length dki, deci⟩ : InstQ) → w5.heap.size < k ∧ k < w8.heap.size := ui
  replace S0 := S0.outs hU (fun hk => by have := hNU _ hk; omega)
  replace Y0 := Y0.outs hU (fun hk => by have := hNU _ hk; omega)
  replace os := instK.own_out os hU (fun k hk hk' => by have := hNU _ hk'; have := us k hk; omega)
  replace b0 := Out.keep b0 hU b0.size (fun k hk => by have := hNU _ hk; omega)
  clear hNU hU
  clear oi
  have rm := instK.own_rd om
  clear om
  have hmm : Hid (∀ w', Below w16.heap.size w16 w' → instK.rd w' (mkInst 1 (⟨hasi, .slice bai batchi.length bki, batchi, .slice vai roundsi.length vki, roundsi, .slice dai deci.length dki, deci⟩ : InstQ))) := fun w' hb => instK.rd_below rm hb
  have hbq : Below w16.heap.size w16 w16 := Below.refl _ _
  have hhe := fun w h => heldIR6_k 0 0 false false 0 (⟨hasi, .slice bai batchi.length bki, batchi, .slice vai roundsi.length vki, roundsi, .slice dai deci.length dki, deci⟩ : InstQ) 1 w h hli (by omega) (by omega)
  generalize hMi : (nmInst (⟨hasi, .slice bai batchi.length bki, batchi, .slice vai roundsi.length vki, roundsi, .slice dai deci.length dki, deci⟩ : InstQ) : Int) = Mi at *
  have hmi' : 0 ≤ Mi ∧ Mi ≤ 3145728 := by omega
  have hpi : ¬ (1 + Mi < 0) := by omega
  have hne : ((1 + Mi) != (1 + Mi)) = false := by simp
  clear hmi hMi rm
  have p0 := Y0.cell 0 _ rfl
  have p1 := Y0.cell 1 _ rfl
  have p2 := Y0.cell 2 _ rfl
  have p3 := Y0.cell 3 _ rfl
  have p4 := Y0.cell 4 _ rfl
  have p5 := Y0.cell 5 _ rfl
  have p6 := Y0.cell 6 _ rfl
  have p7 := Y0.cell 7 _ rfl
  have p8 := Y0.cell 8 _ rfl
  go_wp2_with fail
  clear p0 p1 p2 p3 p4 p5 p6 p7 p8
  refine (hhe w16 (hmm.out _ hbq)).mono ?_
  rintro e w17 ⟨rfl, hb⟩
  replace hbq := hbq.trans (hb.mono hbq.size)
  replace S0 := S0.below hb
  replace Y0 := Y0.below hb
  replace os := instK.own_out (F := []) os (Out.of_below hb) (fun _ _ => by simp)
  replace b0 := b0.trans (hb.mono b0.size)
  clear hb
  go_wp2_with fail
  refine (implNewInstance_any w17 (hG.below b0)).mono ?_
  rintro e w20 ⟨qh, rfl, eh, oh, nh, gh, hb⟩
  replace hbq := hbq.trans (hb.mono hbq.size)
  replace S0 := S0.below hb
  replace Y0 := Y0.below hb
  replace os := instK.own_out (F := []) os (Out.of_below hb) (fun _ _ => by simp)
  replace b0 := b0.trans (hb.mono b0.size)
  clear hb
  clear nh gh
  have hlh : InstQ.n qh ≤ 1048576 := hqs.out qh eh
  obtain ⟨hash, vbh, batchh, vrh, roundsh, vdh, dech⟩ := qh
  obtain ⟨bah, bkh, rfl⟩ : ∃ a c, vbh = .slice a batchh.length c := oh.1.shape
  obtain ⟨vah, vkh, rfl⟩ : ∃ a c, vrh = .slice a roundsh.length c := oh.2.1.shape
  obtain ⟨dah, dkh, rfl⟩ : ∃ a c, vdh = .slice a dech.length c := oh.2.2.shape
  have H0 := Blk.new w20 30 #[.int .i64 0, .int .i64 0, .bool false, .bool false, .int .i64 0, .bool hash, .slice bah batchh.length bkh, .slice vah roundsh.length vkh, .slice dah dech.length dkh]
  have hb : Below w20.heap.size w20 (w20.alloc (.cells #[.int .i64 0, .int .i64 0, .bool false, .bool false, .int .i64 0, .bool hash, .slice bah batchh.length bkh, .slice vah roundsh.length vkh, .slice dah dech.length dkh] 30)) := by go_grown
  replace hbq := hbq.trans (hb.mono hbq.size)
  replace S0 := S0.below hb
  replace Y0 := Y0.below hb
  replace os := instK.own_out (F := []) os (Out.of_below hb) (fun _ _ => by simp)
  replace oh := instK.own_out (F := []) oh (Out.of_below hb) (fun _ _ => by simp)
  replace b0 := b0.trans (hb.mono b0.size)
  clear hb
  have r0 := S0.cell 0 _ rfl
  have r1 := S0.cell 1 _ rfl
  have r2 := S0.cell 2 _ rfl
  have r3 := S0.cell 3 _ rfl
  have r4 := S0.cell 4 _ rfl
  have r5 := S0.cell 5 _ rfl
  have r6 := S0.cell 6 _ rfl
  have r7 := S0.cell 7 _ rfl
  have r8 := S0.cell 8 _ rfl
  go_wp2_with fail
  clear r0 r1 r2 r3 r4 r5 r6 r7 r8
  generalize w20.alloc (.cells #[.int .i64 0, .int .i64 0, .bool false, .bool false, .int .i64 0, .bool hash, .slice bah batchh.length bkh, .slice vah roundsh.length vkh, .slice dah dech.length dkh] 30) = W20 at *
  refine (eqIR6_k 0 0 false false 0 (⟨hash, .slice bah batchh.length bkh, batchh, .slice vah roundsh.length vkh, roundsh, .slice dah dech.length dkh, dech⟩ : InstQ) (⟨hass, .slice bas batchs.length bks, batchs, .slice vas roundss.length vks, roundss, .slice das decs.length dks, decs⟩ : InstQ) _ (instK.own_rd oh) (instK.own_rd os) (eh.trans es.symm) hlh).mono ?_
  rintro e w21 ⟨rfl, hb⟩
  replace hbq := hbq.trans (hb.mono hbq.size)
  replace S0 := S0.below hb
  replace Y0 := Y0.below hb
  replace H0 := H0.below hb
  replace os := instK.own_out (F := []) os (Out.of_below hb) (fun _ _ => by simp)
  replace oh := instK.own_out (F := []) oh (Out.of_below hb) (fun _ _ => by simp)
  replace b0 := b0.trans (hb.mono b0.size)
  clear hb
  have p0 := Y0.cell 0 _ rfl
  have p1 := Y0.cell 1 _ rfl
  have p2 := Y0.cell 2 _ rfl
  have p3 := Y0.cell 3 _ rfl
  have p4 := Y0.cell 4 _ rfl
  have p5 := Y0.cell 5 _ rfl
  have p6 := Y0.cell 6 _ rfl
  have p7 := Y0.cell 7 _ rfl
  have p8 := Y0.cell 8 _ rfl
  go_wp2_with fail
  clear p0 p1 p2 p3 p4 p5 p6 p7 p8
  refine (hhe w21 (hmm.out _ hbq)).mono ?_
  rintro e w22 ⟨rfl, hb⟩
  replace b0 := b0.trans (hb.mono b0.size)
  clear hb hhe hmm hbq S0 Y0 H0 os oh
  go_wp2
  go_ret
  exact ⟨rfl, b0⟩

end Go.Proofs.YtfpponhjhbfbeaaDoor
