/- What the model takes back, by the plain store. No condition. -/
import Derived.Test.YtjaoggkpnjkkpaaS4t
import Derived.Test.YtjaoggkpnjkkpaaS3s
import Derived.Test.YtjaoggkpnjkkpaaS3c
namespace Go.Proofs.Ytjaoggkpnjkkpaa
open Go.RowKit Go.Maps
open Go.BigFrame
set_option linter.unusedVariables false
set_option linter.unusedSimpArgs false

theorem drop_undo {us : List UndoD} {m : Nat} (h : m < us.length) : us.drop m = us.getD m undoNo :: us.drop (m + 1) := by
  have e : us.getD m undoNo = us[m] := by simp [List.getD, h]
  rw [e, List.drop_eq_getElem_cons h]

set_option maxRecDepth 100000 in
set_option maxHeartbeats 2000000 in
theorem l4Back_any (a : Option Addr) (cap : Nat) (xs : List ItemD) (ua : Option Addr) (uc : Nat) (us : List UndoD) (w : World) (h : ItemRow w a xs) (hN : Nice a xs.length cap) (hu : UndoRow w ua us) (h8 : xs.length ≤ 8) (g : Good xs) (hf : undoF us = 0) :
    Calls Try.prog 60 #[.slice a xs.length cap, .slice ua us.length uc] w fun e w' => ∃ b c, e = .returned (.slice b (bkA xs us).length c) ∧
      w'.ownsRow w.heap.size 94 2 (.slice b (bkA xs us).length c) (bkA xs us).length (itemCells (bkA xs us)) ∧ Below w.heap.size w w' := by
  obtain ⟨hu4, hu1⟩ := undoF_parts hf
  have HU : Hid (∀ u ∈ us, unF1 u = 0) := hu1
  clear hf hu1
  have hbE : Below w.heap.size w (w.alloc (.cells #[] 94)) := by go_grown
  have hoE := World.ownsRow_lit (size := 2) (e := 94) w #[] 0 (Nat.le_refl _) (by decide) rfl
  have hsE : w.heap.size ≤ (w.alloc (.cells #[] 94)).heap.size := by simp
  have hcp : ∀ (ops : Array Oper) (rest : List Oper) (o : Oper) (act : Act) (Q : Exit → Act → World → Prop) (hgd : o.guard = none) (sx x : Operand) (ho : o.op = .call { callee := .builtin .append, args := #[sx, x], argTypes := #[24, 24] }) (hs : act.eval sx = .slice (some ⟨w.heap.size, 0, none⟩) 0 0) (hx : act.eval x = .slice a xs.length cap)
      (hh : ∀ a' c' w', w'.ownsRow w.heap.size 94 2 (.slice a' xs.length c') xs.length (itemCells xs) → Below w.heap.size (w.alloc (.cells #[] 94)) w' → wpList Try.prog ops Q rest (act.put o.dst (.slice a' xs.length c')) w'), wpList Try.prog ops Q (o :: rest) act (w.alloc (.cells #[] 94)) :=
    fun ops rest o act Q hgd sx x ho hs hx hh => wpList_copy_items _ hgd sx x ho w.heap.size w.heap.size hs hoE a xs cap hx (h.below hbE) hN (by omega) (by simp) hh
  go_enter Try.func60, Try.ntmps60
  go_wp2_with (at_builtin; refine hcp _ _ _ _ _ rfl _ _ rfl rfl rfl ?_)
  intro a1 c1 w2 hown hbc
  have hb2 : Below w.heap.size w w2 := hbE.trans hbc
  clear hcp hoE hbE hbc hsE
  go_wp2
  go_loopw [5, 6] (fun v j wr => ∃ m : Nat, m ≤ us.length ∧ j = .int .i64 ((m : Int) - 1) ∧ wr.ownsRow w.heap.size 94 2 v (bkA xs (us.drop m)).length (itemCells (bkA xs (us.drop m))) ∧ Below w.heap.size w wr) (fun _ j _ => (intOf j + 1).toNat)
  case atStart => exact ⟨us.length, Nat.le_refl _, rfl, by rw [List.drop_length]; exact hown, hb2⟩
  case round =>
    obtain ⟨m, hm, rfl, ho, hb⟩ := hrel
    obtain ⟨y1, y2, rfl⟩ := own_shape ho
    cases m with
    | zero =>
      rw [List.drop_zero] at ho
      simp only [List.drop_zero]
      go_wp2
      go_ret
      exact ⟨_, _, rfl, ho, hb⟩
    | succ m =>
      have hlt : m < us.length := by omega
      obtain ⟨b, off, rfl, hbs, hc0, hc1, hc2⟩ := (hu.below hb).at m hlt
      have HS : Hid (bkA xs (us.drop m) = bk1 (bkA xs (us.drop (m + 1))) (us.getD m undoNo)) := by
        show _ = _
        rw [drop_undo hlt]
        rfl
      obtain ⟨gY, lY⟩ := bkA_good g (us := us.drop (m + 1)) (fun u hx => HU.out u (List.mem_of_mem_drop hx))
      rw [List.length_drop] at lY
      have hx1 : ((m + 1 : Nat) : Int) - 1 = (m : Int) := by omega
      rw [hx1]
      generalize bkA xs (us.drop (m + 1)) = Y at ho HS gY lY
      generalize us.getD m undoNo = z at hc0 hc1 hc2 HS
      obtain ⟨z0, z1, z2⟩ := z
      dsimp only at hc0 hc1 hc2
      have hsz := hb.size
      have hR := Lies.own ho
      cases z1
      · have hD := fun w h => l3Drop_any y1 y2 Y z0 w h (by omega)
        have e : bk1 Y ⟨z0, false, z2⟩ = delI Y z0 := by simp [bk1]
        rw [e] at HS
        clear e ho
        generalize delI Y z0 = R at hD HS
        go_wp2_with fail
        refine (hD _ hR).mono ?_
        rintro e w3 ⟨r1, r2, rfl, o3, hb3⟩
        have RR : Hid (_ ∧ _) := ⟨own_base o3 hsz, hb.trans (hb3.mono hsz)⟩
        clear o3 hb3 hb hD hc0 hc1 hc2 hR
        go_wp2
        go_roundw
        case rel => exact ⟨m, by omega, by go_num, by rw [HS.out]; exact RR.out.1, RR.out.2⟩
        case measure => simp [intOf] <;> omega
      · have hD := fun w h => l3Set_any y1 y2 Y z0 z2 w h (by omega)
        have e : bk1 Y ⟨z0, true, z2⟩ = setI Y ⟨z0, z2⟩ := by simp [bk1]
        rw [setR_false _ gY.rise] at hD
        rw [e] at HS
        clear e ho
        generalize setI Y ⟨z0, z2⟩ = R at hD HS
        have k0 := lat_cell hc0
        have k2 := lat_cell hc2
        have hW : Below wr.heap.size wr wr.drew := (Below.refl _ _).drew
        have hne : Nonempty (Lat wr) := ⟨⟨wr, Below.refl _ _⟩⟩
        go_wp2_with fail
        refine text_begin (S := fun w' => ∃ u : Lat wr, w' = u.val) (by kernel_rfl) ?_
        refine seg_range [(0, 12)] 2 (by kernel_rfl) (by kernel_rfl) (by kernel_rfl) (by kernel_rfl) (by kernel_rfl) ⟨⟨_, hW⟩, rfl⟩ ?_
        simp only [pickR, List.toList_toArray, List.flatMap_cons, List.flatMap_nil, List.drop_succ_cons, List.drop_zero, List.take_succ_cons, List.take_zero, List.cons_append, List.nil_append, List.append_nil]
        repeat go_big_quiet_step (fail)
        refine wpQuiet_nil ?_
        refine call_at 12 (some 34) 87 #[.slice y1 Y.length y2, .agg #[.int .i64 z0, .int .i64 z2]] 1 (by kernel_rfl) (by kernel_rfl) (by kernel_rfl) (by kernel_rfl) (by kernel_rfl) ?_
        refine (hD _ (hR.below hW)).mono ?_
        rintro e w3 ⟨r1, r2, rfl, o3, hb3⟩
        have hszW := hW.size
        replace hW := hW.trans (hb3.mono hW.size)
        refine ⟨_, rfl, ⟨⟨_, hW⟩, rfl⟩, ?_⟩
        simp only [Act.put, List.setIfInBounds_toArray, List.set_cons_zero, List.set_cons_succ]
        refine seg_range [(13, 1)] 0 (by kernel_rfl) (by kernel_rfl) (by kernel_rfl) (by kernel_rfl) (by kernel_rfl) ⟨⟨_, hW⟩, rfl⟩ ?_
        simp only [pickR, List.toList_toArray, List.flatMap_cons, List.flatMap_nil, List.drop_succ_cons, List.drop_zero, List.take_succ_cons, List.take_zero, List.cons_append, List.nil_append, List.append_nil]
        repeat go_big_quiet_step (fail)
        refine wpQuiet_nil ?_
        refine text_end (by kernel_rfl) ?_
        have RR : Hid (_ ∧ _) := ⟨own_base o3 (Nat.le_trans hsz hszW), hb.trans (hW.mono hsz)⟩
        clear o3 hb3 hb hD hc0 hc1 hc2 hR k0 k2 hW hne
        go_wp2
        go_roundw
        case rel => exact ⟨m, by omega, by go_num, by rw [HS.out]; exact RR.out.1, RR.out.2⟩
        case measure => simp [intOf] <;> omega

end Go.Proofs.Ytjaoggkpnjkkpaa
