/- StepFault, of the model. No condition. -/
import Derived.Test.YtkkdjgiencilbaaSf13
import Derived.Test.YtkkdjgiencilbaaNum
namespace Go.Proofs.Ytkkdjgiencilbaa
open Go.RowKit
open Go.BigFrame
set_option linter.unusedVariables false
set_option linter.unusedSimpArgs false
set_option maxRecDepth 100000

theorem noTx_ways (t : TxnD) : ((t.id == 0) = false ∧ noTx t = false) ∨ ((t.id == 0) = true ∧ (t.session == 0) = false ∧ noTx t = false) ∨ ((t.id == 0) = true ∧ (t.session == 0) = true ∧ (t.seq == 0) = false ∧ noTx t = false) ∨ ((t.id == 0) = true ∧ (t.session == 0) = true ∧ (t.seq == 0) = true ∧ ((t.acts.length : Int) == 0) = false ∧ noTx t = false) ∨ ((t.id == 0) = true ∧ (t.session == 0) = true ∧ (t.seq == 0) = true ∧ ((t.acts.length : Int) == 0) = true ∧ noTx t = true) := by
  unfold noTx
  obtain ⟨i, s, q, acts⟩ := t
  have : ((acts.length : Int) == 0) = acts.isEmpty := by cases acts <;> simp; omega
  rw [this]
  dsimp only
  cases (i == 0) <;> cases (s == 0) <;> cases (q == 0) <;> cases acts.isEmpty <;> simp

set_option maxHeartbeats 4000000 in
theorem l13NoTxn_any (t : TxnD) (a : Option Addr) (c b : Nat) (w : World) (c3 : w.cell? ⟨b, 3, none⟩ = some (.int .i64 t.id)) (c4 : w.cell? ⟨b, 4, none⟩ = some (.int .i64 t.session)) (c5 : w.cell? ⟨b, 5, none⟩ = some (.int .i64 t.seq)) (c6 : w.cell? ⟨b, 6, none⟩ = some (.slice a t.acts.length c)) :
    Calls Try.prog 69 #[.pointer (some ⟨b, 3, none⟩)] w fun e w' => e = .returned (.bool (noTx t)) ∧ w' = w := by
  rcases noTx_ways t with ⟨h3, e⟩ | ⟨h3, h4, e⟩ | ⟨h3, h4, h5, e⟩ | ⟨h3, h4, h5, h6, e⟩ | ⟨h3, h4, h5, h6, e⟩ <;> rw [e] <;> clear e <;>
    (obtain ⟨i, s, q, acts⟩ := t
     (try dsimp only at h3) <;> (try dsimp only at h4) <;> (try dsimp only at h5) <;> (try dsimp only at h6) <;> (try dsimp only at c3) <;> (try dsimp only at c4) <;> (try dsimp only at c5) <;> (try dsimp only at c6)
     go_enter Try.func69, Try.ntmps69
     go_wp2
     go_ret
     exact ⟨rfl, rfl⟩)

set_option maxHeartbeats 8000000 in
theorem fau1 (nd nn i s q vk vr vn vv : Int) (a : Option Addr) (c : Nat) (acts : List ActD) (b : Nat) (w : World) (B : Blk w b 48 #[.int .i64 1, .int .i64 nd, .int .i64 nn, .int .i64 i, .int .i64 s, .int .i64 q, .slice a acts.length c, .int .i64 vk, .int .i64 vr, .int .i64 vn, .int .i64 vv]) :
    Calls Try.prog 39 #[.pointer (some ⟨b, 0, none⟩)] w fun e w' => e = .returned (.int .i64 (sfF ⟨1, nd, nn, ⟨i, s, q, acts⟩, ⟨vk, vr, vn, vv⟩⟩)) ∧ w' = w := by
  have q0 := B.cell 0 _ rfl
  have q1 := B.cell 1 _ rfl
  have q2 := B.cell 2 _ rfl
  have q3 := B.cell 3 _ rfl
  have q4 := B.cell 4 _ rfl
  have q5 := B.cell 5 _ rfl
  have q6 := B.cell 6 _ rfl
  have q7 := B.cell 7 _ rfl
  have q8 := B.cell 8 _ rfl
  have q9 := B.cell 9 _ rfl
  have q10 := B.cell 10 _ rfl
  have hw := fun w => l1In_any 1 1 5 w
  rw [show inB 1 1 5 = true from rfl] at hw
  clear B
  cases n2 : (nn == 0)
  · have n2' : (nn != 0) = true := by simp [bne, n2]
    have HF : Hid (Ending.returned (Value.int .i64 1) = Ending.returned (.int .i64 (sfF ⟨1, nd, nn, ⟨i, s, q, acts⟩, ⟨vk, vr, vn, vv⟩⟩))) := (show _ = _ by rw [show sfF ⟨1, nd, nn, ⟨i, s, q, acts⟩, ⟨vk, vr, vn, vv⟩⟩ = 1 from by unfold sfF sfOk; simp [n2]])
    go_enter Try.func39, Try.ntmps39
    go_wp2_with fail
    refine (hw w).mono ?_
    rintro e w1 ⟨rfl, hww⟩
    replace hww := hww.symm
    subst hww
    go_wp2
    go_ret
    exact ⟨HF.out, rfl⟩
  have n2' : (nn != 0) = false := by simp [bne, n2]
  rcases noVt_ways ⟨vk, vr, vn, vv⟩ with ⟨h3, e⟩ | ⟨h3, h4, e⟩ | ⟨h3, h4, h5, e⟩ | ⟨h3, h4, h5, h6, e⟩ | ⟨h3, h4, h5, h6, e⟩ <;> (try dsimp only at h3) <;> (try dsimp only at h4) <;> (try dsimp only at h5) <;> (try dsimp only at h6)
  · have HF : Hid (Ending.returned (Value.int .i64 1) = Ending.returned (.int .i64 (sfF ⟨1, nd, nn, ⟨i, s, q, acts⟩, ⟨vk, vr, vn, vv⟩⟩))) := (show _ = _ by rw [show sfF ⟨1, nd, nn, ⟨i, s, q, acts⟩, ⟨vk, vr, vn, vv⟩⟩ = 1 from by unfold sfF sfOk; simp [n2, e]])
    go_enter Try.func39, Try.ntmps39
    go_wp2_with fail
    refine (hw w).mono ?_
    rintro e w1 ⟨rfl, hww⟩
    replace hww := hww.symm
    subst hww
    go_wp2
    go_ret
    exact ⟨HF.out, rfl⟩
  · have HF : Hid (Ending.returned (Value.int .i64 1) = Ending.returned (.int .i64 (sfF ⟨1, nd, nn, ⟨i, s, q, acts⟩, ⟨vk, vr, vn, vv⟩⟩))) := (show _ = _ by rw [show sfF ⟨1, nd, nn, ⟨i, s, q, acts⟩, ⟨vk, vr, vn, vv⟩⟩ = 1 from by unfold sfF sfOk; simp [n2, e]])
    go_enter Try.func39, Try.ntmps39
    go_wp2_with fail
    refine (hw w).mono ?_
    rintro e w1 ⟨rfl, hww⟩
    replace hww := hww.symm
    subst hww
    go_wp2
    go_ret
    exact ⟨HF.out, rfl⟩
  · have HF : Hid (Ending.returned (Value.int .i64 1) = Ending.returned (.int .i64 (sfF ⟨1, nd, nn, ⟨i, s, q, acts⟩, ⟨vk, vr, vn, vv⟩⟩))) := (show _ = _ by rw [show sfF ⟨1, nd, nn, ⟨i, s, q, acts⟩, ⟨vk, vr, vn, vv⟩⟩ = 1 from by unfold sfF sfOk; simp [n2, e]])
    go_enter Try.func39, Try.ntmps39
    go_wp2_with fail
    refine (hw w).mono ?_
    rintro e w1 ⟨rfl, hww⟩
    replace hww := hww.symm
    subst hww
    go_wp2
    go_ret
    exact ⟨HF.out, rfl⟩
  · have HF : Hid (Ending.returned (Value.int .i64 1) = Ending.returned (.int .i64 (sfF ⟨1, nd, nn, ⟨i, s, q, acts⟩, ⟨vk, vr, vn, vv⟩⟩))) := (show _ = _ by rw [show sfF ⟨1, nd, nn, ⟨i, s, q, acts⟩, ⟨vk, vr, vn, vv⟩⟩ = 1 from by unfold sfF sfOk; simp [n2, e]])
    go_enter Try.func39, Try.ntmps39
    go_wp2_with fail
    refine (hw w).mono ?_
    rintro e w1 ⟨rfl, hww⟩
    replace hww := hww.symm
    subst hww
    go_wp2
    go_ret
    exact ⟨HF.out, rfl⟩
  · have HF : Hid (Ending.returned (Value.int .i64 0) = Ending.returned (.int .i64 (sfF ⟨1, nd, nn, ⟨i, s, q, acts⟩, ⟨vk, vr, vn, vv⟩⟩))) := (show _ = _ by rw [show sfF ⟨1, nd, nn, ⟨i, s, q, acts⟩, ⟨vk, vr, vn, vv⟩⟩ = 0 from by unfold sfF sfOk; simp [n2, e]])
    go_enter Try.func39, Try.ntmps39
    go_wp2_with fail
    refine (hw w).mono ?_
    rintro e w1 ⟨rfl, hww⟩
    replace hww := hww.symm
    subst hww
    go_wp2
    go_ret
    exact ⟨HF.out, rfl⟩

set_option maxHeartbeats 8000000 in
theorem fau2 (nd nn i s q vk vr vn vv : Int) (a : Option Addr) (c : Nat) (acts : List ActD) (b : Nat) (w : World) (B : Blk w b 48 #[.int .i64 2, .int .i64 nd, .int .i64 nn, .int .i64 i, .int .i64 s, .int .i64 q, .slice a acts.length c, .int .i64 vk, .int .i64 vr, .int .i64 vn, .int .i64 vv]) :
    Calls Try.prog 39 #[.pointer (some ⟨b, 0, none⟩)] w fun e w' => e = .returned (.int .i64 (sfF ⟨2, nd, nn, ⟨i, s, q, acts⟩, ⟨vk, vr, vn, vv⟩⟩)) ∧ w' = w := by
  have q0 := B.cell 0 _ rfl
  have q1 := B.cell 1 _ rfl
  have q2 := B.cell 2 _ rfl
  have q3 := B.cell 3 _ rfl
  have q4 := B.cell 4 _ rfl
  have q5 := B.cell 5 _ rfl
  have q6 := B.cell 6 _ rfl
  have q7 := B.cell 7 _ rfl
  have q8 := B.cell 8 _ rfl
  have q9 := B.cell 9 _ rfl
  have q10 := B.cell 10 _ rfl
  have hw := fun w => l1In_any 2 1 5 w
  rw [show inB 2 1 5 = true from rfl] at hw
  have ht := fun (c3 : w.cell? ⟨b, 3, none⟩ = _) (c4 : w.cell? ⟨b, 4, none⟩ = _) (c5 : w.cell? ⟨b, 5, none⟩ = _) (c6 : w.cell? ⟨b, 6, none⟩ = _) => l13NoTxn_any ⟨i, s, q, acts⟩ a c b w c3 c4 c5 c6
  replace ht := ht q3 q4 q5 q6
  clear B
  cases n1 : (nd == 0)
  · have n1' : (nd != 0) = true := by simp [bne, n1]
    have HF : Hid (Ending.returned (Value.int .i64 1) = Ending.returned (.int .i64 (sfF ⟨2, nd, nn, ⟨i, s, q, acts⟩, ⟨vk, vr, vn, vv⟩⟩))) := (show _ = _ by rw [show sfF ⟨2, nd, nn, ⟨i, s, q, acts⟩, ⟨vk, vr, vn, vv⟩⟩ = 1 from by unfold sfF sfOk; simp [n1]])
    go_enter Try.func39, Try.ntmps39
    go_wp2_with fail
    refine (hw w).mono ?_
    rintro e w1 ⟨rfl, hww⟩
    replace hww := hww.symm
    subst hww
    go_wp2
    go_ret
    exact ⟨HF.out, rfl⟩
  have n1' : (nd != 0) = false := by simp [bne, n1]
  cases n3 : noTx ⟨i, s, q, acts⟩
  · rw [n3] at ht
    have HF : Hid (Ending.returned (Value.int .i64 1) = Ending.returned (.int .i64 (sfF ⟨2, nd, nn, ⟨i, s, q, acts⟩, ⟨vk, vr, vn, vv⟩⟩))) := (show _ = _ by rw [show sfF ⟨2, nd, nn, ⟨i, s, q, acts⟩, ⟨vk, vr, vn, vv⟩⟩ = 1 from by unfold sfF sfOk; simp [n1, n3]])
    go_enter Try.func39, Try.ntmps39
    go_wp2_with fail
    refine (hw w).mono ?_
    rintro e w1 ⟨rfl, hww⟩
    replace hww := hww.symm
    subst hww
    go_wp2_with fail
    refine ht.mono ?_
    rintro e w1 ⟨rfl, hww⟩
    replace hww := hww.symm
    subst hww
    go_wp2
    go_ret
    exact ⟨HF.out, rfl⟩
  rw [n3] at ht
  rcases noVt_ways ⟨vk, vr, vn, vv⟩ with ⟨h3, e⟩ | ⟨h3, h4, e⟩ | ⟨h3, h4, h5, e⟩ | ⟨h3, h4, h5, h6, e⟩ | ⟨h3, h4, h5, h6, e⟩ <;> (try dsimp only at h3) <;> (try dsimp only at h4) <;> (try dsimp only at h5) <;> (try dsimp only at h6)
  · have HF : Hid (Ending.returned (Value.int .i64 1) = Ending.returned (.int .i64 (sfF ⟨2, nd, nn, ⟨i, s, q, acts⟩, ⟨vk, vr, vn, vv⟩⟩))) := (show _ = _ by rw [show sfF ⟨2, nd, nn, ⟨i, s, q, acts⟩, ⟨vk, vr, vn, vv⟩⟩ = 1 from by unfold sfF sfOk; simp [n1, n3, e]])
    go_enter Try.func39, Try.ntmps39
    go_wp2_with fail
    refine (hw w).mono ?_
    rintro e w1 ⟨rfl, hww⟩
    replace hww := hww.symm
    subst hww
    go_wp2_with fail
    refine ht.mono ?_
    rintro e w1 ⟨rfl, hww⟩
    replace hww := hww.symm
    subst hww
    go_wp2
    go_ret
    exact ⟨HF.out, rfl⟩
  · have HF : Hid (Ending.returned (Value.int .i64 1) = Ending.returned (.int .i64 (sfF ⟨2, nd, nn, ⟨i, s, q, acts⟩, ⟨vk, vr, vn, vv⟩⟩))) := (show _ = _ by rw [show sfF ⟨2, nd, nn, ⟨i, s, q, acts⟩, ⟨vk, vr, vn, vv⟩⟩ = 1 from by unfold sfF sfOk; simp [n1, n3, e]])
    go_enter Try.func39, Try.ntmps39
    go_wp2_with fail
    refine (hw w).mono ?_
    rintro e w1 ⟨rfl, hww⟩
    replace hww := hww.symm
    subst hww
    go_wp2_with fail
    refine ht.mono ?_
    rintro e w1 ⟨rfl, hww⟩
    replace hww := hww.symm
    subst hww
    go_wp2
    go_ret
    exact ⟨HF.out, rfl⟩
  · have HF : Hid (Ending.returned (Value.int .i64 1) = Ending.returned (.int .i64 (sfF ⟨2, nd, nn, ⟨i, s, q, acts⟩, ⟨vk, vr, vn, vv⟩⟩))) := (show _ = _ by rw [show sfF ⟨2, nd, nn, ⟨i, s, q, acts⟩, ⟨vk, vr, vn, vv⟩⟩ = 1 from by unfold sfF sfOk; simp [n1, n3, e]])
    go_enter Try.func39, Try.ntmps39
    go_wp2_with fail
    refine (hw w).mono ?_
    rintro e w1 ⟨rfl, hww⟩
    replace hww := hww.symm
    subst hww
    go_wp2_with fail
    refine ht.mono ?_
    rintro e w1 ⟨rfl, hww⟩
    replace hww := hww.symm
    subst hww
    go_wp2
    go_ret
    exact ⟨HF.out, rfl⟩
  · have HF : Hid (Ending.returned (Value.int .i64 1) = Ending.returned (.int .i64 (sfF ⟨2, nd, nn, ⟨i, s, q, acts⟩, ⟨vk, vr, vn, vv⟩⟩))) := (show _ = _ by rw [show sfF ⟨2, nd, nn, ⟨i, s, q, acts⟩, ⟨vk, vr, vn, vv⟩⟩ = 1 from by unfold sfF sfOk; simp [n1, n3, e]])
    go_enter Try.func39, Try.ntmps39
    go_wp2_with fail
    refine (hw w).mono ?_
    rintro e w1 ⟨rfl, hww⟩
    replace hww := hww.symm
    subst hww
    go_wp2_with fail
    refine ht.mono ?_
    rintro e w1 ⟨rfl, hww⟩
    replace hww := hww.symm
    subst hww
    go_wp2
    go_ret
    exact ⟨HF.out, rfl⟩
  · have HF : Hid (Ending.returned (Value.int .i64 0) = Ending.returned (.int .i64 (sfF ⟨2, nd, nn, ⟨i, s, q, acts⟩, ⟨vk, vr, vn, vv⟩⟩))) := (show _ = _ by rw [show sfF ⟨2, nd, nn, ⟨i, s, q, acts⟩, ⟨vk, vr, vn, vv⟩⟩ = 0 from by unfold sfF sfOk; simp [n1, n3, e]])
    go_enter Try.func39, Try.ntmps39
    go_wp2_with fail
    refine (hw w).mono ?_
    rintro e w1 ⟨rfl, hww⟩
    replace hww := hww.symm
    subst hww
    go_wp2_with fail
    refine ht.mono ?_
    rintro e w1 ⟨rfl, hww⟩
    replace hww := hww.symm
    subst hww
    go_wp2
    go_ret
    exact ⟨HF.out, rfl⟩

set_option maxHeartbeats 8000000 in
theorem fau3 (nd nn i s q vk vr vn vv : Int) (a : Option Addr) (c : Nat) (acts : List ActD) (b : Nat) (w : World) (B : Blk w b 48 #[.int .i64 3, .int .i64 nd, .int .i64 nn, .int .i64 i, .int .i64 s, .int .i64 q, .slice a acts.length c, .int .i64 vk, .int .i64 vr, .int .i64 vn, .int .i64 vv]) :
    Calls Try.prog 39 #[.pointer (some ⟨b, 0, none⟩)] w fun e w' => e = .returned (.int .i64 (sfF ⟨3, nd, nn, ⟨i, s, q, acts⟩, ⟨vk, vr, vn, vv⟩⟩)) ∧ w' = w := by
  have q0 := B.cell 0 _ rfl
  have q1 := B.cell 1 _ rfl
  have q2 := B.cell 2 _ rfl
  have q3 := B.cell 3 _ rfl
  have q4 := B.cell 4 _ rfl
  have q5 := B.cell 5 _ rfl
  have q6 := B.cell 6 _ rfl
  have q7 := B.cell 7 _ rfl
  have q8 := B.cell 8 _ rfl
  have q9 := B.cell 9 _ rfl
  have q10 := B.cell 10 _ rfl
  have hw := fun w => l1In_any 3 1 5 w
  rw [show inB 3 1 5 = true from rfl] at hw
  have ht := fun (c3 : w.cell? ⟨b, 3, none⟩ = _) (c4 : w.cell? ⟨b, 4, none⟩ = _) (c5 : w.cell? ⟨b, 5, none⟩ = _) (c6 : w.cell? ⟨b, 6, none⟩ = _) => l13NoTxn_any ⟨i, s, q, acts⟩ a c b w c3 c4 c5 c6
  replace ht := ht q3 q4 q5 q6
  clear B
  cases n1 : (nd == 0)
  · have n1' : (nd != 0) = true := by simp [bne, n1]
    have HF : Hid (Ending.returned (Value.int .i64 1) = Ending.returned (.int .i64 (sfF ⟨3, nd, nn, ⟨i, s, q, acts⟩, ⟨vk, vr, vn, vv⟩⟩))) := (show _ = _ by rw [show sfF ⟨3, nd, nn, ⟨i, s, q, acts⟩, ⟨vk, vr, vn, vv⟩⟩ = 1 from by unfold sfF sfOk; simp [n1]])
    go_enter Try.func39, Try.ntmps39
    go_wp2_with fail
    refine (hw w).mono ?_
    rintro e w1 ⟨rfl, hww⟩
    replace hww := hww.symm
    subst hww
    go_wp2
    go_ret
    exact ⟨HF.out, rfl⟩
  have n1' : (nd != 0) = false := by simp [bne, n1]
  cases n3 : noTx ⟨i, s, q, acts⟩
  · rw [n3] at ht
    have HF : Hid (Ending.returned (Value.int .i64 1) = Ending.returned (.int .i64 (sfF ⟨3, nd, nn, ⟨i, s, q, acts⟩, ⟨vk, vr, vn, vv⟩⟩))) := (show _ = _ by rw [show sfF ⟨3, nd, nn, ⟨i, s, q, acts⟩, ⟨vk, vr, vn, vv⟩⟩ = 1 from by unfold sfF sfOk; simp [n1, n3]])
    go_enter Try.func39, Try.ntmps39
    go_wp2_with fail
    refine (hw w).mono ?_
    rintro e w1 ⟨rfl, hww⟩
    replace hww := hww.symm
    subst hww
    go_wp2_with fail
    refine ht.mono ?_
    rintro e w1 ⟨rfl, hww⟩
    replace hww := hww.symm
    subst hww
    go_wp2
    go_ret
    exact ⟨HF.out, rfl⟩
  rw [n3] at ht
  have HF : Hid (Ending.returned (Value.int .i64 0) = Ending.returned (.int .i64 (sfF ⟨3, nd, nn, ⟨i, s, q, acts⟩, ⟨vk, vr, vn, vv⟩⟩))) := (show _ = _ by rw [show sfF ⟨3, nd, nn, ⟨i, s, q, acts⟩, ⟨vk, vr, vn, vv⟩⟩ = 0 from by unfold sfF sfOk; simp [n1, n3]])
  go_enter Try.func39, Try.ntmps39
  go_wp2_with fail
  refine (hw w).mono ?_
  rintro e w1 ⟨rfl, hww⟩
  replace hww := hww.symm
  subst hww
  go_wp2_with fail
  refine ht.mono ?_
  rintro e w1 ⟨rfl, hww⟩
  replace hww := hww.symm
  subst hww
  go_wp2
  go_ret
  exact ⟨HF.out, rfl⟩

set_option maxHeartbeats 8000000 in
theorem fau4 (nd nn i s q vk vr vn vv : Int) (a : Option Addr) (c : Nat) (acts : List ActD) (b : Nat) (w : World) (B : Blk w b 48 #[.int .i64 4, .int .i64 nd, .int .i64 nn, .int .i64 i, .int .i64 s, .int .i64 q, .slice a acts.length c, .int .i64 vk, .int .i64 vr, .int .i64 vn, .int .i64 vv]) :
    Calls Try.prog 39 #[.pointer (some ⟨b, 0, none⟩)] w fun e w' => e = .returned (.int .i64 (sfF ⟨4, nd, nn, ⟨i, s, q, acts⟩, ⟨vk, vr, vn, vv⟩⟩)) ∧ w' = w := by
  have q0 := B.cell 0 _ rfl
  have q1 := B.cell 1 _ rfl
  have q2 := B.cell 2 _ rfl
  have q3 := B.cell 3 _ rfl
  have q4 := B.cell 4 _ rfl
  have q5 := B.cell 5 _ rfl
  have q6 := B.cell 6 _ rfl
  have q7 := B.cell 7 _ rfl
  have q8 := B.cell 8 _ rfl
  have q9 := B.cell 9 _ rfl
  have q10 := B.cell 10 _ rfl
  have hw := fun w => l1In_any 4 1 5 w
  rw [show inB 4 1 5 = true from rfl] at hw
  have ht := fun (c3 : w.cell? ⟨b, 3, none⟩ = _) (c4 : w.cell? ⟨b, 4, none⟩ = _) (c5 : w.cell? ⟨b, 5, none⟩ = _) (c6 : w.cell? ⟨b, 6, none⟩ = _) => l13NoTxn_any ⟨i, s, q, acts⟩ a c b w c3 c4 c5 c6
  replace ht := ht q3 q4 q5 q6
  clear B
  cases n1 : (nd == 0)
  · have n1' : (nd != 0) = true := by simp [bne, n1]
    have HF : Hid (Ending.returned (Value.int .i64 1) = Ending.returned (.int .i64 (sfF ⟨4, nd, nn, ⟨i, s, q, acts⟩, ⟨vk, vr, vn, vv⟩⟩))) := (show _ = _ by rw [show sfF ⟨4, nd, nn, ⟨i, s, q, acts⟩, ⟨vk, vr, vn, vv⟩⟩ = 1 from by unfold sfF sfOk; simp [n1]])
    go_enter Try.func39, Try.ntmps39
    go_wp2_with fail
    refine (hw w).mono ?_
    rintro e w1 ⟨rfl, hww⟩
    replace hww := hww.symm
    subst hww
    go_wp2
    go_ret
    exact ⟨HF.out, rfl⟩
  have n1' : (nd != 0) = false := by simp [bne, n1]
  cases n2 : (nn == 0)
  · have n2' : (nn != 0) = true := by simp [bne, n2]
    have HF : Hid (Ending.returned (Value.int .i64 1) = Ending.returned (.int .i64 (sfF ⟨4, nd, nn, ⟨i, s, q, acts⟩, ⟨vk, vr, vn, vv⟩⟩))) := (show _ = _ by rw [show sfF ⟨4, nd, nn, ⟨i, s, q, acts⟩, ⟨vk, vr, vn, vv⟩⟩ = 1 from by unfold sfF sfOk; simp [n1, n2]])
    go_enter Try.func39, Try.ntmps39
    go_wp2_with fail
    refine (hw w).mono ?_
    rintro e w1 ⟨rfl, hww⟩
    replace hww := hww.symm
    subst hww
    go_wp2
    go_ret
    exact ⟨HF.out, rfl⟩
  have n2' : (nn != 0) = false := by simp [bne, n2]
  cases n3 : noTx ⟨i, s, q, acts⟩
  · rw [n3] at ht
    have HF : Hid (Ending.returned (Value.int .i64 1) = Ending.returned (.int .i64 (sfF ⟨4, nd, nn, ⟨i, s, q, acts⟩, ⟨vk, vr, vn, vv⟩⟩))) := (show _ = _ by rw [show sfF ⟨4, nd, nn, ⟨i, s, q, acts⟩, ⟨vk, vr, vn, vv⟩⟩ = 1 from by unfold sfF sfOk; simp [n1, n2, n3]])
    go_enter Try.func39, Try.ntmps39
    go_wp2_with fail
    refine (hw w).mono ?_
    rintro e w1 ⟨rfl, hww⟩
    replace hww := hww.symm
    subst hww
    go_wp2_with fail
    refine ht.mono ?_
    rintro e w1 ⟨rfl, hww⟩
    replace hww := hww.symm
    subst hww
    go_wp2
    go_ret
    exact ⟨HF.out, rfl⟩
  rw [n3] at ht
  rcases noVt_ways ⟨vk, vr, vn, vv⟩ with ⟨h3, e⟩ | ⟨h3, h4, e⟩ | ⟨h3, h4, h5, e⟩ | ⟨h3, h4, h5, h6, e⟩ | ⟨h3, h4, h5, h6, e⟩ <;> (try dsimp only at h3) <;> (try dsimp only at h4) <;> (try dsimp only at h5) <;> (try dsimp only at h6)
  · have HF : Hid (Ending.returned (Value.int .i64 1) = Ending.returned (.int .i64 (sfF ⟨4, nd, nn, ⟨i, s, q, acts⟩, ⟨vk, vr, vn, vv⟩⟩))) := (show _ = _ by rw [show sfF ⟨4, nd, nn, ⟨i, s, q, acts⟩, ⟨vk, vr, vn, vv⟩⟩ = 1 from by unfold sfF sfOk; simp [n1, n2, n3, e]])
    go_enter Try.func39, Try.ntmps39
    go_wp2_with fail
    refine (hw w).mono ?_
    rintro e w1 ⟨rfl, hww⟩
    replace hww := hww.symm
    subst hww
    go_wp2_with fail
    refine ht.mono ?_
    rintro e w1 ⟨rfl, hww⟩
    replace hww := hww.symm
    subst hww
    go_wp2
    go_ret
    exact ⟨HF.out, rfl⟩
  · have HF : Hid (Ending.returned (Value.int .i64 1) = Ending.returned (.int .i64 (sfF ⟨4, nd, nn, ⟨i, s, q, acts⟩, ⟨vk, vr, vn, vv⟩⟩))) := (show _ = _ by rw [show sfF ⟨4, nd, nn, ⟨i, s, q, acts⟩, ⟨vk, vr, vn, vv⟩⟩ = 1 from by unfold sfF sfOk; simp [n1, n2, n3, e]])
    go_enter Try.func39, Try.ntmps39
    go_wp2_with fail
    refine (hw w).mono ?_
    rintro e w1 ⟨rfl, hww⟩
    replace hww := hww.symm
    subst hww
    go_wp2_with fail
    refine ht.mono ?_
    rintro e w1 ⟨rfl, hww⟩
    replace hww := hww.symm
    subst hww
    go_wp2
    go_ret
    exact ⟨HF.out, rfl⟩
  · have HF : Hid (Ending.returned (Value.int .i64 1) = Ending.returned (.int .i64 (sfF ⟨4, nd, nn, ⟨i, s, q, acts⟩, ⟨vk, vr, vn, vv⟩⟩))) := (show _ = _ by rw [show sfF ⟨4, nd, nn, ⟨i, s, q, acts⟩, ⟨vk, vr, vn, vv⟩⟩ = 1 from by unfold sfF sfOk; simp [n1, n2, n3, e]])
    go_enter Try.func39, Try.ntmps39
    go_wp2_with fail
    refine (hw w).mono ?_
    rintro e w1 ⟨rfl, hww⟩
    replace hww := hww.symm
    subst hww
    go_wp2_with fail
    refine ht.mono ?_
    rintro e w1 ⟨rfl, hww⟩
    replace hww := hww.symm
    subst hww
    go_wp2
    go_ret
    exact ⟨HF.out, rfl⟩
  · have HF : Hid (Ending.returned (Value.int .i64 1) = Ending.returned (.int .i64 (sfF ⟨4, nd, nn, ⟨i, s, q, acts⟩, ⟨vk, vr, vn, vv⟩⟩))) := (show _ = _ by rw [show sfF ⟨4, nd, nn, ⟨i, s, q, acts⟩, ⟨vk, vr, vn, vv⟩⟩ = 1 from by unfold sfF sfOk; simp [n1, n2, n3, e]])
    go_enter Try.func39, Try.ntmps39
    go_wp2_with fail
    refine (hw w).mono ?_
    rintro e w1 ⟨rfl, hww⟩
    replace hww := hww.symm
    subst hww
    go_wp2_with fail
    refine ht.mono ?_
    rintro e w1 ⟨rfl, hww⟩
    replace hww := hww.symm
    subst hww
    go_wp2
    go_ret
    exact ⟨HF.out, rfl⟩
  · have HF : Hid (Ending.returned (Value.int .i64 0) = Ending.returned (.int .i64 (sfF ⟨4, nd, nn, ⟨i, s, q, acts⟩, ⟨vk, vr, vn, vv⟩⟩))) := (show _ = _ by rw [show sfF ⟨4, nd, nn, ⟨i, s, q, acts⟩, ⟨vk, vr, vn, vv⟩⟩ = 0 from by unfold sfF sfOk; simp [n1, n2, n3, e]])
    go_enter Try.func39, Try.ntmps39
    go_wp2_with fail
    refine (hw w).mono ?_
    rintro e w1 ⟨rfl, hww⟩
    replace hww := hww.symm
    subst hww
    go_wp2_with fail
    refine ht.mono ?_
    rintro e w1 ⟨rfl, hww⟩
    replace hww := hww.symm
    subst hww
    go_wp2
    go_ret
    exact ⟨HF.out, rfl⟩

set_option maxHeartbeats 8000000 in
theorem fau5 (nd nn i s q vk vr vn vv : Int) (a : Option Addr) (c : Nat) (acts : List ActD) (b : Nat) (w : World) (B : Blk w b 48 #[.int .i64 5, .int .i64 nd, .int .i64 nn, .int .i64 i, .int .i64 s, .int .i64 q, .slice a acts.length c, .int .i64 vk, .int .i64 vr, .int .i64 vn, .int .i64 vv]) :
    Calls Try.prog 39 #[.pointer (some ⟨b, 0, none⟩)] w fun e w' => e = .returned (.int .i64 (sfF ⟨5, nd, nn, ⟨i, s, q, acts⟩, ⟨vk, vr, vn, vv⟩⟩)) ∧ w' = w := by
  have q0 := B.cell 0 _ rfl
  have q1 := B.cell 1 _ rfl
  have q2 := B.cell 2 _ rfl
  have q3 := B.cell 3 _ rfl
  have q4 := B.cell 4 _ rfl
  have q5 := B.cell 5 _ rfl
  have q6 := B.cell 6 _ rfl
  have q7 := B.cell 7 _ rfl
  have q8 := B.cell 8 _ rfl
  have q9 := B.cell 9 _ rfl
  have q10 := B.cell 10 _ rfl
  have hw := fun w => l1In_any 5 1 5 w
  rw [show inB 5 1 5 = true from rfl] at hw
  have ht := fun (c3 : w.cell? ⟨b, 3, none⟩ = _) (c4 : w.cell? ⟨b, 4, none⟩ = _) (c5 : w.cell? ⟨b, 5, none⟩ = _) (c6 : w.cell? ⟨b, 6, none⟩ = _) => l13NoTxn_any ⟨i, s, q, acts⟩ a c b w c3 c4 c5 c6
  replace ht := ht q3 q4 q5 q6
  clear B
  cases n3 : noTx ⟨i, s, q, acts⟩
  · rw [n3] at ht
    have HF : Hid (Ending.returned (Value.int .i64 1) = Ending.returned (.int .i64 (sfF ⟨5, nd, nn, ⟨i, s, q, acts⟩, ⟨vk, vr, vn, vv⟩⟩))) := (show _ = _ by rw [show sfF ⟨5, nd, nn, ⟨i, s, q, acts⟩, ⟨vk, vr, vn, vv⟩⟩ = 1 from by unfold sfF sfOk; simp [n3]])
    go_enter Try.func39, Try.ntmps39
    go_wp2_with fail
    refine (hw w).mono ?_
    rintro e w1 ⟨rfl, hww⟩
    replace hww := hww.symm
    subst hww
    go_wp2_with fail
    refine ht.mono ?_
    rintro e w1 ⟨rfl, hww⟩
    replace hww := hww.symm
    subst hww
    go_wp2
    go_ret
    exact ⟨HF.out, rfl⟩
  rw [n3] at ht
  rcases noVt_ways ⟨vk, vr, vn, vv⟩ with ⟨h3, e⟩ | ⟨h3, h4, e⟩ | ⟨h3, h4, h5, e⟩ | ⟨h3, h4, h5, h6, e⟩ | ⟨h3, h4, h5, h6, e⟩ <;> (try dsimp only at h3) <;> (try dsimp only at h4) <;> (try dsimp only at h5) <;> (try dsimp only at h6)
  · have HF : Hid (Ending.returned (Value.int .i64 1) = Ending.returned (.int .i64 (sfF ⟨5, nd, nn, ⟨i, s, q, acts⟩, ⟨vk, vr, vn, vv⟩⟩))) := (show _ = _ by rw [show sfF ⟨5, nd, nn, ⟨i, s, q, acts⟩, ⟨vk, vr, vn, vv⟩⟩ = 1 from by unfold sfF sfOk; simp [n3, e]])
    go_enter Try.func39, Try.ntmps39
    go_wp2_with fail
    refine (hw w).mono ?_
    rintro e w1 ⟨rfl, hww⟩
    replace hww := hww.symm
    subst hww
    go_wp2_with fail
    refine ht.mono ?_
    rintro e w1 ⟨rfl, hww⟩
    replace hww := hww.symm
    subst hww
    go_wp2
    go_ret
    exact ⟨HF.out, rfl⟩
  · have HF : Hid (Ending.returned (Value.int .i64 1) = Ending.returned (.int .i64 (sfF ⟨5, nd, nn, ⟨i, s, q, acts⟩, ⟨vk, vr, vn, vv⟩⟩))) := (show _ = _ by rw [show sfF ⟨5, nd, nn, ⟨i, s, q, acts⟩, ⟨vk, vr, vn, vv⟩⟩ = 1 from by unfold sfF sfOk; simp [n3, e]])
    go_enter Try.func39, Try.ntmps39
    go_wp2_with fail
    refine (hw w).mono ?_
    rintro e w1 ⟨rfl, hww⟩
    replace hww := hww.symm
    subst hww
    go_wp2_with fail
    refine ht.mono ?_
    rintro e w1 ⟨rfl, hww⟩
    replace hww := hww.symm
    subst hww
    go_wp2
    go_ret
    exact ⟨HF.out, rfl⟩
  · have HF : Hid (Ending.returned (Value.int .i64 1) = Ending.returned (.int .i64 (sfF ⟨5, nd, nn, ⟨i, s, q, acts⟩, ⟨vk, vr, vn, vv⟩⟩))) := (show _ = _ by rw [show sfF ⟨5, nd, nn, ⟨i, s, q, acts⟩, ⟨vk, vr, vn, vv⟩⟩ = 1 from by unfold sfF sfOk; simp [n3, e]])
    go_enter Try.func39, Try.ntmps39
    go_wp2_with fail
    refine (hw w).mono ?_
    rintro e w1 ⟨rfl, hww⟩
    replace hww := hww.symm
    subst hww
    go_wp2_with fail
    refine ht.mono ?_
    rintro e w1 ⟨rfl, hww⟩
    replace hww := hww.symm
    subst hww
    go_wp2
    go_ret
    exact ⟨HF.out, rfl⟩
  · have HF : Hid (Ending.returned (Value.int .i64 1) = Ending.returned (.int .i64 (sfF ⟨5, nd, nn, ⟨i, s, q, acts⟩, ⟨vk, vr, vn, vv⟩⟩))) := (show _ = _ by rw [show sfF ⟨5, nd, nn, ⟨i, s, q, acts⟩, ⟨vk, vr, vn, vv⟩⟩ = 1 from by unfold sfF sfOk; simp [n3, e]])
    go_enter Try.func39, Try.ntmps39
    go_wp2_with fail
    refine (hw w).mono ?_
    rintro e w1 ⟨rfl, hww⟩
    replace hww := hww.symm
    subst hww
    go_wp2_with fail
    refine ht.mono ?_
    rintro e w1 ⟨rfl, hww⟩
    replace hww := hww.symm
    subst hww
    go_wp2
    go_ret
    exact ⟨HF.out, rfl⟩
  · have HF : Hid (Ending.returned (Value.int .i64 0) = Ending.returned (.int .i64 (sfF ⟨5, nd, nn, ⟨i, s, q, acts⟩, ⟨vk, vr, vn, vv⟩⟩))) := (show _ = _ by rw [show sfF ⟨5, nd, nn, ⟨i, s, q, acts⟩, ⟨vk, vr, vn, vv⟩⟩ = 0 from by unfold sfF sfOk; simp [n3, e]])
    go_enter Try.func39, Try.ntmps39
    go_wp2_with fail
    refine (hw w).mono ?_
    rintro e w1 ⟨rfl, hww⟩
    replace hww := hww.symm
    subst hww
    go_wp2_with fail
    refine ht.mono ?_
    rintro e w1 ⟨rfl, hww⟩
    replace hww := hww.symm
    subst hww
    go_wp2
    go_ret
    exact ⟨HF.out, rfl⟩

set_option maxHeartbeats 8000000 in
theorem fau0 (kd nd nn i s q vk vr vn vv : Int) (a : Option Addr) (c : Nat) (acts : List ActD) (b : Nat) (w : World) (B : Blk w b 48 #[.int .i64 kd, .int .i64 nd, .int .i64 nn, .int .i64 i, .int .i64 s, .int .i64 q, .slice a acts.length c, .int .i64 vk, .int .i64 vr, .int .i64 vn, .int .i64 vv]) (hk : ¬ (1 ≤ kd ∧ kd ≤ 5)) :
    Calls Try.prog 39 #[.pointer (some ⟨b, 0, none⟩)] w fun e w' => e = .returned (.int .i64 (sfF ⟨kd, nd, nn, ⟨i, s, q, acts⟩, ⟨vk, vr, vn, vv⟩⟩)) ∧ w' = w := by
  have q0 := B.cell 0 _ rfl
  have q1 := B.cell 1 _ rfl
  have q2 := B.cell 2 _ rfl
  have q3 := B.cell 3 _ rfl
  have q4 := B.cell 4 _ rfl
  have q5 := B.cell 5 _ rfl
  have q6 := B.cell 6 _ rfl
  have q7 := B.cell 7 _ rfl
  have q8 := B.cell 8 _ rfl
  have q9 := B.cell 9 _ rfl
  have q10 := B.cell 10 _ rfl
  have hF : sfF ⟨kd, nd, nn, ⟨i, s, q, acts⟩, ⟨vk, vr, vn, vv⟩⟩ = 1 := by
    have : (decide (1 ≤ kd) && decide (kd ≤ 5)) = false := by rw [Bool.and_eq_false_iff, decide_eq_false_iff_not, decide_eq_false_iff_not]; omega
    unfold sfF
    rw [sfOk_lft]
    dsimp only
    rw [this]
    rfl
  rw [hF]
  clear hF
  have k1 : (kd == 1) = false := by simp; omega
  have k2 : (kd == 2) = false := by simp; omega
  have k3 : (kd == 3) = false := by simp; omega
  have k5 : (kd == 5) = false := by simp; omega
  have hw := fun w => l1In_any kd 1 5 w
  have hin : inB kd 1 5 = false := by
    unfold inB
    by_cases h1 : 1 ≤ kd <;> by_cases h2 : kd ≤ 5 <;> simp [h1, h2] at hk ⊢
  rw [hin] at hw
  clear hin hk B
  go_enter Try.func39, Try.ntmps39
  go_wp2_with fail
  refine (hw w).mono ?_
  rintro e w1 ⟨rfl, hww⟩
  replace hww := hww.symm
  subst hww
  go_wp2
  go_ret
  exact ⟨rfl, rfl⟩

set_option maxHeartbeats 4000000 in
theorem specStepFault_any (p : StepQ) (w : World) (h : stepK.rd w p) :
    Calls Try.prog 13 #[.agg #[.int .i64 p.kd, .int .i64 p.nd, .int .i64 p.nn, .int .i64 p.i, .int .i64 p.s, .int .i64 p.q, p.va, .int .i64 p.vk, .int .i64 p.vr, .int .i64 p.vn, .int .i64 p.vv]] w fun e w' => e = .returned (.int .i64 (sfF p.e)) ∧ Below w.heap.size w w' := by
  obtain ⟨kd, nd, nn, i, s, q, va, acts, vk, vr, vn, vv⟩ := p
  have h : actK.At w va acts := h
  obtain ⟨a, c, rfl⟩ := h.shape
  clear h
  have hB : Below w.heap.size w (w.alloc (.cells #[.int .i64 kd, .int .i64 nd, .int .i64 nn, .int .i64 i, .int .i64 s, .int .i64 q, .slice a acts.length c, .int .i64 vk, .int .i64 vr, .int .i64 vn, .int .i64 vv] 48)) := by go_grown
  have B := Blk.new w 48 #[.int .i64 kd, .int .i64 nd, .int .i64 nn, .int .i64 i, .int .i64 s, .int .i64 q, .slice a acts.length c, .int .i64 vk, .int .i64 vr, .int .i64 vn, .int .i64 vv]
  have hq : Calls Try.prog 39 #[.pointer (some ⟨w.heap.size, 0, none⟩)] (w.alloc (.cells #[.int .i64 kd, .int .i64 nd, .int .i64 nn, .int .i64 i, .int .i64 s, .int .i64 q, .slice a acts.length c, .int .i64 vk, .int .i64 vr, .int .i64 vn, .int .i64 vv] 48)) fun e w' => e = .returned (.int .i64 (sfF ⟨kd, nd, nn, ⟨i, s, q, acts⟩, ⟨vk, vr, vn, vv⟩⟩)) ∧ w' = (w.alloc (.cells #[.int .i64 kd, .int .i64 nd, .int .i64 nn, .int .i64 i, .int .i64 s, .int .i64 q, .slice a acts.length c, .int .i64 vk, .int .i64 vr, .int .i64 vn, .int .i64 vv] 48)) := by
    by_cases hk : 1 ≤ kd ∧ kd ≤ 5
    · have : kd = 1 ∨ kd = 2 ∨ kd = 3 ∨ kd = 4 ∨ kd = 5 := by omega
      rcases this with rfl | rfl | rfl | rfl | rfl
      · exact fau1 nd nn i s q vk vr vn vv a c acts _ _ B
      · exact fau2 nd nn i s q vk vr vn vv a c acts _ _ B
      · exact fau3 nd nn i s q vk vr vn vv a c acts _ _ B
      · exact fau4 nd nn i s q vk vr vn vv a c acts _ _ B
      · exact fau5 nd nn i s q vk vr vn vv a c acts _ _ B
    · exact fau0 kd nd nn i s q vk vr vn vv a c acts _ _ B hk
  show Calls Try.prog 13 _ _ fun e w' => e = .returned (.int .i64 (sfF ⟨kd, nd, nn, ⟨i, s, q, acts⟩, ⟨vk, vr, vn, vv⟩⟩)) ∧ Below w.heap.size w w'
  generalize sfF ⟨kd, nd, nn, ⟨i, s, q, acts⟩, ⟨vk, vr, vn, vv⟩⟩ = E at *
  go_enter Try.func13, Try.ntmps13
  go_wp2_with fail
  refine hq.mono ?_
  rintro e w1 ⟨rfl, rfl⟩
  go_wp2
  go_ret
  exact ⟨rfl, hB⟩

end Go.Proofs.Ytkkdjgiencilbaa
