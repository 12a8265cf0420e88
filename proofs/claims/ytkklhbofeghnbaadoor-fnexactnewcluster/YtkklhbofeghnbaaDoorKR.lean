/- What the helpers of the laws do with rounds, in the form of kinds. No condition. -/
import Derived.Test.YtkklhbofeghnbaaDoorK6
import Derived.Test.YtkklhbofeghnbaaDoorKT
import Derived.Test.YtkklhbofeghnbaaDoorBlk5
namespace Go.Proofs.YtkklhbofeghnbaaDoor
open Go.RowKit
open Go.BigFrame
set_option linter.unusedVariables false
set_option linter.unusedSimpArgs false

def RoundQ.n (p : RoundQ) : Nat := p.rep.length + p.pro.length
def RoundQ.wf (p : RoundQ) : Prop := p.rep.length ≤ 9223372036854775807 ∧ p.pro.length ≤ 9223372036854775807
theorem infoRound : (Tryd.prog.info? 62).map (fun i => (i.zero, i.size, i.bytes)) = some (some (.agg #[.slice none 0 0, .slice none 0 0]), 2, 48) := by kernel_rfl

set_option maxHeartbeats 1000000 in
theorem eqRound_k (p p' : RoundQ) (w : World) (h : roundK.rd w p) (h' : roundK.rd w p') (he : p.e = p'.e) (hl : RoundQ.n p ≤ 1048576) :
    Calls Tryd.prog 52 #[.agg #[p.vr, p.vp], .agg #[p'.vr, p'.vp]] w fun e w' => e = .returned (.bool true) ∧ Below w.heap.size w w' := by
  obtain ⟨vr, rep, vp, pro⟩ := p
  obtain ⟨vr', rep', vp', pro'⟩ := p'
  simp only [RoundQ.e, RoundE.mk.injEq] at he
  obtain ⟨e_0, e_1⟩ := he
  dsimp only [RoundQ.n] at hl
  obtain ⟨h_0, h_1⟩ : intK.At w vr rep ∧ intK.At w vp pro := h
  obtain ⟨g_0, g_1⟩ : intK.At w vr' rep'  ∧ intK.At w vp' pro'  := h'
  subst e_0
  subst e_1
  have hq0 := fun w h1 h2 => eqInts_k vr vr' rep w h1 h2 (by omega)
  have hq1 := fun w h1 h2 => eqInts_k vp vp' pro w h1 h2 (by omega)
  obtain ⟨a0, k0, rfl⟩ := h_0.shape
  obtain ⟨b0, m0, rfl⟩ := g_0.shape
  obtain ⟨a1, k1, rfl⟩ := h_1.shape
  obtain ⟨b1, m1, rfl⟩ := g_1.shape
  have B := (Blk.new w 62 #[.slice a0 rep.length k0, .slice a1 pro.length k1]).below (w' := (w.alloc (.cells #[.slice a0 rep.length k0, .slice a1 pro.length k1] 62)).alloc (.cells #[.slice b0 rep.length m0, .slice b1 pro.length m1] 62)) (by go_grown)
  have C := Blk.new (w.alloc (.cells #[.slice a0 rep.length k0, .slice a1 pro.length k1] 62)) 62 #[.slice b0 rep.length m0, .slice b1 pro.length m1]
  have hB : Below w.heap.size w ((w.alloc (.cells #[.slice a0 rep.length k0, .slice a1 pro.length k1] 62)).alloc (.cells #[.slice b0 rep.length m0, .slice b1 pro.length m1] 62)) := by go_grown
  rw [World.size_alloc] at C
  skip
  go_enter Tryd.func52, Tryd.ntmps52
  go_wp2_with fail
  generalize (w.alloc (.cells #[.slice a0 rep.length k0, .slice a1 pro.length k1] 62)).alloc (.cells #[.slice b0 rep.length m0, .slice b1 pro.length m1] 62) = W at *
  refine (hq0 W (h_0.below hB) (g_0.below hB)).mono ?_
  rintro e w0 ⟨rfl, hb0⟩
  replace B := B.below hb0
  replace C := C.below hb0
  replace hB := hB.trans (hb0.mono hB.size)
  clear hb0 hq0
  have p1 := B.cell 1 _ rfl
  have q1 := C.cell 1 _ rfl
  go_wp2_with fail
  clear p1 q1
  refine (hq1 w0 (h_1.below hB) (g_1.below hB)).mono ?_
  rintro e w1 ⟨rfl, hb1⟩
  replace B := B.below hb1
  replace C := C.below hb1
  replace hB := hB.trans (hb1.mono hB.size)
  clear hb1 hq1
  go_wp2
  go_ret
  exact ⟨rfl, hB⟩

theorem apart_of {A B : List Nat} {m : Nat} (hA : ∀ k ∈ A, k < m) (hB : ∀ k ∈ B, m ≤ k) : ∀ a ∈ A, ∀ b ∈ B, a ≠ b := fun a ha b hb e => by
  have := hA a ha
  have := hB b hb
  omega

end Go.Proofs.YtkklhbofeghnbaaDoor
