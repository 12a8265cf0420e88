/- What the helpers of the laws do with a replica, in the form of kinds: mark, held. No condition. -/
import Derived.Test.YtkklhbofeghnbaaDoorK9r
import Derived.Test.YtkklhbofeghnbaaDoorK9m
import Derived.Test.YtkklhbofeghnbaaDoorJB
namespace Go.Proofs.YtkklhbofeghnbaaDoor
open Go.RowKit
open Go.BigFrame
set_option linter.unusedVariables false
set_option linter.unusedSimpArgs false

def mkRep (c : Int) : RepQ → RepQ
  | ⟨vd, done, vb, base, vt, tent, vu, undos, vn, now⟩ => ⟨vd, mkL mkTxn nmTxn (c) done, vb, mkItems (c + ((nmL nmTxn done : Nat) : Int)) base, vt, mkL mkTxn nmTxn (c + ((nmL nmTxn done : Nat) : Int) + ((base.length * 2 : Nat) : Int)) tent, vu, mkL mkUs nmUs (c + ((nmL nmTxn done : Nat) : Int) + ((base.length * 2 : Nat) : Int) + ((nmL nmTxn tent : Nat) : Int)) undos, vn, mkItems (c + ((nmL nmTxn done : Nat) : Int) + ((base.length * 2 : Nat) : Int) + ((nmL nmTxn tent : Nat) : Int) + ((nmL nmUs undos : Nat) : Int)) now⟩
def nmRep : RepQ → Nat
  | ⟨vd, done, vb, base, vt, tent, vu, undos, vn, now⟩ => nmL nmTxn done + base.length * 2 + nmL nmTxn tent + nmL nmUs undos + now.length * 2
theorem nmTx9_le (ps : List TxnQ) : nmL nmTxn ps ≤ 3 * (ps.length + nmL TxnQ.n ps) := by
  induction ps with
  | nil => simp [nmL]
  | cons p r ih =>
    simp only [nmL, List.map_cons, List.sum_cons, List.length_cons] at ih ⊢
    simp only [nmTxn, TxnQ.n] at ih ⊢
    omega
theorem nmUs9_le (ps : List USQ) : nmL nmUs ps ≤ 3 * (ps.length + nmL USQ.n ps) := by
  induction ps with
  | nil => simp [nmL]
  | cons p r ih =>
    simp only [nmL, List.map_cons, List.sum_cons, List.length_cons] at ih ⊢
    simp only [nmUs, USQ.n] at ih ⊢
    omega


theorem heldShape {p : RepQ} {c : Int} {w : World} (h : repK.rd w (mkRep c p)) : (∃ a l k, p.vd = .slice a l k) ∧ (∃ a l k, p.vb = .slice a l k) ∧ (∃ a l k, p.vt = .slice a l k) ∧ (∃ a l k, p.vu = .slice a l k) ∧ (∃ a l k, p.vn = .slice a l k) := by
  obtain ⟨vd, done, vb, base, vt, tent, vu, undos, vn, now⟩ := p
  obtain ⟨h0, h1, h2, h3, h4⟩ := h
  obtain ⟨a0, k0, e0⟩ := h0.shape
  obtain ⟨a1, k1, e1⟩ := h1.shape
  obtain ⟨a2, k2, e2⟩ := h2.shape
  obtain ⟨a3, k3, e3⟩ := h3.shape
  obtain ⟨a4, k4, e4⟩ := h4.shape
  exact ⟨⟨_, _, _, e0⟩, ⟨_, _, _, e1⟩, ⟨_, _, _, e2⟩, ⟨_, _, _, e3⟩, ⟨_, _, _, e4⟩⟩

end Go.Proofs.YtkklhbofeghnbaaDoor
