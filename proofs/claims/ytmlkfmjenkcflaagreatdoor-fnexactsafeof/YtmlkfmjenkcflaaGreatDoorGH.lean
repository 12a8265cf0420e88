/- What the helpers of the laws do with lists of transactions, in the form of kinds. No condition. -/
import Derived.Test.YtmlkfmjenkcflaaGreatDoorGG
import Derived.Test.YtmlkfmjenkcflaaGreatDoorGB
namespace Go.Proofs.YtmlkfmjenkcflaaGreatDoor
open Go.RowKit
open Go.BigFrame
set_option linter.unusedVariables false
set_option maxRecDepth 100000
set_option linter.unusedSimpArgs false

def mkTxn (c : Int) (p : TxnQ) : TxnQ := ⟨c, c + 1, c + 1 + 1, p.va, mkActs (c + 1 + 1 + 1) p.acts⟩
def nmTxn (p : TxnQ) : Nat := 1 + 1 + 1 + p.acts.length * 3
theorem mkTxn_foot (c : Int) (p : TxnQ) : txnK.foot (mkTxn c p) = txnK.foot p := by
  simp only [mkTxn, show ∀ p : TxnQ, txnK.foot p = actK.fp p.va p.acts from fun _ => rfl, mkActs_fp]

end Go.Proofs.YtmlkfmjenkcflaaGreatDoor

/- What the helpers of the laws do with lists of transactions, in the form of kinds: are the marks still there? No condition. -/
namespace Go.Proofs.YtmlkfmjenkcflaaGreatDoor
open Go.RowKit
open Go.BigFrame
set_option linter.unusedVariables false
set_option maxRecDepth 100000
set_option linter.unusedSimpArgs false

end Go.Proofs.YtmlkfmjenkcflaaGreatDoor

/- What the helpers of the laws do with lists of rounds, in the form of kinds: mark. No condition. -/
namespace Go.Proofs.YtmlkfmjenkcflaaGreatDoor
open Go.RowKit
open Go.BigFrame
set_option linter.unusedVariables false
set_option maxRecDepth 100000
set_option linter.unusedSimpArgs false

theorem nd_right {A B : List Nat} (h : (A ++ B).Nodup) : ∀ k ∈ B, k ∉ A := fun k hk hk2 => (List.nodup_append.1 h).2.2 k hk2 k hk rfl
theorem nd_left {A B : List Nat} (h : (A ++ B).Nodup) : ∀ k ∈ A, k ∉ B := fun k hk hk2 => (List.nodup_append.1 h).2.2 k hk k hk2 rfl
theorem foot_nodup {P : Type} {K : Kind P} {v : Value} {hs : List P} {k : Nat} {p : P} (h : (K.fp v (hs.set k p)).Nodup) (hk : k < hs.length) : (K.foot p).Nodup := by
  have h2 := (List.nodup_append.1 h).2.1
  rw [set_split hs k hk p] at h2
  simp only [List.flatMap_append, List.flatMap_cons] at h2
  exact (List.nodup_append.1 (List.nodup_append.1 h2).2.1).1

def mkRound (c : Int) (p : RoundQ) : RoundQ := ⟨p.vr, mkInts (c) p.rep, p.vp, mkInts (c + ((p.rep.length : Nat) : Int)) p.pro⟩
def nmRound (p : RoundQ) : Nat := p.rep.length + p.pro.length
theorem mkRound_foot (c : Int) (p : RoundQ) : roundK.foot (mkRound c p) = roundK.foot p := by
  simp only [mkRound, show ∀ p : RoundQ, roundK.foot p = intK.fp p.vr p.rep ++ intK.fp p.vp p.pro from fun _ => rfl, mkInts_fp, mkInts_fp]

end Go.Proofs.YtmlkfmjenkcflaaGreatDoor

/- What the helpers of the laws do with lists of rounds, in the form of kinds: are the marks still there? No condition. -/
namespace Go.Proofs.YtmlkfmjenkcflaaGreatDoor
open Go.RowKit
open Go.BigFrame
set_option linter.unusedVariables false
set_option maxRecDepth 100000
set_option linter.unusedSimpArgs false

end Go.Proofs.YtmlkfmjenkcflaaGreatDoor

/- Two choices that are alike are told alike. -/
namespace Go.Proofs.YtmlkfmjenkcflaaGreatDoor
open Go.RowKit
set_option linter.unusedVariables false
set_option maxRecDepth 100000
set_option linter.unusedSimpArgs false

end Go.Proofs.YtmlkfmjenkcflaaGreatDoor

/- What the helpers of the laws do with an instance and with an answer that holds one, in the form of kinds: mark, held, compare. No condition. -/
namespace Go.Proofs.YtmlkfmjenkcflaaGreatDoor
open Go.RowKit
open Go.BigFrame
set_option linter.unusedVariables false
set_option maxRecDepth 100000
set_option linter.unusedSimpArgs false

def mkInst (c : Int) (p : InstQ) : InstQ := ⟨p.has, p.vb, mkL mkTxn nmTxn c p.batch, p.vr, mkL mkRound nmRound (c + (nmL nmTxn p.batch : Int)) p.rounds, p.vd, mkInts (c + (nmL nmTxn p.batch : Int) + (nmL nmRound p.rounds : Int)) p.dec⟩
def nmInst (p : InstQ) : Nat := nmL nmTxn p.batch + nmL nmRound p.rounds + p.dec.length
theorem mkInst_foot (c : Int) (p : InstQ) : instK.foot (mkInst c p) = instK.foot p := by
  simp only [mkInst, show ∀ p : InstQ, instK.foot p = txnK.fp p.vb p.batch ++ (roundK.fp p.vr p.rounds ++ intK.fp p.vd p.dec) from fun _ => rfl, fp_mkL mkTxn_foot, fp_mkL mkRound_foot, mkInts_fp]
theorem nmTxn_le (ps : List TxnQ) : nmL nmTxn ps ≤ 3 * (ps.length + nmL TxnQ.n ps) := by
  induction ps with
  | nil => simp [nmL]
  | cons p r ih =>
    simp only [nmL, List.map_cons, List.sum_cons, List.length_cons] at ih ⊢
    simp only [nmTxn, TxnQ.n] at ih ⊢
    omega
theorem nmRound_le (ps : List RoundQ) : nmL nmRound ps ≤ nmL RoundQ.n ps := by
  induction ps with
  | nil => simp [nmL]
  | cons p r ih =>
    simp only [nmL, List.map_cons, List.sum_cons] at ih ⊢
    simp only [nmRound, RoundQ.n] at ih ⊢
    omega
theorem nmInst_le (p : InstQ) : nmInst p ≤ 3 * p.n := by
  have h1 := nmTxn_le p.batch
  have h2 := nmRound_le p.rounds
  unfold nmInst InstQ.n
  omega

theorem inst_n {q p : InstQ} (h : q.e = p.e) : q.n = p.n := by
  simp only [InstQ.e, InstE.mk.injEq] at h
  obtain ⟨_, h1, h2, h3⟩ := h
  have t1 : q.batch.length = p.batch.length := by simpa using congrArg List.length h1
  have t2 : nmL TxnQ.n q.batch = nmL TxnQ.n p.batch := by
    have := congrArg (fun l => nmL (fun d : TxnD => d.acts.length) l) h1
    simp only [nmL, List.map_map] at this
    exact this
  have t3 : q.rounds.length = p.rounds.length := by simpa using congrArg List.length h2
  have t4 : nmL RoundQ.n q.rounds = nmL RoundQ.n p.rounds := by
    have := congrArg (fun l => nmL (fun d : RoundE => d.rep.length + d.pro.length) l) h2
    simp only [nmL, List.map_map] at this
    exact this
  unfold InstQ.n
  rw [t1, t2, t3, t4, h3]

/-- An answer that holds an instance: the cells. -/
abbrev resC (code cc : Int) (cd ck : Bool) (cx : Int) (p : InstQ) : Array Value := #[.int .i64 code, .int .i64 cc, .bool cd, .bool ck, .int .i64 cx, .bool p.has, p.vb, p.vr, p.vd]

end Go.Proofs.YtmlkfmjenkcflaaGreatDoor
