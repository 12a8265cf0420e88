/- The kinds of elements: rounds; an instance. No condition. -/
import Derived.Test.YtkklhbofeghnbaaDoorK2
namespace Go.Proofs.YtkklhbofeghnbaaDoor
open Go.RowKit
set_option linter.unusedVariables false
set_option linter.unusedSimpArgs false

/-- A round where it lies. -/
structure RoundQ where
  vr : Value
  rep : List Int
  vp : Value
  pro : List Int
def roundK : Kind RoundQ where
  ty := 62
  size := 2
  cells p := [p.vr, p.vp]
  own w p := intK.Own w p.vr p.rep ∧ intK.Own w p.vp p.pro
  rd w p := intK.At w p.vr p.rep ∧ intK.At w p.vp p.pro
  foot p := intK.fp p.vr p.rep ++ intK.fp p.vp p.pro
  len _ := rfl
  own_rd h := ⟨h.1.at, h.2.at⟩
  own_out h ho hd := ⟨h.1.out ho (fun k hk => hd k (List.mem_append_left _ hk)), h.2.out ho (fun k hk => hd k (List.mem_append_right _ hk))⟩
  own_lt h k hk := by
    rcases List.mem_append.1 hk with hk | hk
    · exact h.1.lt k hk
    · exact h.2.lt k hk
  rd_below h hb := ⟨h.1.below hb, h.2.below hb⟩

/-- An instance where it lies. -/
structure InstQ where
  has : Bool
  vb : Value
  batch : List TxnQ
  vr : Value
  rounds : List RoundQ
  vd : Value
  dec : List Int
def instK : Kind InstQ where
  ty := 39
  size := 4
  cells p := [.bool p.has, p.vb, p.vr, p.vd]
  own w p := txnK.Own w p.vb p.batch ∧ roundK.Own w p.vr p.rounds ∧ intK.Own w p.vd p.dec
  rd w p := txnK.At w p.vb p.batch ∧ roundK.At w p.vr p.rounds ∧ intK.At w p.vd p.dec
  foot p := txnK.fp p.vb p.batch ++ (roundK.fp p.vr p.rounds ++ intK.fp p.vd p.dec)
  len _ := rfl
  own_rd h := ⟨h.1.at, h.2.1.at, h.2.2.at⟩
  own_out h ho hd := ⟨h.1.out ho (fun k hk => hd k (List.mem_append_left _ hk)), h.2.1.out ho (fun k hk => hd k (List.mem_append_right _ (List.mem_append_left _ hk))), h.2.2.out ho (fun k hk => hd k (List.mem_append_right _ (List.mem_append_right _ hk)))⟩
  own_lt h k hk := by
    rcases List.mem_append.1 hk with hk | hk
    · exact h.1.lt k hk
    · rcases List.mem_append.1 hk with hk | hk
      · exact h.2.1.lt k hk
      · exact h.2.2.lt k hk
  rd_below h hb := ⟨h.1.below hb, h.2.1.below hb, h.2.2.below hb⟩

/-- What they tell, without where they lie. -/
structure RoundE where
  rep : List Int
  pro : List Int
structure InstE where
  has : Bool
  batch : List TxnD
  rounds : List RoundE
  dec : List Int
def RoundQ.e (p : RoundQ) : RoundE := ⟨p.rep, p.pro⟩
def InstQ.e (p : InstQ) : InstE := ⟨p.has, p.batch.map TxnQ.e, p.rounds.map RoundQ.e, p.dec⟩

/-- How much there is. -/
def RoundE.n (d : RoundE) : Nat := d.rep.length + d.pro.length
def roundsN (ds : List RoundE) : Nat := ds.length + nmL RoundE.n ds
def InstE.n (d : InstE) : Nat := txnsN d.batch + roundsN d.rounds + d.dec.length

end Go.Proofs.YtkklhbofeghnbaaDoor
