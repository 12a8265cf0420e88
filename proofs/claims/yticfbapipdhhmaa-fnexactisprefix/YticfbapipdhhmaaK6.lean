/- The kinds of elements: rounds; an instance. No condition. -/
import Derived.Test.YticfbapipdhhmaaK2
namespace Go.Proofs.Yticfbapipdhhmaa
open Go.RowKit
set_option linter.unusedVariables false
set_option linter.unusedSimpArgs false

/-- A round where it lies. -/
structure RoundQ where
  vr : Value
  rep : List Int
  vp : Value
  pro : List Int
/-- An instance where it lies. -/
structure InstQ where
  has : Bool
  vb : Value
  batch : List TxnQ
  vr : Value
  rounds : List RoundQ
  vd : Value
  dec : List Int
/-- What they tell, without where they lie. -/
structure RoundE where
  rep : List Int
  pro : List Int
structure InstE where
  has : Bool
  batch : List TxnD
  rounds : List RoundE
  dec : List Int
def RoundQ.e (p : RoundQ) : RoundE := ⟨p.rep, p.pro⟩
def InstQ.e (p : InstQ) : InstE := ⟨p.has, p.batch.map TxnQ.e, p.rounds.map RoundQ.e, p.dec⟩

/-- How much there is. -/
def RoundE.n (d : RoundE) : Nat := d.rep.length + d.pro.length
def roundsN (ds : List RoundE) : Nat := ds.length + nmL RoundE.n ds
def InstE.n (d : InstE) : Nat := txnsN d.batch + roundsN d.rounds + d.dec.length

end Go.Proofs.Yticfbapipdhhmaa
