/- Texts joined, with what the law reaches alone. -/
import Derived.Test.YtjjolkihiclopaaGreatDoorSOBH
import Derived.Test.YtjjolkihiclopaaGreatDoorSOBI
set_option linter.unusedVariables false
set_option linter.unusedSimpArgs false
namespace Go.Proofs.YtjjolkihiclopaaGreatDoor
open Go.RowKit
open Go.BigFrame
set_option maxRecDepth 100000
theorem nodup_set {P:Type} {K:Kind P} {v:Value} {ps:List P} (h:(K.fp v ps).Nodup) (i:Nat) (hi:i < ps.length) (p:P) (hp:(K.foot p).Nodup) (hd:∀ k∈K.foot p,k ∉ K.fp v ps):(K.fp v (ps.set i p)).Nodup:=by
 have e:ps=ps.take i ++ ps[i] :: ps.drop (i + 1):=by
  conv=>lhs;rw [← List.take_append_drop i ps,List.drop_eq_getElem_cons hi]
 have hA:K.fp v ps=blk v ++ ((ps.take i).flatMap K.foot ++ (K.foot ps[i] ++ (ps.drop (i + 1)).flatMap K.foot)):=by
  conv=>lhs;rw [e]
  simp only [Kind.fp,List.flatMap_append,List.flatMap_cons]
 rw [hA] at h hd
 simp only [Kind.fp]
 rw [set_split ps i hi p]
 simp only [List.flatMap_append,List.flatMap_cons]
 generalize blk v=A at *
 generalize (ps.take i).flatMap K.foot=B at *
 generalize (ps.drop (i + 1)).flatMap K.foot=C at *
 generalize K.foot p=D at *
 generalize K.foot ps[i]=E at *
 simp only [List.nodup_append,List.mem_append] at h hd ⊢
 obtain ⟨hA1,⟨hB1,⟨hE1,hC1,hEC⟩,hBC⟩,hABC⟩:=h
 refine ⟨hA1,⟨hB1,⟨hp,hC1,?_⟩,?_⟩,?_⟩
 ·rintro a ha b hb rfl
  exact hd a ha (Or.inr (Or.inr (Or.inr hb)))
 ·rintro a ha b (hb | hb) rfl
  ·exact hd a hb (Or.inr (Or.inl ha))
  ·exact hBC a ha a (Or.inr hb) rfl
 ·rintro a ha b (hb | hb | hb) rfl
  ·exact hABC a ha a (Or.inl hb) rfl
  ·exact hd a hb (Or.inl ha)
  ·exact hABC a ha a (Or.inr (Or.inr hb)) rfl

end Go.Proofs.YtjjolkihiclopaaGreatDoor
