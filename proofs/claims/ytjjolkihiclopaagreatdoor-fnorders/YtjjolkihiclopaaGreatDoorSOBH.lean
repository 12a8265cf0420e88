/- Texts joined, with what the law reaches alone. -/
import Derived.Test.YtjjolkihiclopaaGreatDoorSOBF
import Derived.Test.YtjjolkihiclopaaGreatDoorSOBG
set_option linter.unusedVariables false
set_option linter.unusedSimpArgs false
namespace Go.Proofs.YtjjolkihiclopaaGreatDoor
open Go.RowKit
open Go.BigFrame
set_option maxRecDepth 100000
theorem Kind.At.take {P:Type} {K:Kind P} {w:World} {a:Option Addr} {n cap:Nat} {ps:List P} (h:K.At w (.slice a n cap) ps) (m:Nat) (hm:m≤ps.length):K.At w (.slice a m cap) (ps.take m):=by
 obtain ⟨a',c,e,hl,hr⟩:=h
 simp only [Value.slice.injEq] at e
 obtain ⟨rfl,_,rfl⟩:=e
 refine ⟨a,cap,by rw [List.length_take,Nat.min_eq_left hm],?_,fun p hp=>hr p (List.mem_of_mem_take hp)⟩
 have er:K.row ps=K.row (ps.take m) ++ K.row (ps.drop m):=by
  unfold Kind.row
  rw [← List.flatMap_append,List.take_append_drop]
 rcases hl with h0 | ⟨b,off,ha,hlt,hc⟩
 ·left
  rw [er] at h0
  exact (List.append_eq_nil_iff.1 h0).1
 ·right
  refine ⟨b,off,ha,hlt,fun j x hx=>hc j x ?_⟩
  rw [er,List.getElem?_append_left (List.getElem?_eq_some_iff.1 hx).1]
  exact hx

theorem Kind.Own.cap {P:Type} {K:Kind P} {w:World} {a:Option Addr} {n cap:Nat} {ps:List P} (h:K.Own w (.slice a n cap) ps):n≤cap∧cap≤maxLen:=by
 rcases h.1.2 with ⟨e,_⟩ | ⟨g,c,cur,e,_,_,h1,h2,_⟩
 ·simp only [Value.slice.injEq] at e
  obtain ⟨_,rfl,rfl⟩:=e
  exact ⟨Nat.le_refl _,by decide⟩
 ·simp only [Value.slice.injEq] at e
  obtain ⟨_,rfl,rfl⟩:=e
  exact ⟨h1,h2⟩

end Go.Proofs.YtjjolkihiclopaaGreatDoor
