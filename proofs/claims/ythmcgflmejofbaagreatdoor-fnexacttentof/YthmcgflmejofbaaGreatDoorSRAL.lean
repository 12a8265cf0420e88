/- Texts joined, with what the law reaches alone. -/
import Derived.Test.YthmcgflmejofbaaGreatDoorSRAG
import Derived.Test.YthmcgflmejofbaaGreatDoorSRAI
import Derived.Test.YthmcgflmejofbaaGreatDoorSRAK
import Derived.Defers
set_option linter.unusedVariables false
set_option linter.unusedSimpArgs false
namespace Go.Proofs.YthmcgflmejofbaaGreatDoor
open Go.RowKit
set_option maxRecDepth 100000
/-- What undoes an act. -/
def unA (xs:List ItemD) (a:ActD):UndoD:=⟨a.key,hasI xs a.key,valI xs a.key⟩

/-- What undoes acts that are done one by one. -/
def unR:List ItemD→List ActD→List UndoD
 | _,[]=>[]
 | xs,a :: r=>(if a.kind=4 then [] else [unA xs a]) ++ unR (actN xs a) r

def duU (xs:List ItemD) (i s q:Int) (zs:List ActD):List UndoD:=if exC xs i s q zs=0 then unR xs zs else []

theorem hasI_mem {xs:List ItemD} {k:Int}:hasI xs k=true↔∃ y∈xs,y.key=k:=by simp [hasI]

theorem valI_none {xs:List ItemD} {k:Int} (h:hasI xs k=false):valI xs k=0:=by
 unfold valI
 have:xs.find? (fun x=>x.key == k)=none:=by
  rw [List.find?_eq_none]
  intro y hy
  simp
  intro e
  rw [hasI_mem.2 ⟨y,hy,e⟩] at h
  simp at h
 rw [this]

theorem unR_parts:∀ {zs:List ActD} {xs:List ItemD},xs.length≤8→Good xs→(∀ a∈zs,actF a=0)→(runA xs zs).1=0→(unR xs zs).length≤zs.length∧∀ u∈unR xs zs,unF1 u=0
 | [],xs,_,_,_,_=>by simp [unR]
 | a :: r,xs,hl,g,ha,h=>by
  simp only [runA,unR] at h ⊢
  by_cases e:actC xs a=0
  ·rw [if_pos e] at h
   obtain ⟨h1,h2⟩:=act_good hl g (ha a (by simp)) e
   obtain ⟨i1,i2⟩:=unR_parts h1 h2 (fun b hb=>ha b (by simp [hb])) h
   have hone:unF1 (unA xs a)=0:=by
    obtain ⟨_,hy,_⟩:=actF_zero (ha a (by simp))
    have hv:=g.valI a.key
    have k1:inW a.key 1 20=true:=by simp [inW];omega
    have k2:inW (valI xs a.key) (-20000) 20000=true:=by simp [inW];omega
    unfold unF1 unA
    dsimp only
    rw [k1,k2]
    cases hh:hasI xs a.key
    ·simp [valI_none hh]
    ·simp
   constructor
   ·rw [List.length_append,List.length_cons]
    split <;> simp <;> omega
   ·intro u hu
    rcases List.mem_append.1 hu with hu | hu
    ·split at hu
     ·simp at hu
     ·simp at hu;rw [hu];exact hone
    ·exact i2 u hu
  ·rw [if_neg e] at h
   exact absurd h e

end Go.Proofs.YthmcgflmejofbaaGreatDoor
namespace Go.Proofs.YthmcgflmejofbaaGreatDoor
open Go.RowKit Go.Maps Go.Sort Go.Shelf
set_option maxRecDepth 100000
end Go.Proofs.YthmcgflmejofbaaGreatDoor
namespace Go.Proofs.YthmcgflmejofbaaGreatDoor
open Go.RowKit Go.Maps Go.Sort Go.Shelf
set_option maxRecDepth 100000
end Go.Proofs.YthmcgflmejofbaaGreatDoor
