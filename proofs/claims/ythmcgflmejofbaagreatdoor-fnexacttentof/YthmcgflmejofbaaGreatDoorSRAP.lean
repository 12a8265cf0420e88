/- Texts joined, with what the law reaches alone. -/
import Derived.Test.YthmcgflmejofbaaGreatDoorSRAC
import Derived.Test.YthmcgflmejofbaaGreatDoorSRAN
import Derived.Test.YthmcgflmejofbaaGreatDoorSRAM
import Derived.Maps.AppendAt
set_option linter.unusedVariables false
set_option linter.unusedSimpArgs false
namespace Go.Proofs.YthmcgflmejofbaaGreatDoor
open Go.RowKit
set_option maxRecDepth 100000
end Go.Proofs.YthmcgflmejofbaaGreatDoor
namespace Go.Proofs.YthmcgflmejofbaaGreatDoor
open Go.RowKit
set_option maxRecDepth 100000
end Go.Proofs.YthmcgflmejofbaaGreatDoor
namespace Go.Proofs.YthmcgflmejofbaaGreatDoor
open Go.RowKit
open Go.BigFrame
set_option maxRecDepth 100000
theorem inW_true {n lo hi:Int}:inW n lo hi=true↔lo≤n∧n≤hi:=by simp [inW]

theorem actsF_all {zs:List ActD} (h:actsF zs=0):∀ z∈zs,actF z=0:=by
 induction zs with
 | nil=>simp
 | cons x r ih=>
  simp only [actsF] at h
  split at h
  ·rename_i hx
   intro z hz
   rcases List.mem_cons.1 hz with rfl | hz
   ·exact hx
   ·exact ih h z hz
  ·rename_i hx;exact absurd h hx

theorem txnF_zero {i s q:Int} {zs:List ActD} (h:txnF i s q zs=0):(1≤i∧i≤200)∧(1≤s∧s≤9)∧(1≤q∧q≤99)∧(1≤zs.length∧zs.length≤4)∧∀ z∈zs,actF z=0:=by
 unfold txnF at h
 split at h
 ·simp at h
 ·rename_i h1
  split at h
  ·simp at h
  ·rename_i h2
   simp only [not_or,Bool.not_eq_false,inW_true] at h1
   exact ⟨h1.1,h1.2.1,h1.2.2,by omega,actsF_all h⟩

theorem Box4.cells {w:World} {b o:Nat} {x0 x1 x2 x3:Value} (h:Box4 w b o x0 x1 x2 x3):b < w.heap.size:=World.block_lt_of_cell? w ⟨b,o,none⟩ h.c0

end Go.Proofs.YthmcgflmejofbaaGreatDoor
namespace Go.Proofs.YthmcgflmejofbaaGreatDoor
open Go.RowKit
open Go.BigFrame
set_option maxRecDepth 100000
/-- A box of two cells that may be written. -/
structure Box2 (w:World) (b:Nat) (x y:Value):Prop where
 lt:b < w.heap.size
 c0:w.cell? ⟨b,0,none⟩=some x
 c1:w.cell? ⟨b,1,none⟩=some y
 f0:w.frozen? ⟨b,0,none⟩=false
 f1:w.frozen? ⟨b,1,none⟩=false

theorem Box2.below {w w' : World} {b:Nat} {x y:Value} (h:Box2 w b x y) (hb:Below w.heap.size w w'):Box2 w' b x y:=
 ⟨Nat.lt_of_lt_of_le h.lt hb.size,by rw [hb.cell (p:=⟨b,0,none⟩) h.lt];exact h.c0,by rw [hb.cell (p:=⟨b,1,none⟩) h.lt];exact h.c1,by rw [hb.frozen (p:=⟨b,0,none⟩) h.lt];exact h.f0,by rw [hb.frozen (p:=⟨b,1,none⟩) h.lt];exact h.f1⟩

end Go.Proofs.YthmcgflmejofbaaGreatDoor
namespace Go.Proofs.YthmcgflmejofbaaGreatDoor
open Go.RowKit
open Go.BigFrame
set_option maxRecDepth 100000
def TxnD.F (d:TxnD):Int:=txnF d.id d.session d.seq d.acts

def allF:List TxnD→Int
 | []=>0
 | d :: r=>if d.F=0 then allF r else d.F

def idsC (ds:List TxnD):Int:=if 60 < ds.length then 2 else allF ds

theorem TxnsAt.box {w:World} {b off i:Nat} {z:TxnD} {aa:Option Addr} {cc:Nat} (h0:w.cell? ⟨b,off + i * 4,none⟩=some (.int .i64 z.id)) (h1:w.cell? ⟨b,off + i * 4 + 1,none⟩=some (.int .i64 z.session)) (h2:w.cell? ⟨b,off + i * 4 + 2,none⟩=some (.int .i64 z.seq))
  (h3:w.cell? ⟨b,off + i * 4 + 3,none⟩=some (.slice aa z.acts.length cc)):Box4 w b (off + i * 4) (.int .i64 z.id) (.int .i64 z.session) (.int .i64 z.seq) (.slice aa z.acts.length cc):=⟨h0,h1,h2,h3⟩

end Go.Proofs.YthmcgflmejofbaaGreatDoor
namespace Go.Proofs.YthmcgflmejofbaaGreatDoor
open Go.RowKit
open Go.BigFrame
set_option maxRecDepth 100000
theorem idsC_few {ds:List TxnD} (h:idsC ds=0):ds.length≤60:=by
 unfold idsC at h
 split at h
 ·simp at h
 ·omega

end Go.Proofs.YthmcgflmejofbaaGreatDoor
namespace Go.Proofs.YthmcgflmejofbaaGreatDoor
open Go.RowKit Go.Maps
set_option maxRecDepth 100000
def nextI (xs:List ItemD) (t:TxnD):List ItemD:=if (runA xs t.acts).1=0 then (runA xs t.acts).2 else xs

def allI:List ItemD→List TxnD→List ItemD
 | xs,[]=>xs
 | xs,t :: r=>allI (nextI xs t) r

def allCd:List ItemD→List TxnD→List Int
 | _,[]=>[]
 | xs,t :: r=>(runA xs t.acts).1 :: allCd (nextI xs t) r

def allVl:List ItemD→List TxnD→List Int
 | _,[]=>[]
 | xs,t :: r=>runV xs t.acts :: allVl (nextI xs t) r

theorem nextI_good {xs:List ItemD} {t:TxnD} (hl:xs.length≤8) (g:Good xs) (ht:t.F=0):(nextI xs t).length≤8∧Good (nextI xs t):=by
 unfold nextI
 split
 ·rename_i h;exact run_good hl g (acts_of_F ht).2 h
 ·exact ⟨hl,g⟩

theorem allI_good:∀ {ds:List TxnD} {xs:List ItemD},xs.length≤8→Good xs→(∀ t∈ds,t.F=0)→(allI xs ds).length≤8∧Good (allI xs ds)
 | [],xs,hl,g,_=>⟨hl,g⟩
 | t :: r,xs,hl,g,ht=>by
  obtain ⟨h1,h2⟩:=nextI_good hl g (ht t (by simp))
  exact allI_good (ds:=r) (xs:=nextI xs t) h1 h2 (fun u hu=>ht u (by simp [hu]))

theorem allF_zero:∀ {ds:List TxnD},allF ds=0→∀ t∈ds,t.F=0
 | [],_,t,h=>by simp at h
 | x :: r,h,t,ht=>by
  simp only [allF] at h
  by_cases hx:x.F=0
  ·rw [if_pos hx] at h
   rcases List.mem_cons.1 ht with rfl | ht
   ·exact hx
   ·exact allF_zero h t ht
  ·rw [if_neg hx] at h;exact absurd h hx

theorem ids_zero {ds:List TxnD} (h:idsC ds=0):ds.length≤60∧∀ t∈ds,t.F=0:=by
 have h60:=idsC_few h
 unfold idsC at h
 rw [if_neg (by omega)] at h
 exact ⟨h60,allF_zero h⟩

def eaC (xs:List ItemD) (ds:List TxnD):Int:=if itemsF xs≠0 then itemsF xs else idsC ds

def eaCd (xs:List ItemD) (ds:List TxnD):List Int:=if eaC xs ds=0 then allCd xs ds else []

def eaVl (xs:List ItemD) (ds:List TxnD):List Int:=if eaC xs ds=0 then allVl xs ds else []

def eaI (xs:List ItemD) (ds:List TxnD):List ItemD:=if eaC xs ds=0 then allI xs ds else []

theorem ea_ok {xs:List ItemD} {ds:List TxnD} (h:itemsF xs=0) (h2:idsC ds=0):eaC xs ds=0∧eaCd xs ds=allCd xs ds∧eaVl xs ds=allVl xs ds∧eaI xs ds=allI xs ds:=by
 have e:eaC xs ds=0:=by simp [eaC,h,h2]
 exact ⟨e,by simp [eaCd,e],by simp [eaVl,e],by simp [eaI,e]⟩

theorem drop_txn {ds:List TxnD} {k:Nat} (h:k < ds.length):ds.drop k=ds.getD k txnNo :: ds.drop (k + 1):=by
 have e:ds.getD k txnNo=ds[k]:=by simp [List.getD,h]
 rw [List.drop_eq_getElem_cons h,e]

theorem Apart3.nil:Apart3 (.slice none 0 0) (.slice none 0 0) (.slice none 0 0):=⟨Or.inl rfl,Or.inl rfl,Or.inl rfl⟩

/-- One of the three has grown, in its own block or a new one. -/
theorem Apart3.grow1 {w:World} {s1 s2 s3 s1' : Value} (h:Apart3 s1 s2 s3) (hl:s1'.ownBlock=s1.ownBlock∨s1'.ownBlock=some w.heap.size) (h2:∀ g,s2.ownBlock=some g→g < w.heap.size) (h3:∀ g,s3.ownBlock=some g→g < w.heap.size):Apart3 s1' s2 s3:=by
 rcases hl with e | e
 ·exact ⟨by rw [e];exact h.a12,by rw [e];exact h.a13,h.a23⟩
 ·exact ⟨Or.inr (by rw [e];intro k;have:=h2 _ k.symm;omega),Or.inr (by rw [e];intro k;have:=h3 _ k.symm;omega),h.a23⟩

theorem Apart3.grow2 {w:World} {s1 s2 s3 s2' : Value} (h:Apart3 s1 s2 s3) (hl:s2'.ownBlock=s2.ownBlock∨s2'.ownBlock=some w.heap.size) (h1:∀ g,s1.ownBlock=some g→g < w.heap.size) (h3:∀ g,s3.ownBlock=some g→g < w.heap.size):Apart3 s1 s2' s3:=by
 rcases hl with e | e
 ·exact ⟨by rw [e];exact h.a12,h.a13,by rw [e];exact h.a23⟩
 ·refine ⟨ne_swap (Or.inr ?_),h.a13,Or.inr ?_⟩
  ·rw [e];intro k;have:=h1 _ k.symm;omega
  ·rw [e];intro k;have:=h3 _ k.symm;omega

end Go.Proofs.YthmcgflmejofbaaGreatDoor
