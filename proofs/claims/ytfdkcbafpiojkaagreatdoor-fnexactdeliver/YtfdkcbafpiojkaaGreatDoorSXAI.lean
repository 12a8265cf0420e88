/- Texts joined, with what the law reaches alone. -/
import Derived.Test.YtfdkcbafpiojkaaGreatDoorSXAE
import Derived.Test.YtfdkcbafpiojkaaGreatDoorSXAD
import Derived.Test.YtfdkcbafpiojkaaGreatDoorSXAG
import Derived.Defers
import Derived.Test.YtfdkcbafpiojkaaGreatDoorSXAF
set_option linter.unusedVariables false
set_option linter.unusedSimpArgs false
namespace Go.Proofs.YtfdkcbafpiojkaaGreatDoor
open Go.RowKit
open Go.BigFrame
set_option maxRecDepth 100000
def unF1 (x:UndoD):Int:=
 if inW x.key 1 20=false∨inW x.val (-20000) 20000=false then 3 else if x.was=false∧x.val≠0 then 1 else 0

end Go.Proofs.YtfdkcbafpiojkaaGreatDoor
namespace Go.Proofs.YtfdkcbafpiojkaaGreatDoor
open Go.RowKit
set_option maxRecDepth 100000
/-- What undoes an act. -/
def unA (xs:List ItemD) (a:ActD):UndoD:=⟨a.key,hasI xs a.key,valI xs a.key⟩

/-- What undoes acts that are done one by one. -/
def unR:List ItemD→List ActD→List UndoD
 | _,[]=>[]
 | xs,a :: r=>(if a.kind=4 then [] else [unA xs a]) ++ unR (actN xs a) r

def duU (xs:List ItemD) (i s q:Int) (zs:List ActD):List UndoD:=if exC xs i s q zs=0 then unR xs zs else []

theorem hasI_mem {xs:List ItemD} {k:Int}:hasI xs k=true↔∃ y∈xs,y.key=k:=by simp [hasI]

theorem valI_none {xs:List ItemD} {k:Int} (h:hasI xs k=false):valI xs k=0:=by
 unfold valI
 have:xs.find? (fun x=>x.key == k)=none:=by
  rw [List.find?_eq_none]
  intro y hy
  simp
  intro e
  rw [hasI_mem.2 ⟨y,hy,e⟩] at h
  simp at h
 rw [this]

theorem unR_parts:∀ {zs:List ActD} {xs:List ItemD},xs.length≤8→Good xs→(∀ a∈zs,actF a=0)→(runA xs zs).1=0→(unR xs zs).length≤zs.length∧∀ u∈unR xs zs,unF1 u=0
 | [],xs,_,_,_,_=>by simp [unR]
 | a :: r,xs,hl,g,ha,h=>by
  simp only [runA,unR] at h ⊢
  by_cases e:actC xs a=0
  ·rw [if_pos e] at h
   obtain ⟨h1,h2⟩:=act_good hl g (ha a (by simp)) e
   obtain ⟨i1,i2⟩:=unR_parts h1 h2 (fun b hb=>ha b (by simp [hb])) h
   have hone:unF1 (unA xs a)=0:=by
    obtain ⟨_,hy,_⟩:=actF_zero (ha a (by simp))
    have hv:=g.valI a.key
    have k1:inW a.key 1 20=true:=by simp [inW];omega
    have k2:inW (valI xs a.key) (-20000) 20000=true:=by simp [inW];omega
    unfold unF1 unA
    dsimp only
    rw [k1,k2]
    cases hh:hasI xs a.key
    ·simp [valI_none hh]
    ·simp
   constructor
   ·rw [List.length_append,List.length_cons]
    split <;> simp <;> omega
   ·intro u hu
    rcases List.mem_append.1 hu with hu | hu
    ·split at hu
     ·simp at hu
     ·simp at hu;rw [hu];exact hone
    ·exact i2 u hu
  ·rw [if_neg e] at h
   exact absurd h e

end Go.Proofs.YtfdkcbafpiojkaaGreatDoor
namespace Go.Proofs.YtfdkcbafpiojkaaGreatDoor
open Go.RowKit Go.Maps Go.Sort Go.Shelf
set_option maxRecDepth 100000
end Go.Proofs.YtfdkcbafpiojkaaGreatDoor
namespace Go.Proofs.YtfdkcbafpiojkaaGreatDoor
open Go.RowKit Go.Maps Go.Sort Go.Shelf
set_option maxRecDepth 100000
end Go.Proofs.YtfdkcbafpiojkaaGreatDoor
namespace Go.Proofs.YtfdkcbafpiojkaaGreatDoor
open Go.RowKit
open Go.BigFrame
set_option maxRecDepth 100000
/-- A list of undos, and where it lies. -/
structure USP where
 d:List UndoD
 a:Option Addr
 cap:Nat

def USP.sl (p:USP):Value:=.slice p.a p.d.length p.cap

def usCells (ps:List USP):List Value:=ps.map USP.sl

def uspNo:USP:=⟨[],none,0⟩

theorem usCells_length (ps:List USP):(usCells ps).length=ps.length:=by simp [usCells]

theorem usCells_get (ps:List USP) (i:Nat) (h:i < ps.length):(usCells ps)[i]? = some (ps.getD i uspNo).sl:=by simp [usCells,List.getD,h]

/-- v is a slice that reads as these lists. -/
def UssAt (w:World) (v:Value) (ds:List (List UndoD)):Prop:=
 ∃ a cap ps,v=.slice a ds.length cap∧ps.map USP.d=ds∧Lies w a (usCells ps)∧∀ p∈ps,UndoRow w p.a p.d

theorem UssAt.below {w w' : World} {v:Value} {ds:List (List UndoD)} (h:UssAt w v ds) (hb:Below w.heap.size w w'):UssAt w' v ds:=by
 obtain ⟨a,cap,ps,e,hd,hL,hA⟩:=h
 exact ⟨a,cap,ps,e,hd,hL.below hb,fun p hp=>(hA p hp).below hb⟩

theorem UssAt.shape {w:World} {v:Value} {ds:List (List UndoD)} (h:UssAt w v ds):∃ a cap,v=.slice a ds.length cap:=by
 obtain ⟨a,cap,_,e,_⟩:=h
 exact ⟨a,cap,e⟩

theorem UssAt.at {w:World} {a:Option Addr} {n cap:Nat} {ds:List (List UndoD)} (h:UssAt w (.slice a n cap) ds) (i:Nat) (hi:i < ds.length) :
  ∃ b off aa cc,a=some ⟨b,off,none⟩∧b < w.heap.size∧w.cell? ⟨b,off + i,none⟩=some (.slice aa (ds.getD i []).length cc)∧UndoRow w aa (ds.getD i []):=by
 obtain ⟨a',cap',ps,e,hd,hL,hA⟩:=h
 simp only [Value.slice.injEq] at e
 obtain ⟨rfl,_,_⟩:=e
 have hl:ps.length=ds.length:=by rw [← hd];simp
 have h1:=usCells_get ps i (by omega)
 have hp:(ps.getD i uspNo).d=ds.getD i []:=by
  rw [← hd]
  simp [List.getD,show i < ps.length by omega]
 have hm:ps.getD i uspNo∈ps:=by simp [List.getD,show i < ps.length by omega]
 rcases hL with h | ⟨b,off,ha,hlt,hc⟩
 ·have:=usCells_length ps
  rw [h] at this
  simp at this
  omega
 ·have hAA:=hA _ hm
  rw [hp] at hAA
  refine ⟨b,off,(ps.getD i uspNo).a,(ps.getD i uspNo).cap,ha,hlt,?_,hAA⟩
  rw [hc _ _ h1]
  simp only [USP.sl,hp]

/-- v is a slice of lists, all of whose memory lies in blocks from lo up to hi, and is its own. -/
def OwnUss (lo hi:Nat) (w:World) (v:Value) (ds:List (List UndoD)):Prop:=
 ∃ g cap ps,v=.slice (some ⟨g,0,none⟩) ds.length cap∧g < hi∧ps.map USP.d=ds∧w.ownsRow lo 118 1 (.slice (some ⟨g,0,none⟩) ds.length cap) ds.length (usCells ps) ∧
  ∀ p∈ps,w.ownsRow lo 185 3 p.sl p.d.length (undoCells p.d)∧∀ k,p.sl.ownBlock=some k→k < hi∧k≠g

theorem OwnUss.row {lo hi:Nat} {w:World} {v:Value} {ds:List (List UndoD)} (h:OwnUss lo hi w v ds):UssAt w v ds:=by
 obtain ⟨g,cap,ps,e,_,hd,ho,hp⟩:=h
 exact ⟨_,cap,ps,e,hd,Lies.own ho,fun p hm=>Lies.own (hp p hm).1⟩

theorem OwnUss.below {lo hi:Nat} {w w' : World} {v:Value} {ds:List (List UndoD)} (h:OwnUss lo hi w v ds) (hb:Below w.heap.size w w'):OwnUss lo hi w' v ds:=by
 obtain ⟨g,cap,ps,e,hg,hd,ho,hp⟩:=h
 exact ⟨g,cap,ps,e,hg,hd,own_below ho hb,fun p hm=>⟨own_below (hp p hm).1 hb,(hp p hm).2⟩⟩

theorem OwnUss.only {lo hi lo' hi' : Nat} {w w' : World} {v:Value} {ds:List (List UndoD)} (h:OwnUss lo hi w v ds) (ho:Only lo' hi' w w') (hh:hi' ≤ lo):OwnUss lo hi w' v ds:=by
 obtain ⟨g,cap,ps,e,hg,hd,o,hp⟩:=h
 exact ⟨g,cap,ps,e,hg,hd,own_only o ho hh,fun p hm=>⟨own_only (hp p hm).1 ho hh,(hp p hm).2⟩⟩

end Go.Proofs.YtfdkcbafpiojkaaGreatDoor
namespace Go.Proofs.YtfdkcbafpiojkaaGreatDoor
open Go.RowKit
set_option maxRecDepth 100000
end Go.Proofs.YtfdkcbafpiojkaaGreatDoor
