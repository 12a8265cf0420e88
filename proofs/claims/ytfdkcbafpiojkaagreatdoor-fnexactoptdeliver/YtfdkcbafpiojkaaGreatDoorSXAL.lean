/- Texts joined, with what the law reaches alone. -/
import Derived.Test.YtfdkcbafpiojkaaGreatDoorSXAB
import Derived.Test.YtfdkcbafpiojkaaGreatDoorSXAC
import Derived.Test.YtfdkcbafpiojkaaGreatDoorSXAJ
import Derived.Maps.AppendAt
import Derived.Test.YtfdkcbafpiojkaaGreatDoorSXAH
import Derived.Test.YtfdkcbafpiojkaaGreatDoorSXAK
import Derived.Test.YtfdkcbafpiojkaaGreatDoorSXAF
set_option linter.unusedVariables false
set_option linter.unusedSimpArgs false
namespace Go.Proofs.YtfdkcbafpiojkaaGreatDoor
open Go.RowKit
set_option maxRecDepth 100000
end Go.Proofs.YtfdkcbafpiojkaaGreatDoor
namespace Go.Proofs.YtfdkcbafpiojkaaGreatDoor
open Go.RowKit
set_option maxRecDepth 100000
end Go.Proofs.YtfdkcbafpiojkaaGreatDoor
namespace Go.Proofs.YtfdkcbafpiojkaaGreatDoor
open Go.RowKit
open Go.BigFrame
set_option maxRecDepth 100000
theorem inW_true {n lo hi:Int}:inW n lo hi=true↔lo≤n∧n≤hi:=by simp [inW]

theorem actsF_all {zs:List ActD} (h:actsF zs=0):∀ z∈zs,actF z=0:=by
 induction zs with
 | nil=>simp
 | cons x r ih=>
  simp only [actsF] at h
  split at h
  ·rename_i hx
   intro z hz
   rcases List.mem_cons.1 hz with rfl | hz
   ·exact hx
   ·exact ih h z hz
  ·rename_i hx;exact absurd h hx

theorem txnF_zero {i s q:Int} {zs:List ActD} (h:txnF i s q zs=0):(1≤i∧i≤200)∧(1≤s∧s≤9)∧(1≤q∧q≤99)∧(1≤zs.length∧zs.length≤4)∧∀ z∈zs,actF z=0:=by
 unfold txnF at h
 split at h
 ·simp at h
 ·rename_i h1
  split at h
  ·simp at h
  ·rename_i h2
   simp only [not_or,Bool.not_eq_false,inW_true] at h1
   exact ⟨h1.1,h1.2.1,h1.2.2,by omega,actsF_all h⟩

theorem Box4.cells {w:World} {b o:Nat} {x0 x1 x2 x3:Value} (h:Box4 w b o x0 x1 x2 x3):b < w.heap.size:=World.block_lt_of_cell? w ⟨b,o,none⟩ h.c0

end Go.Proofs.YtfdkcbafpiojkaaGreatDoor
namespace Go.Proofs.YtfdkcbafpiojkaaGreatDoor
open Go.RowKit
open Go.BigFrame
set_option maxRecDepth 100000
/-- A box of two cells that may be written. -/
structure Box2 (w:World) (b:Nat) (x y:Value):Prop where
 lt:b < w.heap.size
 c0:w.cell? ⟨b,0,none⟩=some x
 c1:w.cell? ⟨b,1,none⟩=some y
 f0:w.frozen? ⟨b,0,none⟩=false
 f1:w.frozen? ⟨b,1,none⟩=false

theorem Box2.below {w w' : World} {b:Nat} {x y:Value} (h:Box2 w b x y) (hb:Below w.heap.size w w'):Box2 w' b x y:=
 ⟨Nat.lt_of_lt_of_le h.lt hb.size,by rw [hb.cell (p:=⟨b,0,none⟩) h.lt];exact h.c0,by rw [hb.cell (p:=⟨b,1,none⟩) h.lt];exact h.c1,by rw [hb.frozen (p:=⟨b,0,none⟩) h.lt];exact h.f0,by rw [hb.frozen (p:=⟨b,1,none⟩) h.lt];exact h.f1⟩

end Go.Proofs.YtfdkcbafpiojkaaGreatDoor
namespace Go.Proofs.YtfdkcbafpiojkaaGreatDoor
open Go.RowKit
open Go.BigFrame
set_option maxRecDepth 100000
def TxnD.F (d:TxnD):Int:=txnF d.id d.session d.seq d.acts

def allF:List TxnD→Int
 | []=>0
 | d :: r=>if d.F=0 then allF r else d.F

def idsC (ds:List TxnD):Int:=if 60 < ds.length then 2 else allF ds

theorem TxnsAt.box {w:World} {b off i:Nat} {z:TxnD} {aa:Option Addr} {cc:Nat} (h0:w.cell? ⟨b,off + i * 4,none⟩=some (.int .i64 z.id)) (h1:w.cell? ⟨b,off + i * 4 + 1,none⟩=some (.int .i64 z.session)) (h2:w.cell? ⟨b,off + i * 4 + 2,none⟩=some (.int .i64 z.seq))
  (h3:w.cell? ⟨b,off + i * 4 + 3,none⟩=some (.slice aa z.acts.length cc)):Box4 w b (off + i * 4) (.int .i64 z.id) (.int .i64 z.session) (.int .i64 z.seq) (.slice aa z.acts.length cc):=⟨h0,h1,h2,h3⟩

end Go.Proofs.YtfdkcbafpiojkaaGreatDoor
namespace Go.Proofs.YtfdkcbafpiojkaaGreatDoor
open Go.RowKit
open Go.BigFrame
set_option maxRecDepth 100000
theorem idsC_few {ds:List TxnD} (h:idsC ds=0):ds.length≤60:=by
 unfold idsC at h
 split at h
 ·simp at h
 ·omega

end Go.Proofs.YtfdkcbafpiojkaaGreatDoor
namespace Go.Proofs.YtfdkcbafpiojkaaGreatDoor
open Go.RowKit Go.Maps
set_option maxRecDepth 100000
def nextI (xs:List ItemD) (t:TxnD):List ItemD:=if (runA xs t.acts).1=0 then (runA xs t.acts).2 else xs

def allI:List ItemD→List TxnD→List ItemD
 | xs,[]=>xs
 | xs,t :: r=>allI (nextI xs t) r

def allCd:List ItemD→List TxnD→List Int
 | _,[]=>[]
 | xs,t :: r=>(runA xs t.acts).1 :: allCd (nextI xs t) r

def allVl:List ItemD→List TxnD→List Int
 | _,[]=>[]
 | xs,t :: r=>runV xs t.acts :: allVl (nextI xs t) r

theorem nextI_good {xs:List ItemD} {t:TxnD} (hl:xs.length≤8) (g:Good xs) (ht:t.F=0):(nextI xs t).length≤8∧Good (nextI xs t):=by
 unfold nextI
 split
 ·rename_i h;exact run_good hl g (acts_of_F ht).2 h
 ·exact ⟨hl,g⟩

theorem allI_good:∀ {ds:List TxnD} {xs:List ItemD},xs.length≤8→Good xs→(∀ t∈ds,t.F=0)→(allI xs ds).length≤8∧Good (allI xs ds)
 | [],xs,hl,g,_=>⟨hl,g⟩
 | t :: r,xs,hl,g,ht=>by
  obtain ⟨h1,h2⟩:=nextI_good hl g (ht t (by simp))
  exact allI_good (ds:=r) (xs:=nextI xs t) h1 h2 (fun u hu=>ht u (by simp [hu]))

theorem allF_zero:∀ {ds:List TxnD},allF ds=0→∀ t∈ds,t.F=0
 | [],_,t,h=>by simp at h
 | x :: r,h,t,ht=>by
  simp only [allF] at h
  by_cases hx:x.F=0
  ·rw [if_pos hx] at h
   rcases List.mem_cons.1 ht with rfl | ht
   ·exact hx
   ·exact allF_zero h t ht
  ·rw [if_neg hx] at h;exact absurd h hx

theorem ids_zero {ds:List TxnD} (h:idsC ds=0):ds.length≤60∧∀ t∈ds,t.F=0:=by
 have h60:=idsC_few h
 unfold idsC at h
 rw [if_neg (by omega)] at h
 exact ⟨h60,allF_zero h⟩

def eaC (xs:List ItemD) (ds:List TxnD):Int:=if itemsF xs≠0 then itemsF xs else idsC ds

def eaCd (xs:List ItemD) (ds:List TxnD):List Int:=if eaC xs ds=0 then allCd xs ds else []

def eaVl (xs:List ItemD) (ds:List TxnD):List Int:=if eaC xs ds=0 then allVl xs ds else []

def eaI (xs:List ItemD) (ds:List TxnD):List ItemD:=if eaC xs ds=0 then allI xs ds else []

theorem ea_ok {xs:List ItemD} {ds:List TxnD} (h:itemsF xs=0) (h2:idsC ds=0):eaC xs ds=0∧eaCd xs ds=allCd xs ds∧eaVl xs ds=allVl xs ds∧eaI xs ds=allI xs ds:=by
 have e:eaC xs ds=0:=by simp [eaC,h,h2]
 exact ⟨e,by simp [eaCd,e],by simp [eaVl,e],by simp [eaI,e]⟩

theorem drop_txn {ds:List TxnD} {k:Nat} (h:k < ds.length):ds.drop k=ds.getD k txnNo :: ds.drop (k + 1):=by
 have e:ds.getD k txnNo=ds[k]:=by simp [List.getD,h]
 rw [List.drop_eq_getElem_cons h,e]

theorem Apart3.nil:Apart3 (.slice none 0 0) (.slice none 0 0) (.slice none 0 0):=⟨Or.inl rfl,Or.inl rfl,Or.inl rfl⟩

/-- One of the three has grown, in its own block or a new one. -/
theorem Apart3.grow1 {w:World} {s1 s2 s3 s1' : Value} (h:Apart3 s1 s2 s3) (hl:s1'.ownBlock=s1.ownBlock∨s1'.ownBlock=some w.heap.size) (h2:∀ g,s2.ownBlock=some g→g < w.heap.size) (h3:∀ g,s3.ownBlock=some g→g < w.heap.size):Apart3 s1' s2 s3:=by
 rcases hl with e | e
 ·exact ⟨by rw [e];exact h.a12,by rw [e];exact h.a13,h.a23⟩
 ·exact ⟨Or.inr (by rw [e];intro k;have:=h2 _ k.symm;omega),Or.inr (by rw [e];intro k;have:=h3 _ k.symm;omega),h.a23⟩

theorem Apart3.grow2 {w:World} {s1 s2 s3 s2' : Value} (h:Apart3 s1 s2 s3) (hl:s2'.ownBlock=s2.ownBlock∨s2'.ownBlock=some w.heap.size) (h1:∀ g,s1.ownBlock=some g→g < w.heap.size) (h3:∀ g,s3.ownBlock=some g→g < w.heap.size):Apart3 s1 s2' s3:=by
 rcases hl with e | e
 ·exact ⟨by rw [e];exact h.a12,h.a13,by rw [e];exact h.a23⟩
 ·refine ⟨ne_swap (Or.inr ?_),h.a13,Or.inr ?_⟩
  ·rw [e];intro k;have:=h1 _ k.symm;omega
  ·rw [e];intro k;have:=h3 _ k.symm;omega

end Go.Proofs.YtfdkcbafpiojkaaGreatDoor
namespace Go.Proofs.YtfdkcbafpiojkaaGreatDoor
open Go.RowKit
open Go.BigFrame
set_option maxRecDepth 100000
/-- What comes of each one: its code, its Value, what undoes it. -/
def deedsE:List ItemD→List TxnD→List (TxnD × Int × Int × List UndoD)
 | _,[]=>[]
 | xs,t :: r=>(t,(runA xs t.acts).1,runV xs t.acts,runU xs t.acts) :: deedsE (nextI xs t) r

theorem deeds_snoc:∀ (ds:List TxnD) (xs:List ItemD) (t:TxnD),deedsE xs (ds ++ [t])=deedsE xs ds ++ [(t,(runA (allI xs ds) t.acts).1,runV (allI xs ds) t.acts,runU (allI xs ds) t.acts)]
 | [],_,_=>rfl
 | d :: r,xs,t=>by
  simp only [List.cons_append,deedsE,allI]
  rw [deeds_snoc r]

theorem allI_snoc:∀ (ds:List TxnD) (xs:List ItemD) (t:TxnD),allI xs (ds ++ [t])=nextI (allI xs ds) t
 | [],_,_=>rfl
 | d :: r,xs,t=>by
  simp only [List.cons_append,allI]
  exact allI_snoc r _ t

def DeedQ.t (p:DeedQ):TxnD:=⟨p.i,p.s,p.q,p.acts⟩

def DeedQ.e4 (p:DeedQ):TxnD × Int × Int × List UndoD:=(p.t,p.code,p.val,p.us)

theorem du9 {xs:List ItemD} {t:TxnD} (hl:xs.length≤8) (g:Good xs) (ht:t.F=0):exC xs t.id t.session t.seq t.acts=(runA xs t.acts).1∧exV xs t.id t.session t.seq t.acts=runV xs t.acts∧duU xs t.id t.session t.seq t.acts=runU xs t.acts∧exR xs t.id t.session t.seq t.acts=runR xs t.acts:=by
 have h1:=F_of_good hl g
 have h2:txnF t.id t.session t.seq t.acts=0:=ht
 have e:exC xs t.id t.session t.seq t.acts=(runA xs t.acts).1:=by
  unfold exC
  rw [if_neg (by simp [h1]),if_neg (by simp [h2])]
 refine ⟨e,?_,?_,?_⟩
 ·unfold exV runV;rw [e]
 ·unfold duU runU;rw [e]
 ·unfold exR runR;rw [e]

theorem ownS_kind {e n lo hi:Nat} {w:World} {v:Value} {m:Nat} {xs:List Value} (h:OwnS e n lo hi w v m xs):w.ownsRow 0 e n v m xs∧∀ k∈blk v,lo≤k:=own_zero h.1

theorem nil_items:itemsF ([]:List ItemD)=0:=by decide

theorem nil_good:Good ([]:List ItemD):=(good_of_F nil_items).2

/-- DoUndo of a right transaction at right items. -/
theorem doUndo9 (ia:Option Addr) (ic:Nat) (xs:List ItemD) (i s q:Int) (ta:Option Addr) (tc:Nat) (zs:List ActD) (w:World) (h:itemK.At w (.slice ia xs.length ic) xs) (ht:actK.At w (.slice ta zs.length tc) zs) (hl:xs.length≤8) (g:Good xs) (hF:(⟨i,s,q,zs⟩:TxnD).F=0) :
  Calls Tryz.prog 116 #[.slice ia xs.length ic,.agg #[.int .i64 i,.int .i64 s,.int .i64 q,.slice ta zs.length tc]] w fun e w' => ∃ b c b2 c2,e=.returned (.agg #[.int .i64 (runA xs zs).1,.int .i64 (runV xs zs),.slice b (runU xs zs).length c,.slice b2 (runR xs zs).length c2]) ∧
   undoK.Own w' (.slice b (runU xs zs).length c) (runU xs zs)∧itemK.Own w' (.slice b2 (runR xs zs).length c2) (runR xs zs)∧(∀ k∈blk (.slice b (runU xs zs).length c),w.heap.size≤k)∧(∀ k∈blk (.slice b2 (runR xs zs).length c2),w.heap.size≤k)∧Below w.heap.size w w' := by
 obtain ⟨e1,e2,e3,e4⟩:=du9 (t:=⟨i,s,q,zs⟩) hl g hF
 have hz:=(acts_of_F (show txnF i s q zs=0 from hF)).1
 have hq:=implDoUndo_any ia ic xs i s q ta tc zs w (itemK_at h).2 (actK_at ht).2 (by omega) (by omega)
 dsimp only at e1 e2 e3 e4
 rw [e1,e2,e3,e4] at hq
 refine hq.mono ?_
 rintro e w' ⟨b,c,b2,c2,rfl,hU,hb⟩
 obtain ⟨o1,l1⟩:=ownS_kind hU.o1
 obtain ⟨o2,l2⟩:=ownS_kind hU.o2
 exact ⟨b,c,b2,c2,rfl,⟨o1,fun _ _=>trivial⟩,⟨o2,fun _ _=>trivial⟩,l1,l2,hb⟩

section
variable {P:Program} {ops:Array Oper} {Q:Exit→Act→World→Prop} {S:World→Prop} {st:Nat} {R:List PanicEntry→World→Prop}
end
/-- A record in memory: rb is its block, all that it points to lies from B0 on, and its rows are apart from the rest. -/
structure Rec (w:World) (rb B0:Nat) (wr:World) (vN iN vU iU:Value) (ds us:List DeedQ) (xs ys:List ItemD):Prop where
 B:Blk wr rb 103 #[vN,iN,vU,iU]
 oN:wr.ownsRow 0 222 6 vN ds.length ((deedNK w).row ds)
 aN:∀ p∈ds,actK.At w p.va p.acts
 oU:wr.ownsRow 0 120 7 vU us.length ((deedUK w).row us)
 aU:∀ p∈us,actK.At w p.va p.acts∧undoK.Own wr p.lv p.us
 jN:itemK.Own wr iN xs
 jU:itemK.Own wr iU ys
 nu:∀ k∈blk vN,k ∉ blk vU
 lN:∀ k∈blk vN,B0≤k
 lU:∀ k∈blk vU,B0≤k
 d1:∀ k∈blk iN,B0≤k∧k ∉ blk vN∧k ∉ blk vU
 d2:∀ k∈blk iU,B0≤k∧k ∉ blk vN∧k ∉ blk vU
 d3:∀ p∈us,∀ k∈blk p.lv,B0≤k∧k ∉ blk vN∧k ∉ blk vU

theorem Rec.below {w:World} {rb B0:Nat} {wr wr' : World} {vN iN vU iU:Value} {ds us:List DeedQ} {xs ys:List ItemD} (h:Rec w rb B0 wr vN iN vU iU ds us xs ys) (hb:Below wr.heap.size wr wr'):Rec w rb B0 wr' vN iN vU iU ds us xs ys:=
 ⟨h.B.below hb,own_below h.oN hb,h.aN,own_below h.oU hb,fun p hp=>⟨(h.aU p hp).1,(h.aU p hp).2.below hb⟩,h.jN.below hb,h.jU.below hb,h.nu,h.lN,h.lU,h.d1,h.d2,h.d3⟩

theorem blk_new {v v' : Value} {H B0:Nat} (h:v'.ownBlock=v.ownBlock∨∃ g,v'.ownBlock=some g∧H≤g) {k:Nat} (hk:k∈blk v'):k∈blk v∨H≤k:=by
 unfold blk at hk ⊢
 rcases h with h | ⟨g,h,hg⟩
 ·rw [h] at hk;exact Or.inl hk
 ·rw [h] at hk
  simp only [Option.toList,List.mem_singleton] at hk
  subst hk
  exact Or.inr hg

theorem own_blk {w:World} {b e n m:Nat} {v:Value} {xs:List Value} (h:w.ownsRow b e n v m xs):∀ k∈blk v,k < w.heap.size:=fun k hk=>(h.lt k (by simpa [blk] using hk)).2

theorem Rec.addN {w:World} {rb B0:Nat} {w1 w2:World} {vN iN d' : Value} {vU iU i' : Value} {ds us:List DeedQ} {xs ys xs' : List ItemD} {p:DeedQ} (h:Rec w rb B0 w1 vN iN vU iU ds us xs ys) (hrb:rb < B0) (hB:B0≤w1.heap.size) (hp:actK.At w p.va p.acts)
  (hi:itemK.Own w1 i' xs') (hil:∀ k∈blk i',B0≤k∧k ∉ blk vN∧k ∉ blk vU)
  (B:Blk w2 rb 103 #[d',i',vU,iU]) (ho:w2.ownsRow 0 222 6 d' (ds.length + 1) ((deedNK w).row ds ++ (deedNK w).cells p)) (hd:d'.ownBlock=vN.ownBlock∨∃ g,d'.ownBlock=some g∧w1.heap.size≤g) (hO:Out (rb :: blk vN) w1 w2) :
  Rec w rb B0 w2 d' i' vU iU (ds ++ [p]) us xs' ys:=by
 have nF:∀ {k},B0≤k→k ∉ blk vN→k ∉ rb :: blk vN:=fun hk hn hm=>by
  rcases List.mem_cons.1 hm with e | e
  ·omega
  ·exact hn e
 have out:∀ {k},(k < w1.heap.size)→k ∉ blk vN→k ∉ blk d' := fun hk hn hm=>by
  rcases blk_new (B0:=0) hd hm with e | e
  ·exact hn e
  ·omega
 refine ⟨B,by rw [List.length_append,List.length_singleton,Kind.row_snoc];exact ho,?_,own_outs h.oU hO (fun k hk=>nF (h.lU k hk) (fun e=>h.nu k e hk)),?_,?_,?_,?_,?_,h.lU,?_,?_,?_⟩
 ·intro q hq
  rcases List.mem_append.1 hq with hq | hq
  ·exact h.aN q hq
  ·simp only [List.mem_singleton] at hq;subst hq;exact hp
 ·exact fun q hq=>⟨(h.aU q hq).1,(h.aU q hq).2.out hO (fun k hk=>by rw [undoK_fp] at hk;exact nF (h.d3 q hq k hk).1 (h.d3 q hq k hk).2.1)⟩
 ·exact hi.out hO (fun k hk=>by rw [itemK_fp] at hk;exact nF (hil k hk).1 (hil k hk).2.1)
 ·exact h.jU.out hO (fun k hk=>by rw [itemK_fp] at hk;exact nF (h.d2 k hk).1 (h.d2 k hk).2.1)
 ·intro k hk hm
  rcases blk_new (B0:=0) hd hk with e | e
  ·exact h.nu k e hm
  ·have:=own_blk h.oU k hm;omega
 ·intro k hk
  rcases blk_new (B0:=0) hd hk with e | e
  ·exact h.lN k e
  ·omega
 ·exact fun k hk=>⟨(hil k hk).1,out (own_blk hi.1 k hk) (hil k hk).2.1,(hil k hk).2.2⟩
 ·exact fun k hk=>⟨(h.d2 k hk).1,out (own_blk h.jU.1 k hk) (h.d2 k hk).2.1,(h.d2 k hk).2.2⟩
 ·exact fun q hq k hk=>⟨(h.d3 q hq k hk).1,out (own_blk (h.aU q hq).2.1 k hk) (h.d3 q hq k hk).2.1,(h.d3 q hq k hk).2.2⟩

theorem Rec.addU {w:World} {rb B0:Nat} {w1 w2:World} {vN iN d' : Value} {vU iU i' : Value} {ds us:List DeedQ} {xs ys ys' : List ItemD} {p:DeedQ} (h:Rec w rb B0 w1 vN iN vU iU ds us xs ys) (hrb:rb < B0) (hB:B0≤w1.heap.size) (hp:actK.At w p.va p.acts) (hpu:undoK.Own w1 p.lv p.us)
  (hpl:∀ k∈blk p.lv,B0≤k∧k ∉ blk vN∧k ∉ blk vU)
  (hi:itemK.Own w1 i' ys') (hil:∀ k∈blk i',B0≤k∧k ∉ blk vN∧k ∉ blk vU)
  (B:Blk w2 rb 103 #[vN,iN,d',i']) (ho:w2.ownsRow 0 120 7 d' (us.length + 1) ((deedUK w).row us ++ (deedUK w).cells p)) (hd:d'.ownBlock=vU.ownBlock∨∃ g,d'.ownBlock=some g∧w1.heap.size≤g) (hO:Out (rb :: blk vU) w1 w2) :
  Rec w rb B0 w2 vN iN d' i' ds (us ++ [p]) xs ys' := by
 have nF:∀ {k},B0≤k→k ∉ blk vU→k ∉ rb :: blk vU:=fun hk hn hm=>by
  rcases List.mem_cons.1 hm with e | e
  ·omega
  ·exact hn e
 have out:∀ {k},(k < w1.heap.size)→k ∉ blk vU→k ∉ blk d' := fun hk hn hm=>by
  rcases blk_new (B0:=0) hd hm with e | e
  ·exact hn e
  ·omega
 refine ⟨B,own_outs h.oN hO (fun k hk=>nF (h.lN k hk) (h.nu k hk)),h.aN,by rw [List.length_append,List.length_singleton,Kind.row_snoc];exact ho,?_,?_,?_,?_,h.lN,?_,?_,?_,?_⟩
 ·intro q hq
  rcases List.mem_append.1 hq with hq | hq
  ·exact ⟨(h.aU q hq).1,(h.aU q hq).2.out hO (fun k hk=>by rw [undoK_fp] at hk;exact nF (h.d3 q hq k hk).1 (h.d3 q hq k hk).2.2)⟩
  ·simp only [List.mem_singleton] at hq
   subst hq
   exact ⟨hp,hpu.out hO (fun k hk=>by rw [undoK_fp] at hk;exact nF (hpl k hk).1 (hpl k hk).2.2)⟩
 ·exact h.jN.out hO (fun k hk=>by rw [itemK_fp] at hk;exact nF (h.d1 k hk).1 (h.d1 k hk).2.2)
 ·exact hi.out hO (fun k hk=>by rw [itemK_fp] at hk;exact nF (hil k hk).1 (hil k hk).2.2)
 ·intro k hk hm
  rcases blk_new (B0:=0) hd hm with e | e
  ·exact h.nu k hk e
  ·have:=own_blk h.oN k hk;omega
 ·intro k hk
  rcases blk_new (B0:=0) hd hk with e | e
  ·exact h.lU k e
  ·omega
 ·exact fun k hk=>⟨(h.d1 k hk).1,(h.d1 k hk).2.1,out (own_blk h.jN.1 k hk) (h.d1 k hk).2.2⟩
 ·exact fun k hk=>⟨(hil k hk).1,(hil k hk).2.1,out (own_blk hi.1 k hk) (hil k hk).2.2⟩
 ·intro q hq k hk
  rcases List.mem_append.1 hq with hq | hq
  ·exact ⟨(h.d3 q hq k hk).1,(h.d3 q hq k hk).2.1,out (own_blk (h.aU q hq).2.1 k hk) (h.d3 q hq k hk).2.2⟩
  ·simp only [List.mem_singleton] at hq
   subst hq
   exact ⟨(hpl k hk).1,(hpl k hk).2.1,out (own_blk hpu.1 k hk) (hpl k hk).2.2⟩

/-- The items for good are those to go on with. -/
theorem Rec.share {w:World} {rb B0:Nat} {w1:World} {vN iN vU iU:Value} {ds us:List DeedQ} {xs ys:List ItemD} (h:Rec w rb B0 w1 vN iN vU iU ds us xs ys) (hrb:rb < B0):Rec w rb B0 (w1.setCell ⟨rb,3,none⟩ iN) vN iN vU iN ds us xs xs:=by
 have hO:=Out.setCell w1 rb 3 iN
 have nF:∀ {k},B0≤k→k ∉ [rb]:=fun hk hm=>by simp only [List.mem_singleton] at hm;omega
 refine ⟨?_,own_outs h.oN hO (fun k hk=>nF (h.lN k hk)),h.aN,own_outs h.oU hO (fun k hk=>nF (h.lU k hk)),fun p hp=>⟨(h.aU p hp).1,(h.aU p hp).2.out hO (fun k hk=>by rw [undoK_fp] at hk;exact nF (h.d3 p hp k hk).1)⟩,h.jN.out hO (fun k hk=>by rw [itemK_fp] at hk;exact nF (h.d1 k hk).1),h.jN.out hO (fun k hk=>by rw [itemK_fp] at hk;exact nF (h.d1 k hk).1),h.nu,h.lN,h.lU,h.d1,h.d1,h.d3⟩
 have:=h.B.set 3 iN
 simpa using this

end Go.Proofs.YtfdkcbafpiojkaaGreatDoor
namespace Go.Proofs.YtfdkcbafpiojkaaGreatDoor
open Go.RowKit
open Go.BigFrame
set_option maxRecDepth 100000
def stF (a b:TxnD):Bool:=(a.id == b.id) || ((a.session == b.session) && (a.seq == b.seq))

def knw (acc:List TxnD) (t:TxnD):Bool:=acc.any (fun a=>stF a t)

def txnNo' : TxnD:=⟨0,0,0,[]⟩

theorem txn_get (xs:List TxnQ) (k:Nat) (hk:k < xs.length):(xs.map TxnQ.e).getD k txnNo' = TxnQ.e xs[k]:=by simp [List.getD,hk]

theorem knw_yes {acc:List TxnD} {t:TxnD} (k:Nat) (hk:k < acc.length) (h:stF (acc.getD k txnNo') t=true):knw acc t=true:=by
 unfold knw
 rw [List.any_eq_true]
 exact ⟨acc[k],List.getElem_mem hk,by simpa [List.getD,hk] using h⟩

theorem knw_no {acc:List TxnD} {t:TxnD} (h:∀ j,j < acc.length→stF (acc.getD j txnNo') t=false):knw acc t=false:=by
 cases hc:knw acc t with
 | false=>rfl
 | true=>
  unfold knw at hc
  rw [List.any_eq_true] at hc
  obtain ⟨x,hx,hs⟩:=hc
  obtain ⟨j,hj,rfl⟩:=List.getElem_of_mem hx
  have:=h j hj
  have e:acc.getD j txnNo' = acc[j]:=by simp [List.getD,hj]
  rw [e,hs] at this
  exact absurd this (by decide)

set_option maxHeartbeats 4000000 in
theorem l7Known_any (v:Value) (acc:List TxnQ) (b o:Nat) (x:TxnD) (va:Value) (w:World) (h:txnK.At w v acc) (hB:Box4 w b o (.int .i64 x.id) (.int .i64 x.session) (.int .i64 x.seq) va) (hl:acc.length≤1048576) :
  Calls Tryz.prog 129 #[v,.pointer (some ⟨b,o,none⟩)] w fun e w' => e=.returned (.bool (knw (acc.map TxnQ.e) x))∧Below w.heap.size w w' := by
 obtain ⟨a,cap,rfl⟩:=h.shape
 obtain ⟨d0,d1,d2,d3⟩:=hB
 generalize hE:knw (acc.map TxnQ.e) x=E
 have HE:Hid (knw (acc.map TxnQ.e) x=E):=hE
 clear hE
 obtain ⟨xi,xs,xq,xa⟩:=x
 dsimp only at d0 d1 d2 d3
 go_enter Tryz.func129,Tryz.ntmps129
 go_wp2
 go_loopw [5] (fun j wr=>∃ k m:Nat,k≤acc.length∧j=.int .i64 k∧wr=w.drewN m∧Hid (∀ j,j < k→stF ((acc.map TxnQ.e).getD j txnNo') ⟨xi,xs,xq,xa⟩=false)) (fun j _=>acc.length - (intOf j).toNat)
 case atStart=>exact ⟨0,0,Nat.zero_le _,rfl,rfl,fun j hj=>absurd hj (Nat.not_lt_zero _)⟩
 case round=>
  obtain ⟨k,m,hk,rfl,rfl,HA⟩:=hrel
  by_cases hlt:k < acc.length
  ·obtain ⟨b',off,rfl,hbs,hc,hrd⟩:=h.cell (by decide) k hlt
   have hc' : ∀ j x,(txnK.cells acc[k])[j]? = some x→w.cell? ⟨b',off + k * 4 + j,none⟩=some x:=hc
   have c0:=hc' 0 (.int .i64 acc[k].i) rfl
   have c1:=hc' 1 (.int .i64 acc[k].s) rfl
   have c2:=hc' 2 (.int .i64 acc[k].q) rfl
   rw [Nat.add_zero] at c0
   have HY:Hid (stF (TxnQ.e acc[k]) ⟨xi,xs,xq,xa⟩=true→E=true):=fun hx=>by rw [← HE.out];exact knw_yes k (by simpa using hlt) (by rw [txn_get acc k hlt];exact hx)
   have HN:Hid (stF (TxnQ.e acc[k]) ⟨xi,xs,xq,xa⟩=false→∀ j,j < k + 1→stF ((acc.map TxnQ.e).getD j txnNo') ⟨xi,xs,xq,xa⟩=false):=fun hx j hj=>by
    by_cases hjm:j=k
    ·subst hjm
     rw [txn_get acc j hlt]
     exact hx
    ·exact HA.out j (by omega)
   clear HA hc hc' hrd
   generalize acc[k]=p at *
   obtain ⟨i,s,q,va',acts⟩:=p
   dsimp only [TxnQ.e,stF] at c0 c1 c2 HY HN
   have hlti:(k:Int) < (acc.length:Int):=by omega
   cases h1:(i == xi)
   ·cases h2:(s == xs)
    ·have HR:=HN.out (by rw [h1,h2];rfl)
     have HR' : Hid _:=HR
     clear HY HN HR
     go_wp2
     go_quiet (fail)
     go_wp2
     go_roundw
     case rel=>exact ⟨k + 1,_,by omega,by go_num,rfl,HR'.out⟩
     case measure=>simp [intOf];omega
    ·cases h3:(q == xq)
     ·have HR:=HN.out (by rw [h1,h2,h3];rfl)
      have HR' : Hid _:=HR
      clear HY HN HR
      go_wp2
      go_quiet (fail)
      go_wp2
      go_roundw
      case rel=>exact ⟨k + 1,_,by omega,by go_num,rfl,HR'.out⟩
      case measure=>simp [intOf];omega
     ·have E1:Hid (E=true):=HY.out (by rw [h1,h2,h3];rfl)
      clear HY HN
      go_wp2
      go_quiet (fail)
      go_wp2
      go_ret
      rw [E1.out]
      exact ⟨rfl,⟨rfl,rfl,rfl,Nat.le_refl _,fun _ _=>rfl⟩⟩
   ·have E1:Hid (E=true):=HY.out (by rw [h1];rfl)
    clear HY HN
    go_wp2
    go_quiet (fail)
    go_wp2
    go_ret
    rw [E1.out]
    exact ⟨rfl,⟨rfl,rfl,rfl,Nat.le_refl _,fun _ _=>rfl⟩⟩
  ·have E1:Hid (E=false):=by rw [← HE.out];exact knw_no (fun j hj=>HA.out j (by simp at hj;omega))
   have hlti:¬ (k:Int) < (acc.length:Int):=by omega
   clear HA HE
   go_wp2
   go_ret
   rw [E1.out]
   exact ⟨rfl,⟨rfl,rfl,rfl,Nat.le_refl _,fun _ _=>rfl⟩⟩

end Go.Proofs.YtfdkcbafpiojkaaGreatDoor
