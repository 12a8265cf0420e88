/- Texts joined, with what the laws reach alone. -/
import Derived.Test.YtpmkhnakgeillaaGreatDoorSNAY
import Derived.Test.YtpmkhnakgeillaaGreatDoorSNAO
set_option linter.unusedVariables false
set_option linter.unusedSimpArgs false
namespace Go.Proofs.YtpmkhnakgeillaaGreatDoor
open Go.RowKit Go.Maps
set_option maxRecDepth 100000
def nextI (xs:List ItemD) (t:TxnD):List ItemD:=if (runA xs t.acts).1=0 then (runA xs t.acts).2 else xs

def allI:List ItemD→List TxnD→List ItemD
 | xs,[]=>xs
 | xs,t :: r=>allI (nextI xs t) r

def allCd:List ItemD→List TxnD→List Int
 | _,[]=>[]
 | xs,t :: r=>(runA xs t.acts).1 :: allCd (nextI xs t) r

def allVl:List ItemD→List TxnD→List Int
 | _,[]=>[]
 | xs,t :: r=>runV xs t.acts :: allVl (nextI xs t) r

theorem nextI_good {xs:List ItemD} {t:TxnD} (hl:xs.length≤8) (g:Good xs) (ht:t.F=0):(nextI xs t).length≤8∧Good (nextI xs t):=by
 unfold nextI
 split
 ·rename_i h;exact run_good hl g (acts_of_F ht).2 h
 ·exact ⟨hl,g⟩

theorem allI_good:∀ {ds:List TxnD} {xs:List ItemD},xs.length≤8→Good xs→(∀ t∈ds,t.F=0)→(allI xs ds).length≤8∧Good (allI xs ds)
 | [],xs,hl,g,_=>⟨hl,g⟩
 | t :: r,xs,hl,g,ht=>by
  obtain ⟨h1,h2⟩:=nextI_good hl g (ht t (by simp))
  exact allI_good (ds:=r) (xs:=nextI xs t) h1 h2 (fun u hu=>ht u (by simp [hu]))

theorem allF_zero:∀ {ds:List TxnD},allF ds=0→∀ t∈ds,t.F=0
 | [],_,t,h=>by simp at h
 | x :: r,h,t,ht=>by
  simp only [allF] at h
  by_cases hx:x.F=0
  ·rw [if_pos hx] at h
   rcases List.mem_cons.1 ht with rfl | ht
   ·exact hx
   ·exact allF_zero h t ht
  ·rw [if_neg hx] at h;exact absurd h hx

theorem ids_zero {ds:List TxnD} (h:idsC ds=0):ds.length≤60∧∀ t∈ds,t.F=0:=by
 have h60:=idsC_few h
 unfold idsC at h
 rw [if_neg (by omega)] at h
 exact ⟨h60,allF_zero h⟩

def eaC (xs:List ItemD) (ds:List TxnD):Int:=if itemsF xs≠0 then itemsF xs else idsC ds

def eaCd (xs:List ItemD) (ds:List TxnD):List Int:=if eaC xs ds=0 then allCd xs ds else []

def eaVl (xs:List ItemD) (ds:List TxnD):List Int:=if eaC xs ds=0 then allVl xs ds else []

def eaI (xs:List ItemD) (ds:List TxnD):List ItemD:=if eaC xs ds=0 then allI xs ds else []

theorem ea_ok {xs:List ItemD} {ds:List TxnD} (h:itemsF xs=0) (h2:idsC ds=0):eaC xs ds=0∧eaCd xs ds=allCd xs ds∧eaVl xs ds=allVl xs ds∧eaI xs ds=allI xs ds:=by
 have e:eaC xs ds=0:=by simp [eaC,h,h2]
 exact ⟨e,by simp [eaCd,e],by simp [eaVl,e],by simp [eaI,e]⟩

theorem drop_txn {ds:List TxnD} {k:Nat} (h:k < ds.length):ds.drop k=ds.getD k txnNo :: ds.drop (k + 1):=by
 have e:ds.getD k txnNo=ds[k]:=by simp [List.getD,h]
 rw [List.drop_eq_getElem_cons h,e]

theorem Apart3.nil:Apart3 (.slice none 0 0) (.slice none 0 0) (.slice none 0 0):=⟨Or.inl rfl,Or.inl rfl,Or.inl rfl⟩

/-- One of the three has grown, in its own block or a new one. -/
theorem Apart3.grow1 {w:World} {s1 s2 s3 s1' : Value} (h:Apart3 s1 s2 s3) (hl:s1'.ownBlock=s1.ownBlock∨s1'.ownBlock=some w.heap.size) (h2:∀ g,s2.ownBlock=some g→g < w.heap.size) (h3:∀ g,s3.ownBlock=some g→g < w.heap.size):Apart3 s1' s2 s3:=by
 rcases hl with e | e
 ·exact ⟨by rw [e];exact h.a12,by rw [e];exact h.a13,h.a23⟩
 ·exact ⟨Or.inr (by rw [e];intro k;have:=h2 _ k.symm;omega),Or.inr (by rw [e];intro k;have:=h3 _ k.symm;omega),h.a23⟩

theorem Apart3.grow2 {w:World} {s1 s2 s3 s2' : Value} (h:Apart3 s1 s2 s3) (hl:s2'.ownBlock=s2.ownBlock∨s2'.ownBlock=some w.heap.size) (h1:∀ g,s1.ownBlock=some g→g < w.heap.size) (h3:∀ g,s3.ownBlock=some g→g < w.heap.size):Apart3 s1 s2' s3:=by
 rcases hl with e | e
 ·exact ⟨by rw [e];exact h.a12,h.a13,by rw [e];exact h.a23⟩
 ·refine ⟨ne_swap (Or.inr ?_),h.a13,Or.inr ?_⟩
  ·rw [e];intro k;have:=h1 _ k.symm;omega
  ·rw [e];intro k;have:=h3 _ k.symm;omega

end Go.Proofs.YtpmkhnakgeillaaGreatDoor
namespace Go.Proofs.YtpmkhnakgeillaaGreatDoor
open Go.RowKit
open Go.BigFrame
set_option maxRecDepth 100000
/-- What comes of each one: its code, its Value, what undoes it. -/
def deedsE:List ItemD→List TxnD→List (TxnD × Int × Int × List UndoD)
 | _,[]=>[]
 | xs,t :: r=>(t,(runA xs t.acts).1,runV xs t.acts,runU xs t.acts) :: deedsE (nextI xs t) r

theorem deeds_snoc:∀ (ds:List TxnD) (xs:List ItemD) (t:TxnD),deedsE xs (ds ++ [t])=deedsE xs ds ++ [(t,(runA (allI xs ds) t.acts).1,runV (allI xs ds) t.acts,runU (allI xs ds) t.acts)]
 | [],_,_=>rfl
 | d :: r,xs,t=>by
  simp only [List.cons_append,deedsE,allI]
  rw [deeds_snoc r]

theorem allI_snoc:∀ (ds:List TxnD) (xs:List ItemD) (t:TxnD),allI xs (ds ++ [t])=nextI (allI xs ds) t
 | [],_,_=>rfl
 | d :: r,xs,t=>by
  simp only [List.cons_append,allI]
  exact allI_snoc r _ t

def DeedQ.t (p:DeedQ):TxnD:=⟨p.i,p.s,p.q,p.acts⟩

def DeedQ.e4 (p:DeedQ):TxnD × Int × Int × List UndoD:=(p.t,p.code,p.val,p.us)

theorem du9 {xs:List ItemD} {t:TxnD} (hl:xs.length≤8) (g:Good xs) (ht:t.F=0):exC xs t.id t.session t.seq t.acts=(runA xs t.acts).1∧exV xs t.id t.session t.seq t.acts=runV xs t.acts∧duU xs t.id t.session t.seq t.acts=runU xs t.acts∧exR xs t.id t.session t.seq t.acts=runR xs t.acts:=by
 have h1:=F_of_good hl g
 have h2:txnF t.id t.session t.seq t.acts=0:=ht
 have e:exC xs t.id t.session t.seq t.acts=(runA xs t.acts).1:=by
  unfold exC
  rw [if_neg (by simp [h1]),if_neg (by simp [h2])]
 refine ⟨e,?_,?_,?_⟩
 ·unfold exV runV;rw [e]
 ·unfold duU runU;rw [e]
 ·unfold exR runR;rw [e]

theorem ownS_kind {e n lo hi:Nat} {w:World} {v:Value} {m:Nat} {xs:List Value} (h:OwnS e n lo hi w v m xs):w.ownsRow 0 e n v m xs∧∀ k∈blk v,lo≤k:=own_zero h.1

theorem nil_items:itemsF ([]:List ItemD)=0:=by decide

theorem nil_good:Good ([]:List ItemD):=(good_of_F nil_items).2

/-- DoUndo of a right transaction at right items. -/
theorem doUndo9 (ia:Option Addr) (ic:Nat) (xs:List ItemD) (i s q:Int) (ta:Option Addr) (tc:Nat) (zs:List ActD) (w:World) (h:itemK.At w (.slice ia xs.length ic) xs) (ht:actK.At w (.slice ta zs.length tc) zs) (hl:xs.length≤8) (g:Good xs) (hF:(⟨i,s,q,zs⟩:TxnD).F=0) :
  Calls Tryz.prog 163 #[.slice ia xs.length ic,.agg #[.int .i64 i,.int .i64 s,.int .i64 q,.slice ta zs.length tc]] w fun e w' => ∃ b c b2 c2,e=.returned (.agg #[.int .i64 (runA xs zs).1,.int .i64 (runV xs zs),.slice b (runU xs zs).length c,.slice b2 (runR xs zs).length c2]) ∧
   undoK.Own w' (.slice b (runU xs zs).length c) (runU xs zs)∧itemK.Own w' (.slice b2 (runR xs zs).length c2) (runR xs zs)∧(∀ k∈blk (.slice b (runU xs zs).length c),w.heap.size≤k)∧(∀ k∈blk (.slice b2 (runR xs zs).length c2),w.heap.size≤k)∧Below w.heap.size w w' := by
 obtain ⟨e1,e2,e3,e4⟩:=du9 (t:=⟨i,s,q,zs⟩) hl g hF
 have hz:=(acts_of_F (show txnF i s q zs=0 from hF)).1
 have hq:=implDoUndo_any ia ic xs i s q ta tc zs w (itemK_at h).2 (actK_at ht).2 (by omega) (by omega)
 dsimp only at e1 e2 e3 e4
 rw [e1,e2,e3,e4] at hq
 refine hq.mono ?_
 rintro e w' ⟨b,c,b2,c2,rfl,hU,hb⟩
 obtain ⟨o1,l1⟩:=ownS_kind hU.o1
 obtain ⟨o2,l2⟩:=ownS_kind hU.o2
 exact ⟨b,c,b2,c2,rfl,⟨o1,fun _ _=>trivial⟩,⟨o2,fun _ _=>trivial⟩,l1,l2,hb⟩

/-- A record in memory: rb is its block, all that it points to lies from B0 on, and its rows are apart from the rest. -/
structure Rec (w:World) (rb B0:Nat) (wr:World) (vN iN vU iU:Value) (ds us:List DeedQ) (xs ys:List ItemD):Prop where
 B:Blk wr rb 158 #[vN,iN,vU,iU]
 oN:wr.ownsRow 0 307 6 vN ds.length ((deedNK w).row ds)
 aN:∀ p∈ds,actK.At w p.va p.acts
 oU:wr.ownsRow 0 163 7 vU us.length ((deedUK w).row us)
 aU:∀ p∈us,actK.At w p.va p.acts∧undoK.Own wr p.lv p.us
 jN:itemK.Own wr iN xs
 jU:itemK.Own wr iU ys
 nu:∀ k∈blk vN,k ∉ blk vU
 lN:∀ k∈blk vN,B0≤k
 lU:∀ k∈blk vU,B0≤k
 d1:∀ k∈blk iN,B0≤k∧k ∉ blk vN∧k ∉ blk vU
 d2:∀ k∈blk iU,B0≤k∧k ∉ blk vN∧k ∉ blk vU
 d3:∀ p∈us,∀ k∈blk p.lv,B0≤k∧k ∉ blk vN∧k ∉ blk vU

theorem Rec.below {w:World} {rb B0:Nat} {wr wr' : World} {vN iN vU iU:Value} {ds us:List DeedQ} {xs ys:List ItemD} (h:Rec w rb B0 wr vN iN vU iU ds us xs ys) (hb:Below wr.heap.size wr wr'):Rec w rb B0 wr' vN iN vU iU ds us xs ys:=
 ⟨h.B.below hb,own_below h.oN hb,h.aN,own_below h.oU hb,fun p hp=>⟨(h.aU p hp).1,(h.aU p hp).2.below hb⟩,h.jN.below hb,h.jU.below hb,h.nu,h.lN,h.lU,h.d1,h.d2,h.d3⟩

theorem blk_new {v v' : Value} {H B0:Nat} (h:v'.ownBlock=v.ownBlock∨∃ g,v'.ownBlock=some g∧H≤g) {k:Nat} (hk:k∈blk v'):k∈blk v∨H≤k:=by
 unfold blk at hk ⊢
 rcases h with h | ⟨g,h,hg⟩
 ·rw [h] at hk;exact Or.inl hk
 ·rw [h] at hk
  simp only [Option.toList,List.mem_singleton] at hk
  subst hk
  exact Or.inr hg

theorem own_blk {w:World} {b e n m:Nat} {v:Value} {xs:List Value} (h:w.ownsRow b e n v m xs):∀ k∈blk v,k < w.heap.size:=fun k hk=>(h.lt k (by simpa [blk] using hk)).2

theorem Rec.addN {w:World} {rb B0:Nat} {w1 w2:World} {vN iN d' : Value} {vU iU i' : Value} {ds us:List DeedQ} {xs ys xs' : List ItemD} {p:DeedQ} (h:Rec w rb B0 w1 vN iN vU iU ds us xs ys) (hrb:rb < B0) (hB:B0≤w1.heap.size) (hp:actK.At w p.va p.acts)
  (hi:itemK.Own w1 i' xs') (hil:∀ k∈blk i',B0≤k∧k ∉ blk vN∧k ∉ blk vU)
  (B:Blk w2 rb 158 #[d',i',vU,iU]) (ho:w2.ownsRow 0 307 6 d' (ds.length + 1) ((deedNK w).row ds ++ (deedNK w).cells p)) (hd:d'.ownBlock=vN.ownBlock∨∃ g,d'.ownBlock=some g∧w1.heap.size≤g) (hO:Out (rb :: blk vN) w1 w2) :
  Rec w rb B0 w2 d' i' vU iU (ds ++ [p]) us xs' ys:=by
 have nF:∀ {k},B0≤k→k ∉ blk vN→k ∉ rb :: blk vN:=fun hk hn hm=>by
  rcases List.mem_cons.1 hm with e | e
  ·omega
  ·exact hn e
 have out:∀ {k},(k < w1.heap.size)→k ∉ blk vN→k ∉ blk d' := fun hk hn hm=>by
  rcases blk_new (B0:=0) hd hm with e | e
  ·exact hn e
  ·omega
 refine ⟨B,by rw [List.length_append,List.length_singleton,Kind.row_snoc];exact ho,?_,own_outs h.oU hO (fun k hk=>nF (h.lU k hk) (fun e=>h.nu k e hk)),?_,?_,?_,?_,?_,h.lU,?_,?_,?_⟩
 ·intro q hq
  rcases List.mem_append.1 hq with hq | hq
  ·exact h.aN q hq
  ·simp only [List.mem_singleton] at hq;subst hq;exact hp
 ·exact fun q hq=>⟨(h.aU q hq).1,(h.aU q hq).2.out hO (fun k hk=>by rw [undoK_fp] at hk;exact nF (h.d3 q hq k hk).1 (h.d3 q hq k hk).2.1)⟩
 ·exact hi.out hO (fun k hk=>by rw [itemK_fp] at hk;exact nF (hil k hk).1 (hil k hk).2.1)
 ·exact h.jU.out hO (fun k hk=>by rw [itemK_fp] at hk;exact nF (h.d2 k hk).1 (h.d2 k hk).2.1)
 ·intro k hk hm
  rcases blk_new (B0:=0) hd hk with e | e
  ·exact h.nu k e hm
  ·have:=own_blk h.oU k hm;omega
 ·intro k hk
  rcases blk_new (B0:=0) hd hk with e | e
  ·exact h.lN k e
  ·omega
 ·exact fun k hk=>⟨(hil k hk).1,out (own_blk hi.1 k hk) (hil k hk).2.1,(hil k hk).2.2⟩
 ·exact fun k hk=>⟨(h.d2 k hk).1,out (own_blk h.jU.1 k hk) (h.d2 k hk).2.1,(h.d2 k hk).2.2⟩
 ·exact fun q hq k hk=>⟨(h.d3 q hq k hk).1,out (own_blk (h.aU q hq).2.1 k hk) (h.d3 q hq k hk).2.1,(h.d3 q hq k hk).2.2⟩

theorem Rec.addU {w:World} {rb B0:Nat} {w1 w2:World} {vN iN d' : Value} {vU iU i' : Value} {ds us:List DeedQ} {xs ys ys' : List ItemD} {p:DeedQ} (h:Rec w rb B0 w1 vN iN vU iU ds us xs ys) (hrb:rb < B0) (hB:B0≤w1.heap.size) (hp:actK.At w p.va p.acts) (hpu:undoK.Own w1 p.lv p.us)
  (hpl:∀ k∈blk p.lv,B0≤k∧k ∉ blk vN∧k ∉ blk vU)
  (hi:itemK.Own w1 i' ys') (hil:∀ k∈blk i',B0≤k∧k ∉ blk vN∧k ∉ blk vU)
  (B:Blk w2 rb 158 #[vN,iN,d',i']) (ho:w2.ownsRow 0 163 7 d' (us.length + 1) ((deedUK w).row us ++ (deedUK w).cells p)) (hd:d'.ownBlock=vU.ownBlock∨∃ g,d'.ownBlock=some g∧w1.heap.size≤g) (hO:Out (rb :: blk vU) w1 w2) :
  Rec w rb B0 w2 vN iN d' i' ds (us ++ [p]) xs ys' := by
 have nF:∀ {k},B0≤k→k ∉ blk vU→k ∉ rb :: blk vU:=fun hk hn hm=>by
  rcases List.mem_cons.1 hm with e | e
  ·omega
  ·exact hn e
 have out:∀ {k},(k < w1.heap.size)→k ∉ blk vU→k ∉ blk d' := fun hk hn hm=>by
  rcases blk_new (B0:=0) hd hm with e | e
  ·exact hn e
  ·omega
 refine ⟨B,own_outs h.oN hO (fun k hk=>nF (h.lN k hk) (h.nu k hk)),h.aN,by rw [List.length_append,List.length_singleton,Kind.row_snoc];exact ho,?_,?_,?_,?_,h.lN,?_,?_,?_,?_⟩
 ·intro q hq
  rcases List.mem_append.1 hq with hq | hq
  ·exact ⟨(h.aU q hq).1,(h.aU q hq).2.out hO (fun k hk=>by rw [undoK_fp] at hk;exact nF (h.d3 q hq k hk).1 (h.d3 q hq k hk).2.2)⟩
  ·simp only [List.mem_singleton] at hq
   subst hq
   exact ⟨hp,hpu.out hO (fun k hk=>by rw [undoK_fp] at hk;exact nF (hpl k hk).1 (hpl k hk).2.2)⟩
 ·exact h.jN.out hO (fun k hk=>by rw [itemK_fp] at hk;exact nF (h.d1 k hk).1 (h.d1 k hk).2.2)
 ·exact hi.out hO (fun k hk=>by rw [itemK_fp] at hk;exact nF (hil k hk).1 (hil k hk).2.2)
 ·intro k hk hm
  rcases blk_new (B0:=0) hd hm with e | e
  ·exact h.nu k hk e
  ·have:=own_blk h.oN k hk;omega
 ·intro k hk
  rcases blk_new (B0:=0) hd hk with e | e
  ·exact h.lU k e
  ·omega
 ·exact fun k hk=>⟨(h.d1 k hk).1,(h.d1 k hk).2.1,out (own_blk h.jN.1 k hk) (h.d1 k hk).2.2⟩
 ·exact fun k hk=>⟨(hil k hk).1,(hil k hk).2.1,out (own_blk hi.1 k hk) (hil k hk).2.2⟩
 ·intro q hq k hk
  rcases List.mem_append.1 hq with hq | hq
  ·exact ⟨(h.d3 q hq k hk).1,(h.d3 q hq k hk).2.1,out (own_blk (h.aU q hq).2.1 k hk) (h.d3 q hq k hk).2.2⟩
  ·simp only [List.mem_singleton] at hq
   subst hq
   exact ⟨(hpl k hk).1,(hpl k hk).2.1,out (own_blk hpu.1 k hk) (hpl k hk).2.2⟩

/-- The items for good are those to go on with. -/
theorem Rec.share {w:World} {rb B0:Nat} {w1:World} {vN iN vU iU:Value} {ds us:List DeedQ} {xs ys:List ItemD} (h:Rec w rb B0 w1 vN iN vU iU ds us xs ys) (hrb:rb < B0):Rec w rb B0 (w1.setCell ⟨rb,3,none⟩ iN) vN iN vU iN ds us xs xs:=by
 have hO:=Out.setCell w1 rb 3 iN
 have nF:∀ {k},B0≤k→k ∉ [rb]:=fun hk hm=>by simp only [List.mem_singleton] at hm;omega
 refine ⟨?_,own_outs h.oN hO (fun k hk=>nF (h.lN k hk)),h.aN,own_outs h.oU hO (fun k hk=>nF (h.lU k hk)),fun p hp=>⟨(h.aU p hp).1,(h.aU p hp).2.out hO (fun k hk=>by rw [undoK_fp] at hk;exact nF (h.d3 p hp k hk).1)⟩,h.jN.out hO (fun k hk=>by rw [itemK_fp] at hk;exact nF (h.d1 k hk).1),h.jN.out hO (fun k hk=>by rw [itemK_fp] at hk;exact nF (h.d1 k hk).1),h.nu,h.lN,h.lU,h.d1,h.d1,h.d3⟩
 have:=h.B.set 3 iN
 simpa using this

end Go.Proofs.YtpmkhnakgeillaaGreatDoor
namespace Go.Proofs.YtpmkhnakgeillaaGreatDoor
open Go.RowKit
open Go.BigFrame
set_option maxRecDepth 100000
theorem keep_cell {F:List Nat} {w:World} {b o:Nat} {v:Value} (h:w.cell? ⟨b,o,none⟩=some v) (hF:b ∉ F):∀ u:KeepP (Out F w),u.val.cell? ⟨b,o,none⟩=some v:=fun u=>by
 have hb:=World.block_lt_of_cell? w _ h
 have e:=u.isP.block b hb hF
 unfold World.cell? at h ⊢
 simp only at h ⊢
 rw [e]
 exact h

theorem take_e (ps:List TxnQ) (k:Nat) (hk:k < ps.length):(ps.map TxnQ.e).take (k + 1)=(ps.map TxnQ.e).take k ++ [TxnQ.e ps[k]]:=by
 rw [List.take_succ_eq_append_getElem (by simpa using hk)]
 simp

theorem step9 {xs:List ItemD} {t:TxnD}:nextI xs t=if (runA xs t.acts).1=0 then runR xs t.acts else xs:=by
 unfold nextI runR
 split <;> simp_all

/-- A record of D for good and E ahead of its time. -/
def RecPost (w w' : World) (vN iN vU iU:Value) (D E:List TxnD):Prop:=∃ (ds us:List DeedQ) (rb B0:Nat),Rec w rb B0 w' vN iN vU iU ds us (allI [] D) (allI (allI [] D) E)∧ds.map DeedQ.e4=deedsE [] D∧us.map DeedQ.e4=deedsE (allI [] D) E∧w.heap.size≤rb∧rb < B0

/-- Another block is written over. -/
theorem Rec.other {w:World} {rb B0 g:Nat} {wr:World} {vN iN vU iU:Value} {ds us:List DeedQ} {xs ys:List ItemD} (h:Rec w rb B0 wr vN iN vU iU ds us xs ys) (hg:g < B0) (hr:rb≠g) (j:Nat) (u:Value):Rec w rb B0 (wr.setCell ⟨g,j,none⟩ u) vN iN vU iU ds us xs ys:=by
 have hO:=Out.setCell wr g j u
 have nF:∀ {k},B0≤k→k ∉ [g]:=fun hk hm=>by simp only [List.mem_singleton] at hm;omega
 exact ⟨h.B.other hr j u,own_outs h.oN hO (fun k hk=>nF (h.lN k hk)),h.aN,own_outs h.oU hO (fun k hk=>nF (h.lU k hk)),fun p hp=>⟨(h.aU p hp).1,(h.aU p hp).2.out hO (fun k hk=>by rw [undoK_fp] at hk;exact nF (h.d3 p hp k hk).1)⟩,h.jN.out hO (fun k hk=>by rw [itemK_fp] at hk;exact nF (h.d1 k hk).1),h.jU.out hO (fun k hk=>by rw [itemK_fp] at hk;exact nF (h.d2 k hk).1),h.nu,h.lN,h.lU,h.d1,h.d2,h.d3⟩

set_option maxRecDepth 100000 in
set_option maxHeartbeats 8000000 in
theorem recordOf_any (v1 v2:Value) (ps qs:List TxnQ) (w:World) (h1:txnK.At w v1 ps) (h2:txnK.At w v2 qs) (hF1:∀ p∈ps,(TxnQ.e p).F=0) (hF2:∀ p∈qs,(TxnQ.e p).F=0) (hl1:ps.length≤40) (hl2:qs.length≤40) :
  Calls Tryz.prog 105 #[v1,v2] w fun e w' => ∃ (vN iN vU iU:Value),e=.returned (.agg #[vN,iN,vU,iU])∧RecPost w w' vN iN vU iU (ps.map TxnQ.e) (qs.map TxnQ.e)∧Below w.heap.size w w' := by
 obtain ⟨a1,k1,rfl⟩:=h1.shape
 obtain ⟨a2,k2,rfl⟩:=h2.shape
 have hb0:Below w.heap.size w ((w.alloc (.cells #[.slice none 0 0,.slice none 0 0,.slice none 0 0,.slice none 0 0] 158)).alloc (.cells #[.slice none 0 0,.slice none 0 0,.slice none 0 0,.slice none 0 0] 158)):=by go_grown
 have R0:=(Blk.new w 158 #[.slice none 0 0,.slice none 0 0,.slice none 0 0,.slice none 0 0]).below (w' := (w.alloc (.cells #[.slice none 0 0,.slice none 0 0,.slice none 0 0,.slice none 0 0] 158)).alloc (.cells #[.slice none 0 0,.slice none 0 0,.slice none 0 0,.slice none 0 0] 158)) (by go_grown)
 have B:=Blk.new (w.alloc (.cells #[.slice none 0 0,.slice none 0 0,.slice none 0 0,.slice none 0 0] 158)) 158 #[.slice none 0 0,.slice none 0 0,.slice none 0 0,.slice none 0 0]
 rw [World.size_alloc] at B
 have hsz:w.heap.size + 2≤((w.alloc (.cells #[.slice none 0 0,.slice none 0 0,.slice none 0 0,.slice none 0 0] 158)).alloc (.cells #[.slice none 0 0,.slice none 0 0,.slice none 0 0,.slice none 0 0] 158)).heap.size:=by simp only [World.size_alloc];omega
 have hn:∀ k∈blk (Value.slice none 0 0),False:=fun k hk=>by simp [blk,Value.ownBlock] at hk
 have Rz:Rec w (w.heap.size + 1) (w.heap.size + 2) ((w.alloc (.cells #[.slice none 0 0,.slice none 0 0,.slice none 0 0,.slice none 0 0] 158)).alloc (.cells #[.slice none 0 0,.slice none 0 0,.slice none 0 0,.slice none 0 0] 158)) (.slice none 0 0) (.slice none 0 0) (.slice none 0 0) (.slice none 0 0) [] [] [] []:=
  ⟨B,World.ownsRow_nil _ _ _ _,fun p hp=>by simp at hp,World.ownsRow_nil _ _ _ _,fun p hp=>by simp at hp,(Kind.own_nil _).1,(Kind.own_nil _).1,fun k hk=>(hn k hk).elim,fun k hk=>(hn k hk).elim,fun k hk=>(hn k hk).elim,fun k hk=>(hn k hk).elim,fun k hk=>(hn k hk).elim,fun p hp=>by simp at hp⟩
 clear B
 have hlen1:(ps.length:Int)≤40:=by omega
 have hlen2:(qs.length:Int)≤40:=by omega
 go_enter Tryz.func105,Tryz.ntmps105
 go_wp2
 generalize (w.alloc (.cells #[.slice none 0 0,.slice none 0 0,.slice none 0 0,.slice none 0 0] 158)).alloc (.cells #[.slice none 0 0,.slice none 0 0,.slice none 0 0,.slice none 0 0] 158)=W0 at *
 have H0:Hid (([]:List DeedQ).map DeedQ.e4=deedsE [] ((ps.map TxnQ.e).take 0)∧([]:List ItemD)=allI [] ((ps.map TxnQ.e).take 0)∧([]:List ItemD).length≤8∧Good ([]:List ItemD)):=⟨rfl,rfl,by simp,nil_good⟩
 go_loopw [13] (fun j wr=>∃ (k:Nat) (vN iN:Value) (ds:List DeedQ) (xs:List ItemD),k≤ps.length∧j=.int .i64 k∧Rec w (w.heap.size + 1) (w.heap.size + 2) wr vN iN (.slice none 0 0) (.slice none 0 0) ds [] xs []∧Hid (ds.map DeedQ.e4=deedsE [] ((ps.map TxnQ.e).take k)∧xs=allI [] ((ps.map TxnQ.e).take k)∧xs.length≤8∧Good xs)∧Blk wr w.heap.size 158 #[.slice none 0 0,.slice none 0 0,.slice none 0 0,.slice none 0 0]∧Below w.heap.size w wr∧w.heap.size + 2≤wr.heap.size) (fun j _=>ps.length - (intOf j).toNat)
 case atStart=>exact ⟨0,_,_,[],[],Nat.zero_le _,rfl,Rz,H0,R0,hb0,hsz⟩
 case round=>
  clear Rz H0 R0 hb0 hsz hn
  obtain ⟨k,vN,iN,ds,xs,hk,rfl,R,HD,R0,hb,hsz⟩:=hrel
  obtain ⟨ia,ic,rfl⟩:=R.jN.shape
  by_cases hlt:k < ps.length
  ·obtain ⟨b,off,rfl,hbs,hcm,hrd⟩:=(h1.below hb).cell (by decide) k hlt
   have hc' : ∀ j x,(txnK.cells ps[k])[j]? = some x→wr.cell? ⟨b,off + k * 4 + j,none⟩=some x:=hcm
   have c0:=hc' 0 (.int .i64 ps[k].i) rfl
   have c1:=hc' 1 (.int .i64 ps[k].s) rfl
   have c2:=hc' 2 (.int .i64 ps[k].q) rfl
   have c3:=hc' 3 (ps[k].va) rfl
   rw [Nat.add_zero] at c0
   have hr0:txnK.rd w ps[k]:=h1.rdm (List.getElem_mem hlt)
   have hF0:=hF1 ps[k] (List.getElem_mem hlt)
   have HTK:=take_e ps k hlt

   have hlti:(k:Int) < (ps.length:Int):=by omega
   have HDL:Hid (ds.length=k):=by
    have:=congrArg List.length HD.out.1
    have e:∀ (xs:List ItemD) (l:List TxnD),(deedsE xs l).length=l.length:=fun xs l=>by
     induction l generalizing xs with
     | nil=>rfl
     | cons t r ih=>simp [deedsE,ih]
    rw [List.length_map,e,List.length_take,List.length_map] at this
    show ds.length=k
    omega
   clear hcm hc'
   generalize ps[k]=p at *
   obtain ⟨i,s,q,va,acts⟩:=p
   replace hrd:actK.At wr va acts:=hrd
   replace hr0:actK.At w va acts:=hr0
   obtain ⟨ta,tc,rfl⟩:=hrd.shape
   dsimp only [TxnQ.e] at c0 c1 c2 c3 hF0 HTK
   have hbA:Below wr.heap.size wr (wr.alloc (.cells #[.int .i64 i,.int .i64 s,.int .i64 q,.slice ta acts.length tc] 39)):=by go_grown
   have Bt:=Blk.new wr 39 #[.int .i64 i,.int .i64 s,.int .i64 q,.slice ta acts.length tc]
   have R1:=R.below hbA
   replace R0:=R0.below hbA
   replace hrd:=hrd.below hbA
   replace hb:=hb.trans (hbA.mono hb.size)
   have hNlt:∀ x∈blk vN,x < wr.heap.size:=own_blk R.oN
   have hs1:=hbA.size
   go_wp2_with fail
   clear c0 c1 c2 c3 hbA
   generalize hX:wr.alloc (.cells #[.int .i64 i,.int .i64 s,.int .i64 q,.slice ta acts.length tc] 39)=X at *
   generalize hT:wr.heap.size=tb at *
   clear hX R
   have hFt:tb ∉ (w.heap.size + 1) :: blk vN:=fun hm=>by
    rcases List.mem_cons.1 hm with e | e
    ·omega
    ·have:=hNlt _ e;omega
   have t0:=keep_cell (Bt.cell 0 _ rfl) hFt
   have t1:=keep_cell (Bt.cell 1 _ rfl) hFt
   have t2:=keep_cell (Bt.cell 2 _ rfl) hFt
   have t3:=keep_cell (Bt.cell 3 _ rfl) hFt
   have hS0:Out ((w.heap.size + 1) :: blk vN) X X.drew:=Out.of_below (Below.refl _ _).drew
   have hW:Below X.heap.size X X.drew:=(Below.refl _ _).drew
   have hne:Nonempty (KeepP (Out ((w.heap.size + 1) :: blk vN) X)):=⟨⟨X,Out.refl _ _⟩⟩
   refine text_begin (S:=fun w' => ∃ u:KeepP (Out ((w.heap.size + 1) :: blk vN) X),w' = u.val) (by kernel_rfl) ?_
   refine seg_range [(0,4),(5,1),(7,1)] 3 (by kernel_rfl) (by kernel_rfl) (by kernel_rfl) (by kernel_rfl) (by kernel_rfl) ⟨⟨_,hS0⟩,rfl⟩ ?_
   simp only [pickR,List.toList_toArray,List.flatMap_cons,List.flatMap_nil,List.drop_succ_cons,List.drop_zero,List.take_succ_cons,List.take_zero,List.cons_append,List.nil_append,List.append_nil]
   repeat go_big_quiet_step (fail)
   refine wpQuiet_nil ?_
   clear t0 t1 t2 t3 hne
   have r1:=(R1.B.below hW).cell 1 _ rfl
   refine one_at 4 _ 2 (by kernel_rfl) rfl (by kernel_rfl) ?_
   go_wp2
   clear r1
   refine ThenGo.to ⟨⟨⟨_,hS0⟩,rfl⟩,?_⟩
   refine call_at 6 (some 23) 163 #[.slice ia xs.length ic,.agg #[.int .i64 i,.int .i64 s,.int .i64 q,.slice ta acts.length tc]] 1 (by kernel_rfl) (by kernel_rfl) (by kernel_rfl) (by kernel_rfl) (by kernel_rfl) ?_
   refine (doUndo9 ia ic xs i s q ta tc acts _ (R1.jN.at.below hW) (hrd.below hW) HD.out.2.2.1 HD.out.2.2.2 hF0).mono ?_
   rintro e w5 ⟨ub,uc,jb,jc,rfl,ou,oi,lu,li,hb5⟩
   have hlu:∀ x∈blk (.slice jb (runR xs acts).length jc),X.heap.size≤x:=fun x hx=>Nat.le_trans hW.size (li x hx)
   replace hW:=hW.trans (hb5.mono hW.size)
   refine ⟨_,rfl,⟨⟨_,Out.of_below hW⟩,rfl⟩,?_⟩
   simp only [Act.put,List.setIfInBounds_toArray,List.set_cons_zero,List.set_cons_succ]
   have R5:=R1.below hW
   have hXs:=hW.size
   have hil:∀ x∈blk (.slice jb (runR xs acts).length jc),w.heap.size + 2≤x∧x ∉ blk vN∧x ∉ blk (Value.slice none 0 0):=fun x hx=>by
    have:=hlu x hx
    exact ⟨by omega,fun e=>by have:=hNlt x e;omega,by simp [blk,Value.ownBlock]⟩
   have HNX:Hid ((ds ++ [(⟨i,s,q,.slice ta acts.length tc,acts,(runA xs acts).1,runV xs acts,.slice none 0 0,runU xs acts⟩:DeedQ)]).map DeedQ.e4=deedsE [] ((ps.map TxnQ.e).take (k + 1))∧nextI xs ⟨i,s,q,acts⟩=allI [] ((ps.map TxnQ.e).take (k + 1))∧(nextI xs ⟨i,s,q,acts⟩).length≤8∧Good (nextI xs ⟨i,s,q,acts⟩)):=by
    obtain ⟨d1,d2,d3,d4⟩:=HD.out
    have g:=nextI_good d3 d4 hF0
    rw [HTK,deeds_snoc,allI_snoc,← d2,List.map_append,d1]
    exact ⟨rfl,rfl,g.1,g.2⟩
   have hnx:=step9 (xs:=xs) (t:=⟨i,s,q,acts⟩)
   dsimp only at hnx
   refine call_at 8 (some 25) 162 #[.pointer (some ⟨w.heap.size + 1,0,none⟩),.agg #[.int .i64 i,.int .i64 s,.int .i64 q,.slice ta acts.length tc],.agg #[.int .i64 (runA xs acts).1,.int .i64 (runV xs acts),.slice ub (runU xs acts).length uc,.slice jb (runR xs acts).length jc],.agg #[]] 0 (by kernel_rfl) (by kernel_rfl) (by kernel_rfl) (by kernel_rfl) (by kernel_rfl) ?_
   refine (addN_any (w.heap.size + 1) vN (.slice ia xs.length ic) (.slice none 0 0) (.slice none 0 0) ds.length _ i s q (.slice ta acts.length tc) _ _ _ jb _ jc w5 R5.B R5.oN (fun e=>by have:=R5.lN _ e;omega) (by have:=HDL.out;omega) rfl).mono ?_
   rintro e w6 ⟨rfl,d1,B6,o6,hd6,hO6⟩
   have hs6:=hO6.size
   refine ⟨_,rfl,⟨⟨_,(Out.of_below (F:=(w.heap.size + 1) :: blk vN) hW).trans hO6⟩,rfl⟩,?_⟩
   simp only [Act.put,List.setIfInBounds_toArray,List.set_cons_zero,List.set_cons_succ]
   refine text_end (by kernel_rfl) ?_
   have hin:itemK.Own w5 (if (runA xs acts).1=0 then .slice jb (runR xs acts).length jc else .slice ia xs.length ic) (nextI xs ⟨i,s,q,acts⟩):=by
    rw [hnx]
    by_cases hc:(runA xs acts).1=0
    ·rw [if_pos hc,if_pos hc];exact oi
    ·rw [if_neg hc,if_neg hc];exact R5.jN
   have hil2:∀ x∈blk (if (runA xs acts).1=0 then .slice jb (runR xs acts).length jc else .slice ia xs.length ic),w.heap.size + 2≤x∧x ∉ blk vN∧x ∉ blk (Value.slice none 0 0):=by
    by_cases hc:(runA xs acts).1=0
    ·rw [if_pos hc];exact hil
    ·rw [if_neg hc];exact R5.d1
   have R6:=R5.addN (p:=⟨i,s,q,.slice ta acts.length tc,acts,(runA xs acts).1,runV xs acts,.slice none 0 0,runU xs acts⟩) (by omega) (by omega) hr0 hin hil2 B6 o6 hd6 hO6
   have hb6:Below w.heap.size w w6:=Out.keep (hb.trans (hW.mono hb.size)) hO6 (by omega) (fun x hx=>by
    rcases List.mem_cons.1 hx with e | e
    ·omega
    ·have:=R5.lN x e;omega)
   have R06:=(R0.below hW).outs8 hO6 (fun hx=>by
    rcases List.mem_cons.1 hx with e | e
    ·omega
    ·have:=R5.lN _ e;omega)
   have HR:Hid (_∧_∧_∧_):=⟨R6,R06,hb6,(show w.heap.size + 2≤w6.heap.size by omega)⟩
   clear R6 R06 hb6 R5 R1 R0 hb hin hil2 hil ou oi lu li hb5 hW hO6 hd6 o6 B6 hrd hr0 HD
   go_wp2
   go_roundw
   case rel=>exact ⟨k + 1,d1,_,_,_,by omega,by go_num,HR.out.1,HNX,HR.out.2.1,HR.out.2.2.1,HR.out.2.2.2⟩
   case measure=>simp [intOf];omega
  ·have hkl:k=ps.length:=by omega
   subst hkl
   have hlti:¬ ((ps.length:Int) < (ps.length:Int)):=by omega
   obtain ⟨HD1,HD2,hx8,gx⟩:=HD.out
   rw [List.take_of_length_le (by simp)] at HD1 HD2
   have HE:Hid (ds.map DeedQ.e4=deedsE [] (ps.map TxnQ.e)∧xs=allI [] (ps.map TxnQ.e)):=⟨HD1,HD2⟩
   clear HD HD1 HD2 hlt
   have r1:=R.B.cell 1 _ rfl
   have r3:=R.B.cell 3 _ rfl
   have f3:=R.B.frozen 3
   have Rs:=R.share (by omega)
   have R0s:=R0.other (b' := w.heap.size + 1) (by omega) 3 (.slice ia xs.length ic)
   have hbs:=hb.setCell (p:=⟨w.heap.size + 1,3,none⟩) (by show w.heap.size≤w.heap.size + 1;omega) (.slice ia xs.length ic)
   have hss:w.heap.size + 2≤(wr.setCell ⟨w.heap.size + 1,3,none⟩ (.slice ia xs.length ic)).heap.size:=by simpa using hsz
   go_wp2
   clear r1 r3 f3 R R0 hb hsz
   generalize wr.setCell ⟨w.heap.size + 1,3,none⟩ (.slice ia xs.length ic)=Y at *
   have H0:Hid (([]:List DeedQ).map DeedQ.e4=deedsE xs ((qs.map TxnQ.e).take 0)∧xs=allI xs ((qs.map TxnQ.e).take 0)∧xs.length≤8∧Good xs):=⟨rfl,rfl,hx8,gx⟩
   clear hx8 gx
   go_loopw [34] (fun j wr=>∃ (k:Nat) (vU iU:Value) (us:List DeedQ) (ys:List ItemD),k≤qs.length∧j=.int .i64 k∧Rec w (w.heap.size + 1) (w.heap.size + 2) wr vN (.slice ia xs.length ic) vU iU ds us xs ys∧Hid (us.map DeedQ.e4=deedsE xs ((qs.map TxnQ.e).take k)∧ys=allI xs ((qs.map TxnQ.e).take k)∧ys.length≤8∧Good ys)∧Blk wr w.heap.size 158 #[.slice none 0 0,.slice none 0 0,.slice none 0 0,.slice none 0 0]∧Below w.heap.size w wr∧w.heap.size + 2≤wr.heap.size) (fun j _=>qs.length - (intOf j).toNat)
   case atStart=>exact ⟨0,_,_,[],_,Nat.zero_le _,rfl,Rs,H0,R0s,hbs,hss⟩
   case round=>
    clear Rs H0 R0s hbs hss
    obtain ⟨k,vU,iU,us,ys,hk,rfl,R,HD,R0,hb,hsz⟩:=hrel
    obtain ⟨ja,jc,rfl⟩:=R.jU.shape
    by_cases hlt:k < qs.length
    ·obtain ⟨b,off,rfl,hbs,hcm,hrd⟩:=(h2.below hb).cell (by decide) k hlt
     have hc' : ∀ j x,(txnK.cells qs[k])[j]? = some x→wr.cell? ⟨b,off + k * 4 + j,none⟩=some x:=hcm
     have c0:=hc' 0 (.int .i64 qs[k].i) rfl
     have c1:=hc' 1 (.int .i64 qs[k].s) rfl
     have c2:=hc' 2 (.int .i64 qs[k].q) rfl
     have c3:=hc' 3 (qs[k].va) rfl
     rw [Nat.add_zero] at c0
     have hr0:txnK.rd w qs[k]:=h2.rdm (List.getElem_mem hlt)
     have hF0:=hF2 qs[k] (List.getElem_mem hlt)
     have HTK:=take_e qs k hlt

     have hlti2:(k:Int) < (qs.length:Int):=by omega
     have HDL:Hid (us.length=k):=by
      have:=congrArg List.length HD.out.1
      have e:∀ (xs:List ItemD) (l:List TxnD),(deedsE xs l).length=l.length:=fun xs l=>by
       induction l generalizing xs with
       | nil=>rfl
       | cons t r ih=>simp [deedsE,ih]
      rw [List.length_map,e,List.length_take,List.length_map] at this
      show us.length=k
      omega
     clear hcm hc'
     generalize qs[k]=p at *
     obtain ⟨i,s,q,va,acts⟩:=p
     replace hrd:actK.At wr va acts:=hrd
     replace hr0:actK.At w va acts:=hr0
     obtain ⟨ta,tc,rfl⟩:=hrd.shape
     dsimp only [TxnQ.e] at c0 c1 c2 c3 hF0 HTK
     have hbA:Below wr.heap.size wr (wr.alloc (.cells #[.int .i64 i,.int .i64 s,.int .i64 q,.slice ta acts.length tc] 39)):=by go_grown
     have Bt:=Blk.new wr 39 #[.int .i64 i,.int .i64 s,.int .i64 q,.slice ta acts.length tc]
     have R1:=R.below hbA
     replace R0:=R0.below hbA
     replace hrd:=hrd.below hbA
     replace hb:=hb.trans (hbA.mono hb.size)
     have hNlt:∀ x∈blk vN,x < wr.heap.size:=own_blk R.oN
     have hUlt:∀ x∈blk vU,x < wr.heap.size:=own_blk R.oU
     have hs1:=hbA.size
     have x0:=Bt.cell 0 _ rfl
     have x1:=Bt.cell 1 _ rfl
     have x2:=Bt.cell 2 _ rfl
     have x3:=Bt.cell 3 _ rfl
     have r3:=R1.B.cell 3 _ rfl
     have hdu:=doUndo9 ja jc ys i s q ta tc acts _ R1.jU.at hrd HD.out.2.2.1 HD.out.2.2.2 hF0
     go_wp2_with fail
     clear c0 c1 c2 c3 hbA x0 x1 x2 x3 r3
     generalize hX:wr.alloc (.cells #[.int .i64 i,.int .i64 s,.int .i64 q,.slice ta acts.length tc] 39)=X at *
     generalize hT:wr.heap.size=tb at *
     clear hX R
     refine hdu.mono ?_
     rintro e w5 ⟨ub,uc,jb,jd,rfl,ou,oi,lu,li,hb5⟩
     clear hdu
     have hUC:Below w5.heap.size w5 (w5.alloc (.cells #[.int .i64 (runA ys acts).1,.int .i64 (runV ys acts),.slice ub (runU ys acts).length uc,.slice jb (runR ys acts).length jd] 231)):=by go_grown
     have Bu:=Blk.new w5 231 #[.int .i64 (runA ys acts).1,.int .i64 (runV ys acts),.slice ub (runU ys acts).length uc,.slice jb (runR ys acts).length jd]
     have hs5:=hb5.size
     have hs6:=hUC.size
     have R5:=(R1.below hb5).below hUC
     replace R0:=(R0.below hb5).below hUC
     replace hb:=(hb.trans (hb5.mono hb.size))
     replace hb:=hb.trans (hUC.mono hb.size)
     replace Bt:=(Bt.below hb5).below hUC
     replace ou:=ou.below hUC
     replace oi:=oi.below hUC
     have x0:=Bt.cell 0 _ rfl
     have x1:=Bt.cell 1 _ rfl
     have x2:=Bt.cell 2 _ rfl
     have x3:=Bt.cell 3 _ rfl
     have y0:=Bu.cell 0 _ rfl
     have y1:=Bu.cell 1 _ rfl
     have y2:=Bu.cell 2 _ rfl
     have y3:=Bu.cell 3 _ rfl
     have hil:∀ x∈blk (.slice jb (runR ys acts).length jd),w.heap.size + 2≤x∧x ∉ blk vN∧x ∉ blk vU:=fun x hx=>by
      have:=li x hx
      exact ⟨by omega,fun e=>by have:=hNlt x e;omega,fun e=>by have:=hUlt x e;omega⟩
     have hul:∀ x∈blk (.slice ub (runU ys acts).length uc),w.heap.size + 2≤x∧x ∉ blk vN∧x ∉ blk vU:=fun x hx=>by
      have:=lu x hx
      exact ⟨by omega,fun e=>by have:=hNlt x e;omega,fun e=>by have:=hUlt x e;omega⟩
     have HNX:Hid ((us ++ [(⟨i,s,q,.slice ta acts.length tc,acts,(runA ys acts).1,runV ys acts,.slice ub (runU ys acts).length uc,runU ys acts⟩:DeedQ)]).map DeedQ.e4=deedsE xs ((qs.map TxnQ.e).take (k + 1))∧nextI ys ⟨i,s,q,acts⟩=allI xs ((qs.map TxnQ.e).take (k + 1))∧(nextI ys ⟨i,s,q,acts⟩).length≤8∧Good (nextI ys ⟨i,s,q,acts⟩)):=by
      obtain ⟨d1,d2,d3,d4⟩:=HD.out
      have g:=nextI_good d3 d4 hF0
      rw [HTK,deeds_snoc,allI_snoc,← d2,List.map_append,d1]
      exact ⟨rfl,rfl,g.1,g.2⟩
     have hnx:=step9 (xs:=ys) (t:=⟨i,s,q,acts⟩)
     dsimp only at hnx
     have had:=addU_any (w.heap.size + 1) vU (.slice ja ys.length jc) vN (.slice ia xs.length ic) us.length _ i s q (.slice ta acts.length tc) (runA ys acts).1 (runV ys acts) (.slice ub (runU ys acts).length uc) jb (runR ys acts).length jd ub (runU ys acts).length uc _ R5.B R5.oU (fun e=>by have:=R5.lU _ e;omega) (by have:=HDL.out;omega) rfl
     go_wp2_with fail
     clear x0 x1 x2 x3 y0 y1 y2 y3 Bt Bu hUC hb5
     generalize w5.alloc (.cells #[.int .i64 (runA ys acts).1,.int .i64 (runV ys acts),.slice ub (runU ys acts).length uc,.slice jb (runR ys acts).length jd] 231)=w5a at *
     refine had.mono ?_
     rintro e w6 ⟨rfl,d1,B6,o6,hd6,hO6⟩
     have hs7:=hO6.size
     have hin:itemK.Own w5a (if (runA ys acts).1=0 then .slice jb (runR ys acts).length jd else .slice ja ys.length jc) (nextI ys ⟨i,s,q,acts⟩):=by
      rw [hnx]
      by_cases hc:(runA ys acts).1=0
      ·rw [if_pos hc,if_pos hc];exact oi
      ·rw [if_neg hc,if_neg hc];exact R5.jU
     have hil2:∀ x∈blk (if (runA ys acts).1=0 then .slice jb (runR ys acts).length jd else .slice ja ys.length jc),w.heap.size + 2≤x∧x ∉ blk vN∧x ∉ blk vU:=by
      by_cases hc:(runA ys acts).1=0
      ·rw [if_pos hc];exact hil
      ·rw [if_neg hc];exact R5.d2
     have R6:=R5.addU (p:=⟨i,s,q,.slice ta acts.length tc,acts,(runA ys acts).1,runV ys acts,.slice ub (runU ys acts).length uc,runU ys acts⟩) (by omega) (by omega) hr0 ou hul hin hil2 B6 o6 hd6 hO6
     have hb6:Below w.heap.size w w6:=Out.keep hb hO6 (by omega) (fun x hx=>by
      rcases List.mem_cons.1 hx with e | e
      ·omega
      ·have:=R5.lU x e;omega)
     have R06:=R0.outs8 hO6 (fun hx=>by
      rcases List.mem_cons.1 hx with e | e
      ·omega
      ·have:=R5.lU _ e;omega)
     have HR:Hid (_∧_∧_∧_):=⟨R6,R06,hb6,(show w.heap.size + 2≤w6.heap.size by omega)⟩
     clear R6 R06 hb6 R5 R1 R0 hb hin hil2 hil hul ou oi lu li hO6 hd6 o6 B6 hrd hr0 HD had
     go_wp2
     go_roundw
     case rel=>exact ⟨k + 1,d1,_,_,_,by omega,by go_num,HR.out.1,HNX,HR.out.2.1,HR.out.2.2.1,HR.out.2.2.2⟩
     case measure=>simp [intOf];omega
    ·have hkl:k=qs.length:=by omega
     subst hkl
     have hlti2:¬ ((qs.length:Int) < (qs.length:Int)):=by omega
     obtain ⟨HD1,HD2,_,_⟩:=HD.out
     rw [List.take_of_length_le (by simp)] at HD1 HD2
     obtain ⟨HE1,HE2⟩:=HE.out
     subst HE2
     subst HD2
     clear HD HE hlt
     have r0:=R.B.cell 0 _ rfl
     have r1:=R.B.cell 1 _ rfl
     have r2:=R.B.cell 2 _ rfl
     have r3:=R.B.cell 3 _ rfl
     have z0:=R0.cell 0 _ rfl
     have z1:=R0.cell 1 _ rfl
     have z2:=R0.cell 2 _ rfl
     have z3:=R0.cell 3 _ rfl
     have g0:=R0.frozen 0
     have g1:=R0.frozen 1
     have g2:=R0.frozen 2
     have g3:=R0.frozen 3
     obtain ⟨na,nc,rfl⟩:=own_shape R.oN
     obtain ⟨ua,uc,rfl⟩:=own_shape R.oU
     have RF:Hid (∀ u0 u1 u2 u3:Value,Rec w (w.heap.size + 1) (w.heap.size + 2) ((((wr.setCell ⟨w.heap.size,0,none⟩ u0).setCell ⟨w.heap.size,1,none⟩ u1).setCell ⟨w.heap.size,2,none⟩ u2).setCell ⟨w.heap.size,3,none⟩ u3) _ _ _ _ ds us _ _∧Below w.heap.size w ((((wr.setCell ⟨w.heap.size,0,none⟩ u0).setCell ⟨w.heap.size,1,none⟩ u1).setCell ⟨w.heap.size,2,none⟩ u2).setCell ⟨w.heap.size,3,none⟩ u3)):=fun u0 u1 u2 u3=>
      ⟨(((R.other (by omega) (by omega) 0 u0).other (by omega) (by omega) 1 u1).other (by omega) (by omega) 2 u2).other (by omega) (by omega) 3 u3,(((hb.setCell (p:=⟨w.heap.size,0,none⟩) (Nat.le_refl _) u0).setCell (p:=⟨w.heap.size,1,none⟩) (Nat.le_refl _) u1).setCell (p:=⟨w.heap.size,2,none⟩) (Nat.le_refl _) u2).setCell (p:=⟨w.heap.size,3,none⟩) (Nat.le_refl _) u3⟩
     clear R R0
     go_wp2
     exact bodyPost_ret (v:=.agg #[.slice na ds.length nc,_,.slice ua us.length uc,_]) (by simp [results,Tryz.results105,go_sem,z0,z1,z2,z3]) rfl ⟨_,_,_,_,rfl,⟨ds,us,w.heap.size + 1,w.heap.size + 2,(RF.out _ _ _ _).1,HE1,HD1,by omega,by omega⟩,(RF.out _ _ _ _).2⟩

end Go.Proofs.YtpmkhnakgeillaaGreatDoor
