/- Texts joined, with what the laws reach alone. -/
import Derived.Test.YtjjoahhnkpjolaaGreatDoorCFBC
import Derived.Test.YtjjoahhnkpjolaaGreatDoorCFAT
set_option linter.unusedVariables false
set_option linter.unusedSimpArgs false
namespace Go.Proofs.YtjjoahhnkpjolaaGreatDoor
open Go.RowKit
open Go.BigFrame
set_option maxRecDepth 100000
/-- A block that was there ahead of the record is written over. -/
theorem RecPost.row {w w' : World} {vN iN vU iU:Value} {D E:List TxnD} (h:RecPost w w' vN iN vU iU D E) {g:Nat} (hg:g < w.heap.size) (cs:Array Value):RecPost w (w'.setRow g cs) vN iN vU iU D E:=by
 obtain ⟨ds,us,rb,B0,R,e1,e2,h1,h2⟩:=h
 have hO:=out_row w' g cs
 have nF:∀ {k},B0≤k→k ∉ [g]:=fun hk hm=>by simp only [List.mem_singleton] at hm;omega
 have hrb:rb ∉ [g]:=fun hm=>by simp only [List.mem_singleton] at hm;omega
 exact ⟨ds,us,rb,B0,⟨(hO.block rb R.B.lt hrb).trans R.B,own_outs R.oN hO (fun k hk=>nF (R.lN k hk)),R.aN,own_outs R.oU hO (fun k hk=>nF (R.lU k hk)),fun p hp=>⟨(R.aU p hp).1,(R.aU p hp).2.out hO (fun k hk=>by rw [undoK_fp] at hk;exact nF (R.d3 p hp k hk).1)⟩,R.jN.out hO (fun k hk=>by rw [itemK_fp] at hk;exact nF (R.d1 k hk).1),R.jU.out hO (fun k hk=>by rw [itemK_fp] at hk;exact nF (R.d2 k hk).1),R.nu,R.lN,R.lU,R.d1,R.d2,R.d3⟩,e1,e2,h1,h2⟩

end Go.Proofs.YtjjoahhnkpjolaaGreatDoor
namespace Go.Proofs.YtjjoahhnkpjolaaGreatDoor
open Go.RowKit
set_option maxRecDepth 100000
/-- The fault of a node: what it knows, what is safe, and its replica. -/
def nodF (ds:List InstE) (kn sf:Int) (r:RepE):Int:=
 if ordF ds=0 then (if (0≤kn∧kn≤(decN ds:Int))∧0≤sf∧sf≤kn then (if repF r=0 then (if sameTs r.done (defL ds kn.toNat)=true then 0 else 8) else repF r) else 3) else ordF ds

theorem nod_ways (ds:List InstE) (kn sf:Int) (r:RepE):(ordF ds≠0∧nodF ds kn sf r=ordF ds)∨(ordF ds=0∧¬ (0≤kn∧kn≤(decN ds:Int))∧nodF ds kn sf r=3) ∨
  (ordF ds=0∧(0≤kn∧kn≤(decN ds:Int))∧¬ (0≤sf∧sf≤kn)∧nodF ds kn sf r=3)∨(ordF ds=0∧(0≤kn∧kn≤(decN ds:Int))∧(0≤sf∧sf≤kn)∧repF r≠0∧nodF ds kn sf r=repF r) ∨
  (ordF ds=0∧(0≤kn∧kn≤(decN ds:Int))∧(0≤sf∧sf≤kn)∧repF r=0∧sameTs r.done (defL ds kn.toNat)=false∧nodF ds kn sf r=8) ∨
  (ordF ds=0∧(0≤kn∧kn≤(decN ds:Int))∧(0≤sf∧sf≤kn)∧repF r=0∧sameTs r.done (defL ds kn.toNat)=true∧nodF ds kn sf r=0):=by
 unfold nodF
 by_cases h0:ordF ds=0
 ·by_cases h1:0≤kn∧kn≤(decN ds:Int)
  ·by_cases h2:0≤sf∧sf≤kn
   ·by_cases h3:repF r=0
    ·cases h4:sameTs r.done (defL ds kn.toNat) <;> simp [h0,h1,h2,h3]
    ·simp [h0,h1,h2,h3]
   ·have h12:¬ ((0≤kn∧kn≤(decN ds:Int))∧0≤sf∧sf≤kn):=fun h=>h2 h.2
    right;right;left
    exact ⟨h0,h1,h2,by rw [if_pos h0,if_neg h12]⟩
  ·have h12:¬ ((0≤kn∧kn≤(decN ds:Int))∧0≤sf∧sf≤kn):=fun h=>h1 h.1
   right;left
   exact ⟨h0,h1,by rw [if_pos h0,if_neg h12]⟩
 ·left
  exact ⟨h0,by rw [if_neg h0]⟩

theorem def_len {ds:List InstE} (h:ordF ds=0) (m:Nat):(defL ds m).length≤16:=by
 have h1:=onc_len (takF (ds.take m)) []
 have h2:=tak_len (ds:=ds.take m) (fun x hx=>ord_mem h x (List.mem_of_mem_take hx))
 have h3:=((ord_iff ds).1 h).1.2
 have h4:(ds.take m).length≤ds.length:=by rw [List.length_take];omega
 simp only [List.length_nil,Nat.zero_add] at h1
 unfold defL
 omega

end Go.Proofs.YtjjoahhnkpjolaaGreatDoor
namespace Go.Proofs.YtjjoahhnkpjolaaGreatDoor
open Go.RowKit
open Go.BigFrame
set_option maxRecDepth 100000
set_option maxRecDepth 100000
def nodsF (ds:List InstE):List NodeE→Int
 | []=>0
 | n :: r=>if nodF ds n.kn n.sf n.rep=0 then nodsF ds r else nodF ds n.kn n.sf n.rep

def cluF (c:CluE):Int:=if ordF c.ord=0 then (if c.mem.length=3 then nodsF c.ord c.mem else 2) else ordF c.ord

theorem nods_bad (ds:List InstE) (ns:List NodeE) (k:Nat) (h:k < ns.length) (hb:nodF ds ns[k].kn ns[k].sf ns[k].rep≠0):nodsF ds (ns.drop k)=nodF ds ns[k].kn ns[k].sf ns[k].rep:=by
 rw [List.drop_eq_getElem_cons h,nodsF,if_neg hb]

theorem nods_next (ds:List InstE) (ns:List NodeE) (k:Nat) (h:k < ns.length) (hb:nodF ds ns[k].kn ns[k].sf ns[k].rep=0):nodsF ds (ns.drop k)=nodsF ds (ns.drop (k + 1)):=by
 rw [List.drop_eq_getElem_cons h,nodsF,if_pos hb]

theorem nods_end (ds:List InstE) (ns:List NodeE) (k:Nat) (h:ns.length≤k):nodsF ds (ns.drop k)=0:=by
 rw [List.drop_eq_nil_of_le h,nodsF]

theorem rep_n12 {p q:RepQ} (h:p.e=q.e):p.n=q.n:=by
 have e1:∀ l:List USQ,nmL USQ.n l=nmL List.length (l.map USQ.e):=fun l=>by simp only [nmL,List.map_map];rfl
 have e2:∀ l:List TxnQ,nmL TxnQ.n l=nmL TxnD.n (l.map TxnQ.e):=fun l=>by simp only [nmL,List.map_map];rfl
 simp only [RepQ.e,RepE.mk.injEq] at h
 obtain ⟨h0,h1,h2,h3,h4⟩:=h
 have l0:=congrArg List.length h0
 have l2:=congrArg List.length h2
 have l3:=congrArg List.length h3
 simp only [List.length_map] at l0 l2 l3
 simp only [RepQ.n,e1,e2,h0,h1,h2,h3,h4,l0,l2,l3]

theorem node_n12 {p q:NodeQ} (h:p.e=q.e):p.n=q.n:=rep_n12 (congrArg NodeE.rep h)

theorem nm_map12 {α β:Type} (e:α→β) (n:α→Nat) (hn:∀ a b,e a=e b→n a=n b) (ps qs:List α) (h:ps.map e=qs.map e):ps.length + nmL n ps=qs.length + nmL n qs:=by
 induction ps generalizing qs with
 | nil=>
  cases qs with
  | nil=>rfl
  | cons p r=>simp at h
 | cons q s ih=>
  cases qs with
  | nil=>simp at h
  | cons p r=>
   simp only [List.map_cons,List.cons.injEq] at h
   have h1:=ih r h.2
   have h2:=hn q p h.1
   simp only [nmL,List.map_cons,List.sum_cons,List.length_cons] at h1 ⊢
   omega

theorem clu_n {p q:CluQ} (h:p.e=q.e):p.n=q.n:=by
 simp only [CluQ.e,CluE.mk.injEq] at h
 have a:=nm_map12 InstQ.e InstQ.n (fun _ _=>inst_n) _ _ h.1
 have b:=nm_map12 NodeQ.e NodeQ.n (fun _ _=>node_n12) _ _ h.2
 simp only [CluQ.n]
 omega

end Go.Proofs.YtjjoahhnkpjolaaGreatDoor
namespace Go.Proofs.YtjjoahhnkpjolaaGreatDoor
open Go.RowKit
open Go.BigFrame
set_option maxRecDepth 100000
/-- Lists of transactions, held against each other by kinds. -/
theorem sameTx_k (v v' : Value) (xs ys:List TxnQ) (w:World) (h:txnK.At w v xs) (h' : txnK.At w v' ys) (hl:xs.length + nmL TxnQ.n xs≤1048576) (hl' : ys.length + nmL TxnQ.n ys≤1048576) :
  Calls Tryz.prog 49 #[v,v'] w fun e w' => e=.returned (.bool (sameTs (xs.map TxnQ.e) (ys.map TxnQ.e)))∧Below w.heap.size w w' :=
 implSameTxns_any v v' _ _ w (txnsAt_of' h) (txnsAt_of' h') (by rw [List.length_map,sumA_of'];omega) (by rw [List.length_map,sumA_of'];omega)

theorem sameTxS_k (v v' : Value) (xs ys:List TxnQ) (w:World) (h:txnK.At w v xs) (h' : txnK.At w v' ys) (hl:xs.length + nmL TxnQ.n xs≤1048576) (hl' : ys.length + nmL TxnQ.n ys≤1048576) :
  Calls Tryz.prog 74 #[v,v'] w fun e w' => e=.returned (.bool (sameTs (xs.map TxnQ.e) (ys.map TxnQ.e)))∧Below w.heap.size w w' :=
 specSameTxns_any v v' _ _ w (txnsAt_of' h) (txnsAt_of' h') (by rw [List.length_map,sumA_of'];omega) (by rw [List.length_map,sumA_of'];omega)

theorem l7Dec_k (v:Value) (ps:List InstQ) (w:World) (h:instK.At w v ps) (hl:(ps.length + nmL InstQ.n ps)≤1048576) (h0:ordF (ps.map InstQ.e)=0) :
  Calls Tryz.prog 72 #[v] w fun e w' => e=.returned (.int .i64 (decN (ps.map InstQ.e):Int))∧Below w.heap.size w w' := by
 have h1:=((ord_iff _).1 h0).1
 rw [List.length_map] at h1
 exact l7Decided_any v ps w h hl h1.1 h1.2

theorem l7Def_k (v:Value) (ps:List InstQ) (n:Int) (w:World) (h:instK.At w v ps) (hl:(ps.length + nmL InstQ.n ps)≤1048576) (h0:ordF (ps.map InstQ.e)=0) (hn:0≤n∧n≤(decN (ps.map InstQ.e):Int)) :
  Calls Tryz.prog 75 #[v,.int .i64 n] w fun e w' => ∃ v' qs,e=.returned v' ∧ qs.map TxnQ.e=defL (ps.map InstQ.e) n.toNat∧txnK.Own w' v' qs∧(txnK.fp v' qs).Nodup∧(∀ k∈txnK.fp v' qs,w.heap.size≤k)∧Below w.heap.size w w' := by
 have h1:=((ord_iff _).1 h0).1
 have hm:=ord_mem h0
 have hd:=decN_le (ps.map InstQ.e)
 rw [List.length_map] at h1 hd
 obtain ⟨m,rfl⟩:∃ m:Nat,n=(m:Int):=⟨n.toNat,by omega⟩
 rw [Int.toNat_natCast]
 exact l7Definite_any v ps m w h (fun q hq=>ins_low (hm _ (List.mem_map.2 ⟨q,hq,rfl⟩))) (fun q hq=>bat4 (hm _ (List.mem_map.2 ⟨q,hq,rfl⟩))) (by omega) h1.2 hl

end Go.Proofs.YtjjoahhnkpjolaaGreatDoor
namespace Go.Proofs.YtjjoahhnkpjolaaGreatDoor
open Go.RowKit
open Go.BigFrame
set_option maxRecDepth 100000
/-- Cells that stand in a row within a block. -/
structure Off (w:World) (b o:Nat) (cs:Array Value):Prop where
 lt:b < w.heap.size
 cell:∀ (j:Nat) (x:Value),cs[j]? = some x→w.cell? ⟨b,o + j,none⟩=some x

theorem Off.below {w w' : World} {b o:Nat} {cs:Array Value} (h:Off w b o cs) (hb:Below w.heap.size w w'):Off w' b o cs:=
 ⟨Nat.lt_of_lt_of_le h.lt hb.size,fun j x hx=>(hb.cell (p:=⟨b,o + j,none⟩) h.lt).trans (h.cell j x hx)⟩

theorem Off.cell0 {w:World} {b o:Nat} {cs:Array Value} (h:Off w b o cs) (x:Value) (hx:cs[0]? = some x):w.cell? ⟨b,o,none⟩=some x:=h.cell 0 x hx

theorem Off.lat {w:World} {b o:Nat} {cs:Array Value} (h:Off w b o cs) (j:Nat) (x:Value) (hx:cs[j]? = some x):∀ u:Lat w,u.val.cell? ⟨b,o + j,none⟩=some x:=lat_cell (h.cell j x hx)

theorem Off.lat0 {w:World} {b o:Nat} {cs:Array Value} (h:Off w b o cs) (x:Value) (hx:cs[0]? = some x):∀ u:Lat w,u.val.cell? ⟨b,o,none⟩=some x:=lat_cell (h.cell0 x hx)

set_option maxHeartbeats 4000000 in
theorem l9Same_o (kn_q sf_q:Int) (off:Nat) (b b' : Nat) (p q:RepQ) (w:World) (hP:Blk w b 56 #[p.vd,p.vb,p.vt,p.vu,p.vn]) (hQ:Off w b' off #[.int .i64 kn_q,.int .i64 sf_q,q.vd,q.vb,q.vt,q.vu,q.vn]) (h:repK.rd w p) (h' : repK.rd w q) (hl:p.n≤1048576) (hl' : q.n≤1048576) :
  Calls Tryz.prog 118 #[.pointer (some ⟨b,0,none⟩),.pointer (some ⟨b',off + 2,none⟩)] w fun e w' => e=.returned (.bool (sameRep p.e q.e))∧Below w.heap.size w w' := by
 obtain ⟨pvd,pd,pvb,pb,pvt,pt,pvu,pu,pvn,pn⟩:=p
 obtain ⟨p0,p5,rfl⟩:∃ a c,pvd=.slice a pd.length c:=h.1.shape
 obtain ⟨p1,p6,rfl⟩:∃ a c,pvb=.slice a pb.length c:=h.2.1.shape
 obtain ⟨p2,p7,rfl⟩:∃ a c,pvt=.slice a pt.length c:=h.2.2.1.shape
 obtain ⟨p3,p8,rfl⟩:∃ a c,pvu=.slice a pu.length c:=h.2.2.2.1.shape
 obtain ⟨p4,p9,rfl⟩:∃ a c,pvn=.slice a pn.length c:=h.2.2.2.2.shape
 obtain ⟨qvd,qd,qvb,qb,qvt,qt,qvu,qu,qvn,qn⟩:=q
 obtain ⟨q0,q5,rfl⟩:∃ a c,qvd=.slice a qd.length c:=h'.1.shape
 obtain ⟨q1,q6,rfl⟩:∃ a c,qvb=.slice a qb.length c:=h'.2.1.shape
 obtain ⟨q2,q7,rfl⟩:∃ a c,qvt=.slice a qt.length c:=h'.2.2.1.shape
 obtain ⟨q3,q8,rfl⟩:∃ a c,qvu=.slice a qu.length c:=h'.2.2.2.1.shape
 obtain ⟨q4,q9,rfl⟩:∃ a c,qvn=.slice a qn.length c:=h'.2.2.2.2.shape
 dsimp only [RepQ.n] at hl hl'
 have c0:=fun w h h' => specSameTxns_any (.slice p0 pd.length p5) (.slice q0 qd.length q5) (pd.map TxnQ.e) (qd.map TxnQ.e) w (txnsAt_of' h) (txnsAt_of' h') (by rw [List.length_map,sumA_of'];omega) (by rw [List.length_map,sumA_of'];omega)
 have c1:=fun w h h' => specSameItems_any p1 q1 p6 q6 pb qb w h h' (by omega) (by omega)
 have c2:=fun w h h' => specSameTxns_any (.slice p2 pt.length p7) (.slice q2 qt.length q7) (pt.map TxnQ.e) (qt.map TxnQ.e) w (txnsAt_of' h) (txnsAt_of' h') (by rw [List.length_map,sumA_of'];omega) (by rw [List.length_map,sumA_of'];omega)
 have c3:=fun w h h' => l9SameUndos_any (.slice p3 pu.length p8) (.slice q3 qu.length q8) pu qu w h h' (by omega) (by omega)
 have c4:=fun w h h' => specSameItems_any p4 q4 p9 q9 pn qn w h h' (by omega) (by omega)
 obtain ⟨r0,r1,r2,r3,r4⟩:txnK.At w (.slice p0 pd.length p5) pd∧itemK.At w (.slice p1 pb.length p6) pb∧txnK.At w (.slice p2 pt.length p7) pt∧ussK.At w (.slice p3 pu.length p8) pu∧itemK.At w (.slice p4 pn.length p9) pn:=h
 obtain ⟨s0,s1,s2,s3,s4⟩:txnK.At w (.slice q0 qd.length q5) qd∧itemK.At w (.slice q1 qb.length q6) qb∧txnK.At w (.slice q2 qt.length q7) qt∧ussK.At w (.slice q3 qu.length q8) qu∧itemK.At w (.slice q4 qn.length q9) qn:=h'
 replace r1:=(itemK_at r1).2
 replace r4:=(itemK_at r4).2
 replace s1:=(itemK_at s1).2
 replace s4:=(itemK_at s4).2
 have E:Hid (sameRep ⟨pd.map TxnQ.e,pb,pt.map TxnQ.e,pu.map USQ.e,pn⟩ ⟨qd.map TxnQ.e,qb,qt.map TxnQ.e,qu.map USQ.e,qn⟩=(sameTs (pd.map TxnQ.e) (qd.map TxnQ.e) && (sameIs pb qb && (sameTs (pt.map TxnQ.e) (qt.map TxnQ.e) && (sameUss (pu.map USQ.e) (qu.map USQ.e) && sameIs pn qn))))):=show _=_ from rfl
 dsimp only [RepQ.e]
 generalize sameTs (pd.map TxnQ.e) (qd.map TxnQ.e)=X0 at *
 generalize sameIs pb qb=X1 at *
 generalize sameTs (pt.map TxnQ.e) (qt.map TxnQ.e)=X2 at *
 generalize sameUss (pu.map USQ.e) (qu.map USQ.e)=X3 at *
 generalize sameIs pn qn=X4 at *
 generalize sameRep ⟨pd.map TxnQ.e,pb,pt.map TxnQ.e,pu.map USQ.e,pn⟩ ⟨qd.map TxnQ.e,qb,qt.map TxnQ.e,qu.map USQ.e,qn⟩=S at *
 have f0:=hP.lat 0 _ rfl
 have g0:=hQ.lat 2 _ rfl
 have f1:=hP.lat 1 _ rfl
 have g1:=hQ.lat 3 _ rfl
 have f2:=hP.lat 2 _ rfl
 have g2:=hQ.lat 4 _ rfl
 have f3:=hP.lat 3 _ rfl
 have g3:=hQ.lat 5 _ rfl
 have f4:=hP.lat 4 _ rfl
 have g4:=hQ.lat 6 _ rfl
 have hW:Below w.heap.size w w.drew:=(Below.refl _ _).drew
 have hnn:Nonempty (Lat w):=⟨⟨w,Below.refl _ _⟩⟩
 go_enter Tryz.func118,Tryz.ntmps118
 go_wp2_with fail
 refine text_begin (S:=fun w' => ∃ u:Lat w,w' = u.val) (by kernel_rfl) ?_
 refine sgr [(0,8)] 46 (by kernel_rfl) ⟨⟨_,hW⟩,rfl⟩ ?_
 simp only [pkE]
 repeat go_big_quiet_step (fail)
 refine wpQuiet_nil ?_
 refine cla 8 (some 13) 74 #[.slice p0 pd.length p5,.slice q0 qd.length q5] 45 (by kernel_rfl) ?_
 refine (c0 _ (r0.below hW) (s0.below hW)).mono ?_
 rintro e w9 ⟨rfl,hb9⟩
 replace hW:=hW.trans (hb9.mono hW.size)
 clear hb9
 refine ⟨_,rfl,⟨⟨_,hW⟩,rfl⟩,?_⟩
 simp only [Act.put,pjE]
 cases X0
 all_goals
  refine sgr [(9,9)] 36 (by kernel_rfl) ⟨⟨_,hW⟩,rfl⟩ ?_
  simp only [pkE]
  repeat go_big_quiet_step (fail)
  refine wpQuiet_nil ?_
 focus
  refine ska 18 (some 23) 35 (by kernel_rfl) ⟨⟨_,hW⟩,rfl⟩ ?_
  simp only [Act.put,pjE]
 rotate_left
 focus
  refine cla 18 (some 23) 74 #[.slice p2 pt.length p7,.slice q2 qt.length q7] 35 (by kernel_rfl) ?_
  refine (c2 _ (r2.below hW) (s2.below hW)).mono ?_
  rintro e w9 ⟨rfl,hb9⟩
  replace hW:=hW.trans (hb9.mono hW.size)
  clear hb9
  refine ⟨_,rfl,⟨⟨_,hW⟩,rfl⟩,?_⟩
  simp only [Act.put,pjE]
  cases X2
 rotate_right
 all_goals
  refine sgr [(19,10)] 25 (by kernel_rfl) ⟨⟨_,hW⟩,rfl⟩ ?_
  simp only [pkE]
  repeat go_big_quiet_step (fail)
  refine wpQuiet_nil ?_
 iterate 2
  focus
   refine ska 29 (some 34) 24 (by kernel_rfl) ⟨⟨_,hW⟩,rfl⟩ ?_
   simp only [Act.put,pjE]
  rotate_left
 focus
  refine cla 29 (some 34) 162 #[.slice p1 pb.length p6,.slice q1 qb.length q6] 24 (by kernel_rfl) ?_
  refine (c1 _ (r1.below hW) (s1.below hW)).mono ?_
  rintro e w9 ⟨rfl,hb9⟩
  replace hW:=hW.trans (hb9.mono hW.size)
  clear hb9
  refine ⟨_,rfl,⟨⟨_,hW⟩,rfl⟩,?_⟩
  simp only [Act.put,pjE]
  cases X1
 rotate_right 2
 all_goals
  refine sgr [(30,10)] 14 (by kernel_rfl) ⟨⟨_,hW⟩,rfl⟩ ?_
  simp only [pkE]
  repeat go_big_quiet_step (fail)
  refine wpQuiet_nil ?_
 iterate 3
  focus
   refine ska 40 (some 45) 13 (by kernel_rfl) ⟨⟨_,hW⟩,rfl⟩ ?_
   simp only [Act.put,pjE]
  rotate_left
 focus
  refine cla 40 (some 45) 162 #[.slice p4 pn.length p9,.slice q4 qn.length q9] 13 (by kernel_rfl) ?_
  refine (c4 _ (r4.below hW) (s4.below hW)).mono ?_
  rintro e w9 ⟨rfl,hb9⟩
  replace hW:=hW.trans (hb9.mono hW.size)
  clear hb9
  refine ⟨_,rfl,⟨⟨_,hW⟩,rfl⟩,?_⟩
  simp only [Act.put,pjE]
  cases X4
 rotate_right 3
 all_goals
  refine sgr [(41,10)] 3 (by kernel_rfl) ⟨⟨_,hW⟩,rfl⟩ ?_
  simp only [pkE]
  repeat go_big_quiet_step (fail)
  refine wpQuiet_nil ?_
 iterate 4
  focus
   refine ska 51 (some 56) 2 (by kernel_rfl) ⟨⟨_,hW⟩,rfl⟩ ?_
   simp only [Act.put,pjE]
  rotate_left
 focus
  refine cla 51 (some 56) 163 #[.slice p3 pu.length p8,.slice q3 qu.length q8] 2 (by kernel_rfl) ?_
  refine (c3 _ (r3.below hW) (s3.below hW)).mono ?_
  rintro e w9 ⟨rfl,hb9⟩
  replace hW:=hW.trans (hb9.mono hW.size)
  clear hb9
  refine ⟨_,rfl,⟨⟨_,hW⟩,rfl⟩,?_⟩
  simp only [Act.put,pjE]
 rotate_right 4
 all_goals
  refine sgr [(52,2)] 0 (by kernel_rfl) ⟨⟨_,hW⟩,rfl⟩ ?_
  simp only [pkE]
  repeat go_big_quiet_step (fail)
  refine wpQuiet_nil ?_
 all_goals
  refine text_end (by kernel_rfl) ?_
  go_wp2
  go_ret
  exact ⟨by rw [E.out];simp,hW⟩

set_option maxRecDepth 100000 in
set_option maxHeartbeats 16000000 in
theorem l9Fault_o (kn_p sf_p:Int) (off:Nat) (b:Nat) (p:RepQ) (w:World) (hB:Off w b off #[.int .i64 kn_p,.int .i64 sf_p,p.vd,p.vb,p.vt,p.vu,p.vn]) (h:repK.own w p) (hl:p.n≤1048576) :
  Calls Tryz.prog 73 #[.pointer (some ⟨b,off + 2,none⟩)] w fun e w' => e=.returned (.int .i64 (repF p.e))∧Below w.heap.size w w' := by
 obtain ⟨pvd,pd,pvb,pb,pvt,pt,pvu,pu,pvn,pn⟩:=p
 obtain ⟨p0,p5,rfl⟩:∃ a c,pvd=.slice a pd.length c:=h.1.shape
 obtain ⟨p1,p6,rfl⟩:∃ a c,pvb=.slice a pb.length c:=h.2.1.shape
 obtain ⟨p2,p7,rfl⟩:∃ a c,pvt=.slice a pt.length c:=h.2.2.1.shape
 obtain ⟨p3,p8,rfl⟩:∃ a c,pvu=.slice a pu.length c:=h.2.2.2.1.shape
 obtain ⟨p4,p9,rfl⟩:∃ a c,pvn=.slice a pn.length c:=h.2.2.2.2.shape
 dsimp only [RepQ.n] at hl
 have h0:=repK.own_rd h
 have HN1:∀ q∈pd,NiceQ9 q:=fun q hq=>niceQ_of (h.1.2 q hq)
 have HN2:∀ q∈pt,NiceQ9 q:=fun q hq=>niceQ_of (h.2.2.1.2 q hq)
 have nd:=h.1.niceV
 have nt:=h.2.2.1.niceV
 have hr:=fun (w' : World) hb=>repK.rd_below (w' := w') h0 hb
 have hpd:(pd.length:Int)≤1048576:=by omega
 have hpt:(pt.length:Int)≤1048576:=by omega
 have q0:=hB.cell 2 _ rfl
 have q2:=hB.cell 4 _ rfl
 clear h h0
 by_cases hm:16 < pd.length∨8 < pt.length
 ·have HC:Hid (repF (RepQ.e (⟨.slice p0 pd.length p5,pd,.slice p1 pb.length p6,pb,.slice p2 pt.length p7,pt,.slice p3 pu.length p8,pu,.slice p4 pn.length p9,pn⟩:RepQ))=2):=show _=_ from rep_many (by simpa [RepQ.e] using hm)
  generalize repF (RepQ.e (⟨.slice p0 pd.length p5,pd,.slice p1 pb.length p6,pb,.slice p2 pt.length p7,pt,.slice p3 pu.length p8,pu,.slice p4 pn.length p9,pn⟩:RepQ))=c at *
  clear hr HN1 HN2 nd nt
  by_cases h16:16 < pd.length
  ·have i16:(16:Int) < (pd.length:Int):=by omega
   go_enter Tryz.func73,Tryz.ntmps73
   go_wp2
   go_ret
   exact ⟨by first | (rw [HC.out];done) | (rw [HC.out];rfl) | (simp [HC.out]),Below.refl _ _⟩
  ·have i16:¬ (16:Int) < (pd.length:Int):=by omega
   have i8:(8:Int) < (pt.length:Int):=by omega
   go_enter Tryz.func73,Tryz.ntmps73
   go_wp2
   go_ret
   exact ⟨by first | (rw [HC.out];done) | (rw [HC.out];rfl) | (simp [HC.out]),Below.refl _ _⟩
 have i16:¬ (16:Int) < (pd.length:Int):=by omega
 have i8:¬ (8:Int) < (pt.length:Int):=by omega
 have hl16:pd.length≤16:=by omega
 have hl8:pt.length≤8:=by omega
 have hm' : ¬ (16 < (pd.map TxnQ.e).length∨8 < (pt.map TxnQ.e).length):=by simpa using hm
 have HREP:=Wrp.mk (rep_list (r:=RepQ.e (⟨.slice p0 pd.length p5,pd,.slice p1 pb.length p6,pb,.slice p2 pt.length p7,pt,.slice p3 pu.length p8,pu,.slice p4 pn.length p9,pn⟩:RepQ)) hm')
 have HRES:=Wrp.mk (rep_same (r:=RepQ.e (⟨.slice p0 pd.length p5,pd,.slice p1 pb.length p6,pb,.slice p2 pt.length p7,pt,.slice p3 pu.length p8,pu,.slice p4 pn.length p9,pn⟩:RepQ)) hm')
 dsimp only [RepQ.e] at HREP HRES ⊢
 clear hm hm'
 generalize repF _=CC at *
 have hcd:=fun (w' : World) (hb:Below w.heap.size w w')=>l2CopyAll9_any (.slice p0 pd.length p5) pd w' (hr w' hb).1 HN1 (by omega)
 have hct:=fun (w' : World) (hb:Below w.heap.size w w')=>l2CopyAll9_any (.slice p2 pt.length p7) pt w' (hr w' hb).2.2.1 HN2 (by omega)
 go_enter Tryz.func73,Tryz.ntmps73
 go_wp2_with fail
 clear q0 q2
 have f0:=hB.lat 2 _ rfl
 have f2:=hB.lat 4 _ rfl
 have hW:Below w.heap.size w w.drew:=(Below.refl _ _).drew
 have hnn:Nonempty (Lat w):=⟨⟨w,Below.refl _ _⟩⟩
 refine text_begin (S:=fun w' => ∃ u:Lat w,w' = u.val) (by kernel_rfl) ?_
 refine sgr [(0,4),(5,4)] 5 (by kernel_rfl) ⟨⟨_,hW⟩,rfl⟩ ?_
 simp only [pkE]
 repeat go_big_quiet_step (fail)
 refine wpQuiet_nil ?_
 refine cla 4 (some 23) 116 #[.slice p0 pd.length p5] 4 (by kernel_rfl) ?_
 refine (hcd _ hW).mono ?_
 rintro e x1 ⟨v1,q1,rfl,e1,o1,n1,g1,hb9⟩
 have ND:Hid (∀ k,∀ q∈q1,k∈txnK.foot q→k ∉ blk v1):=fun k q hq hk hb=>(List.nodup_append.1 n1).2.2 k hb k (List.mem_flatMap.2 ⟨q,hq,hk⟩) rfl
 clear n1
 obtain ⟨a1,k1,rfl⟩:=o1.shape
 have hx0:=hW.size
 replace hW:=hW.trans (hb9.mono hW.size)
 clear hb9
 refine ⟨_,rfl,⟨⟨_,hW⟩,rfl⟩,?_⟩
 simp only [Act.put,pjE]
 refine cla 9 (some 28) 116 #[.slice p2 pt.length p7] 3 (by kernel_rfl) ?_
 refine (hct _ hW).mono ?_
 rintro e x2 ⟨v2,q2,rfl,e2,o2,_,g2,hb9⟩
 obtain ⟨a2,k2,rfl⟩:=o2.shape
 have hx1:=hW.size
 have i1:=o1.lt
 replace o1:=o1.below hb9
 replace hW:=hW.trans (hb9.mono hW.size)
 clear hb9
 refine ⟨_,rfl,⟨⟨_,hW⟩,rfl⟩,?_⟩
 simp only [Act.put,pjE]
 have hx2:=hW.size
 obtain ⟨i0,hi,hz0,hz1,hz2⟩:=info_parts infoTxn
 have l1:q1.length=pd.length:=by simpa using congrArg List.length e1
 have l2:q2.length=pt.length:=by simpa using congrArg List.length e2
 obtain ⟨_,_,ee,lies2,rd2⟩:=o2.at
 simp only [Value.slice.injEq,true_and] at ee
 obtain ⟨rfl,rfl⟩:=ee
 have w1:q1.length + q2.length≤maxLen:=by unfold maxLen;omega
 have w2:(q1.length + q2.length) * 48≤140737488355328:=by omega
 clear l1 l2
 refine ona 10 2 rfl (by kernel_rfl) ?_
 refine wpList_app_k (K:=txnK) _ rfl _ _ 52 rfl i0 (.agg #[.int .i64 0,.int .i64 0,.int .i64 0,.slice none 0 0]) 48 Tryz.underlying52 hi hz0 hz1 hz2 rfl (by decide) 0 _ q1 rfl o1.1 _ q2 _ rfl lies2 (txns_one rd2) (o2.niceV _ _ _ rfl) w1 w2 (by omega) ?_
 intro v3 x3 ho3 hg3
 have hU3:Out (blk (.slice a1 q1.length k1)) x2 x3:=Out.of_grown hg3
 have bl1:∀ x∈blk (.slice a1 q1.length k1),w.heap.size≤x∧x < x1.heap.size:=fun x hx=>⟨by have:=g1 x (by simp only [Kind.fp,List.mem_append];exact Or.inl hx);omega,i1 x (by simp only [Kind.fp,List.mem_append];exact Or.inl hx)⟩
 have hA3:txnK.At x3 v3 (q1 ++ q2):=Kind.at_of_row ho3 (fun q hq=>by
  rcases List.mem_append.1 hq with hq | hq
  ·exact txnK.own_rd (txnK.own_out (o1.2 q hq) hU3 (fun k hk e=>ND.out k q hq hk e))
  ·exact txnK.own_rd (txnK.own_out (o2.2 q hq) hU3 (fun k hk e=>by
    have:=g2 k (by simp only [Kind.fp,List.mem_append,List.mem_flatMap];exact Or.inr ⟨q,hq,hk⟩)
    have:=(bl1 k e).2
    omega)))
 replace hW:=Out.keep hW hU3 (by omega) (fun x hx=>(bl1 x hx).1)
 have cp3:=row_capL ho3
 obtain ⟨a3,k3,rfl⟩:=hA3.shape
 go_wp2
 refine ThenGo.to ⟨⟨⟨_,hW⟩,rfl⟩,?_⟩
 have hn3:(q1 ++ q2).length + nmL TxnQ.n (q1 ++ q2)≤1048576:=by
  have e:nmL TxnQ.n (q1 ++ q2)=nmL TxnQ.n q1 + nmL TxnQ.n q2:=by simp [nmL]
  have s1:=txq_n9 e1
  have s2:=txq_n9 e2
  rw [List.length_append,e]
  omega
 have hlf:=fun w h=>l8Fault_any (.slice a3 (q1 ++ q2).length k3) (q1 ++ q2) w h cp3 hn3
 rw [List.map_append,e1,e2] at hlf
 simp only [Act.put,pgE,pjE]
 refine cla 11 (some 30) 115 #[.slice a3 (q1 ++ q2).length k3] 1 (by kernel_rfl) ?_
 refine (hlf _ hA3).mono ?_
 rintro e x4 ⟨rfl,hb9⟩
 replace hW:=hW.trans (hb9.mono hW.size)
 clear hb9 hlf hA3 ho3 hg3 hU3 o1 o2 g1 g2 i1 bl1 lies2 rd2 ND
 refine ⟨_,rfl,⟨⟨_,hW⟩,rfl⟩,?_⟩
 simp only [Act.put,pjE]
 refine sgr [(12,1)] 0 (by kernel_rfl) ⟨⟨_,hW⟩,rfl⟩ ?_
 simp only [pkE]
 repeat go_big_quiet_step (fail)
 refine wpQuiet_nil ?_
 refine text_end (by kernel_rfl) ?_
 clear f0 f2 hnn hcd hct HN1 HN2 nd nt e1 e2 w1 w2
 by_cases hL:lstF (pd.map TxnQ.e ++ pt.map TxnQ.e)=0
 case neg=>
  have HC:Hid (CC=lstF (pd.map TxnQ.e ++ pt.map TxnQ.e)):=HREP.out hL
  clear HREP HRES
  generalize lstF (pd.map TxnQ.e ++ pt.map TxnQ.e)=c at *
  have hcb:(c != 0)=true:=by simpa using hL
  go_wp2
  go_ret
  exact ⟨by first | (rw [HC.out];done) | (rw [HC.out];rfl) | (simp [HC.out]),hW⟩
 have hFall:=lst_F hL
 have hFD:∀ q∈pd,(TxnQ.e q).F=0:=fun q hq=>hFall _ (List.mem_append_left _ (List.mem_map_of_mem hq))
 have hFE:∀ q∈pt,(TxnQ.e q).F=0:=fun q hq=>hFall _ (List.mem_append_right _ (List.mem_map_of_mem hq))
 have HC:=Wrp.mk (HRES.out hL)
 rw [hL]
 clear HREP HRES hL
 have hB4:=hB.below hW
 have hr4:=hr _ hW
 have hmk:=fun (w' : World) (hb:Below x4.heap.size x4 w')=>l9Make_any (.slice p0 pd.length p5) (.slice p2 pt.length p7) pd pt w' (hr4.1.below hb) (hr4.2.2.1.below hb) hFD hFE (by omega) (by omega)
 have hbX:=hW
 clear hW
 go_wp2_with fail
 generalize hX:x4=X at *
 clear hX
 try clear hn3
 generalize (q1 ++ q2).length=QL
 have f0:=hB4.lat 2 _ rfl
 have f2:=hB4.lat 4 _ rfl
 refine region_vals [some 34,some 35,some 36,some 37,some 38,some 39,some 40,some 41,some 42,some 4] (fun vs w' => ∃ (m:RepQ) (g:Nat),vs=[.pointer (some ⟨b,off + 2,none⟩),.pointer (some ⟨b,off + 2,none⟩),.pointer (some ⟨b,off + 2,none⟩),.slice p0 pd.length p5,.pointer (some ⟨b,off + 2,none⟩),.pointer (some ⟨b,off + 2,none⟩),.pointer (some ⟨b,off + 4,none⟩),.slice p2 pt.length p7,.agg #[m.vd,m.vb,m.vt,m.vu,m.vn],.pointer (some ⟨g,0,none⟩)]∧X.heap.size≤g∧Blk w' g 56 #[m.vd,m.vb,m.vt,m.vu,m.vn]∧m.e=mkR (pd.map TxnQ.e) (pt.map TxnQ.e)∧repK.own w' m∧Below X.heap.size X w') ?_ ?_
 ·have hW:Below X.heap.size X X.drew:=(Below.refl _ _).drew
  have hnn:Nonempty (Lat X):=⟨⟨X,Below.refl _ _⟩⟩
  refine text_begin (S:=fun w' => ∃ u:Lat X,w' = u.val) (by kernel_rfl) ?_
  refine sgr [(0,8)] 3 (by kernel_rfl) ⟨⟨_,hW⟩,rfl⟩ ?_
  simp only [pkE]
  repeat go_big_quiet_step (fail)
  refine wpQuiet_nil ?_
  clear f0 f2
  generalize X.drew=wd at hW ⊢
  refine twa 8 9 2 (by kernel_rfl) ?_ ?_
  ·skip
   refine opc 8 (some 42) 117 #[.slice p0 pd.length p5,.slice p2 pt.length p7] (by kernel_rfl) ?_
   refine (hmk _ hW).mono ?_
   rintro e x1 ⟨m,rfl,em,om,nm,gm,hb⟩
   clear nm
   replace hW:=hW.trans (hb.mono hW.size)
   clear hb gm
   refine ⟨_,rfl,⟨⟨_,hW⟩,rfl⟩,?_⟩
   simp only [Act.put,pgE,pjE]
   refine ona 9 1 rfl (by kernel_rfl) ?_
   have Bz:=Blk.new x1 56 #[.slice none 0 0,.slice none 0 0,.slice none 0 0,.slice none 0 0,.slice none 0 0]
   have hzz:X.heap.size≤x1.heap.size:=hW.size
   have hba:Below x1.heap.size x1 (x1.alloc (.cells #[.slice none 0 0,.slice none 0 0,.slice none 0 0,.slice none 0 0,.slice none 0 0] 56)):=by go_grown
   have gne:∀ k∈repK.foot m,k≠x1.heap.size:=fun k hk=>by have:=repK.own_lt om k hk;omega
   replace om:=repK.own_out (F:=[]) om (Out.of_below hba) (fun _ _=>by simp)
   replace hW:=hW.trans (hba.mono hW.size)
   clear hba
   have hBzl:=Bz.lt
   go_wp2
   refine ThenGo.to ⟨⟨⟨_,hW⟩,rfl⟩,?_⟩
   generalize hGy1:x1.heap.size=g at *
   generalize x1.alloc (.cells #[.slice none 0 0,.slice none 0 0,.slice none 0 0,.slice none 0 0,.slice none 0 0] 56)=y1 at *
   clear hGy1
   obtain ⟨mvd,md,mvb,mb,mvt,mt,mvu,mu,mvn,mn⟩:=m
   obtain ⟨s0,t0,rfl⟩:∃ a c,mvd=.slice a md.length c:=om.1.shape
   obtain ⟨s1,t1,rfl⟩:∃ a c,mvb=.slice a mb.length c:=om.2.1.shape
   obtain ⟨s2,t2,rfl⟩:∃ a c,mvt=.slice a mt.length c:=om.2.2.1.shape
   obtain ⟨s3,t3,rfl⟩:∃ a c,mvu=.slice a mu.length c:=om.2.2.2.1.shape
   obtain ⟨s4,t4,rfl⟩:∃ a c,mvn=.slice a mn.length c:=om.2.2.2.2.shape
   refine ona 10 0 rfl (by kernel_rfl) ?_
   have hgW:X.heap.size≤g:=by omega
   have Rz:=Bz.row #[.slice s0 md.length t0,.slice s1 mb.length t1,.slice s2 mt.length t2,.slice s3 mu.length t3,.slice s4 mn.length t4]
   have oz:=repK.own_out om (out_row _ g #[.slice s0 md.length t0,.slice s1 mb.length t1,.slice s2 mt.length t2,.slice s3 mu.length t3,.slice s4 mn.length t4]) (fun k hk=>by simp only [List.mem_singleton];exact gne k hk)
   replace hW:=below_row hW hgW #[.slice s0 md.length t0,.slice s1 mb.length t1,.slice s2 mt.length t2,.slice s3 mu.length t3,.slice s4 mn.length t4]
   refine st_row (by kernel_rfl) 56 _ _ rfl _ #[.slice s0 md.length t0,.slice s1 mb.length t1,.slice s2 mt.length t2,.slice s3 mu.length t3,.slice s4 mn.length t4] rfl rfl 56 _ Bz sz_rep rfl (by simp [Value.oneCell']) ?_
   refine ThenGo.to ⟨⟨⟨_,hW⟩,rfl⟩,?_⟩
   refine text_end (by kernel_rfl) ?_
   refine ⟨rfl,_,⟨_,g,rfl,hgW,Rz,em,oz,hW⟩,?_⟩
   simp only [putAll,Act.put,pgE,pjE]
   try rfl
  ·skip
   refine op_one 9 _ rfl ?_
   have Bz:=Blk.new wd 56 #[.slice none 0 0,.slice none 0 0,.slice none 0 0,.slice none 0 0,.slice none 0 0]
   have hzz:X.heap.size≤wd.heap.size:=hW.size
   have hba:Below wd.heap.size wd (wd.alloc (.cells #[.slice none 0 0,.slice none 0 0,.slice none 0 0,.slice none 0 0,.slice none 0 0] 56)):=by go_grown
   replace hW:=hW.trans (hba.mono hW.size)
   clear hba
   have hBzl:=Bz.lt
   go_wp2
   refine ThenGo.to ⟨⟨⟨_,hW⟩,rfl⟩,?_⟩
   generalize hGy2:wd.heap.size=g at *
   generalize wd.alloc (.cells #[.slice none 0 0,.slice none 0 0,.slice none 0 0,.slice none 0 0,.slice none 0 0] 56)=y2 at *
   clear hGy2
   refine cla 8 (some 42) 117 #[.slice p0 pd.length p5,.slice p2 pt.length p7] 1 (by kernel_rfl) ?_
   refine (hmk _ hW).mono ?_
   rintro e x2 ⟨m,rfl,em,om,nm,gm,hb⟩
   clear nm
   have gne:∀ k∈repK.foot m,k≠g:=fun k hk=>by have:=gm k hk;have:=Bz.lt;omega
   replace Bz:=Bz.below hb
   replace hW:=hW.trans (hb.mono hW.size)
   clear hb gm
   refine ⟨_,rfl,⟨⟨_,hW⟩,rfl⟩,?_⟩
   simp only [Act.put,pgE,pjE]
   obtain ⟨mvd,md,mvb,mb,mvt,mt,mvu,mu,mvn,mn⟩:=m
   obtain ⟨s0,t0,rfl⟩:∃ a c,mvd=.slice a md.length c:=om.1.shape
   obtain ⟨s1,t1,rfl⟩:∃ a c,mvb=.slice a mb.length c:=om.2.1.shape
   obtain ⟨s2,t2,rfl⟩:∃ a c,mvt=.slice a mt.length c:=om.2.2.1.shape
   obtain ⟨s3,t3,rfl⟩:∃ a c,mvu=.slice a mu.length c:=om.2.2.2.1.shape
   obtain ⟨s4,t4,rfl⟩:∃ a c,mvn=.slice a mn.length c:=om.2.2.2.2.shape
   refine ona 10 0 rfl (by kernel_rfl) ?_
   have hgW:X.heap.size≤g:=by omega
   have Rz:=Bz.row #[.slice s0 md.length t0,.slice s1 mb.length t1,.slice s2 mt.length t2,.slice s3 mu.length t3,.slice s4 mn.length t4]
   have oz:=repK.own_out om (out_row _ g #[.slice s0 md.length t0,.slice s1 mb.length t1,.slice s2 mt.length t2,.slice s3 mu.length t3,.slice s4 mn.length t4]) (fun k hk=>by simp only [List.mem_singleton];exact gne k hk)
   replace hW:=below_row hW hgW #[.slice s0 md.length t0,.slice s1 mb.length t1,.slice s2 mt.length t2,.slice s3 mu.length t3,.slice s4 mn.length t4]
   refine st_row (by kernel_rfl) 56 _ _ rfl _ #[.slice s0 md.length t0,.slice s1 mb.length t1,.slice s2 mt.length t2,.slice s3 mu.length t3,.slice s4 mn.length t4] rfl rfl 56 _ Bz sz_rep rfl (by simp [Value.oneCell']) ?_
   refine ThenGo.to ⟨⟨⟨_,hW⟩,rfl⟩,?_⟩
   refine text_end (by kernel_rfl) ?_
   refine ⟨rfl,_,⟨_,g,rfl,hgW,Rz,em,oz,hW⟩,?_⟩
   simp only [putAll,Act.put,pgE,pjE]
   try rfl
 rintro vs w5 ⟨m,g,rfl,hgX,Bg,em,om,hX5⟩
 simp only [putAll,Act.put,pjE]
 clear f0 f2 hmk
 have hFD' : ∀ t∈pd.map TxnQ.e,t.F=0:=fun t ht=>by obtain ⟨q,hq,rfl⟩:=List.mem_map.1 ht;exact hFD q hq
 have hFE' : ∀ t∈pt.map TxnQ.e,t.F=0:=fun t ht=>by obtain ⟨q,hq,rfl⟩:=List.mem_map.1 ht;exact hFE q hq
 have hsm:=l9Same_o kn_p sf_p off g b m (⟨.slice p0 pd.length p5,pd,.slice p1 pb.length p6,pb,.slice p2 pt.length p7,pt,.slice p3 pu.length p8,pu,.slice p4 pn.length p9,pn⟩:RepQ) w5 Bg (hB4.below hX5) (repK.own_rd om) (repK.rd_below hr4 hX5) (by have:=mk_small em hFD' hFE' (by rw [List.length_map];omega) (by rw [List.length_map];omega);omega) (by dsimp only [RepQ.n];omega)
 rw [em] at hsm
 dsimp only [RepQ.e] at hsm
 have hb5:=hbX.trans (hX5.mono hbX.size)
 clear om Bg hB4 hr4 em hX5 hbX
 go_wp2_with fail
 refine hsm.mono ?_
 rintro e w6 ⟨rfl,hb6⟩
 replace hb5:=hb5.trans (hb6.mono hb5.size)
 clear hb6 hsm
 cases hS:sameRep (mkR (pd.map TxnQ.e) (pt.map TxnQ.e)) ⟨pd.map TxnQ.e,pb,pt.map TxnQ.e,pu.map USQ.e,pn⟩ with
 | false=>
  have h9:CC=(if sameRep (mkR (pd.map TxnQ.e) (pt.map TxnQ.e)) ⟨pd.map TxnQ.e,pb,pt.map TxnQ.e,pu.map USQ.e,pn⟩=true then 0 else 8):=HC.out
  have HC2:Hid (CC=8):=show CC=8 by simpa [hS] using h9
  clear h9
  clear HC
  go_wp2
  go_ret
  exact ⟨by first | (rw [HC2.out];done) | (rw [HC2.out];rfl) | (simp [HC2.out]),hb5⟩
 | true=>
  have h9:CC=(if sameRep (mkR (pd.map TxnQ.e) (pt.map TxnQ.e)) ⟨pd.map TxnQ.e,pb,pt.map TxnQ.e,pu.map USQ.e,pn⟩=true then 0 else 8):=HC.out
  have HC2:Hid (CC=0):=show CC=0 by simpa [hS] using h9
  clear h9
  clear HC
  go_wp2
  go_ret
  exact ⟨by first | (rw [HC2.out];done) | (rw [HC2.out];rfl) | (simp [HC2.out]),hb5⟩

set_option maxRecDepth 100000 in
set_option maxHeartbeats 8000000 in
theorem l11Fault_o (off:Nat) (v:Value) (ps:List InstQ) (b:Nat) (kn sf:Int) (p:RepQ) (w:World) (hB:Off w b off #[.int .i64 kn,.int .i64 sf,p.vd,p.vb,p.vt,p.vu,p.vn]) (h:instK.At w v ps) (hl:(ps.length + nmL InstQ.n ps)≤1048576) (hp:repK.own w p) (hl' : p.n≤1048576) :
  Calls Tryz.prog 41 #[v,.pointer (some ⟨b,off,none⟩)] w fun e w' => e=.returned (.int .i64 (nodF (ps.map InstQ.e) kn sf p.e))∧Below w.heap.size w w' := by
 have hof:=fun w h=>l7Fault_any v ps w h hl
 have hdi0:=fun w h h0=>l7Dec_k v ps w h hl h0
 have hdf0:=fun w h h0 hn=>l7Def_k v ps kn w h hl h0 hn
 have hrf:=fun w hB h=>l9Fault_o kn sf off b p w hB h hl'
 have hn1:p.done.length + nmL TxnQ.n p.done≤1048576:=by
  have:p.done.length + nmL TxnQ.n p.done≤p.n:=by simp only [RepQ.n];omega
  omega
 have hst0:=fun v' (ys:List TxnQ) w h h' hy=>sameTxS_k p.vd v' p.done ys w h h' hn1 hy
 have hDn:Hid (ordF (ps.map InstQ.e)=0→∀ ys:List TxnQ,ys.map TxnQ.e=defL (ps.map InstQ.e) kn.toNat→ys.length + nmL TxnQ.n ys≤1048576):=fun h0 ys hy=>by
  have h1:=def_len h0 kn.toNat
  have h2:=few_n (qs:=ys) (by rw [hy];exact def_F (ord_mem h0) _)
  have h3:ys.length=(defL (ps.map InstQ.e) kn.toNat).length:=by rw [← hy,List.length_map]
  omega
 have hrb:=fun (w' : World) (hb:Below w.heap.size w w')=>repK.own_out (F:=[]) (w' := w') hp (Out.of_below hb) (fun _ _=>by simp)
 have hways:=nod_ways (ps.map InstQ.e) kn sf p.e
 have hpd:p.e.done=p.done.map TxnQ.e:=rfl
 rw [hpd] at hways
 generalize nodF (ps.map InstQ.e) kn sf p.e=D at *
 generalize defL (ps.map InstQ.e) kn.toNat=DL at *
 generalize ordF (ps.map InstQ.e)=C at *
 generalize (decN (ps.map InstQ.e):Int)=M at *
 generalize repF p.e=RF at *
 clear hpd
 obtain ⟨vd,done,vb,base,vt,tent,vu,undos,vn,now⟩:=p
 obtain ⟨a0,k0,rfl⟩:∃ a c,vd=.slice a done.length c:=hp.1.shape
 obtain ⟨a1,k1,rfl⟩:∃ a c,vb=.slice a base.length c:=hp.2.1.shape
 obtain ⟨a2,k2,rfl⟩:∃ a c,vt=.slice a tent.length c:=hp.2.2.1.shape
 obtain ⟨a3,k3,rfl⟩:∃ a c,vu=.slice a undos.length c:=hp.2.2.2.1.shape
 obtain ⟨a4,k4,rfl⟩:∃ a c,vn=.slice a now.length c:=hp.2.2.2.2.shape
 obtain ⟨va,vc,rfl⟩:=h.shape
 dsimp only at hrf hst0 hrb hways hB
 clear hl' hn1
 have A0:=hB
 have b1:Below w.heap.size w w:=Below.refl _ _
 go_enter Tryz.func41,Tryz.ntmps41
 go_wp2_with fail
 refine (hof w h).mono ?_
 rintro e w1 ⟨rfl,hb⟩
 replace A0:=A0.below hb
 replace b1:=b1.trans (hb.mono b1.size)
 clear hb hof
 by_cases hC:C=0
 case neg=>
  have hC' : (C != 0)=true:=by simpa using hC
  have HD:Hid (D=C):=by
   rcases hways with ⟨_,e⟩ | ⟨h0,_⟩ | ⟨h0,_⟩ | ⟨h0,_⟩ | ⟨h0,_⟩ | ⟨h0,_⟩
   ·exact e
   all_goals exact absurd h0 hC
  clear hways hdi0 hdf0 hrf hst0 hrb hC hDn
  go_wp2
  go_ret
  exact ⟨by first | (rw [HD.out];done) | (rw [HD.out];rfl),b1⟩
 subst hC
 have hdn:=hDn.out rfl
 have hst:=fun v' (ys:List TxnQ) w h h' hy=>hst0 v' ys w h h' (hdn ys hy)
 have HST:Hid _:=hst
 have hdi:=fun w h=>hdi0 w h rfl
 have HDF:Hid _:=hdf0
 have HRB:Hid _:=hrb
 have HRF:Hid _:=hrf
 have HWY:Hid _:=hways
 clear hDn hdn hst0 hst hdi0 hdf0 hrb hrf hways
 have hC' : ((0:Int) != 0)=false:=by decide
 have hi1:=fun w=>l1In_any kn 0 M w
 have hi2:=fun w=>l1In_any sf 0 kn w
 have c0:=A0.lat0 _ rfl
 have c1:=A0.lat 1 _ rfl
 have c2:=A0.lat 2 _ rfl
 have c3:=A0.lat 3 _ rfl
 have c4:=A0.lat 4 _ rfl
 have c5:=A0.lat 5 _ rfl
 have c6:=A0.lat 6 _ rfl
 by_cases hk:0≤kn∧kn≤M
 case neg=>
  have HD:Hid (D=3):=by
   rcases HWY.out with ⟨h0,_⟩ | ⟨_,_,e⟩ | ⟨_,h0,_⟩ | ⟨_,h0,_⟩ | ⟨_,h0,_⟩ | ⟨_,h0,_⟩
   ·exact absurd rfl h0
   ·exact e
   all_goals exact absurd h0 hk
  have hz:inB kn 0 M=false:=decide_eq_false hk
  rw [hz] at hi1
  clear hk hz
  go_wp2_with fail
  have hW:Below w1.heap.size w1 w1.drew:=(Below.refl _ _).drew
  have hnn:Nonempty (Lat w1):=⟨⟨w1,Below.refl _ _⟩⟩
  refine text_begin (S:=fun w' => ∃ u:Lat w1,w' = u.val) (by kernel_rfl) ?_
  refine sgr [(0,5)] 15 (by kernel_rfl) ⟨⟨_,hW⟩,rfl⟩ ?_
  simp only [pkE]
  repeat go_big_quiet_step (fail)
  refine wpQuiet_nil ?_
  refine cla 5 (some 17) 72 #[.slice va ps.length vc] 14 (by kernel_rfl) ?_
  refine (hdi _ (h.below (b1.trans (hW.mono b1.size)))).mono ?_
  rintro e w9 ⟨rfl,hb9⟩
  replace hW:=hW.trans (hb9.mono hW.size)
  clear hb9
  refine ⟨_,rfl,⟨⟨_,hW⟩,rfl⟩,?_⟩
  simp only [Act.put,pjE]
  refine cla 6 (some 18) 71 #[.int .i64 kn,.int .i64 0,.int .i64 M] 13 (by kernel_rfl) ?_
  refine (hi1 _).mono ?_
  rintro e w9 ⟨rfl,hw9⟩
  replace hw9:=hw9.symm
  subst hw9
  refine ⟨_,rfl,⟨⟨_,hW⟩,rfl⟩,?_⟩
  simp only [Act.put,pjE]
  refine sgr [(7,10)] 3 (by kernel_rfl) ⟨⟨_,hW⟩,rfl⟩ ?_
  simp only [pkE]
  repeat go_big_quiet_step (fail)
  refine wpQuiet_nil ?_
  refine ska 17 (some 29) 2 (by kernel_rfl) ⟨⟨_,hW⟩,rfl⟩ ?_
  simp only [Act.put,pjE]
  refine sgr [(18,2)] 0 (by kernel_rfl) ⟨⟨_,hW⟩,rfl⟩ ?_
  simp only [pkE]
  repeat go_big_quiet_step (fail)
  refine wpQuiet_nil ?_
  refine text_end (by kernel_rfl) ?_
  replace A0:=A0.below hW
  replace b1:=b1.trans (hW.mono b1.size)
  clear c0 c1 c2 c3 c4 c5 c6
  clear hnn hdi hi1 hi2
  go_wp2
  go_ret
  exact ⟨by first | (rw [HD.out];done) | (rw [HD.out];rfl),b1⟩
 have hz:inB kn 0 M=true:=decide_eq_true hk
 rw [hz] at hi1
 have HK:Hid (0≤kn∧kn≤M):=hk
 clear hz
 by_cases hs:0≤sf∧sf≤kn
 case neg=>
  have HD:Hid (D=3):=by
   rcases HWY.out with ⟨h0,_⟩ | ⟨_,h0,_⟩ | ⟨_,_,_,e⟩ | ⟨_,_,h0,_⟩ | ⟨_,_,h0,_⟩ | ⟨_,_,h0,_⟩
   ·exact absurd rfl h0
   ·exact absurd hk h0
   ·exact e
   all_goals exact absurd h0 hs
  have hz:inB sf 0 kn=false:=decide_eq_false hs
  rw [hz] at hi2
  clear hk hz hs
  go_wp2_with fail
  have hW:Below w1.heap.size w1 w1.drew:=(Below.refl _ _).drew
  have hnn:Nonempty (Lat w1):=⟨⟨w1,Below.refl _ _⟩⟩
  refine text_begin (S:=fun w' => ∃ u:Lat w1,w' = u.val) (by kernel_rfl) ?_
  refine sgr [(0,5)] 15 (by kernel_rfl) ⟨⟨_,hW⟩,rfl⟩ ?_
  simp only [pkE]
  repeat go_big_quiet_step (fail)
  refine wpQuiet_nil ?_
  refine cla 5 (some 17) 72 #[.slice va ps.length vc] 14 (by kernel_rfl) ?_
  refine (hdi _ (h.below (b1.trans (hW.mono b1.size)))).mono ?_
  rintro e w9 ⟨rfl,hb9⟩
  replace hW:=hW.trans (hb9.mono hW.size)
  clear hb9
  refine ⟨_,rfl,⟨⟨_,hW⟩,rfl⟩,?_⟩
  simp only [Act.put,pjE]
  refine cla 6 (some 18) 71 #[.int .i64 kn,.int .i64 0,.int .i64 M] 13 (by kernel_rfl) ?_
  refine (hi1 _).mono ?_
  rintro e w9 ⟨rfl,hw9⟩
  replace hw9:=hw9.symm
  subst hw9
  refine ⟨_,rfl,⟨⟨_,hW⟩,rfl⟩,?_⟩
  simp only [Act.put,pjE]
  refine sgr [(7,10)] 3 (by kernel_rfl) ⟨⟨_,hW⟩,rfl⟩ ?_
  simp only [pkE]
  repeat go_big_quiet_step (fail)
  refine wpQuiet_nil ?_
  refine cla 17 (some 29) 71 #[.int .i64 sf,.int .i64 0,.int .i64 kn] 2 (by kernel_rfl) ?_
  refine (hi2 _).mono ?_
  rintro e w9 ⟨rfl,hw9⟩
  replace hw9:=hw9.symm
  subst hw9
  refine ⟨_,rfl,⟨⟨_,hW⟩,rfl⟩,?_⟩
  simp only [Act.put,pjE]
  refine sgr [(18,2)] 0 (by kernel_rfl) ⟨⟨_,hW⟩,rfl⟩ ?_
  simp only [pkE]
  repeat go_big_quiet_step (fail)
  refine wpQuiet_nil ?_
  refine text_end (by kernel_rfl) ?_
  replace A0:=A0.below hW
  replace b1:=b1.trans (hW.mono b1.size)
  clear c0 c1 c2 c3 c4 c5 c6
  clear hnn hdi hi1 hi2
  go_wp2
  go_ret
  exact ⟨by first | (rw [HD.out];done) | (rw [HD.out];rfl),b1⟩
 have hz:inB sf 0 kn=true:=decide_eq_true hs
 rw [hz] at hi2
 have HS:Hid (0≤sf∧sf≤kn):=hs
 clear hk hs hz
 go_wp2_with fail
 have hW:Below w1.heap.size w1 w1.drew:=(Below.refl _ _).drew
 have hnn:Nonempty (Lat w1):=⟨⟨w1,Below.refl _ _⟩⟩
 refine text_begin (S:=fun w' => ∃ u:Lat w1,w' = u.val) (by kernel_rfl) ?_
 refine sgr [(0,5)] 15 (by kernel_rfl) ⟨⟨_,hW⟩,rfl⟩ ?_
 simp only [pkE]
 repeat go_big_quiet_step (fail)
 refine wpQuiet_nil ?_
 refine cla 5 (some 17) 72 #[.slice va ps.length vc] 14 (by kernel_rfl) ?_
 refine (hdi _ (h.below (b1.trans (hW.mono b1.size)))).mono ?_
 rintro e w9 ⟨rfl,hb9⟩
 replace hW:=hW.trans (hb9.mono hW.size)
 clear hb9
 refine ⟨_,rfl,⟨⟨_,hW⟩,rfl⟩,?_⟩
 simp only [Act.put,pjE]
 refine cla 6 (some 18) 71 #[.int .i64 kn,.int .i64 0,.int .i64 M] 13 (by kernel_rfl) ?_
 refine (hi1 _).mono ?_
 rintro e w9 ⟨rfl,hw9⟩
 replace hw9:=hw9.symm
 subst hw9
 refine ⟨_,rfl,⟨⟨_,hW⟩,rfl⟩,?_⟩
 simp only [Act.put,pjE]
 refine sgr [(7,10)] 3 (by kernel_rfl) ⟨⟨_,hW⟩,rfl⟩ ?_
 simp only [pkE]
 repeat go_big_quiet_step (fail)
 refine wpQuiet_nil ?_
 refine cla 17 (some 29) 71 #[.int .i64 sf,.int .i64 0,.int .i64 kn] 2 (by kernel_rfl) ?_
 refine (hi2 _).mono ?_
 rintro e w9 ⟨rfl,hw9⟩
 replace hw9:=hw9.symm
 subst hw9
 refine ⟨_,rfl,⟨⟨_,hW⟩,rfl⟩,?_⟩
 simp only [Act.put,pjE]
 refine sgr [(18,2)] 0 (by kernel_rfl) ⟨⟨_,hW⟩,rfl⟩ ?_
 simp only [pkE]
 repeat go_big_quiet_step (fail)
 refine wpQuiet_nil ?_
 refine text_end (by kernel_rfl) ?_
 replace A0:=A0.below hW
 replace b1:=b1.trans (hW.mono b1.size)
 clear c0 c1 c2 c3 c4 c5 c6
 clear hnn hdi hi1 hi2
 go_wp2_with fail
 refine (HRF.out _ A0 (HRB.out _ b1)).mono ?_
 rintro e w3 ⟨rfl,hb3⟩
 replace A0:=A0.below hb3
 replace b1:=b1.trans (hb3.mono b1.size)
 clear hb3 HRF
 by_cases hR:RF=0
 case neg=>
  have hR' : (RF != 0)=true:=by simpa using hR
  have HD:Hid (D=RF):=by
   rcases HWY.out with ⟨h0,_⟩ | ⟨_,h0,_⟩ | ⟨_,_,h0,_⟩ | ⟨_,_,_,_,e⟩ | ⟨_,_,_,h0,_⟩ | ⟨_,_,_,h0,_⟩
   ·exact absurd rfl h0
   ·exact absurd HK.out h0
   ·exact absurd HS.out h0
   ·exact e
   all_goals exact absurd h0 hR
  clear HWY hR
  go_wp2
  go_ret
  exact ⟨by first | (rw [HD.out];done) | (rw [HD.out];rfl),b1⟩
 subst hR
 have hR' : ((0:Int) != 0)=false:=by decide
 have HW:Hid ((sameTs (done.map TxnQ.e) DL=false∧D=8)∨(sameTs (done.map TxnQ.e) DL=true∧D=0)):=by
  rcases HWY.out with ⟨h0,_⟩ | ⟨_,h0,_⟩ | ⟨_,_,h0,_⟩ | ⟨_,_,_,h0,_⟩ | ⟨_,_,_,_,e1,e2⟩ | ⟨_,_,_,_,e1,e2⟩
  ·exact absurd rfl h0
  ·exact absurd HK.out h0
  ·exact absurd HS.out h0
  ·exact absurd rfl h0
  ·exact Or.inl ⟨e1,e2⟩
  ·exact Or.inr ⟨e1,e2⟩
 clear HWY
 go_wp2_with fail
 clear hR'
 have HH:Hid (instK.At w (.slice va ps.length vc) ps):=h
 have c0:=A0.lat0 _ rfl
 have c1:=A0.lat 1 _ rfl
 have c2:=A0.lat 2 _ rfl
 have c3:=A0.lat 3 _ rfl
 have c4:=A0.lat 4 _ rfl
 have c5:=A0.lat 5 _ rfl
 have c6:=A0.lat 6 _ rfl
 have hW:Below w3.heap.size w3 w3.drew:=(Below.refl _ _).drew
 have hnn:Nonempty (Lat w3):=⟨⟨w3,Below.refl _ _⟩⟩
 refine text_begin (S:=fun w' => ∃ u:Lat w3,w' = u.val) (by kernel_rfl) ?_
 refine sgr [(0,10)] 3 (by kernel_rfl) ⟨⟨_,hW⟩,rfl⟩ ?_
 simp only [pkE]
 repeat go_big_quiet_step (fail)
 refine wpQuiet_nil ?_
 refine cla 10 (some 49) 75 #[.slice va ps.length vc,.int .i64 kn] 2 (by kernel_rfl) ?_
 refine (HDF.out _ (HH.out.below (b1.trans (hW.mono b1.size))) trivial HK.out).mono ?_
 rintro e w9 ⟨vq,qs,rfl,eq,oq,_,_,hb9⟩
 replace hW:=hW.trans (hb9.mono hW.size)
 obtain ⟨xa,xc,rfl⟩:=oq.shape
 clear hb9
 refine ⟨_,rfl,⟨⟨_,hW⟩,rfl⟩,?_⟩
 simp only [Act.put,pjE]
 refine cla 11 (some 50) 74 #[.slice a0 done.length k0,.slice xa qs.length xc] 1 (by kernel_rfl) ?_
 refine (HST.out _ qs _ ((repK.own_rd (HRB.out _ (b1.trans (hW.mono b1.size)))).1) oq.at eq).mono ?_
 rintro e w9 ⟨rfl,hb9⟩
 replace hW:=hW.trans (hb9.mono hW.size)
 clear hb9
 refine ⟨_,rfl,⟨⟨_,hW⟩,rfl⟩,?_⟩
 simp only [Act.put,pjE]
 refine sgr [(12,1)] 0 (by kernel_rfl) ⟨⟨_,hW⟩,rfl⟩ ?_
 simp only [pkE]
 repeat go_big_quiet_step (fail)
 refine wpQuiet_nil ?_
 refine text_end (by kernel_rfl) ?_
 have b2:=b1.trans (hW.mono b1.size)
 clear c0 c1 c2 c3 c4 c5 c6
 clear oq hW hnn
 rcases HW.out with ⟨e1,e2⟩ | ⟨e1,e2⟩
 ·rw [eq,e1]
  clear HW
  go_wp2
  go_ret
  exact ⟨by first | (rw [e2];done) | (rw [e2];rfl),b2⟩
 ·rw [eq,e1]
  clear HW
  go_wp2
  go_ret
  exact ⟨by first | (rw [e2];done) | (rw [e2];rfl),b2⟩

end Go.Proofs.YtjjoahhnkpjolaaGreatDoor
namespace Go.Proofs.YtjjoahhnkpjolaaGreatDoor
open Go.RowKit
open Go.BigFrame
set_option maxRecDepth 100000
set_option maxRecDepth 100000 in
set_option maxHeartbeats 8000000 in
theorem implNodeFault_any (v:Value) (ps:List InstQ) (kn sf:Int) (p:RepQ) (w:World) (hG:Rul w) (hE:ErrT w) (h:instK.At w v ps) (hcp:CapOk v) (hl:(ps.length + nmL InstQ.n ps)≤1048576) (hp:repK.rd w p) (nd:NiceV p.vd) (nt:NiceV p.vt) (hl' : p.n≤1048576) :
  Calls Tryz.prog 26 #[v,.agg #[.int .i64 kn,.int .i64 sf,p.vd,p.vb,p.vt,p.vu,p.vn]] w fun e w' => e=.returned (.int .i64 (nodF (ps.map InstQ.e) kn sf p.e))∧Below w.heap.size w w' := by
 have hdi:=fun w hG h=>implDecidedIn_any v ps w hG h hl
 have hdf:=fun w hG h=>implDefiniteOf_any v ps kn w hG h hcp hl
 have hrf:=fun w hE h=>implReplicaFault_any p w hE h nd nt hl'
 have hn1:p.done.length + nmL TxnQ.n p.done≤1048576:=by
  have:p.done.length + nmL TxnQ.n p.done≤p.n:=by simp only [RepQ.n];omega
  omega
 have hst:=fun v' (ys:List TxnQ) w h h' (hq:ys.map TxnQ.e=dfT (ps.map InstQ.e) kn)=>sameTx_k p.vd v' p.done ys w h h' hn1 (dfT_n hq hl)
 have hrb:=fun (w' : World) hb=>repK.rd_below (w' := w') hp hb
 have hways:=nod_ways (ps.map InstQ.e) kn sf p.e
 have hdt:=df_ways (ps.map InstQ.e) kn
 have hpd:p.e.done=p.done.map TxnQ.e:=rfl
 rw [hpd] at hways
 have hdv:Hid (ordF (ps.map InstQ.e)=0→diV (ps.map InstQ.e)=(decN (ps.map InstQ.e):Int)):=fun h0=>by unfold diV;rw [if_pos h0]
 generalize nodF (ps.map InstQ.e) kn sf p.e=D at *
 generalize dfT (ps.map InstQ.e) kn=DT at *
 generalize dfC (ps.map InstQ.e) kn=DC at *
 generalize defL (ps.map InstQ.e) kn.toNat=DL at *
 generalize ordF (ps.map InstQ.e)=C at *
 generalize diV (ps.map InstQ.e)=VV at *
 generalize (decN (ps.map InstQ.e):Int)=M at *
 generalize repF p.e=RF at *
 clear hpd
 obtain ⟨vd,done,vb,base,vt,tent,vu,undos,vn,now⟩:=p
 obtain ⟨a0,k0,rfl⟩:∃ a c,vd=.slice a done.length c:=hp.1.shape
 obtain ⟨a1,k1,rfl⟩:∃ a c,vb=.slice a base.length c:=hp.2.1.shape
 obtain ⟨a2,k2,rfl⟩:∃ a c,vt=.slice a tent.length c:=hp.2.2.1.shape
 obtain ⟨a3,k3,rfl⟩:∃ a c,vu=.slice a undos.length c:=hp.2.2.2.1.shape
 obtain ⟨a4,k4,rfl⟩:∃ a c,vn=.slice a now.length c:=hp.2.2.2.2.shape
 obtain ⟨va,vc,rfl⟩:=h.shape
 dsimp only at hrf hst hrb hways
 clear nd nt hl' hn1
 have b0:Below w.heap.size w (w.alloc (.cells #[.int .i64 kn,.int .i64 sf,.slice a0 done.length k0,.slice a1 base.length k1,.slice a2 tent.length k2,.slice a3 undos.length k3,.slice a4 now.length k4] 58)):=by go_grown
 have A0:=Blk.new w 58 #[.int .i64 kn,.int .i64 sf,.slice a0 done.length k0,.slice a1 base.length k1,.slice a2 tent.length k2,.slice a3 undos.length k3,.slice a4 now.length k4]
 go_enter Tryz.func26,Tryz.ntmps26
 go_wp2_with fail
 generalize w.alloc (.cells #[.int .i64 kn,.int .i64 sf,.slice a0 done.length k0,.slice a1 base.length k1,.slice a2 tent.length k2,.slice a3 undos.length k3,.slice a4 now.length k4] 58)=W at *
 refine (hdi W (hG.below b0) (h.below b0)).mono ?_
 rintro e w1 ⟨rfl,hb⟩
 replace A0:=A0.below hb
 replace b0:=b0.trans (hb.mono b0.size)
 clear hb hdi
 have S0:=Blk.new w1 42 #[.int .i64 C,.int .i64 VV]
 have hb:Below w1.heap.size w1 (w1.alloc (.cells #[.int .i64 C,.int .i64 VV] 42)):=by go_grown
 have A1:=A0.below hb
 have b1:=b0.trans (hb.mono b0.size)
 by_cases hC:C=0
 case neg=>
  have hC' : (C != 0)=true:=by simpa using hC
  have HD:Hid (D=C):=by
   rcases hways with ⟨_,e⟩ | ⟨h0,_⟩ | ⟨h0,_⟩ | ⟨h0,_⟩ | ⟨h0,_⟩ | ⟨h0,_⟩
   ·exact e
   all_goals exact absurd h0 hC
  clear hways hdt hdv hdf hrf hst hrb hC
  obtain ⟨q0,q1⟩:=S0.cel2
  go_wp2
  go_ret
  exact ⟨by first | (rw [HD.out];done) | (rw [HD.out];rfl),b1⟩
 have hV:=(hdv.out hC).symm
 subst hC
 subst hV
 clear hdv
 have hC' : ((0:Int) != 0)=false:=by decide
 obtain ⟨q0,q1⟩:=S0.cel2
 obtain ⟨p0,p1,p2,p3,p4,p5,p6⟩:=A1.cel7
 go_wp2_with fail
 clear q0 q1
 generalize w1.alloc (.cells #[.int .i64 0,.int .i64 M] 42)=W1 at *
 have hi1:=isWithin_any kn 0 M W1
 by_cases hk:0≤kn∧kn≤M
 case neg=>
  have HD:Hid (D=3):=by
   rcases hways with ⟨h0,_⟩ | ⟨_,_,e⟩ | ⟨_,h0,_⟩ | ⟨_,h0,_⟩ | ⟨_,h0,_⟩ | ⟨_,h0,_⟩
   ·exact absurd rfl h0
   ·exact e
   all_goals exact absurd h0 hk
  have hz:inW kn 0 M=false:=by unfold inW;simp only [Bool.and_eq_false_iff,decide_eq_false_iff_not];omega
  rw [hz] at hi1
  clear hways hdt hdf hrf hst hrb hk hz
  refine hi1.mono ?_
  rintro e w2 ⟨rfl,rfl⟩
  go_wp2
  go_ret
  exact ⟨by first | (rw [HD.out];done) | (rw [HD.out];rfl),b1⟩
 have hz:inW kn 0 M=true:=by unfold inW;simp only [Bool.and_eq_true,decide_eq_true_eq];exact hk
 rw [hz] at hi1
 refine hi1.mono ?_
 rintro e w2 ⟨rfl,hw2⟩
 replace hw2:=hw2.symm
 subst hw2
 clear hi1 hz
 have hi2:=isWithin_any sf 0 kn W1
 go_wp2_with fail
 by_cases hs:0≤sf∧sf≤kn
 case neg=>
  have HD:Hid (D=3):=by
   rcases hways with ⟨h0,_⟩ | ⟨_,h0,_⟩ | ⟨_,_,_,e⟩ | ⟨_,_,h0,_⟩ | ⟨_,_,h0,_⟩ | ⟨_,_,h0,_⟩
   ·exact absurd rfl h0
   ·exact absurd hk h0
   ·exact e
   all_goals exact absurd h0 hs
  have hz:inW sf 0 kn=false:=by unfold inW;simp only [Bool.and_eq_false_iff,decide_eq_false_iff_not];omega
  rw [hz] at hi2
  clear hways hdt hdf hrf hst hrb hk hz hs
  refine hi2.mono ?_
  rintro e w2 ⟨rfl,rfl⟩
  go_wp2
  go_ret
  exact ⟨by first | (rw [HD.out];done) | (rw [HD.out];rfl),b1⟩
 have hz:inW sf 0 kn=true:=by unfold inW;simp only [Bool.and_eq_true,decide_eq_true_eq];exact hs
 rw [hz] at hi2
 refine hi2.mono ?_
 rintro e w2 ⟨rfl,hw2⟩
 replace hw2:=hw2.symm
 subst hw2
 clear hi2 hz
 go_wp2_with fail
 clear p0 p1 p2 p3 p4 p5 p6
 refine (hrf W1 (hE.below b1) (hrb W1 b1)).mono ?_
 rintro e w3 ⟨rfl,hb3⟩
 replace A1:=A1.below hb3
 replace b1:=b1.trans (hb3.mono b1.size)
 clear hb3 hrf hb S0 A0
 by_cases hR:RF=0
 case neg=>
  have hR' : (RF != 0)=true:=by simpa using hR
  have HD:Hid (D=RF):=by
   rcases hways with ⟨h0,_⟩ | ⟨_,h0,_⟩ | ⟨_,_,h0,_⟩ | ⟨_,_,_,_,e⟩ | ⟨_,_,_,h0,_⟩ | ⟨_,_,_,h0,_⟩
   ·exact absurd rfl h0
   ·exact absurd hk h0
   ·exact absurd hs h0
   ·exact e
   all_goals exact absurd h0 hR
  clear hways hdt hdf hst hrb hk hs hR
  go_wp2
  go_ret
  exact ⟨by first | (rw [HD.out];done) | (rw [HD.out];rfl),b1⟩
 subst hR
 have hR' : ((0:Int) != 0)=false:=by decide
 have hT:DT=DL:=by
  rcases hdt with ⟨h0,_⟩ | ⟨_,h0,_⟩ | ⟨_,_,_,e⟩
  ·exact absurd rfl h0
  ·exact absurd hk h0
  ·exact e
 subst hT
 have HW:Hid ((sameTs (done.map TxnQ.e) DT=false∧D=8)∨(sameTs (done.map TxnQ.e) DT=true∧D=0)):=by
  rcases hways with ⟨h0,_⟩ | ⟨_,h0,_⟩ | ⟨_,_,h0,_⟩ | ⟨_,_,_,h0,_⟩ | ⟨_,_,_,_,e1,e2⟩ | ⟨_,_,_,_,e1,e2⟩
  ·exact absurd rfl h0
  ·exact absurd hk h0
  ·exact absurd hs h0
  ·exact absurd rfl h0
  ·exact Or.inl ⟨e1,e2⟩
  ·exact Or.inr ⟨e1,e2⟩
 clear hways hdt hk hs
 have HDF:Hid _:=hdf
 have HST:Hid _:=hst
 have HRB:Hid _:=hrb
 have HH:Hid (instK.At w (.slice va ps.length vc) ps):=h
 have HGG:Hid (Rul w):=hG
 clear hdf hst hrb hE hl hcp
 go_wp2_with fail
 clear hR'
 obtain ⟨c0,c1,c2,c3,c4,c5,c6⟩:=A1.lts7
 have hW:Below w3.heap.size w3 w3.drew:=(Below.refl _ _).drew
 have hnn:Nonempty (Lat w3):=⟨⟨w3,Below.refl _ _⟩⟩
 refine text_begin (S:=fun w' => ∃ u:Lat w3,w' = u.val) (by kernel_rfl) ?_
 refine sgr [(0,6)] 4 (by kernel_rfl) ⟨⟨_,hW⟩,rfl⟩ ?_
 simp only [pkE]
 repeat go_big_quiet_step (fail)
 refine wpQuiet_nil ?_
 refine cla 6 (some 40) 50 #[.slice va ps.length vc,.int .i64 kn] 3 (by kernel_rfl) ?_
 refine (HDF.out _ (HGG.out.below (b1.trans (hW.mono b1.size))) (HH.out.below (b1.trans (hW.mono b1.size)))).mono ?_
 rintro e w9 ⟨vq,qs,rfl,eq,oq,_,_,hb9⟩
 replace hW:=hW.trans (hb9.mono hW.size)
 obtain ⟨xa,xc,rfl⟩:=oq.shape
 clear hb9
 refine ⟨_,rfl,⟨⟨_,hW⟩,rfl⟩,?_⟩
 simp only [Act.put,pjE]
 refine qta 7 (some 41) (.slice xa qs.length xc) 2 (by kernel_rfl) (fun u _=>by kernel_rfl) ⟨⟨_,hW⟩,rfl⟩ ?_
 simp only [Act.put,pjE]
 refine cla 8 (some 42) 49 #[.slice a0 done.length k0,.slice xa qs.length xc] 1 (by kernel_rfl) ?_
 refine (HST.out _ qs _ ((HRB.out _ (b1.trans (hW.mono b1.size))).1) oq.at eq).mono ?_
 rintro e w9 ⟨rfl,hb9⟩
 replace hW:=hW.trans (hb9.mono hW.size)
 clear hb9
 refine ⟨_,rfl,⟨⟨_,hW⟩,rfl⟩,?_⟩
 simp only [Act.put,pjE]
 refine sgr [(9,1)] 0 (by kernel_rfl) ⟨⟨_,hW⟩,rfl⟩ ?_
 simp only [pkE]
 repeat go_big_quiet_step (fail)
 refine wpQuiet_nil ?_
 refine text_end (by kernel_rfl) ?_
 have b2:=b1.trans (hW.mono b1.size)
 clear c0 c1 c2 c3 c4 c5 c6
 clear oq hW hnn
 rcases HW.out with ⟨e1,e2⟩ | ⟨e1,e2⟩
 ·rw [eq,e1]
  clear HW
  go_wp2
  go_ret
  exact ⟨by first | (rw [e2];done) | (rw [e2];rfl),b2⟩
 ·rw [eq,e1]
  clear HW
  go_wp2
  go_ret
  exact ⟨by first | (rw [e2];done) | (rw [e2];rfl),b2⟩

end Go.Proofs.YtjjoahhnkpjolaaGreatDoor
