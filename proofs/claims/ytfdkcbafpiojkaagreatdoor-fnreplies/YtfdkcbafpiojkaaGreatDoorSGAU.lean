/- Texts joined, with what the laws reach alone. -/
import Derived.Test.YtfdkcbafpiojkaaGreatDoorSGAT
import Derived.Test.YtfdkcbafpiojkaaGreatDoorSGAG
import Derived.Test.YtfdkcbafpiojkaaGreatDoorSGAH
set_option linter.unusedVariables false
set_option linter.unusedSimpArgs false
namespace Go.Proofs.YtfdkcbafpiojkaaGreatDoor
open Go.RowKit
set_option maxRecDepth 100000
theorem knw_false {acc:List TxnD} {t:TxnD}:knw acc t=false↔∀ a∈acc,stF a t=false:=by
 unfold knw
 rw [List.any_eq_false]
 simp

theorem lstGo_iff:∀ (r acc:List TxnD),lstGo acc r=0↔(∀ t∈r,t.F=0)∧r.Pairwise (fun a b=>stF a b=false)∧∀ a∈acc,∀ t∈r,stF a t=false
 | [],acc=>by simp [lstGo]
 | x :: r,acc=>by
  rw [lstGo]
  constructor
  ·intro h
   by_cases h0:stpF acc x=0
   ·rw [if_pos h0] at h
    obtain ⟨h1,h2⟩:=stp_zero h0
    obtain ⟨i1,i2,i3⟩:=(lstGo_iff r (acc ++ [x])).1 h
    refine ⟨fun t ht=>?_,List.pairwise_cons.2 ⟨fun t ht=>i3 x (by simp) t ht,i2⟩,fun a ha t ht=>?_⟩
    ·rcases List.mem_cons.1 ht with rfl | ht
     ·exact h1
     ·exact i1 t ht
    ·rcases List.mem_cons.1 ht with rfl | ht
     ·exact knw_false.1 h2 a ha
     ·exact i3 a (by simp [ha]) t ht
   ·rw [if_neg h0] at h
    exact absurd h h0
  ·rintro ⟨h1,h2,h3⟩
   have hx:stpF acc x=0:=by
    unfold stpF
    rw [if_pos (h1 x (by simp)),knw_false.2 (fun a ha=>h3 a ha x (by simp))]
    rfl
   rw [if_pos hx]
   obtain ⟨p1,p2⟩:=List.pairwise_cons.1 h2
   refine (lstGo_iff r (acc ++ [x])).2 ⟨fun t ht=>h1 t (List.mem_cons_of_mem _ ht),p2,fun a ha t ht=>?_⟩
   rcases List.mem_append.1 ha with ha | ha
   ·exact h3 a ha t (List.mem_cons_of_mem _ ht)
   ·rw [List.mem_singleton.1 ha]
    exact p1 t ht

theorem lst_iff (ds:List TxnD):lstF ds=0↔ds.length≤40∧(∀ t∈ds,t.F=0)∧ds.Pairwise (fun a b=>stF a b=false):=by
 unfold lstF
 by_cases h:40 < ds.length
 ·rw [if_pos h]
  constructor
  ·intro h;exact absurd h (by decide)
  ·intro h1;omega
 ·rw [if_neg h,lstGo_iff]
  constructor
  ·rintro ⟨h1,h2,_⟩;exact ⟨by omega,h1,h2⟩
  ·rintro ⟨_,h1,h2⟩;exact ⟨h1,h2,fun a ha=>by simp at ha⟩

theorem few_n {qs:List TxnQ} (h:∀ t∈qs.map TxnQ.e,t.F=0):nmL TxnQ.n qs≤4 * qs.length:=by
 induction qs with
 | nil=>simp [nmL]
 | cons q r ih=>
  have h1:(TxnQ.e q).F=0:=h _ (by simp)
  have h2:=(txnF_zero h1).2.2.2.1.2
  have h3:q.acts.length≤4:=h2
  have:=ih (fun t ht=>h t (by simp only [List.map_cons,List.mem_cons];exact Or.inr ht))
  simp only [nmL,List.map_cons,List.sum_cons,List.length_cons,TxnQ.n] at this ⊢
  omega

/-- The fault of a replica. -/
def repF (r:RepE):Int:=if 16 < r.done.length∨8 < r.tent.length then 2 else if lstF (r.done ++ r.tent)=0 then (if sameRep (mkR r.done r.tent) r=true then 0 else 8) else lstF (r.done ++ r.tent)

theorem rep_many {r:RepE} (h:16 < r.done.length∨8 < r.tent.length):repF r=2:=by unfold repF;rw [if_pos h]

theorem rep_list {r:RepE} (h:¬ (16 < r.done.length∨8 < r.tent.length)) (h2:lstF (r.done ++ r.tent)≠0):repF r=lstF (r.done ++ r.tent):=by unfold repF;rw [if_neg h,if_neg h2]

theorem rep_same {r:RepE} (h:¬ (16 < r.done.length∨8 < r.tent.length)) (h2:lstF (r.done ++ r.tent)=0):repF r=if sameRep (mkR r.done r.tent) r=true then 0 else 8:=by unfold repF;rw [if_neg h,if_pos h2]

theorem rep_zero {r:RepE} (h:repF r=0):(r.done.length≤16∧r.tent.length≤8)∧lstF (r.done ++ r.tent)=0∧sameRep (mkR r.done r.tent) r=true:=by
 by_cases h1:16 < r.done.length∨8 < r.tent.length
 ·rw [rep_many h1] at h;exact absurd h (by decide)
 ·by_cases h2:lstF (r.done ++ r.tent)=0
  ·rw [rep_same h1 h2] at h
   refine ⟨by omega,h2,?_⟩
   split at h
   ·assumption
   ·exact absurd h (by decide)
  ·rw [rep_list h1 h2] at h
   exact absurd h h2

theorem lst_F {ds:List TxnD} (h:lstF ds=0):∀ t∈ds,t.F=0:=((lst_iff ds).1 h).2.1

theorem und_four {xs:List ItemD} {E:List TxnD} (hl:xs.length≤8) (g:Good xs) (hF:∀ t∈E,t.F=0):∀ u∈undL xs E,u.length≤4:=by
 induction E generalizing xs with
 | nil=>intro u hu;simp [undL,deedsE] at hu
 | cons t r ih=>
  intro u hu
  have ht:=hF t (by simp)
  simp only [undL,deedsE,List.map_cons,List.mem_cons] at hu
  rcases hu with rfl | hu
  ·have hz:=acts_of_F (show txnF t.id t.session t.seq t.acts=0 from ht)
   unfold runU
   split
   ·have:=(unR_parts hl g hz.2 (by assumption)).1
    omega
   ·simp
  ·have g2:=nextI_good hl g ht
   exact ih g2.1 g2.2 (fun t' h' => hF t' (List.mem_cons_of_mem _ h')) u hu

/-- What the model of a replica holds is small. -/
theorem mk_small {p:RepQ} {D E:List TxnD} (h:p.e=mkR D E) (hD:∀ t∈D,t.F=0) (hE:∀ t∈E,t.F=0) (lD:D.length≤40) (lE:E.length≤40):p.n≤1000:=by
 simp only [RepQ.e,mkR,RepE.mk.injEq] at h
 obtain ⟨h0,h1,h2,h3,h4⟩:=h
 have g0:=allI_good (xs:=[]) (by simp) nil_good hD
 have g1:=allI_good g0.1 g0.2 hE
 have n0:=few_n (qs:=p.done) (by rw [h0];exact hD)
 have n2:=few_n (qs:=p.tent) (by rw [h2];exact hE)
 have l0:p.done.length=D.length:=by simpa using congrArg List.length h0
 have l2:p.tent.length=E.length:=by simpa using congrArg List.length h2
 have l3:p.undos.length=E.length:=by
  have:=congrArg List.length h3
  simpa [undL,deeds_len] using this
 have n3:nmL USQ.n p.undos≤4 * p.undos.length:=by
  have hu:∀ u∈p.undos,u.us.length≤4:=fun u hu=>by
   have:u.us∈undL (allI [] D) E:=by rw [← h3];exact List.mem_map.2 ⟨u,hu,rfl⟩
   exact und_four g0.1 g0.2 hE _ this
  clear h3 l3
  revert hu
  generalize p.undos=U
  intro hu
  induction U with
  | nil=>simp [nmL]
  | cons u r ih=>
   have:=ih (fun v hv=>hu v (List.mem_cons_of_mem _ hv))
   have h4:=hu u (by simp)
   simp only [nmL,List.map_cons,List.sum_cons,List.length_cons,USQ.n] at this ⊢
   omega
 unfold RepQ.n
 rw [h1,h4,l0,l2,l3]
 rw [l0] at n0
 rw [l2] at n2
 rw [l3] at n3
 have:=g0.1
 have:=g1.1
 omega

end Go.Proofs.YtfdkcbafpiojkaaGreatDoor
namespace Go.Proofs.YtfdkcbafpiojkaaGreatDoor
open Go.RowKit
open Go.BigFrame
set_option maxRecDepth 100000
structure Wrp (P:Prop):Prop where
 out:P

/-- The error of a code. -/
def misC (c:Int):Value:=if c=0 then .nilIface else .iface 195 (.agg #[.int .i64 c])

theorem codeOf_any (c:Int) (w:World) (hg:ErrT w):Calls Tryz.prog 67 #[misC c] w fun e w' => e=.returned (.int .i64 c)∧Below w.heap.size w w' := by
 unfold misC
 by_cases h:c=0
 ·rw [if_pos h,h]
  exact codeOf_nil w
 ·rw [if_neg h]
  exact codeOf_hit c w hg

/-- What checkedRecord leaves. -/
def CkPost (p:RepQ) (w:World) (e:Ending) (w' : World):Prop:=∃ (a0 a1 a2 a3:Option Addr) (l0 c0 l1 c1 l2 c2 l3 c3:Nat),e=.returned (.tuple #[.agg #[.slice a0 l0 c0,.slice a1 l1 c1,.slice a2 l2 c2,.slice a3 l3 c3],misC (repF p.e)])∧(repF p.e=0→∃ w1,Below w.heap.size w w1∧RecPost w1 w' (.slice a0 l0 c0) (.slice a1 l1 c1) (.slice a2 l2 c2) (.slice a3 l3 c3) (p.done.map TxnQ.e) (p.tent.map TxnQ.e))∧Below w.heap.size w w'

theorem ck_bad {p:RepQ} {w w' : World} {c:Int} {a0 a1 a2 a3:Option Addr} {l0 c0 l1 c1 l2 c2 l3 c3:Nat} (h:repF p.e=c) (hne:c≠0) (hb:Below w.heap.size w w'):CkPost p w (.returned (.tuple #[.agg #[.slice a0 l0 c0,.slice a1 l1 c1,.slice a2 l2 c2,.slice a3 l3 c3],.iface 195 (.agg #[.int .i64 c])])) w' :=
 ⟨a0,a1,a2,a3,l0,c0,l1,c1,l2,c2,l3,c3,by rw [h,show misC c=.iface 195 (.agg #[.int .i64 c]) from if_neg hne],fun h0=>absurd (h.symm.trans h0) hne,hb⟩

theorem ck_ok {p:RepQ} {w w1 w' : World} {a0 a1 a2 a3:Option Addr} {l0 c0 l1 c1 l2 c2 l3 c3:Nat} (h:repF p.e=0) (h1:Below w.heap.size w w1) (hp:RecPost w1 w' (.slice a0 l0 c0) (.slice a1 l1 c1) (.slice a2 l2 c2) (.slice a3 l3 c3) (p.done.map TxnQ.e) (p.tent.map TxnQ.e)) (hb:Below w.heap.size w w'):CkPost p w (.returned (.tuple #[.agg #[.slice a0 l0 c0,.slice a1 l1 c1,.slice a2 l2 c2,.slice a3 l3 c3],.nilIface])) w' :=
 ⟨a0,a1,a2,a3,l0,c0,l1,c1,l2,c2,l3,c3,by rw [h];rfl,fun _=>⟨w1,h1,hp⟩,hb⟩

theorem RecPost.below {w w' w'' : World} {vN iN vU iU:Value} {D E:List TxnD} (h:RecPost w w' vN iN vU iU D E) (hb:Below w'.heap.size w' w''):RecPost w w'' vN iN vU iU D E:=by
 obtain ⟨ds,us,rb,B0,R,r⟩:=h
 exact ⟨ds,us,rb,B0,R.below hb,r⟩

set_option maxRecDepth 100000 in
set_option maxHeartbeats 16000000 in
theorem checked_any (p:RepQ) (w:World) (h:repK.rd w p) (nd:NiceV p.vd) (nt:NiceV p.vt) (hl:p.n≤1048576) :
  Calls Tryz.prog 80 #[.agg #[p.vd,p.vb,p.vt,p.vu,p.vn]] w (CkPost p w):=by
 obtain ⟨pvd,pd,pvb,pb,pvt,pt,pvu,pu,pvn,pn⟩:=p
 obtain ⟨p0,p5,rfl⟩:∃ a c,pvd=.slice a pd.length c:=h.1.shape
 obtain ⟨p1,p6,rfl⟩:∃ a c,pvb=.slice a pb.length c:=h.2.1.shape
 obtain ⟨p2,p7,rfl⟩:∃ a c,pvt=.slice a pt.length c:=h.2.2.1.shape
 obtain ⟨p3,p8,rfl⟩:∃ a c,pvu=.slice a pu.length c:=h.2.2.2.1.shape
 obtain ⟨p4,p9,rfl⟩:∃ a c,pvn=.slice a pn.length c:=h.2.2.2.2.shape
 dsimp only [RepQ.n] at hl
 have n0:=nd _ _ _ rfl
 have n2:=nt _ _ _ rfl
 have HW:=True.intro
 have hr:=fun (w' : World) hb=>repK.rd_below (w' := w') h hb
 have HND:Hid (NiceV (.slice p0 pd.length p5)∧NiceV (.slice p2 pt.length p7)):=⟨nd,nt⟩
 clear n0 n2 nd nt h HW
 have hb0:Below w.heap.size w ((w.alloc (.cells #[.slice p0 pd.length p5,.slice p1 pb.length p6,.slice p2 pt.length p7,.slice p3 pu.length p8,.slice p4 pn.length p9] 32)).alloc (.cells #[.slice none 0 0,.slice none 0 0,.slice none 0 0,.slice none 0 0] 103)):=by go_grown
 have B:=(Blk.new w 32 #[.slice p0 pd.length p5,.slice p1 pb.length p6,.slice p2 pt.length p7,.slice p3 pu.length p8,.slice p4 pn.length p9]).below (w' := ((w.alloc (.cells #[.slice p0 pd.length p5,.slice p1 pb.length p6,.slice p2 pt.length p7,.slice p3 pu.length p8,.slice p4 pn.length p9] 32)).alloc (.cells #[.slice none 0 0,.slice none 0 0,.slice none 0 0,.slice none 0 0] 103))) (by go_grown)
 have Bv:=Blk.new (w.alloc (.cells #[.slice p0 pd.length p5,.slice p1 pb.length p6,.slice p2 pt.length p7,.slice p3 pu.length p8,.slice p4 pn.length p9] 32)) 103 #[.slice none 0 0,.slice none 0 0,.slice none 0 0,.slice none 0 0]
 rw [World.size_alloc] at Bv
 have hs0:w.heap.size + 2≤((w.alloc (.cells #[.slice p0 pd.length p5,.slice p1 pb.length p6,.slice p2 pt.length p7,.slice p3 pu.length p8,.slice p4 pn.length p9] 32)).alloc (.cells #[.slice none 0 0,.slice none 0 0,.slice none 0 0,.slice none 0 0] 103)).heap.size:=by simp only [World.size_alloc];omega
 have hpd:(pd.length:Int)≤1048576:=by omega
 have hpt:(pt.length:Int)≤1048576:=by omega
 have q0:=B.cell 0 _ rfl
 have q2:=B.cell 2 _ rfl
 go_enter Tryz.func80,Tryz.ntmps80
 by_cases hm:16 < pd.length∨8 < pt.length
 ·have HC:Hid (repF (RepQ.e (⟨.slice p0 pd.length p5,pd,.slice p1 pb.length p6,pb,.slice p2 pt.length p7,pt,.slice p3 pu.length p8,pu,.slice p4 pn.length p9,pn⟩:RepQ))=2):=show _=_ from rep_many (by simpa [RepQ.e] using hm)
  clear hr HND
  by_cases h16:16 < pd.length
  ·have i16:(16:Int) < (pd.length:Int):=by omega
   have z0:=Bv.cell 0 _ rfl
   have z1:=Bv.cell 1 _ rfl
   have z2:=Bv.cell 2 _ rfl
   have z3:=Bv.cell 3 _ rfl
   have y0:=Bv.frozen 0
   have y1:=Bv.frozen 1
   have y2:=Bv.frozen 2
   have y3:=Bv.frozen 3
   have HB:Hid (∀ u0 u1 u2 u3:Value,Below w.heap.size w ((((((w.alloc (.cells #[.slice p0 pd.length p5,.slice p1 pb.length p6,.slice p2 pt.length p7,.slice p3 pu.length p8,.slice p4 pn.length p9] 32)).alloc (.cells #[.slice none 0 0,.slice none 0 0,.slice none 0 0,.slice none 0 0] 103)).setCell ⟨w.heap.size + 1,0,none⟩ u0).setCell ⟨w.heap.size + 1,1,none⟩ u1).setCell ⟨w.heap.size + 1,2,none⟩ u2).setCell ⟨w.heap.size + 1,3,none⟩ u3)):=fun u0 u1 u2 u3=>(((hb0.setCell (p:=⟨w.heap.size + 1,0,none⟩) (by show w.heap.size≤w.heap.size + 1;omega) u0).setCell (p:=⟨w.heap.size + 1,1,none⟩) (by show w.heap.size≤w.heap.size + 1;omega) u1).setCell (p:=⟨w.heap.size + 1,2,none⟩) (by show w.heap.size≤w.heap.size + 1;omega) u2).setCell (p:=⟨w.heap.size + 1,3,none⟩) (by show w.heap.size≤w.heap.size + 1;omega) u3
   go_wp2
   exact bodyPost_ret (v:=.tuple #[.agg #[.slice none 0 0,.slice none 0 0,.slice none 0 0,.slice none 0 0],.iface 195 (.agg #[.int .i64 2])]) (by simp [results,Tryz.results80,go_sem,z0,z1,z2,z3]) rfl (ck_bad HC.out (by first | decide | exact hne) hb0)
  ·have i16:¬ (16:Int) < (pd.length:Int):=by omega
   have i8:(8:Int) < (pt.length:Int):=by omega
   have z0:=Bv.cell 0 _ rfl
   have z1:=Bv.cell 1 _ rfl
   have z2:=Bv.cell 2 _ rfl
   have z3:=Bv.cell 3 _ rfl
   have y0:=Bv.frozen 0
   have y1:=Bv.frozen 1
   have y2:=Bv.frozen 2
   have y3:=Bv.frozen 3
   have HB:Hid (∀ u0 u1 u2 u3:Value,Below w.heap.size w ((((((w.alloc (.cells #[.slice p0 pd.length p5,.slice p1 pb.length p6,.slice p2 pt.length p7,.slice p3 pu.length p8,.slice p4 pn.length p9] 32)).alloc (.cells #[.slice none 0 0,.slice none 0 0,.slice none 0 0,.slice none 0 0] 103)).setCell ⟨w.heap.size + 1,0,none⟩ u0).setCell ⟨w.heap.size + 1,1,none⟩ u1).setCell ⟨w.heap.size + 1,2,none⟩ u2).setCell ⟨w.heap.size + 1,3,none⟩ u3)):=fun u0 u1 u2 u3=>(((hb0.setCell (p:=⟨w.heap.size + 1,0,none⟩) (by show w.heap.size≤w.heap.size + 1;omega) u0).setCell (p:=⟨w.heap.size + 1,1,none⟩) (by show w.heap.size≤w.heap.size + 1;omega) u1).setCell (p:=⟨w.heap.size + 1,2,none⟩) (by show w.heap.size≤w.heap.size + 1;omega) u2).setCell (p:=⟨w.heap.size + 1,3,none⟩) (by show w.heap.size≤w.heap.size + 1;omega) u3
   go_wp2
   exact bodyPost_ret (v:=.tuple #[.agg #[.slice none 0 0,.slice none 0 0,.slice none 0 0,.slice none 0 0],.iface 195 (.agg #[.int .i64 2])]) (by simp [results,Tryz.results80,go_sem,z0,z1,z2,z3]) rfl (ck_bad HC.out (by first | decide | exact hne) hb0)
 have i16:¬ (16:Int) < (pd.length:Int):=by omega
 have i8:¬ (8:Int) < (pt.length:Int):=by omega
 have hl16:pd.length≤16:=by omega
 have hl8:pt.length≤8:=by omega
 have hm' : ¬ (16 < (pd.map TxnQ.e).length∨8 < (pt.map TxnQ.e).length):=by simpa using hm
 have hbC:Below ((w.alloc (.cells #[.slice p0 pd.length p5,.slice p1 pb.length p6,.slice p2 pt.length p7,.slice p3 pu.length p8,.slice p4 pn.length p9] 32)).alloc (.cells #[.slice none 0 0,.slice none 0 0,.slice none 0 0,.slice none 0 0] 103)).heap.size ((w.alloc (.cells #[.slice p0 pd.length p5,.slice p1 pb.length p6,.slice p2 pt.length p7,.slice p3 pu.length p8,.slice p4 pn.length p9] 32)).alloc (.cells #[.slice none 0 0,.slice none 0 0,.slice none 0 0,.slice none 0 0] 103)) (((w.alloc (.cells #[.slice p0 pd.length p5,.slice p1 pb.length p6,.slice p2 pt.length p7,.slice p3 pu.length p8,.slice p4 pn.length p9] 32)).alloc (.cells #[.slice none 0 0,.slice none 0 0,.slice none 0 0,.slice none 0 0] 103)).alloc (.cells #[.slice p0 pd.length p5,.slice p2 pt.length p7] 28)):=by go_grown
 have BC:=Blk.new ((w.alloc (.cells #[.slice p0 pd.length p5,.slice p1 pb.length p6,.slice p2 pt.length p7,.slice p3 pu.length p8,.slice p4 pn.length p9] 32)).alloc (.cells #[.slice none 0 0,.slice none 0 0,.slice none 0 0,.slice none 0 0] 103)) 28 #[.slice p0 pd.length p5,.slice p2 pt.length p7]
 simp only [World.size_alloc] at BC
 have hcc:=concat9_any (w.heap.size + 1 + 1) 2 (.slice p0 pd.length p5) (.slice p2 pt.length p7) pd pt (((w.alloc (.cells #[.slice p0 pd.length p5,.slice p1 pb.length p6,.slice p2 pt.length p7,.slice p3 pu.length p8,.slice p4 pn.length p9] 32)).alloc (.cells #[.slice none 0 0,.slice none 0 0,.slice none 0 0,.slice none 0 0] 103)).alloc (.cells #[.slice p0 pd.length p5,.slice p2 pt.length p7] 28)) BC.lt (BC.cell 0 _ rfl) (BC.cell 1 _ rfl) ((hr _ (hb0.trans (hbC.mono hb0.size))).1) ((hr _ (hb0.trans (hbC.mono hb0.size))).2.2.1) HND.out.1 HND.out.2 (by omega)
 have HCC:=Wrp.mk hcc
 have HR:=Wrp.mk hr
 have HM:=Wrp.mk hm'
 clear hcc hr hm hm' HND
 go_wp2_with fail
 clear q0 q2
 have hr:=HR.out
 have hm' := HM.out
 clear HR HM
 replace B:=B.below hbC
 replace Bv:=Bv.below hbC
 replace hb0:=hb0.trans (hbC.mono hb0.size)
 have hs1:w.heap.size + 2≤(((w.alloc (.cells #[.slice p0 pd.length p5,.slice p1 pb.length p6,.slice p2 pt.length p7,.slice p3 pu.length p8,.slice p4 pn.length p9] 32)).alloc (.cells #[.slice none 0 0,.slice none 0 0,.slice none 0 0,.slice none 0 0] 103)).alloc (.cells #[.slice p0 pd.length p5,.slice p2 pt.length p7] 28)).heap.size:=by have:=hbC.size;omega
 clear hbC BC hs0
 generalize ((w.alloc (.cells #[.slice p0 pd.length p5,.slice p1 pb.length p6,.slice p2 pt.length p7,.slice p3 pu.length p8,.slice p4 pn.length p9] 32)).alloc (.cells #[.slice none 0 0,.slice none 0 0,.slice none 0 0,.slice none 0 0] 103)).alloc (.cells #[.slice p0 pd.length p5,.slice p2 pt.length p7] 28)=X at *
 generalize hH:w.heap.size=H at *
 refine HCC.out.mono ?_
 rintro e w2 ⟨vc,rfl,oc,hb2⟩
 clear HCC
 replace B:=B.below hb2
 replace Bv:=Bv.below hb2
 replace hb0:=hb0.trans (hb2.mono (by omega))
 have hs2:=hb2.size
 have hA2:txnK.At w2 vc (pd ++ pt):=Kind.at_of_row oc (fun q hq=>by
  have h2:=hr w2 hb0
  rcases List.mem_append.1 hq with hq | hq
  ·exact h2.1.rdm hq
  ·exact h2.2.2.1.rdm hq)
 have hlf:=implListFault_any vc (pd ++ pt) w2 hA2 (by
  have e:nmL TxnQ.n (pd ++ pt)=nmL TxnQ.n pd + nmL TxnQ.n pt:=by simp [nmL]
  rw [List.length_append,e]
  omega)
 obtain ⟨ca,ck,rfl⟩:=hA2.shape
 clear hA2 oc hb2
 rw [List.map_append,List.length_append] at hlf
 by_cases hL:lstF (pd.map TxnQ.e ++ pt.map TxnQ.e)=0
 case neg=>
  have hne:=hL
  have HC:Hid (repF (RepQ.e (⟨.slice p0 pd.length p5,pd,.slice p1 pb.length p6,pb,.slice p2 pt.length p7,pt,.slice p3 pu.length p8,pu,.slice p4 pn.length p9,pn⟩:RepQ))=lstF (pd.map TxnQ.e ++ pt.map TxnQ.e)):=show _=_ from rep_list (r:=⟨pd.map TxnQ.e,pb,pt.map TxnQ.e,pu.map USQ.e,pn⟩) hm' hL
  clear hr hm'
  generalize lstF (pd.map TxnQ.e ++ pt.map TxnQ.e)=c at *
  have hcb:(c != 0)=true:=by simpa using hne
  go_wp2_with fail
  refine hlf.mono ?_
  rintro e w3 ⟨rfl,hb3⟩
  replace Bv:=Bv.below hb3
  replace hb0:=hb0.trans (hb3.mono (by omega))
  have z0:=Bv.cell 0 _ rfl
  have z1:=Bv.cell 1 _ rfl
  have z2:=Bv.cell 2 _ rfl
  have z3:=Bv.cell 3 _ rfl
  have y0:=Bv.frozen 0
  have y1:=Bv.frozen 1
  have y2:=Bv.frozen 2
  have y3:=Bv.frozen 3
  have HB:Hid (∀ u0 u1 u2 u3:Value,Below H w ((((w3.setCell ⟨H + 1,0,none⟩ u0).setCell ⟨H + 1,1,none⟩ u1).setCell ⟨H + 1,2,none⟩ u2).setCell ⟨H + 1,3,none⟩ u3)):=fun u0 u1 u2 u3=>(((hb0.setCell (p:=⟨H + 1,0,none⟩) (by show H≤H + 1;omega) u0).setCell (p:=⟨H + 1,1,none⟩) (by show H≤H + 1;omega) u1).setCell (p:=⟨H + 1,2,none⟩) (by show H≤H + 1;omega) u2).setCell (p:=⟨H + 1,3,none⟩) (by show H≤H + 1;omega) u3
  go_wp2
  exact bodyPost_ret (v:=.tuple #[.agg #[.slice none 0 0,.slice none 0 0,.slice none 0 0,.slice none 0 0],.iface 195 (.agg #[.int .i64 c])]) (by simp [results,Tryz.results80,go_sem,z0,z1,z2,z3]) rfl (ck_bad HC.out (by first | decide | exact hne) (by rw [hH];exact HB.out _ _ _ _))
 have hFall:=lst_F hL
 have hFD:∀ t∈pd.map TxnQ.e,t.F=0:=fun t ht=>hFall t (List.mem_append_left _ ht)
 have hFE:∀ t∈pt.map TxnQ.e,t.F=0:=fun t ht=>hFall t (List.mem_append_right _ ht)
 have gD:=allI_good (xs:=[]) (by simp) nil_good hFD
 have gE:=allI_good gD.1 gD.2 hFE
 have hrs:=rep_same (r:=⟨pd.map TxnQ.e,pb,pt.map TxnQ.e,pu.map USQ.e,pn⟩) hm' hL
 dsimp only at hrs
 rw [hL] at hlf
 clear hL hFall hm'
 go_wp2_with fail
 refine hlf.mono ?_
 rintro e w3 ⟨rfl,hb3⟩
 replace B:=B.below hb3
 replace Bv:=Bv.below hb3
 replace hb0:=hb0.trans (hb3.mono (by omega))
 have hs3:=hb3.size
 have hb03:=hb0
 clear hb3 hlf
 have hr3:=hr w3 hb0
 have hrec:=recordOf_any (.slice p0 pd.length p5) (.slice p2 pt.length p7) pd pt w3 hr3.1 hr3.2.2.1 (fun q hq=>hFD _ (List.mem_map_of_mem hq)) (fun q hq=>hFE _ (List.mem_map_of_mem hq)) (by omega) (by omega)
 have q0:=B.cell 0 _ rfl
 have q2:=B.cell 2 _ rfl
 go_wp2_with fail
 clear q0 q2
 refine hrec.mono ?_
 rintro e w4 ⟨vN,iN,vU,iU,rfl,hP,hb4⟩
 clear hrec
 replace B:=B.below hb4
 replace Bv:=Bv.below hb4
 have hb43:=hb4
 replace hb0:=hb0.trans (hb4.mono (by omega))
 have hs4:=hb4.size
 obtain ⟨ds,us,rb,B0,R,eD,eE,hrb1,hrb2⟩:=hP
 obtain ⟨na,nc,rfl⟩:=own_shape R.oN
 obtain ⟨ua,uc,rfl⟩:=own_shape R.oU
 obtain ⟨ia,ic,rfl⟩:=R.jN.shape
 obtain ⟨ja,jc,rfl⟩:=R.jU.shape
 generalize hxs:allI [] (pd.map TxnQ.e)=xs at *
 generalize hys:allI xs (pt.map TxnQ.e)=ys at *
 have hbR:Below w4.heap.size w4 (w4.alloc (.cells #[.slice na ds.length nc,.slice ia xs.length ic,.slice ua us.length uc,.slice ja ys.length jc] 103)):=by go_grown
 have BR:=Blk.new w4 103 #[.slice na ds.length nc,.slice ia xs.length ic,.slice ua us.length uc,.slice ja ys.length jc]
 replace R:=R.below hbR
 replace B:=B.below hbR
 replace Bv:=Bv.below hbR
 replace hb0:=hb0.trans (hbR.mono (by omega))
 have hb3R:=hb43.trans (hbR.mono (by omega))
 have hsR:=hbR.size
 have hBRl:=BR.lt
 go_wp2_with fail
 clear hbR hb4 hb43
 generalize hY:w4.alloc (.cells #[.slice na ds.length nc,.slice ia xs.length ic,.slice ua us.length uc,.slice ja ys.length jc] 103)=Y at *
 clear hY
 generalize hrg:w4.heap.size=rg at *
 have hP2:RecPost w3 Y (.slice na ds.length nc) (.slice ia xs.length ic) (.slice ua us.length uc) (.slice ja ys.length jc) (pd.map TxnQ.e) (pt.map TxnQ.e):=⟨ds,us,rb,B0,by rw [hxs,hys];exact R,eD,by rw [hxs];exact eE,hrb1,hrb2⟩
 have hrY:=hr Y hb0
 have f0:=BR.lat 0 _ rfl
 have f1:=BR.lat 1 _ rfl
 have f2:=BR.lat 2 _ rfl
 have f3:=BR.lat 3 _ rfl
 have k0:=B.lat 0 _ rfl
 have k1:=B.lat 1 _ rfl
 have k2:=B.lat 2 _ rfl
 have k3:=B.lat 3 _ rfl
 have k4:=B.lat 4 _ rfl
 have hW:Below Y.heap.size Y Y.drew:=(Below.refl _ _).drew
 have hnn:Nonempty (Lat Y):=⟨⟨Y,Below.refl _ _⟩⟩
 refine text_begin (S:=fun w' => ∃ u:Lat Y,w' = u.val) (by kernel_rfl) ?_
 refine seg_range [(0,1),(2,1)] 3 (by kernel_rfl) (by kernel_rfl) (by kernel_rfl) (by kernel_rfl) (by kernel_rfl) ⟨⟨_,hW⟩,rfl⟩ ?_
 simp only [pickR,List.toList_toArray,List.flatMap_cons,List.flatMap_nil,List.drop_succ_cons,List.drop_zero,List.take_succ_cons,List.take_zero,List.cons_append,List.nil_append,List.append_nil]
 repeat go_big_quiet_step (fail)
 refine wpQuiet_nil ?_
 refine call_at 1 (some 38) 58 #[.agg #[.slice na ds.length nc,.slice ia xs.length ic,.slice ua us.length uc,.slice ja ys.length jc]] 2 (by kernel_rfl) (by kernel_rfl) (by kernel_rfl) (by kernel_rfl) (by kernel_rfl) ?_
 refine (replica_any w3 _ _ _ _ (pd.map TxnQ.e) (pt.map TxnQ.e) _ (hP2.below hW) (hb3R.trans (hW.mono hb3R.size)) hFD hFE (by rw [List.length_map];omega) (by rw [List.length_map];omega) (by rw [hxs];exact gD.1) (by rw [hxs,hys];exact gE.1) (by rw [hxs];exact gD.2)).mono ?_
 rintro e w9 ⟨r,rfl,er,orr,_,_,hb9⟩
 replace hW:=hW.trans (hb9.mono hW.size)
 clear hb9
 have rr:=repK.own_rd orr
 have hrn:=mk_small er hFD hFE (by rw [List.length_map];omega) (by rw [List.length_map];omega)
 clear orr
 refine ⟨_,rfl,⟨⟨_,hW⟩,rfl⟩,?_⟩
 simp only [Act.put,List.setIfInBounds_toArray,List.set_cons_zero,List.set_cons_succ]
 refine call_at 3 (some 40) 38 #[.agg #[r.vd,r.vb,r.vt,r.vu,r.vn],.agg #[.slice p0 pd.length p5,.slice p1 pb.length p6,.slice p2 pt.length p7,.slice p3 pu.length p8,.slice p4 pn.length p9]] 1 (by kernel_rfl) (by kernel_rfl) (by kernel_rfl) (by kernel_rfl) (by kernel_rfl) ?_
 refine (implSameReplicas_any r (⟨.slice p0 pd.length p5,pd,.slice p1 pb.length p6,pb,.slice p2 pt.length p7,pt,.slice p3 pu.length p8,pu,.slice p4 pn.length p9,pn⟩:RepQ) _ rr (repK.rd_below hrY hW) (by omega) (by dsimp only [RepQ.n];omega)).mono ?_
 rintro e w10 ⟨rfl,hb9⟩
 replace hW:=hW.trans (hb9.mono hW.size)
 clear hb9 rr
 rw [er]
 dsimp only [RepQ.e]
 refine ⟨_,rfl,⟨⟨_,hW⟩,rfl⟩,?_⟩
 simp only [Act.put,List.setIfInBounds_toArray,List.set_cons_zero,List.set_cons_succ]
 refine seg_range [(4,1)] 0 (by kernel_rfl) (by kernel_rfl) (by kernel_rfl) (by kernel_rfl) (by kernel_rfl) ⟨⟨_,hW⟩,rfl⟩ ?_
 simp only [pickR,List.toList_toArray,List.flatMap_cons,List.flatMap_nil,List.drop_succ_cons,List.drop_zero,List.take_succ_cons,List.take_zero,List.cons_append,List.nil_append,List.append_nil]
 repeat go_big_quiet_step (fail)
 refine wpQuiet_nil ?_
 refine text_end (by kernel_rfl) ?_
 clear f0 f1 f2 f3 k0 k1 k2 k3 k4 hnn hrY er
 replace BR:=BR.below hW
 replace Bv:=Bv.below hW
 replace R:=R.below hW
 replace hb0:=hb0.trans (hW.mono (by omega))
 have hsW:=hW.size
 clear hP2 hb3R
 cases hS:sameRep (mkR (pd.map TxnQ.e) (pt.map TxnQ.e)) ⟨pd.map TxnQ.e,pb,pt.map TxnQ.e,pu.map USQ.e,pn⟩ with
 | false=>
  rw [hS] at hrs
  have HC:Hid (repF (RepQ.e (⟨.slice p0 pd.length p5,pd,.slice p1 pb.length p6,pb,.slice p2 pt.length p7,pt,.slice p3 pu.length p8,pu,.slice p4 pn.length p9,pn⟩:RepQ))=8):=hrs
  clear hW
  have z0:=Bv.cell 0 _ rfl
  have z1:=Bv.cell 1 _ rfl
  have z2:=Bv.cell 2 _ rfl
  have z3:=Bv.cell 3 _ rfl
  have y0:=Bv.frozen 0
  have y1:=Bv.frozen 1
  have y2:=Bv.frozen 2
  have y3:=Bv.frozen 3
  have HB:Hid (∀ u0 u1 u2 u3:Value,Below H w ((((w10.setCell ⟨H + 1,0,none⟩ u0).setCell ⟨H + 1,1,none⟩ u1).setCell ⟨H + 1,2,none⟩ u2).setCell ⟨H + 1,3,none⟩ u3)):=fun u0 u1 u2 u3=>(((hb0.setCell (p:=⟨H + 1,0,none⟩) (by show H≤H + 1;omega) u0).setCell (p:=⟨H + 1,1,none⟩) (by show H≤H + 1;omega) u1).setCell (p:=⟨H + 1,2,none⟩) (by show H≤H + 1;omega) u2).setCell (p:=⟨H + 1,3,none⟩) (by show H≤H + 1;omega) u3
  go_wp2
  exact bodyPost_ret (v:=.tuple #[.agg #[.slice none 0 0,.slice none 0 0,.slice none 0 0,.slice none 0 0],.iface 195 (.agg #[.int .i64 8])]) (by simp [results,Tryz.results80,go_sem,z0,z1,z2,z3]) rfl (ck_bad HC.out (by first | decide | exact hne) (by rw [hH];exact HB.out _ _ _ _))
 | true=>
  rw [hS] at hrs
  have HC:Hid (repF (RepQ.e (⟨.slice p0 pd.length p5,pd,.slice p1 pb.length p6,pb,.slice p2 pt.length p7,pt,.slice p3 pu.length p8,pu,.slice p4 pn.length p9,pn⟩:RepQ))=0):=hrs
  clear hW
  have z0:=Bv.cell 0 _ rfl
  have z1:=Bv.cell 1 _ rfl
  have z2:=Bv.cell 2 _ rfl
  have z3:=Bv.cell 3 _ rfl
  have y0:=Bv.frozen 0
  have y1:=Bv.frozen 1
  have y2:=Bv.frozen 2
  have y3:=Bv.frozen 3
  have x0:=BR.cell 0 _ rfl
  have x1:=BR.cell 1 _ rfl
  have x2:=BR.cell 2 _ rfl
  have x3:=BR.cell 3 _ rfl
  have HB:Hid (∀ u0 u1 u2 u3:Value,Below H w ((((w10.setCell ⟨H + 1,0,none⟩ u0).setCell ⟨H + 1,1,none⟩ u1).setCell ⟨H + 1,2,none⟩ u2).setCell ⟨H + 1,3,none⟩ u3)∧RecPost w3 ((((w10.setCell ⟨H + 1,0,none⟩ u0).setCell ⟨H + 1,1,none⟩ u1).setCell ⟨H + 1,2,none⟩ u2).setCell ⟨H + 1,3,none⟩ u3) (.slice na ds.length nc) (.slice ia xs.length ic) (.slice ua us.length uc) (.slice ja ys.length jc) (pd.map TxnQ.e) (pt.map TxnQ.e)):=fun u0 u1 u2 u3=>⟨(((hb0.setCell (p:=⟨H + 1,0,none⟩) (by show H≤H + 1;omega) u0).setCell (p:=⟨H + 1,1,none⟩) (by show H≤H + 1;omega) u1).setCell (p:=⟨H + 1,2,none⟩) (by show H≤H + 1;omega) u2).setCell (p:=⟨H + 1,3,none⟩) (by show H≤H + 1;omega) u3,⟨ds,us,rb,B0,by
   rw [hxs,hys]
   exact (((R.other (by omega) (by omega) 0 u0).other (by omega) (by omega) 1 u1).other (by omega) (by omega) 2 u2).other (by omega) (by omega) 3 u3,eD,by rw [hxs];exact eE,hrb1,hrb2⟩⟩
  have hbw3:Below H w w3:=hb03
  clear R Bv BR hb0
  go_wp2
  exact bodyPost_ret (v:=.tuple #[.agg #[.slice na ds.length nc,.slice ia xs.length ic,.slice ua us.length uc,.slice ja ys.length jc],.nilIface]) (by simp [results,Tryz.results80,go_sem,z0,z1,z2,z3]) rfl (ck_ok HC.out (by rw [hH];exact hbw3) (HB.out _ _ _ _).2 (by rw [hH];exact (HB.out _ _ _ _).1))

theorem implReplicaFault_any (p:RepQ) (w:World) (hg:ErrT w) (h:repK.rd w p) (nd:NiceV p.vd) (nt:NiceV p.vt) (hl:p.n≤1048576) :
  Calls Tryz.prog 33 #[.agg #[p.vd,p.vb,p.vt,p.vu,p.vn]] w fun e w' => e=.returned (.int .i64 (repF p.e))∧Below w.heap.size w w' := by
 have hck:=fun w h=>checked_any p w h nd nt hl
 have hr:=fun (w' : World) hb=>repK.rd_below (w' := w') h hb
 obtain ⟨pvd,pd,pvb,pb,pvt,pt,pvu,pu,pvn,pn⟩:=p
 obtain ⟨p0,p5,rfl⟩:∃ a c,pvd=.slice a pd.length c:=h.1.shape
 obtain ⟨p1,p6,rfl⟩:∃ a c,pvb=.slice a pb.length c:=h.2.1.shape
 obtain ⟨p2,p7,rfl⟩:∃ a c,pvt=.slice a pt.length c:=h.2.2.1.shape
 obtain ⟨p3,p8,rfl⟩:∃ a c,pvu=.slice a pu.length c:=h.2.2.2.1.shape
 obtain ⟨p4,p9,rfl⟩:∃ a c,pvn=.slice a pn.length c:=h.2.2.2.2.shape
 dsimp only at hck hr
 have hb0:Below w.heap.size w (w.alloc (.cells #[.slice p0 pd.length p5,.slice p1 pb.length p6,.slice p2 pt.length p7,.slice p3 pu.length p8,.slice p4 pn.length p9] 32)):=by go_grown
 have B:=Blk.new w 32 #[.slice p0 pd.length p5,.slice p1 pb.length p6,.slice p2 pt.length p7,.slice p3 pu.length p8,.slice p4 pn.length p9]
 have q0:=B.cell 0 _ rfl
 have q1:=B.cell 1 _ rfl
 have q2:=B.cell 2 _ rfl
 have q3:=B.cell 3 _ rfl
 have q4:=B.cell 4 _ rfl
 go_enter Tryz.func33,Tryz.ntmps33
 go_wp2_with fail
 clear q0 q1 q2 q3 q4 B
 have hg0:=hg.below hb0
 have hr0:=hr _ hb0
 generalize w.alloc (.cells #[.slice p0 pd.length p5,.slice p1 pb.length p6,.slice p2 pt.length p7,.slice p3 pu.length p8,.slice p4 pn.length p9] 32)=W at *
 refine (hck W hr0).mono ?_
 rintro e w2 ⟨a0,a1,a2,a3,l0,c0,l1,c1,l2,c2,l3,c3,rfl,_,hb2⟩
 replace hb0:=hb0.trans (hb2.mono hb0.size)
 have hg2:=hg0.below hb2
 have hbA:Below w2.heap.size w2 (w2.alloc (.cells #[.slice a0 l0 c0,.slice a1 l1 c1,.slice a2 l2 c2,.slice a3 l3 c3] 103)):=by go_grown
 have hco:=codeOf_any (repF (RepQ.e (⟨.slice p0 pd.length p5,pd,.slice p1 pb.length p6,pb,.slice p2 pt.length p7,pt,.slice p3 pu.length p8,pu,.slice p4 pn.length p9,pn⟩:RepQ))) _ (hg2.below hbA)
 replace hb0:=hb0.trans (hbA.mono hb0.size)
 dsimp only [RepQ.e] at hco ⊢
 generalize repF _=c at *
 generalize misC c=m at *
 go_wp2_with fail
 refine hco.mono ?_
 rintro e w4 ⟨rfl,hb4⟩
 replace hb0:=hb0.trans (hb4.mono hb0.size)
 go_wp2
 go_ret
 exact ⟨rfl,hb0⟩

end Go.Proofs.YtfdkcbafpiojkaaGreatDoor
