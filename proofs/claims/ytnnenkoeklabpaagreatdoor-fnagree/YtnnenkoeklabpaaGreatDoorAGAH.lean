/- Texts joined, with what the laws reach alone. -/
import Derived.Test.YtnnenkoeklabpaaGreatDoorAGAG
set_option linter.unusedVariables false
set_option linter.unusedSimpArgs false
namespace Go.Proofs.YtnnenkoeklabpaaGreatDoor
open Go.RowKit
open Go.BigFrame
set_option maxRecDepth 100000
theorem nmL_bound {P:Type} (nm:P→Nat) (c:Nat) (ps:List P) (h:∀ p∈ps,nm p≤c):nmL nm ps≤ps.length * c:=by
 induction ps with
 | nil=>simp [nmL]
 | cons p t ih=>
  have h1:=h p (by simp)
  have h2:=ih (fun q hq=>h q (List.mem_cons_of_mem _ hq))
  simp only [nmL,List.map_cons,List.sum_cons,List.length_cons] at h2 ⊢
  rw [Nat.add_mul]
  omega

theorem allF_mem {ds:List TxnD} (h:allF ds=0):∀ d∈ds,d.F=0:=by
 induction ds with
 | nil=>intro d hd;simp at hd
 | cons x r ih=>
  intro d hd
  simp only [allF] at h
  by_cases hx:x.F=0
  ·rw [if_pos hx] at h
   rcases List.mem_cons.1 hd with rfl | hd
   ·exact hx
   ·exact ih h d hd
  ·rw [if_neg hx] at h
   exact absurd h hx

theorem txnF_small {d:TxnD} (h:d.F=0):d.acts.length≤4:=by
 unfold TxnD.F txnF at h
 split at h
 ·omega
 ·split at h
  ·omega
  ·omega

theorem bat_small {ds:List TxnD} (h:batF ds=0):txnsN ds≤20:=by
 unfold batF at h
 split at h
 ·omega
 ·rename_i hl
  have ha:allF ds=0:=by
   split at h
   ·assumption
   ·exact h
  have:=nmL_bound TxnD.n 4 ds (fun d hd=>txnF_small (allF_mem ha d hd))
  unfold txnsN
  omega

theorem ins_small {x:InstE} (h:insF x=0):InstE.n x≤60:=by
 obtain ⟨hw,⟨_,h4⟩,hd,_⟩:=ins_ok h
 obtain ⟨h6,_⟩:=ins_zero h
 obtain ⟨_,_,_,h7,h8⟩:=shp_zero h6
 have hb:txnsN x.batch≤20:=by
  cases hh:x.has with
  | true=>exact bat_small (h8 hh)
  | false=>rw [h7 hh];simp [txnsN,nmL]
 have hr:=nmL_bound RoundE.n 6 x.rounds (fun r hr=>by
  have:=hw r hr
  unfold RoundE.n
  omega)
 unfold InstE.n roundsN
 omega

end Go.Proofs.YtnnenkoeklabpaaGreatDoor
namespace Go.Proofs.YtnnenkoeklabpaaGreatDoor
open Go.RowKit
open Go.BigFrame
set_option maxRecDepth 100000
/-- A new instance. -/
def newE:InstE:=⟨false,[],[opn3],[3,3,3]⟩

set_option maxHeartbeats 2000000 in
theorem l6New_any (w:World) :
  Calls Tryz.prog 35 #[] w fun e w' => ∃ q:InstQ,e=.returned (.agg #[.bool q.has,q.vb,q.vr,q.vd])∧q.e=newE∧instK.own w' q∧(instK.foot q).Nodup∧(∀ k∈instK.foot q,w.heap.size≤k)∧Below w.heap.size w w' := by
 have hB:Below w.heap.size w (w.alloc (.cells #[.bool false,.slice none 0 0,.slice none 0 0,.slice none 0 0] 28)):=by go_grown
 have Rb:=Blk.new w 28 #[.bool false,.slice none 0 0,.slice none 0 0,.slice none 0 0]
 go_enter Tryz.func35,Tryz.ntmps35
 go_wp2_with fail
 have hW0:w.heap.size < (w.alloc (.cells #[.bool false,.slice none 0 0,.slice none 0 0,.slice none 0 0] 28)).heap.size:=by simp
 generalize w.alloc (.cells #[.bool false,.slice none 0 0,.slice none 0 0,.slice none 0 0] 28)=W at *
 refine (l6Open_any W).mono ?_
 rintro e w1 ⟨x1,y1,rfl,o1,g1,hb1⟩
 have h1:=hb1.size
 replace Rb:=Rb.below hb1
 replace hB:=hB.trans (hb1.mono hB.size)
 have m1:=o1.lt
 clear hb1
 go_wp2_with fail
 refine (l6Open_any w1).mono ?_
 rintro e w2 ⟨x2,y2,rfl,o2,g2,hb2⟩
 have h2:=hb2.size
 replace Rb:=Rb.below hb2
 replace o1:=o1.below hb2
 replace hB:=hB.trans (hb2.mono hB.size)
 have m2:=o2.lt
 clear hb2
 have hbA:Below w2.heap.size w2 (w2.alloc (.cells #[.slice x1 3 y1,.slice x2 3 y2] 51)):=by go_grown
 have ho:=(own_zero (World.ownsRow_lit (e:=51) (size:=2) w2 #[.slice x1 3 y1,.slice x2 3 y2] 1 (Nat.le_refl _) (by decide) rfl)).1
 replace Rb:=Rb.below hbA
 replace o1:=o1.below hbA
 replace o2:=o2.below hbA
 replace hB:=hB.trans (hbA.mono hB.size)
 have hA:w2.heap.size < (w2.alloc (.cells #[.slice x1 3 y1,.slice x2 3 y2] 51)).heap.size:=by simp
 have oR:roundK.Own (w2.alloc (.cells #[.slice x1 3 y1,.slice x2 3 y2] 51)) (.slice (some ⟨w2.heap.size,0,none⟩) 1 1) [(⟨.slice x1 3 y1,[3,3,3],.slice x2 3 y2,[3,3,3]⟩:RoundQ)]:=⟨ho,fun p hp=>by simp only [List.mem_singleton] at hp;subst hp;exact ⟨o1,o2⟩⟩
 have HD:Hid (∀ x∈intK.fp (.slice x1 3 y1) [3,3,3],∀ y∈intK.fp (.slice x2 3 y2) [3,3,3],x≠y):=fun x hx y hy e=>by have:=m1 x hx;have:=g2 y hy;omega
 clear hbA ho
 go_wp2_with fail
 generalize w2.alloc (.cells #[.slice x1 3 y1,.slice x2 3 y2] 51)=W2 at *
 generalize hgg:w2.heap.size=g at *
 refine (l6Open_any W2).mono ?_
 rintro e w3 ⟨x3,y3,rfl,o3,g3,hb3⟩
 have h3:=hb3.size
 replace Rb:=Rb.below hb3
 replace oR:=oR.below hb3
 replace hB:=hB.trans (hb3.mono hB.size)
 have fR:∀ k∈roundK.fp (.slice (some ⟨g,0,none⟩) 1 1) [(⟨.slice x1 3 y1,[3,3,3],.slice x2 3 y2,[3,3,3]⟩:RoundQ)],W.heap.size≤k∧k < W2.heap.size:=fun k hk=>by
  simp only [Kind.fp,List.mem_append,List.flatMap_cons,List.flatMap_nil,List.append_nil,blk,Value.ownBlock,Option.toList,List.mem_singleton] at hk
  rcases hk with hk | hk
  ·omega
  ·rcases List.mem_append.1 hk with hk | hk
   ·have:=g1 k hk;have:=m1 k hk;omega
   ·have:=g2 k hk;have:=m2 k hk;omega
 have nR:(roundK.fp (.slice (some ⟨g,0,none⟩) 1 1) [(⟨.slice x1 3 y1,[3,3,3],.slice x2 3 y2,[3,3,3]⟩:RoundQ)]).Nodup:=by
  unfold Kind.fp
  refine List.nodup_append.2 ⟨blk_nodup _,?_,fun a ha b hb e=>?_⟩
  ·simp only [List.flatMap_cons,List.flatMap_nil,List.append_nil]
   exact List.nodup_append.2 ⟨intK_nodup _ _,intK_nodup _ _,HD.out⟩
  ·simp only [blk,Value.ownBlock,Option.toList,List.mem_singleton] at ha
   subst ha e
   simp only [List.flatMap_cons,List.flatMap_nil,List.append_nil] at hb
   rcases List.mem_append.1 hb with hb | hb
   ·have:=m1 _ hb;omega
   ·have:=m2 _ hb;omega
 have U:=out_row w3 w.heap.size #[.bool false,.slice none 0 0,.slice (some ⟨g,0,none⟩) 1 1,.slice x3 3 y3]
 have oR' := oR.out U (fun k hk=>by have:=fR k hk;simp only [List.mem_singleton];omega)
 have o3' := o3.out U (fun k hk=>by have:=g3 k hk;simp only [List.mem_singleton];omega)
 have oT:=(Kind.own_nil (K:=txnK) (w3.setRow w.heap.size #[.bool false,.slice none 0 0,.slice (some ⟨g,0,none⟩) 1 1,.slice x3 3 y3])).1
 have Rr:=Rb.row #[.bool false,.slice none 0 0,.slice (some ⟨g,0,none⟩) 1 1,.slice x3 3 y3]
 have hBr:=below_row hB (g:=w.heap.size) (Nat.le_refl _) #[.bool false,.slice none 0 0,.slice (some ⟨g,0,none⟩) 1 1,.slice x3 3 y3]
 have hsr:(Tryz.prog.info? 28).map (·.size)=some (#[.bool false,.slice none 0 0,.slice (some ⟨g,0,none⟩) 1 1,.slice x3 3 y3]:Array Value).size:=sz_inst
 have HQ:Hid (∃ q:InstQ,#[.bool q.has,q.vb,q.vr,q.vd]=(#[.bool false,.slice none 0 0,.slice (some ⟨g,0,none⟩) 1 1,.slice x3 3 y3]:Array Value)∧q.e=newE∧instK.own (w3.setRow w.heap.size #[.bool false,.slice none 0 0,.slice (some ⟨g,0,none⟩) 1 1,.slice x3 3 y3]) q∧(instK.foot q).Nodup∧(∀ k∈instK.foot q,w.heap.size≤k)):=by
  refine ⟨⟨false,.slice none 0 0,[],.slice (some ⟨g,0,none⟩) 1 1,[(⟨.slice x1 3 y1,[3,3,3],.slice x2 3 y2,[3,3,3]⟩:RoundQ)],.slice x3 3 y3,[3,3,3]⟩,rfl,rfl,⟨oT,oR',o3'⟩,?_,?_⟩
  ·show (txnK.fp (.slice none 0 0) ([]:List TxnQ) ++ (roundK.fp (.slice (some ⟨g,0,none⟩) 1 1) [(⟨.slice x1 3 y1,[3,3,3],.slice x2 3 y2,[3,3,3]⟩:RoundQ)] ++ intK.fp (.slice x3 3 y3) [3,3,3])).Nodup
   rw [(Kind.own_nil (K:=txnK) w3).2,List.nil_append]
   exact List.nodup_append.2 ⟨nR,intK_nodup _ _,fun a ha b hb e=>by have:=fR a ha;have:=g3 b hb;omega⟩
  ·intro k hk
   replace hk:k∈txnK.fp (.slice none 0 0) ([]:List TxnQ) ++ (roundK.fp (.slice (some ⟨g,0,none⟩) 1 1) [(⟨.slice x1 3 y1,[3,3,3],.slice x2 3 y2,[3,3,3]⟩:RoundQ)] ++ intK.fp (.slice x3 3 y3) [3,3,3]):=hk
   rw [(Kind.own_nil (K:=txnK) w3).2,List.nil_append] at hk
   rcases List.mem_append.1 hk with hk | hk
   ·have:=fR k hk;omega
   ·have:=g3 k hk;omega
 clear oR' o3' oT U fR nR oR o3 o1 o2 g1 g2 g3 m1 m2 HD hB hb3
 go_wp2_with (first | (refine st_row (by kernel_rfl) 28 _ _ rfl _ #[.bool false,.slice none 0 0,.slice (some ⟨g,0,none⟩) 1 1,.slice x3 3 y3] rfl rfl 28 _ Rb hsr rfl (by simp [Value.oneCell']) ?_))
 obtain ⟨q0,q1,q2,q3⟩:=Rr.cel4
 obtain ⟨q,hq1,hq2,hq3,hq4,hq5⟩:=HQ.out
 exact bodyPost_ret (v:=.agg #[.bool false,.slice none 0 0,.slice (some ⟨g,0,none⟩) 1 1,.slice x3 3 y3]) (by simp [results,Tryz.results35,go_sem,q0,q1,q2,q3]) rfl ⟨q,by rw [hq1],hq2,hq3,hq4,hq5,hBr⟩

end Go.Proofs.YtnnenkoeklabpaaGreatDoor
namespace Go.Proofs.YtnnenkoeklabpaaGreatDoor
open Go.RowKit
open Go.BigFrame
set_option maxRecDepth 100000
/-- A right board, one thing beside the other. -/
structure Rgt (x:InstE):Prop where
 bat0:x.has=false→x.batch=[]
 bat1:x.has=true→batF x.batch=0
 len:1≤x.rounds.length∧x.rounds.length≤4
 votes:∀ r,r < x.rounds.length→vf (x.rounds.getD r rnd0).rep 1=0∧vf (x.rounds.getD r rnd0).pro 2=0
 dec:vf x.dec 1=0
 rep:∀ r,r < x.rounds.length→∀ n,n < 3→repI x.has x.rounds r n=true
 pro:∀ r,r < x.rounds.length→∀ n,n < 3→proR x.rounds r n=true
 en:∀ n,n < 3→endR x.rounds (x.dec.getD n 0)=true

theorem rndsF_of:∀ {rs:List RoundE},(∀ r,r < rs.length→vf (rs.getD r rnd0).rep 1=0∧vf (rs.getD r rnd0).pro 2=0)→rndsF rs=0
 | [],_=>rfl
 | q :: t,h=>by
  have h0:=h 0 (by simp)
  have h1:vf q.rep 1=0∧vf q.pro 2=0:=h0
  unfold rndsF
  rw [if_pos h1.1,if_pos h1.2]
  exact rndsF_of (fun r hr=>by
   have:=h (r + 1) (by simpa using hr)
   simpa [List.getD] using this)

theorem rgt_of {x:InstE} (h:insF x=0):Rgt x:=by
 obtain ⟨hs,hr⟩:=ins_zero h
 obtain ⟨hl,hv,hd,h0,h1⟩:=shp_zero hs
 unfold rgtI at hr
 simp only [Bool.and_eq_true,List.all_eq_true,List.mem_range,allI_iff] at hr
 exact ⟨h0,h1,hl,fun r hr' => rndsF_at hv r hr',hd,fun r hr' n hn=>(hr.1 r hr' n hn).1,fun r hr' n hn=>(hr.1 r hr' n hn).2,(endA_iff _ _).1 hr.2⟩

theorem ins_of {x:InstE} (h:Rgt x):insF x=0:=by
 have hs:shpF x=0:=by
  unfold shpF
  rw [if_neg (fun e=>by rw [h.bat0 e.1] at e;simp at e),if_neg (fun e=>e.2 (h.bat1 e.1)),if_neg (by have:=h.len;omega),if_pos (rndsF_of h.votes)]
  exact h.dec
 unfold insF
 rw [if_pos hs]
 have hr:rgtI x=true:=by
  unfold rgtI
  simp only [Bool.and_eq_true,List.all_eq_true,List.mem_range,allI_iff]
  exact ⟨fun r hr n hn=>⟨h.rep r hr n hn,h.pro r hr n hn⟩,(endA_iff _ _).2 h.en⟩
 rw [if_pos hr]

theorem getD_set (rs:List RoundE) (r:Nat) (hr:r < rs.length) (q:RoundE) (k:Nat):(rs.set r q).getD k rnd0=if k=r then q else rs.getD k rnd0:=by
 by_cases h:k=r
 ·subst h
  rw [if_pos rfl]
  simp [List.getD,hr]
 ·rw [if_neg h]
  simp only [List.getD]
  rw [List.getElem?_set,if_neg (fun e=>h e.symm)]

theorem getZ_set (zs:List Int) (n:Nat) (hn:n < zs.length) (v:Int) (k:Nat):(zs.set n v).getD k 0=if k=n then v else zs.getD k 0:=by
 by_cases h:k=n
 ·subst h
  rw [if_pos rfl]
  simp [List.getD,hn]
 ·rw [if_neg h]
  simp only [List.getD]
  rw [List.getElem?_set,if_neg (fun e=>h e.symm)]

theorem vf_all {zs:List Int} {most:Int} (h:vf zs most=0):zs.all (vOk most)=true:=by
 have hl:=vf_len h
 unfold vf at h
 rw [if_pos hl] at h
 by_cases hx:zs.all (vOk most)=true
 ·exact hx
 ·rw [if_neg hx] at h
  simp at h

theorem vf_set {zs:List Int} {most:Int} (h:vf zs most=0) (n:Nat) (v:Int) (hv:vOk most v=true):vf (zs.set n v) most=0:=by
 have hl:=vf_len h
 have ha:=vf_all h
 unfold vf
 rw [if_pos (by rw [List.length_set];exact hl),if_pos]
 rw [List.all_eq_true] at ha ⊢
 intro x hx
 rcases List.mem_or_eq_of_mem_set hx with hx | rfl
 ·exact ha x hx
 ·exact hv

theorem vok01 {v:Int} {most:Int} (h:v=0∨v=1) (hm:1≤most):vOk most v=true:=by
 unfold vOk inB
 rw [Bool.or_eq_true]
 left
 rw [decide_eq_true_eq]
 omega

abbrev n3:List Nat:=[0,1,2]

theorem mem3 {n:Nat} (h:n < 3):n∈n3:=by
 have:n=0∨n=1∨n=2:=by omega
 rcases this with rfl | rfl | rfl <;> simp

theorem mayP_set3:∀ x∈v4,∀ y∈v4,∀ z∈v4,∀ n∈n3,[x,y,z].getD n 0=3→∀ v∈[(0:Int),1],∀ p∈v4,mayP [x,y,z] p=true→mayP ([x,y,z].set n v) p=true:=by decide +kernel

theorem mayR_set3:∀ x∈v4,∀ y∈v4,∀ z∈v4,∀ n∈n3,[x,y,z].getD n 0=3→∀ v∈[(0:Int),1,2],both ([x,y,z].set n v)=false→∀ u∈[(0:Int),1],mayR [x,y,z] u=true→mayR ([x,y,z].set n v) u=true:=by decide +kernel

theorem cnt_set3:∀ x∈v4,∀ y∈v4,∀ z∈v4,∀ n∈n3,[x,y,z].getD n 0=3→∀ v∈[(0:Int),1,2],∀ u∈[(0:Int),1],cnt 7 [x,y,z] u≤cnt 7 ([x,y,z].set n v) u:=by decide +kernel

/-- Where a quorum proposed a, a alone is reported behind it. -/
theorem quo_rep3:∀ x∈v4,∀ y∈v4,∀ z∈v4,∀ a∈[(0:Int),1],2≤cnt 7 [x,y,z] a→∀ u∈[(0:Int),1],mayR [x,y,z] u=true→u=a:=by decide +kernel

/-- Where a alone was reported, a alone is proposed. -/
theorem all_pro3:∀ a∈[(0:Int),1],∀ x∈[a,3],∀ y∈[a,3],∀ z∈[a,3],∀ p∈v4,mayP [x,y,z] p=true→p=a:=by decide +kernel

/-- Where a alone was proposed, a alone is reported behind it. -/
theorem all_rep3:∀ a∈[(0:Int),1],∀ x∈[a,3],∀ y∈[a,3],∀ z∈[a,3],∀ u∈[(0:Int),1],mayR [x,y,z] u=true→u=a:=by decide +kernel

theorem quo_one3:∀ x∈v4,∀ y∈v4,∀ z∈v4,∀ a∈[(0:Int),1],∀ b∈[(0:Int),1],2≤cnt 7 [x,y,z] a→2≤cnt 7 [x,y,z] b→a=b:=by decide +kernel

theorem in01 {v:Int} (h:v=0∨v=1):v∈[(0:Int),1]:=by rcases h with rfl | rfl <;> simp

theorem vf_mem4 {zs:List Int} {most:Int} (hm:most=1∨most=2) (h:vf zs most=0) (n:Nat) (hn:n < 3):zs.getD n 0∈v4:=vOk_mem hm (vf_vote h n hn)

theorem mayP_set {zs:List Int} (h:vf zs 1=0) (n:Nat) (hn:n < 3) (h3:zs.getD n 0=3) {v:Int} (hv:v=0∨v=1) {p:Int} (hp:p∈v4) (hm:mayP zs p=true):mayP (zs.set n v) p=true:=by
 obtain ⟨x,hx,y,hy,z,hz,rfl⟩:=vf_three (Or.inl rfl) h
 exact mayP_set3 x hx y hy z hz n (mem3 hn) h3 v (in01 hv) p hp hm

theorem mayR_set {zs:List Int} (h:vf zs 2=0) (n:Nat) (hn:n < 3) (h3:zs.getD n 0=3) {v:Int} (hv:v∈[(0:Int),1,2]) (hb:both (zs.set n v)=false) {u:Int} (hu:u=0∨u=1) (hm:mayR zs u=true):mayR (zs.set n v) u=true:=by
 obtain ⟨x,hx,y,hy,z,hz,rfl⟩:=vf_three (Or.inr rfl) h
 exact mayR_set3 x hx y hy z hz n (mem3 hn) h3 v hv hb u (in01 hu) hm

theorem cnt_set {zs:List Int} (h:vf zs 2=0) (n:Nat) (hn:n < 3) (h3:zs.getD n 0=3) {v:Int} (hv:v∈[(0:Int),1,2]) {u:Int} (hu:u=0∨u=1):cnt 7 zs u≤cnt 7 (zs.set n v) u:=by
 obtain ⟨x,hx,y,hy,z,hz,rfl⟩:=vf_three (Or.inr rfl) h
 exact cnt_set3 x hx y hy z hz n (mem3 hn) h3 v hv u (in01 hu)

theorem pfV_in {zs:List Int} {m:Int} (h:pfC zs m=0):pfV zs m∈[(0:Int),1,2]:=by
 unfold pfV pr2
 rw [if_pos h]
 split
 ·simp
 ·split <;> simp

theorem vok012 {v:Int} (h:v∈[(0:Int),1,2]):vOk 2 v=true:=by
 simp only [List.mem_cons,List.not_mem_nil,or_false] at h
 rcases h with rfl | rfl | rfl <;> decide

/-- Of one row of reports 0 and 1 are not both proposed. -/
theorem both_no {rep zs:List Int} (h:∀ m,m < 3→zs.getD m 0=3∨mayP rep (zs.getD m 0)=true):both zs=false:=by
 unfold both
 rw [Bool.and_eq_false_iff]
 by_cases h0:0 < cnt 7 zs 0
 ·right
  have h1:¬ 0 < cnt 7 zs 1:=fun h1=>by
   obtain ⟨a,ha,ea⟩:=(cnt7_pos _ _).1 h0
   obtain ⟨b,hb,eb⟩:=(cnt7_pos _ _).1 h1
   have hA:=h a ha
   have hB:=h b hb
   rw [ea] at hA
   rw [eb] at hB
   rcases hA with hA | hA
   ·exact absurd hA (by decide)
   ·rcases hB with hB | hB
    ·exact absurd hB (by decide)
    ·rw [mayP_one hA] at hB
     exact absurd hB (by decide)
  exact decide_eq_false h1
 ·left
  exact decide_eq_false h0

theorem pro_may {rs:List RoundE} {r n:Nat} (h:proR rs r n=true):proA rs r n=3∨(repA rs r n≠3∧mayP (rs.getD r rnd0).rep (proA rs r n)=true):=by
 unfold proR at h
 rw [Bool.or_eq_true,Bool.and_eq_true] at h
 rcases h with h | ⟨h1,h2⟩
 ·exact Or.inl (by simpa using h)
 ·exact Or.inr ⟨by simpa using h1,h2⟩

theorem rep_may {has:Bool} {rs:List RoundE} {r n:Nat} (h:repI has rs r n=true):¬ (repA rs r n=1∧has=false)∧(repA rs r n=3∨r=0∨(proA rs (r - 1) n≠3∧mayR (rs.getD (r - 1) rnd0).pro (repA rs r n)=true)):=by
 unfold repI at h
 by_cases h1:repA rs r n=1∧has=false
 ·rw [if_pos h1] at h
  exact absurd h (by decide)
 ·rw [if_neg h1] at h
  refine ⟨h1,?_⟩
  by_cases h2:repA rs r n=3∨r=0
  ·rcases h2 with h2 | h2
   ·exact Or.inl h2
   ·exact Or.inr (Or.inl h2)
  ·rw [if_neg h2] at h
   unfold befR at h
   rw [Bool.and_eq_true] at h
   exact Or.inr (Or.inr ⟨by simpa using h.1,h.2⟩)

theorem rep_mk {has:Bool} {rs:List RoundE} {r n:Nat} (h1:¬ (repA rs r n=1∧has=false)) (h2:repA rs r n=3∨r=0∨(proA rs (r - 1) n≠3∧mayR (rs.getD (r - 1) rnd0).pro (repA rs r n)=true)):repI has rs r n=true:=by
 unfold repI
 rw [if_neg h1]
 by_cases h3:repA rs r n=3∨r=0
 ·rw [if_pos h3]
 ·rw [if_neg h3]
  rcases h2 with h2 | h2 | h2
  ·exact absurd (Or.inl h2) h3
  ·exact absurd (Or.inr h2) h3
  ·unfold befR
   rw [Bool.and_eq_true]
   exact ⟨by simpa using h2.1,h2.2⟩

theorem agr_iff {rs:List RoundE} {v:Int}:agr rs v=true↔∃ k,k < rs.length∧2≤cnt 7 (rs.getD k rnd0).pro v:=by
 constructor
 ·intro h
  rcases Decidable.em (∃ k,k < rs.length∧2≤cnt 7 (rs.getD k rnd0).pro v) with h1 | h1
  ·exact h1
  ·exfalso
   have:agr rs v=false:=agr_none (fun k hk=>by
    rcases Int.lt_or_le (cnt 7 (rs.getD k rnd0).pro v) 2 with h2 | h2
    ·exact h2
    ·exact absurd ⟨k,hk,h2⟩ h1)
   rw [this] at h
   exact absurd h (by decide)
 ·rintro ⟨k,hk,h⟩
  exact agr_at hk h

theorem dec01 {x:InstE} (h:Rgt x) (n:Nat) (hn:n < 3):x.dec.getD n 0=0∨x.dec.getD n 0=1∨x.dec.getD n 0=3:=vOk1 (vf_vote h.dec n hn)

/-- A batch is set. -/
theorem rgt_set {x:InstE} {ds:List TxnD} (h:sbC x ds=0):Rgt (sbI x ds):=by
 unfold sbI
 rw [if_pos h]
 unfold sbC at h
 by_cases h0:insF x=0
 ·rw [if_pos h0] at h
  have R:=rgt_of h0
  cases hh:x.has with
  | true=>rw [hh] at h;simp at h
  | false=>
   rw [hh] at h
   refine ⟨fun e=>by simp at e,fun _=>h,R.len,R.votes,R.dec,fun r hr n hn=>?_,R.pro,R.en⟩
   obtain ⟨_,h2⟩:=rep_may (R.rep r hr n hn)
   exact rep_mk (by simp) h2
 ·rw [if_neg h0] at h
  exact absurd h h0

/-- A report is laid. -/
theorem rgt_rep {x:InstE} (R:Rgt x) (k n:Nat) (v:Int) (hk:k < x.rounds.length) (hn:n < 3) (h3:repA x.rounds k n=3) (hv:v=0∨v=1) (hb:¬ (v=1∧x.has=false))
  (hm:k=0∨(proA x.rounds (k - 1) n≠3∧mayR (x.rounds.getD (k - 1) rnd0).pro v=true)):Rgt ⟨x.has,x.batch,rstR x.rounds k n v,x.dec⟩:=by
 have hg:∀ j,(rstR x.rounds k n v).getD j rnd0=if j=k then ⟨(x.rounds.getD k rnd0).rep.set n v,(x.rounds.getD k rnd0).pro⟩ else x.rounds.getD j rnd0:=fun j=>getD_set _ _ hk _ j
 have hp:∀ j,((rstR x.rounds k n v).getD j rnd0).pro=(x.rounds.getD j rnd0).pro:=fun j=>by
  rw [hg]
  split
  ·rename_i e;rw [e]
  ·rfl
 have hP:∀ j m,proA (rstR x.rounds k n v) j m=proA x.rounds j m:=fun j m=>by unfold proA;rw [hp]
 have hl3:=vf_len (R.votes k hk).1
 have hRe:∀ j m,repA (rstR x.rounds k n v) j m=if j=k∧m=n then v else repA x.rounds j m:=fun j m=>by
  unfold repA
  rw [hg]
  by_cases hj:j=k
  ·subst hj
   rw [if_pos rfl]
   show ((x.rounds.getD j rnd0).rep.set n v).getD m 0=_
   rw [getZ_set _ n (by omega)]
   by_cases hm:m=n
   ·rw [if_pos hm,if_pos ⟨rfl,hm⟩]
   ·rw [if_neg hm,if_neg (fun e=>hm e.2)]
  ·rw [if_neg hj,if_neg (fun e=>hj e.1)]
 have hlen:(rstR x.rounds k n v).length=x.rounds.length:=rstR_length _ _ _ _
 refine ⟨R.bat0,R.bat1,by rw [hlen];exact R.len,fun j hj=>?_,R.dec,fun j hj m hm' => ?_,fun j hj m hm' => ?_,fun m hm' => ?_⟩
 ·rw [hlen] at hj
  rw [hp]
  refine ⟨?_,(R.votes j hj).2⟩
  rw [hg]
  split
  ·exact vf_set (R.votes k hk).1 n v (vok01 hv (by decide))
  ·exact (R.votes j hj).1
 ·replace hj:j < x.rounds.length:=by rw [← hlen];exact hj
  obtain ⟨h1,h2⟩:=rep_may (R.rep j hj m hm')
  by_cases hjm:j=k∧m=n
  ·refine rep_mk ?_ ?_
   ·rw [hRe,if_pos hjm]
    exact hb
   ·rw [hRe,if_pos hjm,hP,hp,hjm.1,hjm.2]
    rcases hm with hm | hm
    ·exact Or.inr (Or.inl hm)
    ·exact Or.inr (Or.inr hm)
  ·refine rep_mk ?_ ?_
   ·rw [hRe,if_neg hjm]
    exact h1
   ·rw [hRe,if_neg hjm,hP,hp]
    exact h2
 ·replace hj:j < x.rounds.length:=by rw [← hlen];exact hj
  rcases pro_may (R.pro j hj m hm') with h1 | ⟨h1,h2⟩
  ·exact pro_yes (Or.inl (by rw [hP];exact h1))
  ·have hne:¬ (j=k∧m=n):=fun e=>h1 (by rw [e.1,e.2];exact h3)
   refine pro_yes (Or.inr ⟨by rw [hRe,if_neg hne];exact h1,?_⟩)
   rw [hP,hg]
   split
   ·rename_i e
    subst e
    exact mayP_set (R.votes j hj).1 n hn h3 hv (vf_mem4 (Or.inr rfl) (R.votes j hj).2 m hm') h2
   ·exact h2
 ·have he:=R.en m hm'
  unfold endR at he ⊢
  rw [Bool.or_eq_true] at he ⊢
  rcases he with he | he
  ·exact Or.inl he
  ·right
   obtain ⟨j,hj,hc⟩:=agr_iff.1 he
   exact agr_iff.2 ⟨j,by rw [hlen];exact hj,by rw [hp];exact hc⟩

/-- A proposal is laid. -/
theorem rgt_pro {x:InstE} (R:Rgt x) (k n:Nat) (m:Int) (hk:k < x.rounds.length) (hn:n < 3) (h3:proA x.rounds k n=3) (hr:repA x.rounds k n≠3) (hm:pfC (x.rounds.getD k rnd0).rep m=0):Rgt ⟨x.has,x.batch,rstP x.rounds k n (pfV (x.rounds.getD k rnd0).rep m),x.dec⟩:=by
 have hv:=pfV_in hm
 have hmp:=mayP_own hm
 generalize pfV (x.rounds.getD k rnd0).rep m=v at *
 have hg:∀ j,(rstP x.rounds k n v).getD j rnd0=if j=k then ⟨(x.rounds.getD k rnd0).rep,(x.rounds.getD k rnd0).pro.set n v⟩ else x.rounds.getD j rnd0:=fun j=>getD_set _ _ hk _ j
 have hp:∀ j,((rstP x.rounds k n v).getD j rnd0).rep=(x.rounds.getD j rnd0).rep:=fun j=>by
  rw [hg]
  split
  ·rename_i e;rw [e]
  ·rfl
 have hRe:∀ j m,repA (rstP x.rounds k n v) j m=repA x.rounds j m:=fun j m=>by unfold repA;rw [hp]
 have hl3:=vf_len (R.votes k hk).2
 have hP:∀ j m,proA (rstP x.rounds k n v) j m=if j=k∧m=n then v else proA x.rounds j m:=fun j m=>by
  unfold proA
  rw [hg]
  by_cases hj:j=k
  ·subst hj
   rw [if_pos rfl]
   show ((x.rounds.getD j rnd0).pro.set n v).getD m 0=_
   rw [getZ_set _ n (by omega)]
   by_cases hm:m=n
   ·rw [if_pos hm,if_pos ⟨rfl,hm⟩]
   ·rw [if_neg hm,if_neg (fun e=>hm e.2)]
  ·rw [if_neg hj,if_neg (fun e=>hj e.1)]
 have hlen:(rstP x.rounds k n v).length=x.rounds.length:=rstP_length _ _ _ _
 have hbo:both ((x.rounds.getD k rnd0).pro.set n v)=false:=both_no (rep:=(x.rounds.getD k rnd0).rep) (fun j hj=>by
  rw [getZ_set _ n (by omega)]
  by_cases e:j=n
  ·rw [if_pos e]
   exact Or.inr hmp
  ·rw [if_neg e]
   rcases pro_may (R.pro k hk j hj) with h1 | ⟨_,h2⟩
   ·exact Or.inl h1
   ·exact Or.inr h2)
 have hpn:(x.rounds.getD k rnd0).pro.getD n 0=3:=h3
 have hv3:v≠3:=by
  simp only [List.mem_cons,List.not_mem_nil,or_false] at hv
  omega
 refine ⟨R.bat0,R.bat1,by rw [hlen];exact R.len,fun j hj=>?_,R.dec,fun j hj m hm' => ?_,fun j hj m hm' => ?_,fun m hm' => ?_⟩
 ·rw [hlen] at hj
  rw [hp]
  refine ⟨(R.votes j hj).1,?_⟩
  rw [hg]
  split
  ·exact vf_set (R.votes k hk).2 n v (vok012 hv)
  ·exact (R.votes j hj).2
 ·replace hj:j < x.rounds.length:=by rw [← hlen];exact hj
  obtain ⟨h1,h2⟩:=rep_may (R.rep j hj m hm')
  refine rep_mk (by rw [hRe];exact h1) ?_
  rw [hRe]
  rcases h2 with h2 | h2 | ⟨h2,h4⟩
  ·exact Or.inl h2
  ·exact Or.inr (Or.inl h2)
  ·by_cases e3:repA x.rounds j m=3
   ·exact Or.inl e3
   ·refine Or.inr (Or.inr ⟨?_,?_⟩)
    ·rw [hP]
     split
     ·exact hv3
     ·exact h2
    ·rw [hg]
     split
     ·rename_i e
      have h01:repA x.rounds j m=0∨repA x.rounds j m=1:=by
       rcases vOk1 (vf_vote (R.votes j hj).1 m hm') with h | h | h
       ·exact Or.inl h
       ·exact Or.inr h
       ·exact absurd h e3
      rw [e] at h4
      exact mayR_set (R.votes k hk).2 n hn hpn hv hbo h01 h4
     ·exact h4
 ·replace hj:j < x.rounds.length:=by rw [← hlen];exact hj
  by_cases hjm:j=k∧m=n
  ·refine pro_yes (Or.inr ⟨by rw [hRe,hjm.1,hjm.2];exact hr,?_⟩)
   rw [hP,if_pos hjm,hp,hjm.1]
   exact hmp
  ·rcases pro_may (R.pro j hj m hm') with h1 | ⟨h1,h2⟩
   ·exact pro_yes (Or.inl (by rw [hP,if_neg hjm];exact h1))
   ·exact pro_yes (Or.inr ⟨by rw [hRe];exact h1,by rw [hP,if_neg hjm,hp];exact h2⟩)
 ·have he:=R.en m hm'
  unfold endR at he ⊢
  rw [Bool.or_eq_true] at he ⊢
  rcases he with he | he
  ·exact Or.inl he
  ·rcases dec01 R m hm' with hd | hd | hd
   all_goals first | (left;rw [hd];rfl) | skip
   all_goals
    right
    obtain ⟨j,hj,hc⟩:=agr_iff.1 he
    refine agr_iff.2 ⟨j,by rw [hlen];exact hj,?_⟩
    rw [hg]
    split
    ·rename_i e
     subst e
     exact Int.le_trans hc (cnt_set (R.votes j hj).2 n hn hpn hv (u:=x.dec.getD m 0) (by omega))
    ·exact hc

/-- An open round behind the last one. -/
theorem rgt_ens {x:InstE} (R:Rgt x) (k:Nat) (h4:k < 4):Rgt ⟨x.has,x.batch,ensR x.rounds k,x.dec⟩:=by
 by_cases hk:k=x.rounds.length
 ·have he:ensR x.rounds k=x.rounds ++ [opn3]:=if_pos hk
  rw [he]
  have hg:∀ j,j < x.rounds.length→(x.rounds ++ [opn3]).getD j rnd0=x.rounds.getD j rnd0:=fun j hj=>by
   simp only [List.getD]
   rw [List.getElem?_append_left hj]
  have hgl:(x.rounds ++ [opn3]).getD x.rounds.length rnd0=opn3:=by simp [List.getD]
  have hlen:(x.rounds ++ [opn3]).length=x.rounds.length + 1:=by simp
  have hlast:∀ j,j < (x.rounds ++ [opn3]).length→j < x.rounds.length∨j=x.rounds.length:=fun j hj=>by omega
  have hop:∀ m,m < 3→repA (x.rounds ++ [opn3]) x.rounds.length m=3∧proA (x.rounds ++ [opn3]) x.rounds.length m=3:=fun m hm=>by
   unfold repA proA
   rw [hgl]
   have:m=0∨m=1∨m=2:=by omega
   rcases this with rfl | rfl | rfl <;> exact ⟨rfl,rfl⟩
  have hR:∀ j m,j < x.rounds.length→repA (x.rounds ++ [opn3]) j m=repA x.rounds j m:=fun j m hj=>by unfold repA;rw [hg j hj]
  have hP:∀ j m,j < x.rounds.length→proA (x.rounds ++ [opn3]) j m=proA x.rounds j m:=fun j m hj=>by unfold proA;rw [hg j hj]
  refine ⟨R.bat0,R.bat1,by show 1≤(x.rounds ++ [opn3]).length∧(x.rounds ++ [opn3]).length≤4;have:=R.len;omega,fun j hj=>?_,R.dec,fun j hj m hm=>?_,fun j hj m hm=>?_,fun m hm=>?_⟩
  ·rcases hlast j hj with hj' | rfl
   ·rw [hg j hj']
    exact R.votes j hj'
   ·rw [hgl]
    decide
  ·rcases hlast j hj with hj' | rfl
   ·obtain ⟨h1,h2⟩:=rep_may (R.rep j hj' m hm)
    refine rep_mk (by rw [hR j m hj'];exact h1) ?_
    rw [hR j m hj',hP (j - 1) m (by omega),hg (j - 1) (by omega)]
    exact h2
   ·refine rep_mk ?_ (Or.inl (hop m hm).1)
    rw [(hop m hm).1]
    omega
  ·rcases hlast j hj with hj' | rfl
   ·rcases pro_may (R.pro j hj' m hm) with h1 | h1
    ·exact pro_yes (Or.inl (by rw [hP j m hj'];exact h1))
    ·refine pro_yes (Or.inr ?_)
     rw [hP j m hj',hR j m hj',hg j hj']
     exact h1
   ·exact pro_yes (Or.inl (hop m hm).2)
  ·have hE:=R.en m hm
   unfold endR at hE ⊢
   rw [Bool.or_eq_true] at hE ⊢
   rcases hE with hE | hE
   ·exact Or.inl hE
   ·right
    obtain ⟨j,hj,hc⟩:=agr_iff.1 hE
    exact agr_iff.2 ⟨j,by show j < (x.rounds ++ [opn3]).length;omega,by rw [hg j hj];exact hc⟩
 ·have he:ensR x.rounds k=x.rounds:=if_neg hk
  rw [he]
  exact R

/-- What was agreed upon is decided. -/
theorem rgt_dec {x:InstE} (R:Rgt x) (n:Nat) (hn:n < 3) (v:Int) (hv:v=0∨v=1) (ha:agr x.rounds v=true):Rgt ⟨x.has,x.batch,x.rounds,x.dec.set n v⟩:=by
 refine ⟨R.bat0,R.bat1,R.len,R.votes,vf_set R.dec n v (vok01 hv (by decide)),R.rep,R.pro,fun m hm=>?_⟩
 have hl:=vf_len R.dec
 show endR x.rounds ((x.dec.set n v).getD m 0)=true
 rw [getZ_set _ n (by omega)]
 split
 ·unfold endR
  rw [ha]
  simp
 ·exact R.en m hm

/-- Without a batch nobody comes to 1. -/
theorem no_batch {x:InstE} (R:Rgt x) (hh:x.has=false) (k:Nat) (hk:k < x.rounds.length):¬ 0 < cnt 7 (x.rounds.getD k rnd0).pro 1:=fun h=>by
 obtain ⟨m,hm,e⟩:=(cnt7_pos _ _).1 h
 have e' : proA x.rounds k m=1:=e
 rcases pro_may (R.pro k hk m hm) with h1 | ⟨_,h2⟩
 ·omega
 ·rw [e'] at h2
  obtain ⟨j,hj,ej⟩:=mayP_has1 h2
  exact (rep_may (R.rep k hk j hj)).1 ⟨ej,hh⟩

theorem go_on_v {x:InstE} (R:Rgt x) (k:Nat) (hk:k < x.rounds.length) {m coin:Int} (hc:chC (x.rounds.getD k rnd0).pro m (coF x.has coin)=0):¬ (cfV (x.rounds.getD k rnd0).pro m (coF x.has coin)=1∧x.has=false):=fun ⟨h1,hh⟩=>by
 have hno:=no_batch R hh k hk
 have hle:=cnt_le m (x.rounds.getD k rnd0).pro 1
 rw [cfV_of hc] at h1
 unfold chV at h1
 split at h1
 ·exact absurd h1 (by decide)
 ·rw [if_neg (by omega)] at h1
  rw [hh] at h1
  unfold coF at h1
  split at h1
  ·exact absurd h1 (by decide)
  ·rename_i hne
   exact hne ⟨h1,rfl⟩

theorem cfD_agr {x:InstE} (k:Nat) (hk:k < x.rounds.length) {m c:Int} (hc:chC (x.rounds.getD k rnd0).pro m c=0) (hD:cfD (x.rounds.getD k rnd0).pro m c=true):agr x.rounds (cfV (x.rounds.getD k rnd0).pro m c)=true:=by
 refine agr_iff.2 ⟨k,hk,?_⟩
 rw [cfV_of hc]
 unfold cfD at hD
 rw [if_pos hc] at hD
 have h0:=cnt_le m (x.rounds.getD k rnd0).pro 0
 have h1:=cnt_le m (x.rounds.getD k rnd0).pro 1
 unfold chD at hD
 unfold chV
 by_cases hz:0 < cnt m (x.rounds.getD k rnd0).pro 0
 ·rw [if_pos hz] at hD ⊢
  have:=of_decide_eq_true hD
  omega
 ·rw [if_neg hz] at hD ⊢
  have:=of_decide_eq_true hD
  rw [if_pos (by omega)]
  omega

theorem ins_first {x:InstE} {node value:Int} (h:frC x node value=0):insF (frI x node value)=0:=by
 have hat:atC x node 0=0:=by
  rcases Decidable.em (atC x node 0=0) with h0 | h0
  ·exact h0
  ·have:=((fr_facts x node value).1 h0).1
   rw [h] at this
   exact this.symm
 obtain ⟨hi,n,rfl,hn,hr,f3,f6,f10,f0⟩:=(fr_facts x node value).2 hat
 have hV:inB value 0 1=true:=by
  cases hV:inB value 0 1 with
  | true=>rfl
  | false=>have:=(f3 hV).1;rw [h] at this;exact absurd this (by decide)
 have h3:repA x.rounds 0 n=3:=by
  rcases Decidable.em (repA x.rounds 0 n=3) with h3 | h3
  ·exact h3
  ·have:=(f6 hV h3).1;rw [h] at this;exact absurd this (by decide)
 have hb:¬ (value=1∧x.has=false):=fun ⟨e1,e2⟩=>by
  have:=(f10 hV h3 e1 e2).1
  rw [h] at this
  exact absurd this (by decide)
 rw [(f0 hV h3 hb).2]
 have hv:=of_decide_eq_true hV
 exact ins_of (rgt_rep (rgt_of hi) 0 n value hr hn h3 (by omega) hb (Or.inl rfl))

theorem ins_propose {x:InstE} {node round mask:Int} (h:prC x node round mask=0):insF (prI x node round mask)=0∧(prI x node round mask).dec=x.dec:=by
 have hat:atC x node round=0:=by
  rcases Decidable.em (atC x node round=0) with h0 | h0
  ·exact h0
  ·have:=((pr_facts x node round mask).1 h0).1
   rw [h] at this
   exact this.symm
 obtain ⟨hi,n,r,rfl,rfl,hn,hr,f6,f8,fP,f0⟩:=(pr_facts x node round mask).2 hat
 have h3:proA x.rounds r n=3:=by
  rcases Decidable.em (proA x.rounds r n=3) with h3 | h3
  ·exact h3
  ·have:=(f6 h3).1;rw [h] at this;exact absurd this (by decide)
 have h4:repA x.rounds r n≠3:=fun h4=>by
  have:=(f8 h3 h4).1;rw [h] at this;exact absurd this (by decide)
 have h5:pfC (x.rounds.getD r rnd0).rep mask=0:=by
  rcases Decidable.em (pfC (x.rounds.getD r rnd0).rep mask=0) with h5 | h5
  ·exact h5
  ·have:=(fP h3 h4 h5).1;rw [h] at this;exact this.symm
 rw [(f0 h3 h4 h5).2]
 exact ⟨ins_of (rgt_pro (rgt_of hi) r n mask hr hn h3 h4 h5),rfl⟩

/-- What GoOn leaves, and what it tells. -/
theorem ins_go {x:InstE} {node round mask coin:Int} (h:goC x node round mask coin=0):insF (goI x node round mask coin)=0∧∃ n v,n < 3∧(v=0∨v=1)∧goV x node round mask coin=v∧(goD x node round mask coin=true→agr x.rounds v=true)∧(goI x node round mask coin).dec=if goD x node round mask coin then x.dec.set n v else x.dec:=by
 have hat:atC x node round=0:=by
  rcases Decidable.em (atC x node round=0) with h0 | h0
  ·exact h0
  ·have:=((go_facts x node round mask coin).1 h0).1
   rw [h] at this
   exact this.symm
 obtain ⟨hi,n,r,rfl,rfl,hn,hr,f8,fC,f6,f0⟩:=(go_facts x node round mask coin).2 hat
 have h3:proA x.rounds r n≠3:=fun h3=>by
  have:=(f8 h3).1;rw [h] at this;exact absurd this (by decide)
 have h4:chC (x.rounds.getD r rnd0).pro mask (coF x.has coin)=0:=by
  rcases Decidable.em (chC (x.rounds.getD r rnd0).pro mask (coF x.has coin)=0) with h4 | h4
  ·exact h4
  ·have:=(fC h3 h4).1;rw [h] at this;exact this.symm
 have h5:rpC x.rounds (r + 1) n=0:=by
  rcases Decidable.em (rpC x.rounds (r + 1) n=0) with h5 | h5
  ·exact h5
  ·have:=(f6 h3 h4 h5).1;rw [h] at this;exact this.symm
 obtain ⟨_,eI,_,eD,_,eV⟩:=f0 h3 h4 h5
 have R:=rgt_of hi
 have hv:=cfV_in h4
 have hb:=go_on_v R r hr h4
 have hag:=cfD_agr r hr h4
 have hmr:=mayR_own h4
 rw [eI,eD,eV]
 generalize cfV (x.rounds.getD r rnd0).pro mask (coF x.has coin)=v at *
 generalize cfD (x.rounds.getD r rnd0).pro mask (coF x.has coin)=d at *
 have hv' : v=0∨v=1:=by omega
 refine ⟨?_,n,v,hn,hv',rfl,hag,rfl⟩
 have R2:Rgt ⟨x.has,x.batch,rpI x.rounds (r + 1) n v,x.dec⟩:=by
  by_cases hx:r + 1 < 4∧¬ (r + 1 < x.rounds.length∧repA x.rounds (r + 1) n≠3)
  ·have e:rpI x.rounds (r + 1) n v=rstR (ensR x.rounds (r + 1)) (r + 1) n v:=if_pos hx
   rw [e]
   have RE:=rgt_ens R (r + 1) hx.1
   have hgr:(ensR x.rounds (r + 1)).getD r rnd0=x.rounds.getD r rnd0:=by
    unfold ensR
    split
    ·simp only [List.getD]
     rw [List.getElem?_append_left hr]
    ·rfl
   refine rgt_rep RE (r + 1) n v (ensR_lt _ _ (by omega)) hn ?_ hv' hb (Or.inr ⟨?_,?_⟩)
   ·show repA (ensR x.rounds (r + 1)) (r + 1) n=3
    unfold ensR
    split
    ·rename_i e2
     unfold repA
     have:(x.rounds ++ [opn3]).getD (r + 1) rnd0=opn3:=by rw [e2];simp [List.getD]
     rw [this]
     have:n=0∨n=1∨n=2:=by omega
     rcases this with rfl | rfl | rfl <;> rfl
    ·rename_i e2
     exact Decidable.byContradiction (fun h9=>hx.2 ⟨by omega,h9⟩)
   ·show proA (ensR x.rounds (r + 1)) (r + 1 - 1) n≠3
    unfold proA
    rw [Nat.add_sub_cancel,hgr]
    exact h3
   ·show mayR ((ensR x.rounds (r + 1)).getD (r + 1 - 1) rnd0).pro v=true
    rw [Nat.add_sub_cancel,hgr]
    exact hmr
  ·have e:rpI x.rounds (r + 1) n v=x.rounds:=if_neg hx
   rw [e]
   exact R
 cases d with
 | false=>exact ins_of R2
 | true=>
  refine ins_of (rgt_dec R2 n hn v hv' ?_)
  obtain ⟨j,hj,hc⟩:=agr_iff.1 (hag rfl)
  by_cases hx:r + 1 < 4∧¬ (r + 1 < x.rounds.length∧repA x.rounds (r + 1) n≠3)
  ·show agr (rpI x.rounds (r + 1) n v) v=true
   have e:rpI x.rounds (r + 1) n v=rstR (ensR x.rounds (r + 1)) (r + 1) n v:=if_pos hx
   rw [e]
   have hge:(ensR x.rounds (r + 1)).getD j rnd0=x.rounds.getD j rnd0:=by
    unfold ensR
    split
    ·simp only [List.getD]
     rw [List.getElem?_append_left hj]
    ·rfl
   have hle:x.rounds.length≤(ensR x.rounds (r + 1)).length:=by
    unfold ensR
    split
    ·simp
    ·exact Nat.le_refl _
   refine agr_iff.2 ⟨j,by rw [rstR_length];omega,?_⟩
   unfold rstR
   rw [getD_set _ _ (ensR_lt _ _ (by omega))]
   split
   ·rename_i e2
    have hge2:(ensR x.rounds (r + 1)).getD (r + 1) rnd0=x.rounds.getD j rnd0:=by
     have:=hge
     rw [e2] at this
     rw [e2]
     exact this
    show 2≤cnt 7 ((ensR x.rounds (r + 1)).getD (r + 1) rnd0).pro v
    rw [hge2]
    exact hc
   ·rw [hge]
    exact hc
  ·show agr (rpI x.rounds (r + 1) n v) v=true
   have e:rpI x.rounds (r + 1) n v=x.rounds:=if_neg hx
   rw [e]
   exact hag rfl

theorem ins_new:insF newE=0:=by decide +kernel

/-- Behind a round in which a quorum proposed a, a alone is said. -/
theorem behind {x:InstE} (R:Rgt x) {a:Int} (ha:a=0∨a=1) (k:Nat) (hk:k < x.rounds.length) (hq:2≤cnt 7 (x.rounds.getD k rnd0).pro a):∀ d,k + 1 + d < x.rounds.length→∀ n,n < 3→(repA x.rounds (k + 1 + d) n=a∨repA x.rounds (k + 1 + d) n=3)∧(proA x.rounds (k + 1 + d) n=a∨proA x.rounds (k + 1 + d) n=3):=by
 have step:∀ j,j + 1 < x.rounds.length→(∀ u,u=0∨u=1→mayR (x.rounds.getD j rnd0).pro u=true→u=a)→∀ n,n < 3→(repA x.rounds (j + 1) n=a∨repA x.rounds (j + 1) n=3)∧(proA x.rounds (j + 1) n=a∨proA x.rounds (j + 1) n=3):=by
  intro j hj hu
  have hrep:∀ n,n < 3→repA x.rounds (j + 1) n=a∨repA x.rounds (j + 1) n=3:=fun n hn=>by
   rcases (rep_may (R.rep (j + 1) hj n hn)).2 with h | h | h
   ·exact Or.inr h
   ·omega
   ·have h2:=h.2
    rw [Nat.add_sub_cancel] at h2
    rcases vOk1 (vf_vote (R.votes (j + 1) hj).1 n hn) with e | e | e
    ·exact Or.inl (hu _ (Or.inl e) h2)
    ·exact Or.inl (hu _ (Or.inr e) h2)
    ·exact Or.inr e
  intro n hn
  refine ⟨hrep n hn,?_⟩
  rcases pro_may (R.pro (j + 1) hj n hn) with h | ⟨_,h⟩
  ·exact Or.inr h
  ·left
   have hp4:=vf_mem4 (Or.inr rfl) (R.votes (j + 1) hj).2 n hn
   obtain ⟨z0,z1,z2,e⟩:=three (vf_len (R.votes (j + 1) hj).1)
   have q0:=hrep 0 (by omega)
   have q1:=hrep 1 (by omega)
   have q2:=hrep 2 (by omega)
   unfold repA at q0 q1 q2
   rw [e] at h q0 q1 q2
   exact all_pro3 a (in01 ha) z0 (by simpa using q0) z1 (by simpa using q1) z2 (by simpa using q2) _ hp4 h
 intro d
 induction d with
 | zero=>
  intro hd
  refine step k hd (fun u hu hm=>?_)
  obtain ⟨z0,h0,z1,h1,z2,h2,e⟩:=vf_three (Or.inr rfl) (R.votes k hk).2
  rw [e] at hm hq
  exact quo_rep3 z0 h0 z1 h1 z2 h2 a (in01 ha) hq u (in01 hu) hm
 | succ d ih=>
  intro hd
  have h1:=ih (by omega)
  refine step (k + 1 + d) hd (fun u hu hm=>?_)
  obtain ⟨z0,z1,z2,e⟩:=three (vf_len (R.votes (k + 1 + d) (by omega)).2)
  have q0:=(h1 0 (by omega)).2
  have q1:=(h1 1 (by omega)).2
  have q2:=(h1 2 (by omega)).2
  unfold proA at q0 q1 q2
  rw [e] at hm q0 q1 q2
  exact all_rep3 a (in01 ha) z0 (by simpa using q0) z1 (by simpa using q1) z2 (by simpa using q2) u (in01 hu) hm

theorem agree_lt {x:InstE} (R:Rgt x) {a b:Int} (ha:a=0∨a=1) (hb:b=0∨b=1) (k j:Nat) (hkj:k < j) (hj:j < x.rounds.length) (h1:2≤cnt 7 (x.rounds.getD k rnd0).pro a) (h2:2≤cnt 7 (x.rounds.getD j rnd0).pro b):a=b:=by
 have hB:=behind R ha k (by omega) h1 (j - (k + 1)) (by omega)
 rw [show k + 1 + (j - (k + 1))=j by omega] at hB
 obtain ⟨n,hn,e⟩:=(cnt7_pos _ _).1 (show 0 < cnt 7 (x.rounds.getD j rnd0).pro b by omega)
 have e' : proA x.rounds j n=b:=e
 rcases (hB n hn).2 with h | h
 ·rw [← h];exact e'
 ·omega

/-- No two nodes decide otherwise, in whatever rounds. -/
theorem agree {x:InstE} (R:Rgt x) {a b:Int} (ha:a=0∨a=1) (hb:b=0∨b=1) (h1:agr x.rounds a=true) (h2:agr x.rounds b=true):a=b:=by
 obtain ⟨k,hk,c1⟩:=agr_iff.1 h1
 obtain ⟨j,hj,c2⟩:=agr_iff.1 h2
 rcases Nat.lt_trichotomy k j with h | h | h
 ·exact agree_lt R ha hb k j h hj c1 c2
 ·subst h
  obtain ⟨z0,h0,z1,h1,z2,h2,e⟩:=vf_three (Or.inr rfl) (R.votes k hk).2
  rw [e] at c1 c2
  exact quo_one3 z0 h0 z1 h1 z2 h2 a (in01 ha) b (in01 hb) c1 c2
 ·exact (agree_lt R hb ha j k h hk c2 c1).symm

theorem outV_all (a:Int) (ha:a≠3):∀ (L:List Int),(∀ z∈L,z=3∨z=a)→a∈L→outV L=a
 | [],_,h=>by simp at h
 | z :: t,h,hm=>by
  unfold outV
  rcases h z (by simp) with e | e
  ·rw [e,if_pos rfl]
   refine outV_all a ha t (fun y hy=>h y (List.mem_cons_of_mem _ hy)) ?_
   rcases List.mem_cons.1 hm with e2 | hm
   ·exact absurd (e2.trans e) ha
   ·exact hm
  ·rw [if_neg (by rw [e];exact ha)]
   exact e

theorem outV_mem:∀ (L:List Int),outV L≠3→outV L∈L
 | [],h=>absurd rfl h
 | z :: t,h=>by
  unfold outV at h ⊢
  split
  ·rename_i e
   rw [if_pos e] at h
   exact List.mem_cons_of_mem _ (outV_mem t h)
  ·simp

theorem mem_get {L:List Int} (hl:L.length=3) {z:Int} (hz:z∈L):∃ n,n < 3∧L.getD n 0=z:=by
 obtain ⟨n,hn,rfl⟩:=List.getElem_of_mem hz
 exact ⟨n,by omega,by simp [List.getD,hn]⟩

/-- What is decided was agreed upon. -/
theorem dec_agr {x:InstE} (R:Rgt x) {z:Int} (hz:z∈x.dec) (h3:z≠3):(z=0∨z=1)∧agr x.rounds z=true:=by
 obtain ⟨n,hn,e⟩:=mem_get (vf_len R.dec) hz
 have h1:=R.en n hn
 have h2:=dec01 R n hn
 rw [e] at h1 h2
 refine ⟨by omega,?_⟩
 unfold endR at h1
 rw [Bool.or_eq_true] at h1
 rcases h1 with h1 | h1
 ·exact absurd (by simpa using h1) h3
 ·exact h1

/-- What was decided stays decided. -/
theorem stays {x:InstE} (R:Rgt x) (h:outV x.dec≠3) {n:Nat} {v:Int} (hv:v=0∨v=1) (ha:agr x.rounds v=true):v=outV x.dec∧outV (x.dec.set n v)=outV x.dec:=by
 have hm:=outV_mem _ h
 obtain ⟨h01,hag⟩:=dec_agr R hm h
 have e:=agree R hv h01 ha hag
 refine ⟨e,outV_all _ h _ (fun z hz=>?_) ?_⟩
 ·rcases List.mem_or_eq_of_mem_set hz with hz | rfl
  ·rcases Decidable.em (z=3) with h3 | h3
   ·exact Or.inl h3
   ·obtain ⟨hz1,hz2⟩:=dec_agr R hz h3
    exact Or.inr (agree R hz1 h01 hz2 hag)
  ·exact Or.inr e
 ·obtain ⟨i,hi,e2⟩:=List.getElem_of_mem hm
  by_cases hin:n=i
  ·subst hin
   rw [← e]
   exact List.mem_set hi v
  ·have:(x.dec.set n v)[i]'(by rw [List.length_set];exact hi)=outV x.dec:=by
    rw [List.getElem_set_ne hin]
    exact e2
   rw [← this]
   exact List.getElem_mem _

end Go.Proofs.YtnnenkoeklabpaaGreatDoor
namespace Go.Proofs.YtnnenkoeklabpaaGreatDoor
open Go.RowKit
set_option maxRecDepth 100000
/-- A source of draws at block b: bytes that lie below block B, and a count of at most T. -/
def Src (B:Nat) (w:World) (b:Nat) (T:Nat):Prop:=
 ∃ (a:Option Addr) (zs:List Int) (cap t:Nat),B≤b∧b < w.heap.size∧w.cell? ⟨b,0,none⟩=some (.slice a zs.length cap)∧w.cell? ⟨b,1,none⟩=some (.int .i64 (t:Int))∧w.frozen? ⟨b,1,none⟩=false ∧
  t≤T∧zs.length≤1048576∧(∀ i,0≤zs.getD i 0∧zs.getD i 0≤255)∧(∀ i,i < zs.length→∃ b' off,a=some ⟨b',off,none⟩∧b' < B∧w.cell? ⟨b',off + i,none⟩=some (.int .u8 (zs.getD i 0)))

theorem Src.lt {B b T:Nat} {w:World} (h:Src B w b T):B≤b∧b < w.heap.size:=by
 obtain ⟨a,zs,cap,t,h1,h2,_⟩:=h
 exact ⟨h1,h2⟩

/-- A source lasts while its block, and all below B, read as before. -/
theorem Src.kept {B b T:Nat} {w w' : World} (h:Src B w b T) (hs:w.heap.size≤w'.heap.size) (hb:w'.heap[b]? = w.heap[b]?) (hB:∀ k,k < B→w'.heap[k]? = w.heap[k]?):Src B w' b T:=by
 obtain ⟨a,zs,cap,t,h1,h2,h3,h4,h5,h6,h7,h8,h9⟩:=h
 refine ⟨a,zs,cap,t,h1,Nat.lt_of_lt_of_le h2 hs,?_,?_,?_,h6,h7,h8,?_⟩
 ·rw [World.cell?_of_block (w:=w) (a:=⟨b,0,none⟩) hb];exact h3
 ·rw [World.cell?_of_block (w:=w) (a:=⟨b,1,none⟩) hb];exact h4
 ·rw [World.frozen?_of_block (w:=w) (a:=⟨b,1,none⟩) hb];exact h5
 ·intro i hi
  obtain ⟨b',off,e1,e2,e3⟩:=h9 i hi
  exact ⟨b',off,e1,e2,by rw [World.cell?_of_block (w:=w) (a:=⟨b',off + i,none⟩) (hB b' e2)];exact e3⟩

theorem Src.below {B b T:Nat} {w w' : World} (h:Src B w b T) (hb:Below w.heap.size w w'):Src B w' b T:=
 h.kept hb.size (hb.block b h.lt.2) (fun k hk=>hb.block k (by have:=h.lt;omega))

theorem Src.mono {B b T T' : Nat} {w:World} (h:Src B w b T) (hT:T≤T'):Src B w b T' := by
 obtain ⟨a,zs,cap,t,h1,h2,h3,h4,h5,h6,r⟩:=h
 exact ⟨a,zs,cap,t,h1,h2,h3,h4,h5,Nat.le_trans h6 hT,r⟩

/-- The count goes one up. -/
theorem Src.step {B b T:Nat} {w:World} {a:Option Addr} {zs:List Int} {cap t:Nat} (h1:B≤b) (h2:b < w.heap.size) (h3:w.cell? ⟨b,0,none⟩=some (.slice a zs.length cap)) (h4:w.cell? ⟨b,1,none⟩=some (.int .i64 (t:Int))) (h5:w.frozen? ⟨b,1,none⟩=false)
  (h6:t≤T) (h7:zs.length≤1048576) (h8:∀ i,0≤zs.getD i 0∧zs.getD i 0≤255) (h9:∀ i,i < zs.length→∃ b' off,a=some ⟨b',off,none⟩∧b' < B∧w.cell? ⟨b',off + i,none⟩=some (.int .u8 (zs.getD i 0))) :
  Src B (w.setCell ⟨b,1,none⟩ (.int .i64 ((t:Int) + 1))) b (T + 1)∧w.grownBy (w.setCell ⟨b,1,none⟩ (.int .i64 ((t:Int) + 1))) (some b):=by
 refine ⟨⟨a,zs,cap,t + 1,h1,by simpa using h2,?_,?_,?_,by omega,h7,h8,?_⟩,⟨rfl,rfl,rfl,by simp,fun k _ hk=>Below.heap_setCell w _ _ k (fun e=>hk (by simp [e]))⟩⟩
 ·go_cell
 ·rw [World.cell?_setCell_same _ _ _ h4];simp
 ·rw [World.frozen?_setCell];exact h5
 ·intro i hi
  obtain ⟨b',off,e1,e2,e3⟩:=h9 i hi
  refine ⟨b',off,e1,e2,?_⟩
  rw [World.cell?_of_block (w:=w) (a:=⟨b',off + i,none⟩) (Below.heap_setCell w _ _ b' (by simp;omega))]
  exact e3

/-- A draw out of n: from 0 to n - 1, and 0 where n is below 1. -/
def InR (n r:Int):Prop:=0≤r∧(1≤n→r < n)∧(n < 1→r=0)

theorem InR.mod (x n:Int) (h:1≤n):InR n (x % n):=⟨Int.emod_nonneg _ (by omega),fun _=>Int.emod_lt_of_pos _ (by omega),fun k=>by omega⟩

set_option maxHeartbeats 2000000 in
theorem next_any (B b T:Nat) (n:Int) (w:World) (hS:Src B w b T) (hT:T≤1099511627776) (hn:n≤1099511627776) :
  Calls Tryz.prog 22 #[.pointer (some ⟨b,0,none⟩),.int .i64 n] w fun e w' => ∃ r:Int,e=.returned (.int .i64 r)∧InR n r∧Src B w' b (T + 1)∧w.grownBy w' (some b):=by
 obtain ⟨a,zs,cap,t,h1,h2,h3,h4,h5,h6,h7,h8,h9⟩:=hS
 obtain ⟨r1,r2⟩:=Src.step h1 h2 h3 h4 h5 h6 h7 h8 h9
 have R1:Hid (Src B (w.setCell ⟨b,1,none⟩ (.int .i64 ((t:Int) + 1))) b (T + 1)):=r1
 have R2:Hid (w.grownBy (w.setCell ⟨b,1,none⟩ (.int .i64 ((t:Int) + 1))) (some b)):=r2
 clear r1 r2
 by_cases hn1:n < 1
 ·go_enter Tryz.func22,Tryz.ntmps22
  go_wp2
  go_ret
  exact ⟨0,rfl,⟨by omega,by omega,fun _=>rfl⟩,R1.out,R2.out⟩
 ·by_cases hz:zs.length=0
  ·have hz' : ((zs.length:Int) == 0)=true:=by simp [hz]
   clear h9 hz h7
   go_enter Tryz.func22,Tryz.ntmps22
   go_wp2
   go_ret
   exact ⟨_,rfl,InR.mod _ _ (by omega),R1.out,R2.out⟩
  ·have hz' : ((zs.length:Int) == 0)=false:=by rw [beq_eq_false_iff_ne];omega
   have hpos:0 < zs.length:=by omega
   have hm1:t % zs.length < zs.length:=Nat.mod_lt _ hpos
   have hm2:(t + 1) % zs.length < zs.length:=Nat.mod_lt _ hpos
   have c1:∃ b' off,a=some ⟨b',off,none⟩∧(w.setCell ⟨b,1,none⟩ (.int .i64 ((t:Int) + 1))).cell? ⟨b',off + t % zs.length,none⟩=some (.int .u8 (zs.getD (t % zs.length) 0))∧(w.setCell ⟨b,1,none⟩ (.int .i64 ((t:Int) + 1))).cell? ⟨b',off + (t + 1) % zs.length,none⟩=some (.int .u8 (zs.getD ((t + 1) % zs.length) 0)):=by
    obtain ⟨b',off,rfl,e2,e3⟩:=h9 _ hm1
    obtain ⟨b2,off2,e4,e5,e6⟩:=h9 _ hm2
    simp only [Option.some.injEq,Addr.mk.injEq,and_true] at e4
    obtain ⟨rfl,rfl⟩:=e4
    refine ⟨b',off,rfl,?_,?_⟩
    ·rw [World.cell?_of_block (w:=w) (a:=⟨b',_,none⟩) (Below.heap_setCell w _ _ b' (by simp;omega))];exact e3
    ·rw [World.cell?_of_block (w:=w) (a:=⟨b',_,none⟩) (Below.heap_setCell w _ _ b' (by simp;omega))];exact e6
   obtain ⟨b',off,rfl,c1,c2⟩:=c1
   have u1:=h8 (t % zs.length)
   have u2:=h8 ((t + 1) % zs.length)
   have hq:(t:Int) / (zs.length:Int)≤1099511627776:=Int.le_trans (Int.ediv_le_self _ (by omega)) (by omega)
   have hq0:0≤(t:Int) / (zs.length:Int):=Int.ediv_nonneg (by omega) (by omega)
   generalize zs.getD (t % zs.length) 0=x at c1 u1
   generalize zs.getD ((t + 1) % zs.length) 0=y at c2 u2
   have m0:0≤((t:Int) + 1) % (zs.length:Int):=Int.emod_nonneg _ (by omega)
   have m1:((t:Int) + 1) % (zs.length:Int) < (zs.length:Int):=Int.emod_lt_of_pos _ (by omega)
   clear h8 h9 hz
   by_cases h200:200 < n
   ·go_enter Tryz.func22,Tryz.ntmps22
    go_wp2
    go_quiet (fail)
    go_wp2
    go_quiet (fail)
    go_wp2
    go_ret
    exact ⟨_,rfl,InR.mod _ _ (by omega),R1.out.below (below_drewN (Below.refl _ _) _),R2.out.trans ⟨rfl,rfl,rfl,Nat.le_refl _,fun _ _ _=>rfl⟩⟩
   ·go_enter Tryz.func22,Tryz.ntmps22
    go_wp2
    go_quiet (fail)
    go_wp2
    go_ret
    exact ⟨_,rfl,InR.mod _ _ (by omega),R1.out.below (below_drewN (Below.refl _ _) _),R2.out.trans ⟨rfl,rfl,rfl,Nat.le_refl _,fun _ _ _=>rfl⟩⟩

set_option maxHeartbeats 1000000 in
theorem source_any (B:Nat) (a:Option Addr) (cap:Nat) (zs:List Int) (w:World) (hB:B≤w.heap.size) (hl:zs.length≤1048576) (hu:∀ i,0≤zs.getD i 0∧zs.getD i 0≤255)
  (h:∀ i,i < zs.length→∃ b' off,a=some ⟨b',off,none⟩∧b' < B∧w.cell? ⟨b',off + i,none⟩=some (.int .u8 (zs.getD i 0))) :
  Calls Tryz.prog 13 #[.slice a zs.length cap] w fun e w' => e=.returned (.pointer (some ⟨w.heap.size,0,none⟩))∧Src B w' w.heap.size 0∧Below w.heap.size w w' := by
 go_enter Tryz.func13,Tryz.ntmps13
 go_wp2
 go_ret
 refine ⟨rfl,⟨a,zs,cap,0,hB,by simp,by simp,by simp,by simp,Nat.le_refl _,hl,hu,?_⟩,by go_grown⟩
 intro i hi
 obtain ⟨b',off,e1,e2,e3⟩:=h i hi
 refine ⟨b',off,e1,e2,?_⟩
 rw [World.cell?_of_block (w:=w) (a:=⟨b',off + i,none⟩) (Below.heap_alloc w _ b' (by omega))]
 exact e3

set_option maxHeartbeats 1000000 in
theorem pick_any (B b T base:Nat) (v:Value) (xs:List Int) (w:World) (hS:Src B w b T) (hT:T≤1099511627776) (ho:w.ownsRow base 2 1 v xs.length (xs.map (Value.int .i64))) (hx:xs≠[]) (hlen:xs.length≤100) (hne:some b≠v.ownBlock) :
  Calls Tryz.prog 23 #[.pointer (some ⟨b,0,none⟩),v] w fun e w' => ∃ r:Int,e=.returned (.int .i64 r)∧r∈xs∧Src B w' b (T + 1)∧w.grownBy w' (some b):=by
 obtain ⟨a,k,rfl⟩:=own_shape ho
 have hpos:0 < xs.length:=List.length_pos_iff.2 hx
 have hn:=next_any B b T (xs.length:Int) w hS hT (by omega)
 go_enter Tryz.func23,Tryz.ntmps23
 go_wp2_with fail
 refine hn.mono ?_
 rintro e w' ⟨r,rfl,hr,hS',hg⟩
 obtain ⟨j,rfl⟩:=Int.eq_ofNat_of_zero_le hr.1
 have hj:j < xs.length:=by have:=hr.2.1 (by omega);omega
 have ho' := ho.kept hg (Or.inr (fun e=>hne e.symm))
 obtain ⟨b2,off2,rfl,hb2,hc2⟩:=Row.own ho' j hj
 have hmem:xs.getD j 0∈xs:=by simp [List.getD,hj]
 generalize xs.getD j 0=x at hc2 hmem
 clear hr ho ho' hn
 go_wp2
 go_ret
 exact ⟨x,rfl,hmem,hS',hg⟩

end Go.Proofs.YtnnenkoeklabpaaGreatDoor
namespace Go.Proofs.YtnnenkoeklabpaaGreatDoor
open Go.RowKit
set_option maxRecDepth 100000
/-- What is written into rows other than the source's, and into new memory, leaves the source. -/
theorem Src.grown {B b T:Nat} {w w' : World} {row:Option Nat} (h:Src B w b T) (hg:w.grownBy w' row) (hne:some b≠row) (hB:∀ k,row=some k→B≤k):Src B w' b T:=
 h.kept hg.size (hg.block b h.lt.2 hne) (fun k hk=>hg.block k (by have:=h.lt;omega) (fun e=>by have:=hB k e.symm;omega))

end Go.Proofs.YtnnenkoeklabpaaGreatDoor
namespace Go.Proofs.YtnnenkoeklabpaaGreatDoor
open Go.RowKit
open Go.BigFrame
set_option maxRecDepth 100000
theorem grown_low {w wr w' : World} {b:Nat} (hg:w.grownBy wr (some b)) (hb:Below w.heap.size wr w'):w.grownBy w' (some b):=
 ⟨hb.os.trans hg.os,hb.tape.trans hg.tape,hb.output.trans hg.output,by have:=hg.size;have:=hb.size;omega,fun k hk hne=>(hb.block k hk).trans (hg.block k hk hne)⟩

theorem Src.low {B b T N:Nat} {w w' : World} (h:Src B w b T) (hb:Below N w w') (hN:b < N):Src B w' b T:=
 h.kept hb.size (hb.block b hN) (fun k hk=>hb.block k (by have:=h.lt;omega))

theorem actCells_snoc' (xs:List ActD) (z:ActD):actCells (xs ++ [z])=actCells xs ++ [.int .i64 z.kind,.int .i64 z.key,.int .i64 z.val]:=by simp [actCells,ActD.cells]

set_option maxRecDepth 100000 in
set_option maxHeartbeats 400000 in
theorem l2DrawAct_any (B b T:Nat) (w:World) (hS:Src B w b T) (hT:T≤1000000) :
  Calls Tryz.prog 55 #[.pointer (some ⟨b,0,none⟩)] w fun e w' => ∃ k y z:Int,e=.returned (.agg #[.int .i64 k,.int .i64 y,.int .i64 z])∧Src B w' b (T + 3)∧w.grownBy w' (some b):=by
 have hlt:=hS.lt
 have B0:=Blk.new w 76 #[.int .i64 0,.int .i64 0,.int .i64 0]
 have hg:w.grownBy (w.alloc (.cells #[.int .i64 0,.int .i64 0,.int .i64 0] 76)) (some b):=World.grownBy_alloc w _ _
 replace hS:Src B (w.alloc (.cells #[.int .i64 0,.int .i64 0,.int .i64 0] 76)) b T:=hS.below (by go_grown)
 go_enter Tryz.func55,Tryz.ntmps55
 go_wp2_with fail
 have hs1:w.heap.size + 1=(w.alloc (.cells #[.int .i64 0,.int .i64 0,.int .i64 0] 76)).heap.size:=by simp
 generalize w.alloc (.cells #[.int .i64 0,.int .i64 0,.int .i64 0] 76)=W1 at B0 hg hS hs1
 try simp only [hs1]
 replace hs1:w.heap.size < W1.heap.size:=by omega
 have hltp:=hS.lt
 have hbA:Below W1.heap.size W1 (W1.alloc (.cells #[.int .i64 1,.int .i64 1,.int .i64 2,.int .i64 2,.int .i64 3,.int .i64 4] 2)):=by go_grown
 replace B0:=B0.below hbA
 replace hg:=hg.trans (World.grownBy_alloc W1 (.cells #[.int .i64 1,.int .i64 1,.int .i64 2,.int .i64 2,.int .i64 3,.int .i64 4] 2) (some b))
 refine (pick_any B b T W1.heap.size _ [1,1,2,2,3,4] _ (hS.below (by go_grown)) (by omega) (World.ownsRow_lit W1 _ 6 (Nat.le_refl _) (by decide) rfl) (by simp) (by simp) (by simp [Value.ownBlock];omega)).mono ?_
 rintro e w3 ⟨k,rfl,hmem,hSn,hgn⟩
 replace B0:=B0.grown hgn (by simp;omega)
 replace hg:=hg.trans hgn
 replace hS:=hSn
 have hsz_w3:=hgn.size
 clear hgn hSn
 clear hmem
 go_wp2_with fail
 refine (next_any B b (T + 1) 4 w3 hS (by omega) (by omega)).mono ?_
 rintro e w4 ⟨r,rfl,hr,hSn,hgn⟩
 have r1:=hr.1
 have r2:=hr.2.1 (by omega)
 replace B0:=B0.grown hgn (by simp;omega)
 replace hg:=hg.trans hgn
 replace hS:=hSn
 have hsz_w4:=hgn.size
 clear hgn hSn
 clear hr
 have hbA:Below w4.heap.size w4 (w4.alloc (.cells #[.int .i64 k,.int .i64 (1 + r),.int .i64 0] 76)):=by go_grown
 have B1:=Blk.new w4 76 #[.int .i64 k,.int .i64 (1 + r),.int .i64 0]
 have hlt4:=B0.lt
 have B0w:=B0
 have hSw:=hS
 have hgw:=hg
 replace B0:=B0.below hbA
 replace hS:=hS.below hbA
 have hsw:=hg.size
 replace hg:=grown_low hg (hbA.mono hsw)
 have q0:=B1.cell 0 _ rfl
 clear hbA
 by_cases hk:k=3
 ·have hk' : (k != 3)=false:=by simp [hk]
  obtain ⟨p0,p1,p2⟩:=B0w.cel3
  obtain ⟨f0,f1,f2⟩:=B0w.frz3
  clear B0 B1 B0w hS hg hk q0
  go_wp2
  refine bodyPost_ret (v:=.agg #[.int .i64 k,.int .i64 (1 + r),.int .i64 0]) (by simp [results,Tryz.results55,go_sem,p0,p1,p2,hlt4]) rfl ?_
  have hbE:∀ O,Below w.heap.size w4 ((((w4.setCell ⟨w.heap.size,0,none⟩ (.int .i64 k)).setCell ⟨w.heap.size,1,none⟩ (.int .i64 (1 + r))).setCell ⟨w.heap.size,2,none⟩ (.int .i64 0)).alloc O):=fun O=>
   ((((Below.refl _ _).setCell (p:=⟨w.heap.size,0,none⟩) (Nat.le_refl _) _).setCell (p:=⟨w.heap.size,1,none⟩) (Nat.le_refl _) _).setCell (p:=⟨w.heap.size,2,none⟩) (Nat.le_refl _) _).alloc (by simp [World.setCell];omega) O
  exact ⟨_,_,_,rfl,(hSw.low (hbE _) hlt.2).mono (by omega),grown_low hgw (hbE _)⟩
 ·have hk' : (k != 3)=true:=by simp [bne_iff_ne,hk]
  clear B0w hSw hgw
  go_wp2_with fail
  clear q0
  have hs5:w4.heap.size + 1=(w4.alloc (.cells #[.int .i64 k,.int .i64 (1 + r),.int .i64 0] 76)).heap.size:=by simp
  generalize w4.alloc (.cells #[.int .i64 k,.int .i64 (1 + r),.int .i64 0] 76)=W5 at *
  simp only [hs5]
  clear hs5
  have hltp:=hS.lt
  have hbA:Below W5.heap.size W5 (W5.alloc (.cells #[.int .i64 0,.int .i64 1,.int .i64 5,.int .i64 (-3),.int .i64 1000] 2)):=by go_grown
  replace B0:=B0.below hbA
  replace B1:=B1.below hbA
  replace hg:=hg.trans (World.grownBy_alloc W5 (.cells #[.int .i64 0,.int .i64 1,.int .i64 5,.int .i64 (-3),.int .i64 1000] 2) (some b))
  refine (pick_any B b (T + 1 + 1) W5.heap.size _ [0,1,5,-3,1000] _ (hS.below (by go_grown)) (by omega) (World.ownsRow_lit W5 _ 5 (Nat.le_refl _) (by decide) rfl) (by simp) (by simp) (by simp [Value.ownBlock];omega)).mono ?_
  rintro e w6 ⟨z,rfl,hmem,hSn,hgn⟩
  replace B0:=B0.grown hgn (by simp;omega)
  replace B1:=B1.grown hgn (by simp;omega)
  replace hg:=hg.trans hgn
  replace hS:=hSn
  have hsz_w6:=hgn.size
  clear hgn hSn
  clear hmem
  have hsb:w4.heap.size < w6.heap.size:=B1.lt
  obtain ⟨q0,q1,q2⟩:=B1.cel3
  have g2:=B1.frozen 2
  obtain ⟨p0,p1,p2⟩:=B0.cel3
  obtain ⟨f0,f1,f2⟩:=B0.frz3
  have hne0:w.heap.size≠w4.heap.size:=by omega
  clear B0 B1 hk
  go_wp2
  refine bodyPost_ret (v:=.agg #[.int .i64 k,.int .i64 (1 + r),.int .i64 z]) (by simp [results,Tryz.results55,go_sem,p0,p1,p2]) rfl ?_
  have hbE:Below w.heap.size w6 ((((w6.setCell ⟨w4.heap.size,2,none⟩ (.int .i64 z)).setCell ⟨w.heap.size,0,none⟩ (.int .i64 k)).setCell ⟨w.heap.size,1,none⟩ (.int .i64 (1 + r))).setCell ⟨w.heap.size,2,none⟩ (.int .i64 z)):=by
   exact ((((Below.refl _ _).setCell (p:=⟨w4.heap.size,2,none⟩) (show w.heap.size≤w4.heap.size by omega) _).setCell (p:=⟨w.heap.size,0,none⟩) (Nat.le_refl _) _).setCell (p:=⟨w.heap.size,1,none⟩) (Nat.le_refl _) _).setCell (p:=⟨w.heap.size,2,none⟩) (Nat.le_refl _) _
  exact ⟨_,_,_,rfl,(hS.low hbE hlt.2).mono (by omega),grown_low hg hbE⟩

end Go.Proofs.YtnnenkoeklabpaaGreatDoor
namespace Go.Proofs.YtnnenkoeklabpaaGreatDoor
open Go.RowKit
open Go.BigFrame
set_option maxRecDepth 100000
set_option maxRecDepth 100000 in
set_option maxHeartbeats 1000000 in
theorem l2Draw_any (B b T:Nat) (w:World) (hS:Src B w b T) (hT:T≤900000) :
  Calls Tryz.prog 37 #[.pointer (some ⟨b,0,none⟩)] w fun e w' => ∃ (i s q:Int) (a:Option Addr) (c:Nat) (xs:List ActD),e=.returned (.agg #[.int .i64 i,.int .i64 s,.int .i64 q,.slice a xs.length c])∧1≤xs.length∧xs.length≤3 ∧
   w'.ownsRow w.heap.size 76 3 (.slice a xs.length c) xs.length (actCells xs)∧Src B w' b (T + 13)∧w.grownBy w' (some b):=by
 have hlt:=hS.lt
 have B0:=Blk.new w 62 #[.int .i64 0,.int .i64 0,.int .i64 0,.slice none 0 0]
 have hg:w.grownBy (w.alloc (.cells #[.int .i64 0,.int .i64 0,.int .i64 0,.slice none 0 0] 62)) (some b):=World.grownBy_alloc w _ _
 replace hS:Src B (w.alloc (.cells #[.int .i64 0,.int .i64 0,.int .i64 0,.slice none 0 0] 62)) b T:=hS.below (by go_grown)
 go_enter Tryz.func37,Tryz.ntmps37
 go_wp2_with fail
 generalize w.alloc (.cells #[.int .i64 0,.int .i64 0,.int .i64 0,.slice none 0 0] 62)=W1 at B0 hg hS
 refine (next_any B b T 12 W1 hS (by omega) (by omega)).mono ?_
 rintro e w3 ⟨r,rfl,hr,hSn,hgn⟩
 have r1:=hr.1
 have r2:=hr.2.1 (by omega)
 replace B0:=B0.grown hgn (by simp;omega)
 replace hg:=hg.trans hgn
 replace hS:=hSn
 have hsz_w3:=hgn.size
 clear hgn hSn
 clear hr
 go_wp2_with fail
 refine (next_any B b (T + 1) 3 w3 hS (by omega) (by omega)).mono ?_
 rintro e w4 ⟨s,rfl,hr,hSn,hgn⟩
 have s1:=hr.1
 have s2:=hr.2.1 (by omega)
 replace B0:=B0.grown hgn (by simp;omega)
 replace hg:=hg.trans hgn
 replace hS:=hSn
 have hsz_w4:=hgn.size
 clear hgn hSn
 clear hr
 go_wp2_with fail
 refine (next_any B b (T + 1 + 1) 4 w4 hS (by omega) (by omega)).mono ?_
 rintro e w5 ⟨q,rfl,hr,hSn,hgn⟩
 have q1:=hr.1
 have q2:=hr.2.1 (by omega)
 replace B0:=B0.grown hgn (by simp;omega)
 replace hg:=hg.trans hgn
 replace hS:=hSn
 have hsz_w5:=hgn.size
 clear hgn hSn
 clear hr
 have hbA:Below w5.heap.size w5 (w5.alloc (.cells #[.int .i64 (1 + r),.int .i64 (1 + s),.int .i64 (1 + q),.slice none 0 0] 62)):=by go_grown
 have Bt:=Blk.new w5 62 #[.int .i64 (1 + r),.int .i64 (1 + s),.int .i64 (1 + q),.slice none 0 0]
 have hr5:w.heap.size < w5.heap.size:=B0.lt
 replace B0:=B0.below hbA
 replace hS:=hS.below hbA
 replace hg:=grown_low hg (hbA.mono hg.size)
 go_wp2_with fail
 have hs6:(w5.alloc (.cells #[.int .i64 (1 + r),.int .i64 (1 + s),.int .i64 (1 + q),.slice none 0 0] 62)).heap.size=w5.heap.size + 1:=by simp
 generalize w5.alloc (.cells #[.int .i64 (1 + r),.int .i64 (1 + s),.int .i64 (1 + q),.slice none 0 0] 62)=W6 at B0 Bt hS hg hs6
 clear hbA
 refine (next_any B b (T + 1 + 1 + 1) 3 W6 hS (by omega) (by omega)).mono ?_
 rintro e w7 ⟨k,rfl,hr,hSn,hgn⟩
 have k1:=hr.1
 have k2:=hr.2.1 (by omega)
 replace B0:=B0.grown hgn (by simp;omega)
 replace Bt:=Bt.grown hgn (by simp;omega)
 replace hg:=hg.trans hgn
 replace hS:=hSn
 have hsz_w7:=hgn.size
 clear hgn hSn
 clear hr
 obtain ⟨j0,rfl⟩:=Int.eq_ofNat_of_zero_le k1
 have hj0:j0≤2:=by omega
 have hs7:w5.heap.size + 1≤w7.heap.size:=by omega
 clear k1 k2 hs6 hsz_w7 hsz_w3 hsz_w4 hsz_w5
 have hr0:(0:Int)≤1 + r∧1 + r≤100:=by omega
 go_wp2
 go_loopw [4] (fun c wr=>∃ (j:Nat) (xs:List ActD) (a1:Option Addr) (c1:Nat),c=.int .i64 j∧j + xs.length≤3∧1≤j + xs.length∧Blk wr w.heap.size 62 #[.int .i64 0,.int .i64 0,.int .i64 0,.slice none 0 0]∧Blk wr w5.heap.size 62 #[.int .i64 (1 + r),.int .i64 (1 + s),.int .i64 (1 + q),.slice a1 xs.length c1]∧wr.ownsRow (w5.heap.size + 1) 76 3 (.slice a1 xs.length c1) xs.length (actCells xs)∧Src B wr b (T + 4 + 3 * xs.length)∧w.grownBy wr (some b)∧w5.heap.size + 1≤wr.heap.size) (fun c _=>(intOf c).toNat)
 case atStart=>exact ⟨j0 + 1,[],none,0,by go_num,by simp;omega,by simp,B0,Bt,World.ownsRow_nil _ _ _ _,hS,hg,hs7⟩
 case round=>
  clear B0 Bt hS hg hs7
  obtain ⟨j,xs,a1,c1,rfl,hj3,hj1,B0,Bt,ho,hS,hg,hsz⟩:=hrel
  by_cases hpos:0 < j
  ·have hnb:some b≠Value.ownBlock (.slice a1 xs.length c1):=own_not3 ho (Or.inl (by omega))
   have t3:wr.cell? ⟨w5.heap.size,3,none⟩=some (.slice a1 xs.length c1):=Bt.cell 3 _ rfl
   generalize hP:(fun u:World=>u.cell? ⟨w5.heap.size,3,none⟩=some (.slice a1 xs.length c1))=PP
   have hP0:PP wr:=by subst hP;exact t3
   have cc0:∀ u:KeepP PP,u.val.cell? ⟨w5.heap.size,3,none⟩=some (.slice a1 xs.length c1):=fun u=>by have:=u.isP;subst hP;exact this
   have hnn:Nonempty (KeepP PP):=⟨⟨wr,hP0⟩⟩
   go_wp2_with fail
   refine beginX (S:=fun w' => ∃ u:KeepP PP,w' = u.val) (R:=fun _ _=>False) 7 (by kernel_rfl) (fun _ _ _ _ h=>h.elim) ?_
   have hPd:PP wr.drew:=by subst hP;exact hP0
   refine sgX [(0,3)] 5 (by kernel_rfl) ⟨⟨wr.drew,hPd⟩,rfl⟩ ?_
   simp only [pkE]
   repeat go_big_quiet_step (fail)
   refine wpQuiet_nil ?_
   clear cc0 hnn hP0 t3 hPd
   replace Bt:Blk wr.drew w5.heap.size 62 #[.int .i64 (1 + r),.int .i64 (1 + s),.int .i64 (1 + q),.slice a1 xs.length c1]:=Bt
   replace B0:Blk wr.drew w.heap.size 62 #[.int .i64 0,.int .i64 0,.int .i64 0,.slice none 0 0]:=B0
   replace ho:=ho.drew
   have hdr:Below wr.heap.size wr wr.drew:=(Below.refl _ _).drew
   replace hS:=hS.below hdr
   replace hg:=grown_low hg (hdr.mono hg.size)
   have keepP:∀ u:World,Blk u w5.heap.size 62 #[.int .i64 (1 + r),.int .i64 (1 + s),.int .i64 (1 + q),.slice a1 xs.length c1]→PP u:=by
    intro u hu
    subst hP
    exact hu.cell 3 _ rfl
   clear hP hdr
   have hszd:w5.heap.size + 1≤wr.drew.heap.size:=hsz
   generalize wr.drew=wd at Bt B0 ho hS hg hszd
   refine clX 3 (some 25) 55 #[.pointer (some ⟨b,0,none⟩)] 4 (by kernel_rfl) rfl ?_
   refine (l2DrawAct_any B b (T + 4 + 3 * xs.length) wd hS (by omega)).mono ?_
   rintro e w8 ⟨k,y,z,rfl,hSn,hgn⟩
   refine Or.inl ⟨_,rfl,?_⟩
   replace Bt:=Bt.grown hgn (by simp;omega)
   replace B0:=B0.grown hgn (by simp;omega)
   replace ho:=ho.kept hgn (Or.inr (fun e=>hnb e.symm))
   replace hg:=hg.trans hgn
   replace hS:=hSn
   have hsz8:w5.heap.size + 1≤w8.heap.size:=Nat.le_trans hszd hgn.size
   clear hgn hSn hsz hszd
   refine ⟨⟨⟨w8,keepP _ Bt⟩,rfl⟩,?_⟩
   simp only [Act.put,pgE,pjE]
   have hbA:Below w8.heap.size w8 (w8.alloc (.cells #[.int .i64 k,.int .i64 y,.int .i64 z] 76)):=by go_grown
   refine onX 4 3 rfl (by kernel_rfl) ?_
   go_wp2
   replace Bt:=Bt.below hbA
   replace B0:=B0.below hbA
   replace hS:=hS.below hbA
   replace hg:=grown_low hg (hbA.mono hg.size)
   refine ThenX.to ⟨Or.inr ⟨⟨_,keepP _ Bt⟩,rfl⟩,?_⟩
   have hsA:(w5.heap.size + 1)≤(w8.alloc (.cells #[.int .i64 k,.int .i64 y,.int .i64 z] 76)).heap.size:=by simp;omega
   have hsrc:∀ j u,[Value.int .i64 k,.int .i64 y,.int .i64 z][j]? = some u→(w8.alloc (.cells #[.int .i64 k,.int .i64 y,.int .i64 z] 76)).cell? ((⟨w8.heap.size,0,none⟩:Addr).add j)=some u:=by
    intro j u hj;match j,hj with | 0,hj=>simp at hj;subst hj;simp [Addr.add] | 1,hj=>simp at hj;subst hj;simp [Addr.add] | 2,hj=>simp at hj;subst hj;simp [Addr.add]
   replace ho:=own_below ho hbA
   generalize w8.alloc (.cells #[.int .i64 k,.int .i64 y,.int .i64 z] 76)=wb at hbA Bt B0 hS hg hsA hsrc ho
   obtain ⟨i0,hi,hz0,hz1,hz2⟩:=info_parts infoAct
   refine onX 5 2 rfl (by kernel_rfl) ?_
   refine wpList_append_own _ rfl _ _ 60 rfl (w5.heap.size + 1) 76 i0 (.agg #[.int .i64 0,.int .i64 0,.int .i64 0]) 3 24 Tryz.underlying60 hi hz0 hz1 hz2 rfl (by decide) _ xs.length (actCells xs) rfl ho ⟨w8.heap.size,0,none⟩ 1 1 [.int .i64 k,.int .i64 y,.int .i64 z] rfl rfl hsrc ?c2 ?c3 ?c4 ?c5 ?_
   case c2=>intro u hu;simp at hu;rcases hu with rfl | rfl | rfl <;> rfl
   case c3=>unfold maxLen;omega
   case c4=>omega
   case c5=>exact hsA
   intro v' wc hown hgrow _
   obtain ⟨a2,c2,rfl⟩:=own_shape hown
   have hgo:∀ j,(Value.slice a1 xs.length c1).ownBlock=some j→(w5.heap.size + 1)≤j:=fun j hj=>(ho.lt j hj).1
   have hBc:Below (w5.heap.size + 1) wb wc:=(Below.refl _ _).grown hgrow hsA hgo
   have hsc:(w5.heap.size + 1)≤wc.heap.size:=Nat.le_trans hsA hBc.size
   replace Bt:Blk wc w5.heap.size 62 #[.int .i64 (1 + r),.int .i64 (1 + s),.int .i64 (1 + q),.slice a1 xs.length c1]:=(hBc.block _ (by omega)).trans Bt
   replace B0:Blk wc w.heap.size 62 #[.int .i64 0,.int .i64 0,.int .i64 0,.slice none 0 0]:=(hBc.block _ (by omega)).trans B0
   replace hS:=hS.low hBc (by omega)
   replace hg:=grown_low hg (hBc.mono (by omega))
   clear hgrow hgo hBc ho hbA hsrc
   go_wp2
   refine ThenX.to ⟨Or.inr ⟨⟨_,keepP _ Bt⟩,rfl⟩,?_⟩
   simp only [Act.put,pgE,pjE]
   refine onX 6 1 rfl (by kernel_rfl) ?_
   go_wp2
   refine ThenX.to ⟨Or.inr ⟨⟨_,keepP _ Bt⟩,rfl⟩,?_⟩
   refine onX 7 0 rfl (by kernel_rfl) ?_
   have t3:=Bt.cell 3 _ rfl
   have t4:=Bt.frozen 3
   go_wp2
   clear t3 t4 keepP
   refine ThenX.to ⟨Or.inl (by kernel_rfl),?_⟩
   refine endX (by kernel_rfl) ?_
   have hbS:Below w5.heap.size wc (wc.setCell ⟨w5.heap.size,3,none⟩ (.slice a2 (xs.length + 1) c2)):=(Below.refl _ _).setCell (p:=⟨w5.heap.size,3,none⟩) (Nat.le_refl _) _
   replace Bt:Blk (wc.setCell ⟨w5.heap.size,3,none⟩ (.slice a2 (xs.length + 1) c2)) w5.heap.size 62 #[.int .i64 (1 + r),.int .i64 (1 + s),.int .i64 (1 + q),.slice a2 (xs.length + 1) c2]:=by
    have:=Go.Joins.block_setCell (i:=3) (v:=.slice a2 (xs.length + 1) c2) Bt
    unfold Blk
    simpa using this
   replace B0:=(hbS.block _ (by omega)).trans B0
   have ho:=ownsRow_setCell_below (a:=⟨w5.heap.size,3,none⟩) hown (by dsimp only;omega) (.slice a2 (xs.length + 1) c2)
   replace hS:=hS.low hbS (by omega)
   replace hg:=grown_low hg (hbS.mono (by omega))
   have hszN:(w5.heap.size + 1)≤(wc.setCell ⟨w5.heap.size,3,none⟩ (.slice a2 (xs.length + 1) c2)).heap.size:=by simpa [World.setCell] using hsc
   clear hsc hsA hown hi hz0 hz1 hz2 hbS
   generalize wc.setCell ⟨w5.heap.size,3,none⟩ (.slice a2 (xs.length + 1) c2)=w9 at Bt B0 ho hS hg hszN
   have ho2:w9.ownsRow (w5.heap.size + 1) 76 3 (.slice a2 (xs.length + 1) c2) (xs.length + 1) (actCells (xs ++ [⟨k,y,z⟩])):=by rw [actCells_snoc'];exact ho
   clear ho
   go_wp2
   go_roundw
   case rel=>
    refine ⟨j - 1,xs ++ [⟨k,y,z⟩],a2,c2,by go_num,by simp;omega,by simp;omega,B0,by simpa using Bt,by simpa using ho2,hS.mono (by simp;omega),hg,hszN⟩
   case measure=>simp [intOf];omega
  ·have p0:=B0.cell 0 _ rfl
   have p1:=B0.cell 1 _ rfl
   have p2:=B0.cell 2 _ rfl
   have p3:=B0.cell 3 _ rfl
   obtain ⟨f0,f1,f2,f3⟩:=B0.frz4
   obtain ⟨q0,q1,q2,q3⟩:=Bt.cel4
   clear B0 Bt
   go_wp2
   refine bodyPost_ret (v:=.agg #[.int .i64 (1 + r),.int .i64 (1 + s),.int .i64 (1 + q),.slice a1 xs.length c1]) (by simp [results,Tryz.results37,go_sem,p0,p1,p2,p3]) rfl ?_
   have hbE:∀ v0 v1 v2 v3:Value,Below (w.heap.size) wr ((((wr.setCell ⟨w.heap.size,0,none⟩ v0).setCell ⟨w.heap.size,1,none⟩ v1).setCell ⟨w.heap.size,2,none⟩ v2).setCell ⟨w.heap.size,3,none⟩ v3):=fun v0 v1 v2 v3=>
    ((((Below.refl _ _).setCell (p:=⟨w.heap.size,0,none⟩) (Nat.le_refl _) _).setCell (p:=⟨w.heap.size,1,none⟩) (Nat.le_refl _) _).setCell (p:=⟨w.heap.size,2,none⟩) (Nat.le_refl _) _).setCell (p:=⟨w.heap.size,3,none⟩) (Nat.le_refl _) _
   refine ⟨_,_,_,a1,c1,xs,rfl,by omega,by omega,?_,(hS.low (hbE _ _ _ _) hlt.2).mono (by omega),grown_low hg (hbE _ _ _ _)⟩
   refine own_base (base:=w5.heap.size + 1) ?_ (by omega)
   repeat' (refine ownsRow_setCell_below ?_ (by dsimp only;omega) _)
   exact ho

end Go.Proofs.YtnnenkoeklabpaaGreatDoor
namespace Go.Proofs.YtnnenkoeklabpaaGreatDoor
open Go.RowKit Go.Maps
open Go.BigFrame
set_option maxRecDepth 100000
theorem made0:(madeCells #[Value.int .i64 0,.int .i64 0,.int .i64 0] (0 * 3)).toList=actCells (List.replicate 0 actNo):=by kernel_rfl

theorem made5:(madeCells #[Value.int .i64 0,.int .i64 0,.int .i64 0] (5 * 3)).toList=actCells (List.replicate 5 actNo):=by kernel_rfl

theorem act_set1 (xs:List ActD) (h:1≤xs.length) (v:Int):∃ ys:List ActD,ys.length=xs.length∧(actCells xs).set 1 (.int .i64 v)=actCells ys:=by
 cases xs with
 | nil=>simp at h
 | cons x r=>exact ⟨⟨x.kind,v,x.val⟩ :: r,by simp,by simp [actCells,ActD.cells]⟩

set_option maxRecDepth 100000 in
set_option maxHeartbeats 1500000 in
theorem l2Bent_any (B b T:Nat) (w:World) (hS:Src B w b T) (hT:T≤900000) :
  Calls Tryz.prog 24 #[.pointer (some ⟨b,0,none⟩)] w fun e w' => ∃ (i s q:Int) (a:Option Addr) (c:Nat) (xs:List ActD),e=.returned (.agg #[.int .i64 i,.int .i64 s,.int .i64 q,.slice a xs.length c])∧xs.length≤5 ∧
   w'.ownsRow w.heap.size 76 3 (.slice a xs.length c) xs.length (actCells xs)∧Src B w' b (T + 15)∧w.grownBy w' (some b):=by
 have hlt:=hS.lt
 have B0:=Blk.new w 62 #[.int .i64 0,.int .i64 0,.int .i64 0,.slice none 0 0]
 have hg:w.grownBy (w.alloc (.cells #[.int .i64 0,.int .i64 0,.int .i64 0,.slice none 0 0] 62)) (some b):=World.grownBy_alloc w _ _
 replace hS:Src B (w.alloc (.cells #[.int .i64 0,.int .i64 0,.int .i64 0,.slice none 0 0] 62)) b T:=hS.below (by go_grown)
 go_enter Tryz.func24,Tryz.ntmps24
 go_wp2_with fail
 have hs1:(w.alloc (.cells #[.int .i64 0,.int .i64 0,.int .i64 0,.slice none 0 0] 62)).heap.size=w.heap.size + 1:=by simp
 generalize w.alloc (.cells #[.int .i64 0,.int .i64 0,.int .i64 0,.slice none 0 0] 62)=W1 at B0 hg hS hs1
 refine (l2Draw_any B b T W1 hS hT).mono ?_
 rintro e w2 ⟨i,s,q,a,c,xs,rfl,hx1,hx3,ho,hSn,hgn⟩
 replace B0:=B0.grown hgn (by simp;omega)
 replace hg:=hg.trans hgn
 replace hS:=hSn
 rw [hs1] at ho
 have hnb:some b≠Value.ownBlock (.slice a xs.length c):=own_not3 ho (Or.inl (by omega))
 have hr2:w.heap.size < w2.heap.size:=B0.lt
 have hbk:∀ k,Value.ownBlock (.slice a xs.length c)=some k→k < w2.heap.size:=fun k hk=>(ho.lt k hk).2
 clear hgn hSn hs1
 have hbA:Below w2.heap.size w2 (w2.alloc (.cells #[.int .i64 i,.int .i64 s,.int .i64 q,.slice a xs.length c] 62)):=by go_grown
 have Bt:=Blk.new w2 62 #[.int .i64 i,.int .i64 s,.int .i64 q,.slice a xs.length c]
 replace B0:=B0.below hbA
 replace hS:=hS.below hbA
 replace ho:=own_below ho hbA
 replace hg:=grown_low hg (hbA.mono hg.size)
 have hs3:w2.heap.size + 1≤(w2.alloc (.cells #[.int .i64 i,.int .i64 s,.int .i64 q,.slice a xs.length c] 62)).heap.size:=by simp
 go_wp2_with fail
 generalize w2.alloc (.cells #[.int .i64 i,.int .i64 s,.int .i64 q,.slice a xs.length c] 62)=W3 at B0 Bt hS hg ho hs3
 clear hbA
 refine (next_any B b (T + 13) 12 W3 hS (by omega) (by omega)).mono ?_
 rintro e w4 ⟨r,rfl,hr,hSn,hgn⟩
 have r1:=hr.1
 have r2:=hr.2.1 (by omega)
 replace B0:=B0.grown hgn (by simp;omega)
 replace Bt:=Bt.grown hgn (by simp;omega)
 replace ho:=ho.kept hgn (Or.inr (fun e=>hnb e.symm))
 replace hg:=hg.trans hgn
 replace hS:=hSn
 have hsz_w4:=hgn.size
 clear hgn hSn
 clear hr
 replace hs3:w2.heap.size + 1≤w4.heap.size:=Nat.le_trans hs3 hsz_w4
 clear hsz_w4
 have hbt:w.heap.size≠w2.heap.size:=by omega
 have htb:w2.heap.size≠w.heap.size:=by omega
 by_cases hr0:r=0
 ·subst hr0
  go_wp2_with fail
  have hltp:=hS.lt
  have hbA:Below w4.heap.size w4 (w4.alloc (.cells #[.int .i64 0,.int .i64 200,.int .i64 201] 2)):=by go_grown
  replace B0:=B0.below hbA
  replace Bt:=Bt.below hbA
  replace ho:=ho.alloc (.cells #[.int .i64 0,.int .i64 200,.int .i64 201] 2)
  replace hg:=hg.trans (World.grownBy_alloc w4 (.cells #[.int .i64 0,.int .i64 200,.int .i64 201] 2) (some b))
  refine (pick_any B b (T + 13 + 1) w4.heap.size _ [0,200,201] _ (hS.below (by go_grown)) (by omega) (World.ownsRow_lit w4 _ 3 (Nat.le_refl _) (by decide) rfl) (by simp) (by simp) (by simp [Value.ownBlock];omega)).mono ?_
  rintro e w5 ⟨v,rfl,hmem,hSn,hgn⟩
  replace B0:=B0.grown hgn (by simp;omega)
  replace Bt:=Bt.grown hgn (by simp;omega)
  replace ho:=ho.kept hgn (Or.inr (fun e=>hnb e.symm))
  replace hg:=hg.trans hgn
  replace hS:=hSn
  have hsz_w5:=hgn.size
  clear hgn hSn
  clear hmem
  have p0:=B0.cell 0 _ rfl
  have f0:=B0.frozen 0
  have q0:=Bt.cell 0 _ rfl
  have p1:=B0.cell 1 _ rfl
  have f1:=B0.frozen 1
  have q1:=Bt.cell 1 _ rfl
  have p2:=B0.cell 2 _ rfl
  have f2:=B0.frozen 2
  have q2:=Bt.cell 2 _ rfl
  have p3:=B0.cell 3 _ rfl
  have f3:=B0.frozen 3
  have q3:=Bt.cell 3 _ rfl
  have g0:=Bt.frozen 0
  clear B0 Bt
  go_wp2
  refine bodyPost_ret (v:=.agg #[.int .i64 v,.int .i64 s,.int .i64 q,.slice a xs.length c]) (by simp [results,Tryz.results24,go_sem,p0,p1,p2,p3,htb,hbt]) rfl ?_
  have hbE:Below w.heap.size w5 (((((w5.setCell ⟨w2.heap.size,0,none⟩ (.int .i64 v)).setCell ⟨w.heap.size,0,none⟩ (.int .i64 v)).setCell ⟨w.heap.size,1,none⟩ (.int .i64 s)).setCell ⟨w.heap.size,2,none⟩ (.int .i64 q)).setCell ⟨w.heap.size,3,none⟩ (.slice a xs.length c)):=((((((Below.refl _ _).setCell (p:=⟨w2.heap.size,0,none⟩) (show w.heap.size≤w2.heap.size by omega) _).setCell (p:=⟨w.heap.size,0,none⟩) (Nat.le_refl _) _).setCell (p:=⟨w.heap.size,1,none⟩) (Nat.le_refl _) _).setCell (p:=⟨w.heap.size,2,none⟩) (Nat.le_refl _) _).setCell (p:=⟨w.heap.size,3,none⟩) (Nat.le_refl _) _)
  refine ⟨ v, s, q,a,c,xs,rfl,by omega,?_,(hS.low hbE hlt.2).mono (by omega),grown_low hg hbE⟩
  refine own_base (base:=w.heap.size + 1) ?_ (by omega)
  repeat' (first | refine ownsRow_setCell_below ?_ (show _ < w.heap.size + 1 from Nat.lt_succ_self _) _ | refine own_set_other ?_ (by intro k hk;have:=hbk k hk;omega))
  exact ho
 have hr0' : (r == 0)=false:=by simpa using hr0
 by_cases hr1:r=1
 ·subst hr1
  have t3:w4.cell? ⟨w2.heap.size,3,none⟩=some (.slice a xs.length c):=Bt.cell 3 _ rfl
  generalize hP:(fun u:World=>u.cell? ⟨w2.heap.size,3,none⟩=some (.slice a xs.length c))=PP
  have hP0:PP w4:=by subst hP;exact t3
  have cc0:∀ u:KeepP PP,u.val.cell? ⟨w2.heap.size,3,none⟩=some (.slice a xs.length c):=fun u=>by have:=u.isP;subst hP;exact this
  have hnn:Nonempty (KeepP PP):=⟨⟨w4,hP0⟩⟩
  go_wp2_with fail
  refine beginX (S:=fun w' => ∃ u:KeepP PP,w' = u.val) (R:=fun _ _=>False) 9 (by kernel_rfl) (fun _ _ _ _ h=>h.elim) ?_
  have hPd:PP w4.drew:=by subst hP;exact hP0
  refine sgX [(0,3)] 7 (by kernel_rfl) ⟨⟨w4.drew,hPd⟩,rfl⟩ ?_
  simp only [pkE]
  repeat go_big_quiet_step (fail)
  refine wpQuiet_nil ?_
  clear cc0 hnn hP0 t3 hPd
  replace Bt:Blk w4.drew w2.heap.size 62 #[.int .i64 i,.int .i64 s,.int .i64 q,.slice a xs.length c]:=Bt
  replace B0:Blk w4.drew w.heap.size 62 #[.int .i64 0,.int .i64 0,.int .i64 0,.slice none 0 0]:=B0
  replace ho:=ho.drew
  have hdr:Below w4.heap.size w4 w4.drew:=(Below.refl _ _).drew
  replace hS:=hS.below hdr
  replace hg:=grown_low hg (hdr.mono hg.size)
  have keepP:∀ u:World,Blk u w2.heap.size 62 #[.int .i64 i,.int .i64 s,.int .i64 q,.slice a xs.length c]→PP u:=by
   intro u hu
   subst hP
   exact hu.cell 3 _ rfl
  clear hP hdr
  replace hs3:w2.heap.size + 1≤w4.drew.heap.size:=hs3
  generalize w4.drew=wd at Bt B0 ho hS hg hs3
  have hltp:=hS.lt
  have hbL:Below wd.heap.size wd (wd.alloc (.cells #[.int .i64 0,.int .i64 3,.int .i64 5] 2)):=by go_grown
  refine onX 3 6 rfl (by kernel_rfl) ?_
  go_wp2
  replace Bt:=Bt.below hbL
  replace B0:=B0.below hbL
  replace ho:=own_below ho hbL
  replace hg:=grown_low hg (hbL.mono hg.size)
  refine ThenX.to ⟨Or.inr ⟨⟨_,keepP _ Bt⟩,rfl⟩,?_⟩
  refine clX 4 (some 20) 23 #[.pointer (some ⟨b,0,none⟩),.slice (some ⟨wd.heap.size,0,none⟩) 3 3] 5 (by kernel_rfl) rfl ?_
  refine (pick_any B b (T + 13 + 1) wd.heap.size _ [0,3,5] _ (hS.below hbL) (by omega) (World.ownsRow_lit wd _ 3 (Nat.le_refl _) (by decide) rfl) (by simp) (by simp) (by simp [Value.ownBlock];omega)).mono ?_
  rintro e w5 ⟨k,rfl,hmem,hSn,hgn⟩
  refine Or.inl ⟨_,rfl,?_⟩
  replace Bt:=Bt.grown hgn (by simp;omega)
  replace B0:=B0.grown hgn (by simp;omega)
  replace ho:=ho.kept hgn (Or.inr (fun e=>hnb e.symm))
  replace hg:=hg.trans hgn
  replace hS:=hSn
  have hs5:w2.heap.size + 1≤w5.heap.size:=by have:=hgn.size;have:=hbL.size;omega
  clear hgn hSn hmem hs3 hbL
  refine ⟨⟨⟨w5,keepP _ Bt⟩,rfl⟩,?_⟩
  simp only [Act.put,pgE,pjE]
  refine onX 5 4 rfl (by kernel_rfl) ?_
  go_wp2
  refine ThenX.to ⟨Or.inr ⟨⟨_,keepP _ Bt⟩,rfl⟩,?_⟩
  have hbA:Below w5.heap.size w5 (w5.alloc (.cells #[.int .i64 k,.int .i64 1,.int .i64 1] 76)):=by go_grown
  refine onX 6 3 rfl (by kernel_rfl) ?_
  go_wp2
  replace Bt:=Bt.below hbA
  replace B0:=B0.below hbA
  replace hS:=hS.below hbA
  replace hg:=grown_low hg (hbA.mono hg.size)
  refine ThenX.to ⟨Or.inr ⟨⟨_,keepP _ Bt⟩,rfl⟩,?_⟩
  have hsA:w5.heap.size + 1≤(w5.alloc (.cells #[.int .i64 k,.int .i64 1,.int .i64 1] 76)).heap.size:=by simp
  have hsrc:∀ j u,[Value.int .i64 k,.int .i64 1,.int .i64 1][j]? = some u→(w5.alloc (.cells #[.int .i64 k,.int .i64 1,.int .i64 1] 76)).cell? ((⟨w5.heap.size,0,none⟩:Addr).add j)=some u:=by
   intro j u hj;match j,hj with | 0,hj=>simp at hj;subst hj;simp [Addr.add] | 1,hj=>simp at hj;subst hj;simp [Addr.add] | 2,hj=>simp at hj;subst hj;simp [Addr.add]
  replace ho:=own_below ho hbA
  generalize w5.alloc (.cells #[.int .i64 k,.int .i64 1,.int .i64 1] 76)=wb at hbA Bt B0 hS hg hsA hsrc ho
  obtain ⟨i0,hi,hz0,hz1,hz2⟩:=info_parts infoAct
  refine onX 7 2 rfl (by kernel_rfl) ?_
  refine wpList_append_own_at _ rfl _ _ 60 rfl (w.heap.size + 1) 76 i0 (.agg #[.int .i64 0,.int .i64 0,.int .i64 0]) 3 24 Tryz.underlying60 hi hz0 hz1 hz2 rfl (by decide) _ xs.length (actCells xs) rfl ho ⟨w5.heap.size,0,none⟩ 1 1 [.int .i64 k,.int .i64 1,.int .i64 1] rfl rfl hsrc ?c2 ?c3 ?c4 ?c5 ?_
  case c2=>intro u hu;simp at hu;rcases hu with rfl | rfl | rfl <;> rfl
  case c3=>unfold maxLen;omega
  case c4=>omega
  case c5=>omega
  intro v' wc hown hgrow _ hat
  obtain ⟨a2,c2,rfl⟩:=own_shape hown
  have hgo:∀ j,(Value.slice a xs.length c).ownBlock=some j→w.heap.size + 1≤j:=fun j hj=>(ho.lt j hj).1
  have hBc:Below (w.heap.size + 1) wb wc:=(Below.refl _ _).grown hgrow (by omega) hgo
  replace Bt:Blk wc w2.heap.size 62 #[.int .i64 i,.int .i64 s,.int .i64 q,.slice a xs.length c]:=Bt.grown hgrow (fun e=>by have:=hbk _ e.symm;omega)
  replace B0:Blk wc w.heap.size 62 #[.int .i64 0,.int .i64 0,.int .i64 0,.slice none 0 0]:=(hBc.block _ (by omega)).trans B0
  replace hS:=hS.low hBc (by omega)
  replace hg:=grown_low hg (hBc.mono (by omega))
  have hbk2:∀ j,(Value.slice a2 (xs.length + 1) c2).ownBlock=some j→j≠w2.heap.size:=by
   intro j hj
   rcases hat with e | e
   ·rw [e] at hj;have:=hbk j hj;omega
   ·rw [e] at hj;simp at hj;omega
  clear hgrow hgo hBc ho hbA hsrc hat hbk hnb
  go_wp2
  refine ThenX.to ⟨Or.inr ⟨⟨_,keepP _ Bt⟩,rfl⟩,?_⟩
  simp only [Act.put,pgE,pjE]
  refine onX 8 1 rfl (by kernel_rfl) ?_
  go_wp2
  refine ThenX.to ⟨Or.inr ⟨⟨_,keepP _ Bt⟩,rfl⟩,?_⟩
  refine onX 9 0 rfl (by kernel_rfl) ?_
  have t3:=Bt.cell 3 _ rfl
  have t4:=Bt.frozen 3
  go_wp2
  clear t3 t4 keepP
  refine ThenX.to ⟨Or.inl (by kernel_rfl),?_⟩
  refine endX (by kernel_rfl) ?_
  have hbS:Below w2.heap.size wc (wc.setCell ⟨w2.heap.size,3,none⟩ (.slice a2 (xs.length + 1) c2)):=(Below.refl _ _).setCell (p:=⟨w2.heap.size,3,none⟩) (Nat.le_refl _) _
  replace Bt:Blk (wc.setCell ⟨w2.heap.size,3,none⟩ (.slice a2 (xs.length + 1) c2)) w2.heap.size 62 #[.int .i64 i,.int .i64 s,.int .i64 q,.slice a2 (xs.length + 1) c2]:=by
   have:=Go.Joins.block_setCell (i:=3) (v:=.slice a2 (xs.length + 1) c2) Bt
   unfold Blk
   simpa using this
  replace B0:=(hbS.block _ (by omega)).trans B0
  replace B0:Blk (wc.setCell ⟨w2.heap.size,3,none⟩ (.slice a2 (xs.length + 1) c2)) w.heap.size 62 #[.int .i64 0,.int .i64 0,.int .i64 0,.slice none 0 0]:=B0
  have ho:=own_set_other (g:=w2.heap.size) (j:=3) (u:=.slice a2 (xs.length + 1) c2) hown hbk2
  replace hS:=hS.low hbS (by omega)
  replace hg:=grown_low hg (hbS.mono (by omega))
  clear hown hi hz0 hz1 hz2 hbS
  generalize wc.setCell ⟨w2.heap.size,3,none⟩ (.slice a2 (xs.length + 1) c2)=w9 at Bt B0 ho hS hg
  replace ho:w9.ownsRow (w.heap.size + 1) 76 3 (.slice a2 (xs.length + 1) c2) (xs.length + 1) (actCells (xs ++ [⟨k,1,1⟩])):=by rw [actCells_snoc'];exact ho
  have p0:=B0.cell 0 _ rfl
  have f0:=B0.frozen 0
  have q0:=Bt.cell 0 _ rfl
  have p1:=B0.cell 1 _ rfl
  have f1:=B0.frozen 1
  have q1:=Bt.cell 1 _ rfl
  have p2:=B0.cell 2 _ rfl
  have f2:=B0.frozen 2
  have q2:=Bt.cell 2 _ rfl
  have p3:=B0.cell 3 _ rfl
  have f3:=B0.frozen 3
  have q3:=Bt.cell 3 _ rfl
  clear B0 Bt
  go_wp2
  refine bodyPost_ret (v:=.agg #[.int .i64 i,.int .i64 s,.int .i64 q,.slice a2 (xs.length + 1) c2]) (by simp [results,Tryz.results24,go_sem,p0,p1,p2,p3,htb,hbt]) rfl ?_
  have hbE:Below w.heap.size w9 ((((w9.setCell ⟨w.heap.size,0,none⟩ (.int .i64 i)).setCell ⟨w.heap.size,1,none⟩ (.int .i64 s)).setCell ⟨w.heap.size,2,none⟩ (.int .i64 q)).setCell ⟨w.heap.size,3,none⟩ (.slice a2 (xs.length + 1) c2)):=(((((Below.refl _ _).setCell (p:=⟨w.heap.size,0,none⟩) (Nat.le_refl _) _).setCell (p:=⟨w.heap.size,1,none⟩) (Nat.le_refl _) _).setCell (p:=⟨w.heap.size,2,none⟩) (Nat.le_refl _) _).setCell (p:=⟨w.heap.size,3,none⟩) (Nat.le_refl _) _)
  refine ⟨ i, s, q,a2,c2,xs ++ [⟨k,1,1⟩],by simp,by simp;omega,?_,(hS.low hbE hlt.2).mono (by omega),grown_low hg hbE⟩
  rw [List.length_append,List.length_singleton]
  refine own_base (base:=w.heap.size + 1) ?_ (by omega)
  repeat' (first | refine ownsRow_setCell_below ?_ (show _ < w.heap.size + 1 from Nat.lt_succ_self _) _ | refine own_set_other ?_ (by intro k hk;have:=hbk k hk;omega))
  exact ho
 have hr1' : (r == 1)=false:=by simpa using hr1
 by_cases hr2' : r=2
 ·subst hr2'
  obtain ⟨ga,rfl⟩:∃ ga,a=some ⟨ga,0,none⟩:=by
   rcases ho.2 with ⟨he,h0⟩ | ⟨g,cap,cur,he,_⟩
   ·omega
   ·simp only [Value.slice.injEq] at he
    exact ⟨g,he.1⟩
  have hga:=hbk ga rfl
  have hga2:w.heap.size + 1≤ga:=(ho.lt ga rfl).1
  have t3:w4.cell? ⟨w2.heap.size,3,none⟩=some (.slice (some ⟨ga,0,none⟩) xs.length c):=Bt.cell 3 _ rfl
  generalize hP:(fun u:World=>u.cell? ⟨w2.heap.size,3,none⟩=some (.slice (some ⟨ga,0,none⟩) xs.length c))=PP
  have hP0:PP w4:=by subst hP;exact t3
  have cc0:∀ u:KeepP PP,u.val.cell? ⟨w2.heap.size,3,none⟩=some (.slice (some ⟨ga,0,none⟩) xs.length c):=fun u=>by have:=u.isP;subst hP;exact this
  have hnn:Nonempty (KeepP PP):=⟨⟨w4,hP0⟩⟩
  go_wp2_with fail
  refine beginX (S:=fun w' => ∃ u:KeepP PP,w' = u.val) (R:=fun _ _=>False) 7 (by kernel_rfl) (fun _ _ _ _ h=>h.elim) ?_
  have hPd:PP w4.drew:=by subst hP;exact hP0
  refine sgX [(0,3)] 5 (by kernel_rfl) ⟨⟨w4.drew,hPd⟩,rfl⟩ ?_
  simp only [pkE]
  repeat go_big_quiet_step (fail)
  refine wpQuiet_nil ?_
  clear cc0 hnn hP0 t3 hPd
  replace Bt:Blk w4.drew w2.heap.size 62 #[.int .i64 i,.int .i64 s,.int .i64 q,.slice (some ⟨ga,0,none⟩) xs.length c]:=Bt
  replace B0:Blk w4.drew w.heap.size 62 #[.int .i64 0,.int .i64 0,.int .i64 0,.slice none 0 0]:=B0
  replace ho:=ho.drew
  have hdr:Below w4.heap.size w4 w4.drew:=(Below.refl _ _).drew
  replace hS:=hS.below hdr
  replace hg:=grown_low hg (hdr.mono hg.size)
  have keepP:∀ u:World,Blk u w2.heap.size 62 #[.int .i64 i,.int .i64 s,.int .i64 q,.slice (some ⟨ga,0,none⟩) xs.length c]→PP u:=by
   intro u hu
   subst hP
   exact hu.cell 3 _ rfl
  clear hP hdr
  replace hs3:w2.heap.size + 1≤w4.drew.heap.size:=hs3
  generalize w4.drew=wd at Bt B0 ho hS hg hs3
  have hltp:=hS.lt
  have hbL:Below wd.heap.size wd (wd.alloc (.cells #[.int .i64 0,.int .i64 20,.int .i64 21] 2)):=by go_grown
  refine onX 3 4 rfl (by kernel_rfl) ?_
  go_wp2
  replace Bt:=Bt.below hbL
  replace B0:=B0.below hbL
  replace ho:=own_below ho hbL
  replace hg:=grown_low hg (hbL.mono hg.size)
  refine ThenX.to ⟨Or.inr ⟨⟨_,keepP _ Bt⟩,rfl⟩,?_⟩
  refine clX 4 (some 31) 23 #[.pointer (some ⟨b,0,none⟩),.slice (some ⟨wd.heap.size,0,none⟩) 3 3] 3 (by kernel_rfl) rfl ?_
  refine (pick_any B b (T + 13 + 1) wd.heap.size _ [0,20,21] _ (hS.below hbL) (by omega) (World.ownsRow_lit wd _ 3 (Nat.le_refl _) (by decide) rfl) (by simp) (by simp) (by simp [Value.ownBlock];omega)).mono ?_
  rintro e w5 ⟨k,rfl,hmem,hSn,hgn⟩
  refine Or.inl ⟨_,rfl,?_⟩
  replace Bt:=Bt.grown hgn (by simp;omega)
  replace B0:=B0.grown hgn (by simp;omega)
  replace ho:=ho.kept hgn (Or.inr (fun e=>hnb e.symm))
  replace hg:=hg.trans hgn
  replace hS:=hSn
  have hs5:w2.heap.size + 1≤w5.heap.size:=by have:=hgn.size;have:=hbL.size;omega
  clear hgn hSn hmem hs3 hbL
  refine ⟨⟨⟨w5,keepP _ Bt⟩,rfl⟩,?_⟩
  simp only [Act.put,pgE,pjE]
  have hx1i:(0:Int) < (xs.length:Int):=by omega
  refine onX 5 2 rfl (by kernel_rfl) ?_
  go_wp2
  refine ThenX.to ⟨Or.inr ⟨⟨_,keepP _ Bt⟩,rfl⟩,?_⟩
  refine onX 6 1 rfl (by kernel_rfl) ?_
  go_wp2
  refine ThenX.to ⟨Or.inr ⟨⟨_,keepP _ Bt⟩,rfl⟩,?_⟩
  refine onX 7 0 rfl (by kernel_rfl) ?_
  have t4:w5.frozen? ⟨ga,1,none⟩=false:=ho.frozenAt 1
  obtain ⟨u1,t3⟩:∃ u,w5.cell? ⟨ga,1,none⟩=some u:=by
   rw [ho.cellAt 1 (by omega)]
   exact ⟨_,List.getElem?_eq_getElem (by rw [actCells_length];omega)⟩
  go_wp2
  clear t3 t4 keepP
  refine ThenX.to ⟨Or.inl (by kernel_rfl),?_⟩
  refine endX (by kernel_rfl) ?_
  have hst:=(ho.stored 1 (.int .i64 k)).1
  obtain ⟨ys,hyl,hys⟩:=act_set1 xs hx1 k
  rw [hys] at hst
  have hbS:Below (w.heap.size + 1) w5 (w5.setCell ⟨ga,1,none⟩ (.int .i64 k)):=(Below.refl _ _).setCell (p:=⟨ga,1,none⟩) hga2 _
  replace Bt:Blk (w5.setCell ⟨ga,1,none⟩ (.int .i64 k)) w2.heap.size 62 #[.int .i64 i,.int .i64 s,.int .i64 q,.slice (some ⟨ga,0,none⟩) xs.length c]:=by
   have:=Below.heap_setCell w5 ⟨ga,1,none⟩ (.int .i64 k) w2.heap.size (by show w2.heap.size≠ga;omega)
   exact this.trans Bt
  replace B0:Blk (w5.setCell ⟨ga,1,none⟩ (.int .i64 k)) w.heap.size 62 #[.int .i64 0,.int .i64 0,.int .i64 0,.slice none 0 0]:=(hbS.block _ (by omega)).trans B0
  replace hS:=hS.low hbS (by omega)
  replace hg:=grown_low hg (hbS.mono (by omega))
  clear hbS ho hys
  generalize w5.setCell ⟨ga,1,none⟩ (.int .i64 k)=w9 at Bt B0 hst hS hg
  rw [← hyl] at hst Bt hbk hx3
  have ho:=hst
  clear hst hyl hx1 hx1i hnb
  have p0:=B0.cell 0 _ rfl
  have f0:=B0.frozen 0
  have q0:=Bt.cell 0 _ rfl
  have p1:=B0.cell 1 _ rfl
  have f1:=B0.frozen 1
  have q1:=Bt.cell 1 _ rfl
  have p2:=B0.cell 2 _ rfl
  have f2:=B0.frozen 2
  have q2:=Bt.cell 2 _ rfl
  have p3:=B0.cell 3 _ rfl
  have f3:=B0.frozen 3
  have q3:=Bt.cell 3 _ rfl
  clear B0 Bt
  go_wp2
  refine bodyPost_ret (v:=.agg #[.int .i64 i,.int .i64 s,.int .i64 q,.slice (some ⟨ga,0,none⟩) ys.length c]) (by simp [results,Tryz.results24,go_sem,p0,p1,p2,p3,htb,hbt]) rfl ?_
  have hbE:Below w.heap.size w9 ((((w9.setCell ⟨w.heap.size,0,none⟩ (.int .i64 i)).setCell ⟨w.heap.size,1,none⟩ (.int .i64 s)).setCell ⟨w.heap.size,2,none⟩ (.int .i64 q)).setCell ⟨w.heap.size,3,none⟩ (.slice (some ⟨ga,0,none⟩) ys.length c)):=(((((Below.refl _ _).setCell (p:=⟨w.heap.size,0,none⟩) (Nat.le_refl _) _).setCell (p:=⟨w.heap.size,1,none⟩) (Nat.le_refl _) _).setCell (p:=⟨w.heap.size,2,none⟩) (Nat.le_refl _) _).setCell (p:=⟨w.heap.size,3,none⟩) (Nat.le_refl _) _)
  refine ⟨ i, s, q,(some ⟨ga,0,none⟩),c,ys,rfl,by omega,?_,(hS.low hbE hlt.2).mono (by omega),grown_low hg hbE⟩
  refine own_base (base:=w.heap.size + 1) ?_ (by omega)
  repeat' (first | refine ownsRow_setCell_below ?_ (show _ < w.heap.size + 1 from Nat.lt_succ_self _) _ | refine own_set_other ?_ (by intro k hk;have:=hbk k hk;omega))
  exact ho
 have hr2'' : (r == 2)=false:=by simpa using hr2'
 by_cases hr3:r=3
 ·subst hr3
  clear hnb hbk
  go_wp2_with fail
  have hltp:=hS.lt
  have hbA:Below w4.heap.size w4 (w4.alloc (.cells #[.int .i64 0,.int .i64 5] 2)):=by go_grown
  replace B0:=B0.below hbA
  replace Bt:=Bt.below hbA
  replace hg:=hg.trans (World.grownBy_alloc w4 (.cells #[.int .i64 0,.int .i64 5] 2) (some b))
  refine (pick_any B b (T + 13 + 1) w4.heap.size _ [0,5] _ (hS.below (by go_grown)) (by omega) (World.ownsRow_lit w4 _ 2 (Nat.le_refl _) (by decide) rfl) (by simp) (by simp) (by simp [Value.ownBlock];omega)).mono ?_
  rintro e w5 ⟨v,rfl,hmem,hSn,hgn⟩
  replace B0:=B0.grown hgn (by simp;omega)
  replace Bt:=Bt.grown hgn (by simp;omega)
  replace hg:=hg.trans hgn
  replace hS:=hSn
  have hsz_w5:=hgn.size
  clear hgn hSn
  replace hs3:w2.heap.size + 1≤w5.heap.size:=by simp at hsz_w5;omega
  clear hsz_w5 hbA
  obtain ⟨i0,hi,hz0,hz1,hz2⟩:=info_parts infoAct
  obtain ⟨m,rfl,hm5,hmade⟩:∃ m:Nat,v=m∧m≤5∧(madeCells #[Value.int .i64 0,.int .i64 0,.int .i64 0] (m * 3)).toList=actCells (List.replicate m actNo):=by
   simp at hmem
   rcases hmem with rfl | rfl
   ·exact ⟨0,rfl,by omega,made0⟩
   ·exact ⟨5,rfl,by omega,made5⟩
  have hby:i0.bytes * m≤281474976710656:=by rw [hz2];omega
  have hmx:m≤maxLen:=by unfold maxLen;omega
  clear hmem ho
  have q3' := Bt.cell 3 _ rfl
  go_wp2_with (at_make;refine wpList_make_full _ rfl _ _ 60 rfl w5.heap.size 76 i0 (.agg #[.int .i64 0,.int .i64 0,.int .i64 0]) 3 Tryz.underlying60 hi hz0 hz1 _ _ _ _ m rfl rfl rfl rfl hby hmx (Nat.le_refl _) ?_)
  intro w6 ho hgrow
  have hb6:Below w5.heap.size w5 w6:=(Below.refl _ _).grown hgrow (Nat.le_refl _) (by simp)
  clear q3' hmade
  replace B0:=B0.below hb6
  replace Bt:=Bt.below hb6
  replace hS:=hS.below hb6
  replace hg:=grown_low hg (hb6.mono hg.size)
  replace ho:=own_base ho (show w.heap.size + 1≤w5.heap.size by omega)
  have hbk:∀ j,(Value.slice (some ⟨w5.heap.size,0,none⟩) m m).ownBlock=some j→w2.heap.size < j:=by
   intro j hj
   simp [Value.ownBlock] at hj
   omega
  clear hgrow hb6
  have p0:=B0.cell 0 _ rfl
  have f0:=B0.frozen 0
  have q0:=Bt.cell 0 _ rfl
  have p1:=B0.cell 1 _ rfl
  have f1:=B0.frozen 1
  have q1:=Bt.cell 1 _ rfl
  have p2:=B0.cell 2 _ rfl
  have f2:=B0.frozen 2
  have q2:=Bt.cell 2 _ rfl
  have p3:=B0.cell 3 _ rfl
  have f3:=B0.frozen 3
  have q3:=Bt.cell 3 _ rfl
  have g3:=Bt.frozen 3
  clear B0 Bt
  go_wp2
  refine bodyPost_ret (v:=.agg #[.int .i64 i,.int .i64 s,.int .i64 q,.slice (some ⟨w5.heap.size,0,none⟩) m m]) (by simp [results,Tryz.results24,go_sem,p0,p1,p2,p3,htb,hbt]) rfl ?_
  have hbE:Below w.heap.size w6 (((((w6.setCell ⟨w2.heap.size,3,none⟩ (.slice (some ⟨w5.heap.size,0,none⟩) m m)).setCell ⟨w.heap.size,0,none⟩ (.int .i64 i)).setCell ⟨w.heap.size,1,none⟩ (.int .i64 s)).setCell ⟨w.heap.size,2,none⟩ (.int .i64 q)).setCell ⟨w.heap.size,3,none⟩ (.slice (some ⟨w5.heap.size,0,none⟩) m m)):=((((((Below.refl _ _).setCell (p:=⟨w2.heap.size,3,none⟩) (show w.heap.size≤w2.heap.size by omega) _).setCell (p:=⟨w.heap.size,0,none⟩) (Nat.le_refl _) _).setCell (p:=⟨w.heap.size,1,none⟩) (Nat.le_refl _) _).setCell (p:=⟨w.heap.size,2,none⟩) (Nat.le_refl _) _).setCell (p:=⟨w.heap.size,3,none⟩) (Nat.le_refl _) _)
  refine ⟨ i, s, q,(some ⟨w5.heap.size,0,none⟩),m,List.replicate m actNo,by simp,by simp;omega,?_,(hS.low hbE hlt.2).mono (by omega),grown_low hg hbE⟩
  rw [List.length_replicate]
  refine own_base (base:=w.heap.size + 1) ?_ (by omega)
  repeat' (first | refine ownsRow_setCell_below ?_ (show _ < w.heap.size + 1 from Nat.lt_succ_self _) _ | refine own_set_other ?_ (by intro k hk;have:=hbk k hk;omega))
  exact ho
 have hr3' : (r == 3)=false:=by simpa using hr3
 clear hr0 hr1 hr2' hr3
 have p0:=B0.cell 0 _ rfl
 have f0:=B0.frozen 0
 have q0:=Bt.cell 0 _ rfl
 have p1:=B0.cell 1 _ rfl
 have f1:=B0.frozen 1
 have q1:=Bt.cell 1 _ rfl
 have p2:=B0.cell 2 _ rfl
 have f2:=B0.frozen 2
 have q2:=Bt.cell 2 _ rfl
 have p3:=B0.cell 3 _ rfl
 have f3:=B0.frozen 3
 have q3:=Bt.cell 3 _ rfl
 clear B0 Bt
 go_wp2
 refine bodyPost_ret (v:=.agg #[.int .i64 i,.int .i64 s,.int .i64 q,.slice a xs.length c]) (by simp [results,Tryz.results24,go_sem,p0,p1,p2,p3,htb,hbt]) rfl ?_
 have hbE:Below w.heap.size w4 ((((w4.setCell ⟨w.heap.size,0,none⟩ (.int .i64 i)).setCell ⟨w.heap.size,1,none⟩ (.int .i64 s)).setCell ⟨w.heap.size,2,none⟩ (.int .i64 q)).setCell ⟨w.heap.size,3,none⟩ (.slice a xs.length c)):=(((((Below.refl _ _).setCell (p:=⟨w.heap.size,0,none⟩) (Nat.le_refl _) _).setCell (p:=⟨w.heap.size,1,none⟩) (Nat.le_refl _) _).setCell (p:=⟨w.heap.size,2,none⟩) (Nat.le_refl _) _).setCell (p:=⟨w.heap.size,3,none⟩) (Nat.le_refl _) _)
 refine ⟨ i, s, q,a,c,xs,rfl,by omega,?_,(hS.low hbE hlt.2).mono (by omega),grown_low hg hbE⟩
 refine own_base (base:=w.heap.size + 1) ?_ (by omega)
 repeat' (first | refine ownsRow_setCell_below ?_ (show _ < w.heap.size + 1 from Nat.lt_succ_self _) _ | refine own_set_other ?_ (by intro k hk;have:=hbk k hk;omega))
 exact ho

end Go.Proofs.YtnnenkoeklabpaaGreatDoor
namespace Go.Proofs.YtnnenkoeklabpaaGreatDoor
open Go.RowKit Go.Maps
set_option maxRecDepth 100000
/-- A list of transactions that is owned whole, its acts elsewhere than the list. -/
def TxnRow (base:Nat) (w:World) (v:Value) (ps:List TxnP):Prop:=
 w.ownsRow base 62 4 v ps.length (txnCells ps)∧(∀ p∈ps,w.ownsRow base 76 3 p.sl p.d.acts.length (actCells p.d.acts)∧(p.sl.ownBlock=none∨p.sl.ownBlock≠v.ownBlock))∧v≠.slice none 0 0

theorem TxnRow.at {base:Nat} {w:World} {v:Value} {ps:List TxnP} (h:TxnRow base w v ps):TxnsAt w v (ps.map TxnP.d):=by
 obtain ⟨a,c,rfl⟩:=own_shape h.1
 refine ⟨a,c,ps,by simp,rfl,Lies.own h.1,fun p hp=>?_⟩
 exact Lies.own (h.2.1 p hp).1

theorem TxnRow.src {base b:Nat} {w w' : World} {v:Value} {ps:List TxnP} (h:TxnRow base w v ps) (hb:b < base) (hg:w.grownBy w' (some b)):TxnRow base w' v ps:=
 ⟨h.1.kept hg (Or.inr (fun e=>own_not3 h.1 (Or.inl hb) e.symm)),fun p hp=>⟨(h.2.1 p hp).1.kept hg (Or.inr (fun e=>own_not3 (h.2.1 p hp).1 (Or.inl hb) e.symm)),(h.2.1 p hp).2⟩,h.2.2⟩

theorem TxnRow.below {base:Nat} {w w' : World} {v:Value} {ps:List TxnP} (h:TxnRow base w v ps) (hb:Below w.heap.size w w'):TxnRow base w' v ps:=
 ⟨own_below h.1 hb,fun p hp=>⟨own_below (h.2.1 p hp).1 hb,(h.2.1 p hp).2⟩,h.2.2⟩

end Go.Proofs.YtnnenkoeklabpaaGreatDoor
