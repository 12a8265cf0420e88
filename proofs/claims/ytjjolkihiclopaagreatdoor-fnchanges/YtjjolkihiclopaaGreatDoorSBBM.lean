/- Texts joined, with what the law reaches alone. -/
import Derived.Test.YtjjolkihiclopaaGreatDoorSBBF
import Derived.Test.YtjjolkihiclopaaGreatDoorSBAP
import Derived.Test.YtjjolkihiclopaaGreatDoorSBBG
import Derived.Test.YtjjolkihiclopaaGreatDoorSBAU
import Derived.Test.YtjjolkihiclopaaGreatDoorSBBH
import Derived.Test.YtjjolkihiclopaaGreatDoorSBAV
import Derived.Test.YtjjolkihiclopaaGreatDoorSBBL
set_option linter.unusedVariables false
set_option linter.unusedSimpArgs false
namespace Go.Proofs.YtjjolkihiclopaaGreatDoor
open Go.RowKit
open Go.BigFrame
set_option maxRecDepth 100000
theorem takF_succ (ds:List InstE) (k:Nat) (hk:k < ds.length):takF (ds.take (k + 1))=takF (ds.take k) ++ (if outV (ds.getD k instNo).dec=1 then (ds.getD k instNo).batch else []):=by
 rw [List.take_succ_eq_append_getElem hk]
 unfold takF
 rw [List.flatMap_append]
 have e:ds.getD k instNo=ds[k]:=by simp [List.getD,hk]
 simp only [List.flatMap_cons,List.flatMap_nil,List.append_nil,e]

end Go.Proofs.YtjjolkihiclopaaGreatDoor
namespace Go.Proofs.YtjjolkihiclopaaGreatDoor
open Go.RowKit
open Go.BigFrame
set_option maxRecDepth 100000
def dfC (ds:List InstE) (n:Int):Int:=if ordF ds=0 then (if 0≤n∧n≤(decN ds:Int) then 0 else 3) else ordF ds

def dfT (ds:List InstE) (n:Int):List TxnD:=if dfC ds n=0 then defL ds n.toNat else []

theorem df_ways (ds:List InstE) (n:Int):(ordF ds≠0∧dfC ds n=ordF ds∧dfT ds n=[])∨(ordF ds=0∧¬ (0≤n∧n≤(decN ds:Int))∧dfC ds n=3∧dfT ds n=[])∨(ordF ds=0∧(0≤n∧n≤(decN ds:Int))∧dfC ds n=0∧dfT ds n=defL ds n.toNat):=by
 unfold dfT dfC
 by_cases h0:ordF ds=0
 ·by_cases h1:0≤n∧n≤(decN ds:Int)
  ·right;right
   refine ⟨h0,h1,?_,?_⟩
   ·rw [if_pos h0,if_pos h1]
   ·rw [if_pos h0,if_pos h1,if_pos rfl]
  ·right;left
   refine ⟨h0,h1,?_,?_⟩
   ·rw [if_pos h0,if_neg h1]
   ·rw [if_pos h0,if_neg h1,if_neg (by decide)]
 ·left
  simp [h0]

theorem bat4 {p:InstQ} (h:insF (InstQ.e p)=0):p.batch.length≤4:=by
 obtain ⟨h0,_⟩:=ins_zero h
 obtain ⟨_,_,_,hb0,hb1⟩:=shp_zero h0
 cases hh:(InstQ.e p).has with
 | false=>
  have:=hb0 hh
  have h2:p.batch.map TxnQ.e=[]:=this
  have:p.batch=[]:=by simpa using h2
  rw [this];simp
 | true=>
  have:=hb1 hh
  unfold batF at this
  by_cases hl:(InstQ.e p).batch.length < 1∨4 < (InstQ.e p).batch.length
  ·rw [if_pos hl] at this
   exact absurd this (by decide)
  ·have h2:(InstQ.e p).batch.length=p.batch.length:=by show (p.batch.map TxnQ.e).length=_;simp
   omega

end Go.Proofs.YtjjolkihiclopaaGreatDoor
namespace Go.Proofs.YtjjolkihiclopaaGreatDoor
open Go.RowKit
open Go.BigFrame
set_option maxRecDepth 100000
theorem same_refl7 {α:Type} {f:α→α→Bool} {g:List α→List α→Bool} (h0:g [] []=true) (h1:∀ x r y s,g (x :: r) (y :: s)=(f x y && g r s)) (hf:∀ x,f x x=true):∀ xs,g xs xs=true
 | []=>h0
 | x :: r=>by rw [h1,hf,same_refl7 h0 h1 hf r];rfl

theorem sameAs_refl7 (xs:List ActD):sameAs xs xs=true:=same_refl7 (f:=sameA) rfl (fun _ _ _ _=>rfl) (fun x=>by simp [sameA]) xs

theorem sameTs_refl7 (xs:List TxnD):sameTs xs xs=true:=same_refl7 (f:=sameT) rfl (fun _ _ _ _=>rfl) (fun x=>by simp [sameT,sameAs_refl7]) xs

theorem sameZs_refl7 (xs:List Int):sameZs xs xs=true:=same_refl7 (f:=sameZ) rfl (fun _ _ _ _=>rfl) (fun x=>by simp [sameZ]) xs

theorem sameRs_refl7 (xs:List RoundE):sameRs xs xs=true:=same_refl7 (f:=sameR) rfl (fun _ _ _ _=>rfl) (fun x=>by simp [sameR,sameZs_refl7]) xs

theorem sameIs_refl7 (xs:List InstE):sameIs xs xs=true:=same_refl7 (f:=sameI) rfl (fun _ _ _ _=>rfl) (fun x=>by simp [sameI,sameTs_refl7,sameRs_refl7,sameZs_refl7]) xs

theorem same_eq7 {α:Type} {f:α→α→Bool} {g:List α→List α→Bool} (h1:∀ x r y s,g (x :: r) (y :: s)=(f x y && g r s)) (h2:∀ x r,g (x :: r) []=false) (h3:∀ y s,g [] (y :: s)=false) (hf:∀ x y,f x y=true→x=y):∀ xs ys,g xs ys=true→xs=ys
 | [],[],_=>rfl
 | [],y :: s,h=>by rw [h3] at h;exact absurd h (by decide)
 | x :: r,[],h=>by rw [h2] at h;exact absurd h (by decide)
 | x :: r,y :: s,h=>by
  rw [h1,Bool.and_eq_true] at h
  rw [hf x y h.1,same_eq7 h1 h2 h3 hf r s h.2]

theorem sameAs_eq7 (xs ys:List ActD) (h:sameAs xs ys=true):xs=ys:=same_eq7 (f:=sameA) (g:=sameAs) (fun _ _ _ _=>rfl) (fun _ _=>rfl) (fun _ _=>rfl) (fun x y h=>by
 obtain ⟨x1,x2,x3⟩:=x
 obtain ⟨y1,y2,y3⟩:=y
 simp only [sameA,Bool.and_eq_true,beq_iff_eq] at h
 obtain ⟨rfl,rfl,rfl⟩:=h
 rfl) xs ys h

theorem sameTs_eq7 (xs ys:List TxnD) (h:sameTs xs ys=true):xs=ys:=same_eq7 (f:=sameT) (g:=sameTs) (fun _ _ _ _=>rfl) (fun _ _=>rfl) (fun _ _=>rfl) (fun x y h=>by
 obtain ⟨x1,x2,x3,x4⟩:=x
 obtain ⟨y1,y2,y3,y4⟩:=y
 simp only [sameT,Bool.and_eq_true,beq_iff_eq] at h
 obtain ⟨⟨⟨rfl,rfl⟩,rfl⟩,h4⟩:=h
 rw [sameAs_eq7 _ _ h4]) xs ys h

/-- What was decided is decided still. -/
theorem grw_out {x y:InstE} (hx:insF x=0) (hy:insF y=0) (hg:grw x y=true) (h:outV x.dec≠3):outV y.dec=outV x.dec:=by
 have Rx:=rgt_of hx
 have Ry:=rgt_of hy
 have hk:kps x.dec y.dec=true:=by
  unfold grw at hg
  rw [Bool.and_eq_true] at hg
  exact hg.2
 have hm:=outV_mem _ h
 obtain ⟨n,hn,e⟩:=mem_get (vf_len Rx.dec) hm
 have hz:y.dec.getD n 0=outV x.dec:=by
  unfold kps at hk
  rw [List.all_eq_true] at hk
  have h1:=hk n (List.mem_range.2 (by rw [vf_len Rx.dec];exact hn))
  rw [e] at h1
  rw [Bool.or_eq_true] at h1
  rcases h1 with h1 | h1
  ·exact absurd (by simpa using h1) h
  ·simpa using h1
 have hly:=vf_len Ry.dec
 have hmy:outV x.dec∈y.dec:=by
  rw [← hz]
  have:n < y.dec.length:=by omega
  simp only [List.getD,this,List.getElem?_eq_getElem,Option.getD_some]
  exact List.getElem_mem _
 obtain ⟨h01,hag⟩:=dec_agr Ry hmy h
 refine outV_all _ h _ (fun z hz=>?_) hmy
 rcases Decidable.em (z=3) with h3 | h3
 ·exact Or.inl h3
 ·obtain ⟨hz1,hz2⟩:=dec_agr Ry hz h3
  exact Or.inr (agree Ry hz1 h01 hz2 hag)

/-- What is decided to be taken has a batch. -/
theorem out_has {x:InstE} (hx:insF x=0) (h:outV x.dec=1):x.has=true:=by
 have Rx:=rgt_of hx
 have h3:outV x.dec≠3:=by rw [h];decide
 obtain ⟨_,hag⟩:=dec_agr Rx (outV_mem _ h3) h3
 rw [h] at hag
 obtain ⟨k,hk,hc⟩:=agr_iff.1 hag
 cases hh:x.has with
 | true=>rfl
 | false=>exact absurd (by omega) (no_batch Rx hh k hk)

theorem grw_tak {x y:InstE} (hx:insF x=0) (hy:insF y=0) (hg:grw x y=true) (h:outV x.dec≠3):(if outV x.dec=1 then x.batch else [])=(if outV y.dec=1 then y.batch else []):=by
 rw [grw_out hx hy hg h]
 by_cases h1:outV x.dec=1
 ·rw [if_pos h1,if_pos h1]
  have hh:=out_has hx h1
  unfold grw at hg
  simp only [Bool.and_eq_true,Bool.or_eq_true,hh] at hg
  have h5:=hg.1.1.1
  rcases h5 with h5 | h5
  ·exact absurd h5 (by simp)
  ·exact sameTs_eq7 _ _ h5.2
 ·rw [if_neg h1,if_neg h1]

theorem last_app (ds:List InstE) (x:InstE) (h:1≤ds.length):lastE (ds.take (ds.length - 1) ++ [x])=x:=by
 unfold lastE
 simp only [List.length_append,List.length_take,List.length_singleton]
 have:min (ds.length - 1) ds.length=ds.length - 1:=by omega
 rw [this]
 simp [List.getD,this]

theorem split_last (ds:List InstE) (h:1≤ds.length):ds=ds.take (ds.length - 1) ++ [lastE ds]:=by
 have hlt:ds.length - 1 < ds.length:=by omega
 have e:=(List.take_append_drop (ds.length - 1) ds).symm
 rw [List.drop_eq_getElem_cons hlt,List.drop_of_length_le (by omega)] at e
 have:lastE ds=ds[ds.length - 1]:=by simp [lastE,List.getD,hlt]
 rw [this]
 exact e

theorem cl_good {ds:List InstE} {x:InstE} (h:clC ds x=0):ordF ds=0∧insF x=0∧grw (lastE ds) x=true∧clO ds x=ds.take (ds.length - 1) ++ [x]:=by
 rcases cl_ways ds x with ⟨h0,e,_⟩ | ⟨_,h1,e,_⟩ | ⟨_,_,_,e,_⟩ | ⟨h0,h1,h2,_,e⟩
 ·exact absurd (e.symm.trans h) h0
 ·exact absurd (e.symm.trans h) h1
 ·rw [e] at h;exact absurd h (by decide)
 ·exact ⟨h0,h1,h2,e⟩

/-- The order of the change is right. -/
theorem cl_ord {ds:List InstE} {x:InstE} (h:clC ds x=0):ordF (clO ds x)=0:=by
 obtain ⟨h0,h1,h2,e⟩:=cl_good h
 obtain ⟨hl,ha⟩:=(ord_iff ds).1 h0
 rw [e,ord_iff]
 have hln:(ds.take (ds.length - 1) ++ [x]).length=ds.length:=by simp;omega
 rw [hln]
 refine ⟨hl,fun k hk=>?_⟩
 by_cases hk1:k < ds.length - 1
 ·have e2:(ds.take (ds.length - 1) ++ [x]).getD k instNo=ds.getD k instNo:=by
   simp only [List.getD]
   rw [List.getElem?_append_left (by simp;omega),List.getElem?_take_of_lt hk1]
  rw [e2]
  exact ha k hk
 ·have hk2:k=ds.length - 1:=by omega
  have e2:(ds.take (ds.length - 1) ++ [x]).getD k instNo=x:=by
   have:=last_app ds x hl.1
   unfold lastE at this
   rw [hln] at this
   rw [hk2]
   exact this
  rw [e2]
  exact ⟨h1,fun hk3=>by omega⟩

/-- No less is decided. -/
theorem cl_dec {ds:List InstE} {x:InstE} (h:clC ds x=0):decN ds≤decN (clO ds x):=by
 obtain ⟨h0,h1,h2,e⟩:=cl_good h
 obtain ⟨hl,ha⟩:=(ord_iff ds).1 h0
 have hln:(ds.take (ds.length - 1) ++ [x]).length=ds.length:=by simp;omega
 rw [e]
 unfold decN
 rw [last_app ds x hl.1,hln]
 by_cases h3:outV (lastE ds).dec=3
 ·rw [if_pos h3];split <;> omega
 ·have hli:insF (lastE ds)=0:=(ha (ds.length - 1) (by omega)).1
  rw [if_neg h3,grw_out hli h1 h2 h3,if_neg h3]
  exact Nat.le_refl _

/-- What was definite is definite still. -/
theorem cl_def {ds:List InstE} {x:InstE} (h:clC ds x=0):defL (clO ds x) (decN ds)=defL ds (decN ds):=by
 obtain ⟨h0,h1,h2,e⟩:=cl_good h
 obtain ⟨hl,ha⟩:=(ord_iff ds).1 h0
 have hli:insF (lastE ds)=0:=(ha (ds.length - 1) (by omega)).1
 have hln:(ds.take (ds.length - 1) ++ [x]).length=ds.length:=by simp;omega
 rw [e]
 unfold defL
 refine congrArg (onc []) ?_
 unfold decN
 by_cases h3:outV (lastE ds).dec=3
 ·rw [if_pos h3,List.take_append_of_le_length (by simp),List.take_take,Nat.min_self]
 ·rw [if_neg h3,List.take_of_length_le (by omega),List.take_of_length_le (Nat.le_refl _)]
  have e3:=split_last ds hl.1
  unfold takF
  conv=>rhs;rw [e3]
  rw [List.flatMap_append,List.flatMap_append]
  simp only [List.flatMap_cons,List.flatMap_nil,List.append_nil]
  rw [grw_tak hli h1 h2 h3]

theorem pre_app (xs zs:List TxnD):preT xs (xs ++ zs)=true:=by
 unfold preT
 rw [List.take_left']
 ·rw [sameTs_refl7];simp
 ·rfl

/-- All that the law asks. -/
theorem ch_all {ds:List InstE} {x:InstE} (h:clC ds x=0):ordF ds=0∧ordF (clO ds x)=0∧diV ds≤diV (clO ds x)∧preT (dfT ds (diV ds)) (dfT (clO ds x) (diV (clO ds x)))=true∧sameTs (dfT ds (diV ds)) (dfT (clO ds x) (diV ds))=true:=by
 have h0:=(cl_good h).1
 have h1:=cl_ord h
 have h2:=cl_dec h
 have d0:diV ds=(decN ds:Int):=by unfold diV;rw [if_pos h0]
 have d1:diV (clO ds x)=(decN (clO ds x):Int):=by unfold diV;rw [if_pos h1]
 have t0:dfT ds (decN ds:Int)=defL ds (decN ds):=by
  unfold dfT dfC;rw [if_pos h0,if_pos (by omega)];simp
 have t1:dfT (clO ds x) (decN ds:Int)=defL (clO ds x) (decN ds):=by
  unfold dfT dfC;rw [if_pos h1,if_pos (by omega)];simp
 have t2:dfT (clO ds x) (decN (clO ds x):Int)=defL (clO ds x) (decN (clO ds x)):=by
  unfold dfT dfC;rw [if_pos h1,if_pos (by omega)];simp
 rw [d0,d1,t0,t1,t2,cl_def h]
 refine ⟨h0,h1,by omega,?_,sameTs_refl7 _⟩
 obtain ⟨zs,e⟩:=def_pre (clO ds x) _ _ h2
 rw [e,cl_def h]
 exact pre_app _ _

end Go.Proofs.YtjjolkihiclopaaGreatDoor
