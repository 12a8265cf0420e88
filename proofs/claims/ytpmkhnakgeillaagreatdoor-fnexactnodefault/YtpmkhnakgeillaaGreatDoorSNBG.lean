/- Texts joined, with what the laws reach alone. -/
import Derived.Test.YtpmkhnakgeillaaGreatDoorSNBF
set_option linter.unusedVariables false
set_option linter.unusedSimpArgs false
namespace Go.Proofs.YtpmkhnakgeillaaGreatDoor
open Go.RowKit
open Go.BigFrame
set_option maxRecDepth 100000
set_option maxRecDepth 100000 in
set_option maxHeartbeats 8000000 in
theorem l11Fault_any (v:Value) (ps:List InstQ) (b:Nat) (kn sf:Int) (p:RepQ) (w:World) (hB:Blk w b 31 #[.int .i64 kn,.int .i64 sf,p.vd,p.vb,p.vt,p.vu,p.vn]) (h:instK.At w v ps) (hl:(ps.length + nmL InstQ.n ps)≤1048576) (hp:repK.own w p) (hl' : p.n≤1048576) :
  Calls Tryz.prog 60 #[v,.pointer (some ⟨b,0,none⟩)] w fun e w' => e=.returned (.int .i64 (nodF (ps.map InstQ.e) kn sf p.e))∧Below w.heap.size w w' := by
 have hof:=fun w h=>l7Fault_any v ps w h hl
 have hdi0:=fun w h h0=>l7Dec_k v ps w h hl h0
 have hdf0:=fun w h h0 hn=>l7Def_k v ps kn w h hl h0 hn
 have hrf:=fun w hB h=>l9Fault_n kn sf b p w hB h hl'
 have hn1:p.done.length + nmL TxnQ.n p.done≤1048576:=by
  have:p.done.length + nmL TxnQ.n p.done≤p.n:=by simp only [RepQ.n];omega
  omega
 have hst0:=fun v' (ys:List TxnQ) w h h' hy=>sameTxS_k p.vd v' p.done ys w h h' hn1 hy
 have hDn:Hid (ordF (ps.map InstQ.e)=0→∀ ys:List TxnQ,ys.map TxnQ.e=defL (ps.map InstQ.e) kn.toNat→ys.length + nmL TxnQ.n ys≤1048576):=fun h0 ys hy=>by
  have h1:=def_len h0 kn.toNat
  have h2:=few_n (qs:=ys) (by rw [hy];exact def_F (ord_mem h0) _)
  have h3:ys.length=(defL (ps.map InstQ.e) kn.toNat).length:=by rw [← hy,List.length_map]
  omega
 have hrb:=fun (w' : World) (hb:Below w.heap.size w w')=>repK.own_out (F:=[]) (w' := w') hp (Out.of_below hb) (fun _ _=>by simp)
 have hways:=nod_ways (ps.map InstQ.e) kn sf p.e
 have hpd:p.e.done=p.done.map TxnQ.e:=rfl
 rw [hpd] at hways
 generalize nodF (ps.map InstQ.e) kn sf p.e=D at *
 generalize defL (ps.map InstQ.e) kn.toNat=DL at *
 generalize ordF (ps.map InstQ.e)=C at *
 generalize (decN (ps.map InstQ.e):Int)=M at *
 generalize repF p.e=RF at *
 clear hpd
 obtain ⟨vd,done,vb,base,vt,tent,vu,undos,vn,now⟩:=p
 obtain ⟨a0,k0,rfl⟩:∃ a c,vd=.slice a done.length c:=hp.1.shape
 obtain ⟨a1,k1,rfl⟩:∃ a c,vb=.slice a base.length c:=hp.2.1.shape
 obtain ⟨a2,k2,rfl⟩:∃ a c,vt=.slice a tent.length c:=hp.2.2.1.shape
 obtain ⟨a3,k3,rfl⟩:∃ a c,vu=.slice a undos.length c:=hp.2.2.2.1.shape
 obtain ⟨a4,k4,rfl⟩:∃ a c,vn=.slice a now.length c:=hp.2.2.2.2.shape
 obtain ⟨va,vc,rfl⟩:=h.shape
 dsimp only at hrf hst0 hrb hways hB
 clear hl' hn1
 have A0:=hB
 have b1:Below w.heap.size w w:=Below.refl _ _
 go_enter Tryz.func60,Tryz.ntmps60
 go_wp2_with fail
 refine (hof w h).mono ?_
 rintro e w1 ⟨rfl,hb⟩
 replace A0:=A0.below hb
 replace b1:=b1.trans (hb.mono b1.size)
 clear hb hof
 by_cases hC:C=0
 case neg=>
  have hC' : (C != 0)=true:=by simpa using hC
  have HD:Hid (D=C):=by
   rcases hways with ⟨_,e⟩ | ⟨h0,_⟩ | ⟨h0,_⟩ | ⟨h0,_⟩ | ⟨h0,_⟩ | ⟨h0,_⟩
   ·exact e
   all_goals exact absurd h0 hC
  clear hways hdi0 hdf0 hrf hst0 hrb hC hDn
  go_wp2
  go_ret
  exact ⟨by first | (rw [HD.out];done) | (rw [HD.out];rfl),b1⟩
 subst hC
 have hdn:=hDn.out rfl
 have hst:=fun v' (ys:List TxnQ) w h h' hy=>hst0 v' ys w h h' (hdn ys hy)
 have HST:Hid _:=hst
 have hdi:=fun w h=>hdi0 w h rfl
 have HDF:Hid _:=hdf0
 have HRB:Hid _:=hrb
 have HRF:Hid _:=hrf
 have HWY:Hid _:=hways
 clear hDn hdn hst0 hst hdi0 hdf0 hrb hrf hways
 have hC' : ((0:Int) != 0)=false:=by decide
 have hi1:=fun w=>l1In_any kn 0 M w
 have hi2:=fun w=>l1In_any sf 0 kn w
 have c0:=A0.lat 0 _ rfl
 have c1:=A0.lat 1 _ rfl
 have c2:=A0.lat 2 _ rfl
 have c3:=A0.lat 3 _ rfl
 have c4:=A0.lat 4 _ rfl
 have c5:=A0.lat 5 _ rfl
 have c6:=A0.lat 6 _ rfl
 by_cases hk:0≤kn∧kn≤M
 case neg=>
  have HD:Hid (D=3):=by
   rcases HWY.out with ⟨h0,_⟩ | ⟨_,_,e⟩ | ⟨_,h0,_⟩ | ⟨_,h0,_⟩ | ⟨_,h0,_⟩ | ⟨_,h0,_⟩
   ·exact absurd rfl h0
   ·exact e
   all_goals exact absurd h0 hk
  have hz:inB kn 0 M=false:=decide_eq_false hk
  rw [hz] at hi1
  clear hk hz
  go_wp2_with fail
  have hW:Below w1.heap.size w1 w1.drew:=(Below.refl _ _).drew
  have hnn:Nonempty (Lat w1):=⟨⟨w1,Below.refl _ _⟩⟩
  refine text_begin (S:=fun w' => ∃ u:Lat w1,w' = u.val) (by kernel_rfl) ?_
  refine seg_range [(0,5)] 15 (by kernel_rfl) (by kernel_rfl) (by kernel_rfl) (by kernel_rfl) (by kernel_rfl) ⟨⟨_,hW⟩,rfl⟩ ?_
  simp only [pickR,List.toList_toArray,List.flatMap_cons,List.flatMap_nil,List.drop_succ_cons,List.drop_zero,List.take_succ_cons,List.take_zero,List.cons_append,List.nil_append,List.append_nil]
  repeat go_big_quiet_step (fail)
  refine wpQuiet_nil ?_
  refine call_at 5 (some 17) 73 #[.slice va ps.length vc] 14 (by kernel_rfl) (by kernel_rfl) (by kernel_rfl) (by kernel_rfl) (by kernel_rfl) ?_
  refine (hdi _ (h.below (b1.trans (hW.mono b1.size)))).mono ?_
  rintro e w9 ⟨rfl,hb9⟩
  replace hW:=hW.trans (hb9.mono hW.size)
  clear hb9
  refine ⟨_,rfl,⟨⟨_,hW⟩,rfl⟩,?_⟩
  simp only [Act.put,List.setIfInBounds_toArray,List.set_cons_zero,List.set_cons_succ]
  refine call_at 6 (some 18) 109 #[.int .i64 kn,.int .i64 0,.int .i64 M] 13 (by kernel_rfl) (by kernel_rfl) (by kernel_rfl) (by kernel_rfl) (by kernel_rfl) ?_
  refine (hi1 _).mono ?_
  rintro e w9 ⟨rfl,hw9⟩
  replace hw9:=hw9.symm
  subst hw9
  refine ⟨_,rfl,⟨⟨_,hW⟩,rfl⟩,?_⟩
  simp only [Act.put,List.setIfInBounds_toArray,List.set_cons_zero,List.set_cons_succ]
  refine seg_range [(7,10)] 3 (by kernel_rfl) (by kernel_rfl) (by kernel_rfl) (by kernel_rfl) (by kernel_rfl) ⟨⟨_,hW⟩,rfl⟩ ?_
  simp only [pickR,List.toList_toArray,List.flatMap_cons,List.flatMap_nil,List.drop_succ_cons,List.drop_zero,List.take_succ_cons,List.take_zero,List.cons_append,List.nil_append,List.append_nil]
  repeat go_big_quiet_step (fail)
  refine wpQuiet_nil ?_
  refine skip_at 17 (some 29) 2 (by kernel_rfl) (by kernel_rfl) (by kernel_rfl) (by kernel_rfl) (by kernel_rfl) ⟨⟨_,hW⟩,rfl⟩ ?_
  simp only [Act.put,List.setIfInBounds_toArray,List.set_cons_zero,List.set_cons_succ]
  refine seg_range [(18,2)] 0 (by kernel_rfl) (by kernel_rfl) (by kernel_rfl) (by kernel_rfl) (by kernel_rfl) ⟨⟨_,hW⟩,rfl⟩ ?_
  simp only [pickR,List.toList_toArray,List.flatMap_cons,List.flatMap_nil,List.drop_succ_cons,List.drop_zero,List.take_succ_cons,List.take_zero,List.cons_append,List.nil_append,List.append_nil]
  repeat go_big_quiet_step (fail)
  refine wpQuiet_nil ?_
  refine text_end (by kernel_rfl) ?_
  replace A0:=A0.below hW
  replace b1:=b1.trans (hW.mono b1.size)
  clear c0 c1 c2 c3 c4 c5 c6
  clear hnn hdi hi1 hi2
  go_wp2
  go_ret
  exact ⟨by first | (rw [HD.out];done) | (rw [HD.out];rfl),b1⟩
 have hz:inB kn 0 M=true:=decide_eq_true hk
 rw [hz] at hi1
 have HK:Hid (0≤kn∧kn≤M):=hk
 clear hz
 by_cases hs:0≤sf∧sf≤kn
 case neg=>
  have HD:Hid (D=3):=by
   rcases HWY.out with ⟨h0,_⟩ | ⟨_,h0,_⟩ | ⟨_,_,_,e⟩ | ⟨_,_,h0,_⟩ | ⟨_,_,h0,_⟩ | ⟨_,_,h0,_⟩
   ·exact absurd rfl h0
   ·exact absurd hk h0
   ·exact e
   all_goals exact absurd h0 hs
  have hz:inB sf 0 kn=false:=decide_eq_false hs
  rw [hz] at hi2
  clear hk hz hs
  go_wp2_with fail
  have hW:Below w1.heap.size w1 w1.drew:=(Below.refl _ _).drew
  have hnn:Nonempty (Lat w1):=⟨⟨w1,Below.refl _ _⟩⟩
  refine text_begin (S:=fun w' => ∃ u:Lat w1,w' = u.val) (by kernel_rfl) ?_
  refine seg_range [(0,5)] 15 (by kernel_rfl) (by kernel_rfl) (by kernel_rfl) (by kernel_rfl) (by kernel_rfl) ⟨⟨_,hW⟩,rfl⟩ ?_
  simp only [pickR,List.toList_toArray,List.flatMap_cons,List.flatMap_nil,List.drop_succ_cons,List.drop_zero,List.take_succ_cons,List.take_zero,List.cons_append,List.nil_append,List.append_nil]
  repeat go_big_quiet_step (fail)
  refine wpQuiet_nil ?_
  refine call_at 5 (some 17) 73 #[.slice va ps.length vc] 14 (by kernel_rfl) (by kernel_rfl) (by kernel_rfl) (by kernel_rfl) (by kernel_rfl) ?_
  refine (hdi _ (h.below (b1.trans (hW.mono b1.size)))).mono ?_
  rintro e w9 ⟨rfl,hb9⟩
  replace hW:=hW.trans (hb9.mono hW.size)
  clear hb9
  refine ⟨_,rfl,⟨⟨_,hW⟩,rfl⟩,?_⟩
  simp only [Act.put,List.setIfInBounds_toArray,List.set_cons_zero,List.set_cons_succ]
  refine call_at 6 (some 18) 109 #[.int .i64 kn,.int .i64 0,.int .i64 M] 13 (by kernel_rfl) (by kernel_rfl) (by kernel_rfl) (by kernel_rfl) (by kernel_rfl) ?_
  refine (hi1 _).mono ?_
  rintro e w9 ⟨rfl,hw9⟩
  replace hw9:=hw9.symm
  subst hw9
  refine ⟨_,rfl,⟨⟨_,hW⟩,rfl⟩,?_⟩
  simp only [Act.put,List.setIfInBounds_toArray,List.set_cons_zero,List.set_cons_succ]
  refine seg_range [(7,10)] 3 (by kernel_rfl) (by kernel_rfl) (by kernel_rfl) (by kernel_rfl) (by kernel_rfl) ⟨⟨_,hW⟩,rfl⟩ ?_
  simp only [pickR,List.toList_toArray,List.flatMap_cons,List.flatMap_nil,List.drop_succ_cons,List.drop_zero,List.take_succ_cons,List.take_zero,List.cons_append,List.nil_append,List.append_nil]
  repeat go_big_quiet_step (fail)
  refine wpQuiet_nil ?_
  refine call_at 17 (some 29) 109 #[.int .i64 sf,.int .i64 0,.int .i64 kn] 2 (by kernel_rfl) (by kernel_rfl) (by kernel_rfl) (by kernel_rfl) (by kernel_rfl) ?_
  refine (hi2 _).mono ?_
  rintro e w9 ⟨rfl,hw9⟩
  replace hw9:=hw9.symm
  subst hw9
  refine ⟨_,rfl,⟨⟨_,hW⟩,rfl⟩,?_⟩
  simp only [Act.put,List.setIfInBounds_toArray,List.set_cons_zero,List.set_cons_succ]
  refine seg_range [(18,2)] 0 (by kernel_rfl) (by kernel_rfl) (by kernel_rfl) (by kernel_rfl) (by kernel_rfl) ⟨⟨_,hW⟩,rfl⟩ ?_
  simp only [pickR,List.toList_toArray,List.flatMap_cons,List.flatMap_nil,List.drop_succ_cons,List.drop_zero,List.take_succ_cons,List.take_zero,List.cons_append,List.nil_append,List.append_nil]
  repeat go_big_quiet_step (fail)
  refine wpQuiet_nil ?_
  refine text_end (by kernel_rfl) ?_
  replace A0:=A0.below hW
  replace b1:=b1.trans (hW.mono b1.size)
  clear c0 c1 c2 c3 c4 c5 c6
  clear hnn hdi hi1 hi2
  go_wp2
  go_ret
  exact ⟨by first | (rw [HD.out];done) | (rw [HD.out];rfl),b1⟩
 have hz:inB sf 0 kn=true:=decide_eq_true hs
 rw [hz] at hi2
 have HS:Hid (0≤sf∧sf≤kn):=hs
 clear hk hs hz
 go_wp2_with fail
 have hW:Below w1.heap.size w1 w1.drew:=(Below.refl _ _).drew
 have hnn:Nonempty (Lat w1):=⟨⟨w1,Below.refl _ _⟩⟩
 refine text_begin (S:=fun w' => ∃ u:Lat w1,w' = u.val) (by kernel_rfl) ?_
 refine seg_range [(0,5)] 15 (by kernel_rfl) (by kernel_rfl) (by kernel_rfl) (by kernel_rfl) (by kernel_rfl) ⟨⟨_,hW⟩,rfl⟩ ?_
 simp only [pickR,List.toList_toArray,List.flatMap_cons,List.flatMap_nil,List.drop_succ_cons,List.drop_zero,List.take_succ_cons,List.take_zero,List.cons_append,List.nil_append,List.append_nil]
 repeat go_big_quiet_step (fail)
 refine wpQuiet_nil ?_
 refine call_at 5 (some 17) 73 #[.slice va ps.length vc] 14 (by kernel_rfl) (by kernel_rfl) (by kernel_rfl) (by kernel_rfl) (by kernel_rfl) ?_
 refine (hdi _ (h.below (b1.trans (hW.mono b1.size)))).mono ?_
 rintro e w9 ⟨rfl,hb9⟩
 replace hW:=hW.trans (hb9.mono hW.size)
 clear hb9
 refine ⟨_,rfl,⟨⟨_,hW⟩,rfl⟩,?_⟩
 simp only [Act.put,List.setIfInBounds_toArray,List.set_cons_zero,List.set_cons_succ]
 refine call_at 6 (some 18) 109 #[.int .i64 kn,.int .i64 0,.int .i64 M] 13 (by kernel_rfl) (by kernel_rfl) (by kernel_rfl) (by kernel_rfl) (by kernel_rfl) ?_
 refine (hi1 _).mono ?_
 rintro e w9 ⟨rfl,hw9⟩
 replace hw9:=hw9.symm
 subst hw9
 refine ⟨_,rfl,⟨⟨_,hW⟩,rfl⟩,?_⟩
 simp only [Act.put,List.setIfInBounds_toArray,List.set_cons_zero,List.set_cons_succ]
 refine seg_range [(7,10)] 3 (by kernel_rfl) (by kernel_rfl) (by kernel_rfl) (by kernel_rfl) (by kernel_rfl) ⟨⟨_,hW⟩,rfl⟩ ?_
 simp only [pickR,List.toList_toArray,List.flatMap_cons,List.flatMap_nil,List.drop_succ_cons,List.drop_zero,List.take_succ_cons,List.take_zero,List.cons_append,List.nil_append,List.append_nil]
 repeat go_big_quiet_step (fail)
 refine wpQuiet_nil ?_
 refine call_at 17 (some 29) 109 #[.int .i64 sf,.int .i64 0,.int .i64 kn] 2 (by kernel_rfl) (by kernel_rfl) (by kernel_rfl) (by kernel_rfl) (by kernel_rfl) ?_
 refine (hi2 _).mono ?_
 rintro e w9 ⟨rfl,hw9⟩
 replace hw9:=hw9.symm
 subst hw9
 refine ⟨_,rfl,⟨⟨_,hW⟩,rfl⟩,?_⟩
 simp only [Act.put,List.setIfInBounds_toArray,List.set_cons_zero,List.set_cons_succ]
 refine seg_range [(18,2)] 0 (by kernel_rfl) (by kernel_rfl) (by kernel_rfl) (by kernel_rfl) (by kernel_rfl) ⟨⟨_,hW⟩,rfl⟩ ?_
 simp only [pickR,List.toList_toArray,List.flatMap_cons,List.flatMap_nil,List.drop_succ_cons,List.drop_zero,List.take_succ_cons,List.take_zero,List.cons_append,List.nil_append,List.append_nil]
 repeat go_big_quiet_step (fail)
 refine wpQuiet_nil ?_
 refine text_end (by kernel_rfl) ?_
 replace A0:=A0.below hW
 replace b1:=b1.trans (hW.mono b1.size)
 clear c0 c1 c2 c3 c4 c5 c6
 clear hnn hdi hi1 hi2
 go_wp2_with fail
 refine (HRF.out _ A0 (HRB.out _ b1)).mono ?_
 rintro e w3 ⟨rfl,hb3⟩
 replace A0:=A0.below hb3
 replace b1:=b1.trans (hb3.mono b1.size)
 clear hb3 HRF
 by_cases hR:RF=0
 case neg=>
  have hR' : (RF != 0)=true:=by simpa using hR
  have HD:Hid (D=RF):=by
   rcases HWY.out with ⟨h0,_⟩ | ⟨_,h0,_⟩ | ⟨_,_,h0,_⟩ | ⟨_,_,_,_,e⟩ | ⟨_,_,_,h0,_⟩ | ⟨_,_,_,h0,_⟩
   ·exact absurd rfl h0
   ·exact absurd HK.out h0
   ·exact absurd HS.out h0
   ·exact e
   all_goals exact absurd h0 hR
  clear HWY hR
  go_wp2
  go_ret
  exact ⟨by first | (rw [HD.out];done) | (rw [HD.out];rfl),b1⟩
 subst hR
 have hR' : ((0:Int) != 0)=false:=by decide
 have HW:Hid ((sameTs (done.map TxnQ.e) DL=false∧D=8)∨(sameTs (done.map TxnQ.e) DL=true∧D=0)):=by
  rcases HWY.out with ⟨h0,_⟩ | ⟨_,h0,_⟩ | ⟨_,_,h0,_⟩ | ⟨_,_,_,h0,_⟩ | ⟨_,_,_,_,e1,e2⟩ | ⟨_,_,_,_,e1,e2⟩
  ·exact absurd rfl h0
  ·exact absurd HK.out h0
  ·exact absurd HS.out h0
  ·exact absurd rfl h0
  ·exact Or.inl ⟨e1,e2⟩
  ·exact Or.inr ⟨e1,e2⟩
 clear HWY
 go_wp2_with fail
 clear hR'
 have HH:Hid (instK.At w (.slice va ps.length vc) ps):=h
 have c0:=A0.lat 0 _ rfl
 have c1:=A0.lat 1 _ rfl
 have c2:=A0.lat 2 _ rfl
 have c3:=A0.lat 3 _ rfl
 have c4:=A0.lat 4 _ rfl
 have c5:=A0.lat 5 _ rfl
 have c6:=A0.lat 6 _ rfl
 have hW:Below w3.heap.size w3 w3.drew:=(Below.refl _ _).drew
 have hnn:Nonempty (Lat w3):=⟨⟨w3,Below.refl _ _⟩⟩
 refine text_begin (S:=fun w' => ∃ u:Lat w3,w' = u.val) (by kernel_rfl) ?_
 refine seg_range [(0,10)] 3 (by kernel_rfl) (by kernel_rfl) (by kernel_rfl) (by kernel_rfl) (by kernel_rfl) ⟨⟨_,hW⟩,rfl⟩ ?_
 simp only [pickR,List.toList_toArray,List.flatMap_cons,List.flatMap_nil,List.drop_succ_cons,List.drop_zero,List.take_succ_cons,List.take_zero,List.cons_append,List.nil_append,List.append_nil]
 repeat go_big_quiet_step (fail)
 refine wpQuiet_nil ?_
 refine call_at 10 (some 49) 112 #[.slice va ps.length vc,.int .i64 kn] 2 (by kernel_rfl) (by kernel_rfl) (by kernel_rfl) (by kernel_rfl) (by kernel_rfl) ?_
 refine (HDF.out _ (HH.out.below (b1.trans (hW.mono b1.size))) trivial HK.out).mono ?_
 rintro e w9 ⟨vq,qs,rfl,eq,oq,_,_,hb9⟩
 replace hW:=hW.trans (hb9.mono hW.size)
 obtain ⟨xa,xc,rfl⟩:=oq.shape
 clear hb9
 refine ⟨_,rfl,⟨⟨_,hW⟩,rfl⟩,?_⟩
 simp only [Act.put,List.setIfInBounds_toArray,List.set_cons_zero,List.set_cons_succ]
 refine call_at 11 (some 50) 111 #[.slice a0 done.length k0,.slice xa qs.length xc] 1 (by kernel_rfl) (by kernel_rfl) (by kernel_rfl) (by kernel_rfl) (by kernel_rfl) ?_
 refine (HST.out _ qs _ ((repK.own_rd (HRB.out _ (b1.trans (hW.mono b1.size)))).1) oq.at eq).mono ?_
 rintro e w9 ⟨rfl,hb9⟩
 replace hW:=hW.trans (hb9.mono hW.size)
 clear hb9
 refine ⟨_,rfl,⟨⟨_,hW⟩,rfl⟩,?_⟩
 simp only [Act.put,List.setIfInBounds_toArray,List.set_cons_zero,List.set_cons_succ]
 refine seg_range [(12,1)] 0 (by kernel_rfl) (by kernel_rfl) (by kernel_rfl) (by kernel_rfl) (by kernel_rfl) ⟨⟨_,hW⟩,rfl⟩ ?_
 simp only [pickR,List.toList_toArray,List.flatMap_cons,List.flatMap_nil,List.drop_succ_cons,List.drop_zero,List.take_succ_cons,List.take_zero,List.cons_append,List.nil_append,List.append_nil]
 repeat go_big_quiet_step (fail)
 refine wpQuiet_nil ?_
 refine text_end (by kernel_rfl) ?_
 have b2:=b1.trans (hW.mono b1.size)
 clear c0 c1 c2 c3 c4 c5 c6
 clear oq hW hnn
 rcases HW.out with ⟨e1,e2⟩ | ⟨e1,e2⟩
 ·rw [eq,e1]
  clear HW
  go_wp2
  go_ret
  exact ⟨by first | (rw [e2];done) | (rw [e2];rfl),b2⟩
 ·rw [eq,e1]
  clear HW
  go_wp2
  go_ret
  exact ⟨by first | (rw [e2];done) | (rw [e2];rfl),b2⟩

theorem specNodeFault_any (v:Value) (ps:List InstQ) (kn sf:Int) (p:RepQ) (w:World) (h:instK.At w v ps) (hl:(ps.length + nmL InstQ.n ps)≤1048576) (hp:repK.own w p) (hl' : p.n≤1048576) :
  Calls Tryz.prog 21 #[v,.agg #[.int .i64 kn,.int .i64 sf,p.vd,p.vb,p.vt,p.vu,p.vn]] w fun e w' => e=.returned (.int .i64 (nodF (ps.map InstQ.e) kn sf p.e))∧Below w.heap.size w w' := by
 have hf:=fun b w hB h hp=>l11Fault_any v ps b kn sf p w hB h hl hp hl'
 have hrb:=fun (w' : World) (hb:Below w.heap.size w w')=>repK.own_out (F:=[]) (w' := w') hp (Out.of_below hb) (fun _ _=>by simp)
 generalize nodF (ps.map InstQ.e) kn sf p.e=D at *
 obtain ⟨vd,done,vb,base,vt,tent,vu,undos,vn,now⟩:=p
 obtain ⟨a0,k0,rfl⟩:∃ a c,vd=.slice a done.length c:=hp.1.shape
 obtain ⟨a1,k1,rfl⟩:∃ a c,vb=.slice a base.length c:=hp.2.1.shape
 obtain ⟨a2,k2,rfl⟩:∃ a c,vt=.slice a tent.length c:=hp.2.2.1.shape
 obtain ⟨a3,k3,rfl⟩:∃ a c,vu=.slice a undos.length c:=hp.2.2.2.1.shape
 obtain ⟨a4,k4,rfl⟩:∃ a c,vn=.slice a now.length c:=hp.2.2.2.2.shape
 obtain ⟨va,vc,rfl⟩:=h.shape
 dsimp only at hf hrb
 have b0:Below w.heap.size w (w.alloc (.cells #[.int .i64 kn,.int .i64 sf,.slice a0 done.length k0,.slice a1 base.length k1,.slice a2 tent.length k2,.slice a3 undos.length k3,.slice a4 now.length k4] 31)):=by go_grown
 have A0:=Blk.new w 31 #[.int .i64 kn,.int .i64 sf,.slice a0 done.length k0,.slice a1 base.length k1,.slice a2 tent.length k2,.slice a3 undos.length k3,.slice a4 now.length k4]
 go_enter Tryz.func21,Tryz.ntmps21
 go_wp2_with fail
 generalize w.alloc (.cells #[.int .i64 kn,.int .i64 sf,.slice a0 done.length k0,.slice a1 base.length k1,.slice a2 tent.length k2,.slice a3 undos.length k3,.slice a4 now.length k4] 31)=W at *
 refine (hf _ W A0 (h.below b0) (hrb W b0)).mono ?_
 rintro e w1 ⟨rfl,hb⟩
 replace b0:=b0.trans (hb.mono b0.size)
 go_wp2
 go_ret
 exact ⟨rfl,b0⟩

end Go.Proofs.YtpmkhnakgeillaaGreatDoor
namespace Go.Proofs.YtpmkhnakgeillaaGreatDoor
open Go.RowKit
open Go.BigFrame
set_option maxRecDepth 100000
theorem specNodeFault_e (v:Value) (ps:List InstQ) (kn sf:Int) (p:RepQ) (ds:List InstE) (x:RepE) (hd:ps.map InstQ.e=ds) (hx:p.e=x) (w:World) (h:instK.Own w v ps) (hl:(ps.length + nmL InstQ.n ps)≤1048576) (hp:repK.own w p) (hl' : p.n≤1048576) :
  Calls Tryz.prog 21 #[v,.agg #[.int .i64 kn,.int .i64 sf,p.vd,p.vb,p.vt,p.vu,p.vn]] w fun e w' => e=.returned (.int .i64 (nodF ds kn sf x))∧Below w.heap.size w w' := by
 subst hd hx
 exact specNodeFault_any v ps kn sf p w h.at hl hp hl'

theorem implNodeFault_e (v:Value) (ps:List InstQ) (kn sf:Int) (p:RepQ) (ds:List InstE) (x:RepE) (hd:ps.map InstQ.e=ds) (hx:p.e=x) (w:World) (hG:Rul w) (hE:ErrT w) (h:instK.Own w v ps) (hl:(ps.length + nmL InstQ.n ps)≤1048576) (hp:repK.own w p) (hl' : p.n≤1048576) :
  Calls Tryz.prog 18 #[v,.agg #[.int .i64 kn,.int .i64 sf,p.vd,p.vb,p.vt,p.vu,p.vn]] w fun e w' => e=.returned (.int .i64 (nodF ds kn sf x))∧Below w.heap.size w w' := by
 subst hd hx
 exact implNodeFault_any v ps kn sf p w hG hE h.at (row_cap h.1) hl (repK.own_rd hp) hp.1.niceV hp.2.2.1.niceV hl'

set_option maxRecDepth 100000 in
set_option maxHeartbeats 8000000 in
theorem nodeFaultLaw (v:Value) (ps:List InstQ) (kn sf:Int) (p:RepQ) (w:World) (hG:Rul w) (hE:ErrT w) (h:instK.At w v ps) (hn:ps.length≤9223372036854775807) (hwf:∀ p∈ps,InstQ.wf p) (hp:repK.rd w p) (hw:p.wf) :
  Calls Tryz.prog 6 #[v,.agg #[.int .i64 kn,.int .i64 sf,p.vd,p.vb,p.vt,p.vu,p.vn]] w fun e w' => e=.returned (.bool true)∧Below w.heap.size w w' := by
 have hszO:=fun w h=>szInstances_k v ps 1048576 w h hn hwf (by omega) (by omega)
 have hszN:=fun c w h h0 h1=>szNode_k kn sf p c w h hw h0 h1
 have htoO:=fun w h hl=>toInstances_k v ps w h hl
 have htoN:=fun w h hl=>toNode_k kn sf p w h hl
 have hsp:=fun v qs q (hq:qs.map InstQ.e=ps.map InstQ.e) (hr:RepQ.e q=p.e) w h hl h' hl' => specNodeFault_e v qs kn sf q _ _ hq hr w h hl h' hl'
 have him:=fun v qs q (hq:qs.map InstQ.e=ps.map InstQ.e) (hr:RepQ.e q=p.e) w hG hE h hl h' hl' => implNodeFault_e v qs kn sf q _ _ hq hr w hG hE h hl h' hl'
 have hqO:∀ qs:List InstQ,qs.map InstQ.e=ps.map InstQ.e→qs.length + nmL InstQ.n qs=ps.length + nmL InstQ.n ps:=fun qs hq=>insts_n hq
 have hqN:∀ q:RepQ,q.e=p.e→q.n=p.n:=fun q hq=>rep_n hq
 have heqO:=fun v v' (q q' : List InstQ) (hq:q.map InstQ.e=ps.map InstQ.e) (hq' : q'.map InstQ.e=ps.map InstQ.e) w h h' hl=>eqInstances_k v v' q q' w h h' (hq.trans hq'.symm) hl
 have heqN:=fun (q q' : RepQ) (hq:q.e=p.e) (hq' : q'.e=p.e) w h h' hl=>eqNode_k kn sf q q' w h h' (hq.trans hq'.symm) hl
 have hrbO:=fun (w' : World) hb=>Kind.At.below (w' := w') h hb
 have hrbN:=fun (w' : World) hb=>repK.rd_below (w' := w') hp hb
 generalize nodF (ps.map InstQ.e) kn sf p.e=D at *
 generalize ps.map InstQ.e=ds at *
 generalize hon:ps.length + nmL InstQ.n ps=on at *
 generalize hpe:p.e=pe at *
 generalize hpn:p.n=pn at *
 obtain ⟨vd,done,vb,base,vt,tent,vu,undos,vn,now⟩:=p
 obtain ⟨da,dk,rfl⟩:∃ a c,vd=.slice a done.length c:=hp.1.shape
 obtain ⟨ba,bk,rfl⟩:∃ a c,vb=.slice a base.length c:=hp.2.1.shape
 obtain ⟨ta,tk,rfl⟩:∃ a c,vt=.slice a tent.length c:=hp.2.2.1.shape
 obtain ⟨ua,uk,rfl⟩:∃ a c,vu=.slice a undos.length c:=hp.2.2.2.1.shape
 obtain ⟨na,nk,rfl⟩:∃ a c,vn=.slice a now.length c:=hp.2.2.2.2.shape
 obtain ⟨oa,oc,rfl⟩:=h.shape
 dsimp only at hszN htoN hrbN
 have b0:Below w.heap.size w (w.alloc (.cells #[.int .i64 kn,.int .i64 sf,.slice da done.length dk,.slice ba base.length bk,.slice ta tent.length tk,.slice ua undos.length uk,.slice na now.length nk] 63)):=by go_grown
 have A0:=Blk.new w 63 #[.int .i64 kn,.int .i64 sf,.slice da done.length dk,.slice ba base.length bk,.slice ta tent.length tk,.slice ua undos.length uk,.slice na now.length nk]
 go_enter Tryz.func6,Tryz.ntmps6
 go_wp2_with fail
 generalize w.alloc (.cells #[.int .i64 kn,.int .i64 sf,.slice da done.length dk,.slice ba base.length bk,.slice ta tent.length tk,.slice ua undos.length uk,.slice na now.length nk] 63)=W at *
 refine (hszO W (hrbO W b0)).mono ?_
 rintro e w1 ⟨r,rfl,hr,hb⟩
 replace A0:=A0.below hb
 replace b0:=b0.trans (hb.mono b0.size)
 clear hb
 clear hszO
 by_cases hneg:r < 0
 ·go_wp2
  go_ret
  exact ⟨rfl,b0⟩
 have hl:((on:Nat):Int) + r=1048576:=hr (by omega)
 clear hr
 have p0:=A0.cell 0 _ rfl
 have p1:=A0.cell 1 _ rfl
 have p2:=A0.cell 2 _ rfl
 have p3:=A0.cell 3 _ rfl
 have p4:=A0.cell 4 _ rfl
 have p5:=A0.cell 5 _ rfl
 have p6:=A0.cell 6 _ rfl
 go_wp2_with fail
 clear p0 p1 p2 p3 p4 p5 p6
 refine (hszN r w1 (hrbN w1 b0) (by omega) (by omega)).mono ?_
 rintro e w2 ⟨r',rfl,hr,hb⟩
 replace A0:=A0.below hb
 replace b0:=b0.trans (hb.mono b0.size)
 clear hb
 clear hszN
 by_cases hneg' : r' < 0
 ·go_wp2
  go_ret
  exact ⟨rfl,b0⟩
 have hl' : ((pn:Nat):Int) + r' = r:=hr (by omega)
 clear hr
 replace hl' : pn≤1048576:=by omega
 replace hl:on≤1048576:=by omega
 go_wp2_with fail
 clear hneg hneg'
 have HTO:Hid _:=htoO
 have HTN:Hid _:=htoN
 have HSP:Hid _:=hsp
 have HIM:Hid _:=him
 have HQO:Hid _:=hqO
 have HQN:Hid _:=hqN
 have HEO:Hid _:=heqO
 have HEN:Hid _:=heqN
 have HRO:Hid _:=hrbO
 have HRN:Hid _:=hrbN
 clear htoO htoN hsp him hqO hqN heqO heqN hrbO hrbN hon hpe hpn
 have hW:Below w2.heap.size w2 w2.drew:=(Below.refl _ _).drew
 have hnn:Nonempty (Lat w2):=⟨⟨w2,Below.refl _ _⟩⟩
 have k0:=A0.lat 0 _ rfl
 have k1:=A0.lat 1 _ rfl
 have k2:=A0.lat 2 _ rfl
 have k3:=A0.lat 3 _ rfl
 have k4:=A0.lat 4 _ rfl
 have k5:=A0.lat 5 _ rfl
 have k6:=A0.lat 6 _ rfl
 refine text_begin (S:=fun w' => ∃ u:Lat w2,w' = u.val) (by kernel_rfl) ?_
 refine seg_range [(0,1),(2,1)] 4 (by kernel_rfl) (by kernel_rfl) (by kernel_rfl) (by kernel_rfl) (by kernel_rfl) ⟨⟨_,hW⟩,rfl⟩ ?_
 simp only [pickR,List.toList_toArray,List.flatMap_cons,List.flatMap_nil,List.drop_succ_cons,List.drop_zero,List.take_succ_cons,List.take_zero,List.cons_append,List.nil_append,List.append_nil]
 repeat go_big_quiet_step (fail)
 refine wpQuiet_nil ?_
 refine call_at 1 (some 21) 38 #[.slice oa ps.length oc] 3 (by kernel_rfl) (by kernel_rfl) (by kernel_rfl) (by kernel_rfl) (by kernel_rfl) ?_
 refine (HTO.out _ (HRO.out _ (b0.trans (hW.mono b0.size))) hl).mono ?_
 rintro e w9 ⟨v1,c1,rfl,f1,t1,_,_,hb9⟩
 replace hW:=hW.trans (hb9.mono hW.size)
 obtain ⟨xa,xc,rfl⟩:=t1.shape
 clear hb9
 refine ⟨_,rfl,⟨⟨_,hW⟩,rfl⟩,?_⟩
 simp only [Act.put,List.setIfInBounds_toArray,List.set_cons_zero,List.set_cons_succ]
 refine call_at 3 (some 23) 39 #[.agg #[.int .i64 kn,.int .i64 sf,.slice da done.length dk,.slice ba base.length bk,.slice ta tent.length tk,.slice ua undos.length uk,.slice na now.length nk]] 2 (by kernel_rfl) (by kernel_rfl) (by kernel_rfl) (by kernel_rfl) (by kernel_rfl) ?_
 refine (HTN.out _ (HRN.out _ (b0.trans (hW.mono b0.size))) hl').mono ?_
 rintro e w9 ⟨q1,rfl,e1,o1,_,_,hb9⟩
 replace hW:=hW.trans (hb9.mono hW.size)
 replace t1:=t1.below hb9
 clear hb9
 refine ⟨_,rfl,⟨⟨_,hW⟩,rfl⟩,?_⟩
 simp only [Act.put,List.setIfInBounds_toArray,List.set_cons_zero,List.set_cons_succ]
 refine call_at 4 (some 24) 21 #[.slice xa c1.length xc,.agg #[.int .i64 kn,.int .i64 sf,q1.vd,q1.vb,q1.vt,q1.vu,q1.vn]] 1 (by kernel_rfl) (by kernel_rfl) (by kernel_rfl) (by kernel_rfl) (by kernel_rfl) ?_
 refine (HSP.out _ c1 q1 f1 e1 _ t1 (by rw [HQO.out c1 f1];exact hl) o1 (by rw [HQN.out q1 e1];exact hl')).mono ?_
 rintro e w9 ⟨rfl,hb9⟩
 replace hW:=hW.trans (hb9.mono hW.size)
 clear hb9
 refine ⟨_,rfl,⟨⟨_,hW⟩,rfl⟩,?_⟩
 simp only [Act.put,List.setIfInBounds_toArray,List.set_cons_zero,List.set_cons_succ]
 refine seg_range [(5,1)] 0 (by kernel_rfl) (by kernel_rfl) (by kernel_rfl) (by kernel_rfl) (by kernel_rfl) ⟨⟨_,hW⟩,rfl⟩ ?_
 simp only [pickR,List.toList_toArray,List.flatMap_cons,List.flatMap_nil,List.drop_succ_cons,List.drop_zero,List.take_succ_cons,List.take_zero,List.cons_append,List.nil_append,List.append_nil]
 repeat go_big_quiet_step (fail)
 refine wpQuiet_nil ?_
 refine text_end (by kernel_rfl) ?_
 clear hnn k0 k1 k2 k3 k4 k5 k6
 clear t1 o1 f1 e1 HSP
 replace A0:=A0.below hW
 replace b0:=b0.trans (hW.mono b0.size)
 clear hW
 go_wp2_with fail
 refine (HTO.out _ (HRO.out _ b0) hl).mono ?_
 rintro e w4 ⟨v2,c2,rfl,f2,t2,_,_,hb⟩
 obtain ⟨ya,yc,rfl⟩:=t2.shape
 replace A0:=A0.below hb
 replace b0:=b0.trans (hb.mono b0.size)
 clear hb
 have p0:=A0.cell 0 _ rfl
 have p1:=A0.cell 1 _ rfl
 have p2:=A0.cell 2 _ rfl
 have p3:=A0.cell 3 _ rfl
 have p4:=A0.cell 4 _ rfl
 have p5:=A0.cell 5 _ rfl
 have p6:=A0.cell 6 _ rfl
 go_wp2_with fail
 clear p0 p1 p2 p3 p4 p5 p6
 refine (HTN.out _ (HRN.out _ b0) hl').mono ?_
 rintro e w5 ⟨q2,rfl,e2,o2,_,_,hb⟩
 replace A0:=A0.below hb
 replace t2:=t2.below hb
 replace b0:=b0.trans (hb.mono b0.size)
 clear hb
 have hl2:RepQ.n q2≤1048576:=by rw [HQN.out q2 e2];exact hl'
 have hi2:=fun v qs hq w hG hE h hl h' => HIM.out v qs q2 hq e2 w hG hE h hl h' hl2
 have he2:=fun q' hq' w h h' => HEN.out q2 q' e2 hq' w h h' hl2
 obtain ⟨vd2,done2,vb2,base2,vt2,tent2,vu2,undos2,vn2,now2⟩:=q2
 obtain ⟨da2,dk2,rfl⟩:∃ a c,vd2=.slice a done2.length c:=o2.1.shape
 obtain ⟨ba2,bk2,rfl⟩:∃ a c,vb2=.slice a base2.length c:=o2.2.1.shape
 obtain ⟨ta2,tk2,rfl⟩:∃ a c,vt2=.slice a tent2.length c:=o2.2.2.1.shape
 obtain ⟨ua2,uk2,rfl⟩:∃ a c,vu2=.slice a undos2.length c:=o2.2.2.2.1.shape
 obtain ⟨na2,nk2,rfl⟩:∃ a c,vn2=.slice a now2.length c:=o2.2.2.2.2.shape
 dsimp only at hi2 he2
 have X0:=Blk.new w5 31 #[.int .i64 kn,.int .i64 sf,.slice da2 done2.length dk2,.slice ba2 base2.length bk2,.slice ta2 tent2.length tk2,.slice ua2 undos2.length uk2,.slice na2 now2.length nk2]
 have hb:Below w5.heap.size w5 (w5.alloc (.cells #[.int .i64 kn,.int .i64 sf,.slice da2 done2.length dk2,.slice ba2 base2.length bk2,.slice ta2 tent2.length tk2,.slice ua2 undos2.length uk2,.slice na2 now2.length nk2] 31)):=by go_grown
 replace A0:=A0.below hb
 replace o2:=repK.own_out (F:=[]) o2 (Out.of_below hb) (fun _ _=>by simp)
 replace t2:=t2.below hb
 replace b0:=b0.trans (hb.mono b0.size)
 clear hb
 have HI2:Hid _:=hi2
 have HE2:Hid _:=he2
 clear hi2 he2
 have p0:=X0.cell 0 _ rfl
 have p1:=X0.cell 1 _ rfl
 have p2:=X0.cell 2 _ rfl
 have p3:=X0.cell 3 _ rfl
 have p4:=X0.cell 4 _ rfl
 have p5:=X0.cell 5 _ rfl
 have p6:=X0.cell 6 _ rfl
 go_wp2_with fail
 clear p0 p1 p2 p3 p4 p5 p6
 generalize w5.alloc (.cells #[.int .i64 kn,.int .i64 sf,.slice da2 done2.length dk2,.slice ba2 base2.length bk2,.slice ta2 tent2.length tk2,.slice ua2 undos2.length uk2,.slice na2 now2.length nk2] 31)=W5 at *
 refine (HI2.out _ c2 f2 _ (hG.below b0) (hE.below b0) t2 (by rw [HQO.out c2 f2];exact hl) o2).mono ?_
 rintro e w6 ⟨rfl,hb⟩
 replace A0:=A0.below hb
 replace X0:=X0.below hb
 replace o2:=repK.own_out (F:=[]) o2 (Out.of_below hb) (fun _ _=>by simp)
 replace t2:=t2.below hb
 replace b0:=b0.trans (hb.mono b0.size)
 clear hb
 clear HI2
 have hne:(D != D)=false:=by simp
 go_wp2_with fail
 clear hne
 refine (HTO.out _ (HRO.out _ b0) hl).mono ?_
 rintro e w7 ⟨v3,c3,rfl,f3,t3,_,_,hb⟩
 obtain ⟨za,zc,rfl⟩:=t3.shape
 replace A0:=A0.below hb
 replace X0:=X0.below hb
 replace o2:=repK.own_out (F:=[]) o2 (Out.of_below hb) (fun _ _=>by simp)
 replace t2:=t2.below hb
 replace b0:=b0.trans (hb.mono b0.size)
 clear hb
 go_wp2_with fail
 refine (HEO.out _ _ c2 c3 f2 f3 _ t2.at t3.at (by rw [HQO.out c2 f2];exact hl)).mono ?_
 rintro e w8 ⟨rfl,hb⟩
 clear t3 f3
 replace A0:=A0.below hb
 replace X0:=X0.below hb
 replace o2:=repK.own_out (F:=[]) o2 (Out.of_below hb) (fun _ _=>by simp)
 replace t2:=t2.below hb
 replace b0:=b0.trans (hb.mono b0.size)
 clear hb
 clear t2 f2 HEO HTO
 go_wp2_with fail
 have hW:Below w8.heap.size w8 w8.drew:=(Below.refl _ _).drew
 have hnn:Nonempty (Lat w8):=⟨⟨w8,Below.refl _ _⟩⟩
 have k0:=A0.lat 0 _ rfl
 have k1:=A0.lat 1 _ rfl
 have k2:=A0.lat 2 _ rfl
 have k3:=A0.lat 3 _ rfl
 have k4:=A0.lat 4 _ rfl
 have k5:=A0.lat 5 _ rfl
 have k6:=A0.lat 6 _ rfl
 have l0:=X0.lat 0 _ rfl
 have l1:=X0.lat 1 _ rfl
 have l2:=X0.lat 2 _ rfl
 have l3:=X0.lat 3 _ rfl
 have l4:=X0.lat 4 _ rfl
 have l5:=X0.lat 5 _ rfl
 have l6:=X0.lat 6 _ rfl
 refine text_begin (S:=fun w' => ∃ u:Lat w8,w' = u.val) (by kernel_rfl) ?_
 refine seg_range [(0,2)] 3 (by kernel_rfl) (by kernel_rfl) (by kernel_rfl) (by kernel_rfl) (by kernel_rfl) ⟨⟨_,hW⟩,rfl⟩ ?_
 simp only [pickR,List.toList_toArray,List.flatMap_cons,List.flatMap_nil,List.drop_succ_cons,List.drop_zero,List.take_succ_cons,List.take_zero,List.cons_append,List.nil_append,List.append_nil]
 repeat go_big_quiet_step (fail)
 refine wpQuiet_nil ?_
 refine call_at 2 (some 42) 39 #[.agg #[.int .i64 kn,.int .i64 sf,.slice da done.length dk,.slice ba base.length bk,.slice ta tent.length tk,.slice ua undos.length uk,.slice na now.length nk]] 2 (by kernel_rfl) (by kernel_rfl) (by kernel_rfl) (by kernel_rfl) (by kernel_rfl) ?_
 refine (HTN.out _ (HRN.out _ (b0.trans (hW.mono b0.size))) hl').mono ?_
 rintro e w9 ⟨q9,rfl,e9,o9,_,_,hb9⟩
 replace hW:=hW.trans (hb9.mono hW.size)
 clear hb9
 refine ⟨_,rfl,⟨⟨_,hW⟩,rfl⟩,?_⟩
 simp only [Act.put,List.setIfInBounds_toArray,List.set_cons_zero,List.set_cons_succ]
 refine call_at 3 (some 43) 41 #[.agg #[.int .i64 kn,.int .i64 sf,.slice da2 done2.length dk2,.slice ba2 base2.length bk2,.slice ta2 tent2.length tk2,.slice ua2 undos2.length uk2,.slice na2 now2.length nk2],.agg #[.int .i64 kn,.int .i64 sf,q9.vd,q9.vb,q9.vt,q9.vu,q9.vn]] 1 (by kernel_rfl) (by kernel_rfl) (by kernel_rfl) (by kernel_rfl) (by kernel_rfl) ?_
 refine (HE2.out q9 e9 _ (repK.rd_below (repK.own_rd o2) hW) (repK.own_rd o9)).mono ?_
 rintro e w9 ⟨rfl,hb9⟩
 replace hW:=hW.trans (hb9.mono hW.size)
 clear hb9
 refine ⟨_,rfl,⟨⟨_,hW⟩,rfl⟩,?_⟩
 simp only [Act.put,List.setIfInBounds_toArray,List.set_cons_zero,List.set_cons_succ]
 refine seg_range [(4,1)] 0 (by kernel_rfl) (by kernel_rfl) (by kernel_rfl) (by kernel_rfl) (by kernel_rfl) ⟨⟨_,hW⟩,rfl⟩ ?_
 simp only [pickR,List.toList_toArray,List.flatMap_cons,List.flatMap_nil,List.drop_succ_cons,List.drop_zero,List.take_succ_cons,List.take_zero,List.cons_append,List.nil_append,List.append_nil]
 repeat go_big_quiet_step (fail)
 refine wpQuiet_nil ?_
 refine text_end (by kernel_rfl) ?_
 clear hnn k0 k1 k2 k3 k4 k5 k6 l0 l1 l2 l3 l4 l5 l6
 replace b0:=b0.trans (hW.mono b0.size)
 clear o9 e9 o2 A0 X0 hW
 go_wp2
 go_ret
 exact ⟨rfl,b0⟩

end Go.Proofs.YtpmkhnakgeillaaGreatDoor
