/- Texts joined, with what the law reaches alone. -/
import Derived.Test.YtfdkcbafpiojkaaGreatDoorSXAP
import Derived.Test.YtfdkcbafpiojkaaGreatDoorSXBD
import Derived.Test.YtfdkcbafpiojkaaGreatDoorSXAR
import Derived.Test.YtfdkcbafpiojkaaGreatDoorSXAC
set_option linter.unusedVariables false
set_option linter.unusedSimpArgs false
namespace Go.Proofs.YtfdkcbafpiojkaaGreatDoor
open Go.RowKit
open Go.BigFrame
set_option maxRecDepth 100000
def mkRep (c:Int):RepQ→RepQ
 | ⟨vd,done,vb,base,vt,tent,vu,undos,vn,now⟩=>⟨vd,mkL mkTxn nmTxn (c) done,vb,mkItems (c + ((nmL nmTxn done:Nat):Int)) base,vt,mkL mkTxn nmTxn (c + ((nmL nmTxn done:Nat):Int) + ((base.length * 2:Nat):Int)) tent,vu,mkL mkUs nmUs (c + ((nmL nmTxn done:Nat):Int) + ((base.length * 2:Nat):Int) + ((nmL nmTxn tent:Nat):Int)) undos,vn,mkItems (c + ((nmL nmTxn done:Nat):Int) + ((base.length * 2:Nat):Int) + ((nmL nmTxn tent:Nat):Int) + ((nmL nmUs undos:Nat):Int)) now⟩

def nmRep:RepQ→Nat
 | ⟨vd,done,vb,base,vt,tent,vu,undos,vn,now⟩=>nmL nmTxn done + base.length * 2 + nmL nmTxn tent + nmL nmUs undos + now.length * 2

theorem nmTx9_le (ps:List TxnQ):nmL nmTxn ps≤3 * (ps.length + nmL TxnQ.n ps):=by
 induction ps with
 | nil=>simp [nmL]
 | cons p r ih=>
  simp only [nmL,List.map_cons,List.sum_cons,List.length_cons] at ih ⊢
  simp only [nmTxn,TxnQ.n] at ih ⊢
  omega

theorem nmUs9_le (ps:List USQ):nmL nmUs ps≤3 * (ps.length + nmL USQ.n ps):=by
 induction ps with
 | nil=>simp [nmL]
 | cons p r ih=>
  simp only [nmL,List.map_cons,List.sum_cons,List.length_cons] at ih ⊢
  simp only [nmUs,USQ.n] at ih ⊢
  omega

set_option maxHeartbeats 4000000 in
theorem markReplica_k (p:RepQ) (c:Int) (w:World) (h:repK.own w p) (hnd:(repK.foot p).Nodup) (hl:RepQ.n p≤1048576) (h0:0≤c) (h1:c≤1000000000) :
  Calls Tryz.prog 15 #[.agg #[p.vd,p.vb,p.vt,p.vu,p.vn],.int .i64 c] w fun e w' => e=.returned (.int .i64 (c + (nmRep p:Int)))∧repK.own w' (mkRep c p)∧Out (repK.foot p) w w' := by
 obtain ⟨vd,done,vb,base,vt,tent,vu,undos,vn,now⟩:=p
 obtain ⟨o0,o1,o2,o3,o4⟩:txnK.Own w vd done∧itemK.Own w vb base∧txnK.Own w vt tent∧ussK.Own w vu undos∧itemK.Own w vn now:=h
 obtain ⟨n0,r0,x0⟩:=List.nodup_append.1 hnd
 obtain ⟨n1,r1,x1⟩:=List.nodup_append.1 r0
 obtain ⟨n2,r2,x2⟩:=List.nodup_append.1 r1
 obtain ⟨n3,n4,x3⟩:=List.nodup_append.1 r2
 have d01:∀ k∈itemK.fp vb base,k ∉ txnK.fp vd done:=fun k hk hk2=>x0 k hk2 k (List.mem_append_left _ hk) rfl
 have d10:∀ k∈txnK.fp vd done,k ∉ itemK.fp vb base:=fun k hk2 hk=>x0 k hk2 k (List.mem_append_left _ hk) rfl
 have d02:∀ k∈txnK.fp vt tent,k ∉ txnK.fp vd done:=fun k hk hk2=>x0 k hk2 k (List.mem_append_right _ (List.mem_append_left _ hk)) rfl
 have d20:∀ k∈txnK.fp vd done,k ∉ txnK.fp vt tent:=fun k hk2 hk=>x0 k hk2 k (List.mem_append_right _ (List.mem_append_left _ hk)) rfl
 have d03:∀ k∈ussK.fp vu undos,k ∉ txnK.fp vd done:=fun k hk hk2=>x0 k hk2 k (List.mem_append_right _ (List.mem_append_right _ (List.mem_append_left _ hk))) rfl
 have d30:∀ k∈txnK.fp vd done,k ∉ ussK.fp vu undos:=fun k hk2 hk=>x0 k hk2 k (List.mem_append_right _ (List.mem_append_right _ (List.mem_append_left _ hk))) rfl
 have d04:∀ k∈itemK.fp vn now,k ∉ txnK.fp vd done:=fun k hk hk2=>x0 k hk2 k (List.mem_append_right _ (List.mem_append_right _ (List.mem_append_right _ hk))) rfl
 have d40:∀ k∈txnK.fp vd done,k ∉ itemK.fp vn now:=fun k hk2 hk=>x0 k hk2 k (List.mem_append_right _ (List.mem_append_right _ (List.mem_append_right _ hk))) rfl
 have d12:∀ k∈txnK.fp vt tent,k ∉ itemK.fp vb base:=fun k hk hk2=>x1 k hk2 k (List.mem_append_left _ hk) rfl
 have d21:∀ k∈itemK.fp vb base,k ∉ txnK.fp vt tent:=fun k hk2 hk=>x1 k hk2 k (List.mem_append_left _ hk) rfl
 have d13:∀ k∈ussK.fp vu undos,k ∉ itemK.fp vb base:=fun k hk hk2=>x1 k hk2 k (List.mem_append_right _ (List.mem_append_left _ hk)) rfl
 have d31:∀ k∈itemK.fp vb base,k ∉ ussK.fp vu undos:=fun k hk2 hk=>x1 k hk2 k (List.mem_append_right _ (List.mem_append_left _ hk)) rfl
 have d14:∀ k∈itemK.fp vn now,k ∉ itemK.fp vb base:=fun k hk hk2=>x1 k hk2 k (List.mem_append_right _ (List.mem_append_right _ hk)) rfl
 have d41:∀ k∈itemK.fp vb base,k ∉ itemK.fp vn now:=fun k hk2 hk=>x1 k hk2 k (List.mem_append_right _ (List.mem_append_right _ hk)) rfl
 have d23:∀ k∈ussK.fp vu undos,k ∉ txnK.fp vt tent:=fun k hk hk2=>x2 k hk2 k (List.mem_append_left _ hk) rfl
 have d32:∀ k∈txnK.fp vt tent,k ∉ ussK.fp vu undos:=fun k hk2 hk=>x2 k hk2 k (List.mem_append_left _ hk) rfl
 have d24:∀ k∈itemK.fp vn now,k ∉ txnK.fp vt tent:=fun k hk hk2=>x2 k hk2 k (List.mem_append_right _ hk) rfl
 have d42:∀ k∈txnK.fp vt tent,k ∉ itemK.fp vn now:=fun k hk2 hk=>x2 k hk2 k (List.mem_append_right _ hk) rfl
 have d34:∀ k∈itemK.fp vn now,k ∉ ussK.fp vu undos:=fun k hk hk2=>x3 k hk2 k hk rfl
 have d43:∀ k∈ussK.fp vu undos,k ∉ itemK.fp vn now:=fun k hk2 hk=>x3 k hk2 k hk rfl
 have n0:(txnK.fp vd done).Nodup:=n0
 have n1:(itemK.fp vb base).Nodup:=n1
 have n2:(txnK.fp vt tent).Nodup:=n2
 have n3:(ussK.fp vu undos).Nodup:=n3
 have n4:(itemK.fp vn now).Nodup:=n4
 clear hnd r0 r1 r2 x0 x1 x2 x3
 dsimp only [RepQ.n] at hl
 have t0:=nmTx9_le done
 have t2:=nmTx9_le tent
 have t3:=nmUs9_le undos
 have hF0:Hid (∀ {w w' : World},Out (txnK.fp vd done) w w' → Out (repK.foot ⟨vd,done,vb,base,vt,tent,vu,undos,vn,now⟩) w w'):=fun h=>h.mono (fun k hk=>(List.mem_append_left _ hk))
 have hF1:Hid (∀ {w w' : World},Out (itemK.fp vb base) w w' → Out (repK.foot ⟨vd,done,vb,base,vt,tent,vu,undos,vn,now⟩) w w'):=fun h=>h.mono (fun k hk=>(List.mem_append_right _ (List.mem_append_left _ hk)))
 have hF2:Hid (∀ {w w' : World},Out (txnK.fp vt tent) w w' → Out (repK.foot ⟨vd,done,vb,base,vt,tent,vu,undos,vn,now⟩) w w'):=fun h=>h.mono (fun k hk=>(List.mem_append_right _ (List.mem_append_right _ (List.mem_append_left _ hk))))
 have hF3:Hid (∀ {w w' : World},Out (ussK.fp vu undos) w w' → Out (repK.foot ⟨vd,done,vb,base,vt,tent,vu,undos,vn,now⟩) w w'):=fun h=>h.mono (fun k hk=>(List.mem_append_right _ (List.mem_append_right _ (List.mem_append_right _ (List.mem_append_left _ hk)))))
 have hF4:Hid (∀ {w w' : World},Out (itemK.fp vn now) w w' → Out (repK.foot ⟨vd,done,vb,base,vt,tent,vu,undos,vn,now⟩) w w'):=fun h=>h.mono (fun k hk=>(List.mem_append_right _ (List.mem_append_right _ (List.mem_append_right _ (List.mem_append_right _ hk)))))
 have hm0:=fun w h=>markTxns_k vd done (c) w h n0 (by omega) (by omega) (by omega)
 have hm1:=fun w h=>markItems_k vb base (c + ((nmL nmTxn done:Nat):Int)) w h (by omega) (by omega) (by omega)
 have hm2:=fun w h=>markTxns_k vt tent (c + ((nmL nmTxn done:Nat):Int) + ((base.length * 2:Nat):Int)) w h n2 (by omega) (by omega) (by omega)
 have hm3:=fun w h=>markUss_k vu undos (c + ((nmL nmTxn done:Nat):Int) + ((base.length * 2:Nat):Int) + ((nmL nmTxn tent:Nat):Int)) w h n3 (by omega) (by omega) (by omega)
 have hm4:=fun w h=>markItems_k vn now (c + ((nmL nmTxn done:Nat):Int) + ((base.length * 2:Nat):Int) + ((nmL nmTxn tent:Nat):Int) + ((nmL nmUs undos:Nat):Int)) w h (by omega) (by omega) (by omega)
 have e0:∀ c,txnK.fp vd (mkL mkTxn nmTxn c done)=txnK.fp vd done:=fun c=>fp_mkL mkTxn_foot _ _ _
 have e1:∀ c,itemK.fp vb (mkItems c base)=itemK.fp vb base:=fun c=>mkItems_fp c vb base
 have e2:∀ c,txnK.fp vt (mkL mkTxn nmTxn c tent)=txnK.fp vt tent:=fun c=>fp_mkL mkTxn_foot _ _ _
 have e3:∀ c,ussK.fp vu (mkL mkUs nmUs c undos)=ussK.fp vu undos:=fun c=>fp_mkL mkUs_foot _ _ _
 have HR:Hid (∀ w',txnK.Own w' vd (mkL mkTxn nmTxn (c) done)→itemK.Own w' vb (mkItems (c + ((nmL nmTxn done:Nat):Int)) base)→txnK.Own w' vt (mkL mkTxn nmTxn (c + ((nmL nmTxn done:Nat):Int) + ((base.length * 2:Nat):Int)) tent)→ussK.Own w' vu (mkL mkUs nmUs (c + ((nmL nmTxn done:Nat):Int) + ((base.length * 2:Nat):Int) + ((nmL nmTxn tent:Nat):Int)) undos)→itemK.Own w' vn (mkItems (c + ((nmL nmTxn done:Nat):Int) + ((base.length * 2:Nat):Int) + ((nmL nmTxn tent:Nat):Int) + ((nmL nmUs undos:Nat):Int)) now)→repK.own w' (mkRep c ⟨vd,done,vb,base,vt,tent,vu,undos,vn,now⟩)):=fun w' a b c d e=>⟨a,b,c,d,e⟩
 have HS:Hid ((c + ((nmL nmTxn done:Nat):Int) + ((base.length * 2:Nat):Int) + ((nmL nmTxn tent:Nat):Int) + ((nmL nmUs undos:Nat):Int) + ((now.length * 2:Nat):Int):Int)=c + (nmRep ⟨vd,done,vb,base,vt,tent,vu,undos,vn,now⟩:Int)):=show _=_ by dsimp only [nmRep];omega
 obtain ⟨a0,k0,rfl⟩:=o0.shape
 obtain ⟨a1,k1,rfl⟩:=o1.shape
 obtain ⟨a2,k2,rfl⟩:=o2.shape
 obtain ⟨a3,k3,rfl⟩:=o3.shape
 obtain ⟨a4,k4,rfl⟩:=o4.shape
 have B:=Blk.new w 32 #[.slice a0 done.length k0,.slice a1 base.length k1,.slice a2 tent.length k2,.slice a3 undos.length k3,.slice a4 now.length k4]
 have hB:Below w.heap.size w (w.alloc (.cells #[.slice a0 done.length k0,.slice a1 base.length k1,.slice a2 tent.length k2,.slice a3 undos.length k3,.slice a4 now.length k4] 32)):=by go_grown
 have hlt0:=o0.lt
 have hlt1:=o1.lt
 have hlt2:=o2.lt
 have hlt3:=o3.lt
 have hlt4:=o4.lt
 have HB:Hid (w.heap.size ∉ txnK.fp (.slice a0 done.length k0) done∧w.heap.size ∉ itemK.fp (.slice a1 base.length k1) base∧w.heap.size ∉ txnK.fp (.slice a2 tent.length k2) tent∧w.heap.size ∉ ussK.fp (.slice a3 undos.length k3) undos):=⟨fun e=>Nat.lt_irrefl _ (hlt0 _ e),fun e=>Nat.lt_irrefl _ (hlt1 _ e),fun e=>Nat.lt_irrefl _ (hlt2 _ e),fun e=>Nat.lt_irrefl _ (hlt3 _ e)⟩
 clear hlt0 hlt1 hlt2 hlt3 hlt4 t0 t2 t3
 replace o0:=o0.below hB
 replace o1:=o1.below hB
 replace o2:=o2.below hB
 replace o3:=o3.below hB
 replace o4:=o4.below hB
 have HU:Hid (Out (repK.foot ⟨.slice a0 done.length k0,done,.slice a1 base.length k1,base,.slice a2 tent.length k2,tent,.slice a3 undos.length k3,undos,.slice a4 now.length k4,now⟩) w _):=Out.of_below hB
 clear hB
 generalize nmRep ⟨.slice a0 done.length k0,done,.slice a1 base.length k1,base,.slice a2 tent.length k2,tent,.slice a3 undos.length k3,undos,.slice a4 now.length k4,now⟩=NR at *
 generalize mkRep c ⟨.slice a0 done.length k0,done,.slice a1 base.length k1,base,.slice a2 tent.length k2,tent,.slice a3 undos.length k3,undos,.slice a4 now.length k4,now⟩=MR at *
 generalize ((nmL nmTxn done:Nat):Int)=C0 at *
 generalize ((base.length * 2:Nat):Int)=C1 at *
 generalize ((nmL nmTxn tent:Nat):Int)=C2 at *
 generalize ((nmL nmUs undos:Nat):Int)=C3 at *
 generalize ((now.length * 2:Nat):Int)=C4 at *
 have p0:=B.cell 0 _ rfl
 go_enter Tryz.func15,Tryz.ntmps15
 go_wp2_with fail
 generalize w.alloc (.cells #[.slice a0 done.length k0,.slice a1 base.length k1,.slice a2 tent.length k2,.slice a3 undos.length k3,.slice a4 now.length k4] 32)=W at *
 clear p0
 refine (hm0 W o0).mono ?_
 rintro e w1 ⟨rfl,O0,u0⟩
 replace o1:=o1.out u0 d01
 replace o2:=o2.out u0 d02
 replace o3:=o3.out u0 d03
 replace o4:=o4.out u0 d04
 replace B:Blk w1 _ _ _:=(u0.block _ B.lt HB.out.1).trans B
 have HV:Hid (Out (repK.foot ⟨.slice a0 done.length k0,done,.slice a1 base.length k1,base,.slice a2 tent.length k2,tent,.slice a3 undos.length k3,undos,.slice a4 now.length k4,now⟩) w w1):=HU.out.trans (hF0.out u0)
 clear HU
 have HU:=HV
 clear HV hm0 o0 u0
 have q:=B.cell 1 _ rfl
 go_wp2_with fail
 clear q
 refine (hm1 w1 o1).mono ?_
 rintro e w2 ⟨rfl,O1,u1⟩
 replace O0:=O0.out u1 (by rw [e0];exact d10)
 replace o2:=o2.out u1 d12
 replace o3:=o3.out u1 d13
 replace o4:=o4.out u1 d14
 replace B:Blk w2 _ _ _:=(u1.block _ B.lt HB.out.2.1).trans B
 have HV:Hid (Out (repK.foot ⟨.slice a0 done.length k0,done,.slice a1 base.length k1,base,.slice a2 tent.length k2,tent,.slice a3 undos.length k3,undos,.slice a4 now.length k4,now⟩) w w2):=HU.out.trans (hF1.out u1)
 clear HU
 have HU:=HV
 clear HV hm1 o1 u1
 have q:=B.cell 2 _ rfl
 go_wp2_with fail
 clear q
 refine (hm2 w2 o2).mono ?_
 rintro e w3 ⟨rfl,O2,u2⟩
 replace O0:=O0.out u2 (by rw [e0];exact d20)
 replace O1:=O1.out u2 (by rw [e1];exact d21)
 replace o3:=o3.out u2 d23
 replace o4:=o4.out u2 d24
 replace B:Blk w3 _ _ _:=(u2.block _ B.lt HB.out.2.2.1).trans B
 have HV:Hid (Out (repK.foot ⟨.slice a0 done.length k0,done,.slice a1 base.length k1,base,.slice a2 tent.length k2,tent,.slice a3 undos.length k3,undos,.slice a4 now.length k4,now⟩) w w3):=HU.out.trans (hF2.out u2)
 clear HU
 have HU:=HV
 clear HV hm2 o2 u2
 have q:=B.cell 3 _ rfl
 go_wp2_with fail
 clear q
 refine (hm3 w3 o3).mono ?_
 rintro e w4 ⟨rfl,O3,u3⟩
 replace O0:=O0.out u3 (by rw [e0];exact d30)
 replace O1:=O1.out u3 (by rw [e1];exact d31)
 replace O2:=O2.out u3 (by rw [e2];exact d32)
 replace o4:=o4.out u3 d34
 replace B:Blk w4 _ _ _:=(u3.block _ B.lt HB.out.2.2.2).trans B
 have HV:Hid (Out (repK.foot ⟨.slice a0 done.length k0,done,.slice a1 base.length k1,base,.slice a2 tent.length k2,tent,.slice a3 undos.length k3,undos,.slice a4 now.length k4,now⟩) w w4):=HU.out.trans (hF3.out u3)
 clear HU
 have HU:=HV
 clear HV hm3 o3 u3
 have q:=B.cell 4 _ rfl
 go_wp2_with fail
 clear q
 refine (hm4 w4 o4).mono ?_
 rintro e w5 ⟨rfl,O4,u4⟩
 replace O0:=O0.out u4 (by rw [e0];exact d40)
 replace O1:=O1.out u4 (by rw [e1];exact d41)
 replace O2:=O2.out u4 (by rw [e2];exact d42)
 replace O3:=O3.out u4 (by rw [e3];exact d43)
 have HV:Hid (Out (repK.foot ⟨.slice a0 done.length k0,done,.slice a1 base.length k1,base,.slice a2 tent.length k2,tent,.slice a3 undos.length k3,undos,.slice a4 now.length k4,now⟩) w w5):=HU.out.trans (hF4.out u4)
 clear HU
 have HU:=HV
 clear HV hm4 o4 u4
 have R:=HR.out w5 O0 O1 O2 O3 O4
 clear B O0 O1 O2 O3 O4 HB HR hF0 hF1 hF2 hF3 hF4 e0 e1 e2 e3
 go_wp2
 go_ret
 exact ⟨by rw [HS.out];rfl,R,HU.out⟩

set_option maxHeartbeats 4000000 in
theorem heldReplica_k (p:RepQ) (c:Int) (w:World) (h:repK.rd w (mkRep c p)) (hl:RepQ.n p≤1048576) (h0:0≤c) (h1:c≤1000000000) :
  Calls Tryz.prog 63 #[.agg #[p.vd,p.vb,p.vt,p.vu,p.vn],.int .i64 c] w fun e w' => e=.returned (.int .i64 (c + (nmRep p:Int)))∧Below w.heap.size w w' := by
 obtain ⟨vd,done,vb,base,vt,tent,vu,undos,vn,now⟩:=p
 obtain ⟨o0,o1,o2,o3,o4⟩:txnK.At w vd (mkL mkTxn nmTxn (c) done)∧itemK.At w vb (mkItems (c + ((nmL nmTxn done:Nat):Int)) base)∧txnK.At w vt (mkL mkTxn nmTxn (c + ((nmL nmTxn done:Nat):Int) + ((base.length * 2:Nat):Int)) tent)∧ussK.At w vu (mkL mkUs nmUs (c + ((nmL nmTxn done:Nat):Int) + ((base.length * 2:Nat):Int) + ((nmL nmTxn tent:Nat):Int)) undos)∧itemK.At w vn (mkItems (c + ((nmL nmTxn done:Nat):Int) + ((base.length * 2:Nat):Int) + ((nmL nmTxn tent:Nat):Int) + ((nmL nmUs undos:Nat):Int)) now):=h
 dsimp only [RepQ.n] at hl
 have t0:=nmTx9_le done
 have t2:=nmTx9_le tent
 have t3:=nmUs9_le undos
 have hm0:=fun w h=>heldTxns_k vd done (c) w h (by omega) (by omega) (by omega)
 have hm1:=fun w h=>heldItems_k vb base (c + ((nmL nmTxn done:Nat):Int)) w h (by omega) (by omega) (by omega)
 have hm2:=fun w h=>heldTxns_k vt tent (c + ((nmL nmTxn done:Nat):Int) + ((base.length * 2:Nat):Int)) w h (by omega) (by omega) (by omega)
 have hm3:=fun w h=>heldUss_k vu undos (c + ((nmL nmTxn done:Nat):Int) + ((base.length * 2:Nat):Int) + ((nmL nmTxn tent:Nat):Int)) w h (by omega) (by omega) (by omega)
 have hm4:=fun w h=>heldItems_k vn now (c + ((nmL nmTxn done:Nat):Int) + ((base.length * 2:Nat):Int) + ((nmL nmTxn tent:Nat):Int) + ((nmL nmUs undos:Nat):Int)) w h (by omega) (by omega) (by omega)
 have HS:Hid ((c + ((nmL nmTxn done:Nat):Int) + ((base.length * 2:Nat):Int) + ((nmL nmTxn tent:Nat):Int) + ((nmL nmUs undos:Nat):Int) + ((now.length * 2:Nat):Int):Int)=c + (nmRep ⟨vd,done,vb,base,vt,tent,vu,undos,vn,now⟩:Int)):=show _=_ by dsimp only [nmRep];omega
 have g1:¬ c + ((nmL nmTxn done:Nat):Int) < 0:=by omega
 have g2:¬ c + ((nmL nmTxn done:Nat):Int) + ((base.length * 2:Nat):Int) < 0:=by omega
 have g3:¬ c + ((nmL nmTxn done:Nat):Int) + ((base.length * 2:Nat):Int) + ((nmL nmTxn tent:Nat):Int) < 0:=by omega
 have g4:¬ c + ((nmL nmTxn done:Nat):Int) + ((base.length * 2:Nat):Int) + ((nmL nmTxn tent:Nat):Int) + ((nmL nmUs undos:Nat):Int) < 0:=by omega
 have g5:¬ c + ((nmL nmTxn done:Nat):Int) + ((base.length * 2:Nat):Int) + ((nmL nmTxn tent:Nat):Int) + ((nmL nmUs undos:Nat):Int) + ((now.length * 2:Nat):Int) < 0:=by omega
 obtain ⟨a0,k0,rfl⟩:=o0.shape
 obtain ⟨a1,k1,rfl⟩:=o1.shape
 obtain ⟨a2,k2,rfl⟩:=o2.shape
 obtain ⟨a3,k3,rfl⟩:=o3.shape
 obtain ⟨a4,k4,rfl⟩:=o4.shape
 generalize hL0:(mkL mkTxn nmTxn (c) done).length=L0 at *
 generalize hL1:(mkItems (c + ((nmL nmTxn done:Nat):Int)) base).length=L1 at *
 generalize hL2:(mkL mkTxn nmTxn (c + ((nmL nmTxn done:Nat):Int) + ((base.length * 2:Nat):Int)) tent).length=L2 at *
 generalize hL3:(mkL mkUs nmUs (c + ((nmL nmTxn done:Nat):Int) + ((base.length * 2:Nat):Int) + ((nmL nmTxn tent:Nat):Int)) undos).length=L3 at *
 generalize hL4:(mkItems (c + ((nmL nmTxn done:Nat):Int) + ((base.length * 2:Nat):Int) + ((nmL nmTxn tent:Nat):Int) + ((nmL nmUs undos:Nat):Int)) now).length=L4 at *
 generalize mkL mkTxn nmTxn (c) done=M0 at *
 generalize mkItems (c + ((nmL nmTxn done:Nat):Int)) base=M1 at *
 generalize mkL mkTxn nmTxn (c + ((nmL nmTxn done:Nat):Int) + ((base.length * 2:Nat):Int)) tent=M2 at *
 generalize mkL mkUs nmUs (c + ((nmL nmTxn done:Nat):Int) + ((base.length * 2:Nat):Int) + ((nmL nmTxn tent:Nat):Int)) undos=M3 at *
 generalize mkItems (c + ((nmL nmTxn done:Nat):Int) + ((base.length * 2:Nat):Int) + ((nmL nmTxn tent:Nat):Int) + ((nmL nmUs undos:Nat):Int)) now=M4 at *
 clear hL0 hL1 hL2 hL3 hL4 t0 t2 t3
 generalize ((nmL nmTxn done:Nat):Int)=C0 at *
 generalize ((base.length * 2:Nat):Int)=C1 at *
 generalize ((nmL nmTxn tent:Nat):Int)=C2 at *
 generalize ((nmL nmUs undos:Nat):Int)=C3 at *
 generalize ((now.length * 2:Nat):Int)=C4 at *
 generalize nmRep _=NR at *
 have B:=Blk.new w 32 #[.slice a0 L0 k0,.slice a1 L1 k1,.slice a2 L2 k2,.slice a3 L3 k3,.slice a4 L4 k4]
 have hB:Below w.heap.size w (w.alloc (.cells #[.slice a0 L0 k0,.slice a1 L1 k1,.slice a2 L2 k2,.slice a3 L3 k3,.slice a4 L4 k4] 32)):=by go_grown
 have p0:=B.cell 0 _ rfl
 go_enter Tryz.func63,Tryz.ntmps63
 go_wp2_with fail
 generalize w.alloc (.cells #[.slice a0 L0 k0,.slice a1 L1 k1,.slice a2 L2 k2,.slice a3 L3 k3,.slice a4 L4 k4] 32)=W at *
 clear p0
 refine (hm0 W (o0.below hB)).mono ?_
 rintro e w1 ⟨rfl,hb⟩
 replace B:=B.below hb
 replace hB:=hB.trans (hb.mono hB.size)
 clear hm0 hb
 have q:=B.cell 1 _ rfl
 go_wp2_with fail
 clear q
 refine (hm1 w1 (o1.below hB)).mono ?_
 rintro e w2 ⟨rfl,hb⟩
 replace B:=B.below hb
 replace hB:=hB.trans (hb.mono hB.size)
 clear hm1 hb
 have q:=B.cell 2 _ rfl
 go_wp2_with fail
 clear q
 refine (hm2 w2 (o2.below hB)).mono ?_
 rintro e w3 ⟨rfl,hb⟩
 replace B:=B.below hb
 replace hB:=hB.trans (hb.mono hB.size)
 clear hm2 hb
 have q:=B.cell 3 _ rfl
 go_wp2_with fail
 clear q
 refine (hm3 w3 (o3.below hB)).mono ?_
 rintro e w4 ⟨rfl,hb⟩
 replace B:=B.below hb
 replace hB:=hB.trans (hb.mono hB.size)
 clear hm3 hb
 have q:=B.cell 4 _ rfl
 go_wp2_with fail
 clear q
 refine (hm4 w4 (o4.below hB)).mono ?_
 rintro e w5 ⟨rfl,hb⟩
 replace B:=B.below hb
 replace hB:=hB.trans (hb.mono hB.size)
 clear hm4 hb
 clear B
 go_wp2
 go_ret
 exact ⟨by rw [HS.out];rfl,hB⟩

theorem heldShape {p:RepQ} {c:Int} {w:World} (h:repK.rd w (mkRep c p)):(∃ a l k,p.vd=.slice a l k)∧(∃ a l k,p.vb=.slice a l k)∧(∃ a l k,p.vt=.slice a l k)∧(∃ a l k,p.vu=.slice a l k)∧(∃ a l k,p.vn=.slice a l k):=by
 obtain ⟨vd,done,vb,base,vt,tent,vu,undos,vn,now⟩:=p
 obtain ⟨h0,h1,h2,h3,h4⟩:=h
 obtain ⟨a0,k0,e0⟩:=h0.shape
 obtain ⟨a1,k1,e1⟩:=h1.shape
 obtain ⟨a2,k2,e2⟩:=h2.shape
 obtain ⟨a3,k3,e3⟩:=h3.shape
 obtain ⟨a4,k4,e4⟩:=h4.shape
 exact ⟨⟨_,_,_,e0⟩,⟨_,_,_,e1⟩,⟨_,_,_,e2⟩,⟨_,_,_,e3⟩,⟨_,_,_,e4⟩⟩

set_option maxHeartbeats 2000000 in
theorem markRR_k (co an va:Int) (p:RepQ) (c:Int) (w:World) (h:repK.own w p) (hnd:(repK.foot p).Nodup) (hl:RepQ.n p≤1048576) (h0:0≤c) (h1:c≤1000000000) :
  Calls Tryz.prog 16 #[.agg #[.int .i64 co,.int .i64 an,.int .i64 va,p.vd,p.vb,p.vt,p.vu,p.vn],.int .i64 c] w fun e w' => e=.returned (.int .i64 (c + (nmRep p:Int)))∧repK.own w' (mkRep c p)∧Out (repK.foot p) w w' := by
 have hm:=fun w h=>markReplica_k p c w h hnd hl h0 h1
 have hr:=fun (w' : World) (hb:Below w.heap.size w w')=>repK.own_out (F:=[]) (w' := w') h (Out.of_below hb) (fun _ _=>by simp)
 generalize mkRep c p=M at *
 generalize nmRep p=NR at *
 generalize repK.foot p=FT at *
 obtain ⟨vd,done,vb,base,vt,tent,vu,undos,vn,now⟩:=p
 obtain ⟨a0,k0,rfl⟩:∃ a c,vd=.slice a done.length c:=h.1.shape
 obtain ⟨a1,k1,rfl⟩:∃ a c,vb=.slice a base.length c:=h.2.1.shape
 obtain ⟨a2,k2,rfl⟩:∃ a c,vt=.slice a tent.length c:=h.2.2.1.shape
 obtain ⟨a3,k3,rfl⟩:∃ a c,vu=.slice a undos.length c:=h.2.2.2.1.shape
 obtain ⟨a4,k4,rfl⟩:∃ a c,vn=.slice a now.length c:=h.2.2.2.2.shape
 dsimp only at hm
 have hB:Below w.heap.size w (w.alloc (.cells #[.int .i64 co,.int .i64 an,.int .i64 va,.slice a0 done.length k0,.slice a1 base.length k1,.slice a2 tent.length k2,.slice a3 undos.length k3,.slice a4 now.length k4] 34)):=by go_grown
 have B:=Blk.new w 34 #[.int .i64 co,.int .i64 an,.int .i64 va,.slice a0 done.length k0,.slice a1 base.length k1,.slice a2 tent.length k2,.slice a3 undos.length k3,.slice a4 now.length k4]
 have q0:=B.cell 0 _ rfl
 have q1:=B.cell 1 _ rfl
 have q2:=B.cell 2 _ rfl
 have q3:=B.cell 3 _ rfl
 have q4:=B.cell 4 _ rfl
 have q5:=B.cell 5 _ rfl
 have q6:=B.cell 6 _ rfl
 have q7:=B.cell 7 _ rfl
 go_enter Tryz.func16,Tryz.ntmps16
 go_wp2_with fail
 clear q0 q1 q2 q3 q4 q5 q6 q7 B
 have hr0:=hr _ hB
 generalize w.alloc (.cells #[.int .i64 co,.int .i64 an,.int .i64 va,.slice a0 done.length k0,.slice a1 base.length k1,.slice a2 tent.length k2,.slice a3 undos.length k3,.slice a4 now.length k4] 34)=W at *
 refine (hm W hr0).mono ?_
 rintro e w1 ⟨rfl,O,u⟩
 go_wp2
 go_ret
 exact ⟨rfl,O,(Out.of_below hB).trans u⟩

set_option maxHeartbeats 2000000 in
theorem heldRR_k (co an va:Int) (p:RepQ) (c:Int) (w:World) (h:repK.rd w (mkRep c p)) (hl:RepQ.n p≤1048576) (h0:0≤c) (h1:c≤1000000000) :
  Calls Tryz.prog 17 #[.agg #[.int .i64 co,.int .i64 an,.int .i64 va,p.vd,p.vb,p.vt,p.vu,p.vn],.int .i64 c] w fun e w' => e=.returned (.int .i64 (c + (nmRep p:Int)))∧Below w.heap.size w w' := by
 have hm:=fun w h=>heldReplica_k p c w h hl h0 h1
 have hr:=fun (w' : World) hb=>repK.rd_below (w' := w') h hb
 have hs:=heldShape h
 generalize mkRep c p=M at *
 generalize nmRep p=NR at *
 clear hl
 obtain ⟨vd,done,vb,base,vt,tent,vu,undos,vn,now⟩:=p
 obtain ⟨⟨a0,l0,k0,rfl⟩,⟨a1,l1,k1,rfl⟩,⟨a2,l2,k2,rfl⟩,⟨a3,l3,k3,rfl⟩,⟨a4,l4,k4,rfl⟩⟩:=hs
 dsimp only at hm
 have hB:Below w.heap.size w (w.alloc (.cells #[.int .i64 co,.int .i64 an,.int .i64 va,.slice a0 l0 k0,.slice a1 l1 k1,.slice a2 l2 k2,.slice a3 l3 k3,.slice a4 l4 k4] 34)):=by go_grown
 have B:=Blk.new w 34 #[.int .i64 co,.int .i64 an,.int .i64 va,.slice a0 l0 k0,.slice a1 l1 k1,.slice a2 l2 k2,.slice a3 l3 k3,.slice a4 l4 k4]
 have q0:=B.cell 0 _ rfl
 have q1:=B.cell 1 _ rfl
 have q2:=B.cell 2 _ rfl
 have q3:=B.cell 3 _ rfl
 have q4:=B.cell 4 _ rfl
 have q5:=B.cell 5 _ rfl
 have q6:=B.cell 6 _ rfl
 have q7:=B.cell 7 _ rfl
 have hg:¬ c + (NR:Int) < 0:=by omega
 go_enter Tryz.func17,Tryz.ntmps17
 go_wp2_with fail
 clear q0 q1 q2 q3 q4 q5 q6 q7 B
 have hr0:=hr _ hB
 generalize w.alloc (.cells #[.int .i64 co,.int .i64 an,.int .i64 va,.slice a0 l0 k0,.slice a1 l1 k1,.slice a2 l2 k2,.slice a3 l3 k3,.slice a4 l4 k4] 34)=W at *
 refine (hm W hr0).mono ?_
 rintro e w1 ⟨rfl,hb⟩
 replace hB:=hB.trans (hb.mono hB.size)
 go_wp2
 go_ret
 exact ⟨rfl,hB⟩

set_option maxHeartbeats 2000000 in
theorem eqRR_k (co an va:Int) (p p' : RepQ) (w:World) (h:repK.rd w p) (h' : repK.rd w p') (he:p.e=p'.e) (hl:RepQ.n p≤1048576) :
  Calls Tryz.prog 13 #[.agg #[.int .i64 co,.int .i64 an,.int .i64 va,p.vd,p.vb,p.vt,p.vu,p.vn],.agg #[.int .i64 co,.int .i64 an,.int .i64 va,p'.vd,p'.vb,p'.vt,p'.vu,p'.vn]] w fun e w' => e=.returned (.bool true)∧Below w.heap.size w w' := by
 have hm:=fun w h h' => eqReplica_k p p' w h h' he hl
 have hr:=fun (w' : World) hb=>repK.rd_below (w' := w') h hb
 have hr' := fun (w' : World) hb=>repK.rd_below (w' := w') h' hb
 obtain ⟨vd,done,vb,base,vt,tent,vu,undos,vn,now⟩:=p
 obtain ⟨a0,k0,rfl⟩:∃ a c,vd=.slice a done.length c:=h.1.shape
 obtain ⟨a1,k1,rfl⟩:∃ a c,vb=.slice a base.length c:=h.2.1.shape
 obtain ⟨a2,k2,rfl⟩:∃ a c,vt=.slice a tent.length c:=h.2.2.1.shape
 obtain ⟨a3,k3,rfl⟩:∃ a c,vu=.slice a undos.length c:=h.2.2.2.1.shape
 obtain ⟨a4,k4,rfl⟩:∃ a c,vn=.slice a now.length c:=h.2.2.2.2.shape
 obtain ⟨vd',done',vb',base',vt',tent',vu',undos',vn',now'⟩:=p'
 obtain ⟨a0',k0',rfl⟩:∃ a c,vd' = .slice a done'.length c:=h'.1.shape
 obtain ⟨a1',k1',rfl⟩:∃ a c,vb' = .slice a base'.length c:=h'.2.1.shape
 obtain ⟨a2',k2',rfl⟩:∃ a c,vt' = .slice a tent'.length c:=h'.2.2.1.shape
 obtain ⟨a3',k3',rfl⟩:∃ a c,vu' = .slice a undos'.length c:=h'.2.2.2.1.shape
 obtain ⟨a4',k4',rfl⟩:∃ a c,vn' = .slice a now'.length c:=h'.2.2.2.2.shape
 dsimp only at hm
 clear he hl
 have hB:Below w.heap.size w ((w.alloc (.cells #[.int .i64 co,.int .i64 an,.int .i64 va,.slice a0 done.length k0,.slice a1 base.length k1,.slice a2 tent.length k2,.slice a3 undos.length k3,.slice a4 now.length k4] 34)).alloc (.cells #[.int .i64 co,.int .i64 an,.int .i64 va,.slice a0' done'.length k0',.slice a1' base'.length k1',.slice a2' tent'.length k2',.slice a3' undos'.length k3',.slice a4' now'.length k4'] 34)):=by go_grown
 have B:=(Blk.new w 34 #[.int .i64 co,.int .i64 an,.int .i64 va,.slice a0 done.length k0,.slice a1 base.length k1,.slice a2 tent.length k2,.slice a3 undos.length k3,.slice a4 now.length k4]).below (show Below (w.alloc (.cells #[.int .i64 co,.int .i64 an,.int .i64 va,.slice a0 done.length k0,.slice a1 base.length k1,.slice a2 tent.length k2,.slice a3 undos.length k3,.slice a4 now.length k4] 34)).heap.size (w.alloc (.cells #[.int .i64 co,.int .i64 an,.int .i64 va,.slice a0 done.length k0,.slice a1 base.length k1,.slice a2 tent.length k2,.slice a3 undos.length k3,.slice a4 now.length k4] 34)) ((w.alloc (.cells #[.int .i64 co,.int .i64 an,.int .i64 va,.slice a0 done.length k0,.slice a1 base.length k1,.slice a2 tent.length k2,.slice a3 undos.length k3,.slice a4 now.length k4] 34)).alloc (.cells #[.int .i64 co,.int .i64 an,.int .i64 va,.slice a0' done'.length k0',.slice a1' base'.length k1',.slice a2' tent'.length k2',.slice a3' undos'.length k3',.slice a4' now'.length k4'] 34)) by go_grown)
 have B' := Blk.new (w.alloc (.cells #[.int .i64 co,.int .i64 an,.int .i64 va,.slice a0 done.length k0,.slice a1 base.length k1,.slice a2 tent.length k2,.slice a3 undos.length k3,.slice a4 now.length k4] 34)) 34 #[.int .i64 co,.int .i64 an,.int .i64 va,.slice a0' done'.length k0',.slice a1' base'.length k1',.slice a2' tent'.length k2',.slice a3' undos'.length k3',.slice a4' now'.length k4']
 simp only [World.size_alloc] at B'
 have q0:=B.cell 0 _ rfl
 have q1:=B.cell 1 _ rfl
 have q2:=B.cell 2 _ rfl
 have q3:=B.cell 3 _ rfl
 have q4:=B.cell 4 _ rfl
 have q5:=B.cell 5 _ rfl
 have q6:=B.cell 6 _ rfl
 have q7:=B.cell 7 _ rfl
 have s0:=B'.cell 0 _ rfl
 have s1:=B'.cell 1 _ rfl
 have s2:=B'.cell 2 _ rfl
 have s3:=B'.cell 3 _ rfl
 have s4:=B'.cell 4 _ rfl
 have s5:=B'.cell 5 _ rfl
 have s6:=B'.cell 6 _ rfl
 have s7:=B'.cell 7 _ rfl
 have n1:(co != co)=false:=by simp
 have n2:(an != an)=false:=by simp
 have n3:(va != va)=false:=by simp
 go_enter Tryz.func13,Tryz.ntmps13
 go_wp2_with fail
 clear q0 s0 q1 s1 q2 s2 q3 s3 q4 s4 q5 s5 q6 s6 q7 s7 B B'
 have hr0:=hr _ hB
 have hr0' := hr' _ hB
 generalize ((w.alloc (.cells #[.int .i64 co,.int .i64 an,.int .i64 va,.slice a0 done.length k0,.slice a1 base.length k1,.slice a2 tent.length k2,.slice a3 undos.length k3,.slice a4 now.length k4] 34)).alloc (.cells #[.int .i64 co,.int .i64 an,.int .i64 va,.slice a0' done'.length k0',.slice a1' base'.length k1',.slice a2' tent'.length k2',.slice a3' undos'.length k3',.slice a4' now'.length k4'] 34))=W at *
 refine (hm W hr0 hr0').mono ?_
 rintro e w3 ⟨rfl,hb⟩
 replace hB:=hB.trans (hb.mono hB.size)
 go_wp2
 go_ret
 exact ⟨rfl,hB⟩

end Go.Proofs.YtfdkcbafpiojkaaGreatDoor
namespace Go.Proofs.YtfdkcbafpiojkaaGreatDoor
open Go.RowKit
set_option maxRecDepth 100000
theorem uss_n {ps qs:List USQ} (h:ps.map USQ.e=qs.map USQ.e):ps.length + nmL USQ.n ps=qs.length + nmL USQ.n qs:=by
 have e:∀ l:List USQ,nmL USQ.n l=nmL List.length (l.map USQ.e):=fun l=>by simp only [nmL,List.map_map];rfl
 have hl:ps.length=qs.length:=by simpa using congrArg List.length h
 rw [e,e,h,hl]

theorem txq_n {ps qs:List TxnQ} (h:ps.map TxnQ.e=qs.map TxnQ.e):ps.length + nmL TxnQ.n ps=qs.length + nmL TxnQ.n qs:=by
 have e:∀ l:List TxnQ,nmL TxnQ.n l=nmL TxnD.n (l.map TxnQ.e):=fun l=>by simp only [nmL,List.map_map];rfl
 have hl:ps.length=qs.length:=by simpa using congrArg List.length h
 rw [e,e,h,hl]

theorem rep_n {p q:RepQ} (h:p.e=q.e):p.n=q.n:=by
 simp only [RepQ.e,RepE.mk.injEq] at h
 obtain ⟨h0,h1,h2,h3,h4⟩:=h
 simp only [RepQ.n]
 have a0:=txq_n h0
 have a2:=txq_n h2
 have a3:=uss_n h3
 rw [h1,h4]
 omega

end Go.Proofs.YtfdkcbafpiojkaaGreatDoor
namespace Go.Proofs.YtfdkcbafpiojkaaGreatDoor
open Go.RowKit Go.Deep Go.ChangeShapes Go.WideShapes
set_option maxRecDepth 100000
section
variable {H:Type} {enc:TypeId × Value→H} {w:World} {base:Nat} {spare:Nat→Bool} {held:Bool}
theorem trod_struct5 {P:Program} {t:TypeId} {f0 f1 f2 f3 f4:Field} {fuel:Nat} {cs:List Value} {x:DataW H × List MemPlace} (ht:P.underlying t=some (.struct #[f0,f1,f2,f3,f4])) (h:DataW.trod enc P w base spare held fuel t cs=some x) :
  ∃ y0 y1 y2 y3 y4 n,cs.length=P.cellsOf t∧DataW.trod enc P w base spare held n f0.type ((cs.drop f0.offset).take (P.cellsOf f0.type))=some y0 ∧
   DataW.trod enc P w base spare held n f1.type ((cs.drop f1.offset).take (P.cellsOf f1.type))=some y1∧DataW.trod enc P w base spare held n f2.type ((cs.drop f2.offset).take (P.cellsOf f2.type))=some y2 ∧
   DataW.trod enc P w base spare held n f3.type ((cs.drop f3.offset).take (P.cellsOf f3.type))=some y3∧DataW.trod enc P w base spare held n f4.type ((cs.drop f4.offset).take (P.cellsOf f4.type))=some y4:=by
 obtain ⟨xs,n,_,rfl,hl,hlen,hf⟩:=DataW.trod_struct ht h
 match xs,hlen with
 | [y0,y1,y2,y3,y4],_=>exact ⟨y0,y1,y2,y3,y4,n,hl,by simpa using hf 0 f0 rfl,by simpa using hf 1 f1 rfl,by simpa using hf 2 f2 rfl,by simpa using hf 3 f3 rfl,by simpa using hf 4 f4 rfl⟩

/-- A slice of whatever elements that are opened one by one. -/
theorem open_kind {P:Type} (K:Kind P) (q:P→Prop) {t e:TypeId} {fuel:Nat} {cs:List Value} {x:DataW H × List MemPlace} (ht:Tryz.prog.underlying t=some (.slice e)) (hc:Tryz.prog.cellsOf e=K.size) (hc0:0 < K.size)
  (hel:∀ (n:Nat) (l:List Value) y,DataW.trod enc Tryz.prog w base spare held n e l=some y→∃ p:P,l=K.cells p∧K.rd w p∧q p) (h:DataW.trod enc Tryz.prog w base spare held fuel t cs=some x) :
  ∃ (v:Value) (ps:List P),cs=[v]∧K.At w v ps∧ps.length≤9223372036854775807∧∀ p∈ps,q p:=by
 obtain ⟨a,cap,n,css,rfl,hl,hL,hcs⟩:=open_row ht hc hc0 h
 obtain ⟨ps,rfl,hq⟩:=list_pre2 K.cells (fun p=>K.rd w p∧q p) css (fun l hl=>by
  obtain ⟨_,y,hy⟩:=hcs l hl
  obtain ⟨p,h1,h2,h3⟩:=hel n l y hy
  exact ⟨p,h1,h2,h3⟩)
 rw [← List.flatMap_def] at hL
 refine ⟨.slice a (ps.map K.cells).length cap,ps,rfl,⟨a,cap,by rw [List.length_map],hL,fun p hp=>(hq p hp).1⟩,by simpa using hl,fun p hp=>(hq p hp).2⟩

set_option maxRecDepth 100000 in
theorem open_item {fuel:Nat} {cs:List Value} {x:DataW H × List MemPlace} (h:DataW.trod enc Tryz.prog w base spare held fuel 175 cs=some x):∃ z:ItemD,cs=z.cells:=by
 obtain ⟨y0,y1,n,_,hl,h0,h1⟩:=trod_struct2 Tryz.underlying175 h
 rw [show Tryz.prog.cellsOf 175=2 by kernel_rfl] at hl
 have e:Tryz.prog.cellsOf 2=1:=by kernel_rfl
 match cs,hl with
 | [c0,c1],_=>
  simp only [e,List.drop_zero,List.drop_succ_cons,List.take_succ_cons,List.take_zero] at h0 h1
  obtain ⟨k,e0,_⟩:=DataW.trod_int Tryz.underlying2 h0
  obtain ⟨y,e1,_⟩:=DataW.trod_int Tryz.underlying2 h1
  simp only [List.cons.injEq,and_true] at e0 e1
  exact ⟨⟨k,y⟩,by rw [e0,e1];rfl⟩

set_option maxRecDepth 100000 in
theorem open_undo {fuel:Nat} {cs:List Value} {x:DataW H × List MemPlace} (h:DataW.trod enc Tryz.prog w base spare held fuel 225 cs=some x):∃ z:UndoD,cs=z.cells:=by
 obtain ⟨y0,y1,y2,n,_,hl,h0,h1,h2⟩:=trod_struct3 Tryz.underlying225 h
 rw [show Tryz.prog.cellsOf 225=3 by kernel_rfl] at hl
 have e:Tryz.prog.cellsOf 2=1:=by kernel_rfl
 have e' : Tryz.prog.cellsOf 4=1:=by kernel_rfl
 match cs,hl with
 | [c0,c1,c2],_=>
  simp only [e,e',List.drop_zero,List.drop_succ_cons,List.take_succ_cons,List.take_zero] at h0 h1 h2
  obtain ⟨k,e0,_⟩:=DataW.trod_int Tryz.underlying2 h0
  obtain ⟨y,e1,_⟩:=DataW.trod_bool Tryz.underlying4 h1
  obtain ⟨v,e2,_⟩:=DataW.trod_int Tryz.underlying2 h2
  simp only [List.cons.injEq,and_true] at e0 e1 e2
  exact ⟨⟨k,y,v⟩,by rw [e0,e1,e2];rfl⟩

theorem open_txnK (n:Nat) (l:List Value) (y:DataW H × List MemPlace) (h:DataW.trod enc Tryz.prog w base spare held n 44 l=some y):∃ p:TxnQ,l=txnK.cells p∧txnK.rd w p∧TxnQ.wf p:=by
 obtain ⟨i,s,q,a,cap,zs,e,hz,hA⟩:=open_txnCells h
 exact ⟨⟨i,s,q,.slice a zs.length cap,zs⟩,e,actK_mk hA,hz⟩

theorem open_txnsK {fuel:Nat} {cs:List Value} {x:DataW H × List MemPlace} (h:DataW.trod enc Tryz.prog w base spare held fuel 22 cs=some x) :
  ∃ (v:Value) (ps:List TxnQ),cs=[v]∧txnK.At w v ps∧ps.length≤9223372036854775807∧∀ p∈ps,TxnQ.wf p:=
 open_kind txnK TxnQ.wf Tryz.underlying22 (by kernel_rfl) (by decide) open_txnK h

theorem open_itemK (n:Nat) (l:List Value) (y:DataW H × List MemPlace) (h:DataW.trod enc Tryz.prog w base spare held n 175 l=some y):∃ p:ItemD,l=itemK.cells p∧itemK.rd w p∧True:=by
 obtain ⟨z,e⟩:=open_item h
 exact ⟨z,e,trivial,trivial⟩

theorem open_itemsK {fuel:Nat} {cs:List Value} {x:DataW H × List MemPlace} (h:DataW.trod enc Tryz.prog w base spare held fuel 23 cs=some x) :
  ∃ (v:Value) (zs:List ItemD),cs=[v]∧itemK.At w v zs∧zs.length≤9223372036854775807:=by
 obtain ⟨v,ps,h1,h2,h3,_⟩:=open_kind itemK (fun _=>True) Tryz.underlying23 (by kernel_rfl) (by decide) open_itemK h
 exact ⟨v,ps,h1,h2,h3⟩

theorem open_undoK (n:Nat) (l:List Value) (y:DataW H × List MemPlace) (h:DataW.trod enc Tryz.prog w base spare held n 225 l=some y):∃ p:UndoD,l=undoK.cells p∧undoK.rd w p∧True:=by
 obtain ⟨z,e⟩:=open_undo h
 exact ⟨z,e,trivial,trivial⟩

theorem open_undosK (n:Nat) (l:List Value) (y:DataW H × List MemPlace) (h:DataW.trod enc Tryz.prog w base spare held n 170 l=some y):∃ p:USQ,l=ussK.cells p∧ussK.rd w p∧USQ.wf p:=by
 obtain ⟨v,ps,h1,h2,h3,_⟩:=open_kind undoK (fun _=>True) Tryz.underlying170 (by kernel_rfl) (by decide) open_undoK h
 exact ⟨⟨v,ps⟩,h1,h2,h3⟩

theorem open_ussK {fuel:Nat} {cs:List Value} {x:DataW H × List MemPlace} (h:DataW.trod enc Tryz.prog w base spare held fuel 24 cs=some x) :
  ∃ (v:Value) (ps:List USQ),cs=[v]∧ussK.At w v ps∧ps.length≤9223372036854775807∧∀ p∈ps,USQ.wf p:=
 open_kind ussK USQ.wf Tryz.underlying24 (by kernel_rfl) (by decide) open_undosK h

theorem open_repCells {fuel:Nat} {cs:List Value} {x:DataW H × List MemPlace} (h:DataW.trod enc Tryz.prog w base spare held fuel 26 cs=some x) :
  ∃ p:RepQ,cs=[p.vd,p.vb,p.vt,p.vu,p.vn]∧repK.rd w p∧p.wf:=by
 obtain ⟨y0,y1,y2,y3,y4,n,hl,h0,h1,h2,h3,h4⟩:=trod_struct5 Tryz.underlying26 h
 rw [show Tryz.prog.cellsOf 26=5 by kernel_rfl] at hl
 have e:Tryz.prog.cellsOf 22=1:=by kernel_rfl
 have e' : Tryz.prog.cellsOf 23=1:=by kernel_rfl
 have e2:Tryz.prog.cellsOf 24=1:=by kernel_rfl
 match cs,hl with
 | [c0,c1,c2,c3,c4],_=>
  simp only [e,e',e2,List.drop_zero,List.drop_succ_cons,List.take_succ_cons,List.take_zero] at h0 h1 h2 h3 h4
  obtain ⟨v0,z0,e0,a0,l0,w0⟩:=open_txnsK h0
  obtain ⟨v1,z1,e1,a1,l1⟩:=open_itemsK h1
  obtain ⟨v2,z2,e2,a2,l2,w2⟩:=open_txnsK h2
  obtain ⟨v3,z3,e3,a3,l3,w3⟩:=open_ussK h3
  obtain ⟨v4,z4,e4,a4,l4⟩:=open_itemsK h4
  simp only [List.cons.injEq,and_true] at e0 e1 e2 e3 e4
  exact ⟨⟨v0,z0,v1,z1,v2,z2,v3,z3,v4,z4⟩,by rw [e0,e1,e2,e3,e4],⟨a0,a1,a2,a3,a4⟩,⟨⟨l0,w0⟩,l1,⟨l2,w2⟩,⟨l3,w3⟩,l4⟩⟩

theorem open_rep {r:Reach} {b0:Nat} {v:Value} {d:DataW H} {p:List MemPlace} (hv:Value.okWide Tryz.prog w r b0 26 v) (h:DataW.Trod enc Tryz.prog w base spare held 26 v d p) :
  ∃ q:RepQ,v=.agg #[q.vd,q.vb,q.vt,q.vu,q.vn]∧repK.rd w q∧q.wf:=by
 obtain ⟨cs,rfl,hsz⟩:=okWide_struct Tryz.underlying26 hv
 obtain ⟨fuel,hf⟩:=h
 obtain ⟨q,e,h1,h2⟩:=open_repCells hf
 refine ⟨q,?_,h1,h2⟩
 congr 1
 apply Array.ext'
 simpa [Value.cells] using e

theorem open_txnsV {r:Reach} {b0:Nat} {v:Value} {d:DataW H} {p:List MemPlace} (hv:Value.okWide Tryz.prog w r b0 22 v) (h:DataW.Trod enc Tryz.prog w base spare held 22 v d p) :
  ∃ ps:List TxnQ,txnK.At w v ps∧ps.length≤9223372036854775807∧∀ p∈ps,TxnQ.wf p:=by
 obtain ⟨a0,len0,cap0,rfl⟩:=okWide_slice Tryz.underlying22 hv
 obtain ⟨fuel,hf⟩:=h
 obtain ⟨v,ps,e,h1,h2,h3⟩:=open_txnsK hf
 simp [Value.cells] at e
 rw [← e] at h1
 exact ⟨ps,h1,h2,h3⟩

end
end Go.Proofs.YtfdkcbafpiojkaaGreatDoor
namespace Go.Proofs.YtfdkcbafpiojkaaGreatDoor
open Go.RowKit Go.Deep Go.ChangeShapes Go.WideShapes
set_option maxRecDepth 100000
set_option maxRecDepth 100000
section
variable {H:Type} {enc:TypeId × Value→H} {w:World} {base:Nat} {spare:Nat→Bool} {held:Bool}
/-- A slice of whatever elements that are opened one by one. -/
theorem open_txnV {r:Reach} {b0:Nat} {v:Value} {d:DataW H} {p:List MemPlace} (hv:Value.okWide Tryz.prog w r b0 44 v) (h:DataW.Trod enc Tryz.prog w base spare held 44 v d p) :
  ∃ q:TxnQ,v=.agg #[.int .i64 q.i,.int .i64 q.s,.int .i64 q.q,q.va]∧txnK.rd w q∧TxnQ.wf q:=by
 obtain ⟨cs,rfl,hsz⟩:=okWide_struct Tryz.underlying44 hv
 obtain ⟨fuel,hf⟩:=h
 obtain ⟨q,e,h1,h2⟩:=open_txnK _ _ _ hf
 refine ⟨q,?_,h1,h2⟩
 congr 1
 apply Array.ext'
 have e' : cs.toList=txnK.cells q:=by simpa [Value.cells] using e
 exact e'

end
end Go.Proofs.YtfdkcbafpiojkaaGreatDoor
