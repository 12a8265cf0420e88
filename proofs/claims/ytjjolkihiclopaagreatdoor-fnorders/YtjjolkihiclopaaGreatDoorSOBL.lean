/- Texts joined, with what the law reaches alone. -/
import Derived.Test.YtjjolkihiclopaaGreatDoorSOBK
import Derived.Test.YtjjolkihiclopaaGreatDoorSOAM
import Derived.Test.YtjjolkihiclopaaGreatDoorSOAX
import Derived.Test.YtjjolkihiclopaaGreatDoorSOBE
import Derived.Test.YtjjolkihiclopaaGreatDoorSOBC
set_option linter.unusedVariables false
set_option linter.unusedSimpArgs false
namespace Go.Proofs.YtjjolkihiclopaaGreatDoor
open Go.RowKit
open Go.BigFrame
set_option maxRecDepth 100000
def TxnP.qk (p:TxnP):TxnQ:=⟨p.d.id,p.d.session,p.d.seq,p.sl,p.d.acts⟩

theorem row_qk (ps:List TxnP):txnK.row (ps.map TxnP.qk)=txnCells ps:=by
 induction ps with
 | nil=>rfl
 | cons p r ih=>
  show txnK.cells p.qk ++ txnK.row (r.map TxnP.qk)=p.cells ++ txnCells r
  rw [ih]
  rfl

theorem TxnRow.cap {base:Nat} {w:World} {v:Value} {ps:List TxnP} (h:TxnRow base w v ps):CapOk v:=by
 rcases h.1.2 with ⟨rfl,_⟩ | ⟨g,c,cur,rfl,_,_,h1,h2,_⟩
 ·exact ⟨Nat.le_refl _,by decide⟩
 ·exact ⟨h1,h2⟩

theorem TxnRow.ownK {base:Nat} {w:World} {v:Value} {ps:List TxnP} (h:TxnRow base w v ps):txnK.Own w v (ps.map TxnP.qk):=by
 refine ⟨?_,fun q hq=>?_⟩
 ·rw [List.length_map,row_qk]
  exact own_base h.1 (Nat.zero_le _)
 ·obtain ⟨p,hp,rfl⟩:=List.mem_map.1 hq
  exact ⟨own_base (h.2.1 p hp).1 (Nat.zero_le _),fun _ _=>trivial⟩

theorem TxnRow.lowfp {base:Nat} {w:World} {v:Value} {ps:List TxnP} (h:TxnRow base w v ps):∀ k∈txnK.fp v (ps.map TxnP.qk),base≤k:=by
 have key:∀ (e s n:Nat) (u:Value) (xs:List Value),w.ownsRow base e s u n xs→∀ k∈blk u,base≤k:=by
  intro e s n u xs hu k hk
  unfold blk at hk
  cases hb:u.ownBlock with
  | none=>rw [hb] at hk;simp at hk
  | some x=>
   rw [hb] at hk
   simp at hk
   rw [hk]
   exact (hu.lt x hb).1
 intro k hk
 rcases List.mem_append.1 hk with hk | hk
 ·exact key _ _ _ _ _ h.1 k hk
 ·obtain ⟨q,hq,hk⟩:=List.mem_flatMap.1 hk
  obtain ⟨p,hp,rfl⟩:=List.mem_map.1 hq
  have hk2:k∈actK.fp p.sl p.d.acts:=hk
  rw [actK_fp] at hk2
  exact key _ _ _ _ _ (h.2.1 p hp).1 k hk2

theorem few7 {qs:List TxnQ} (h:∀ q∈qs,q.acts.length≤5):nmL TxnQ.n qs≤5 * qs.length:=by
 induction qs with
 | nil=>simp [nmL]
 | cons q r ih=>
  have h1:=h q (by simp)
  have:=ih (fun t ht=>h t (List.mem_cons_of_mem _ ht))
  simp only [nmL,List.map_cons,List.sum_cons,List.length_cons,TxnQ.n] at this ⊢
  omega

set_option maxRecDepth 100000 in
set_option maxHeartbeats 2000000 in
theorem l2Many5_any (B b T:Nat) (w:World) (hS:Src B w b T) (hT:T≤800000) :
  Calls Tryz.prog 35 #[.pointer (some ⟨b,0,none⟩),.int .i64 5] w fun e w' => ∃ (v:Value) (ps:List TxnP),e=.returned v∧ps.length≤5∧(∀ p∈ps,1≤p.d.acts.length∧p.d.acts.length≤5)∧TxnRow w.heap.size w' v ps∧Src B w' b (T + 100)∧w.grownBy w' (some b):=by
 obtain ⟨i0,hi,hz0,hz1,hz2⟩:=info_parts infoTxn
 have hlt:=hS.lt
 have ho0:(w.alloc (.cells #[] 44)).ownsRow w.heap.size 44 4 (.slice (some ⟨w.heap.size,0,none⟩) 0 0) 0 []:=World.ownsRow_lit w #[] 0 (Nat.le_refl _) (by decide) rfl
 have hg:w.grownBy (w.alloc (.cells #[] 44)) (some b):=World.grownBy_alloc w _ _
 replace hS:Src B (w.alloc (.cells #[] 44)) b T:=hS.below (by go_grown)
 go_enter Tryz.func35,Tryz.ntmps35
 go_wp2_with fail
 generalize w.alloc (.cells #[] 44)=W1 at ho0 hg hS
 refine (next_any B b T 5 W1 hS (by omega) (by omega)).mono ?_
 rintro e w3 ⟨r,rfl,hr,hSn,hgn⟩
 obtain ⟨j0,rfl⟩:=Int.eq_ofNat_of_zero_le hr.1
 have hj0:j0≤4:=by have:=hr.2.1 (by omega);omega
 have hR0:TxnRow w.heap.size W1 (.slice (some ⟨w.heap.size,0,none⟩) 0 0) []:=⟨ho0,by simp,by simp⟩
 replace hR0:=hR0.src hlt.2 hgn
 replace hg:=hg.trans hgn
 replace hS:=hSn
 clear hgn hSn hr ho0
 go_wp2
 go_loopw [5,6] (fun v c wr=>∃ (j:Nat) (ps:List TxnP),c=.int .i64 j∧j + ps.length≤5∧Hid (∀ p∈ps,1≤p.d.acts.length∧p.d.acts.length≤5)∧TxnRow w.heap.size wr v ps∧Src B wr b (T + 1 + 13 * ps.length)∧w.grownBy wr (some b)) (fun _ c _=>(intOf c).toNat)
 case atStart=>exact ⟨j0,[],rfl,by simp;omega,by intro p hp;simp at hp,hR0,hS,hg⟩
 case round=>
  clear hR0 hS hg
  obtain ⟨j,ps,rfl,hj,HP,hR,hS,hg⟩:=hrel
  have hsz:=hg.size
  obtain ⟨a1,c1,rfl⟩:=own_shape hR.1
  by_cases hpos:0 < j
  ·go_wp2_with fail
   refine (l2Draw_any B b (T + 1 + 13 * ps.length) wr hS (by omega)).mono ?_
   rintro e w4 ⟨i,s,q,a,c,xs,rfl,hx1,hx3,ho,hSn,hgn⟩
   have hpn:Value.ownBlock (.slice a xs.length c)=none∨Value.ownBlock (.slice a xs.length c)≠Value.ownBlock (.slice a1 ps.length c1):=own_apart3' hR.1 ho (Nat.le_refl _)
   replace hR:=hR.src hlt.2 hgn
   replace hg:=hg.trans hgn
   replace hS:=hSn
   replace ho:=own_base ho hsz
   clear hgn hSn
   have hbA:Below w4.heap.size w4 (w4.alloc (.cells #[.int .i64 i,.int .i64 s,.int .i64 q,.slice a xs.length c] 44)):=by go_grown
   have hsz4:=hg.size
   have ho2:=own_below hR.1 hbA
   go_wp2_with (at_builtin;refine wpList_append_own_at _ rfl _ _ 27 rfl w.heap.size 44 i0 (.agg #[.int .i64 0,.int .i64 0,.int .i64 0,.slice none 0 0]) 4 48 Tryz.underlying27 hi hz0 hz1 hz2 rfl (by decide) _ ps.length (txnCells ps) rfl ho2 ⟨w4.heap.size,0,none⟩ 1 1 [.int .i64 i,.int .i64 s,.int .i64 q,.slice a xs.length c] rfl rfl ?c1 ?c2 ?c3 ?c4 ?c5 ?_)
   all_goals try (case c1=>intro j u hj;match j,hj with | 0,hj=>simp at hj;subst hj;simp [Addr.add] | 1,hj=>simp at hj;subst hj;simp [Addr.add] | 2,hj=>simp at hj;subst hj;simp [Addr.add] | 3,hj=>simp at hj;subst hj;simp [Addr.add])
   all_goals try (case c2=>intro u hu;simp at hu;rcases hu with rfl | rfl | rfl | rfl <;> rfl)
   all_goals try (case c3=>unfold maxLen;omega)
   all_goals try (case c4=>omega)
   all_goals try (case c5=>first | omega | (simp;omega))
   intro v' w5 hown hgrow hnil hat
   have hgo:∀ j,(Value.slice a1 ps.length c1).ownBlock=some j→w.heap.size≤j:=fun j hj=>(ho2.lt j hj).1
   have hB5:Below w.heap.size w4 w5:=((Below.refl w.heap.size w4).alloc hsz4 (.cells #[.int .i64 i,.int .i64 s,.int .i64 q,.slice a xs.length c] 44)).grown hgrow (by simp;omega) hgo
   have hR5:Hid (TxnRow w.heap.size w5 v' (ps ++ [⟨⟨i,s,q,xs⟩,a,c⟩])):=(hR.below hbA).append ⟨⟨i,s,q,xs⟩,a,c⟩ (own_below ho hbA) hpn (by simpa [TxnP.cells,TxnP.sl] using hown) hgrow (by rw [World.size_alloc];exact hat) hnil
   replace hg:=grown_low hg hB5
   replace hS:=hS.low hB5 hlt.2
   have HP5:Hid (∀ p∈ps ++ [(⟨⟨i,s,q,xs⟩,a,c⟩:TxnP)],1≤p.d.acts.length∧p.d.acts.length≤5):=by
    intro p hp
    simp only [List.mem_append,List.mem_singleton] at hp
    rcases hp with hp | rfl
    ·exact HP.out p hp
    ·show 1≤xs.length∧xs.length≤5;omega
   clear hR ho ho2 hown hgrow hat hnil hgo hB5 hbA hpn
   go_wp2
   go_roundw
   case rel=>exact ⟨j - 1,ps ++ [⟨⟨i,s,q,xs⟩,a,c⟩],by go_num,by simp;omega,HP5,hR5.out,hS.mono (by simp;omega),hg⟩
   case measure=>simp [intOf];omega
  ·go_wp2
   go_ret
   exact ⟨_,ps,rfl,by omega,HP.out,hR,hS.mono (by omega),hg⟩

set_option maxRecDepth 100000 in
set_option maxHeartbeats 8000000 in
theorem drawIsPrefix_any (a:Option Addr) (cap:Nat) (zs:List Int) (w:World) (h:Row .u8 w a zs) (hu:∀ i,0≤zs.getD i 0∧zs.getD i 0≤255) (hl:zs.length≤1048576) :
  Calls Tryz.prog 11 #[.slice a zs.length cap] w fun e w' => ∃ (v1 v2:Value) (q1 q2:List TxnQ),e=.returned (.tuple #[v1,v2])∧q1.length + nmL TxnQ.n q1≤100∧q2.length + nmL TxnQ.n q2≤100∧txnK.Own w' v1 q1∧txnK.Own w' v2 q2∧Below w.heap.size w w' := by
 have hby:∀ i,i < zs.length→∃ b' off,a=some ⟨b',off,none⟩∧b' < w.heap.size∧w.cell? ⟨b',off + i,none⟩=some (.int .u8 (zs.getD i 0)):=h
 go_enter Tryz.func11,Tryz.ntmps11
 go_wp2_with fail
 refine (source_any w.heap.size a cap zs w (Nat.le_refl _) hl hu hby).mono ?_
 rintro e x1 ⟨rfl,hS,hb1⟩
 have hb0:Below w.heap.size w x1:=hb1
 clear hby hb1 h hu hl
 go_wp2_with fail
 refine (l2Many5_any w.heap.size w.heap.size 0 x1 hS (by omega)).mono ?_
 rintro e x2 ⟨va,pa,rfl,hpl,hpa,hRa,hSn,hgn⟩
 have hx1:=hS.lt
 have hU:Out [w.heap.size] x1 x2:=Out.of_grown hgn
 have hs2:=hgn.size
 replace hb0:=Out.keep hb0 hU hb0.size (fun k hk=>by simp only [List.mem_singleton] at hk;omega)
 replace hS:=hSn
 have hOa:=hRa.ownK
 have HLA:Hid (∀ k∈txnK.fp va (pa.map TxnP.qk),w.heap.size < k):=fun k hk=>by have:=hRa.lowfp k hk;omega
 have hl2:(pa.map TxnP.qk).length=pa.length:=List.length_map ..
 have HPA:Hid (∀ q∈pa.map TxnP.qk,1≤q.acts.length∧q.acts.length≤5):=fun q hq=>by
  obtain ⟨p,hp,rfl⟩:=List.mem_map.1 hq
  exact hpa p hp
 clear hSn hgn hU hpa hRa
 generalize pa.map TxnP.qk=qa at *
 have hqa:qa.length≤5:=by omega
 clear hl2 hpl
 obtain ⟨aa1,ca1,rfl⟩:=hOa.shape
 have hlq:(qa.length:Int)≤5:=by omega
 go_wp2_with fail
 refine (next_any w.heap.size w.heap.size (0 + 100) ((qa.length:Int) + 1) x2 hS (by omega) (by omega)).mono ?_
 rintro e x3 ⟨r,rfl,hr,hSn,hgn⟩
 have hU:Out [w.heap.size] x2 x3:=Out.of_grown hgn
 have hs3:=hgn.size
 replace hb0:=Out.keep hb0 hU hb0.size (fun k hk=>by simp only [List.mem_singleton] at hk;omega)
 replace hOa:=hOa.out hU (fun k hk hk' => by simp only [List.mem_singleton] at hk';have:=HLA.out k hk;omega)
 replace hS:=hSn
 obtain ⟨m,rfl⟩:=Int.eq_ofNat_of_zero_le hr.1
 have hm:m≤qa.length:=by have:=hr.2.1 (by omega);omega
 clear hSn hgn hU hr
 obtain ⟨hca1,hca2⟩:qa.length≤ca1∧ca1≤maxLen:=hOa.capK
 have hm0:(0:Int)≤(m:Int):=by omega
 have hmc:(m:Int)≤(ca1:Int):=by omega
 have hmc' : m≤ca1:=by omega
 have hn5:nmL TxnQ.n (qa.take m)≤5 * (qa.take m).length:=few7 (fun q hq=>(HPA.out q (List.mem_of_mem_take hq)).2)
 have hlm:(qa.take m).length≤5:=by rw [List.length_take];omega
 have hcp:=l2CopyAll_any (.slice aa1 m ca1) (qa.take m) x3 (hOa.at.takeK m hm) (fun q hq=>(HPA.out q (List.mem_of_mem_take hq)).1) (by omega)
 have HNA:Hid (qa.length + nmL TxnQ.n qa≤100):=by
  have:=few7 (qs:=qa) (fun q hq=>(HPA.out q hq).2)
  show qa.length + nmL TxnQ.n qa≤100
  omega
 clear HPA
 go_wp2_with fail
 clear hm0 hmc hmc'
 refine hcp.mono ?_
 rintro e x4 ⟨vb,qs,rfl,eqs,oq,nq,gq,hb4⟩
 have hls:qs.length=(qa.take m).length:=by simpa using congrArg List.length eqs
 have HNQ:Hid (qs.length + nmL TxnQ.n qs≤100):=by
  show qs.length + nmL TxnQ.n qs≤100
  rw [txns_n eqs]
  omega
 have hs4:=hb4.size
 have HLQ:Hid (∀ k∈txnK.fp vb qs,x3.heap.size≤k):=gq
 have HLT:Hid (∀ k∈txnK.fp (.slice aa1 qa.length ca1) qa,k < x3.heap.size):=hOa.lt
 replace hOa:=hOa.below hb4
 replace hS:=hS.below hb4
 replace hb0:=hb0.trans (hb4.mono hb0.size)
 have hqs:qs.length≤5:=by omega
 clear hcp eqs gq hb4 hls hn5 hlm hca1 hca2 hlq
 obtain ⟨ab,cb,rfl⟩:=oq.shape
 obtain ⟨n,HNL⟩:∃ n,Hid (qs.length=n):=⟨_,rfl⟩
 rw [HNL.out] at oq nq HLQ ⊢
 have hn5:n≤5:=by have:=HNL.out;omega
 cases n with
 | zero=>
  clear HLA HLQ HLT nq
  go_wp2
  exact bodyPost_ret (v:=.tuple #[.slice ab 0 cb,.slice aa1 qa.length ca1]) (by simp [results,Tryz.results11,go_sem]) rfl ⟨_,_,qs,qa,rfl,HNQ.out,HNA.out,oq,hOa,hb0⟩
 | succ n=>
  have hmp:(0:Int) < ((n + 1:Nat):Int):=by omega
  go_wp2_with fail
  refine (chance7_any w.heap.size w.heap.size (0 + 100 + 1) 3 x4 hS (by omega) (by omega)).mono ?_
  rintro e x5 ⟨tt,rfl,hS5,hg5⟩
  have hU:Out [w.heap.size] x4 x5:=Out.of_grown hg5
  replace hb0:=Out.keep hb0 hU hb0.size (fun k hk=>by simp only [List.mem_singleton] at hk;omega)
  replace hOa:=hOa.out hU (fun k hk hk' => by simp only [List.mem_singleton] at hk';have:=HLA.out k hk;omega)
  replace oq:=oq.out hU (fun k hk hk' => by simp only [List.mem_singleton] at hk';have:=HLQ.out k hk;omega)
  clear hS5 hg5 hU hS
  cases tt with
  | false=>
   clear HLA HLQ HLT nq
   go_wp2
   exact bodyPost_ret (v:=.tuple #[.slice ab (n + 1) cb,.slice aa1 qa.length ca1]) (by simp [results,Tryz.results11,go_sem]) rfl ⟨_,_,qs,qa,rfl,HNQ.out,HNA.out,oq,hOa,hb0⟩
  | true=>
   have hlt:0 < qs.length:=by have:=HNL.out;omega
   obtain ⟨g,rfl⟩:=oq.blkOf hlt
   have hgb:x3.heap.size≤g:=HLQ.out g (by simp [Kind.fp,blk,Value.ownBlock])
   obtain ⟨d0,f0⟩:=oq.cell 0 hlt 0 (.int .i64 qs[0].i) rfl
   have hkk:0 * txnK.size + 0=0:=by omega
   rw [hkk] at d0 f0
   have hst:=fun u:Int=>oq.store nq 0 hlt ⟨u,qs[0].s,qs[0].q,qs[0].va,qs[0].acts⟩ 0 (.int .i64 u) (by decide) rfl rfl (fun w' ho=>ho)
   rw [hkk] at hst
   have HST:Hid (∀ u:Int,∃ q' : List TxnQ,q'.length + nmL TxnQ.n q' ≤ 100∧txnK.Own (x5.setCell ⟨g,0,none⟩ (.int .i64 u)) (.slice (some ⟨g,0,none⟩) (n + 1) cb) q' ∧ txnK.Own (x5.setCell ⟨g,0,none⟩ (.int .i64 u)) (.slice aa1 qa.length ca1) qa∧Below w.heap.size w (x5.setCell ⟨g,0,none⟩ (.int .i64 u))):=fun u=>by
    refine ⟨_,?_,(hst u).1,hOa.out (Out.setCell _ _ _ _) (fun k hk hk' => by simp only [List.mem_singleton] at hk';have:=HLT.out k hk;omega),hb0.setCell (p:=⟨g,0,none⟩) (by show w.heap.size≤g;omega) _⟩
    have h9:nmL TxnQ.n (qs.set 0 ⟨u,qs[0].s,qs[0].q,qs[0].va,qs[0].acts⟩)=nmL TxnQ.n qs:=by
     cases qs with
     | nil=>rfl
     | cons x r=>rfl
    rw [List.length_set,h9]
    exact HNQ.out
   generalize qs[0].i=ii at *
   clear hst HLA HLQ HLT nq oq hOa hb0
   go_wp2
   obtain ⟨q',h1,h2,h3,h4⟩:=HST.out _
   exact bodyPost_ret (v:=.tuple #[.slice (some ⟨g,0,none⟩) (n + 1) cb,.slice aa1 qa.length ca1]) (by simp [results,Tryz.results11,go_sem]) rfl ⟨_,_,q',qa,rfl,h1,HNA.out,h2,h3,h4⟩

end Go.Proofs.YtjjolkihiclopaaGreatDoor
namespace Go.Proofs.YtjjolkihiclopaaGreatDoor
open Go.RowKit
open Go.BigFrame
set_option maxRecDepth 100000
theorem Kind.At.take' {P:Type} {K:Kind P} {w:World} {a:Option Addr} {n cap:Nat} {ps:List P} (h:K.At w (.slice a n cap) ps) (m:Nat) (hm:m≤ps.length):K.At w (.slice a m cap) (ps.take m):=by
 obtain ⟨a',c,e,hl,hr⟩:=h
 simp only [Value.slice.injEq] at e
 obtain ⟨rfl,_,rfl⟩:=e
 refine ⟨a,cap,by rw [List.length_take,Nat.min_eq_left hm],?_,fun p hp=>hr p (List.mem_of_mem_take hp)⟩
 have er:K.row ps=K.row (ps.take m) ++ K.row (ps.drop m):=by
  unfold Kind.row
  rw [← List.flatMap_append,List.take_append_drop]
 rcases hl with h0 | ⟨b,off,ha,hlt,hc⟩
 ·left
  rw [er] at h0
  exact (List.append_eq_nil_iff.1 h0).1
 ·right
  refine ⟨b,off,ha,hlt,fun j x hx=>hc j x ?_⟩
  rw [er,List.getElem?_append_left (List.getElem?_eq_some_iff.1 hx).1]
  exact hx

theorem Kind.Own.cap' {P:Type} {K:Kind P} {w:World} {a:Option Addr} {n cap:Nat} {ps:List P} (h:K.Own w (.slice a n cap) ps):n≤cap∧cap≤maxLen:=by
 rcases h.1.2 with ⟨e,_⟩ | ⟨g,c,cur,e,_,_,h1,h2,_⟩
 ·simp only [Value.slice.injEq] at e
  obtain ⟨_,rfl,rfl⟩:=e
  exact ⟨Nat.le_refl _,by decide⟩
 ·simp only [Value.slice.injEq] at e
  obtain ⟨_,rfl,rfl⟩:=e
  exact ⟨h1,h2⟩

/-- The first ones. -/
def preT (xs ys:List TxnD):Bool:=decide (xs.length≤ys.length) && sameTs xs (ys.take xs.length)

set_option maxHeartbeats 2000000 in
theorem implIsPrefix_any (v v' : Value) (xs ys:List TxnQ) (w:World) (h:txnK.At w v xs) (h' : txnK.Own w v' ys) (hl:xs.length + nmL TxnQ.n xs≤1048576) (hl' : ys.length + nmL TxnQ.n ys≤1048576) :
  Calls Tryz.prog 16 #[v,v'] w fun e w' => e=.returned (.bool (preT (xs.map TxnQ.e) (ys.map TxnQ.e)))∧Below w.heap.size w w' := by
 obtain ⟨a,cap,rfl⟩:=h.shape
 obtain ⟨a',cap',rfl⟩:=h'.shape
 obtain ⟨hc,hcm⟩:=h'.cap'
 unfold preT
 rw [List.length_map,List.length_map]
 by_cases hlen:xs.length≤ys.length
 ·have hd:decide (xs.length≤ys.length)=true:=decide_eq_true hlen
  rw [hd,Bool.true_and]
  have hT:=h'.at.take' xs.length hlen
  have hn:nmL TxnQ.n (ys.take xs.length)≤nmL TxnQ.n ys:=nmL_le TxnQ.n ys xs.length
  have hq:=implSameTxns_any (.slice a xs.length cap) (.slice a' xs.length cap') (xs.map TxnQ.e) ((ys.take xs.length).map TxnQ.e) w (txnsAt_of' h) (txnsAt_of' hT) (by rw [List.length_map,sumA_of'];omega) (by rw [List.length_map,sumA_of',List.length_take];omega)
  rw [List.map_take] at hq
  generalize sameTs (xs.map TxnQ.e) ((ys.map TxnQ.e).take xs.length)=E at *
  have hle:(xs.length:Int)≤(ys.length:Int):=by omega
  have hlc:xs.length≤cap' := by omega
  have hlc' : (xs.length:Int)≤(cap' : Int):=by omega
  have hl0:(0:Int)≤(xs.length:Int):=by omega
  clear hT hn hd
  go_enter Tryz.func16,Tryz.ntmps16
  go_wp2_with fail
  refine hq.mono ?_
  rintro e w2 ⟨rfl,hb2⟩
  go_wp2
  go_ret
  exact ⟨rfl,hb2⟩
 ·have hd:decide (xs.length≤ys.length)=false:=decide_eq_false hlen
  rw [hd,Bool.false_and]
  have hle:¬ (xs.length:Int)≤(ys.length:Int):=by omega
  clear hd
  go_enter Tryz.func16,Tryz.ntmps16
  go_wp2
  go_ret
  exact ⟨rfl,Below.refl _ _⟩

set_option maxHeartbeats 2000000 in
theorem l7Prefix_any (v v' : Value) (xs ys:List TxnQ) (w:World) (h:txnK.At w v xs) (h' : txnK.Own w v' ys) (hl:xs.length + nmL TxnQ.n xs≤1048576) (hl' : ys.length + nmL TxnQ.n ys≤1048576) :
  Calls Tryz.prog 43 #[v,v'] w fun e w' => e=.returned (.bool (preT (xs.map TxnQ.e) (ys.map TxnQ.e)))∧Below w.heap.size w w' := by
 obtain ⟨a,cap,rfl⟩:=h.shape
 obtain ⟨a',cap',rfl⟩:=h'.shape
 obtain ⟨hc,hcm⟩:=h'.cap'
 unfold preT
 rw [List.length_map,List.length_map]
 by_cases hlen:xs.length≤ys.length
 ·have hd:decide (xs.length≤ys.length)=true:=decide_eq_true hlen
  rw [hd,Bool.true_and]
  have hT:=h'.at.take' xs.length hlen
  have hn:nmL TxnQ.n (ys.take xs.length)≤nmL TxnQ.n ys:=nmL_le TxnQ.n ys xs.length
  have hq:=specSameTxns_any (.slice a xs.length cap) (.slice a' xs.length cap') (xs.map TxnQ.e) ((ys.take xs.length).map TxnQ.e) w (txnsAt_of' h) (txnsAt_of' hT) (by rw [List.length_map,sumA_of'];omega) (by rw [List.length_map,sumA_of',List.length_take];omega)
  rw [List.map_take] at hq
  generalize sameTs (xs.map TxnQ.e) ((ys.map TxnQ.e).take xs.length)=E at *
  have hle:(xs.length:Int)≤(ys.length:Int):=by omega
  have hlc:xs.length≤cap' := by omega
  have hlc' : (xs.length:Int)≤(cap' : Int):=by omega
  have hl0:(0:Int)≤(xs.length:Int):=by omega
  clear hT hn hd
  go_enter Tryz.func43,Tryz.ntmps43
  go_wp2_with fail
  refine hq.mono ?_
  rintro e w2 ⟨rfl,hb2⟩
  go_wp2
  go_ret
  exact ⟨rfl,hb2⟩
 ·have hd:decide (xs.length≤ys.length)=false:=decide_eq_false hlen
  rw [hd,Bool.false_and]
  have hle:¬ (xs.length:Int)≤(ys.length:Int):=by omega
  clear hd
  go_enter Tryz.func43,Tryz.ntmps43
  go_wp2
  go_ret
  exact ⟨rfl,Below.refl _ _⟩

theorem specIsPrefix_any (v v' : Value) (xs ys:List TxnQ) (w:World) (h:txnK.At w v xs) (h' : txnK.Own w v' ys) (hl:xs.length + nmL TxnQ.n xs≤1048576) (hl' : ys.length + nmL TxnQ.n ys≤1048576) :
  Calls Tryz.prog 17 #[v,v'] w fun e w' => e=.returned (.bool (preT (xs.map TxnQ.e) (ys.map TxnQ.e)))∧Below w.heap.size w w' := by
 have hq:=l7Prefix_any v v' xs ys w h h' hl hl'
 obtain ⟨a,cap,rfl⟩:=h.shape
 obtain ⟨a',cap',rfl⟩:=h'.shape
 generalize preT (xs.map TxnQ.e) (ys.map TxnQ.e)=E at *
 go_enter Tryz.func17,Tryz.ntmps17
 go_wp2_with fail
 refine hq.mono ?_
 rintro e w2 ⟨rfl,hb2⟩
 go_wp2
 go_ret
 exact ⟨rfl,hb2⟩

end Go.Proofs.YtjjolkihiclopaaGreatDoor
namespace Go.Proofs.YtjjolkihiclopaaGreatDoor
open Go.RowKit
open Go.BigFrame
set_option maxRecDepth 100000
/-- A pointer to an instance. -/
structure InstP' (w:World) (b o:Nat) (p:InstQ):Prop where
 box:Box4 w b o (.bool p.has) p.vb p.vr p.vd
 rd:instK.rd w p

theorem InstP'.below {w w' : World} {b o:Nat} {p:InstQ} (h:InstP' w b o p) (hb:Below w.heap.size w w'):InstP' w' b o p:=⟨h.box.below hb,instK.rd_below h.rd hb⟩

end Go.Proofs.YtjjolkihiclopaaGreatDoor
namespace Go.Proofs.YtjjolkihiclopaaGreatDoor
open Go.RowKit
open Go.BigFrame
set_option maxRecDepth 100000
end Go.Proofs.YtjjolkihiclopaaGreatDoor
