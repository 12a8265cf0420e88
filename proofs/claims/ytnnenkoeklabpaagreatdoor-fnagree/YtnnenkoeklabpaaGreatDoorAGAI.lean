/- Texts joined, with what the laws reach alone. -/
import Derived.Test.YtnnenkoeklabpaaGreatDoorAGAH
set_option linter.unusedVariables false
set_option linter.unusedSimpArgs false
namespace Go.Proofs.YtnnenkoeklabpaaGreatDoor
open Go.RowKit
open Go.BigFrame
set_option maxRecDepth 100000
theorem actK_fpv (v:Value) (zs:List ActD):actK.fp v zs=blk v:=by
 have:zs.flatMap actK.foot=[]:=by
  rw [List.flatMap_eq_nil_iff]
  intro _ _
  rfl
 unfold Kind.fp
 rw [this,List.append_nil]

theorem own_acts {w:World} {base:Nat} {v:Value} {xs:List ActD} (h:w.ownsRow base 76 3 v xs.length (actCells xs)):actK.Own w v xs∧∀ k∈actK.fp v xs,base≤k:=by
 obtain ⟨o,hk⟩:=own_zero h
 exact ⟨⟨o,fun _ _=>trivial⟩,by rw [actK_fpv];exact hk⟩

theorem Src.out {B b T:Nat} {F:List Nat} {w w' : World} (h:Src B w b T) (ho:Out F w w') (hb:b ∉ F) (hF:∀ k∈F,B≤k):Src B w' b T:=
 h.kept ho.size (ho.block b h.lt.2 hb) (fun k hk=>ho.block k (by have:=h.lt;omega) (fun e=>by have:=hF k e;omega))

theorem grown_out {w wr w' : World} {b:Nat} {F:List Nat} (hg:w.grownBy wr (some b)) (ho:Out F wr w') (hF:∀ k∈F,w.heap.size≤k):w.grownBy w' (some b):=
 ⟨ho.os.trans hg.os,ho.tape.trans hg.tape,ho.output.trans hg.output,Nat.le_trans hg.size ho.size,fun k hk hne=>(ho.block k (Nat.lt_of_lt_of_le hk hg.size) (fun e=>by have:=hF k e;omega)).trans (hg.block k hk hne)⟩

set_option maxRecDepth 100000 in
set_option maxHeartbeats 2000000 in
theorem l6DrawBatch_any (B b T:Nat) (w:World) (hS:Src B w b T) (hT:T≤800000) :
  Calls Tryz.prog 52 #[.pointer (some ⟨b,0,none⟩)] w fun e w' => ∃ (v:Value) (ps:List TxnQ),e=.returned v∧ps.length≤3∧(∀ p∈ps,p.acts.length≤3)∧txnK.Own w' v ps∧(txnK.fp v ps).Nodup∧(∀ k∈txnK.fp v ps,w.heap.size≤k)∧Src B w' b (T + 50)∧w.grownBy w' (some b):=by
 obtain ⟨i0,hi,hz0,hz1,hz2⟩:=info_parts infoTxn
 have hlt:=hS.lt
 obtain ⟨ho0,hk0⟩:=own_zero (World.ownsRow_lit (e:=62) (size:=4) w #[] 0 (Nat.le_refl _) (by decide) rfl)
 have hg:w.grownBy (w.alloc (.cells #[] 62)) (some b):=World.grownBy_alloc w _ _
 replace hS:Src B (w.alloc (.cells #[] 62)) b T:=hS.below (by go_grown)
 have hR0:txnK.Own (w.alloc (.cells #[] 62)) (.slice (some ⟨w.heap.size,0,none⟩) 0 0) ([]:List TxnQ):=⟨ho0,fun p hp=>by simp at hp⟩
 have hN0:Hid ((txnK.fp (.slice (some ⟨w.heap.size,0,none⟩) 0 0) ([]:List TxnQ)).Nodup∧∀ k∈txnK.fp (.slice (some ⟨w.heap.size,0,none⟩) 0 0) ([]:List TxnQ),w.heap.size≤k):=by
  constructor
  ·simp [Kind.fp,blk,Value.ownBlock]
  ·intro k hk
   simp [Kind.fp,blk,Value.ownBlock] at hk
   omega
 go_enter Tryz.func52,Tryz.ntmps52
 go_wp2_with fail
 generalize w.alloc (.cells #[] 62)=W1 at hR0 hg hS
 refine (next_any B b T 3 W1 hS (by omega) (by omega)).mono ?_
 rintro e w3 ⟨r,rfl,hr,hSn,hgn⟩
 obtain ⟨j0,rfl⟩:=Int.eq_ofNat_of_zero_le hr.1
 have hj0:j0≤2:=by have:=hr.2.1 (by omega);omega
 replace hR0:=hR0.out (Out.of_grown hgn) (fun k hk hk' => by
  simp only [Option.toList,List.mem_singleton] at hk'
  have:=hN0.out.2 k hk
  omega)
 replace hg:=hg.trans hgn
 replace hS:=hSn
 clear hgn hSn hr ho0 hk0
 go_wp2
 go_loopw [3,4] (fun v c wr=>∃ (j:Nat) (ps:List TxnQ),c=.int .i64 j∧j≤3∧j + ps.length≤3∧Hid (∀ p∈ps,p.acts.length≤3)∧txnK.Own wr v ps∧Hid ((txnK.fp v ps).Nodup∧∀ k∈txnK.fp v ps,w.heap.size≤k)∧Src B wr b (T + 1 + 13 * (3 - j))∧w.grownBy wr (some b)) (fun _ c _=>(intOf c).toNat)
 case atStart=>exact ⟨1 + j0,[],by go_num,by omega,by simp;omega,(by intro p hp;simp at hp),hR0,hN0,hS.mono (by omega),hg⟩
 case round=>
  clear hR0 hS hg hN0
  obtain ⟨j,ps,rfl,hj3,hj,HP,hR,HN,hS,hg⟩:=hrel
  have hsz:=hg.size
  obtain ⟨a1,c1,rfl⟩:=hR.shape
  by_cases hpos:0 < j
  ·go_wp2_with fail
   refine (l2Draw_any B b (T + 1 + 13 * (3 - j)) wr hS (by omega)).mono ?_
   rintro e w4 ⟨i,s,q,a,c,xs,rfl,hx1,hx3,ho,hSn,hgn⟩
   obtain ⟨oA,gA⟩:=own_acts ho
   have HF:Hid (∀ x∈txnK.fp (.slice a1 ps.length c1) ps,x < wr.heap.size):=hR.lt
   replace hR:=hR.out (Out.of_grown hgn) (fun k hk hk' => by
    simp only [Option.toList,List.mem_singleton] at hk'
    have:=HN.out.2 k hk
    omega)
   replace hg:=hg.trans hgn
   replace hS:=hSn
   clear hgn hSn ho
   have hbA:Below w4.heap.size w4 (w4.alloc (.cells #[.int .i64 i,.int .i64 s,.int .i64 q,.slice a xs.length c] 62)):=by go_grown
   have Bt:=Blk.new w4 62 #[.int .i64 i,.int .i64 s,.int .i64 q,.slice a xs.length c]
   have hsz4:=hg.size
   replace hR:=hR.below hbA
   replace oA:=oA.below hbA
   replace hS:=hS.below hbA
   replace hg:=grown_low hg (hbA.mono hsz4)
   clear hbA
   go_wp2_with fail
   generalize w4.alloc (.cells #[.int .i64 i,.int .i64 s,.int .i64 q,.slice a xs.length c] 62)=W5 at *
   have hW:Below W5.heap.size W5 W5.drew:=(Below.refl _ _).drew
   have hnn:Nonempty (Lat W5):=⟨⟨W5,Below.refl _ _⟩⟩
   have k0:=Bt.lat 0 _ rfl
   have hL60:((ps.map TxnQ.e).length:Nat)≤60:=by rw [List.length_map];omega
   refine text_begin (S:=fun w' => ∃ u:Lat W5,w' = u.val) (by kernel_rfl) ?_
   refine sgr [(0,1),(2,2)] 3 (by kernel_rfl) ⟨⟨_,hW⟩,rfl⟩ ?_
   simp only [pkE]
   repeat go_big_quiet_step (fail)
   refine wpQuiet_nil ?_
   refine cla 1 (some 17) 68 #[.slice a1 ps.length c1] 2 (by kernel_rfl) ?_
   refine (l2Ids_any _ (ps.map TxnQ.e) _ (txnsAt_of (hR.below hW).at) hL60).mono ?_
   rintro e w6 ⟨ba,bc,rfl,hoI,hb6⟩
   replace hW:=hW.trans (hb6.mono hW.size)
   clear hb6
   refine ⟨_,rfl,⟨⟨_,hW⟩,rfl⟩,?_⟩
   simp only [Act.put,pgE,pjE]
   have hIl:((ps.map TxnQ.e).map TxnD.id).length≤1048576:=by rw [List.length_map];omega
   generalize hL:(ps.map TxnQ.e).map TxnD.id=L at *
   clear hL
   refine cla 4 (some 20) 69 #[.slice ba L.length bc,.int .i64 i] 1 (by kernel_rfl) ?_
   refine (l1Find_any ba bc L i w6 (Row.own hoI) hIl).mono ?_
   rintro e w7 ⟨rfl,hw7⟩
   replace hw7:=hw7.symm
   subst hw7
   refine ⟨_,rfl,⟨⟨_,hW⟩,rfl⟩,?_⟩
   simp only [Act.put,pgE,pjE]
   refine sgr [(5,1)] 0 (by kernel_rfl) ⟨⟨_,hW⟩,rfl⟩ ?_
   simp only [pkE]
   repeat go_big_quiet_step (fail)
   refine wpQuiet_nil ?_
   refine text_end (by kernel_rfl) ?_
   have hsz5:=hg.size
   replace hR:=hR.below hW
   replace oA:=oA.below hW
   replace hS:=hS.below hW
   replace Bt:=Bt.below hW
   replace hg:=grown_low hg (hW.mono hsz5)
   clear hW hnn k0 hoI hL60 hIl
   generalize idxI L i=ix at *
   by_cases hix:ix < 0
   ·have p0:=Bt.cell 0 _ rfl
    have p1:=Bt.cell 1 _ rfl
    have p2:=Bt.cell 2 _ rfl
    have p3:=Bt.cell 3 _ rfl
    have hbA:Below w6.heap.size w6 (w6.alloc (.cells #[.int .i64 i,.int .i64 s,.int .i64 q,.slice a xs.length c] 62)):=by go_grown
    have hsz6:=hg.size
    have hR2:=hR.below hbA
    have oA2:=oA.below hbA
    have hrow0:=hR2.1
    go_wp2_with (at_builtin;refine wpList_append_own_at _ rfl _ _ 24 rfl 0 62 i0 (.agg #[.int .i64 0,.int .i64 0,.int .i64 0,.slice none 0 0]) 4 48 Tryz.underlying24 hi hz0 hz1 hz2 rfl (by decide) _ ps.length (txnK.row ps) rfl hrow0 ⟨w6.heap.size,0,none⟩ 1 1 [.int .i64 i,.int .i64 s,.int .i64 q,.slice a xs.length c] rfl rfl ?c1 ?c2 ?c3 ?c4 ?c5 ?_)
    all_goals try (case c1=>intro j u hj;match j,hj with | 0,hj=>simp at hj;subst hj;simp [Addr.add] | 1,hj=>simp at hj;subst hj;simp [Addr.add] | 2,hj=>simp at hj;subst hj;simp [Addr.add] | 3,hj=>simp at hj;subst hj;simp [Addr.add])
    all_goals try (case c2=>intro u hu;simp at hu;rcases hu with rfl | rfl | rfl | rfl <;> rfl)
    all_goals try (case c3=>unfold maxLen;omega)
    all_goals try (case c4=>omega)
    all_goals try (case c5=>first | omega | (simp;omega))
    intro v' w8 hown hgrow hnil hat
    clear p0 p1 p2 p3
    obtain ⟨hO5,hn5,hlo5,hou⟩:=hR2.snoc (p:=(⟨i,s,q,.slice a xs.length c,xs⟩:TxnQ)) (B:=w.heap.size) HN.out.1 HN.out.2 oA2 (by show (actK.fp _ _).Nodup;rw [actK_fpv];exact blk_nodup _) (fun x hx hx' => by
     have h1:=gA x hx
     have h2:=HF.out x hx'
     omega) (fun x hx=>by have:=gA x hx;omega) (by simp;omega) hown hgrow (by rw [World.size_alloc];exact hat)
    have HP5:Hid (∀ p∈ps ++ [(⟨i,s,q,.slice a xs.length c,xs⟩:TxnQ)],p.acts.length≤3):=by
     intro p hp
     simp only [List.mem_append,List.mem_singleton] at hp
     rcases hp with hp | rfl
     ·exact HP.out p hp
     ·exact hx3
    have HN5:Hid (_∧_):=And.intro hn5 hlo5
    have hFlo:∀ k∈blk (.slice a1 ps.length c1),w.heap.size≤k:=fun k hk=>HN.out.2 k (by simp only [Kind.fp,List.mem_append];exact Or.inl hk)
    have hg8:=grown_out (grown_low hg (hbA.mono hsz6)) hou hFlo
    have hS8:=(hS.below hbA).out hou (fun hk=>by have:=hFlo b hk;omega) (fun k hk=>by have:=hFlo k hk;omega)
    have hl5:(ps ++ [(⟨i,s,q,.slice a xs.length c,xs⟩:TxnQ)]).length=ps.length + 1:=by simp
    have HL5:Hid ((ps ++ [(⟨i,s,q,.slice a xs.length c,xs⟩:TxnQ)]).length=ps.length + 1):=hl5
    clear hl5 hn5 hlo5 hR hR2 oA oA2 hown hgrow hat hnil hou hbA hg hS hrow0 Bt gA HF hFlo
    generalize ps ++ [(⟨i,s,q,.slice a xs.length c,xs⟩:TxnQ)]=ps' at *
    go_wp2
    go_roundw
    case rel=>exact ⟨j - 1,ps',by go_num,by omega,by have:=HL5.out;omega,HP5,hO5,HN5,hS8.mono (by omega),hg8⟩
    case measure=>simp [intOf];omega
   ·clear Bt oA gA HF
    go_wp2
    go_roundw
    case rel=>exact ⟨j - 1,ps,by go_num,by omega,by omega,HP,hR,HN,hS.mono (by omega),hg⟩
    case measure=>simp [intOf];omega
  ·go_wp2
   go_ret
   exact ⟨_,ps,rfl,by omega,HP.out,hR,HN.out.1,HN.out.2,hS.mono (by omega),hg⟩

end Go.Proofs.YtnnenkoeklabpaaGreatDoor
namespace Go.Proofs.YtnnenkoeklabpaaGreatDoor
open Go.RowKit
open Go.BigFrame
set_option maxRecDepth 100000
set_option maxRecDepth 100000 in
set_option maxHeartbeats 8000000 in
theorem l6Turn_any (B b T:Nat) (q:InstQ) (w:World) (hS:Src B w b T) (hT:T≤700000) (oq:instK.own w q) (nq:(instK.foot q).Nodup) (h0:insF q.e=0) (hbq:b ∉ instK.foot q) :
  Calls Tryz.prog 36 #[.pointer (some ⟨b,0,none⟩),.agg #[.bool q.has,q.vb,q.vr,q.vd]] w fun e w' => ∃ q' : InstQ,e=.returned (.agg #[.bool q'.has,q'.vb,q'.vr,q'.vd])∧insF q'.e=0∧instK.own w' q' ∧ (instK.foot q').Nodup∧(∀ k∈instK.foot q',k∈instK.foot q∨w.heap.size≤k)∧Src B w' b (T + 60)∧w.grownBy w' (some b):=by
 have hlt:=hS.lt
 have hl:q.n≤1048576:=by rw [inst_ne];have:=ins_small h0;omega
 have HLQ:Hid (∀ k∈instK.foot q,k < w.heap.size):=instK.own_lt oq
 have HNQ:Hid (instK.foot q).Nodup:=nq
 have HI0:Hid (insF q.e=0):=h0
 have hr4:q.rounds.length≤4:=by
  have h1:q.e.rounds.length=q.rounds.length:=List.length_map _
  have h2:=(ins_ok h0).2.1.2
  omega
 obtain ⟨has,vb,batch,vr,rounds,vd,dec⟩:=q
 obtain ⟨ba,bk,rfl⟩:∃ a c,vb=.slice a batch.length c:=oq.1.shape
 obtain ⟨va,vk,rfl⟩:∃ a c,vr=.slice a rounds.length c:=oq.2.1.shape
 obtain ⟨da,dk,rfl⟩:∃ a c,vd=.slice a dec.length c:=oq.2.2.shape
 dsimp only at hr4
 have hb0:Below w.heap.size w ((w.alloc (.cells #[.bool has,.slice ba batch.length bk,.slice va rounds.length vk,.slice da dec.length dk] 28)).alloc (.cells #[.bool false,.slice none 0 0,.slice none 0 0,.slice none 0 0] 28)):=by go_grown
 have A0:Blk ((w.alloc (.cells #[.bool has,.slice ba batch.length bk,.slice va rounds.length vk,.slice da dec.length dk] 28)).alloc (.cells #[.bool false,.slice none 0 0,.slice none 0 0,.slice none 0 0] 28)) w.heap.size 28 #[.bool has,.slice ba batch.length bk,.slice va rounds.length vk,.slice da dec.length dk]:=(Blk.new w 28 #[.bool has,.slice ba batch.length bk,.slice va rounds.length vk,.slice da dec.length dk]).below (by go_grown)
 have R0:=Blk.new (w.alloc (.cells #[.bool has,.slice ba batch.length bk,.slice va rounds.length vk,.slice da dec.length dk] 28)) 28 #[.bool false,.slice none 0 0,.slice none 0 0,.slice none 0 0]
 simp only [World.size_alloc] at R0
 have hg:Out [b] w ((w.alloc (.cells #[.bool has,.slice ba batch.length bk,.slice va rounds.length vk,.slice da dec.length dk] 28)).alloc (.cells #[.bool false,.slice none 0 0,.slice none 0 0,.slice none 0 0] 28)):=Out.of_below hb0
 replace hS:=hS.below hb0
 replace oq:=instK.own_out (F:=[]) oq (Out.of_below hb0) (fun _ _=>by simp)
 clear hb0
 go_enter Tryz.func36,Tryz.ntmps36
 go_wp2_with fail
 generalize ((w.alloc (.cells #[.bool has,.slice ba batch.length bk,.slice va rounds.length vk,.slice da dec.length dk] 28)).alloc (.cells #[.bool false,.slice none 0 0,.slice none 0 0,.slice none 0 0] 28))=X0 at *
 refine (next_any B b T 3 X0 hS (by omega) (by omega)).mono ?_
 rintro e x1 ⟨r1,rfl,hr1,hSn,hgn⟩
 replace hS:=hSn
 have hU:Out [b] _ _:=Out.of_grown hgn
 clear hgn hSn
 replace A0:=A0.outs hU (fun hk=>by simp only [List.mem_singleton] at hk;omega)
 replace R0:=R0.outs hU (fun hk=>by simp only [List.mem_singleton] at hk;omega)
 replace oq:=instK.own_out oq hU (fun k hk hk' => by simp only [List.mem_singleton] at hk';subst hk';exact hbq hk)
 replace hg:=hg.trans hU
 clear hU
 have p2:=A0.cell 2 _ rfl
 go_wp2_with fail
 clear p2
 refine (next_any B b (T + 1) (rounds.length:Int) x1 hS (by omega) (by omega)).mono ?_
 rintro e x2 ⟨r2,rfl,hr2,hSn,hgn⟩
 replace hS:=hSn
 have hU:Out [b] _ _:=Out.of_grown hgn
 clear hgn hSn
 replace A0:=A0.outs hU (fun hk=>by simp only [List.mem_singleton] at hk;omega)
 replace R0:=R0.outs hU (fun hk=>by simp only [List.mem_singleton] at hk;omega)
 replace oq:=instK.own_out oq hU (fun k hk hk' => by simp only [List.mem_singleton] at hk';subst hk';exact hbq hk)
 replace hg:=hg.trans hU
 clear hU
 have hb4:=R0.lt
 have hbA:Below x2.heap.size x2 (x2.alloc (.cells #[.int .i64 7,.int .i64 3,.int .i64 5,.int .i64 6] 2)):=by go_grown
 have hpk:=World.ownsRow_lit (e:=2) (size:=1) x2 #[.int .i64 7,.int .i64 3,.int .i64 5,.int .i64 6] 4 (Nat.le_refl _) (by decide) rfl
 replace hS:=hS.below hbA
 have hU:Out [b] _ _:=Out.of_below hbA
 clear hbA
 replace A0:=A0.outs hU (fun hk=>by simp only [List.mem_singleton] at hk;omega)
 replace R0:=R0.outs hU (fun hk=>by simp only [List.mem_singleton] at hk;omega)
 replace oq:=instK.own_out oq hU (fun k hk hk' => by simp only [List.mem_singleton] at hk';subst hk';exact hbq hk)
 replace hg:=hg.trans hU
 clear hU
 go_wp2_with fail
 generalize x2.alloc (.cells #[.int .i64 7,.int .i64 3,.int .i64 5,.int .i64 6] 2)=X2 at *
 refine (pick_any B b (T + 2) x2.heap.size _ [7,3,5,6] X2 hS (by omega) hpk (by simp) (by simp) (by simp [Value.ownBlock];omega)).mono ?_
 rintro e x3 ⟨mk,rfl,hmk,hSn,hgn⟩
 replace hS:=hSn
 have hU:Out [b] _ _:=Out.of_grown hgn
 clear hgn hSn
 replace A0:=A0.outs hU (fun hk=>by simp only [List.mem_singleton] at hk;omega)
 replace R0:=R0.outs hU (fun hk=>by simp only [List.mem_singleton] at hk;omega)
 replace oq:=instK.own_out oq hU (fun k hk hk' => by simp only [List.mem_singleton] at hk';subst hk';exact hbq hk)
 replace hg:=hg.trans hU
 clear hU
 clear hpk hmk
 go_wp2_with fail
 refine (next_any B b (T + 3) 2 x3 hS (by omega) (by omega)).mono ?_
 rintro e x4 ⟨vl,rfl,hvl,hSn,hgn⟩
 replace hS:=hSn
 have hU:Out [b] _ _:=Out.of_grown hgn
 clear hgn hSn
 replace A0:=A0.outs hU (fun hk=>by simp only [List.mem_singleton] at hk;omega)
 replace R0:=R0.outs hU (fun hk=>by simp only [List.mem_singleton] at hk;omega)
 replace oq:=instK.own_out oq hU (fun k hk hk' => by simp only [List.mem_singleton] at hk';subst hk';exact hbq hk)
 replace hg:=hg.trans hU
 clear hU
 go_wp2_with fail
 refine (l6First_any w.heap.size 0 (⟨has,.slice ba batch.length bk,batch,.slice va rounds.length vk,rounds,.slice da dec.length dk,dec⟩:InstQ) r1 vl x4 (⟨⟨A0.cell 0 _ rfl,A0.cell 1 _ rfl,A0.cell 2 _ rfl,A0.cell 3 _ rfl⟩,instK.own_rd oq⟩:InstP _ w.heap.size 0 (⟨has,.slice ba batch.length bk,batch,.slice va rounds.length vk,rounds,.slice da dec.length dk,dec⟩:InstQ)) A0.lt hl h0).mono ?_
 rintro e x5 ⟨q2,rfl,e2,o2,n2,g2,hb5⟩
 have hx4:=R0.lt
 replace hS:=hS.below hb5
 have hU:Out [b] _ _:=Out.of_below hb5
 clear hb5
 replace A0:=A0.outs hU (fun hk=>by simp only [List.mem_singleton] at hk;omega)
 replace R0:=R0.outs hU (fun hk=>by simp only [List.mem_singleton] at hk;omega)
 replace oq:=instK.own_out oq hU (fun k hk hk' => by simp only [List.mem_singleton] at hk';subst hk';exact hbq hk)
 replace hg:=hg.trans hU
 clear hU
 have HD2:Hid (frC (InstQ.e (⟨has,.slice ba batch.length bk,batch,.slice va rounds.length vk,rounds,.slice da dec.length dk,dec⟩:InstQ)) r1 vl=0→insF q2.e=0):=fun h9=>by rw [e2];exact ins_first h9
 have L2' : ∀ k∈instK.foot q2,w.heap.size + 1 < k:=fun k hk=>by have:=g2 k hk;omega
 clear e2 g2
 generalize frC (InstQ.e (⟨has,.slice ba batch.length bk,batch,.slice va rounds.length vk,rounds,.slice da dec.length dk,dec⟩:InstQ)) r1 vl=D at *
 obtain ⟨ch,cb,cbs,cr,crs,cd,cds⟩:=q2
 obtain ⟨c1,c4,rfl⟩:∃ a c,cb=.slice a cbs.length c:=o2.1.shape
 obtain ⟨c2,c5,rfl⟩:∃ a c,cr=.slice a crs.length c:=o2.2.1.shape
 obtain ⟨c3,c6,rfl⟩:∃ a c,cd=.slice a cds.length c:=o2.2.2.shape
 have L2:=L2'
 have L2m:=instK.own_lt o2
 have hg8l:w.heap.size + 1 < x5.heap.size:=R0.lt
 have G8:=Blk.new x5 88 #[.int .i64 D,.int .i64 0,.bool false,.bool false,.int .i64 0,.bool ch,.slice c1 cbs.length c4,.slice c2 crs.length c5,.slice c3 cds.length c6]
 have hbA:Below x5.heap.size x5 (x5.alloc (.cells #[.int .i64 D,.int .i64 0,.bool false,.bool false,.int .i64 0,.bool ch,.slice c1 cbs.length c4,.slice c2 crs.length c5,.slice c3 cds.length c6] 88)):=by go_grown
 replace hS:=hS.below hbA
 have hU:Out [b] _ _:=Out.of_below hbA
 clear hbA
 replace A0:=A0.outs hU (fun hk=>by simp only [List.mem_singleton] at hk;omega)
 replace R0:=R0.outs hU (fun hk=>by simp only [List.mem_singleton] at hk;omega)
 replace oq:=instK.own_out oq hU (fun k hk hk' => by simp only [List.mem_singleton] at hk';subst hk';exact hbq hk)
 replace o2:=instK.own_out o2 hU (fun k hk hk' => by simp only [List.mem_singleton] at hk';have:=L2 k hk;omega)
 replace hg:=hg.trans hU
 clear hU
 go_wp2_with fail
 generalize hg8:x5.heap.size=g8 at *
 generalize x5.alloc (.cells #[.int .i64 D,.int .i64 0,.bool false,.bool false,.int .i64 0,.bool ch,.slice c1 cbs.length c4,.slice c2 crs.length c5,.slice c3 cds.length c6] 88)=X5 at *
 clear hg8
 refine (next_any B b (T + 4) 7 X5 hS (by omega) (by omega)).mono ?_
 rintro e X ⟨sw,rfl,hsw,hSn,hgn⟩
 replace hS:=hSn
 have hU:Out [b] _ _:=Out.of_grown hgn
 clear hgn hSn
 replace A0:=A0.outs hU (fun hk=>by simp only [List.mem_singleton] at hk;omega)
 replace R0:=R0.outs hU (fun hk=>by simp only [List.mem_singleton] at hk;omega)
 replace G8:=G8.outs hU (fun hk=>by simp only [List.mem_singleton] at hk;omega)
 replace oq:=instK.own_out oq hU (fun k hk hk' => by simp only [List.mem_singleton] at hk';subst hk';exact hbq hk)
 replace o2:=instK.own_out o2 hU (fun k hk hk' => by simp only [List.mem_singleton] at hk';have:=L2 k hk;omega)
 replace hg:=hg.trans hU
 clear hU
 obtain ⟨sn,rfl⟩:=Int.eq_ofNat_of_zero_le hsw.1
 have hsn:sn < 7:=by have:=hsw.2.1 (by omega);omega
 clear hsw L2m L2' hr2 hr1 hvl
 have h7:sn=0∨sn=1∨sn=2∨sn=3∨sn=4∨sn=5∨sn=6:=by omega
 clear hsn
 rcases h7 with rfl | rfl | rfl | rfl | rfl | rfl | rfl
 ·skip
  go_wp2_with fail
  refine (l6DrawBatch_any B b (T + 5) X hS (by omega)).mono ?_
  rintro e x7 ⟨vn,bt,rfl,hbl,hba,oT,nT,gT,hSn,hgn⟩
  replace hS:=hSn
  have hU:Out [b] _ _:=Out.of_grown hgn
  clear hgn hSn
  replace A0:=A0.outs hU (fun hk=>by simp only [List.mem_singleton] at hk;omega)
  replace R0:=R0.outs hU (fun hk=>by simp only [List.mem_singleton] at hk;omega)
  replace G8:=G8.outs hU (fun hk=>by simp only [List.mem_singleton] at hk;omega)
  replace oq:=instK.own_out oq hU (fun k hk hk' => by simp only [List.mem_singleton] at hk';subst hk';exact hbq hk)
  replace o2:=instK.own_out o2 hU (fun k hk hk' => by simp only [List.mem_singleton] at hk';have:=L2 k hk;omega)
  replace hg:=hg.trans hU
  clear hU
  obtain ⟨na,nk,rfl⟩:=oT.shape
  have hbt:bt.length + nmL TxnQ.n bt≤1048576:=by
   have:=nmL_bound TxnQ.n 3 bt (fun p hp=>hba p hp)
   omega
  go_wp2_with fail
  refine (l6Set_any w.heap.size 0 (⟨has,.slice ba batch.length bk,batch,.slice va rounds.length vk,rounds,.slice da dec.length dk,dec⟩:InstQ) _ bt x7 (⟨⟨A0.cell 0 _ rfl,A0.cell 1 _ rfl,A0.cell 2 _ rfl,A0.cell 3 _ rfl⟩,instK.own_rd oq⟩:InstP _ w.heap.size 0 (⟨has,.slice ba batch.length bk,batch,.slice va rounds.length vk,rounds,.slice da dec.length dk,dec⟩:InstQ)) A0.lt hl h0 oT.at hbt).mono ?_
  rintro e x9 ⟨q9,rfl,e9,o9,n9,g9,hb9⟩
  clear o2 n2 L2 HD2
  have hs9:=hb9.size
  have h8lt:=G8.lt
  replace hS:=hS.below hb9
  have hU:Out [b] _ _:=Out.of_below hb9
  clear hb9
  replace A0:=A0.outs hU (fun hk=>by simp only [List.mem_singleton] at hk;omega)
  replace R0:=R0.outs hU (fun hk=>by simp only [List.mem_singleton] at hk;omega)
  replace G8:=G8.outs hU (fun hk=>by simp only [List.mem_singleton] at hk;omega)
  replace oq:=instK.own_out oq hU (fun k hk hk' => by simp only [List.mem_singleton] at hk';subst hk';exact hbq hk)
  replace hg:=hg.trans hU
  clear hU
  have HD2:Hid (sbC (InstQ.e (⟨has,.slice ba batch.length bk,batch,.slice va rounds.length vk,rounds,.slice da dec.length dk,dec⟩:InstQ)) (bt.map TxnQ.e)=0→insF q9.e=0):=fun h9=>by rw [e9];exact ins_of (rgt_set h9)
  have n2:=n9
  have L2:∀ k∈instK.foot q9,g8 < k:=fun k hk=>by have:=g9 k hk;omega
  have o2:=o9
  clear n9 g9 o9 e9
  generalize sbC (InstQ.e (⟨has,.slice ba batch.length bk,batch,.slice va rounds.length vk,rounds,.slice da dec.length dk,dec⟩:InstQ)) (bt.map TxnQ.e)=E0 at *
  obtain ⟨eh,eb,ebs,er,ers,ed,eds⟩:=q9
  obtain ⟨e1,e4,rfl⟩:∃ a c,eb=.slice a ebs.length c:=o2.1.shape
  obtain ⟨e2,e5,rfl⟩:∃ a c,er=.slice a ers.length c:=o2.2.1.shape
  obtain ⟨e3,e6,rfl⟩:∃ a c,ed=.slice a eds.length c:=o2.2.2.shape
  have Gr:=G8.row #[.int .i64 E0,.int .i64 0,.bool false,.bool false,.int .i64 0,.bool eh,.slice e1 ebs.length e4,.slice e2 ers.length e5,.slice e3 eds.length e6]
  have hsr8:(Tryz.prog.info? 88).map (·.size)=some (#[.int .i64 E0,.int .i64 0,.bool false,.bool false,.int .i64 0,.bool eh,.slice e1 ebs.length e4,.slice e2 ers.length e5,.slice e3 eds.length e6]:Array Value).size:=sz_res
  have hU8:=out_row x9 g8 #[.int .i64 E0,.int .i64 0,.bool false,.bool false,.int .i64 0,.bool eh,.slice e1 ebs.length e4,.slice e2 ers.length e5,.slice e3 eds.length e6]
  have hS9:Src B (x9.setRow g8 #[.int .i64 E0,.int .i64 0,.bool false,.bool false,.int .i64 0,.bool eh,.slice e1 ebs.length e4,.slice e2 ers.length e5,.slice e3 eds.length e6]) b (T + 5 + 50):=hS.out hU8 (by simp only [List.mem_singleton];omega) (fun k hk=>by simp only [List.mem_singleton] at hk;omega)
  have A9:=A0.outs hU8 (fun hk=>by simp only [List.mem_singleton] at hk;omega)
  have R9:=R0.outs hU8 (fun hk=>by simp only [List.mem_singleton] at hk;omega)
  have oq9:=instK.own_out oq hU8 (fun k hk hk' => by simp only [List.mem_singleton] at hk';have:=HLQ.out k hk;omega)
  have o29:=instK.own_out o2 hU8 (fun k hk hk' => by simp only [List.mem_singleton] at hk';have:=L2 k hk;omega)
  have hg9:Out [b] w (x9.setRow g8 #[.int .i64 E0,.int .i64 0,.bool false,.bool false,.int .i64 0,.bool eh,.slice e1 ebs.length e4,.slice e2 ers.length e5,.slice e3 eds.length e6]):=⟨hU8.os.trans hg.os,hU8.tape.trans hg.tape,hU8.output.trans hg.output,Nat.le_trans hg.size hU8.size,fun k hk hne=>(hU8.block k (Nat.lt_of_lt_of_le hk hg.size) (by simp only [List.mem_singleton];omega)).trans (hg.block k hk hne)⟩
  clear oq o2 hg A0 R0 hU8 hS
  have oq:=oq9
  have o2:=o29
  have hg:=hg9
  have A0:=A9
  have R0:=R9
  have hS:=hS9
  have G9:=Gr
  have g0:=G9.cell 0 _ rfl
  obtain ⟨p0,p1,p2,p3⟩:=A0.cel4
  have p5:=G9.cell 5 _ rfl
  have p6:=G9.cell 6 _ rfl
  have p7:=G9.cell 7 _ rfl
  have p8:=G9.cell 8 _ rfl
  clear oq9 o29 hg9 A9 R9 Gr hS9
  by_cases hD:E0=0
  case neg=>
   have hD' : (E0 != 0)=true:=by simpa using hD
   have Rr:=R0.row #[.bool has,.slice ba batch.length bk,.slice va rounds.length vk,.slice da dec.length dk]
   have hsr:(Tryz.prog.info? 28).map (·.size)=some (#[.bool has,.slice ba batch.length bk,.slice va rounds.length vk,.slice da dec.length dk]:Array Value).size:=sz_inst
   have hUr:=out_row (x9.setRow g8 #[.int .i64 E0,.int .i64 0,.bool false,.bool false,.int .i64 0,.bool eh,.slice e1 ebs.length e4,.slice e2 ers.length e5,.slice e3 eds.length e6]) (w.heap.size + 1) #[.bool has,.slice ba batch.length bk,.slice va rounds.length vk,.slice da dec.length dk]
   have HZ:Hid (instK.own ((x9.setRow g8 #[.int .i64 E0,.int .i64 0,.bool false,.bool false,.int .i64 0,.bool eh,.slice e1 ebs.length e4,.slice e2 ers.length e5,.slice e3 eds.length e6]).setRow (w.heap.size + 1) #[.bool has,.slice ba batch.length bk,.slice va rounds.length vk,.slice da dec.length dk]) (⟨has,.slice ba batch.length bk,batch,.slice va rounds.length vk,rounds,.slice da dec.length dk,dec⟩:InstQ)∧Src B ((x9.setRow g8 #[.int .i64 E0,.int .i64 0,.bool false,.bool false,.int .i64 0,.bool eh,.slice e1 ebs.length e4,.slice e2 ers.length e5,.slice e3 eds.length e6]).setRow (w.heap.size + 1) #[.bool has,.slice ba batch.length bk,.slice va rounds.length vk,.slice da dec.length dk]) b (T + 60)∧w.grownBy ((x9.setRow g8 #[.int .i64 E0,.int .i64 0,.bool false,.bool false,.int .i64 0,.bool eh,.slice e1 ebs.length e4,.slice e2 ers.length e5,.slice e3 eds.length e6]).setRow (w.heap.size + 1) #[.bool has,.slice ba batch.length bk,.slice va rounds.length vk,.slice da dec.length dk]) (some b)):=by
    refine ⟨instK.own_out oq hUr (fun k hk hk' => by simp only [List.mem_singleton] at hk';have:=HLQ.out k hk;omega),?_,?_⟩
    ·exact (hS.out hUr (by simp only [List.mem_singleton];omega) (fun k hk=>by simp only [List.mem_singleton] at hk;omega)).mono (by omega)
    ·exact grown_out (wr:=x9.setRow g8 #[.int .i64 E0,.int .i64 0,.bool false,.bool false,.int .i64 0,.bool eh,.slice e1 ebs.length e4,.slice e2 ers.length e5,.slice e3 eds.length e6]) ⟨hg.os,hg.tape,hg.output,hg.size,fun k hk hne=>hg.block k hk (by simp only [List.mem_singleton];intro e;exact hne (by rw [e]))⟩ hUr (fun k hk=>by simp only [List.mem_singleton] at hk;omega)
   have HI:Hid (insF (InstQ.e (⟨has,.slice ba batch.length bk,batch,.slice va rounds.length vk,rounds,.slice da dec.length dk,dec⟩:InstQ))=0∧(instK.foot (⟨has,.slice ba batch.length bk,batch,.slice va rounds.length vk,rounds,.slice da dec.length dk,dec⟩:InstQ)).Nodup∧∀ k∈instK.foot (⟨has,.slice ba batch.length bk,batch,.slice va rounds.length vk,rounds,.slice da dec.length dk,dec⟩:InstQ),k∈instK.foot (⟨has,.slice ba batch.length bk,batch,.slice va rounds.length vk,rounds,.slice da dec.length dk,dec⟩:InstQ)∨w.heap.size≤k):=⟨HI0.out,HNQ.out,fun k hk=>Or.inl hk⟩
   clear oq o2 hS hg hUr
   go_wp2_with (first | (refine st_row (by kernel_rfl) 88 _ _ rfl _ #[.int .i64 E0,.int .i64 0,.bool false,.bool false,.int .i64 0,.bool eh,.slice e1 ebs.length e4,.slice e2 ers.length e5,.slice e3 eds.length e6] rfl rfl 88 _ G8 hsr8 rfl (by simp [Value.oneCell']) ?_) | (refine st_row (by kernel_rfl) 28 _ _ rfl _ #[.bool has,.slice ba batch.length bk,.slice va rounds.length vk,.slice da dec.length dk] rfl rfl 28 _ R0 hsr rfl (by simp [Value.oneCell']) ?_))
   obtain ⟨q0,q1,q2,q3⟩:=Rr.cel4
   exact bodyPost_ret (v:=.agg #[.bool has,.slice ba batch.length bk,.slice va rounds.length vk,.slice da dec.length dk]) (by simp [results,Tryz.results36,go_sem,q0,q1,q2,q3]) rfl ⟨(⟨has,.slice ba batch.length bk,batch,.slice va rounds.length vk,rounds,.slice da dec.length dk,dec⟩:InstQ),rfl,HI.out.1,HZ.out.1,HI.out.2.1,HI.out.2.2,HZ.out.2.1,HZ.out.2.2⟩

  case pos=>
   have HDD:Hid (insF (InstQ.e (⟨eh,.slice e1 ebs.length e4,ebs,.slice e2 ers.length e5,ers,.slice e3 eds.length e6,eds⟩:InstQ))=0):=HD2.out hD
   subst hD
   have Rr:=R0.row #[.bool eh,.slice e1 ebs.length e4,.slice e2 ers.length e5,.slice e3 eds.length e6]
   have hsr:(Tryz.prog.info? 28).map (·.size)=some (#[.bool eh,.slice e1 ebs.length e4,.slice e2 ers.length e5,.slice e3 eds.length e6]:Array Value).size:=sz_inst
   have hUr:=out_row (x9.setRow g8 #[.int .i64 0,.int .i64 0,.bool false,.bool false,.int .i64 0,.bool eh,.slice e1 ebs.length e4,.slice e2 ers.length e5,.slice e3 eds.length e6]) (w.heap.size + 1) #[.bool eh,.slice e1 ebs.length e4,.slice e2 ers.length e5,.slice e3 eds.length e6]
   have HZ:Hid (instK.own ((x9.setRow g8 #[.int .i64 0,.int .i64 0,.bool false,.bool false,.int .i64 0,.bool eh,.slice e1 ebs.length e4,.slice e2 ers.length e5,.slice e3 eds.length e6]).setRow (w.heap.size + 1) #[.bool eh,.slice e1 ebs.length e4,.slice e2 ers.length e5,.slice e3 eds.length e6]) (⟨eh,.slice e1 ebs.length e4,ebs,.slice e2 ers.length e5,ers,.slice e3 eds.length e6,eds⟩:InstQ)∧Src B ((x9.setRow g8 #[.int .i64 0,.int .i64 0,.bool false,.bool false,.int .i64 0,.bool eh,.slice e1 ebs.length e4,.slice e2 ers.length e5,.slice e3 eds.length e6]).setRow (w.heap.size + 1) #[.bool eh,.slice e1 ebs.length e4,.slice e2 ers.length e5,.slice e3 eds.length e6]) b (T + 60)∧w.grownBy ((x9.setRow g8 #[.int .i64 0,.int .i64 0,.bool false,.bool false,.int .i64 0,.bool eh,.slice e1 ebs.length e4,.slice e2 ers.length e5,.slice e3 eds.length e6]).setRow (w.heap.size + 1) #[.bool eh,.slice e1 ebs.length e4,.slice e2 ers.length e5,.slice e3 eds.length e6]) (some b)):=by
    refine ⟨instK.own_out o2 hUr (fun k hk hk' => by simp only [List.mem_singleton] at hk';have:=L2 k hk;omega),?_,?_⟩
    ·exact (hS.out hUr (by simp only [List.mem_singleton];omega) (fun k hk=>by simp only [List.mem_singleton] at hk;omega)).mono (by omega)
    ·exact grown_out (wr:=x9.setRow g8 #[.int .i64 0,.int .i64 0,.bool false,.bool false,.int .i64 0,.bool eh,.slice e1 ebs.length e4,.slice e2 ers.length e5,.slice e3 eds.length e6]) ⟨hg.os,hg.tape,hg.output,hg.size,fun k hk hne=>hg.block k hk (by simp only [List.mem_singleton];intro e;exact hne (by rw [e]))⟩ hUr (fun k hk=>by simp only [List.mem_singleton] at hk;omega)
   have HI:Hid (insF (InstQ.e (⟨eh,.slice e1 ebs.length e4,ebs,.slice e2 ers.length e5,ers,.slice e3 eds.length e6,eds⟩:InstQ))=0∧(instK.foot (⟨eh,.slice e1 ebs.length e4,ebs,.slice e2 ers.length e5,ers,.slice e3 eds.length e6,eds⟩:InstQ)).Nodup∧∀ k∈instK.foot (⟨eh,.slice e1 ebs.length e4,ebs,.slice e2 ers.length e5,ers,.slice e3 eds.length e6,eds⟩:InstQ),k∈instK.foot (⟨has,.slice ba batch.length bk,batch,.slice va rounds.length vk,rounds,.slice da dec.length dk,dec⟩:InstQ)∨w.heap.size≤k):=⟨HDD.out,n2,fun k hk=>Or.inr (by have:=L2 k hk;omega)⟩
   clear oq o2 hS hg hUr
   go_wp2_with (first | (refine st_row (by kernel_rfl) 88 _ _ rfl _ #[.int .i64 0,.int .i64 0,.bool false,.bool false,.int .i64 0,.bool eh,.slice e1 ebs.length e4,.slice e2 ers.length e5,.slice e3 eds.length e6] rfl rfl 88 _ G8 hsr8 rfl (by simp [Value.oneCell']) ?_) | (refine st_row (by kernel_rfl) 28 _ _ rfl _ #[.bool eh,.slice e1 ebs.length e4,.slice e2 ers.length e5,.slice e3 eds.length e6] rfl rfl 28 _ R0 hsr rfl (by simp [Value.oneCell']) ?_))
   obtain ⟨q0,q1,q2,q3⟩:=Rr.cel4
   exact bodyPost_ret (v:=.agg #[.bool eh,.slice e1 ebs.length e4,.slice e2 ers.length e5,.slice e3 eds.length e6]) (by simp [results,Tryz.results36,go_sem,q0,q1,q2,q3]) rfl ⟨(⟨eh,.slice e1 ebs.length e4,ebs,.slice e2 ers.length e5,ers,.slice e3 eds.length e6,eds⟩:InstQ),rfl,HI.out.1,HZ.out.1,HI.out.2.1,HI.out.2.2,HZ.out.2.1,HZ.out.2.2⟩
 ·skip
  go_wp2_with fail
  refine (l6Propose_any w.heap.size 0 (⟨has,.slice ba batch.length bk,batch,.slice va rounds.length vk,rounds,.slice da dec.length dk,dec⟩:InstQ) r1 r2 mk X (⟨⟨A0.cell 0 _ rfl,A0.cell 1 _ rfl,A0.cell 2 _ rfl,A0.cell 3 _ rfl⟩,instK.own_rd oq⟩:InstP _ w.heap.size 0 (⟨has,.slice ba batch.length bk,batch,.slice va rounds.length vk,rounds,.slice da dec.length dk,dec⟩:InstQ)) A0.lt hl h0).mono ?_
  rintro e x9 ⟨q9,rfl,e9,o9,n9,g9,hb9⟩
  clear o2 n2 L2 HD2
  have hs9:=hb9.size
  have h8lt:=G8.lt
  replace hS:=hS.below hb9
  have hU:Out [b] _ _:=Out.of_below hb9
  clear hb9
  replace A0:=A0.outs hU (fun hk=>by simp only [List.mem_singleton] at hk;omega)
  replace R0:=R0.outs hU (fun hk=>by simp only [List.mem_singleton] at hk;omega)
  replace G8:=G8.outs hU (fun hk=>by simp only [List.mem_singleton] at hk;omega)
  replace oq:=instK.own_out oq hU (fun k hk hk' => by simp only [List.mem_singleton] at hk';subst hk';exact hbq hk)
  replace hg:=hg.trans hU
  clear hU
  have HD2:Hid (prC (InstQ.e (⟨has,.slice ba batch.length bk,batch,.slice va rounds.length vk,rounds,.slice da dec.length dk,dec⟩:InstQ)) r1 r2 mk=0→insF q9.e=0):=fun h9=>by rw [e9];exact (ins_propose h9).1
  have n2:=n9
  have L2:∀ k∈instK.foot q9,g8 < k:=fun k hk=>by have:=g9 k hk;omega
  have o2:=o9
  clear n9 g9 o9 e9
  generalize prC (InstQ.e (⟨has,.slice ba batch.length bk,batch,.slice va rounds.length vk,rounds,.slice da dec.length dk,dec⟩:InstQ)) r1 r2 mk=E0 at *
  obtain ⟨eh,eb,ebs,er,ers,ed,eds⟩:=q9
  obtain ⟨e1,e4,rfl⟩:∃ a c,eb=.slice a ebs.length c:=o2.1.shape
  obtain ⟨e2,e5,rfl⟩:∃ a c,er=.slice a ers.length c:=o2.2.1.shape
  obtain ⟨e3,e6,rfl⟩:∃ a c,ed=.slice a eds.length c:=o2.2.2.shape
  have Gr:=G8.row #[.int .i64 E0,.int .i64 0,.bool false,.bool false,.int .i64 0,.bool eh,.slice e1 ebs.length e4,.slice e2 ers.length e5,.slice e3 eds.length e6]
  have hsr8:(Tryz.prog.info? 88).map (·.size)=some (#[.int .i64 E0,.int .i64 0,.bool false,.bool false,.int .i64 0,.bool eh,.slice e1 ebs.length e4,.slice e2 ers.length e5,.slice e3 eds.length e6]:Array Value).size:=sz_res
  have hU8:=out_row x9 g8 #[.int .i64 E0,.int .i64 0,.bool false,.bool false,.int .i64 0,.bool eh,.slice e1 ebs.length e4,.slice e2 ers.length e5,.slice e3 eds.length e6]
  have hS9:Src B (x9.setRow g8 #[.int .i64 E0,.int .i64 0,.bool false,.bool false,.int .i64 0,.bool eh,.slice e1 ebs.length e4,.slice e2 ers.length e5,.slice e3 eds.length e6]) b (T + 5):=hS.out hU8 (by simp only [List.mem_singleton];omega) (fun k hk=>by simp only [List.mem_singleton] at hk;omega)
  have A9:=A0.outs hU8 (fun hk=>by simp only [List.mem_singleton] at hk;omega)
  have R9:=R0.outs hU8 (fun hk=>by simp only [List.mem_singleton] at hk;omega)
  have oq9:=instK.own_out oq hU8 (fun k hk hk' => by simp only [List.mem_singleton] at hk';have:=HLQ.out k hk;omega)
  have o29:=instK.own_out o2 hU8 (fun k hk hk' => by simp only [List.mem_singleton] at hk';have:=L2 k hk;omega)
  have hg9:Out [b] w (x9.setRow g8 #[.int .i64 E0,.int .i64 0,.bool false,.bool false,.int .i64 0,.bool eh,.slice e1 ebs.length e4,.slice e2 ers.length e5,.slice e3 eds.length e6]):=⟨hU8.os.trans hg.os,hU8.tape.trans hg.tape,hU8.output.trans hg.output,Nat.le_trans hg.size hU8.size,fun k hk hne=>(hU8.block k (Nat.lt_of_lt_of_le hk hg.size) (by simp only [List.mem_singleton];omega)).trans (hg.block k hk hne)⟩
  clear oq o2 hg A0 R0 hU8 hS
  have oq:=oq9
  have o2:=o29
  have hg:=hg9
  have A0:=A9
  have R0:=R9
  have hS:=hS9
  have G9:=Gr
  have g0:=G9.cell 0 _ rfl
  obtain ⟨p0,p1,p2,p3⟩:=A0.cel4
  have p5:=G9.cell 5 _ rfl
  have p6:=G9.cell 6 _ rfl
  have p7:=G9.cell 7 _ rfl
  have p8:=G9.cell 8 _ rfl
  clear oq9 o29 hg9 A9 R9 Gr hS9
  by_cases hD:E0=0
  case neg=>
   have hD' : (E0 != 0)=true:=by simpa using hD
   have Rr:=R0.row #[.bool has,.slice ba batch.length bk,.slice va rounds.length vk,.slice da dec.length dk]
   have hsr:(Tryz.prog.info? 28).map (·.size)=some (#[.bool has,.slice ba batch.length bk,.slice va rounds.length vk,.slice da dec.length dk]:Array Value).size:=sz_inst
   have hUr:=out_row (x9.setRow g8 #[.int .i64 E0,.int .i64 0,.bool false,.bool false,.int .i64 0,.bool eh,.slice e1 ebs.length e4,.slice e2 ers.length e5,.slice e3 eds.length e6]) (w.heap.size + 1) #[.bool has,.slice ba batch.length bk,.slice va rounds.length vk,.slice da dec.length dk]
   have HZ:Hid (instK.own ((x9.setRow g8 #[.int .i64 E0,.int .i64 0,.bool false,.bool false,.int .i64 0,.bool eh,.slice e1 ebs.length e4,.slice e2 ers.length e5,.slice e3 eds.length e6]).setRow (w.heap.size + 1) #[.bool has,.slice ba batch.length bk,.slice va rounds.length vk,.slice da dec.length dk]) (⟨has,.slice ba batch.length bk,batch,.slice va rounds.length vk,rounds,.slice da dec.length dk,dec⟩:InstQ)∧Src B ((x9.setRow g8 #[.int .i64 E0,.int .i64 0,.bool false,.bool false,.int .i64 0,.bool eh,.slice e1 ebs.length e4,.slice e2 ers.length e5,.slice e3 eds.length e6]).setRow (w.heap.size + 1) #[.bool has,.slice ba batch.length bk,.slice va rounds.length vk,.slice da dec.length dk]) b (T + 60)∧w.grownBy ((x9.setRow g8 #[.int .i64 E0,.int .i64 0,.bool false,.bool false,.int .i64 0,.bool eh,.slice e1 ebs.length e4,.slice e2 ers.length e5,.slice e3 eds.length e6]).setRow (w.heap.size + 1) #[.bool has,.slice ba batch.length bk,.slice va rounds.length vk,.slice da dec.length dk]) (some b)):=by
    refine ⟨instK.own_out oq hUr (fun k hk hk' => by simp only [List.mem_singleton] at hk';have:=HLQ.out k hk;omega),?_,?_⟩
    ·exact (hS.out hUr (by simp only [List.mem_singleton];omega) (fun k hk=>by simp only [List.mem_singleton] at hk;omega)).mono (by omega)
    ·exact grown_out (wr:=x9.setRow g8 #[.int .i64 E0,.int .i64 0,.bool false,.bool false,.int .i64 0,.bool eh,.slice e1 ebs.length e4,.slice e2 ers.length e5,.slice e3 eds.length e6]) ⟨hg.os,hg.tape,hg.output,hg.size,fun k hk hne=>hg.block k hk (by simp only [List.mem_singleton];intro e;exact hne (by rw [e]))⟩ hUr (fun k hk=>by simp only [List.mem_singleton] at hk;omega)
   have HI:Hid (insF (InstQ.e (⟨has,.slice ba batch.length bk,batch,.slice va rounds.length vk,rounds,.slice da dec.length dk,dec⟩:InstQ))=0∧(instK.foot (⟨has,.slice ba batch.length bk,batch,.slice va rounds.length vk,rounds,.slice da dec.length dk,dec⟩:InstQ)).Nodup∧∀ k∈instK.foot (⟨has,.slice ba batch.length bk,batch,.slice va rounds.length vk,rounds,.slice da dec.length dk,dec⟩:InstQ),k∈instK.foot (⟨has,.slice ba batch.length bk,batch,.slice va rounds.length vk,rounds,.slice da dec.length dk,dec⟩:InstQ)∨w.heap.size≤k):=⟨HI0.out,HNQ.out,fun k hk=>Or.inl hk⟩
   clear oq o2 hS hg hUr
   go_wp2_with (first | (refine st_row (by kernel_rfl) 88 _ _ rfl _ #[.int .i64 E0,.int .i64 0,.bool false,.bool false,.int .i64 0,.bool eh,.slice e1 ebs.length e4,.slice e2 ers.length e5,.slice e3 eds.length e6] rfl rfl 88 _ G8 hsr8 rfl (by simp [Value.oneCell']) ?_) | (refine st_row (by kernel_rfl) 28 _ _ rfl _ #[.bool has,.slice ba batch.length bk,.slice va rounds.length vk,.slice da dec.length dk] rfl rfl 28 _ R0 hsr rfl (by simp [Value.oneCell']) ?_))
   obtain ⟨q0,q1,q2,q3⟩:=Rr.cel4
   exact bodyPost_ret (v:=.agg #[.bool has,.slice ba batch.length bk,.slice va rounds.length vk,.slice da dec.length dk]) (by simp [results,Tryz.results36,go_sem,q0,q1,q2,q3]) rfl ⟨(⟨has,.slice ba batch.length bk,batch,.slice va rounds.length vk,rounds,.slice da dec.length dk,dec⟩:InstQ),rfl,HI.out.1,HZ.out.1,HI.out.2.1,HI.out.2.2,HZ.out.2.1,HZ.out.2.2⟩

  case pos=>
   have HDD:Hid (insF (InstQ.e (⟨eh,.slice e1 ebs.length e4,ebs,.slice e2 ers.length e5,ers,.slice e3 eds.length e6,eds⟩:InstQ))=0):=HD2.out hD
   subst hD
   have Rr:=R0.row #[.bool eh,.slice e1 ebs.length e4,.slice e2 ers.length e5,.slice e3 eds.length e6]
   have hsr:(Tryz.prog.info? 28).map (·.size)=some (#[.bool eh,.slice e1 ebs.length e4,.slice e2 ers.length e5,.slice e3 eds.length e6]:Array Value).size:=sz_inst
   have hUr:=out_row (x9.setRow g8 #[.int .i64 0,.int .i64 0,.bool false,.bool false,.int .i64 0,.bool eh,.slice e1 ebs.length e4,.slice e2 ers.length e5,.slice e3 eds.length e6]) (w.heap.size + 1) #[.bool eh,.slice e1 ebs.length e4,.slice e2 ers.length e5,.slice e3 eds.length e6]
   have HZ:Hid (instK.own ((x9.setRow g8 #[.int .i64 0,.int .i64 0,.bool false,.bool false,.int .i64 0,.bool eh,.slice e1 ebs.length e4,.slice e2 ers.length e5,.slice e3 eds.length e6]).setRow (w.heap.size + 1) #[.bool eh,.slice e1 ebs.length e4,.slice e2 ers.length e5,.slice e3 eds.length e6]) (⟨eh,.slice e1 ebs.length e4,ebs,.slice e2 ers.length e5,ers,.slice e3 eds.length e6,eds⟩:InstQ)∧Src B ((x9.setRow g8 #[.int .i64 0,.int .i64 0,.bool false,.bool false,.int .i64 0,.bool eh,.slice e1 ebs.length e4,.slice e2 ers.length e5,.slice e3 eds.length e6]).setRow (w.heap.size + 1) #[.bool eh,.slice e1 ebs.length e4,.slice e2 ers.length e5,.slice e3 eds.length e6]) b (T + 60)∧w.grownBy ((x9.setRow g8 #[.int .i64 0,.int .i64 0,.bool false,.bool false,.int .i64 0,.bool eh,.slice e1 ebs.length e4,.slice e2 ers.length e5,.slice e3 eds.length e6]).setRow (w.heap.size + 1) #[.bool eh,.slice e1 ebs.length e4,.slice e2 ers.length e5,.slice e3 eds.length e6]) (some b)):=by
    refine ⟨instK.own_out o2 hUr (fun k hk hk' => by simp only [List.mem_singleton] at hk';have:=L2 k hk;omega),?_,?_⟩
    ·exact (hS.out hUr (by simp only [List.mem_singleton];omega) (fun k hk=>by simp only [List.mem_singleton] at hk;omega)).mono (by omega)
    ·exact grown_out (wr:=x9.setRow g8 #[.int .i64 0,.int .i64 0,.bool false,.bool false,.int .i64 0,.bool eh,.slice e1 ebs.length e4,.slice e2 ers.length e5,.slice e3 eds.length e6]) ⟨hg.os,hg.tape,hg.output,hg.size,fun k hk hne=>hg.block k hk (by simp only [List.mem_singleton];intro e;exact hne (by rw [e]))⟩ hUr (fun k hk=>by simp only [List.mem_singleton] at hk;omega)
   have HI:Hid (insF (InstQ.e (⟨eh,.slice e1 ebs.length e4,ebs,.slice e2 ers.length e5,ers,.slice e3 eds.length e6,eds⟩:InstQ))=0∧(instK.foot (⟨eh,.slice e1 ebs.length e4,ebs,.slice e2 ers.length e5,ers,.slice e3 eds.length e6,eds⟩:InstQ)).Nodup∧∀ k∈instK.foot (⟨eh,.slice e1 ebs.length e4,ebs,.slice e2 ers.length e5,ers,.slice e3 eds.length e6,eds⟩:InstQ),k∈instK.foot (⟨has,.slice ba batch.length bk,batch,.slice va rounds.length vk,rounds,.slice da dec.length dk,dec⟩:InstQ)∨w.heap.size≤k):=⟨HDD.out,n2,fun k hk=>Or.inr (by have:=L2 k hk;omega)⟩
   clear oq o2 hS hg hUr
   go_wp2_with (first | (refine st_row (by kernel_rfl) 88 _ _ rfl _ #[.int .i64 0,.int .i64 0,.bool false,.bool false,.int .i64 0,.bool eh,.slice e1 ebs.length e4,.slice e2 ers.length e5,.slice e3 eds.length e6] rfl rfl 88 _ G8 hsr8 rfl (by simp [Value.oneCell']) ?_) | (refine st_row (by kernel_rfl) 28 _ _ rfl _ #[.bool eh,.slice e1 ebs.length e4,.slice e2 ers.length e5,.slice e3 eds.length e6] rfl rfl 28 _ R0 hsr rfl (by simp [Value.oneCell']) ?_))
   obtain ⟨q0,q1,q2,q3⟩:=Rr.cel4
   exact bodyPost_ret (v:=.agg #[.bool eh,.slice e1 ebs.length e4,.slice e2 ers.length e5,.slice e3 eds.length e6]) (by simp [results,Tryz.results36,go_sem,q0,q1,q2,q3]) rfl ⟨(⟨eh,.slice e1 ebs.length e4,ebs,.slice e2 ers.length e5,ers,.slice e3 eds.length e6,eds⟩:InstQ),rfl,HI.out.1,HZ.out.1,HI.out.2.1,HI.out.2.2,HZ.out.2.1,HZ.out.2.2⟩
 ·skip
  go_wp2_with fail
  refine (l6Propose_any w.heap.size 0 (⟨has,.slice ba batch.length bk,batch,.slice va rounds.length vk,rounds,.slice da dec.length dk,dec⟩:InstQ) r1 r2 mk X (⟨⟨A0.cell 0 _ rfl,A0.cell 1 _ rfl,A0.cell 2 _ rfl,A0.cell 3 _ rfl⟩,instK.own_rd oq⟩:InstP _ w.heap.size 0 (⟨has,.slice ba batch.length bk,batch,.slice va rounds.length vk,rounds,.slice da dec.length dk,dec⟩:InstQ)) A0.lt hl h0).mono ?_
  rintro e x9 ⟨q9,rfl,e9,o9,n9,g9,hb9⟩
  clear o2 n2 L2 HD2
  have hs9:=hb9.size
  have h8lt:=G8.lt
  replace hS:=hS.below hb9
  have hU:Out [b] _ _:=Out.of_below hb9
  clear hb9
  replace A0:=A0.outs hU (fun hk=>by simp only [List.mem_singleton] at hk;omega)
  replace R0:=R0.outs hU (fun hk=>by simp only [List.mem_singleton] at hk;omega)
  replace G8:=G8.outs hU (fun hk=>by simp only [List.mem_singleton] at hk;omega)
  replace oq:=instK.own_out oq hU (fun k hk hk' => by simp only [List.mem_singleton] at hk';subst hk';exact hbq hk)
  replace hg:=hg.trans hU
  clear hU
  have HD2:Hid (prC (InstQ.e (⟨has,.slice ba batch.length bk,batch,.slice va rounds.length vk,rounds,.slice da dec.length dk,dec⟩:InstQ)) r1 r2 mk=0→insF q9.e=0):=fun h9=>by rw [e9];exact (ins_propose h9).1
  have n2:=n9
  have L2:∀ k∈instK.foot q9,g8 < k:=fun k hk=>by have:=g9 k hk;omega
  have o2:=o9
  clear n9 g9 o9 e9
  generalize prC (InstQ.e (⟨has,.slice ba batch.length bk,batch,.slice va rounds.length vk,rounds,.slice da dec.length dk,dec⟩:InstQ)) r1 r2 mk=E0 at *
  obtain ⟨eh,eb,ebs,er,ers,ed,eds⟩:=q9
  obtain ⟨e1,e4,rfl⟩:∃ a c,eb=.slice a ebs.length c:=o2.1.shape
  obtain ⟨e2,e5,rfl⟩:∃ a c,er=.slice a ers.length c:=o2.2.1.shape
  obtain ⟨e3,e6,rfl⟩:∃ a c,ed=.slice a eds.length c:=o2.2.2.shape
  have Gr:=G8.row #[.int .i64 E0,.int .i64 0,.bool false,.bool false,.int .i64 0,.bool eh,.slice e1 ebs.length e4,.slice e2 ers.length e5,.slice e3 eds.length e6]
  have hsr8:(Tryz.prog.info? 88).map (·.size)=some (#[.int .i64 E0,.int .i64 0,.bool false,.bool false,.int .i64 0,.bool eh,.slice e1 ebs.length e4,.slice e2 ers.length e5,.slice e3 eds.length e6]:Array Value).size:=sz_res
  have hU8:=out_row x9 g8 #[.int .i64 E0,.int .i64 0,.bool false,.bool false,.int .i64 0,.bool eh,.slice e1 ebs.length e4,.slice e2 ers.length e5,.slice e3 eds.length e6]
  have hS9:Src B (x9.setRow g8 #[.int .i64 E0,.int .i64 0,.bool false,.bool false,.int .i64 0,.bool eh,.slice e1 ebs.length e4,.slice e2 ers.length e5,.slice e3 eds.length e6]) b (T + 5):=hS.out hU8 (by simp only [List.mem_singleton];omega) (fun k hk=>by simp only [List.mem_singleton] at hk;omega)
  have A9:=A0.outs hU8 (fun hk=>by simp only [List.mem_singleton] at hk;omega)
  have R9:=R0.outs hU8 (fun hk=>by simp only [List.mem_singleton] at hk;omega)
  have oq9:=instK.own_out oq hU8 (fun k hk hk' => by simp only [List.mem_singleton] at hk';have:=HLQ.out k hk;omega)
  have o29:=instK.own_out o2 hU8 (fun k hk hk' => by simp only [List.mem_singleton] at hk';have:=L2 k hk;omega)
  have hg9:Out [b] w (x9.setRow g8 #[.int .i64 E0,.int .i64 0,.bool false,.bool false,.int .i64 0,.bool eh,.slice e1 ebs.length e4,.slice e2 ers.length e5,.slice e3 eds.length e6]):=⟨hU8.os.trans hg.os,hU8.tape.trans hg.tape,hU8.output.trans hg.output,Nat.le_trans hg.size hU8.size,fun k hk hne=>(hU8.block k (Nat.lt_of_lt_of_le hk hg.size) (by simp only [List.mem_singleton];omega)).trans (hg.block k hk hne)⟩
  clear oq o2 hg A0 R0 hU8 hS
  have oq:=oq9
  have o2:=o29
  have hg:=hg9
  have A0:=A9
  have R0:=R9
  have hS:=hS9
  have G9:=Gr
  have g0:=G9.cell 0 _ rfl
  obtain ⟨p0,p1,p2,p3⟩:=A0.cel4
  have p5:=G9.cell 5 _ rfl
  have p6:=G9.cell 6 _ rfl
  have p7:=G9.cell 7 _ rfl
  have p8:=G9.cell 8 _ rfl
  clear oq9 o29 hg9 A9 R9 Gr hS9
  by_cases hD:E0=0
  case neg=>
   have hD' : (E0 != 0)=true:=by simpa using hD
   have Rr:=R0.row #[.bool has,.slice ba batch.length bk,.slice va rounds.length vk,.slice da dec.length dk]
   have hsr:(Tryz.prog.info? 28).map (·.size)=some (#[.bool has,.slice ba batch.length bk,.slice va rounds.length vk,.slice da dec.length dk]:Array Value).size:=sz_inst
   have hUr:=out_row (x9.setRow g8 #[.int .i64 E0,.int .i64 0,.bool false,.bool false,.int .i64 0,.bool eh,.slice e1 ebs.length e4,.slice e2 ers.length e5,.slice e3 eds.length e6]) (w.heap.size + 1) #[.bool has,.slice ba batch.length bk,.slice va rounds.length vk,.slice da dec.length dk]
   have HZ:Hid (instK.own ((x9.setRow g8 #[.int .i64 E0,.int .i64 0,.bool false,.bool false,.int .i64 0,.bool eh,.slice e1 ebs.length e4,.slice e2 ers.length e5,.slice e3 eds.length e6]).setRow (w.heap.size + 1) #[.bool has,.slice ba batch.length bk,.slice va rounds.length vk,.slice da dec.length dk]) (⟨has,.slice ba batch.length bk,batch,.slice va rounds.length vk,rounds,.slice da dec.length dk,dec⟩:InstQ)∧Src B ((x9.setRow g8 #[.int .i64 E0,.int .i64 0,.bool false,.bool false,.int .i64 0,.bool eh,.slice e1 ebs.length e4,.slice e2 ers.length e5,.slice e3 eds.length e6]).setRow (w.heap.size + 1) #[.bool has,.slice ba batch.length bk,.slice va rounds.length vk,.slice da dec.length dk]) b (T + 60)∧w.grownBy ((x9.setRow g8 #[.int .i64 E0,.int .i64 0,.bool false,.bool false,.int .i64 0,.bool eh,.slice e1 ebs.length e4,.slice e2 ers.length e5,.slice e3 eds.length e6]).setRow (w.heap.size + 1) #[.bool has,.slice ba batch.length bk,.slice va rounds.length vk,.slice da dec.length dk]) (some b)):=by
    refine ⟨instK.own_out oq hUr (fun k hk hk' => by simp only [List.mem_singleton] at hk';have:=HLQ.out k hk;omega),?_,?_⟩
    ·exact (hS.out hUr (by simp only [List.mem_singleton];omega) (fun k hk=>by simp only [List.mem_singleton] at hk;omega)).mono (by omega)
    ·exact grown_out (wr:=x9.setRow g8 #[.int .i64 E0,.int .i64 0,.bool false,.bool false,.int .i64 0,.bool eh,.slice e1 ebs.length e4,.slice e2 ers.length e5,.slice e3 eds.length e6]) ⟨hg.os,hg.tape,hg.output,hg.size,fun k hk hne=>hg.block k hk (by simp only [List.mem_singleton];intro e;exact hne (by rw [e]))⟩ hUr (fun k hk=>by simp only [List.mem_singleton] at hk;omega)
   have HI:Hid (insF (InstQ.e (⟨has,.slice ba batch.length bk,batch,.slice va rounds.length vk,rounds,.slice da dec.length dk,dec⟩:InstQ))=0∧(instK.foot (⟨has,.slice ba batch.length bk,batch,.slice va rounds.length vk,rounds,.slice da dec.length dk,dec⟩:InstQ)).Nodup∧∀ k∈instK.foot (⟨has,.slice ba batch.length bk,batch,.slice va rounds.length vk,rounds,.slice da dec.length dk,dec⟩:InstQ),k∈instK.foot (⟨has,.slice ba batch.length bk,batch,.slice va rounds.length vk,rounds,.slice da dec.length dk,dec⟩:InstQ)∨w.heap.size≤k):=⟨HI0.out,HNQ.out,fun k hk=>Or.inl hk⟩
   clear oq o2 hS hg hUr
   go_wp2_with (first | (refine st_row (by kernel_rfl) 88 _ _ rfl _ #[.int .i64 E0,.int .i64 0,.bool false,.bool false,.int .i64 0,.bool eh,.slice e1 ebs.length e4,.slice e2 ers.length e5,.slice e3 eds.length e6] rfl rfl 88 _ G8 hsr8 rfl (by simp [Value.oneCell']) ?_) | (refine st_row (by kernel_rfl) 28 _ _ rfl _ #[.bool has,.slice ba batch.length bk,.slice va rounds.length vk,.slice da dec.length dk] rfl rfl 28 _ R0 hsr rfl (by simp [Value.oneCell']) ?_))
   obtain ⟨q0,q1,q2,q3⟩:=Rr.cel4
   exact bodyPost_ret (v:=.agg #[.bool has,.slice ba batch.length bk,.slice va rounds.length vk,.slice da dec.length dk]) (by simp [results,Tryz.results36,go_sem,q0,q1,q2,q3]) rfl ⟨(⟨has,.slice ba batch.length bk,batch,.slice va rounds.length vk,rounds,.slice da dec.length dk,dec⟩:InstQ),rfl,HI.out.1,HZ.out.1,HI.out.2.1,HI.out.2.2,HZ.out.2.1,HZ.out.2.2⟩

  case pos=>
   have HDD:Hid (insF (InstQ.e (⟨eh,.slice e1 ebs.length e4,ebs,.slice e2 ers.length e5,ers,.slice e3 eds.length e6,eds⟩:InstQ))=0):=HD2.out hD
   subst hD
   have Rr:=R0.row #[.bool eh,.slice e1 ebs.length e4,.slice e2 ers.length e5,.slice e3 eds.length e6]
   have hsr:(Tryz.prog.info? 28).map (·.size)=some (#[.bool eh,.slice e1 ebs.length e4,.slice e2 ers.length e5,.slice e3 eds.length e6]:Array Value).size:=sz_inst
   have hUr:=out_row (x9.setRow g8 #[.int .i64 0,.int .i64 0,.bool false,.bool false,.int .i64 0,.bool eh,.slice e1 ebs.length e4,.slice e2 ers.length e5,.slice e3 eds.length e6]) (w.heap.size + 1) #[.bool eh,.slice e1 ebs.length e4,.slice e2 ers.length e5,.slice e3 eds.length e6]
   have HZ:Hid (instK.own ((x9.setRow g8 #[.int .i64 0,.int .i64 0,.bool false,.bool false,.int .i64 0,.bool eh,.slice e1 ebs.length e4,.slice e2 ers.length e5,.slice e3 eds.length e6]).setRow (w.heap.size + 1) #[.bool eh,.slice e1 ebs.length e4,.slice e2 ers.length e5,.slice e3 eds.length e6]) (⟨eh,.slice e1 ebs.length e4,ebs,.slice e2 ers.length e5,ers,.slice e3 eds.length e6,eds⟩:InstQ)∧Src B ((x9.setRow g8 #[.int .i64 0,.int .i64 0,.bool false,.bool false,.int .i64 0,.bool eh,.slice e1 ebs.length e4,.slice e2 ers.length e5,.slice e3 eds.length e6]).setRow (w.heap.size + 1) #[.bool eh,.slice e1 ebs.length e4,.slice e2 ers.length e5,.slice e3 eds.length e6]) b (T + 60)∧w.grownBy ((x9.setRow g8 #[.int .i64 0,.int .i64 0,.bool false,.bool false,.int .i64 0,.bool eh,.slice e1 ebs.length e4,.slice e2 ers.length e5,.slice e3 eds.length e6]).setRow (w.heap.size + 1) #[.bool eh,.slice e1 ebs.length e4,.slice e2 ers.length e5,.slice e3 eds.length e6]) (some b)):=by
    refine ⟨instK.own_out o2 hUr (fun k hk hk' => by simp only [List.mem_singleton] at hk';have:=L2 k hk;omega),?_,?_⟩
    ·exact (hS.out hUr (by simp only [List.mem_singleton];omega) (fun k hk=>by simp only [List.mem_singleton] at hk;omega)).mono (by omega)
    ·exact grown_out (wr:=x9.setRow g8 #[.int .i64 0,.int .i64 0,.bool false,.bool false,.int .i64 0,.bool eh,.slice e1 ebs.length e4,.slice e2 ers.length e5,.slice e3 eds.length e6]) ⟨hg.os,hg.tape,hg.output,hg.size,fun k hk hne=>hg.block k hk (by simp only [List.mem_singleton];intro e;exact hne (by rw [e]))⟩ hUr (fun k hk=>by simp only [List.mem_singleton] at hk;omega)
   have HI:Hid (insF (InstQ.e (⟨eh,.slice e1 ebs.length e4,ebs,.slice e2 ers.length e5,ers,.slice e3 eds.length e6,eds⟩:InstQ))=0∧(instK.foot (⟨eh,.slice e1 ebs.length e4,ebs,.slice e2 ers.length e5,ers,.slice e3 eds.length e6,eds⟩:InstQ)).Nodup∧∀ k∈instK.foot (⟨eh,.slice e1 ebs.length e4,ebs,.slice e2 ers.length e5,ers,.slice e3 eds.length e6,eds⟩:InstQ),k∈instK.foot (⟨has,.slice ba batch.length bk,batch,.slice va rounds.length vk,rounds,.slice da dec.length dk,dec⟩:InstQ)∨w.heap.size≤k):=⟨HDD.out,n2,fun k hk=>Or.inr (by have:=L2 k hk;omega)⟩
   clear oq o2 hS hg hUr
   go_wp2_with (first | (refine st_row (by kernel_rfl) 88 _ _ rfl _ #[.int .i64 0,.int .i64 0,.bool false,.bool false,.int .i64 0,.bool eh,.slice e1 ebs.length e4,.slice e2 ers.length e5,.slice e3 eds.length e6] rfl rfl 88 _ G8 hsr8 rfl (by simp [Value.oneCell']) ?_) | (refine st_row (by kernel_rfl) 28 _ _ rfl _ #[.bool eh,.slice e1 ebs.length e4,.slice e2 ers.length e5,.slice e3 eds.length e6] rfl rfl 28 _ R0 hsr rfl (by simp [Value.oneCell']) ?_))
   obtain ⟨q0,q1,q2,q3⟩:=Rr.cel4
   exact bodyPost_ret (v:=.agg #[.bool eh,.slice e1 ebs.length e4,.slice e2 ers.length e5,.slice e3 eds.length e6]) (by simp [results,Tryz.results36,go_sem,q0,q1,q2,q3]) rfl ⟨(⟨eh,.slice e1 ebs.length e4,ebs,.slice e2 ers.length e5,ers,.slice e3 eds.length e6,eds⟩:InstQ),rfl,HI.out.1,HZ.out.1,HI.out.2.1,HI.out.2.2,HZ.out.2.1,HZ.out.2.2⟩
 ·skip
  go_wp2_with fail
  refine (l6Propose_any w.heap.size 0 (⟨has,.slice ba batch.length bk,batch,.slice va rounds.length vk,rounds,.slice da dec.length dk,dec⟩:InstQ) r1 r2 mk X (⟨⟨A0.cell 0 _ rfl,A0.cell 1 _ rfl,A0.cell 2 _ rfl,A0.cell 3 _ rfl⟩,instK.own_rd oq⟩:InstP _ w.heap.size 0 (⟨has,.slice ba batch.length bk,batch,.slice va rounds.length vk,rounds,.slice da dec.length dk,dec⟩:InstQ)) A0.lt hl h0).mono ?_
  rintro e x9 ⟨q9,rfl,e9,o9,n9,g9,hb9⟩
  clear o2 n2 L2 HD2
  have hs9:=hb9.size
  have h8lt:=G8.lt
  replace hS:=hS.below hb9
  have hU:Out [b] _ _:=Out.of_below hb9
  clear hb9
  replace A0:=A0.outs hU (fun hk=>by simp only [List.mem_singleton] at hk;omega)
  replace R0:=R0.outs hU (fun hk=>by simp only [List.mem_singleton] at hk;omega)
  replace G8:=G8.outs hU (fun hk=>by simp only [List.mem_singleton] at hk;omega)
  replace oq:=instK.own_out oq hU (fun k hk hk' => by simp only [List.mem_singleton] at hk';subst hk';exact hbq hk)
  replace hg:=hg.trans hU
  clear hU
  have HD2:Hid (prC (InstQ.e (⟨has,.slice ba batch.length bk,batch,.slice va rounds.length vk,rounds,.slice da dec.length dk,dec⟩:InstQ)) r1 r2 mk=0→insF q9.e=0):=fun h9=>by rw [e9];exact (ins_propose h9).1
  have n2:=n9
  have L2:∀ k∈instK.foot q9,g8 < k:=fun k hk=>by have:=g9 k hk;omega
  have o2:=o9
  clear n9 g9 o9 e9
  generalize prC (InstQ.e (⟨has,.slice ba batch.length bk,batch,.slice va rounds.length vk,rounds,.slice da dec.length dk,dec⟩:InstQ)) r1 r2 mk=E0 at *
  obtain ⟨eh,eb,ebs,er,ers,ed,eds⟩:=q9
  obtain ⟨e1,e4,rfl⟩:∃ a c,eb=.slice a ebs.length c:=o2.1.shape
  obtain ⟨e2,e5,rfl⟩:∃ a c,er=.slice a ers.length c:=o2.2.1.shape
  obtain ⟨e3,e6,rfl⟩:∃ a c,ed=.slice a eds.length c:=o2.2.2.shape
  have Gr:=G8.row #[.int .i64 E0,.int .i64 0,.bool false,.bool false,.int .i64 0,.bool eh,.slice e1 ebs.length e4,.slice e2 ers.length e5,.slice e3 eds.length e6]
  have hsr8:(Tryz.prog.info? 88).map (·.size)=some (#[.int .i64 E0,.int .i64 0,.bool false,.bool false,.int .i64 0,.bool eh,.slice e1 ebs.length e4,.slice e2 ers.length e5,.slice e3 eds.length e6]:Array Value).size:=sz_res
  have hU8:=out_row x9 g8 #[.int .i64 E0,.int .i64 0,.bool false,.bool false,.int .i64 0,.bool eh,.slice e1 ebs.length e4,.slice e2 ers.length e5,.slice e3 eds.length e6]
  have hS9:Src B (x9.setRow g8 #[.int .i64 E0,.int .i64 0,.bool false,.bool false,.int .i64 0,.bool eh,.slice e1 ebs.length e4,.slice e2 ers.length e5,.slice e3 eds.length e6]) b (T + 5):=hS.out hU8 (by simp only [List.mem_singleton];omega) (fun k hk=>by simp only [List.mem_singleton] at hk;omega)
  have A9:=A0.outs hU8 (fun hk=>by simp only [List.mem_singleton] at hk;omega)
  have R9:=R0.outs hU8 (fun hk=>by simp only [List.mem_singleton] at hk;omega)
  have oq9:=instK.own_out oq hU8 (fun k hk hk' => by simp only [List.mem_singleton] at hk';have:=HLQ.out k hk;omega)
  have o29:=instK.own_out o2 hU8 (fun k hk hk' => by simp only [List.mem_singleton] at hk';have:=L2 k hk;omega)
  have hg9:Out [b] w (x9.setRow g8 #[.int .i64 E0,.int .i64 0,.bool false,.bool false,.int .i64 0,.bool eh,.slice e1 ebs.length e4,.slice e2 ers.length e5,.slice e3 eds.length e6]):=⟨hU8.os.trans hg.os,hU8.tape.trans hg.tape,hU8.output.trans hg.output,Nat.le_trans hg.size hU8.size,fun k hk hne=>(hU8.block k (Nat.lt_of_lt_of_le hk hg.size) (by simp only [List.mem_singleton];omega)).trans (hg.block k hk hne)⟩
  clear oq o2 hg A0 R0 hU8 hS
  have oq:=oq9
  have o2:=o29
  have hg:=hg9
  have A0:=A9
  have R0:=R9
  have hS:=hS9
  have G9:=Gr
  have g0:=G9.cell 0 _ rfl
  obtain ⟨p0,p1,p2,p3⟩:=A0.cel4
  have p5:=G9.cell 5 _ rfl
  have p6:=G9.cell 6 _ rfl
  have p7:=G9.cell 7 _ rfl
  have p8:=G9.cell 8 _ rfl
  clear oq9 o29 hg9 A9 R9 Gr hS9
  by_cases hD:E0=0
  case neg=>
   have hD' : (E0 != 0)=true:=by simpa using hD
   have Rr:=R0.row #[.bool has,.slice ba batch.length bk,.slice va rounds.length vk,.slice da dec.length dk]
   have hsr:(Tryz.prog.info? 28).map (·.size)=some (#[.bool has,.slice ba batch.length bk,.slice va rounds.length vk,.slice da dec.length dk]:Array Value).size:=sz_inst
   have hUr:=out_row (x9.setRow g8 #[.int .i64 E0,.int .i64 0,.bool false,.bool false,.int .i64 0,.bool eh,.slice e1 ebs.length e4,.slice e2 ers.length e5,.slice e3 eds.length e6]) (w.heap.size + 1) #[.bool has,.slice ba batch.length bk,.slice va rounds.length vk,.slice da dec.length dk]
   have HZ:Hid (instK.own ((x9.setRow g8 #[.int .i64 E0,.int .i64 0,.bool false,.bool false,.int .i64 0,.bool eh,.slice e1 ebs.length e4,.slice e2 ers.length e5,.slice e3 eds.length e6]).setRow (w.heap.size + 1) #[.bool has,.slice ba batch.length bk,.slice va rounds.length vk,.slice da dec.length dk]) (⟨has,.slice ba batch.length bk,batch,.slice va rounds.length vk,rounds,.slice da dec.length dk,dec⟩:InstQ)∧Src B ((x9.setRow g8 #[.int .i64 E0,.int .i64 0,.bool false,.bool false,.int .i64 0,.bool eh,.slice e1 ebs.length e4,.slice e2 ers.length e5,.slice e3 eds.length e6]).setRow (w.heap.size + 1) #[.bool has,.slice ba batch.length bk,.slice va rounds.length vk,.slice da dec.length dk]) b (T + 60)∧w.grownBy ((x9.setRow g8 #[.int .i64 E0,.int .i64 0,.bool false,.bool false,.int .i64 0,.bool eh,.slice e1 ebs.length e4,.slice e2 ers.length e5,.slice e3 eds.length e6]).setRow (w.heap.size + 1) #[.bool has,.slice ba batch.length bk,.slice va rounds.length vk,.slice da dec.length dk]) (some b)):=by
    refine ⟨instK.own_out oq hUr (fun k hk hk' => by simp only [List.mem_singleton] at hk';have:=HLQ.out k hk;omega),?_,?_⟩
    ·exact (hS.out hUr (by simp only [List.mem_singleton];omega) (fun k hk=>by simp only [List.mem_singleton] at hk;omega)).mono (by omega)
    ·exact grown_out (wr:=x9.setRow g8 #[.int .i64 E0,.int .i64 0,.bool false,.bool false,.int .i64 0,.bool eh,.slice e1 ebs.length e4,.slice e2 ers.length e5,.slice e3 eds.length e6]) ⟨hg.os,hg.tape,hg.output,hg.size,fun k hk hne=>hg.block k hk (by simp only [List.mem_singleton];intro e;exact hne (by rw [e]))⟩ hUr (fun k hk=>by simp only [List.mem_singleton] at hk;omega)
   have HI:Hid (insF (InstQ.e (⟨has,.slice ba batch.length bk,batch,.slice va rounds.length vk,rounds,.slice da dec.length dk,dec⟩:InstQ))=0∧(instK.foot (⟨has,.slice ba batch.length bk,batch,.slice va rounds.length vk,rounds,.slice da dec.length dk,dec⟩:InstQ)).Nodup∧∀ k∈instK.foot (⟨has,.slice ba batch.length bk,batch,.slice va rounds.length vk,rounds,.slice da dec.length dk,dec⟩:InstQ),k∈instK.foot (⟨has,.slice ba batch.length bk,batch,.slice va rounds.length vk,rounds,.slice da dec.length dk,dec⟩:InstQ)∨w.heap.size≤k):=⟨HI0.out,HNQ.out,fun k hk=>Or.inl hk⟩
   clear oq o2 hS hg hUr
   go_wp2_with (first | (refine st_row (by kernel_rfl) 88 _ _ rfl _ #[.int .i64 E0,.int .i64 0,.bool false,.bool false,.int .i64 0,.bool eh,.slice e1 ebs.length e4,.slice e2 ers.length e5,.slice e3 eds.length e6] rfl rfl 88 _ G8 hsr8 rfl (by simp [Value.oneCell']) ?_) | (refine st_row (by kernel_rfl) 28 _ _ rfl _ #[.bool has,.slice ba batch.length bk,.slice va rounds.length vk,.slice da dec.length dk] rfl rfl 28 _ R0 hsr rfl (by simp [Value.oneCell']) ?_))
   obtain ⟨q0,q1,q2,q3⟩:=Rr.cel4
   exact bodyPost_ret (v:=.agg #[.bool has,.slice ba batch.length bk,.slice va rounds.length vk,.slice da dec.length dk]) (by simp [results,Tryz.results36,go_sem,q0,q1,q2,q3]) rfl ⟨(⟨has,.slice ba batch.length bk,batch,.slice va rounds.length vk,rounds,.slice da dec.length dk,dec⟩:InstQ),rfl,HI.out.1,HZ.out.1,HI.out.2.1,HI.out.2.2,HZ.out.2.1,HZ.out.2.2⟩

  case pos=>
   have HDD:Hid (insF (InstQ.e (⟨eh,.slice e1 ebs.length e4,ebs,.slice e2 ers.length e5,ers,.slice e3 eds.length e6,eds⟩:InstQ))=0):=HD2.out hD
   subst hD
   have Rr:=R0.row #[.bool eh,.slice e1 ebs.length e4,.slice e2 ers.length e5,.slice e3 eds.length e6]
   have hsr:(Tryz.prog.info? 28).map (·.size)=some (#[.bool eh,.slice e1 ebs.length e4,.slice e2 ers.length e5,.slice e3 eds.length e6]:Array Value).size:=sz_inst
   have hUr:=out_row (x9.setRow g8 #[.int .i64 0,.int .i64 0,.bool false,.bool false,.int .i64 0,.bool eh,.slice e1 ebs.length e4,.slice e2 ers.length e5,.slice e3 eds.length e6]) (w.heap.size + 1) #[.bool eh,.slice e1 ebs.length e4,.slice e2 ers.length e5,.slice e3 eds.length e6]
   have HZ:Hid (instK.own ((x9.setRow g8 #[.int .i64 0,.int .i64 0,.bool false,.bool false,.int .i64 0,.bool eh,.slice e1 ebs.length e4,.slice e2 ers.length e5,.slice e3 eds.length e6]).setRow (w.heap.size + 1) #[.bool eh,.slice e1 ebs.length e4,.slice e2 ers.length e5,.slice e3 eds.length e6]) (⟨eh,.slice e1 ebs.length e4,ebs,.slice e2 ers.length e5,ers,.slice e3 eds.length e6,eds⟩:InstQ)∧Src B ((x9.setRow g8 #[.int .i64 0,.int .i64 0,.bool false,.bool false,.int .i64 0,.bool eh,.slice e1 ebs.length e4,.slice e2 ers.length e5,.slice e3 eds.length e6]).setRow (w.heap.size + 1) #[.bool eh,.slice e1 ebs.length e4,.slice e2 ers.length e5,.slice e3 eds.length e6]) b (T + 60)∧w.grownBy ((x9.setRow g8 #[.int .i64 0,.int .i64 0,.bool false,.bool false,.int .i64 0,.bool eh,.slice e1 ebs.length e4,.slice e2 ers.length e5,.slice e3 eds.length e6]).setRow (w.heap.size + 1) #[.bool eh,.slice e1 ebs.length e4,.slice e2 ers.length e5,.slice e3 eds.length e6]) (some b)):=by
    refine ⟨instK.own_out o2 hUr (fun k hk hk' => by simp only [List.mem_singleton] at hk';have:=L2 k hk;omega),?_,?_⟩
    ·exact (hS.out hUr (by simp only [List.mem_singleton];omega) (fun k hk=>by simp only [List.mem_singleton] at hk;omega)).mono (by omega)
    ·exact grown_out (wr:=x9.setRow g8 #[.int .i64 0,.int .i64 0,.bool false,.bool false,.int .i64 0,.bool eh,.slice e1 ebs.length e4,.slice e2 ers.length e5,.slice e3 eds.length e6]) ⟨hg.os,hg.tape,hg.output,hg.size,fun k hk hne=>hg.block k hk (by simp only [List.mem_singleton];intro e;exact hne (by rw [e]))⟩ hUr (fun k hk=>by simp only [List.mem_singleton] at hk;omega)
   have HI:Hid (insF (InstQ.e (⟨eh,.slice e1 ebs.length e4,ebs,.slice e2 ers.length e5,ers,.slice e3 eds.length e6,eds⟩:InstQ))=0∧(instK.foot (⟨eh,.slice e1 ebs.length e4,ebs,.slice e2 ers.length e5,ers,.slice e3 eds.length e6,eds⟩:InstQ)).Nodup∧∀ k∈instK.foot (⟨eh,.slice e1 ebs.length e4,ebs,.slice e2 ers.length e5,ers,.slice e3 eds.length e6,eds⟩:InstQ),k∈instK.foot (⟨has,.slice ba batch.length bk,batch,.slice va rounds.length vk,rounds,.slice da dec.length dk,dec⟩:InstQ)∨w.heap.size≤k):=⟨HDD.out,n2,fun k hk=>Or.inr (by have:=L2 k hk;omega)⟩
   clear oq o2 hS hg hUr
   go_wp2_with (first | (refine st_row (by kernel_rfl) 88 _ _ rfl _ #[.int .i64 0,.int .i64 0,.bool false,.bool false,.int .i64 0,.bool eh,.slice e1 ebs.length e4,.slice e2 ers.length e5,.slice e3 eds.length e6] rfl rfl 88 _ G8 hsr8 rfl (by simp [Value.oneCell']) ?_) | (refine st_row (by kernel_rfl) 28 _ _ rfl _ #[.bool eh,.slice e1 ebs.length e4,.slice e2 ers.length e5,.slice e3 eds.length e6] rfl rfl 28 _ R0 hsr rfl (by simp [Value.oneCell']) ?_))
   obtain ⟨q0,q1,q2,q3⟩:=Rr.cel4
   exact bodyPost_ret (v:=.agg #[.bool eh,.slice e1 ebs.length e4,.slice e2 ers.length e5,.slice e3 eds.length e6]) (by simp [results,Tryz.results36,go_sem,q0,q1,q2,q3]) rfl ⟨(⟨eh,.slice e1 ebs.length e4,ebs,.slice e2 ers.length e5,ers,.slice e3 eds.length e6,eds⟩:InstQ),rfl,HI.out.1,HZ.out.1,HI.out.2.1,HI.out.2.2,HZ.out.2.1,HZ.out.2.2⟩
 ·skip
  go_wp2_with fail
  refine (next_any B b (T + 5) 2 X hS (by omega) (by omega)).mono ?_
  rintro e x7 ⟨cn,rfl,hcn,hSn,hgn⟩
  replace hS:=hSn
  have hU:Out [b] _ _:=Out.of_grown hgn
  clear hgn hSn
  replace A0:=A0.outs hU (fun hk=>by simp only [List.mem_singleton] at hk;omega)
  replace R0:=R0.outs hU (fun hk=>by simp only [List.mem_singleton] at hk;omega)
  replace G8:=G8.outs hU (fun hk=>by simp only [List.mem_singleton] at hk;omega)
  replace oq:=instK.own_out oq hU (fun k hk hk' => by simp only [List.mem_singleton] at hk';subst hk';exact hbq hk)
  replace o2:=instK.own_out o2 hU (fun k hk hk' => by simp only [List.mem_singleton] at hk';have:=L2 k hk;omega)
  replace hg:=hg.trans hU
  clear hU
  go_wp2_with fail
  refine (l6GoOn_any w.heap.size 0 (⟨has,.slice ba batch.length bk,batch,.slice va rounds.length vk,rounds,.slice da dec.length dk,dec⟩:InstQ) r1 r2 mk cn x7 (⟨⟨A0.cell 0 _ rfl,A0.cell 1 _ rfl,A0.cell 2 _ rfl,A0.cell 3 _ rfl⟩,instK.own_rd oq⟩:InstP _ w.heap.size 0 (⟨has,.slice ba batch.length bk,batch,.slice va rounds.length vk,rounds,.slice da dec.length dk,dec⟩:InstQ)) A0.lt hl h0).mono ?_
  rintro e x9 ⟨q9,rfl,e9,o9,n9,g9,hb9⟩
  clear o2 n2 L2 HD2
  have hs9:=hb9.size
  have h8lt:=G8.lt
  replace hS:=hS.below hb9
  have hU:Out [b] _ _:=Out.of_below hb9
  clear hb9
  replace A0:=A0.outs hU (fun hk=>by simp only [List.mem_singleton] at hk;omega)
  replace R0:=R0.outs hU (fun hk=>by simp only [List.mem_singleton] at hk;omega)
  replace G8:=G8.outs hU (fun hk=>by simp only [List.mem_singleton] at hk;omega)
  replace oq:=instK.own_out oq hU (fun k hk hk' => by simp only [List.mem_singleton] at hk';subst hk';exact hbq hk)
  replace hg:=hg.trans hU
  clear hU
  have HD2:Hid (goC (InstQ.e (⟨has,.slice ba batch.length bk,batch,.slice va rounds.length vk,rounds,.slice da dec.length dk,dec⟩:InstQ)) r1 r2 mk cn=0→insF q9.e=0):=fun h9=>by rw [e9];exact (ins_go h9).1
  have n2:=n9
  have L2:∀ k∈instK.foot q9,g8 < k:=fun k hk=>by have:=g9 k hk;omega
  have o2:=o9
  clear n9 g9 o9 e9
  generalize goZ (InstQ.e (⟨has,.slice ba batch.length bk,batch,.slice va rounds.length vk,rounds,.slice da dec.length dk,dec⟩:InstQ)) r1 r2 mk cn=K0 at *
  generalize goD (InstQ.e (⟨has,.slice ba batch.length bk,batch,.slice va rounds.length vk,rounds,.slice da dec.length dk,dec⟩:InstQ)) r1 r2 mk cn=K1 at *
  generalize goK (InstQ.e (⟨has,.slice ba batch.length bk,batch,.slice va rounds.length vk,rounds,.slice da dec.length dk,dec⟩:InstQ)) r1 r2 mk cn=K2 at *
  generalize goV (InstQ.e (⟨has,.slice ba batch.length bk,batch,.slice va rounds.length vk,rounds,.slice da dec.length dk,dec⟩:InstQ)) r1 r2 mk cn=K3 at *
  generalize goC (InstQ.e (⟨has,.slice ba batch.length bk,batch,.slice va rounds.length vk,rounds,.slice da dec.length dk,dec⟩:InstQ)) r1 r2 mk cn=E0 at *
  obtain ⟨eh,eb,ebs,er,ers,ed,eds⟩:=q9
  obtain ⟨e1,e4,rfl⟩:∃ a c,eb=.slice a ebs.length c:=o2.1.shape
  obtain ⟨e2,e5,rfl⟩:∃ a c,er=.slice a ers.length c:=o2.2.1.shape
  obtain ⟨e3,e6,rfl⟩:∃ a c,ed=.slice a eds.length c:=o2.2.2.shape
  have Gr:=G8.row #[.int .i64 E0,.int .i64 K0,.bool K1,.bool K2,.int .i64 K3,.bool eh,.slice e1 ebs.length e4,.slice e2 ers.length e5,.slice e3 eds.length e6]
  have hsr8:(Tryz.prog.info? 88).map (·.size)=some (#[.int .i64 E0,.int .i64 K0,.bool K1,.bool K2,.int .i64 K3,.bool eh,.slice e1 ebs.length e4,.slice e2 ers.length e5,.slice e3 eds.length e6]:Array Value).size:=sz_res
  have hU8:=out_row x9 g8 #[.int .i64 E0,.int .i64 K0,.bool K1,.bool K2,.int .i64 K3,.bool eh,.slice e1 ebs.length e4,.slice e2 ers.length e5,.slice e3 eds.length e6]
  have hS9:Src B (x9.setRow g8 #[.int .i64 E0,.int .i64 K0,.bool K1,.bool K2,.int .i64 K3,.bool eh,.slice e1 ebs.length e4,.slice e2 ers.length e5,.slice e3 eds.length e6]) b (T + 5 + 1):=hS.out hU8 (by simp only [List.mem_singleton];omega) (fun k hk=>by simp only [List.mem_singleton] at hk;omega)
  have A9:=A0.outs hU8 (fun hk=>by simp only [List.mem_singleton] at hk;omega)
  have R9:=R0.outs hU8 (fun hk=>by simp only [List.mem_singleton] at hk;omega)
  have oq9:=instK.own_out oq hU8 (fun k hk hk' => by simp only [List.mem_singleton] at hk';have:=HLQ.out k hk;omega)
  have o29:=instK.own_out o2 hU8 (fun k hk hk' => by simp only [List.mem_singleton] at hk';have:=L2 k hk;omega)
  have hg9:Out [b] w (x9.setRow g8 #[.int .i64 E0,.int .i64 K0,.bool K1,.bool K2,.int .i64 K3,.bool eh,.slice e1 ebs.length e4,.slice e2 ers.length e5,.slice e3 eds.length e6]):=⟨hU8.os.trans hg.os,hU8.tape.trans hg.tape,hU8.output.trans hg.output,Nat.le_trans hg.size hU8.size,fun k hk hne=>(hU8.block k (Nat.lt_of_lt_of_le hk hg.size) (by simp only [List.mem_singleton];omega)).trans (hg.block k hk hne)⟩
  clear oq o2 hg A0 R0 hU8 hS
  have oq:=oq9
  have o2:=o29
  have hg:=hg9
  have A0:=A9
  have R0:=R9
  have hS:=hS9
  have G9:=Gr
  have g0:=G9.cell 0 _ rfl
  obtain ⟨p0,p1,p2,p3⟩:=A0.cel4
  have p5:=G9.cell 5 _ rfl
  have p6:=G9.cell 6 _ rfl
  have p7:=G9.cell 7 _ rfl
  have p8:=G9.cell 8 _ rfl
  clear oq9 o29 hg9 A9 R9 Gr hS9
  by_cases hD:E0=0
  case neg=>
   have hD' : (E0 != 0)=true:=by simpa using hD
   have Rr:=R0.row #[.bool has,.slice ba batch.length bk,.slice va rounds.length vk,.slice da dec.length dk]
   have hsr:(Tryz.prog.info? 28).map (·.size)=some (#[.bool has,.slice ba batch.length bk,.slice va rounds.length vk,.slice da dec.length dk]:Array Value).size:=sz_inst
   have hUr:=out_row (x9.setRow g8 #[.int .i64 E0,.int .i64 K0,.bool K1,.bool K2,.int .i64 K3,.bool eh,.slice e1 ebs.length e4,.slice e2 ers.length e5,.slice e3 eds.length e6]) (w.heap.size + 1) #[.bool has,.slice ba batch.length bk,.slice va rounds.length vk,.slice da dec.length dk]
   have HZ:Hid (instK.own ((x9.setRow g8 #[.int .i64 E0,.int .i64 K0,.bool K1,.bool K2,.int .i64 K3,.bool eh,.slice e1 ebs.length e4,.slice e2 ers.length e5,.slice e3 eds.length e6]).setRow (w.heap.size + 1) #[.bool has,.slice ba batch.length bk,.slice va rounds.length vk,.slice da dec.length dk]) (⟨has,.slice ba batch.length bk,batch,.slice va rounds.length vk,rounds,.slice da dec.length dk,dec⟩:InstQ)∧Src B ((x9.setRow g8 #[.int .i64 E0,.int .i64 K0,.bool K1,.bool K2,.int .i64 K3,.bool eh,.slice e1 ebs.length e4,.slice e2 ers.length e5,.slice e3 eds.length e6]).setRow (w.heap.size + 1) #[.bool has,.slice ba batch.length bk,.slice va rounds.length vk,.slice da dec.length dk]) b (T + 60)∧w.grownBy ((x9.setRow g8 #[.int .i64 E0,.int .i64 K0,.bool K1,.bool K2,.int .i64 K3,.bool eh,.slice e1 ebs.length e4,.slice e2 ers.length e5,.slice e3 eds.length e6]).setRow (w.heap.size + 1) #[.bool has,.slice ba batch.length bk,.slice va rounds.length vk,.slice da dec.length dk]) (some b)):=by
    refine ⟨instK.own_out oq hUr (fun k hk hk' => by simp only [List.mem_singleton] at hk';have:=HLQ.out k hk;omega),?_,?_⟩
    ·exact (hS.out hUr (by simp only [List.mem_singleton];omega) (fun k hk=>by simp only [List.mem_singleton] at hk;omega)).mono (by omega)
    ·exact grown_out (wr:=x9.setRow g8 #[.int .i64 E0,.int .i64 K0,.bool K1,.bool K2,.int .i64 K3,.bool eh,.slice e1 ebs.length e4,.slice e2 ers.length e5,.slice e3 eds.length e6]) ⟨hg.os,hg.tape,hg.output,hg.size,fun k hk hne=>hg.block k hk (by simp only [List.mem_singleton];intro e;exact hne (by rw [e]))⟩ hUr (fun k hk=>by simp only [List.mem_singleton] at hk;omega)
   have HI:Hid (insF (InstQ.e (⟨has,.slice ba batch.length bk,batch,.slice va rounds.length vk,rounds,.slice da dec.length dk,dec⟩:InstQ))=0∧(instK.foot (⟨has,.slice ba batch.length bk,batch,.slice va rounds.length vk,rounds,.slice da dec.length dk,dec⟩:InstQ)).Nodup∧∀ k∈instK.foot (⟨has,.slice ba batch.length bk,batch,.slice va rounds.length vk,rounds,.slice da dec.length dk,dec⟩:InstQ),k∈instK.foot (⟨has,.slice ba batch.length bk,batch,.slice va rounds.length vk,rounds,.slice da dec.length dk,dec⟩:InstQ)∨w.heap.size≤k):=⟨HI0.out,HNQ.out,fun k hk=>Or.inl hk⟩
   clear oq o2 hS hg hUr
   go_wp2_with (first | (refine st_row (by kernel_rfl) 88 _ _ rfl _ #[.int .i64 E0,.int .i64 K0,.bool K1,.bool K2,.int .i64 K3,.bool eh,.slice e1 ebs.length e4,.slice e2 ers.length e5,.slice e3 eds.length e6] rfl rfl 88 _ G8 hsr8 rfl (by simp [Value.oneCell']) ?_) | (refine st_row (by kernel_rfl) 28 _ _ rfl _ #[.bool has,.slice ba batch.length bk,.slice va rounds.length vk,.slice da dec.length dk] rfl rfl 28 _ R0 hsr rfl (by simp [Value.oneCell']) ?_))
   obtain ⟨q0,q1,q2,q3⟩:=Rr.cel4
   exact bodyPost_ret (v:=.agg #[.bool has,.slice ba batch.length bk,.slice va rounds.length vk,.slice da dec.length dk]) (by simp [results,Tryz.results36,go_sem,q0,q1,q2,q3]) rfl ⟨(⟨has,.slice ba batch.length bk,batch,.slice va rounds.length vk,rounds,.slice da dec.length dk,dec⟩:InstQ),rfl,HI.out.1,HZ.out.1,HI.out.2.1,HI.out.2.2,HZ.out.2.1,HZ.out.2.2⟩

  case pos=>
   have HDD:Hid (insF (InstQ.e (⟨eh,.slice e1 ebs.length e4,ebs,.slice e2 ers.length e5,ers,.slice e3 eds.length e6,eds⟩:InstQ))=0):=HD2.out hD
   subst hD
   have Rr:=R0.row #[.bool eh,.slice e1 ebs.length e4,.slice e2 ers.length e5,.slice e3 eds.length e6]
   have hsr:(Tryz.prog.info? 28).map (·.size)=some (#[.bool eh,.slice e1 ebs.length e4,.slice e2 ers.length e5,.slice e3 eds.length e6]:Array Value).size:=sz_inst
   have hUr:=out_row (x9.setRow g8 #[.int .i64 0,.int .i64 K0,.bool K1,.bool K2,.int .i64 K3,.bool eh,.slice e1 ebs.length e4,.slice e2 ers.length e5,.slice e3 eds.length e6]) (w.heap.size + 1) #[.bool eh,.slice e1 ebs.length e4,.slice e2 ers.length e5,.slice e3 eds.length e6]
   have HZ:Hid (instK.own ((x9.setRow g8 #[.int .i64 0,.int .i64 K0,.bool K1,.bool K2,.int .i64 K3,.bool eh,.slice e1 ebs.length e4,.slice e2 ers.length e5,.slice e3 eds.length e6]).setRow (w.heap.size + 1) #[.bool eh,.slice e1 ebs.length e4,.slice e2 ers.length e5,.slice e3 eds.length e6]) (⟨eh,.slice e1 ebs.length e4,ebs,.slice e2 ers.length e5,ers,.slice e3 eds.length e6,eds⟩:InstQ)∧Src B ((x9.setRow g8 #[.int .i64 0,.int .i64 K0,.bool K1,.bool K2,.int .i64 K3,.bool eh,.slice e1 ebs.length e4,.slice e2 ers.length e5,.slice e3 eds.length e6]).setRow (w.heap.size + 1) #[.bool eh,.slice e1 ebs.length e4,.slice e2 ers.length e5,.slice e3 eds.length e6]) b (T + 60)∧w.grownBy ((x9.setRow g8 #[.int .i64 0,.int .i64 K0,.bool K1,.bool K2,.int .i64 K3,.bool eh,.slice e1 ebs.length e4,.slice e2 ers.length e5,.slice e3 eds.length e6]).setRow (w.heap.size + 1) #[.bool eh,.slice e1 ebs.length e4,.slice e2 ers.length e5,.slice e3 eds.length e6]) (some b)):=by
    refine ⟨instK.own_out o2 hUr (fun k hk hk' => by simp only [List.mem_singleton] at hk';have:=L2 k hk;omega),?_,?_⟩
    ·exact (hS.out hUr (by simp only [List.mem_singleton];omega) (fun k hk=>by simp only [List.mem_singleton] at hk;omega)).mono (by omega)
    ·exact grown_out (wr:=x9.setRow g8 #[.int .i64 0,.int .i64 K0,.bool K1,.bool K2,.int .i64 K3,.bool eh,.slice e1 ebs.length e4,.slice e2 ers.length e5,.slice e3 eds.length e6]) ⟨hg.os,hg.tape,hg.output,hg.size,fun k hk hne=>hg.block k hk (by simp only [List.mem_singleton];intro e;exact hne (by rw [e]))⟩ hUr (fun k hk=>by simp only [List.mem_singleton] at hk;omega)
   have HI:Hid (insF (InstQ.e (⟨eh,.slice e1 ebs.length e4,ebs,.slice e2 ers.length e5,ers,.slice e3 eds.length e6,eds⟩:InstQ))=0∧(instK.foot (⟨eh,.slice e1 ebs.length e4,ebs,.slice e2 ers.length e5,ers,.slice e3 eds.length e6,eds⟩:InstQ)).Nodup∧∀ k∈instK.foot (⟨eh,.slice e1 ebs.length e4,ebs,.slice e2 ers.length e5,ers,.slice e3 eds.length e6,eds⟩:InstQ),k∈instK.foot (⟨has,.slice ba batch.length bk,batch,.slice va rounds.length vk,rounds,.slice da dec.length dk,dec⟩:InstQ)∨w.heap.size≤k):=⟨HDD.out,n2,fun k hk=>Or.inr (by have:=L2 k hk;omega)⟩
   clear oq o2 hS hg hUr
   go_wp2_with (first | (refine st_row (by kernel_rfl) 88 _ _ rfl _ #[.int .i64 0,.int .i64 K0,.bool K1,.bool K2,.int .i64 K3,.bool eh,.slice e1 ebs.length e4,.slice e2 ers.length e5,.slice e3 eds.length e6] rfl rfl 88 _ G8 hsr8 rfl (by simp [Value.oneCell']) ?_) | (refine st_row (by kernel_rfl) 28 _ _ rfl _ #[.bool eh,.slice e1 ebs.length e4,.slice e2 ers.length e5,.slice e3 eds.length e6] rfl rfl 28 _ R0 hsr rfl (by simp [Value.oneCell']) ?_))
   obtain ⟨q0,q1,q2,q3⟩:=Rr.cel4
   exact bodyPost_ret (v:=.agg #[.bool eh,.slice e1 ebs.length e4,.slice e2 ers.length e5,.slice e3 eds.length e6]) (by simp [results,Tryz.results36,go_sem,q0,q1,q2,q3]) rfl ⟨(⟨eh,.slice e1 ebs.length e4,ebs,.slice e2 ers.length e5,ers,.slice e3 eds.length e6,eds⟩:InstQ),rfl,HI.out.1,HZ.out.1,HI.out.2.1,HI.out.2.2,HZ.out.2.1,HZ.out.2.2⟩
 ·skip
  go_wp2_with fail
  refine (next_any B b (T + 5) 2 X hS (by omega) (by omega)).mono ?_
  rintro e x7 ⟨cn,rfl,hcn,hSn,hgn⟩
  replace hS:=hSn
  have hU:Out [b] _ _:=Out.of_grown hgn
  clear hgn hSn
  replace A0:=A0.outs hU (fun hk=>by simp only [List.mem_singleton] at hk;omega)
  replace R0:=R0.outs hU (fun hk=>by simp only [List.mem_singleton] at hk;omega)
  replace G8:=G8.outs hU (fun hk=>by simp only [List.mem_singleton] at hk;omega)
  replace oq:=instK.own_out oq hU (fun k hk hk' => by simp only [List.mem_singleton] at hk';subst hk';exact hbq hk)
  replace o2:=instK.own_out o2 hU (fun k hk hk' => by simp only [List.mem_singleton] at hk';have:=L2 k hk;omega)
  replace hg:=hg.trans hU
  clear hU
  go_wp2_with fail
  refine (l6GoOn_any w.heap.size 0 (⟨has,.slice ba batch.length bk,batch,.slice va rounds.length vk,rounds,.slice da dec.length dk,dec⟩:InstQ) r1 r2 mk cn x7 (⟨⟨A0.cell 0 _ rfl,A0.cell 1 _ rfl,A0.cell 2 _ rfl,A0.cell 3 _ rfl⟩,instK.own_rd oq⟩:InstP _ w.heap.size 0 (⟨has,.slice ba batch.length bk,batch,.slice va rounds.length vk,rounds,.slice da dec.length dk,dec⟩:InstQ)) A0.lt hl h0).mono ?_
  rintro e x9 ⟨q9,rfl,e9,o9,n9,g9,hb9⟩
  clear o2 n2 L2 HD2
  have hs9:=hb9.size
  have h8lt:=G8.lt
  replace hS:=hS.below hb9
  have hU:Out [b] _ _:=Out.of_below hb9
  clear hb9
  replace A0:=A0.outs hU (fun hk=>by simp only [List.mem_singleton] at hk;omega)
  replace R0:=R0.outs hU (fun hk=>by simp only [List.mem_singleton] at hk;omega)
  replace G8:=G8.outs hU (fun hk=>by simp only [List.mem_singleton] at hk;omega)
  replace oq:=instK.own_out oq hU (fun k hk hk' => by simp only [List.mem_singleton] at hk';subst hk';exact hbq hk)
  replace hg:=hg.trans hU
  clear hU
  have HD2:Hid (goC (InstQ.e (⟨has,.slice ba batch.length bk,batch,.slice va rounds.length vk,rounds,.slice da dec.length dk,dec⟩:InstQ)) r1 r2 mk cn=0→insF q9.e=0):=fun h9=>by rw [e9];exact (ins_go h9).1
  have n2:=n9
  have L2:∀ k∈instK.foot q9,g8 < k:=fun k hk=>by have:=g9 k hk;omega
  have o2:=o9
  clear n9 g9 o9 e9
  generalize goZ (InstQ.e (⟨has,.slice ba batch.length bk,batch,.slice va rounds.length vk,rounds,.slice da dec.length dk,dec⟩:InstQ)) r1 r2 mk cn=K0 at *
  generalize goD (InstQ.e (⟨has,.slice ba batch.length bk,batch,.slice va rounds.length vk,rounds,.slice da dec.length dk,dec⟩:InstQ)) r1 r2 mk cn=K1 at *
  generalize goK (InstQ.e (⟨has,.slice ba batch.length bk,batch,.slice va rounds.length vk,rounds,.slice da dec.length dk,dec⟩:InstQ)) r1 r2 mk cn=K2 at *
  generalize goV (InstQ.e (⟨has,.slice ba batch.length bk,batch,.slice va rounds.length vk,rounds,.slice da dec.length dk,dec⟩:InstQ)) r1 r2 mk cn=K3 at *
  generalize goC (InstQ.e (⟨has,.slice ba batch.length bk,batch,.slice va rounds.length vk,rounds,.slice da dec.length dk,dec⟩:InstQ)) r1 r2 mk cn=E0 at *
  obtain ⟨eh,eb,ebs,er,ers,ed,eds⟩:=q9
  obtain ⟨e1,e4,rfl⟩:∃ a c,eb=.slice a ebs.length c:=o2.1.shape
  obtain ⟨e2,e5,rfl⟩:∃ a c,er=.slice a ers.length c:=o2.2.1.shape
  obtain ⟨e3,e6,rfl⟩:∃ a c,ed=.slice a eds.length c:=o2.2.2.shape
  have Gr:=G8.row #[.int .i64 E0,.int .i64 K0,.bool K1,.bool K2,.int .i64 K3,.bool eh,.slice e1 ebs.length e4,.slice e2 ers.length e5,.slice e3 eds.length e6]
  have hsr8:(Tryz.prog.info? 88).map (·.size)=some (#[.int .i64 E0,.int .i64 K0,.bool K1,.bool K2,.int .i64 K3,.bool eh,.slice e1 ebs.length e4,.slice e2 ers.length e5,.slice e3 eds.length e6]:Array Value).size:=sz_res
  have hU8:=out_row x9 g8 #[.int .i64 E0,.int .i64 K0,.bool K1,.bool K2,.int .i64 K3,.bool eh,.slice e1 ebs.length e4,.slice e2 ers.length e5,.slice e3 eds.length e6]
  have hS9:Src B (x9.setRow g8 #[.int .i64 E0,.int .i64 K0,.bool K1,.bool K2,.int .i64 K3,.bool eh,.slice e1 ebs.length e4,.slice e2 ers.length e5,.slice e3 eds.length e6]) b (T + 5 + 1):=hS.out hU8 (by simp only [List.mem_singleton];omega) (fun k hk=>by simp only [List.mem_singleton] at hk;omega)
  have A9:=A0.outs hU8 (fun hk=>by simp only [List.mem_singleton] at hk;omega)
  have R9:=R0.outs hU8 (fun hk=>by simp only [List.mem_singleton] at hk;omega)
  have oq9:=instK.own_out oq hU8 (fun k hk hk' => by simp only [List.mem_singleton] at hk';have:=HLQ.out k hk;omega)
  have o29:=instK.own_out o2 hU8 (fun k hk hk' => by simp only [List.mem_singleton] at hk';have:=L2 k hk;omega)
  have hg9:Out [b] w (x9.setRow g8 #[.int .i64 E0,.int .i64 K0,.bool K1,.bool K2,.int .i64 K3,.bool eh,.slice e1 ebs.length e4,.slice e2 ers.length e5,.slice e3 eds.length e6]):=⟨hU8.os.trans hg.os,hU8.tape.trans hg.tape,hU8.output.trans hg.output,Nat.le_trans hg.size hU8.size,fun k hk hne=>(hU8.block k (Nat.lt_of_lt_of_le hk hg.size) (by simp only [List.mem_singleton];omega)).trans (hg.block k hk hne)⟩
  clear oq o2 hg A0 R0 hU8 hS
  have oq:=oq9
  have o2:=o29
  have hg:=hg9
  have A0:=A9
  have R0:=R9
  have hS:=hS9
  have G9:=Gr
  have g0:=G9.cell 0 _ rfl
  obtain ⟨p0,p1,p2,p3⟩:=A0.cel4
  have p5:=G9.cell 5 _ rfl
  have p6:=G9.cell 6 _ rfl
  have p7:=G9.cell 7 _ rfl
  have p8:=G9.cell 8 _ rfl
  clear oq9 o29 hg9 A9 R9 Gr hS9
  by_cases hD:E0=0
  case neg=>
   have hD' : (E0 != 0)=true:=by simpa using hD
   have Rr:=R0.row #[.bool has,.slice ba batch.length bk,.slice va rounds.length vk,.slice da dec.length dk]
   have hsr:(Tryz.prog.info? 28).map (·.size)=some (#[.bool has,.slice ba batch.length bk,.slice va rounds.length vk,.slice da dec.length dk]:Array Value).size:=sz_inst
   have hUr:=out_row (x9.setRow g8 #[.int .i64 E0,.int .i64 K0,.bool K1,.bool K2,.int .i64 K3,.bool eh,.slice e1 ebs.length e4,.slice e2 ers.length e5,.slice e3 eds.length e6]) (w.heap.size + 1) #[.bool has,.slice ba batch.length bk,.slice va rounds.length vk,.slice da dec.length dk]
   have HZ:Hid (instK.own ((x9.setRow g8 #[.int .i64 E0,.int .i64 K0,.bool K1,.bool K2,.int .i64 K3,.bool eh,.slice e1 ebs.length e4,.slice e2 ers.length e5,.slice e3 eds.length e6]).setRow (w.heap.size + 1) #[.bool has,.slice ba batch.length bk,.slice va rounds.length vk,.slice da dec.length dk]) (⟨has,.slice ba batch.length bk,batch,.slice va rounds.length vk,rounds,.slice da dec.length dk,dec⟩:InstQ)∧Src B ((x9.setRow g8 #[.int .i64 E0,.int .i64 K0,.bool K1,.bool K2,.int .i64 K3,.bool eh,.slice e1 ebs.length e4,.slice e2 ers.length e5,.slice e3 eds.length e6]).setRow (w.heap.size + 1) #[.bool has,.slice ba batch.length bk,.slice va rounds.length vk,.slice da dec.length dk]) b (T + 60)∧w.grownBy ((x9.setRow g8 #[.int .i64 E0,.int .i64 K0,.bool K1,.bool K2,.int .i64 K3,.bool eh,.slice e1 ebs.length e4,.slice e2 ers.length e5,.slice e3 eds.length e6]).setRow (w.heap.size + 1) #[.bool has,.slice ba batch.length bk,.slice va rounds.length vk,.slice da dec.length dk]) (some b)):=by
    refine ⟨instK.own_out oq hUr (fun k hk hk' => by simp only [List.mem_singleton] at hk';have:=HLQ.out k hk;omega),?_,?_⟩
    ·exact (hS.out hUr (by simp only [List.mem_singleton];omega) (fun k hk=>by simp only [List.mem_singleton] at hk;omega)).mono (by omega)
    ·exact grown_out (wr:=x9.setRow g8 #[.int .i64 E0,.int .i64 K0,.bool K1,.bool K2,.int .i64 K3,.bool eh,.slice e1 ebs.length e4,.slice e2 ers.length e5,.slice e3 eds.length e6]) ⟨hg.os,hg.tape,hg.output,hg.size,fun k hk hne=>hg.block k hk (by simp only [List.mem_singleton];intro e;exact hne (by rw [e]))⟩ hUr (fun k hk=>by simp only [List.mem_singleton] at hk;omega)
   have HI:Hid (insF (InstQ.e (⟨has,.slice ba batch.length bk,batch,.slice va rounds.length vk,rounds,.slice da dec.length dk,dec⟩:InstQ))=0∧(instK.foot (⟨has,.slice ba batch.length bk,batch,.slice va rounds.length vk,rounds,.slice da dec.length dk,dec⟩:InstQ)).Nodup∧∀ k∈instK.foot (⟨has,.slice ba batch.length bk,batch,.slice va rounds.length vk,rounds,.slice da dec.length dk,dec⟩:InstQ),k∈instK.foot (⟨has,.slice ba batch.length bk,batch,.slice va rounds.length vk,rounds,.slice da dec.length dk,dec⟩:InstQ)∨w.heap.size≤k):=⟨HI0.out,HNQ.out,fun k hk=>Or.inl hk⟩
   clear oq o2 hS hg hUr
   go_wp2_with (first | (refine st_row (by kernel_rfl) 88 _ _ rfl _ #[.int .i64 E0,.int .i64 K0,.bool K1,.bool K2,.int .i64 K3,.bool eh,.slice e1 ebs.length e4,.slice e2 ers.length e5,.slice e3 eds.length e6] rfl rfl 88 _ G8 hsr8 rfl (by simp [Value.oneCell']) ?_) | (refine st_row (by kernel_rfl) 28 _ _ rfl _ #[.bool has,.slice ba batch.length bk,.slice va rounds.length vk,.slice da dec.length dk] rfl rfl 28 _ R0 hsr rfl (by simp [Value.oneCell']) ?_))
   obtain ⟨q0,q1,q2,q3⟩:=Rr.cel4
   exact bodyPost_ret (v:=.agg #[.bool has,.slice ba batch.length bk,.slice va rounds.length vk,.slice da dec.length dk]) (by simp [results,Tryz.results36,go_sem,q0,q1,q2,q3]) rfl ⟨(⟨has,.slice ba batch.length bk,batch,.slice va rounds.length vk,rounds,.slice da dec.length dk,dec⟩:InstQ),rfl,HI.out.1,HZ.out.1,HI.out.2.1,HI.out.2.2,HZ.out.2.1,HZ.out.2.2⟩

  case pos=>
   have HDD:Hid (insF (InstQ.e (⟨eh,.slice e1 ebs.length e4,ebs,.slice e2 ers.length e5,ers,.slice e3 eds.length e6,eds⟩:InstQ))=0):=HD2.out hD
   subst hD
   have Rr:=R0.row #[.bool eh,.slice e1 ebs.length e4,.slice e2 ers.length e5,.slice e3 eds.length e6]
   have hsr:(Tryz.prog.info? 28).map (·.size)=some (#[.bool eh,.slice e1 ebs.length e4,.slice e2 ers.length e5,.slice e3 eds.length e6]:Array Value).size:=sz_inst
   have hUr:=out_row (x9.setRow g8 #[.int .i64 0,.int .i64 K0,.bool K1,.bool K2,.int .i64 K3,.bool eh,.slice e1 ebs.length e4,.slice e2 ers.length e5,.slice e3 eds.length e6]) (w.heap.size + 1) #[.bool eh,.slice e1 ebs.length e4,.slice e2 ers.length e5,.slice e3 eds.length e6]
   have HZ:Hid (instK.own ((x9.setRow g8 #[.int .i64 0,.int .i64 K0,.bool K1,.bool K2,.int .i64 K3,.bool eh,.slice e1 ebs.length e4,.slice e2 ers.length e5,.slice e3 eds.length e6]).setRow (w.heap.size + 1) #[.bool eh,.slice e1 ebs.length e4,.slice e2 ers.length e5,.slice e3 eds.length e6]) (⟨eh,.slice e1 ebs.length e4,ebs,.slice e2 ers.length e5,ers,.slice e3 eds.length e6,eds⟩:InstQ)∧Src B ((x9.setRow g8 #[.int .i64 0,.int .i64 K0,.bool K1,.bool K2,.int .i64 K3,.bool eh,.slice e1 ebs.length e4,.slice e2 ers.length e5,.slice e3 eds.length e6]).setRow (w.heap.size + 1) #[.bool eh,.slice e1 ebs.length e4,.slice e2 ers.length e5,.slice e3 eds.length e6]) b (T + 60)∧w.grownBy ((x9.setRow g8 #[.int .i64 0,.int .i64 K0,.bool K1,.bool K2,.int .i64 K3,.bool eh,.slice e1 ebs.length e4,.slice e2 ers.length e5,.slice e3 eds.length e6]).setRow (w.heap.size + 1) #[.bool eh,.slice e1 ebs.length e4,.slice e2 ers.length e5,.slice e3 eds.length e6]) (some b)):=by
    refine ⟨instK.own_out o2 hUr (fun k hk hk' => by simp only [List.mem_singleton] at hk';have:=L2 k hk;omega),?_,?_⟩
    ·exact (hS.out hUr (by simp only [List.mem_singleton];omega) (fun k hk=>by simp only [List.mem_singleton] at hk;omega)).mono (by omega)
    ·exact grown_out (wr:=x9.setRow g8 #[.int .i64 0,.int .i64 K0,.bool K1,.bool K2,.int .i64 K3,.bool eh,.slice e1 ebs.length e4,.slice e2 ers.length e5,.slice e3 eds.length e6]) ⟨hg.os,hg.tape,hg.output,hg.size,fun k hk hne=>hg.block k hk (by simp only [List.mem_singleton];intro e;exact hne (by rw [e]))⟩ hUr (fun k hk=>by simp only [List.mem_singleton] at hk;omega)
   have HI:Hid (insF (InstQ.e (⟨eh,.slice e1 ebs.length e4,ebs,.slice e2 ers.length e5,ers,.slice e3 eds.length e6,eds⟩:InstQ))=0∧(instK.foot (⟨eh,.slice e1 ebs.length e4,ebs,.slice e2 ers.length e5,ers,.slice e3 eds.length e6,eds⟩:InstQ)).Nodup∧∀ k∈instK.foot (⟨eh,.slice e1 ebs.length e4,ebs,.slice e2 ers.length e5,ers,.slice e3 eds.length e6,eds⟩:InstQ),k∈instK.foot (⟨has,.slice ba batch.length bk,batch,.slice va rounds.length vk,rounds,.slice da dec.length dk,dec⟩:InstQ)∨w.heap.size≤k):=⟨HDD.out,n2,fun k hk=>Or.inr (by have:=L2 k hk;omega)⟩
   clear oq o2 hS hg hUr
   go_wp2_with (first | (refine st_row (by kernel_rfl) 88 _ _ rfl _ #[.int .i64 0,.int .i64 K0,.bool K1,.bool K2,.int .i64 K3,.bool eh,.slice e1 ebs.length e4,.slice e2 ers.length e5,.slice e3 eds.length e6] rfl rfl 88 _ G8 hsr8 rfl (by simp [Value.oneCell']) ?_) | (refine st_row (by kernel_rfl) 28 _ _ rfl _ #[.bool eh,.slice e1 ebs.length e4,.slice e2 ers.length e5,.slice e3 eds.length e6] rfl rfl 28 _ R0 hsr rfl (by simp [Value.oneCell']) ?_))
   obtain ⟨q0,q1,q2,q3⟩:=Rr.cel4
   exact bodyPost_ret (v:=.agg #[.bool eh,.slice e1 ebs.length e4,.slice e2 ers.length e5,.slice e3 eds.length e6]) (by simp [results,Tryz.results36,go_sem,q0,q1,q2,q3]) rfl ⟨(⟨eh,.slice e1 ebs.length e4,ebs,.slice e2 ers.length e5,ers,.slice e3 eds.length e6,eds⟩:InstQ),rfl,HI.out.1,HZ.out.1,HI.out.2.1,HI.out.2.2,HZ.out.2.1,HZ.out.2.2⟩
 ·skip
  have g0:=G8.cell 0 _ rfl
  by_cases hD:D=0
  case neg=>
   have hD' : (D != 0)=true:=by simpa using hD
   have Rr:=R0.row #[.bool has,.slice ba batch.length bk,.slice va rounds.length vk,.slice da dec.length dk]
   have hsr:(Tryz.prog.info? 28).map (·.size)=some (#[.bool has,.slice ba batch.length bk,.slice va rounds.length vk,.slice da dec.length dk]:Array Value).size:=sz_inst
   have hUr:=out_row X (w.heap.size + 1) #[.bool has,.slice ba batch.length bk,.slice va rounds.length vk,.slice da dec.length dk]
   have HZ:Hid (instK.own (X.setRow (w.heap.size + 1) #[.bool has,.slice ba batch.length bk,.slice va rounds.length vk,.slice da dec.length dk]) (⟨has,.slice ba batch.length bk,batch,.slice va rounds.length vk,rounds,.slice da dec.length dk,dec⟩:InstQ)∧Src B (X.setRow (w.heap.size + 1) #[.bool has,.slice ba batch.length bk,.slice va rounds.length vk,.slice da dec.length dk]) b (T + 60)∧w.grownBy (X.setRow (w.heap.size + 1) #[.bool has,.slice ba batch.length bk,.slice va rounds.length vk,.slice da dec.length dk]) (some b)):=by
    refine ⟨instK.own_out oq hUr (fun k hk hk' => by simp only [List.mem_singleton] at hk';have:=HLQ.out k hk;omega),?_,?_⟩
    ·exact (hS.out hUr (by simp only [List.mem_singleton];omega) (fun k hk=>by simp only [List.mem_singleton] at hk;omega)).mono (by omega)
    ·exact grown_out (wr:=X) ⟨hg.os,hg.tape,hg.output,hg.size,fun k hk hne=>hg.block k hk (by simp only [List.mem_singleton];intro e;exact hne (by rw [e]))⟩ hUr (fun k hk=>by simp only [List.mem_singleton] at hk;omega)
   have HI:Hid (insF (InstQ.e (⟨has,.slice ba batch.length bk,batch,.slice va rounds.length vk,rounds,.slice da dec.length dk,dec⟩:InstQ))=0∧(instK.foot (⟨has,.slice ba batch.length bk,batch,.slice va rounds.length vk,rounds,.slice da dec.length dk,dec⟩:InstQ)).Nodup∧∀ k∈instK.foot (⟨has,.slice ba batch.length bk,batch,.slice va rounds.length vk,rounds,.slice da dec.length dk,dec⟩:InstQ),k∈instK.foot (⟨has,.slice ba batch.length bk,batch,.slice va rounds.length vk,rounds,.slice da dec.length dk,dec⟩:InstQ)∨w.heap.size≤k):=⟨HI0.out,HNQ.out,fun k hk=>Or.inl hk⟩
   obtain ⟨p0,p1,p2,p3⟩:=A0.cel4
   clear oq o2 hS hg
   go_wp2_with (first | (refine st_row (by kernel_rfl) 28 _ _ rfl _ #[.bool has,.slice ba batch.length bk,.slice va rounds.length vk,.slice da dec.length dk] rfl rfl 28 _ R0 hsr rfl (by simp [Value.oneCell']) ?_))
   obtain ⟨q0,q1,q2,q3⟩:=Rr.cel4
   exact bodyPost_ret (v:=.agg #[.bool has,.slice ba batch.length bk,.slice va rounds.length vk,.slice da dec.length dk]) (by simp [results,Tryz.results36,go_sem,q0,q1,q2,q3]) rfl ⟨(⟨has,.slice ba batch.length bk,batch,.slice va rounds.length vk,rounds,.slice da dec.length dk,dec⟩:InstQ),rfl,HI.out.1,HZ.out.1,HI.out.2.1,HI.out.2.2,HZ.out.2.1,HZ.out.2.2⟩

  case pos=>
   have hD' : (D != 0)=false:=by rw [hD];rfl
   have Rr:=R0.row #[.bool ch,.slice c1 cbs.length c4,.slice c2 crs.length c5,.slice c3 cds.length c6]
   have hsr:(Tryz.prog.info? 28).map (·.size)=some (#[.bool ch,.slice c1 cbs.length c4,.slice c2 crs.length c5,.slice c3 cds.length c6]:Array Value).size:=sz_inst
   have hUr:=out_row X (w.heap.size + 1) #[.bool ch,.slice c1 cbs.length c4,.slice c2 crs.length c5,.slice c3 cds.length c6]
   have HZ:Hid (instK.own (X.setRow (w.heap.size + 1) #[.bool ch,.slice c1 cbs.length c4,.slice c2 crs.length c5,.slice c3 cds.length c6]) (⟨ch,.slice c1 cbs.length c4,cbs,.slice c2 crs.length c5,crs,.slice c3 cds.length c6,cds⟩:InstQ)∧Src B (X.setRow (w.heap.size + 1) #[.bool ch,.slice c1 cbs.length c4,.slice c2 crs.length c5,.slice c3 cds.length c6]) b (T + 60)∧w.grownBy (X.setRow (w.heap.size + 1) #[.bool ch,.slice c1 cbs.length c4,.slice c2 crs.length c5,.slice c3 cds.length c6]) (some b)):=by
    refine ⟨instK.own_out o2 hUr (fun k hk hk' => by simp only [List.mem_singleton] at hk';have:=L2 k hk;omega),?_,?_⟩
    ·exact (hS.out hUr (by simp only [List.mem_singleton];omega) (fun k hk=>by simp only [List.mem_singleton] at hk;omega)).mono (by omega)
    ·exact grown_out (wr:=X) ⟨hg.os,hg.tape,hg.output,hg.size,fun k hk hne=>hg.block k hk (by simp only [List.mem_singleton];intro e;exact hne (by rw [e]))⟩ hUr (fun k hk=>by simp only [List.mem_singleton] at hk;omega)
   have HI:Hid (insF (InstQ.e (⟨ch,.slice c1 cbs.length c4,cbs,.slice c2 crs.length c5,crs,.slice c3 cds.length c6,cds⟩:InstQ))=0∧(instK.foot (⟨ch,.slice c1 cbs.length c4,cbs,.slice c2 crs.length c5,crs,.slice c3 cds.length c6,cds⟩:InstQ)).Nodup∧∀ k∈instK.foot (⟨ch,.slice c1 cbs.length c4,cbs,.slice c2 crs.length c5,crs,.slice c3 cds.length c6,cds⟩:InstQ),k∈instK.foot (⟨has,.slice ba batch.length bk,batch,.slice va rounds.length vk,rounds,.slice da dec.length dk,dec⟩:InstQ)∨w.heap.size≤k):=⟨HD2.out hD,n2,fun k hk=>Or.inr (by have:=L2 k hk;omega)⟩
   have p5:=G8.cell 5 _ rfl
   have p6:=G8.cell 6 _ rfl
   have p7:=G8.cell 7 _ rfl
   have p8:=G8.cell 8 _ rfl
   clear oq o2 hS hg hD
   go_wp2_with (first | (refine st_row (by kernel_rfl) 28 _ _ rfl _ #[.bool ch,.slice c1 cbs.length c4,.slice c2 crs.length c5,.slice c3 cds.length c6] rfl rfl 28 _ R0 hsr rfl (by simp [Value.oneCell']) ?_))
   obtain ⟨q0,q1,q2,q3⟩:=Rr.cel4
   exact bodyPost_ret (v:=.agg #[.bool ch,.slice c1 cbs.length c4,.slice c2 crs.length c5,.slice c3 cds.length c6]) (by simp [results,Tryz.results36,go_sem,q0,q1,q2,q3]) rfl ⟨(⟨ch,.slice c1 cbs.length c4,cbs,.slice c2 crs.length c5,crs,.slice c3 cds.length c6,cds⟩:InstQ),rfl,HI.out.1,HZ.out.1,HI.out.2.1,HI.out.2.2,HZ.out.2.1,HZ.out.2.2⟩

end Go.Proofs.YtnnenkoeklabpaaGreatDoor
