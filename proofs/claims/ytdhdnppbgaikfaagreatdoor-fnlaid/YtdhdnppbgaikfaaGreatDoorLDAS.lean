/- Texts joined, with what the laws reach alone. -/
import Derived.Test.YtdhdnppbgaikfaaGreatDoorLDAQ
import Derived.Test.YtdhdnppbgaikfaaGreatDoorLDAR
set_option linter.unusedVariables false
set_option linter.unusedSimpArgs false
namespace Go.Proofs.YtdhdnppbgaikfaaGreatDoor
open Go.RowKit
open Go.BigFrame
set_option maxRecDepth 100000
theorem actK_fpv (v:Value) (zs:List ActD):actK.fp v zs=blk v:=by
 have:zs.flatMap actK.foot=[]:=by
  rw [List.flatMap_eq_nil_iff]
  intro _ _
  rfl
 unfold Kind.fp
 rw [this,List.append_nil]

theorem own_acts {w:World} {base:Nat} {v:Value} {xs:List ActD} (h:w.ownsRow base 131 3 v xs.length (actCells xs)):actK.Own w v xs∧∀ k∈actK.fp v xs,base≤k:=by
 obtain ⟨o,hk⟩:=own_zero h
 exact ⟨⟨o,fun _ _=>trivial⟩,by rw [actK_fpv];exact hk⟩

theorem Src.out {B b T:Nat} {F:List Nat} {w w' : World} (h:Src B w b T) (ho:Out F w w') (hb:b ∉ F) (hF:∀ k∈F,B≤k):Src B w' b T:=
 h.kept ho.size (ho.block b h.lt.2 hb) (fun k hk=>ho.block k (by have:=h.lt;omega) (fun e=>by have:=hF k e;omega))

theorem grown_out {w wr w' : World} {b:Nat} {F:List Nat} (hg:w.grownBy wr (some b)) (ho:Out F wr w') (hF:∀ k∈F,w.heap.size≤k):w.grownBy w' (some b):=
 ⟨ho.os.trans hg.os,ho.tape.trans hg.tape,ho.output.trans hg.output,Nat.le_trans hg.size ho.size,fun k hk hne=>(ho.block k (Nat.lt_of_lt_of_le hk hg.size) (fun e=>by have:=hF k e;omega)).trans (hg.block k hk hne)⟩

set_option maxRecDepth 100000 in
set_option maxHeartbeats 2000000 in
theorem l6DrawBatch_any (B b T:Nat) (w:World) (hS:Src B w b T) (hT:T≤800000) :
  Calls Tryz.prog 48 #[.pointer (some ⟨b,0,none⟩)] w fun e w' => ∃ (v:Value) (ps:List TxnQ),e=.returned v∧ps.length≤3∧(∀ p∈ps,p.acts.length≤3)∧txnK.Own w' v ps∧(txnK.fp v ps).Nodup∧(∀ k∈txnK.fp v ps,w.heap.size≤k)∧Src B w' b (T + 50)∧w.grownBy w' (some b):=by
 obtain ⟨i0,hi,hz0,hz1,hz2⟩:=info_parts infoTxn
 have hlt:=hS.lt
 obtain ⟨ho0,hk0⟩:=own_zero (World.ownsRow_lit (e:=91) (size:=4) w #[] 0 (Nat.le_refl _) (by decide) rfl)
 have hg:w.grownBy (w.alloc (.cells #[] 91)) (some b):=World.grownBy_alloc w _ _
 replace hS:Src B (w.alloc (.cells #[] 91)) b T:=hS.below (by go_grown)
 have hR0:txnK.Own (w.alloc (.cells #[] 91)) (.slice (some ⟨w.heap.size,0,none⟩) 0 0) ([]:List TxnQ):=⟨ho0,fun p hp=>by simp at hp⟩
 have hN0:Hid ((txnK.fp (.slice (some ⟨w.heap.size,0,none⟩) 0 0) ([]:List TxnQ)).Nodup∧∀ k∈txnK.fp (.slice (some ⟨w.heap.size,0,none⟩) 0 0) ([]:List TxnQ),w.heap.size≤k):=by
  constructor
  ·simp [Kind.fp,blk,Value.ownBlock]
  ·intro k hk
   simp [Kind.fp,blk,Value.ownBlock] at hk
   omega
 go_enter Tryz.func48,Tryz.ntmps48
 go_wp2_with fail
 generalize w.alloc (.cells #[] 91)=W1 at hR0 hg hS
 refine (next_any B b T 3 W1 hS (by omega) (by omega)).mono ?_
 rintro e w3 ⟨r,rfl,hr,hSn,hgn⟩
 obtain ⟨j0,rfl⟩:=Int.eq_ofNat_of_zero_le hr.1
 have hj0:j0≤2:=by have:=hr.2.1 (by omega);omega
 replace hR0:=hR0.out (Out.of_grown hgn) (fun k hk hk' => by
  simp only [Option.toList,List.mem_singleton] at hk'
  have:=hN0.out.2 k hk
  omega)
 replace hg:=hg.trans hgn
 replace hS:=hSn
 clear hgn hSn hr ho0 hk0
 go_wp2
 go_loopw [3,4] (fun v c wr=>∃ (j:Nat) (ps:List TxnQ),c=.int .i64 j∧j≤3∧j + ps.length≤3∧Hid (∀ p∈ps,p.acts.length≤3)∧txnK.Own wr v ps∧Hid ((txnK.fp v ps).Nodup∧∀ k∈txnK.fp v ps,w.heap.size≤k)∧Src B wr b (T + 1 + 13 * (3 - j))∧w.grownBy wr (some b)) (fun _ c _=>(intOf c).toNat)
 case atStart=>exact ⟨1 + j0,[],by go_num,by omega,by simp;omega,(by intro p hp;simp at hp),hR0,hN0,hS.mono (by omega),hg⟩
 case round=>
  clear hR0 hS hg hN0
  obtain ⟨j,ps,rfl,hj3,hj,HP,hR,HN,hS,hg⟩:=hrel
  have hsz:=hg.size
  obtain ⟨a1,c1,rfl⟩:=hR.shape
  by_cases hpos:0 < j
  ·go_wp2_with fail
   refine (l2Draw_any B b (T + 1 + 13 * (3 - j)) wr hS (by omega)).mono ?_
   rintro e w4 ⟨i,s,q,a,c,xs,rfl,hx1,hx3,ho,hSn,hgn⟩
   obtain ⟨oA,gA⟩:=own_acts ho
   have HF:Hid (∀ x∈txnK.fp (.slice a1 ps.length c1) ps,x < wr.heap.size):=hR.lt
   replace hR:=hR.out (Out.of_grown hgn) (fun k hk hk' => by
    simp only [Option.toList,List.mem_singleton] at hk'
    have:=HN.out.2 k hk
    omega)
   replace hg:=hg.trans hgn
   replace hS:=hSn
   clear hgn hSn ho
   have hbA:Below w4.heap.size w4 (w4.alloc (.cells #[.int .i64 i,.int .i64 s,.int .i64 q,.slice a xs.length c] 91)):=by go_grown
   have Bt:=Blk.new w4 91 #[.int .i64 i,.int .i64 s,.int .i64 q,.slice a xs.length c]
   have hsz4:=hg.size
   replace hR:=hR.below hbA
   replace oA:=oA.below hbA
   replace hS:=hS.below hbA
   replace hg:=grown_low hg (hbA.mono hsz4)
   clear hbA
   go_wp2_with fail
   generalize w4.alloc (.cells #[.int .i64 i,.int .i64 s,.int .i64 q,.slice a xs.length c] 91)=W5 at *
   have hW:Below W5.heap.size W5 W5.drew:=(Below.refl _ _).drew
   have hnn:Nonempty (Lat W5):=⟨⟨W5,Below.refl _ _⟩⟩
   have k0:=Bt.lat 0 _ rfl
   have hL60:((ps.map TxnQ.e).length:Nat)≤60:=by rw [List.length_map];omega
   refine text_begin (S:=fun w' => ∃ u:Lat W5,w' = u.val) (by kernel_rfl) ?_
   refine sgr [(0,1),(2,2)] 3 (by kernel_rfl) ⟨⟨_,hW⟩,rfl⟩ ?_
   simp only [pkE]
   repeat go_big_quiet_step (fail)
   refine wpQuiet_nil ?_
   refine cla 1 (some 17) 80 #[.slice a1 ps.length c1] 2 (by kernel_rfl) ?_
   refine (l2Ids_any _ (ps.map TxnQ.e) _ (txnsAt_of (hR.below hW).at) hL60).mono ?_
   rintro e w6 ⟨ba,bc,rfl,hoI,hb6⟩
   replace hW:=hW.trans (hb6.mono hW.size)
   clear hb6
   refine ⟨_,rfl,⟨⟨_,hW⟩,rfl⟩,?_⟩
   simp only [Act.put,pgE,pjE]
   have hIl:((ps.map TxnQ.e).map TxnD.id).length≤1048576:=by rw [List.length_map];omega
   generalize hL:(ps.map TxnQ.e).map TxnD.id=L at *
   clear hL
   refine cla 4 (some 20) 79 #[.slice ba L.length bc,.int .i64 i] 1 (by kernel_rfl) ?_
   refine (l1Find_any ba bc L i w6 (Row.own hoI) hIl).mono ?_
   rintro e w7 ⟨rfl,hw7⟩
   replace hw7:=hw7.symm
   subst hw7
   refine ⟨_,rfl,⟨⟨_,hW⟩,rfl⟩,?_⟩
   simp only [Act.put,pgE,pjE]
   refine sgr [(5,1)] 0 (by kernel_rfl) ⟨⟨_,hW⟩,rfl⟩ ?_
   simp only [pkE]
   repeat go_big_quiet_step (fail)
   refine wpQuiet_nil ?_
   refine text_end (by kernel_rfl) ?_
   have hsz5:=hg.size
   replace hR:=hR.below hW
   replace oA:=oA.below hW
   replace hS:=hS.below hW
   replace Bt:=Bt.below hW
   replace hg:=grown_low hg (hW.mono hsz5)
   clear hW hnn k0 hoI hL60 hIl
   generalize idxI L i=ix at *
   by_cases hix:ix < 0
   ·have p0:=Bt.cell 0 _ rfl
    have p1:=Bt.cell 1 _ rfl
    have p2:=Bt.cell 2 _ rfl
    have p3:=Bt.cell 3 _ rfl
    have hbA:Below w6.heap.size w6 (w6.alloc (.cells #[.int .i64 i,.int .i64 s,.int .i64 q,.slice a xs.length c] 91)):=by go_grown
    have hsz6:=hg.size
    have hR2:=hR.below hbA
    have oA2:=oA.below hbA
    have hrow0:=hR2.1
    go_wp2_with (at_builtin;refine wpList_append_own_at _ rfl _ _ 24 rfl 0 91 i0 (.agg #[.int .i64 0,.int .i64 0,.int .i64 0,.slice none 0 0]) 4 48 Tryz.underlying24 hi hz0 hz1 hz2 rfl (by decide) _ ps.length (txnK.row ps) rfl hrow0 ⟨w6.heap.size,0,none⟩ 1 1 [.int .i64 i,.int .i64 s,.int .i64 q,.slice a xs.length c] rfl rfl ?c1 ?c2 ?c3 ?c4 ?c5 ?_)
    all_goals try (case c1=>intro j u hj;match j,hj with | 0,hj=>simp at hj;subst hj;simp [Addr.add] | 1,hj=>simp at hj;subst hj;simp [Addr.add] | 2,hj=>simp at hj;subst hj;simp [Addr.add] | 3,hj=>simp at hj;subst hj;simp [Addr.add])
    all_goals try (case c2=>intro u hu;simp at hu;rcases hu with rfl | rfl | rfl | rfl <;> rfl)
    all_goals try (case c3=>unfold maxLen;omega)
    all_goals try (case c4=>omega)
    all_goals try (case c5=>first | omega | (simp;omega))
    intro v' w8 hown hgrow hnil hat
    clear p0 p1 p2 p3
    obtain ⟨hO5,hn5,hlo5,hou⟩:=hR2.snoc (p:=(⟨i,s,q,.slice a xs.length c,xs⟩:TxnQ)) (B:=w.heap.size) HN.out.1 HN.out.2 oA2 (by show (actK.fp _ _).Nodup;rw [actK_fpv];exact blk_nodup _) (fun x hx hx' => by
     have h1:=gA x hx
     have h2:=HF.out x hx'
     omega) (fun x hx=>by have:=gA x hx;omega) (by simp;omega) hown hgrow (by rw [World.size_alloc];exact hat)
    have HP5:Hid (∀ p∈ps ++ [(⟨i,s,q,.slice a xs.length c,xs⟩:TxnQ)],p.acts.length≤3):=by
     intro p hp
     simp only [List.mem_append,List.mem_singleton] at hp
     rcases hp with hp | rfl
     ·exact HP.out p hp
     ·exact hx3
    have HN5:Hid (_∧_):=And.intro hn5 hlo5
    have hFlo:∀ k∈blk (.slice a1 ps.length c1),w.heap.size≤k:=fun k hk=>HN.out.2 k (by simp only [Kind.fp,List.mem_append];exact Or.inl hk)
    have hg8:=grown_out (grown_low hg (hbA.mono hsz6)) hou hFlo
    have hS8:=(hS.below hbA).out hou (fun hk=>by have:=hFlo b hk;omega) (fun k hk=>by have:=hFlo k hk;omega)
    have hl5:(ps ++ [(⟨i,s,q,.slice a xs.length c,xs⟩:TxnQ)]).length=ps.length + 1:=by simp
    have HL5:Hid ((ps ++ [(⟨i,s,q,.slice a xs.length c,xs⟩:TxnQ)]).length=ps.length + 1):=hl5
    clear hl5 hn5 hlo5 hR hR2 oA oA2 hown hgrow hat hnil hou hbA hg hS hrow0 Bt gA HF hFlo
    generalize ps ++ [(⟨i,s,q,.slice a xs.length c,xs⟩:TxnQ)]=ps' at *
    go_wp2
    go_roundw
    case rel=>exact ⟨j - 1,ps',by go_num,by omega,by have:=HL5.out;omega,HP5,hO5,HN5,hS8.mono (by omega),hg8⟩
    case measure=>simp [intOf];omega
   ·clear Bt oA gA HF
    go_wp2
    go_roundw
    case rel=>exact ⟨j - 1,ps,by go_num,by omega,by omega,HP,hR,HN,hS.mono (by omega),hg⟩
    case measure=>simp [intOf];omega
  ·go_wp2
   go_ret
   exact ⟨_,ps,rfl,by omega,HP.out,hR,HN.out.1,HN.out.2,hS.mono (by omega),hg⟩

end Go.Proofs.YtdhdnppbgaikfaaGreatDoor
