/- Texts joined, with what the laws reach alone. -/
import Derived.Test.YtfdkcbafpiojkaaGreatDoorSGAY
set_option linter.unusedVariables false
set_option linter.unusedSimpArgs false
namespace Go.Proofs.YtfdkcbafpiojkaaGreatDoor
open Go.RowKit Go.Maps
set_option maxRecDepth 100000
set_option maxHeartbeats 1000000 in
theorem chance_any (B b T:Nat) (n:Int) (w:World) (hS:Src B w b T) (hT:T≤1099511627776) (hn:n≤1099511627776) :
  Calls Tryz.prog 77 #[.pointer (some ⟨b,0,none⟩),.int .i64 n] w fun e w' => ∃ t:Bool,e=.returned (.bool t)∧Src B w' b (T + 1)∧w.grownBy w' (some b):=by
 go_enter Tryz.func77,Tryz.ntmps77
 go_wp2_with fail
 refine (next_any B b T n w hS hT hn).mono ?_
 rintro e w1 ⟨r,rfl,hr,hS1,hg⟩
 go_wp2
 go_ret
 exact ⟨_,rfl,hS1,hg⟩

theorem made5u:(madeCells #[Value.int .i64 0,.bool false,.int .i64 0] (5 * 3)).toList=undoCells (List.replicate 5 undoNo):=by kernel_rfl

set_option maxRecDepth 100000 in
set_option maxHeartbeats 4000000 in
theorem l4Bent_any (B b T:Nat) (w:World) (hS:Src B w b T) (hT:T≤1000000) :
  Calls Tryz.prog 143 #[.pointer (some ⟨b,0,none⟩)] w fun e w' => ∃ (a:Option Addr) (k:Nat) (us:List UndoD),e=.returned (.slice a us.length k)∧us.length≤5 ∧
   w'.ownsRow w.heap.size 185 3 (.slice a us.length k) us.length (undoCells us)∧Src B w' b (T + 13)∧w.grownBy w' (some b):=by
 obtain ⟨i0,hi,hz0,hz1,hz2⟩:=info_parts infoUndo
 have hlt:=hS.lt
 have ho0:(w.alloc (.cells #[] 185)).ownsRow w.heap.size 185 3 (.slice (some ⟨w.heap.size,0,none⟩) 0 0) 0 []:=World.ownsRow_lit w #[] 0 (Nat.le_refl _) (by decide) rfl
 have hS0:Src B (w.alloc (.cells #[] 185)) b T:=hS.below (by go_grown)
 have hg0:w.grownBy (w.alloc (.cells #[] 185)) (some b):=World.grownBy_alloc w _ _
 go_enter Tryz.func143,Tryz.ntmps143
 go_wp2_with fail
 refine (next_any B b T 4 _ hS0 (by omega) (by omega)).mono ?_
 rintro e w1 ⟨r,rfl,hr,hS1,hg1⟩
 obtain ⟨j0,rfl⟩:=Int.eq_ofNat_of_zero_le hr.1
 have hj0:j0≤3:=by have:=hr.2.1 (by omega);omega
 have ho1:=ho0.kept hg1 (Or.inr (by simp [Value.ownBlock];omega))
 have hgw:=hg0.trans hg1
 clear hr hg1 hg0 hS0 ho0
 go_wp2
 go_loopw [3,4] (fun v c wr=>∃ (j q:Nat) (us:List UndoD),c=.int .i64 j∧j + q≤3∧us.length≤q∧wr.ownsRow w.heap.size 185 3 v us.length (undoCells us)∧Src B wr b (T + 1 + 3 * q)∧w.grownBy wr (some b)) (fun _ c _=>(intOf c).toNat)
 case atStart=>exact ⟨j0,0,[],rfl,by omega,by simp,ho1,hS1,hgw⟩
 case round=>
  clear ho1 hS1 hgw
  obtain ⟨j,q,us,rfl,hjq,hul,ho,hSr,hg⟩:=hrel
  have hsz:=hg.size
  obtain ⟨a1,c1,rfl⟩:=own_shape ho
  have hnb0:some b≠Value.ownBlock (.slice a1 us.length c1):=own_not3 ho (Or.inl hlt.2)
  by_cases hpos:0 < j
  ·go_wp2_with fail
   refine (next_any B b (T + 1 + 3 * q) 5 wr hSr (by omega) (by omega)).mono ?_
   rintro e w2 ⟨r1,rfl,hr1,hS2,hg2⟩
   have hr10:=hr1.1
   have hr15:=hr1.2.1 (by omega)
   replace ho:=ho.kept hg2 (Or.inr (fun e=>hnb0 e.symm))
   replace hg:=hg.trans hg2
   clear hr1 hg2 hSr
   go_wp2_with fail
   refine (chance_any B b (T + 1 + 3 * q + 1) 2 w2 hS2 (by omega) (by omega)).mono ?_
   rintro e w3 ⟨t,rfl,hS3,hg3⟩
   replace ho:=ho.kept hg3 (Or.inr (fun e=>hnb0 e.symm))
   replace hg:=hg.trans hg3
   clear hg3 hS2
   have hlt3:=hS3.lt
   have hbu:Below w3.heap.size w3 (w3.alloc (.cells #[.int .i64 (1 + r1),.bool t,.int .i64 0] 185)):=by go_grown
   have Bu:=Blk.new w3 185 #[.int .i64 (1 + r1),.bool t,.int .i64 0]
   have hnu:∀ k,(Value.slice a1 us.length c1).ownBlock=some k→k≠w3.heap.size:=fun k hk=>by have:=(ho.lt k hk).2;omega
   replace ho:=own_below ho hbu
   have hSr:=hS3.below hbu
   have hsw:w.heap.size≤w3.heap.size:=hg.size
   replace hg:=grown_step hg (hbu.mono hsw)
   clear hS3
   cases t
   ·have hx1:(w3.alloc (.cells #[.int .i64 (1 + r1),.bool false,.int .i64 0] 185)).heap.size=w3.heap.size + 1:=by simp
    have ho2:=ho.alloc (.cells #[.int .i64 (1 + r1),.bool false,.int .i64 0] 185)
    have hsrc:∀ (j:Nat) (x:Value),[Value.int .i64 (1 + r1),.bool false,.int .i64 0][j]? = some x→((w3.alloc (.cells #[.int .i64 (1 + r1),.bool false,.int .i64 0] 185)).alloc (.cells #[.int .i64 (1 + r1),.bool false,.int .i64 0] 185)).cell? ((⟨w3.heap.size + 1,0,none⟩:Addr).add j)=some x:=by
     intro j x hj
     have e:=(Blk.new (w3.alloc (.cells #[.int .i64 (1 + r1),.bool false,.int .i64 0] 185)) 185 #[.int .i64 (1 + r1),.bool false,.int .i64 0]).cell j x (by simpa using hj)
     rw [hx1] at e
     rw [Addr.add_lit,Nat.zero_add]
     exact e
    have hszX:w.heap.size≤(w3.alloc (.cells #[.int .i64 (1 + r1),.bool false,.int .i64 0] 185)).heap.size:=hg.size
    go_wp2_with (at_builtin;refine wpList_append_own _ rfl _ _ 118 rfl w.heap.size 185 i0 (.agg #[.int .i64 0,.bool false,.int .i64 0]) 3 24 Tryz.underlying118 hi hz0 hz1 hz2 rfl (by decide) _ us.length (undoCells us) rfl ho2 ⟨w3.heap.size + 1,0,none⟩ 1 1 [.int .i64 (1 + r1),.bool false,.int .i64 0] rfl rfl hsrc ?c2 ?c3 ?c4 ?c5 ?_)
    all_goals try (case c2=>first | rfl | exact ⟨rfl,rfl,rfl⟩ | (intro u hu;simp at hu;rcases hu with rfl | rfl | rfl <;> rfl))
    all_goals try (case c3=>unfold maxLen;omega)
    all_goals try (case c4=>omega)
    all_goals try (case c5=>first | omega | (simp;omega))
    intro v' w6 hown hgrow _
    obtain ⟨a2,c2,rfl⟩:=own_shape hown
    have hnb:=own_not3 ho (b:=b) (Or.inl hlt.2)
    have hW:Below w.heap.size (w3.alloc (.cells #[.int .i64 (1 + r1),.bool false,.int .i64 0] 185)) w6:=((Below.refl w.heap.size (w3.alloc (.cells #[.int .i64 (1 + r1),.bool false,.int .i64 0] 185))).alloc hszX (.cells #[.int .i64 (1 + r1),.bool false,.int .i64 0] 185)).grown hgrow (by simp;omega) (fun j hj=>(ho.lt j hj).1)
    have hS6:=(hSr.below (w' := (w3.alloc (.cells #[.int .i64 (1 + r1),.bool false,.int .i64 0] 185)).alloc (.cells #[.int .i64 (1 + r1),.bool false,.int .i64 0] 185)) (by go_grown)).grown hgrow hnb (fun k hk=>by have:=(ho.lt k hk).1;omega)
    have R:Hid (w6.ownsRow w.heap.size 185 3 (.slice a2 (us.length + 1) c2) (us.length + 1) (undoCells (us ++ [⟨(1 + r1),false,0⟩]))∧w.grownBy w6 (some b)):=⟨by rw [undoCells_snoc];simpa using hown,grown_step hg hW⟩
    clear hgrow ho2 ho hown hW hsrc
    clear hbu Bu
    go_wp2
    go_roundw
    case rel=>exact ⟨j - 1,q + 1,us ++ [⟨1 + r1,false,0⟩],by go_num,by omega,by simp;omega,by simpa using R.out.1,hS6.mono (by omega),R.out.2⟩
    case measure=>simp [intOf];omega
   ·go_wp2_with fail
    generalize w3.alloc (.cells #[.int .i64 (1 + r1),.bool true,.int .i64 0] 185)=wX at ho hSr hg Bu hbu
    generalize w3.heap.size=u at *
    refine (next_any B b (T + 1 + 3 * q + 1 + 1) 9 wX hSr (by omega) (by omega)).mono ?_
    rintro e w4 ⟨r3,rfl,hr3,hS4,hg4⟩
    replace ho:=ho.kept hg4 (Or.inr (fun e=>hnb0 e.symm))
    replace hg:=hg.trans hg4
    have hus:=Bu.lt
    replace Bu:=Bu.grown hg4 (by simp;omega)
    clear hr3 hg4 hSr
    have hul4:=Bu.lt
    have q0:=Bu.cell 0 _ rfl
    have q1:=Bu.cell 1 _ rfl
    have q2:=Bu.cell 2 _ rfl
    have f2:=Bu.frozen 2
    replace ho:=own_set_other (j:=2) (u:=.int .i64 r3) ho hnu
    have hSr:Src B (w4.setCell ⟨u,2,none⟩ (.int .i64 r3)) b (T + 1 + 3 * q + 1 + 1 + 1):=hS4.kept (by simp [World.setCell]) (Below.heap_setCell _ _ _ _ (by dsimp only;omega)) (fun k hk=>Below.heap_setCell _ _ _ _ (by dsimp only;omega))
    replace hg:=grown_step hg ((Below.refl w.heap.size w4).setCell (p:=⟨u,2,none⟩) hsw (.int .i64 r3))
    have hx1:(w4.setCell ⟨u,2,none⟩ (.int .i64 r3)).heap.size=w4.heap.size:=by simp [World.setCell]
    clear Bu hS4 hbu
    have ho2:=ho.alloc (.cells #[.int .i64 (1 + r1),.bool true,.int .i64 r3] 185)
    have hsrc:∀ (j:Nat) (x:Value),[Value.int .i64 (1 + r1),.bool true,.int .i64 r3][j]? = some x→((w4.setCell ⟨u,2,none⟩ (.int .i64 r3)).alloc (.cells #[.int .i64 (1 + r1),.bool true,.int .i64 r3] 185)).cell? ((⟨w4.heap.size,0,none⟩:Addr).add j)=some x:=by
     intro j x hj
     have e:=(Blk.new (w4.setCell ⟨u,2,none⟩ (.int .i64 r3)) 185 #[.int .i64 (1 + r1),.bool true,.int .i64 r3]).cell j x (by simpa using hj)
     rw [hx1] at e
     rw [Addr.add_lit,Nat.zero_add]
     exact e
    have hszX:w.heap.size≤(w4.setCell ⟨u,2,none⟩ (.int .i64 r3)).heap.size:=hg.size
    go_wp2_with (at_builtin;refine wpList_append_own _ rfl _ _ 118 rfl w.heap.size 185 i0 (.agg #[.int .i64 0,.bool false,.int .i64 0]) 3 24 Tryz.underlying118 hi hz0 hz1 hz2 rfl (by decide) _ us.length (undoCells us) rfl ho2 ⟨w4.heap.size,0,none⟩ 1 1 [.int .i64 (1 + r1),.bool true,.int .i64 r3] rfl rfl hsrc ?c2 ?c3 ?c4 ?c5 ?_)
    all_goals try (case c2=>first | rfl | exact ⟨rfl,rfl,rfl⟩ | (intro u hu;simp at hu;rcases hu with rfl | rfl | rfl <;> rfl))
    all_goals try (case c3=>unfold maxLen;omega)
    all_goals try (case c4=>omega)
    all_goals try (case c5=>first | omega | (simp;omega))
    intro v' w6 hown hgrow _
    obtain ⟨a2,c2,rfl⟩:=own_shape hown
    have hnb:=own_not3 ho (b:=b) (Or.inl hlt.2)
    have hW:Below w.heap.size (w4.setCell ⟨u,2,none⟩ (.int .i64 r3)) w6:=((Below.refl w.heap.size (w4.setCell ⟨u,2,none⟩ (.int .i64 r3))).alloc hszX (.cells #[.int .i64 (1 + r1),.bool true,.int .i64 r3] 185)).grown hgrow (by simp;omega) (fun j hj=>(ho.lt j hj).1)
    have hS6:=(hSr.below (w' := (w4.setCell ⟨u,2,none⟩ (.int .i64 r3)).alloc (.cells #[.int .i64 (1 + r1),.bool true,.int .i64 r3] 185)) (by go_grown)).grown hgrow hnb (fun k hk=>by have:=(ho.lt k hk).1;omega)
    have R:Hid (w6.ownsRow w.heap.size 185 3 (.slice a2 (us.length + 1) c2) (us.length + 1) (undoCells (us ++ [⟨(1 + r1),true,r3⟩]))∧w.grownBy w6 (some b)):=⟨by rw [undoCells_snoc];simpa using hown,grown_step hg hW⟩
    clear hgrow ho2 ho hown hW hsrc
    go_wp2
    go_roundw
    case rel=>exact ⟨j - 1,q + 1,us ++ [⟨1 + r1,true,r3⟩],by go_num,by omega,by simp;omega,by simpa using R.out.1,hS6.mono (by omega),R.out.2⟩
    case measure=>simp [intOf];omega
  ·go_wp2_with fail
   refine (next_any B b (T + 1 + 3 * q) 12 wr hSr (by omega) (by omega)).mono ?_
   rintro e w2 ⟨r,rfl,hr,hS2,hg2⟩
   replace ho:=ho.kept hg2 (Or.inr (fun e=>hnb0 e.symm))
   replace hg:=hg.trans hg2
   have hlt2:=hS2.lt
   have hsz2:=hg.size
   clear hr hg2 hSr
   by_cases hr0:r=0
   ·subst hr0
    replace ho:=ho.alloc (.cells #[.int .i64 0,.int .i64 20,.int .i64 21] 2)
    replace hg:=hg.trans (World.grownBy_alloc w2 (.cells #[.int .i64 0,.int .i64 20,.int .i64 21] 2) (some b))
    go_wp2_with fail
    refine (pick_any B b (T + 1 + 3 * q + 1) w2.heap.size _ [0,20,21] _ (hS2.below (by go_grown)) (by omega) (World.ownsRow_lit w2 _ 3 (Nat.le_refl _) (by decide) rfl) (by simp) (by simp) (by simp [Value.ownBlock];omega)).mono ?_
    rintro e w3 ⟨r3,rfl,hmem,hS3,hg3⟩
    replace ho:=ho.kept hg3 (Or.inr (fun e=>hnb0 e.symm))
    replace hg:=hg.trans hg3
    have hlt3:=hS3.lt
    clear hmem hg3 hS2 hlt2
    replace ho:=ho.alloc (.cells #[.int .i64 0,.int .i64 1] 2)
    replace hg:=hg.trans (World.grownBy_alloc w3 (.cells #[.int .i64 0,.int .i64 1] 2) (some b))
    go_wp2_with fail
    refine (pick_any B b (T + 1 + 3 * q + 1 + 1) w3.heap.size _ [0,1] _ (hS3.below (by go_grown)) (by omega) (World.ownsRow_lit w3 _ 2 (Nat.le_refl _) (by decide) rfl) (by simp) (by simp) (by simp [Value.ownBlock];omega)).mono ?_
    rintro e w4 ⟨r4,rfl,hmem,hSr,hg4⟩
    replace ho:=ho.kept hg4 (Or.inr (fun e=>hnb0 e.symm))
    replace hg:=hg.trans hg4
    clear hmem hg4 hS3 hlt3
    have hx1:w4.heap.size=w4.heap.size:=rfl
    have ho2:=ho.alloc (.cells #[.int .i64 r3,.bool false,.int .i64 r4] 185)
    have hsrc:∀ (j:Nat) (x:Value),[Value.int .i64 r3,.bool false,.int .i64 r4][j]? = some x→(w4.alloc (.cells #[.int .i64 r3,.bool false,.int .i64 r4] 185)).cell? ((⟨w4.heap.size,0,none⟩:Addr).add j)=some x:=by
     intro j x hj
     have e:=(Blk.new w4 185 #[.int .i64 r3,.bool false,.int .i64 r4]).cell j x (by simpa using hj)
     rw [hx1] at e
     rw [Addr.add_lit,Nat.zero_add]
     exact e
    have hszX:w.heap.size≤w4.heap.size:=hg.size
    go_wp2_with (at_builtin;refine wpList_append_own _ rfl _ _ 118 rfl w.heap.size 185 i0 (.agg #[.int .i64 0,.bool false,.int .i64 0]) 3 24 Tryz.underlying118 hi hz0 hz1 hz2 rfl (by decide) _ us.length (undoCells us) rfl ho2 ⟨w4.heap.size,0,none⟩ 1 1 [.int .i64 r3,.bool false,.int .i64 r4] rfl rfl hsrc ?c2 ?c3 ?c4 ?c5 ?_)
    all_goals try (case c2=>first | rfl | exact ⟨rfl,rfl,rfl⟩ | (intro u hu;simp at hu;rcases hu with rfl | rfl | rfl <;> rfl))
    all_goals try (case c3=>unfold maxLen;omega)
    all_goals try (case c4=>omega)
    all_goals try (case c5=>first | omega | (simp;omega))
    intro v' w6 hown hgrow _
    obtain ⟨a2,c2,rfl⟩:=own_shape hown
    have hnb:=own_not3 ho (b:=b) (Or.inl hlt.2)
    have hW:Below w.heap.size w4 w6:=((Below.refl w.heap.size w4).alloc hszX (.cells #[.int .i64 r3,.bool false,.int .i64 r4] 185)).grown hgrow (by simp;omega) (fun j hj=>(ho.lt j hj).1)
    have hS6:=(hSr.below (w' := w4.alloc (.cells #[.int .i64 r3,.bool false,.int .i64 r4] 185)) (by go_grown)).grown hgrow hnb (fun k hk=>by have:=(ho.lt k hk).1;omega)
    have R:Hid (w6.ownsRow w.heap.size 185 3 (.slice a2 (us.length + 1) c2) (us.length + 1) (undoCells (us ++ [⟨r3,false,r4⟩]))∧w.grownBy w6 (some b)):=⟨by rw [undoCells_snoc];simpa using hown,grown_step hg hW⟩
    clear hgrow ho2 ho hown hW hsrc
    go_wp2
    go_ret
    exact ⟨a2,c2,us ++ [⟨r3,false,r4⟩],by simp,by simp;omega,by simpa using R.out.1,hS6.mono (by omega),R.out.2⟩
   ·have hr0' : (r == 0)=false:=by simpa using hr0
    by_cases hr1:r=1
    ·subst hr1
     have hby:i0.bytes * 5≤281474976710656:=by rw [hz2];omega
     have hmx:5≤maxLen:=by unfold maxLen;omega
     clear hr0 hr0'
     go_wp2_with (at_make;refine wpList_make_full _ rfl _ _ 118 rfl w2.heap.size 185 i0 (.agg #[.int .i64 0,.bool false,.int .i64 0]) 3 Tryz.underlying118 hi hz0 hz1 _ _ _ _ 5 rfl rfl rfl rfl hby hmx (Nat.le_refl _) ?_)
     intro w3 hown hgrow
     have hb3:Below w2.heap.size w2 w3:=(Below.refl _ _).grown hgrow (Nat.le_refl _) (by simp)
     have R:Hid (w3.ownsRow w.heap.size 185 3 (.slice (some ⟨w2.heap.size,0,none⟩) 5 5) 5 (undoCells (List.replicate 5 undoNo))∧w.grownBy w3 (some b)):=⟨by rw [← made5u];exact own_base hown hsz2,grown_step hg (hb3.mono hsz2)⟩
     have hS3:=hS2.below hb3
     clear hown hgrow hb3
     go_wp2
     go_ret
     exact ⟨_,_,List.replicate 5 undoNo,rfl,by simp,R.out.1,hS3.mono (by omega),R.out.2⟩
    ·have hr1' : (r == 1)=false:=by simpa using hr1
     clear hr0 hr1
     go_wp2
     go_ret
     exact ⟨a1,c1,us,rfl,by omega,ho,hS2.mono (by omega),hg⟩

end Go.Proofs.YtfdkcbafpiojkaaGreatDoor
