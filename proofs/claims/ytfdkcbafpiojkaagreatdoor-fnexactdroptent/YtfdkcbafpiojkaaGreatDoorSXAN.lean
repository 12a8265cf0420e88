/- Texts joined, with what the law reaches alone. -/
import Derived.Test.YtfdkcbafpiojkaaGreatDoorSXAL
import Derived.Test.YtfdkcbafpiojkaaGreatDoorSXAM
import Derived.Test.YtfdkcbafpiojkaaGreatDoorSXAC
import Derived.Test.YtfdkcbafpiojkaaGreatDoorSXAD
set_option linter.unusedVariables false
set_option linter.unusedSimpArgs false
namespace Go.Proofs.YtfdkcbafpiojkaaGreatDoor
open Go.RowKit
open Go.BigFrame
set_option maxRecDepth 100000
theorem keep_cell {F:List Nat} {w:World} {b o:Nat} {v:Value} (h:w.cell? ⟨b,o,none⟩=some v) (hF:b ∉ F):∀ u:KeepP (Out F w),u.val.cell? ⟨b,o,none⟩=some v:=fun u=>by
 have hb:=World.block_lt_of_cell? w _ h
 have e:=u.isP.block b hb hF
 unfold World.cell? at h ⊢
 simp only at h ⊢
 rw [e]
 exact h

theorem take_e (ps:List TxnQ) (k:Nat) (hk:k < ps.length):(ps.map TxnQ.e).take (k + 1)=(ps.map TxnQ.e).take k ++ [TxnQ.e ps[k]]:=by
 rw [List.take_succ_eq_append_getElem (by simpa using hk)]
 simp

theorem step9 {xs:List ItemD} {t:TxnD}:nextI xs t=if (runA xs t.acts).1=0 then runR xs t.acts else xs:=by
 unfold nextI runR
 split <;> simp_all

/-- A record of D for good and E ahead of its time. -/
def RecPost (w w' : World) (vN iN vU iU:Value) (D E:List TxnD):Prop:=∃ (ds us:List DeedQ) (rb B0:Nat),Rec w rb B0 w' vN iN vU iU ds us (allI [] D) (allI (allI [] D) E)∧ds.map DeedQ.e4=deedsE [] D∧us.map DeedQ.e4=deedsE (allI [] D) E∧w.heap.size≤rb∧rb < B0

/-- Another block is written over. -/
theorem Rec.other {w:World} {rb B0 g:Nat} {wr:World} {vN iN vU iU:Value} {ds us:List DeedQ} {xs ys:List ItemD} (h:Rec w rb B0 wr vN iN vU iU ds us xs ys) (hg:g < B0) (hr:rb≠g) (j:Nat) (u:Value):Rec w rb B0 (wr.setCell ⟨g,j,none⟩ u) vN iN vU iU ds us xs ys:=by
 have hO:=Out.setCell wr g j u
 have nF:∀ {k},B0≤k→k ∉ [g]:=fun hk hm=>by simp only [List.mem_singleton] at hm;omega
 exact ⟨h.B.other hr j u,own_outs h.oN hO (fun k hk=>nF (h.lN k hk)),h.aN,own_outs h.oU hO (fun k hk=>nF (h.lU k hk)),fun p hp=>⟨(h.aU p hp).1,(h.aU p hp).2.out hO (fun k hk=>by rw [undoK_fp] at hk;exact nF (h.d3 p hp k hk).1)⟩,h.jN.out hO (fun k hk=>by rw [itemK_fp] at hk;exact nF (h.d1 k hk).1),h.jU.out hO (fun k hk=>by rw [itemK_fp] at hk;exact nF (h.d2 k hk).1),h.nu,h.lN,h.lU,h.d1,h.d2,h.d3⟩

set_option maxRecDepth 100000 in
set_option maxHeartbeats 8000000 in
theorem recordOf_any (v1 v2:Value) (ps qs:List TxnQ) (w:World) (h1:txnK.At w v1 ps) (h2:txnK.At w v2 qs) (hF1:∀ p∈ps,(TxnQ.e p).F=0) (hF2:∀ p∈qs,(TxnQ.e p).F=0) (hl1:ps.length≤40) (hl2:qs.length≤40) :
  Calls Tryz.prog 57 #[v1,v2] w fun e w' => ∃ (vN iN vU iU:Value),e=.returned (.agg #[vN,iN,vU,iU])∧RecPost w w' vN iN vU iU (ps.map TxnQ.e) (qs.map TxnQ.e)∧Below w.heap.size w w' := by
 obtain ⟨a1,k1,rfl⟩:=h1.shape
 obtain ⟨a2,k2,rfl⟩:=h2.shape
 have hb0:Below w.heap.size w ((w.alloc (.cells #[.slice none 0 0,.slice none 0 0,.slice none 0 0,.slice none 0 0] 103)).alloc (.cells #[.slice none 0 0,.slice none 0 0,.slice none 0 0,.slice none 0 0] 103)):=by go_grown
 have R0:=(Blk.new w 103 #[.slice none 0 0,.slice none 0 0,.slice none 0 0,.slice none 0 0]).below (w' := (w.alloc (.cells #[.slice none 0 0,.slice none 0 0,.slice none 0 0,.slice none 0 0] 103)).alloc (.cells #[.slice none 0 0,.slice none 0 0,.slice none 0 0,.slice none 0 0] 103)) (by go_grown)
 have B:=Blk.new (w.alloc (.cells #[.slice none 0 0,.slice none 0 0,.slice none 0 0,.slice none 0 0] 103)) 103 #[.slice none 0 0,.slice none 0 0,.slice none 0 0,.slice none 0 0]
 rw [World.size_alloc] at B
 have hsz:w.heap.size + 2≤((w.alloc (.cells #[.slice none 0 0,.slice none 0 0,.slice none 0 0,.slice none 0 0] 103)).alloc (.cells #[.slice none 0 0,.slice none 0 0,.slice none 0 0,.slice none 0 0] 103)).heap.size:=by simp only [World.size_alloc];omega
 have hn:∀ k∈blk (Value.slice none 0 0),False:=fun k hk=>by simp [blk,Value.ownBlock] at hk
 have Rz:Rec w (w.heap.size + 1) (w.heap.size + 2) ((w.alloc (.cells #[.slice none 0 0,.slice none 0 0,.slice none 0 0,.slice none 0 0] 103)).alloc (.cells #[.slice none 0 0,.slice none 0 0,.slice none 0 0,.slice none 0 0] 103)) (.slice none 0 0) (.slice none 0 0) (.slice none 0 0) (.slice none 0 0) [] [] [] []:=
  ⟨B,World.ownsRow_nil _ _ _ _,fun p hp=>by simp at hp,World.ownsRow_nil _ _ _ _,fun p hp=>by simp at hp,(Kind.own_nil _).1,(Kind.own_nil _).1,fun k hk=>(hn k hk).elim,fun k hk=>(hn k hk).elim,fun k hk=>(hn k hk).elim,fun k hk=>(hn k hk).elim,fun k hk=>(hn k hk).elim,fun p hp=>by simp at hp⟩
 clear B
 have hlen1:(ps.length:Int)≤40:=by omega
 have hlen2:(qs.length:Int)≤40:=by omega
 go_enter Tryz.func57,Tryz.ntmps57
 go_wp2
 generalize (w.alloc (.cells #[.slice none 0 0,.slice none 0 0,.slice none 0 0,.slice none 0 0] 103)).alloc (.cells #[.slice none 0 0,.slice none 0 0,.slice none 0 0,.slice none 0 0] 103)=W0 at *
 have H0:Hid (([]:List DeedQ).map DeedQ.e4=deedsE [] ((ps.map TxnQ.e).take 0)∧([]:List ItemD)=allI [] ((ps.map TxnQ.e).take 0)∧([]:List ItemD).length≤8∧Good ([]:List ItemD)):=⟨rfl,rfl,by simp,nil_good⟩
 go_loopw [13] (fun j wr=>∃ (k:Nat) (vN iN:Value) (ds:List DeedQ) (xs:List ItemD),k≤ps.length∧j=.int .i64 k∧Rec w (w.heap.size + 1) (w.heap.size + 2) wr vN iN (.slice none 0 0) (.slice none 0 0) ds [] xs []∧Hid (ds.map DeedQ.e4=deedsE [] ((ps.map TxnQ.e).take k)∧xs=allI [] ((ps.map TxnQ.e).take k)∧xs.length≤8∧Good xs)∧Blk wr w.heap.size 103 #[.slice none 0 0,.slice none 0 0,.slice none 0 0,.slice none 0 0]∧Below w.heap.size w wr∧w.heap.size + 2≤wr.heap.size) (fun j _=>ps.length - (intOf j).toNat)
 case atStart=>exact ⟨0,_,_,[],[],Nat.zero_le _,rfl,Rz,H0,R0,hb0,hsz⟩
 case round=>
  clear Rz H0 R0 hb0 hsz hn
  obtain ⟨k,vN,iN,ds,xs,hk,rfl,R,HD,R0,hb,hsz⟩:=hrel
  obtain ⟨ia,ic,rfl⟩:=R.jN.shape
  by_cases hlt:k < ps.length
  ·obtain ⟨b,off,rfl,hbs,hcm,hrd⟩:=(h1.below hb).cell (by decide) k hlt
   have hc' : ∀ j x,(txnK.cells ps[k])[j]? = some x→wr.cell? ⟨b,off + k * 4 + j,none⟩=some x:=hcm
   have c0:=hc' 0 (.int .i64 ps[k].i) rfl
   have c1:=hc' 1 (.int .i64 ps[k].s) rfl
   have c2:=hc' 2 (.int .i64 ps[k].q) rfl
   have c3:=hc' 3 (ps[k].va) rfl
   rw [Nat.add_zero] at c0
   have hr0:txnK.rd w ps[k]:=h1.rdm (List.getElem_mem hlt)
   have hF0:=hF1 ps[k] (List.getElem_mem hlt)
   have HTK:=take_e ps k hlt

   have hlti:(k:Int) < (ps.length:Int):=by omega
   have HDL:Hid (ds.length=k):=by
    have:=congrArg List.length HD.out.1
    have e:∀ (xs:List ItemD) (l:List TxnD),(deedsE xs l).length=l.length:=fun xs l=>by
     induction l generalizing xs with
     | nil=>rfl
     | cons t r ih=>simp [deedsE,ih]
    rw [List.length_map,e,List.length_take,List.length_map] at this
    show ds.length=k
    omega
   clear hcm hc'
   generalize ps[k]=p at *
   obtain ⟨i,s,q,va,acts⟩:=p
   replace hrd:actK.At wr va acts:=hrd
   replace hr0:actK.At w va acts:=hr0
   obtain ⟨ta,tc,rfl⟩:=hrd.shape
   dsimp only [TxnQ.e] at c0 c1 c2 c3 hF0 HTK
   have hbA:Below wr.heap.size wr (wr.alloc (.cells #[.int .i64 i,.int .i64 s,.int .i64 q,.slice ta acts.length tc] 49)):=by go_grown
   have Bt:=Blk.new wr 49 #[.int .i64 i,.int .i64 s,.int .i64 q,.slice ta acts.length tc]
   have R1:=R.below hbA
   replace R0:=R0.below hbA
   replace hrd:=hrd.below hbA
   replace hb:=hb.trans (hbA.mono hb.size)
   have hNlt:∀ x∈blk vN,x < wr.heap.size:=own_blk R.oN
   have hs1:=hbA.size
   go_wp2_with fail
   clear c0 c1 c2 c3 hbA
   generalize hX:wr.alloc (.cells #[.int .i64 i,.int .i64 s,.int .i64 q,.slice ta acts.length tc] 49)=X at *
   generalize hT:wr.heap.size=tb at *
   clear hX R
   have hFt:tb ∉ (w.heap.size + 1) :: blk vN:=fun hm=>by
    rcases List.mem_cons.1 hm with e | e
    ·omega
    ·have:=hNlt _ e;omega
   have t0:=keep_cell (Bt.cell 0 _ rfl) hFt
   have t1:=keep_cell (Bt.cell 1 _ rfl) hFt
   have t2:=keep_cell (Bt.cell 2 _ rfl) hFt
   have t3:=keep_cell (Bt.cell 3 _ rfl) hFt
   have hS0:Out ((w.heap.size + 1) :: blk vN) X X.drew:=Out.of_below (Below.refl _ _).drew
   have hW:Below X.heap.size X X.drew:=(Below.refl _ _).drew
   have hne:Nonempty (KeepP (Out ((w.heap.size + 1) :: blk vN) X)):=⟨⟨X,Out.refl _ _⟩⟩
   refine text_begin (S:=fun w' => ∃ u:KeepP (Out ((w.heap.size + 1) :: blk vN) X),w' = u.val) (by kernel_rfl) ?_
   refine seg_range [(0,4),(5,1),(7,1)] 3 (by kernel_rfl) (by kernel_rfl) (by kernel_rfl) (by kernel_rfl) (by kernel_rfl) ⟨⟨_,hS0⟩,rfl⟩ ?_
   simp only [pickR,List.toList_toArray,List.flatMap_cons,List.flatMap_nil,List.drop_succ_cons,List.drop_zero,List.take_succ_cons,List.take_zero,List.cons_append,List.nil_append,List.append_nil]
   repeat go_big_quiet_step (fail)
   refine wpQuiet_nil ?_
   clear t0 t1 t2 t3 hne
   have r1:=(R1.B.below hW).cell 1 _ rfl
   refine one_at 4 _ 2 (by kernel_rfl) rfl (by kernel_rfl) ?_
   go_wp2
   clear r1
   refine ThenGo.to ⟨⟨⟨_,hS0⟩,rfl⟩,?_⟩
   refine call_at 6 (some 23) 116 #[.slice ia xs.length ic,.agg #[.int .i64 i,.int .i64 s,.int .i64 q,.slice ta acts.length tc]] 1 (by kernel_rfl) (by kernel_rfl) (by kernel_rfl) (by kernel_rfl) (by kernel_rfl) ?_
   refine (doUndo9 ia ic xs i s q ta tc acts _ (R1.jN.at.below hW) (hrd.below hW) HD.out.2.2.1 HD.out.2.2.2 hF0).mono ?_
   rintro e w5 ⟨ub,uc,jb,jc,rfl,ou,oi,lu,li,hb5⟩
   have hlu:∀ x∈blk (.slice jb (runR xs acts).length jc),X.heap.size≤x:=fun x hx=>Nat.le_trans hW.size (li x hx)
   replace hW:=hW.trans (hb5.mono hW.size)
   refine ⟨_,rfl,⟨⟨_,Out.of_below hW⟩,rfl⟩,?_⟩
   simp only [Act.put,List.setIfInBounds_toArray,List.set_cons_zero,List.set_cons_succ]
   have R5:=R1.below hW
   have hXs:=hW.size
   have hil:∀ x∈blk (.slice jb (runR xs acts).length jc),w.heap.size + 2≤x∧x ∉ blk vN∧x ∉ blk (Value.slice none 0 0):=fun x hx=>by
    have:=hlu x hx
    exact ⟨by omega,fun e=>by have:=hNlt x e;omega,by simp [blk,Value.ownBlock]⟩
   have HNX:Hid ((ds ++ [(⟨i,s,q,.slice ta acts.length tc,acts,(runA xs acts).1,runV xs acts,.slice none 0 0,runU xs acts⟩:DeedQ)]).map DeedQ.e4=deedsE [] ((ps.map TxnQ.e).take (k + 1))∧nextI xs ⟨i,s,q,acts⟩=allI [] ((ps.map TxnQ.e).take (k + 1))∧(nextI xs ⟨i,s,q,acts⟩).length≤8∧Good (nextI xs ⟨i,s,q,acts⟩)):=by
    obtain ⟨d1,d2,d3,d4⟩:=HD.out
    have g:=nextI_good d3 d4 hF0
    rw [HTK,deeds_snoc,allI_snoc,← d2,List.map_append,d1]
    exact ⟨rfl,rfl,g.1,g.2⟩
   have hnx:=step9 (xs:=xs) (t:=⟨i,s,q,acts⟩)
   dsimp only at hnx
   refine call_at 8 (some 25) 115 #[.pointer (some ⟨w.heap.size + 1,0,none⟩),.agg #[.int .i64 i,.int .i64 s,.int .i64 q,.slice ta acts.length tc],.agg #[.int .i64 (runA xs acts).1,.int .i64 (runV xs acts),.slice ub (runU xs acts).length uc,.slice jb (runR xs acts).length jc],.agg #[]] 0 (by kernel_rfl) (by kernel_rfl) (by kernel_rfl) (by kernel_rfl) (by kernel_rfl) ?_
   refine (addN_any (w.heap.size + 1) vN (.slice ia xs.length ic) (.slice none 0 0) (.slice none 0 0) ds.length _ i s q (.slice ta acts.length tc) _ _ _ jb _ jc w5 R5.B R5.oN (fun e=>by have:=R5.lN _ e;omega) (by have:=HDL.out;omega) rfl).mono ?_
   rintro e w6 ⟨rfl,d1,B6,o6,hd6,hO6⟩
   have hs6:=hO6.size
   refine ⟨_,rfl,⟨⟨_,(Out.of_below (F:=(w.heap.size + 1) :: blk vN) hW).trans hO6⟩,rfl⟩,?_⟩
   simp only [Act.put,List.setIfInBounds_toArray,List.set_cons_zero,List.set_cons_succ]
   refine text_end (by kernel_rfl) ?_
   have hin:itemK.Own w5 (if (runA xs acts).1=0 then .slice jb (runR xs acts).length jc else .slice ia xs.length ic) (nextI xs ⟨i,s,q,acts⟩):=by
    rw [hnx]
    by_cases hc:(runA xs acts).1=0
    ·rw [if_pos hc,if_pos hc];exact oi
    ·rw [if_neg hc,if_neg hc];exact R5.jN
   have hil2:∀ x∈blk (if (runA xs acts).1=0 then .slice jb (runR xs acts).length jc else .slice ia xs.length ic),w.heap.size + 2≤x∧x ∉ blk vN∧x ∉ blk (Value.slice none 0 0):=by
    by_cases hc:(runA xs acts).1=0
    ·rw [if_pos hc];exact hil
    ·rw [if_neg hc];exact R5.d1
   have R6:=R5.addN (p:=⟨i,s,q,.slice ta acts.length tc,acts,(runA xs acts).1,runV xs acts,.slice none 0 0,runU xs acts⟩) (by omega) (by omega) hr0 hin hil2 B6 o6 hd6 hO6
   have hb6:Below w.heap.size w w6:=Out.keep (hb.trans (hW.mono hb.size)) hO6 (by omega) (fun x hx=>by
    rcases List.mem_cons.1 hx with e | e
    ·omega
    ·have:=R5.lN x e;omega)
   have R06:=(R0.below hW).outs8 hO6 (fun hx=>by
    rcases List.mem_cons.1 hx with e | e
    ·omega
    ·have:=R5.lN _ e;omega)
   have HR:Hid (_∧_∧_∧_):=⟨R6,R06,hb6,(show w.heap.size + 2≤w6.heap.size by omega)⟩
   clear R6 R06 hb6 R5 R1 R0 hb hin hil2 hil ou oi lu li hb5 hW hO6 hd6 o6 B6 hrd hr0 HD
   go_wp2
   go_roundw
   case rel=>exact ⟨k + 1,d1,_,_,_,by omega,by go_num,HR.out.1,HNX,HR.out.2.1,HR.out.2.2.1,HR.out.2.2.2⟩
   case measure=>simp [intOf];omega
  ·have hkl:k=ps.length:=by omega
   subst hkl
   have hlti:¬ ((ps.length:Int) < (ps.length:Int)):=by omega
   obtain ⟨HD1,HD2,hx8,gx⟩:=HD.out
   rw [List.take_of_length_le (by simp)] at HD1 HD2
   have HE:Hid (ds.map DeedQ.e4=deedsE [] (ps.map TxnQ.e)∧xs=allI [] (ps.map TxnQ.e)):=⟨HD1,HD2⟩
   clear HD HD1 HD2 hlt
   have r1:=R.B.cell 1 _ rfl
   have r3:=R.B.cell 3 _ rfl
   have f3:=R.B.frozen 3
   have Rs:=R.share (by omega)
   have R0s:=R0.other (b' := w.heap.size + 1) (by omega) 3 (.slice ia xs.length ic)
   have hbs:=hb.setCell (p:=⟨w.heap.size + 1,3,none⟩) (by show w.heap.size≤w.heap.size + 1;omega) (.slice ia xs.length ic)
   have hss:w.heap.size + 2≤(wr.setCell ⟨w.heap.size + 1,3,none⟩ (.slice ia xs.length ic)).heap.size:=by simpa using hsz
   go_wp2
   clear r1 r3 f3 R R0 hb hsz
   generalize wr.setCell ⟨w.heap.size + 1,3,none⟩ (.slice ia xs.length ic)=Y at *
   have H0:Hid (([]:List DeedQ).map DeedQ.e4=deedsE xs ((qs.map TxnQ.e).take 0)∧xs=allI xs ((qs.map TxnQ.e).take 0)∧xs.length≤8∧Good xs):=⟨rfl,rfl,hx8,gx⟩
   clear hx8 gx
   go_loopw [34] (fun j wr=>∃ (k:Nat) (vU iU:Value) (us:List DeedQ) (ys:List ItemD),k≤qs.length∧j=.int .i64 k∧Rec w (w.heap.size + 1) (w.heap.size + 2) wr vN (.slice ia xs.length ic) vU iU ds us xs ys∧Hid (us.map DeedQ.e4=deedsE xs ((qs.map TxnQ.e).take k)∧ys=allI xs ((qs.map TxnQ.e).take k)∧ys.length≤8∧Good ys)∧Blk wr w.heap.size 103 #[.slice none 0 0,.slice none 0 0,.slice none 0 0,.slice none 0 0]∧Below w.heap.size w wr∧w.heap.size + 2≤wr.heap.size) (fun j _=>qs.length - (intOf j).toNat)
   case atStart=>exact ⟨0,_,_,[],_,Nat.zero_le _,rfl,Rs,H0,R0s,hbs,hss⟩
   case round=>
    clear Rs H0 R0s hbs hss
    obtain ⟨k,vU,iU,us,ys,hk,rfl,R,HD,R0,hb,hsz⟩:=hrel
    obtain ⟨ja,jc,rfl⟩:=R.jU.shape
    by_cases hlt:k < qs.length
    ·obtain ⟨b,off,rfl,hbs,hcm,hrd⟩:=(h2.below hb).cell (by decide) k hlt
     have hc' : ∀ j x,(txnK.cells qs[k])[j]? = some x→wr.cell? ⟨b,off + k * 4 + j,none⟩=some x:=hcm
     have c0:=hc' 0 (.int .i64 qs[k].i) rfl
     have c1:=hc' 1 (.int .i64 qs[k].s) rfl
     have c2:=hc' 2 (.int .i64 qs[k].q) rfl
     have c3:=hc' 3 (qs[k].va) rfl
     rw [Nat.add_zero] at c0
     have hr0:txnK.rd w qs[k]:=h2.rdm (List.getElem_mem hlt)
     have hF0:=hF2 qs[k] (List.getElem_mem hlt)
     have HTK:=take_e qs k hlt

     have hlti2:(k:Int) < (qs.length:Int):=by omega
     have HDL:Hid (us.length=k):=by
      have:=congrArg List.length HD.out.1
      have e:∀ (xs:List ItemD) (l:List TxnD),(deedsE xs l).length=l.length:=fun xs l=>by
       induction l generalizing xs with
       | nil=>rfl
       | cons t r ih=>simp [deedsE,ih]
      rw [List.length_map,e,List.length_take,List.length_map] at this
      show us.length=k
      omega
     clear hcm hc'
     generalize qs[k]=p at *
     obtain ⟨i,s,q,va,acts⟩:=p
     replace hrd:actK.At wr va acts:=hrd
     replace hr0:actK.At w va acts:=hr0
     obtain ⟨ta,tc,rfl⟩:=hrd.shape
     dsimp only [TxnQ.e] at c0 c1 c2 c3 hF0 HTK
     have hbA:Below wr.heap.size wr (wr.alloc (.cells #[.int .i64 i,.int .i64 s,.int .i64 q,.slice ta acts.length tc] 49)):=by go_grown
     have Bt:=Blk.new wr 49 #[.int .i64 i,.int .i64 s,.int .i64 q,.slice ta acts.length tc]
     have R1:=R.below hbA
     replace R0:=R0.below hbA
     replace hrd:=hrd.below hbA
     replace hb:=hb.trans (hbA.mono hb.size)
     have hNlt:∀ x∈blk vN,x < wr.heap.size:=own_blk R.oN
     have hUlt:∀ x∈blk vU,x < wr.heap.size:=own_blk R.oU
     have hs1:=hbA.size
     have x0:=Bt.cell 0 _ rfl
     have x1:=Bt.cell 1 _ rfl
     have x2:=Bt.cell 2 _ rfl
     have x3:=Bt.cell 3 _ rfl
     have r3:=R1.B.cell 3 _ rfl
     have hdu:=doUndo9 ja jc ys i s q ta tc acts _ R1.jU.at hrd HD.out.2.2.1 HD.out.2.2.2 hF0
     go_wp2_with fail
     clear c0 c1 c2 c3 hbA x0 x1 x2 x3 r3
     generalize hX:wr.alloc (.cells #[.int .i64 i,.int .i64 s,.int .i64 q,.slice ta acts.length tc] 49)=X at *
     generalize hT:wr.heap.size=tb at *
     clear hX R
     refine hdu.mono ?_
     rintro e w5 ⟨ub,uc,jb,jd,rfl,ou,oi,lu,li,hb5⟩
     clear hdu
     have hUC:Below w5.heap.size w5 (w5.alloc (.cells #[.int .i64 (runA ys acts).1,.int .i64 (runV ys acts),.slice ub (runU ys acts).length uc,.slice jb (runR ys acts).length jd] 179)):=by go_grown
     have Bu:=Blk.new w5 179 #[.int .i64 (runA ys acts).1,.int .i64 (runV ys acts),.slice ub (runU ys acts).length uc,.slice jb (runR ys acts).length jd]
     have hs5:=hb5.size
     have hs6:=hUC.size
     have R5:=(R1.below hb5).below hUC
     replace R0:=(R0.below hb5).below hUC
     replace hb:=(hb.trans (hb5.mono hb.size))
     replace hb:=hb.trans (hUC.mono hb.size)
     replace Bt:=(Bt.below hb5).below hUC
     replace ou:=ou.below hUC
     replace oi:=oi.below hUC
     have x0:=Bt.cell 0 _ rfl
     have x1:=Bt.cell 1 _ rfl
     have x2:=Bt.cell 2 _ rfl
     have x3:=Bt.cell 3 _ rfl
     have y0:=Bu.cell 0 _ rfl
     have y1:=Bu.cell 1 _ rfl
     have y2:=Bu.cell 2 _ rfl
     have y3:=Bu.cell 3 _ rfl
     have hil:∀ x∈blk (.slice jb (runR ys acts).length jd),w.heap.size + 2≤x∧x ∉ blk vN∧x ∉ blk vU:=fun x hx=>by
      have:=li x hx
      exact ⟨by omega,fun e=>by have:=hNlt x e;omega,fun e=>by have:=hUlt x e;omega⟩
     have hul:∀ x∈blk (.slice ub (runU ys acts).length uc),w.heap.size + 2≤x∧x ∉ blk vN∧x ∉ blk vU:=fun x hx=>by
      have:=lu x hx
      exact ⟨by omega,fun e=>by have:=hNlt x e;omega,fun e=>by have:=hUlt x e;omega⟩
     have HNX:Hid ((us ++ [(⟨i,s,q,.slice ta acts.length tc,acts,(runA ys acts).1,runV ys acts,.slice ub (runU ys acts).length uc,runU ys acts⟩:DeedQ)]).map DeedQ.e4=deedsE xs ((qs.map TxnQ.e).take (k + 1))∧nextI ys ⟨i,s,q,acts⟩=allI xs ((qs.map TxnQ.e).take (k + 1))∧(nextI ys ⟨i,s,q,acts⟩).length≤8∧Good (nextI ys ⟨i,s,q,acts⟩)):=by
      obtain ⟨d1,d2,d3,d4⟩:=HD.out
      have g:=nextI_good d3 d4 hF0
      rw [HTK,deeds_snoc,allI_snoc,← d2,List.map_append,d1]
      exact ⟨rfl,rfl,g.1,g.2⟩
     have hnx:=step9 (xs:=ys) (t:=⟨i,s,q,acts⟩)
     dsimp only at hnx
     have had:=addU_any (w.heap.size + 1) vU (.slice ja ys.length jc) vN (.slice ia xs.length ic) us.length _ i s q (.slice ta acts.length tc) (runA ys acts).1 (runV ys acts) (.slice ub (runU ys acts).length uc) jb (runR ys acts).length jd ub (runU ys acts).length uc _ R5.B R5.oU (fun e=>by have:=R5.lU _ e;omega) (by have:=HDL.out;omega) rfl
     go_wp2_with fail
     clear x0 x1 x2 x3 y0 y1 y2 y3 Bt Bu hUC hb5
     generalize w5.alloc (.cells #[.int .i64 (runA ys acts).1,.int .i64 (runV ys acts),.slice ub (runU ys acts).length uc,.slice jb (runR ys acts).length jd] 179)=w5a at *
     refine had.mono ?_
     rintro e w6 ⟨rfl,d1,B6,o6,hd6,hO6⟩
     have hs7:=hO6.size
     have hin:itemK.Own w5a (if (runA ys acts).1=0 then .slice jb (runR ys acts).length jd else .slice ja ys.length jc) (nextI ys ⟨i,s,q,acts⟩):=by
      rw [hnx]
      by_cases hc:(runA ys acts).1=0
      ·rw [if_pos hc,if_pos hc];exact oi
      ·rw [if_neg hc,if_neg hc];exact R5.jU
     have hil2:∀ x∈blk (if (runA ys acts).1=0 then .slice jb (runR ys acts).length jd else .slice ja ys.length jc),w.heap.size + 2≤x∧x ∉ blk vN∧x ∉ blk vU:=by
      by_cases hc:(runA ys acts).1=0
      ·rw [if_pos hc];exact hil
      ·rw [if_neg hc];exact R5.d2
     have R6:=R5.addU (p:=⟨i,s,q,.slice ta acts.length tc,acts,(runA ys acts).1,runV ys acts,.slice ub (runU ys acts).length uc,runU ys acts⟩) (by omega) (by omega) hr0 ou hul hin hil2 B6 o6 hd6 hO6
     have hb6:Below w.heap.size w w6:=Out.keep hb hO6 (by omega) (fun x hx=>by
      rcases List.mem_cons.1 hx with e | e
      ·omega
      ·have:=R5.lU x e;omega)
     have R06:=R0.outs8 hO6 (fun hx=>by
      rcases List.mem_cons.1 hx with e | e
      ·omega
      ·have:=R5.lU _ e;omega)
     have HR:Hid (_∧_∧_∧_):=⟨R6,R06,hb6,(show w.heap.size + 2≤w6.heap.size by omega)⟩
     clear R6 R06 hb6 R5 R1 R0 hb hin hil2 hil hul ou oi lu li hO6 hd6 o6 B6 hrd hr0 HD had
     go_wp2
     go_roundw
     case rel=>exact ⟨k + 1,d1,_,_,_,by omega,by go_num,HR.out.1,HNX,HR.out.2.1,HR.out.2.2.1,HR.out.2.2.2⟩
     case measure=>simp [intOf];omega
    ·have hkl:k=qs.length:=by omega
     subst hkl
     have hlti2:¬ ((qs.length:Int) < (qs.length:Int)):=by omega
     obtain ⟨HD1,HD2,_,_⟩:=HD.out
     rw [List.take_of_length_le (by simp)] at HD1 HD2
     obtain ⟨HE1,HE2⟩:=HE.out
     subst HE2
     subst HD2
     clear HD HE hlt
     have r0:=R.B.cell 0 _ rfl
     have r1:=R.B.cell 1 _ rfl
     have r2:=R.B.cell 2 _ rfl
     have r3:=R.B.cell 3 _ rfl
     have z0:=R0.cell 0 _ rfl
     have z1:=R0.cell 1 _ rfl
     have z2:=R0.cell 2 _ rfl
     have z3:=R0.cell 3 _ rfl
     have g0:=R0.frozen 0
     have g1:=R0.frozen 1
     have g2:=R0.frozen 2
     have g3:=R0.frozen 3
     obtain ⟨na,nc,rfl⟩:=own_shape R.oN
     obtain ⟨ua,uc,rfl⟩:=own_shape R.oU
     have RF:Hid (∀ u0 u1 u2 u3:Value,Rec w (w.heap.size + 1) (w.heap.size + 2) ((((wr.setCell ⟨w.heap.size,0,none⟩ u0).setCell ⟨w.heap.size,1,none⟩ u1).setCell ⟨w.heap.size,2,none⟩ u2).setCell ⟨w.heap.size,3,none⟩ u3) _ _ _ _ ds us _ _∧Below w.heap.size w ((((wr.setCell ⟨w.heap.size,0,none⟩ u0).setCell ⟨w.heap.size,1,none⟩ u1).setCell ⟨w.heap.size,2,none⟩ u2).setCell ⟨w.heap.size,3,none⟩ u3)):=fun u0 u1 u2 u3=>
      ⟨(((R.other (by omega) (by omega) 0 u0).other (by omega) (by omega) 1 u1).other (by omega) (by omega) 2 u2).other (by omega) (by omega) 3 u3,(((hb.setCell (p:=⟨w.heap.size,0,none⟩) (Nat.le_refl _) u0).setCell (p:=⟨w.heap.size,1,none⟩) (Nat.le_refl _) u1).setCell (p:=⟨w.heap.size,2,none⟩) (Nat.le_refl _) u2).setCell (p:=⟨w.heap.size,3,none⟩) (Nat.le_refl _) u3⟩
     clear R R0
     go_wp2
     exact bodyPost_ret (v:=.agg #[.slice na ds.length nc,_,.slice ua us.length uc,_]) (by simp [results,Tryz.results57,go_sem,z0,z1,z2,z3]) rfl ⟨_,_,_,_,rfl,⟨ds,us,w.heap.size + 1,w.heap.size + 2,(RF.out _ _ _ _).1,HE1,HD1,by omega,by omega⟩,(RF.out _ _ _ _).2⟩

end Go.Proofs.YtfdkcbafpiojkaaGreatDoor
namespace Go.Proofs.YtfdkcbafpiojkaaGreatDoor
open Go.RowKit
open Go.BigFrame
set_option maxRecDepth 100000
theorem acts_oneCell (zs:List ActD):∀ u∈actCells zs,u.oneCell' = true:=by
 intro u hu
 simp only [actCells,List.mem_flatMap,ActD.cells,List.mem_cons,List.not_mem_nil,or_false] at hu
 obtain ⟨z,_,rfl | rfl | rfl⟩:=hu <;> rfl

theorem lies_src {w:World} {b off:Nat} {xs:List Value} (h:Lies w (some ⟨b,off,none⟩) xs):∀ j u,xs[j]? = some u→w.cell? ((⟨b,off,none⟩:Addr).add j)=some u:=by
 intro j u hj
 rcases h with rfl | ⟨b',off',e,_,hc⟩
 ·simp at hj
 ·simp only [Option.some.injEq,Addr.mk.injEq,and_true] at e
  obtain ⟨rfl,rfl⟩:=e
  rw [Addr.add_lit]
  exact hc j u hj

set_option maxRecDepth 100000 in
set_option maxHeartbeats 1000000 in
theorem l2Copy_any (i s q:Int) (b off cap:Nat) (zs:List ActD) (w:World) (h:ActRow w (some ⟨b,off,none⟩) zs) (h0:0 < zs.length) (hl:zs.length≤1048576) :
  Calls Tryz.prog 131 #[.agg #[.int .i64 i,.int .i64 s,.int .i64 q,.slice (some ⟨b,off,none⟩) zs.length cap]] w fun e w' => ∃ a c,e=.returned (.agg #[.int .i64 i,.int .i64 s,.int .i64 q,.slice a zs.length c]) ∧
   w'.ownsRow w.heap.size 146 3 (.slice a zs.length c) zs.length (actCells zs)∧Below w.heap.size w w' := by
 obtain ⟨i0,hi,hz0,hz1,hz2⟩:=info_parts infoAct
 have hs:=lies_src (Lies.below h (w' := ((w.alloc (.cells #[.int .i64 i,.int .i64 s,.int .i64 q,.slice (some ⟨b,off,none⟩) zs.length cap] 49)).alloc (.cells #[.int .i64 0,.int .i64 0,.int .i64 0,.slice none 0 0] 49)).alloc (.cells #[] 146)) (by go_grown))
 have hcl:=actCells_length zs
 have ho:=World.ownsRow_lit (e:=146) (size:=3) ((w.alloc (.cells #[.int .i64 i,.int .i64 s,.int .i64 q,.slice (some ⟨b,off,none⟩) zs.length cap] 49)).alloc (.cells #[.int .i64 0,.int .i64 0,.int .i64 0,.slice none 0 0] 49)) #[] 0 (Nat.le_refl _) (by decide) rfl
 have hb1:Below w.heap.size w (((w.alloc (.cells #[.int .i64 i,.int .i64 s,.int .i64 q,.slice (some ⟨b,off,none⟩) zs.length cap] 49)).alloc (.cells #[.int .i64 0,.int .i64 0,.int .i64 0,.slice none 0 0] 49)).alloc (.cells #[] 146)):=by go_grown
 have B1:=(Blk.new w 49 #[.int .i64 i,.int .i64 s,.int .i64 q,.slice (some ⟨b,off,none⟩) zs.length cap]).below (w' := ((w.alloc (.cells #[.int .i64 i,.int .i64 s,.int .i64 q,.slice (some ⟨b,off,none⟩) zs.length cap] 49)).alloc (.cells #[.int .i64 0,.int .i64 0,.int .i64 0,.slice none 0 0] 49)).alloc (.cells #[] 146)) (by go_grown)
 have B2:=(Blk.new (w.alloc (.cells #[.int .i64 i,.int .i64 s,.int .i64 q,.slice (some ⟨b,off,none⟩) zs.length cap] 49)) 49 #[.int .i64 0,.int .i64 0,.int .i64 0,.slice none 0 0]).below (w' := ((w.alloc (.cells #[.int .i64 i,.int .i64 s,.int .i64 q,.slice (some ⟨b,off,none⟩) zs.length cap] 49)).alloc (.cells #[.int .i64 0,.int .i64 0,.int .i64 0,.slice none 0 0] 49)).alloc (.cells #[] 146)) (by go_grown)
 have HS:Hid (∀ j u,(actCells zs)[j]? = some u→_):=hs
 clear hs
 simp only [World.size_alloc] at B2 ho
 go_enter Tryz.func131,Tryz.ntmps131
 go_wp2_with (at_builtin;refine wpList_append_own _ rfl _ _ 47 rfl (w.heap.size + 1 + 1) 146 i0 (.agg #[.int .i64 0,.int .i64 0,.int .i64 0]) 3 24 Tryz.underlying47 hi hz0 hz1 hz2 rfl (by decide) _ 0 [] rfl ho ⟨b,off,none⟩ zs.length cap (actCells zs) rfl hcl HS.out ?c2 ?c3 ?c4 ?c5 ?_)
 all_goals try (case c2=>exact acts_oneCell zs)
 all_goals try (case c3=>unfold maxLen;omega)
 all_goals try (case c4=>omega)
 all_goals try (case c5=>simp)
 intro v' w2 hown hgrow _
 obtain ⟨a2,c2,rfl⟩:=own_shape hown
 replace B1:=B1.grown hgrow (by simp [Value.ownBlock] <;> omega)
 replace B2:=B2.grown hgrow (by simp [Value.ownBlock] <;> omega)
 have hb2:Below w.heap.size w w2:=hb1.grown hgrow (by simp;omega) (fun k hk=>by simp [Value.ownBlock] at hk;omega)
 have hlt2:=B2.lt
 have p0:=B1.cell 0 _ rfl
 have p1:=B1.cell 1 _ rfl
 have p2:=B1.cell 2 _ rfl
 have p3:=B1.cell 3 _ rfl
 have pf:=B1.frozen 3
 have q0:=B2.cell 0 _ rfl
 have q1:=B2.cell 1 _ rfl
 have q2:=B2.cell 2 _ rfl
 have q3:=B2.cell 3 _ rfl
 have f0:=B2.frozen 0
 have f1:=B2.frozen 1
 have f2:=B2.frozen 2
 have f3:=B2.frozen 3
 try simp only [Nat.zero_add] at hown
 clear B1 B2 hgrow HS ho hb1
 go_wp2
 refine bodyPost_ret (v:=.agg #[.int .i64 i,.int .i64 s,.int .i64 q,.slice a2 zs.length c2]) (by simp [results,Tryz.results131,go_sem,q0,q1,q2,q3]) rfl ⟨_,_,rfl,?_,?_⟩
 ·refine own_base (base:=w.heap.size + 1 + 1) ?_ (by omega)
  repeat' (refine ownsRow_setCell_below ?_ (by dsimp only;omega) _)
  simpa using hown
 ·repeat' (refine Below.setCell ?_ (by dsimp only;omega) _)
  exact hb2

set_option maxRecDepth 100000 in
set_option maxHeartbeats 1000000 in
theorem clone_any (b off cap:Nat) (zs:List ActD) (w:World) (h:ActRow w (some ⟨b,off,none⟩) zs) (h0:0 < zs.length) (hl:zs.length≤1048576) :
  Calls Tryz.prog 187 #[.slice (some ⟨b,off,none⟩) zs.length cap] w fun e w' => ∃ a c,e=.returned (.slice a zs.length c) ∧
   w'.ownsRow w.heap.size 146 3 (.slice a zs.length c) zs.length (actCells zs)∧Below w.heap.size w w' := by
 obtain ⟨i0,hi,hz0,hz1,hz2⟩:=info_parts infoAct
 have hs:=lies_src (Lies.below h (w' := w.alloc (.cells #[] 146)) (by go_grown))
 have hcl:=actCells_length zs
 have ho:=World.ownsRow_lit (e:=146) (size:=3) w #[] 0 (Nat.le_refl _) (by decide) rfl
 have HS:Hid (∀ j u,(actCells zs)[j]? = some u→_):=hs
 clear hs
 have hnil:∀ w,(binOp .eql 47 (.slice (some ⟨b,off,none⟩) zs.length cap) (.slice none 0 0)).run Tryz.prog w=.ok (.bool false) w:=fun w=>by first | rfl | kernel_rfl | (simp only [binOp];simp [Op.equal,Op.maxDepth,Op.equalIn,run_underlying Tryz.underlying47])
 go_enter Tryz.func187,Tryz.ntmps187
 go_wp2_with (at_builtin;refine wpList_append_own _ rfl _ _ 47 rfl w.heap.size 146 i0 (.agg #[.int .i64 0,.int .i64 0,.int .i64 0]) 3 24 Tryz.underlying47 hi hz0 hz1 hz2 rfl (by decide) _ 0 [] rfl ho ⟨b,off,none⟩ zs.length cap (actCells zs) rfl hcl HS.out ?c2 ?c3 ?c4 ?c5 ?_)
 all_goals try (case c2=>exact acts_oneCell zs)
 all_goals try (case c3=>unfold maxLen;omega)
 all_goals try (case c4=>omega)
 all_goals try (case c5=>simp)
 intro v' w2 hown hgrow _
 obtain ⟨a2,c2,rfl⟩:=own_shape hown
 have hb2:Below w.heap.size w w2:=((Below.refl _ _).alloc (Nat.le_refl _) _).grown hgrow (by simp) (fun k hk=>by simp [Value.ownBlock] at hk;omega)
 try simp only [Nat.zero_add] at hown
 clear hgrow HS ho
 go_wp2
 go_ret
 exact ⟨a2,c2,rfl,by simpa using hown,hb2⟩

set_option maxRecDepth 100000 in
set_option maxHeartbeats 1000000 in
theorem cloneTxn_any (i s q:Int) (b off cap:Nat) (zs:List ActD) (w:World) (h:ActRow w (some ⟨b,off,none⟩) zs) (h0:0 < zs.length) (hl:zs.length≤1048576) :
  Calls Tryz.prog 157 #[.agg #[.int .i64 i,.int .i64 s,.int .i64 q,.slice (some ⟨b,off,none⟩) zs.length cap]] w fun e w' => ∃ a c,e=.returned (.agg #[.int .i64 i,.int .i64 s,.int .i64 q,.slice a zs.length c]) ∧
   w'.ownsRow w.heap.size 146 3 (.slice a zs.length c) zs.length (actCells zs)∧Below w.heap.size w w' := by
 have hb1:Below w.heap.size w ((w.alloc (.cells #[.int .i64 i,.int .i64 s,.int .i64 q,.slice (some ⟨b,off,none⟩) zs.length cap] 49)).alloc (.cells #[.int .i64 0,.int .i64 0,.int .i64 0,.slice none 0 0] 49)):=by go_grown
 have B1:=(Blk.new w 49 #[.int .i64 i,.int .i64 s,.int .i64 q,.slice (some ⟨b,off,none⟩) zs.length cap]).below (w' := (w.alloc (.cells #[.int .i64 i,.int .i64 s,.int .i64 q,.slice (some ⟨b,off,none⟩) zs.length cap] 49)).alloc (.cells #[.int .i64 0,.int .i64 0,.int .i64 0,.slice none 0 0] 49)) (by go_grown)
 have B2:=Blk.new (w.alloc (.cells #[.int .i64 i,.int .i64 s,.int .i64 q,.slice (some ⟨b,off,none⟩) zs.length cap] 49)) 49 #[.int .i64 0,.int .i64 0,.int .i64 0,.slice none 0 0]
 simp only [World.size_alloc] at B2
 go_enter Tryz.func157,Tryz.ntmps157
 go_wp2_with fail
 generalize (w.alloc (.cells #[.int .i64 i,.int .i64 s,.int .i64 q,.slice (some ⟨b,off,none⟩) zs.length cap] 49)).alloc (.cells #[.int .i64 0,.int .i64 0,.int .i64 0,.slice none 0 0] 49)=W at hb1 B1 B2
 have hltW:=B2.lt
 refine (clone_any b off cap zs W (h.below hb1) h0 hl).mono ?_
 rintro e w2 ⟨a2,c2,rfl,hown,hb⟩
 replace B1:=B1.below hb
 replace B2:=B2.below hb
 have p0:=B1.cell 0 _ rfl
 have p1:=B1.cell 1 _ rfl
 have p2:=B1.cell 2 _ rfl
 have p3:=B1.cell 3 _ rfl
 have pf:=B1.frozen 3
 have q0:=B2.cell 0 _ rfl
 have q1:=B2.cell 1 _ rfl
 have q2:=B2.cell 2 _ rfl
 have q3:=B2.cell 3 _ rfl
 have f0:=B2.frozen 0
 have f1:=B2.frozen 1
 have f2:=B2.frozen 2
 have f3:=B2.frozen 3
 clear B1 B2
 go_wp2
 refine bodyPost_ret (v:=.agg #[.int .i64 i,.int .i64 s,.int .i64 q,.slice a2 zs.length c2]) (by simp [results,Tryz.results157,go_sem,q0,q1,q2,q3]) rfl ⟨_,_,rfl,?_,?_⟩
 ·refine own_base (base:=W.heap.size) ?_ (by omega)
  repeat' (refine ownsRow_setCell_below ?_ (by dsimp only;omega) _)
  exact hown
 ·repeat' (refine Below.setCell ?_ (by dsimp only;omega) _)
  exact below_from hb1 hb

end Go.Proofs.YtfdkcbafpiojkaaGreatDoor
namespace Go.Proofs.YtfdkcbafpiojkaaGreatDoor
open Go.RowKit
open Go.BigFrame
set_option maxRecDepth 100000
set_option maxHeartbeats 2000000 in
theorem cloneTxns_any (v:Value) (ps:List TxnQ) (w:World) (h:txnK.At w v ps) (hne:∀ p∈ps,0 < p.acts.length) (hl:ps.length + nmL TxnQ.n ps≤1048576) :
  Calls Tryz.prog 99 #[v] w fun e w' => ∃ v' qs,e=.returned v' ∧ qs.map TxnQ.e=ps.map TxnQ.e∧txnK.Own w' v' qs∧(txnK.fp v' qs).Nodup∧(∀ k∈txnK.fp v' qs,w.heap.size≤k)∧Below w.heap.size w w' := by
 obtain ⟨a,cap,rfl⟩:=h.shape
 obtain ⟨i0,hi,hz0,hz1,hz2⟩:=info_parts infoTxn
 obtain ⟨hn1,hn2⟩:=Kind.own_nil (K:=txnK) w
 have HN0:Hid ((txnK.fp (.slice none 0 0) ([]:List TxnQ)).Nodup∧∀ k∈txnK.fp (.slice none 0 0) ([]:List TxnQ),w.heap.size≤k):=by
  rw [hn2]
  exact ⟨by simp,by simp⟩
 clear hn2
 go_enter Tryz.func99,Tryz.ntmps99
 go_wp2
 go_loopw [3,8] (fun v j wr=>∃ (k:Nat) (qs:List TxnQ),k≤ps.length∧j=.int .i64 k∧Hid (qs.map TxnQ.e=(ps.take k).map TxnQ.e)∧txnK.Own wr v qs∧Hid ((txnK.fp v qs).Nodup∧∀ k∈txnK.fp v qs,w.heap.size≤k)∧Below w.heap.size w wr) (fun _ j _=>ps.length - (intOf j).toNat)
 case atStart=>exact ⟨0,[],Nat.zero_le _,rfl,(rfl:_=_),hn1,HN0,Below.refl _ _⟩
 case round=>
  clear HN0 hn1
  obtain ⟨k,qs,hk,rfl,HE,hO,HN,hb⟩:=hrel
  obtain ⟨sa,sc,rfl⟩:=hO.shape
  have HQL:Hid (qs.length=k):=by
   have:=congrArg List.length HE.out
   rw [List.length_map,List.length_map,List.length_take] at this
   show qs.length=k
   omega
  by_cases hlt:k < ps.length
  ·obtain ⟨b,off,rfl,hbs,hc,hrd⟩:=(h.below hb).cell (by decide) k hlt
   have hc' : ∀ j x,(txnK.cells ps[k])[j]? = some x→wr.cell? ⟨b,off + k * 4 + j,none⟩=some x:=hc
   have c0:=hc' 0 (.int .i64 ps[k].i) rfl
   have c1:=hc' 1 (.int .i64 ps[k].s) rfl
   have c2:=hc' 2 (.int .i64 ps[k].q) rfl
   have c3:=hc' 3 (ps[k].va) rfl
   have hzl:=nm_le TxnQ.n ps k hlt
   have hpos:=hne _ (List.getElem_mem hlt)
   have HPE:Hid (∀ p' : TxnQ,p'.e=TxnQ.e ps[k]→(qs ++ [p']).map TxnQ.e=(ps.take (k + 1)).map TxnQ.e):=fun p' hp' => by
    rw [List.take_succ_eq_append_getElem hlt,List.map_append,List.map_append,HE.out,List.map_singleton,List.map_singleton,hp']
   clear hc hc'
   generalize ps[k]=p at *
   obtain ⟨i,s,q,va,acts⟩:=p
   replace hrd:actK.At wr va acts:=hrd
   replace hzl:acts.length≤nmL TxnQ.n ps:=hzl
   obtain ⟨aa,ac,rfl⟩:=hrd.shape
   dsimp only at c0 c1 c2 c3 hpos
   obtain ⟨ab,ao,haa⟩:∃ ab ao,aa=some ⟨ab,ao,none⟩:=by
    rcases (actK_at hrd).2 with h0 | ⟨ab,ao,e,_⟩
    ·have:=actCells_length acts
     rw [h0] at this
     simp at this
     omega
    ·exact ⟨ab,ao,e⟩
   subst haa
   have hbY:Below wr.heap.size wr (wr.alloc (.cells #[.int .i64 i,.int .i64 s,.int .i64 q,.slice (some ⟨ab,ao,none⟩) acts.length ac] 49)):=by go_grown
   have hcl:=cloneTxn_any i s q ab ao ac acts _ ((actK_at hrd).2.below hbY) hpos (by omega)
   rw [Nat.add_zero] at c0
   replace hO:=hO.below hbY
   replace hb:=hb.trans (hbY.mono hb.size)
   clear HE hbY
   go_wp2_with fail
   clear c0 c1 c2 c3
   generalize wr.alloc (.cells #[.int .i64 i,.int .i64 s,.int .i64 q,.slice (some ⟨ab,ao,none⟩) acts.length ac] 49)=Y at *
   have hYs:w.heap.size≤Y.heap.size:=hb.size
   refine hcl.mono ?_
   rintro e w2 ⟨a2,c2,rfl,ho2,hb2⟩
   have HLT:=hO.lt
   replace hO:=hO.below hb2
   replace hb:=hb.trans (hb2.mono hb.size)
   obtain ⟨o2,hk2⟩:=own_zero ho2
   have hP:txnK.own w2 ⟨i,s,q,.slice a2 acts.length c2,acts⟩:=⟨o2,fun _ _=>trivial⟩
   have hPlo:∀ x∈txnK.foot ⟨i,s,q,.slice a2 acts.length c2,acts⟩,Y.heap.size≤x:=fun x hx=>hk2 x (by rw [← actK_fp (.slice a2 acts.length c2) acts];exact hx)
   have hPn:(txnK.foot ⟨i,s,q,.slice a2 acts.length c2,acts⟩).Nodup:=by
    show (actK.fp _ _).Nodup
    rw [actK_fp];exact blk_nodup _
   have hbA:Below w2.heap.size w2 (w2.alloc (.cells #[.int .i64 i,.int .i64 s,.int .i64 q,.slice a2 acts.length c2] 49)):=by go_grown
   have hOA:=hO.below hbA
   have hPA:=txnK.own_out (F:=[]) hP (Out.of_below hbA) (fun _ _=>by simp)
   have hbB:=hb.trans (hbA.mono hb.size)
   clear hcl ho2 hO hP hk2
   have hrow0:=hOA.1
   go_wp2_with (at_builtin;refine wpList_append_own_at _ rfl _ _ 28 rfl 0 49 i0 (.agg #[.int .i64 0,.int .i64 0,.int .i64 0,.slice none 0 0]) 4 48 Tryz.underlying28 hi hz0 hz1 hz2 rfl (by decide) _ qs.length (txnK.row qs) rfl hrow0 ⟨w2.heap.size,0,none⟩ 1 1 [.int .i64 i,.int .i64 s,.int .i64 q,.slice a2 acts.length c2] rfl rfl ?c1 ?c2 ?c3 ?c4 ?c5 ?_)
   all_goals try (case c1=>intro j u hj;match j,hj with | 0,hj=>simp at hj;subst hj;simp [Addr.add] | 1,hj=>simp at hj;subst hj;simp [Addr.add] | 2,hj=>simp at hj;subst hj;simp [Addr.add] | 3,hj=>simp at hj;subst hj;simp [Addr.add])
   all_goals try (case c2=>intro u hu;simp at hu;rcases hu with rfl | rfl | rfl | rfl <;> rfl)
   all_goals try (case c3=>have:=HQL.out;unfold maxLen;omega)
   all_goals try (case c4=>have:=HQL.out;omega)
   all_goals try (case c5=>first | omega | simp)
   intro v' w5 hown hgrow hnil hat
   clear hnil hrow0
   rw [show w2.heap.size + 1=(w2.alloc (.cells #[.int .i64 i,.int .i64 s,.int .i64 q,.slice a2 acts.length c2] 49)).heap.size from (World.size_alloc _ _).symm] at hat
   generalize hwA:w2.alloc (.cells #[.int .i64 i,.int .i64 s,.int .i64 q,.slice a2 acts.length c2] 49)=WA at *
   clear hwA
   have hsz:Y.heap.size≤WA.heap.size:=by have:=hb2.size;have:=hbA.size;omega
   obtain ⟨hO5,hn5,hlo5,hou⟩:=hOA.snoc HN.out.1 HN.out.2 hPA hPn (fun x hx hx' => by have:=HLT x hx';have:=hPlo x hx;omega) (fun x hx=>by have:=hPlo x hx;omega) hbB.size hown hgrow hat
   have hb5:Below w.heap.size w w5:=Out.keep hbB hou hbB.size (fun x hx=>HN.out.2 x (by simp only [Kind.fp,List.mem_append];exact Or.inl hx))
   have HE5:Hid ((qs ++ [(⟨i,s,q,.slice a2 acts.length c2,acts⟩:TxnQ)]).map TxnQ.e=(ps.take (k + 1)).map TxnQ.e):=HPE.out _ rfl
   have HN5:Hid ((txnK.fp v' (qs ++ [(⟨i,s,q,.slice a2 acts.length c2,acts⟩:TxnQ)])).Nodup∧∀ k∈txnK.fp v' (qs ++ [(⟨i,s,q,.slice a2 acts.length c2,acts⟩:TxnQ)]),w.heap.size≤k):=⟨hn5,hlo5⟩
   clear HPE HN HLT hPlo hPn hPA hOA hbB hown hgrow hat hou hn5 hlo5 hrd hb hbA hb2 hzl hpos
   go_wp2
   go_roundw
   case rel=>exact ⟨k + 1,_,by omega,by go_num,HE5,hO5,HN5,hb5⟩
   case measure=>simp [intOf];omega
  ·have hkl:k=ps.length:=by omega
   subst hkl
   have hE:=HE.out
   rw [List.take_length] at hE
   clear HE
   go_wp2
   go_ret
   exact ⟨_,qs,rfl,hE,hO,HN.out.1,HN.out.2,hb⟩

end Go.Proofs.YtfdkcbafpiojkaaGreatDoor
