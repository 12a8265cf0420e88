/- Texts joined, with what the laws reach alone. -/
import Derived.Test.YtjjoahhnkpjolaaGreatDoorCFAY
import Derived.Test.YtjjoahhnkpjolaaGreatDoorCFAQ
set_option linter.unusedVariables false
set_option linter.unusedSimpArgs false
namespace Go.Proofs.YtjjoahhnkpjolaaGreatDoor
open Go.RowKit
open Go.BigFrame
set_option maxRecDepth 100000
theorem keep_cell {F:List Nat} {w:World} {b o:Nat} {v:Value} (h:w.cell? ⟨b,o,none⟩=some v) (hF:b ∉ F):∀ u:KeepP (Out F w),u.val.cell? ⟨b,o,none⟩=some v:=fun u=>by
 have hb:=World.block_lt_of_cell? w _ h
 have e:=u.isP.block b hb hF
 unfold World.cell? at h ⊢
 simp only at h ⊢
 rw [e]
 exact h

theorem take_e (ps:List TxnQ) (k:Nat) (hk:k < ps.length):(ps.map TxnQ.e).take (k + 1)=(ps.map TxnQ.e).take k ++ [TxnQ.e ps[k]]:=by
 rw [List.take_succ_eq_append_getElem (by simpa using hk)]
 simp

theorem step9 {xs:List ItemD} {t:TxnD}:nextI xs t=if (runA xs t.acts).1=0 then runR xs t.acts else xs:=by
 unfold nextI runR
 split <;> simp_all

/-- A record of D for good and E ahead of its time. -/
def RecPost (w w' : World) (vN iN vU iU:Value) (D E:List TxnD):Prop:=∃ (ds us:List DeedQ) (rb B0:Nat),Rec w rb B0 w' vN iN vU iU ds us (allI [] D) (allI (allI [] D) E)∧ds.map DeedQ.e4=deedsE [] D∧us.map DeedQ.e4=deedsE (allI [] D) E∧w.heap.size≤rb∧rb < B0

/-- Another block is written over. -/
theorem Rec.other {w:World} {rb B0 g:Nat} {wr:World} {vN iN vU iU:Value} {ds us:List DeedQ} {xs ys:List ItemD} (h:Rec w rb B0 wr vN iN vU iU ds us xs ys) (hg:g < B0) (hr:rb≠g) (j:Nat) (u:Value):Rec w rb B0 (wr.setCell ⟨g,j,none⟩ u) vN iN vU iU ds us xs ys:=by
 have hO:=Out.setCell wr g j u
 have nF:∀ {k},B0≤k→k ∉ [g]:=fun hk hm=>by simp only [List.mem_singleton] at hm;omega
 exact ⟨h.B.other hr j u,own_outs h.oN hO (fun k hk=>nF (h.lN k hk)),h.aN,own_outs h.oU hO (fun k hk=>nF (h.lU k hk)),fun p hp=>⟨(h.aU p hp).1,(h.aU p hp).2.out hO (fun k hk=>by rw [undoK_fp] at hk;exact nF (h.d3 p hp k hk).1)⟩,h.jN.out hO (fun k hk=>by rw [itemK_fp] at hk;exact nF (h.d1 k hk).1),h.jU.out hO (fun k hk=>by rw [itemK_fp] at hk;exact nF (h.d2 k hk).1),h.nu,h.lN,h.lU,h.d1,h.d2,h.d3⟩

set_option maxRecDepth 100000 in
set_option maxHeartbeats 8000000 in
theorem recordOf_any (v1 v2:Value) (ps qs:List TxnQ) (w:World) (h1:txnK.At w v1 ps) (h2:txnK.At w v2 qs) (hF1:∀ p∈ps,(TxnQ.e p).F=0) (hF2:∀ p∈qs,(TxnQ.e p).F=0) (hl1:ps.length≤40) (hl2:qs.length≤40) :
  Calls Tryz.prog 132 #[v1,v2] w fun e w' => ∃ (vN iN vU iU:Value),e=.returned (.agg #[vN,iN,vU,iU])∧RecPost w w' vN iN vU iU (ps.map TxnQ.e) (qs.map TxnQ.e)∧Below w.heap.size w w' := by
 obtain ⟨a1,k1,rfl⟩:=h1.shape
 obtain ⟨a2,k2,rfl⟩:=h2.shape
 have hb0:Below w.heap.size w ((w.alloc (.cells #[.slice none 0 0,.slice none 0 0,.slice none 0 0,.slice none 0 0] 149)).alloc (.cells #[.slice none 0 0,.slice none 0 0,.slice none 0 0,.slice none 0 0] 149)):=by go_grown
 have R0:=(Blk.new w 149 #[.slice none 0 0,.slice none 0 0,.slice none 0 0,.slice none 0 0]).below (w' := (w.alloc (.cells #[.slice none 0 0,.slice none 0 0,.slice none 0 0,.slice none 0 0] 149)).alloc (.cells #[.slice none 0 0,.slice none 0 0,.slice none 0 0,.slice none 0 0] 149)) (by go_grown)
 have B:=Blk.new (w.alloc (.cells #[.slice none 0 0,.slice none 0 0,.slice none 0 0,.slice none 0 0] 149)) 149 #[.slice none 0 0,.slice none 0 0,.slice none 0 0,.slice none 0 0]
 rw [World.size_alloc] at B
 have hsz:w.heap.size + 2≤((w.alloc (.cells #[.slice none 0 0,.slice none 0 0,.slice none 0 0,.slice none 0 0] 149)).alloc (.cells #[.slice none 0 0,.slice none 0 0,.slice none 0 0,.slice none 0 0] 149)).heap.size:=by simp only [World.size_alloc];omega
 have hn:∀ k∈blk (Value.slice none 0 0),False:=fun k hk=>by simp [blk,Value.ownBlock] at hk
 have Rz:Rec w (w.heap.size + 1) (w.heap.size + 2) ((w.alloc (.cells #[.slice none 0 0,.slice none 0 0,.slice none 0 0,.slice none 0 0] 149)).alloc (.cells #[.slice none 0 0,.slice none 0 0,.slice none 0 0,.slice none 0 0] 149)) (.slice none 0 0) (.slice none 0 0) (.slice none 0 0) (.slice none 0 0) [] [] [] []:=
  ⟨B,World.ownsRow_nil _ _ _ _,fun p hp=>by simp at hp,World.ownsRow_nil _ _ _ _,fun p hp=>by simp at hp,(Kind.own_nil _).1,(Kind.own_nil _).1,fun k hk=>(hn k hk).elim,fun k hk=>(hn k hk).elim,fun k hk=>(hn k hk).elim,fun k hk=>(hn k hk).elim,fun k hk=>(hn k hk).elim,fun p hp=>by simp at hp⟩
 clear B
 have hlen1:(ps.length:Int)≤40:=by omega
 have hlen2:(qs.length:Int)≤40:=by omega
 go_enter Tryz.func132,Tryz.ntmps132
 go_wp2
 generalize (w.alloc (.cells #[.slice none 0 0,.slice none 0 0,.slice none 0 0,.slice none 0 0] 149)).alloc (.cells #[.slice none 0 0,.slice none 0 0,.slice none 0 0,.slice none 0 0] 149)=W0 at *
 have H0:Hid (([]:List DeedQ).map DeedQ.e4=deedsE [] ((ps.map TxnQ.e).take 0)∧([]:List ItemD)=allI [] ((ps.map TxnQ.e).take 0)∧([]:List ItemD).length≤8∧Good ([]:List ItemD)):=⟨rfl,rfl,by simp,nil_good⟩
 go_loopw [13] (fun j wr=>∃ (k:Nat) (vN iN:Value) (ds:List DeedQ) (xs:List ItemD),k≤ps.length∧j=.int .i64 k∧Rec w (w.heap.size + 1) (w.heap.size + 2) wr vN iN (.slice none 0 0) (.slice none 0 0) ds [] xs []∧Hid (ds.map DeedQ.e4=deedsE [] ((ps.map TxnQ.e).take k)∧xs=allI [] ((ps.map TxnQ.e).take k)∧xs.length≤8∧Good xs)∧Blk wr w.heap.size 149 #[.slice none 0 0,.slice none 0 0,.slice none 0 0,.slice none 0 0]∧Below w.heap.size w wr∧w.heap.size + 2≤wr.heap.size) (fun j _=>ps.length - (intOf j).toNat)
 case atStart=>exact ⟨0,_,_,[],[],Nat.zero_le _,rfl,Rz,H0,R0,hb0,hsz⟩
 case round=>
  clear Rz H0 R0 hb0 hsz hn
  obtain ⟨k,vN,iN,ds,xs,hk,rfl,R,HD,R0,hb,hsz⟩:=hrel
  obtain ⟨ia,ic,rfl⟩:=R.jN.shape
  by_cases hlt:k < ps.length
  ·obtain ⟨b,off,rfl,hbs,hcm,hrd⟩:=(h1.below hb).cell (by decide) k hlt
   have hc' : ∀ j x,(txnK.cells ps[k])[j]? = some x→wr.cell? ⟨b,off + k * 4 + j,none⟩=some x:=hcm
   have c0:=hc' 0 (.int .i64 ps[k].i) rfl
   have c1:=hc' 1 (.int .i64 ps[k].s) rfl
   have c2:=hc' 2 (.int .i64 ps[k].q) rfl
   have c3:=hc' 3 (ps[k].va) rfl
   rw [Nat.add_zero] at c0
   have hr0:txnK.rd w ps[k]:=h1.rdm (List.getElem_mem hlt)
   have hF0:=hF1 ps[k] (List.getElem_mem hlt)
   have HTK:=take_e ps k hlt

   have hlti:(k:Int) < (ps.length:Int):=by omega
   have HDL:Hid (ds.length=k):=by
    have:=congrArg List.length HD.out.1
    have e:∀ (xs:List ItemD) (l:List TxnD),(deedsE xs l).length=l.length:=fun xs l=>by
     induction l generalizing xs with
     | nil=>rfl
     | cons t r ih=>simp [deedsE,ih]
    rw [List.length_map,e,List.length_take,List.length_map] at this
    show ds.length=k
    omega
   clear hcm hc'
   generalize ps[k]=p at *
   obtain ⟨i,s,q,va,acts⟩:=p
   replace hrd:actK.At wr va acts:=hrd
   replace hr0:actK.At w va acts:=hr0
   obtain ⟨ta,tc,rfl⟩:=hrd.shape
   dsimp only [TxnQ.e] at c0 c1 c2 c3 hF0 HTK
   have hbA:Below wr.heap.size wr (wr.alloc (.cells #[.int .i64 i,.int .i64 s,.int .i64 q,.slice ta acts.length tc] 158)):=by go_grown
   have Bt:=Blk.new wr 158 #[.int .i64 i,.int .i64 s,.int .i64 q,.slice ta acts.length tc]
   have R1:=R.below hbA
   replace R0:=R0.below hbA
   replace hrd:=hrd.below hbA
   replace hb:=hb.trans (hbA.mono hb.size)
   have hNlt:∀ x∈blk vN,x < wr.heap.size:=own_blk R.oN
   have hs1:=hbA.size
   go_wp2_with fail
   clear c0 c1 c2 c3 hbA
   generalize hX:wr.alloc (.cells #[.int .i64 i,.int .i64 s,.int .i64 q,.slice ta acts.length tc] 158)=X at *
   generalize hT:wr.heap.size=tb at *
   clear hX R
   have hFt:tb ∉ (w.heap.size + 1) :: blk vN:=fun hm=>by
    rcases List.mem_cons.1 hm with e | e
    ·omega
    ·have:=hNlt _ e;omega
   have t0:=keep_cell (Bt.cell 0 _ rfl) hFt
   have t1:=keep_cell (Bt.cell 1 _ rfl) hFt
   have t2:=keep_cell (Bt.cell 2 _ rfl) hFt
   have t3:=keep_cell (Bt.cell 3 _ rfl) hFt
   have hS0:Out ((w.heap.size + 1) :: blk vN) X X.drew:=Out.of_below (Below.refl _ _).drew
   have hW:Below X.heap.size X X.drew:=(Below.refl _ _).drew
   have hne:Nonempty (KeepP (Out ((w.heap.size + 1) :: blk vN) X)):=⟨⟨X,Out.refl _ _⟩⟩
   refine text_begin (S:=fun w' => ∃ u:KeepP (Out ((w.heap.size + 1) :: blk vN) X),w' = u.val) (by kernel_rfl) ?_
   refine sgr [(0,4),(5,1),(7,1)] 3 (by kernel_rfl) ⟨⟨_,hS0⟩,rfl⟩ ?_
   simp only [pkE]
   repeat go_big_quiet_step (fail)
   refine wpQuiet_nil ?_
   clear t0 t1 t2 t3 hne
   have r1:=(R1.B.below hW).cell 1 _ rfl
   refine ona 4 2 rfl (by kernel_rfl) ?_
   go_wp2
   clear r1
   refine ThenGo.to ⟨⟨⟨_,hS0⟩,rfl⟩,?_⟩
   refine cla 6 (some 23) 175 #[.slice ia xs.length ic,.agg #[.int .i64 i,.int .i64 s,.int .i64 q,.slice ta acts.length tc]] 1 (by kernel_rfl) ?_
   refine (doUndo9 ia ic xs i s q ta tc acts _ (R1.jN.at.below hW) (hrd.below hW) HD.out.2.2.1 HD.out.2.2.2 hF0).mono ?_
   rintro e w5 ⟨ub,uc,jb,jc,rfl,ou,oi,lu,li,hb5⟩
   have hlu:∀ x∈blk (.slice jb (runR xs acts).length jc),X.heap.size≤x:=fun x hx=>Nat.le_trans hW.size (li x hx)
   replace hW:=hW.trans (hb5.mono hW.size)
   refine ⟨_,rfl,⟨⟨_,Out.of_below hW⟩,rfl⟩,?_⟩
   simp only [Act.put,pjE]
   have R5:=R1.below hW
   have hXs:=hW.size
   have hil:∀ x∈blk (.slice jb (runR xs acts).length jc),w.heap.size + 2≤x∧x ∉ blk vN∧x ∉ blk (Value.slice none 0 0):=fun x hx=>by
    have:=hlu x hx
    exact ⟨by omega,fun e=>by have:=hNlt x e;omega,by simp [blk,Value.ownBlock]⟩
   have HNX:Hid ((ds ++ [(⟨i,s,q,.slice ta acts.length tc,acts,(runA xs acts).1,runV xs acts,.slice none 0 0,runU xs acts⟩:DeedQ)]).map DeedQ.e4=deedsE [] ((ps.map TxnQ.e).take (k + 1))∧nextI xs ⟨i,s,q,acts⟩=allI [] ((ps.map TxnQ.e).take (k + 1))∧(nextI xs ⟨i,s,q,acts⟩).length≤8∧Good (nextI xs ⟨i,s,q,acts⟩)):=by
    obtain ⟨d1,d2,d3,d4⟩:=HD.out
    have g:=nextI_good d3 d4 hF0
    rw [HTK,deeds_snoc,allI_snoc,← d2,List.map_append,d1]
    exact ⟨rfl,rfl,g.1,g.2⟩
   have hnx:=step9 (xs:=xs) (t:=⟨i,s,q,acts⟩)
   dsimp only at hnx
   refine cla 8 (some 25) 174 #[.pointer (some ⟨w.heap.size + 1,0,none⟩),.agg #[.int .i64 i,.int .i64 s,.int .i64 q,.slice ta acts.length tc],.agg #[.int .i64 (runA xs acts).1,.int .i64 (runV xs acts),.slice ub (runU xs acts).length uc,.slice jb (runR xs acts).length jc],.agg #[]] 0 (by kernel_rfl) ?_
   refine (addN_any (w.heap.size + 1) vN (.slice ia xs.length ic) (.slice none 0 0) (.slice none 0 0) ds.length _ i s q (.slice ta acts.length tc) _ _ _ jb _ jc w5 R5.B R5.oN (fun e=>by have:=R5.lN _ e;omega) (by have:=HDL.out;omega) rfl).mono ?_
   rintro e w6 ⟨rfl,d1,B6,o6,hd6,hO6⟩
   have hs6:=hO6.size
   refine ⟨_,rfl,⟨⟨_,(Out.of_below (F:=(w.heap.size + 1) :: blk vN) hW).trans hO6⟩,rfl⟩,?_⟩
   simp only [Act.put,pjE]
   refine text_end (by kernel_rfl) ?_
   have hin:itemK.Own w5 (if (runA xs acts).1=0 then .slice jb (runR xs acts).length jc else .slice ia xs.length ic) (nextI xs ⟨i,s,q,acts⟩):=by
    rw [hnx]
    by_cases hc:(runA xs acts).1=0
    ·rw [if_pos hc,if_pos hc];exact oi
    ·rw [if_neg hc,if_neg hc];exact R5.jN
   have hil2:∀ x∈blk (if (runA xs acts).1=0 then .slice jb (runR xs acts).length jc else .slice ia xs.length ic),w.heap.size + 2≤x∧x ∉ blk vN∧x ∉ blk (Value.slice none 0 0):=by
    by_cases hc:(runA xs acts).1=0
    ·rw [if_pos hc];exact hil
    ·rw [if_neg hc];exact R5.d1
   have R6:=R5.addN (p:=⟨i,s,q,.slice ta acts.length tc,acts,(runA xs acts).1,runV xs acts,.slice none 0 0,runU xs acts⟩) (by omega) (by omega) hr0 hin hil2 B6 o6 hd6 hO6
   have hb6:Below w.heap.size w w6:=Out.keep (hb.trans (hW.mono hb.size)) hO6 (by omega) (fun x hx=>by
    rcases List.mem_cons.1 hx with e | e
    ·omega
    ·have:=R5.lN x e;omega)
   have R06:=(R0.below hW).outs8 hO6 (fun hx=>by
    rcases List.mem_cons.1 hx with e | e
    ·omega
    ·have:=R5.lN _ e;omega)
   have HR:Hid (_∧_∧_∧_):=⟨R6,R06,hb6,(show w.heap.size + 2≤w6.heap.size by omega)⟩
   clear R6 R06 hb6 R5 R1 R0 hb hin hil2 hil ou oi lu li hb5 hW hO6 hd6 o6 B6 hrd hr0 HD
   go_wp2
   go_roundw
   case rel=>exact ⟨k + 1,d1,_,_,_,by omega,by go_num,HR.out.1,HNX,HR.out.2.1,HR.out.2.2.1,HR.out.2.2.2⟩
   case measure=>simp [intOf];omega
  ·have hkl:k=ps.length:=by omega
   subst hkl
   have hlti:¬ ((ps.length:Int) < (ps.length:Int)):=by omega
   obtain ⟨HD1,HD2,hx8,gx⟩:=HD.out
   rw [List.take_of_length_le (by simp)] at HD1 HD2
   have HE:Hid (ds.map DeedQ.e4=deedsE [] (ps.map TxnQ.e)∧xs=allI [] (ps.map TxnQ.e)):=⟨HD1,HD2⟩
   clear HD HD1 HD2 hlt
   have r1:=R.B.cell 1 _ rfl
   have r3:=R.B.cell 3 _ rfl
   have f3:=R.B.frozen 3
   have Rs:=R.share (by omega)
   have R0s:=R0.other (b' := w.heap.size + 1) (by omega) 3 (.slice ia xs.length ic)
   have hbs:=hb.setCell (p:=⟨w.heap.size + 1,3,none⟩) (by show w.heap.size≤w.heap.size + 1;omega) (.slice ia xs.length ic)
   have hss:w.heap.size + 2≤(wr.setCell ⟨w.heap.size + 1,3,none⟩ (.slice ia xs.length ic)).heap.size:=by simpa using hsz
   go_wp2
   clear r1 r3 f3 R R0 hb hsz
   generalize wr.setCell ⟨w.heap.size + 1,3,none⟩ (.slice ia xs.length ic)=Y at *
   have H0:Hid (([]:List DeedQ).map DeedQ.e4=deedsE xs ((qs.map TxnQ.e).take 0)∧xs=allI xs ((qs.map TxnQ.e).take 0)∧xs.length≤8∧Good xs):=⟨rfl,rfl,hx8,gx⟩
   clear hx8 gx
   go_loopw [34] (fun j wr=>∃ (k:Nat) (vU iU:Value) (us:List DeedQ) (ys:List ItemD),k≤qs.length∧j=.int .i64 k∧Rec w (w.heap.size + 1) (w.heap.size + 2) wr vN (.slice ia xs.length ic) vU iU ds us xs ys∧Hid (us.map DeedQ.e4=deedsE xs ((qs.map TxnQ.e).take k)∧ys=allI xs ((qs.map TxnQ.e).take k)∧ys.length≤8∧Good ys)∧Blk wr w.heap.size 149 #[.slice none 0 0,.slice none 0 0,.slice none 0 0,.slice none 0 0]∧Below w.heap.size w wr∧w.heap.size + 2≤wr.heap.size) (fun j _=>qs.length - (intOf j).toNat)
   case atStart=>exact ⟨0,_,_,[],_,Nat.zero_le _,rfl,Rs,H0,R0s,hbs,hss⟩
   case round=>
    clear Rs H0 R0s hbs hss
    obtain ⟨k,vU,iU,us,ys,hk,rfl,R,HD,R0,hb,hsz⟩:=hrel
    obtain ⟨ja,jc,rfl⟩:=R.jU.shape
    by_cases hlt:k < qs.length
    ·obtain ⟨b,off,rfl,hbs,hcm,hrd⟩:=(h2.below hb).cell (by decide) k hlt
     have hc' : ∀ j x,(txnK.cells qs[k])[j]? = some x→wr.cell? ⟨b,off + k * 4 + j,none⟩=some x:=hcm
     have c0:=hc' 0 (.int .i64 qs[k].i) rfl
     have c1:=hc' 1 (.int .i64 qs[k].s) rfl
     have c2:=hc' 2 (.int .i64 qs[k].q) rfl
     have c3:=hc' 3 (qs[k].va) rfl
     rw [Nat.add_zero] at c0
     have hr0:txnK.rd w qs[k]:=h2.rdm (List.getElem_mem hlt)
     have hF0:=hF2 qs[k] (List.getElem_mem hlt)
     have HTK:=take_e qs k hlt

     have hlti2:(k:Int) < (qs.length:Int):=by omega
     have HDL:Hid (us.length=k):=by
      have:=congrArg List.length HD.out.1
      have e:∀ (xs:List ItemD) (l:List TxnD),(deedsE xs l).length=l.length:=fun xs l=>by
       induction l generalizing xs with
       | nil=>rfl
       | cons t r ih=>simp [deedsE,ih]
      rw [List.length_map,e,List.length_take,List.length_map] at this
      show us.length=k
      omega
     clear hcm hc'
     generalize qs[k]=p at *
     obtain ⟨i,s,q,va,acts⟩:=p
     replace hrd:actK.At wr va acts:=hrd
     replace hr0:actK.At w va acts:=hr0
     obtain ⟨ta,tc,rfl⟩:=hrd.shape
     dsimp only [TxnQ.e] at c0 c1 c2 c3 hF0 HTK
     have hbA:Below wr.heap.size wr (wr.alloc (.cells #[.int .i64 i,.int .i64 s,.int .i64 q,.slice ta acts.length tc] 158)):=by go_grown
     have Bt:=Blk.new wr 158 #[.int .i64 i,.int .i64 s,.int .i64 q,.slice ta acts.length tc]
     have R1:=R.below hbA
     replace R0:=R0.below hbA
     replace hrd:=hrd.below hbA
     replace hb:=hb.trans (hbA.mono hb.size)
     have hNlt:∀ x∈blk vN,x < wr.heap.size:=own_blk R.oN
     have hUlt:∀ x∈blk vU,x < wr.heap.size:=own_blk R.oU
     have hs1:=hbA.size
     obtain ⟨x0,x1,x2,x3⟩:=Bt.cel4
     have r3:=R1.B.cell 3 _ rfl
     have hdu:=doUndo9 ja jc ys i s q ta tc acts _ R1.jU.at hrd HD.out.2.2.1 HD.out.2.2.2 hF0
     go_wp2_with fail
     clear c0 c1 c2 c3 hbA x0 x1 x2 x3 r3
     generalize hX:wr.alloc (.cells #[.int .i64 i,.int .i64 s,.int .i64 q,.slice ta acts.length tc] 158)=X at *
     generalize hT:wr.heap.size=tb at *
     clear hX R
     refine hdu.mono ?_
     rintro e w5 ⟨ub,uc,jb,jd,rfl,ou,oi,lu,li,hb5⟩
     clear hdu
     have hUC:Below w5.heap.size w5 (w5.alloc (.cells #[.int .i64 (runA ys acts).1,.int .i64 (runV ys acts),.slice ub (runU ys acts).length uc,.slice jb (runR ys acts).length jd] 251)):=by go_grown
     have Bu:=Blk.new w5 251 #[.int .i64 (runA ys acts).1,.int .i64 (runV ys acts),.slice ub (runU ys acts).length uc,.slice jb (runR ys acts).length jd]
     have hs5:=hb5.size
     have hs6:=hUC.size
     have R5:=(R1.below hb5).below hUC
     replace R0:=(R0.below hb5).below hUC
     replace hb:=(hb.trans (hb5.mono hb.size))
     replace hb:=hb.trans (hUC.mono hb.size)
     replace Bt:=(Bt.below hb5).below hUC
     replace ou:=ou.below hUC
     replace oi:=oi.below hUC
     obtain ⟨x0,x1,x2,x3⟩:=Bt.cel4
     obtain ⟨y0,y1,y2,y3⟩:=Bu.cel4
     have hil:∀ x∈blk (.slice jb (runR ys acts).length jd),w.heap.size + 2≤x∧x ∉ blk vN∧x ∉ blk vU:=fun x hx=>by
      have:=li x hx
      exact ⟨by omega,fun e=>by have:=hNlt x e;omega,fun e=>by have:=hUlt x e;omega⟩
     have hul:∀ x∈blk (.slice ub (runU ys acts).length uc),w.heap.size + 2≤x∧x ∉ blk vN∧x ∉ blk vU:=fun x hx=>by
      have:=lu x hx
      exact ⟨by omega,fun e=>by have:=hNlt x e;omega,fun e=>by have:=hUlt x e;omega⟩
     have HNX:Hid ((us ++ [(⟨i,s,q,.slice ta acts.length tc,acts,(runA ys acts).1,runV ys acts,.slice ub (runU ys acts).length uc,runU ys acts⟩:DeedQ)]).map DeedQ.e4=deedsE xs ((qs.map TxnQ.e).take (k + 1))∧nextI ys ⟨i,s,q,acts⟩=allI xs ((qs.map TxnQ.e).take (k + 1))∧(nextI ys ⟨i,s,q,acts⟩).length≤8∧Good (nextI ys ⟨i,s,q,acts⟩)):=by
      obtain ⟨d1,d2,d3,d4⟩:=HD.out
      have g:=nextI_good d3 d4 hF0
      rw [HTK,deeds_snoc,allI_snoc,← d2,List.map_append,d1]
      exact ⟨rfl,rfl,g.1,g.2⟩
     have hnx:=step9 (xs:=ys) (t:=⟨i,s,q,acts⟩)
     dsimp only at hnx
     have had:=addU_any (w.heap.size + 1) vU (.slice ja ys.length jc) vN (.slice ia xs.length ic) us.length _ i s q (.slice ta acts.length tc) (runA ys acts).1 (runV ys acts) (.slice ub (runU ys acts).length uc) jb (runR ys acts).length jd ub (runU ys acts).length uc _ R5.B R5.oU (fun e=>by have:=R5.lU _ e;omega) (by have:=HDL.out;omega) rfl
     go_wp2_with fail
     clear x0 x1 x2 x3 y0 y1 y2 y3 Bt Bu hUC hb5
     generalize w5.alloc (.cells #[.int .i64 (runA ys acts).1,.int .i64 (runV ys acts),.slice ub (runU ys acts).length uc,.slice jb (runR ys acts).length jd] 251)=w5a at *
     refine had.mono ?_
     rintro e w6 ⟨rfl,d1,B6,o6,hd6,hO6⟩
     have hs7:=hO6.size
     have hin:itemK.Own w5a (if (runA ys acts).1=0 then .slice jb (runR ys acts).length jd else .slice ja ys.length jc) (nextI ys ⟨i,s,q,acts⟩):=by
      rw [hnx]
      by_cases hc:(runA ys acts).1=0
      ·rw [if_pos hc,if_pos hc];exact oi
      ·rw [if_neg hc,if_neg hc];exact R5.jU
     have hil2:∀ x∈blk (if (runA ys acts).1=0 then .slice jb (runR ys acts).length jd else .slice ja ys.length jc),w.heap.size + 2≤x∧x ∉ blk vN∧x ∉ blk vU:=by
      by_cases hc:(runA ys acts).1=0
      ·rw [if_pos hc];exact hil
      ·rw [if_neg hc];exact R5.d2
     have R6:=R5.addU (p:=⟨i,s,q,.slice ta acts.length tc,acts,(runA ys acts).1,runV ys acts,.slice ub (runU ys acts).length uc,runU ys acts⟩) (by omega) (by omega) hr0 ou hul hin hil2 B6 o6 hd6 hO6
     have hb6:Below w.heap.size w w6:=Out.keep hb hO6 (by omega) (fun x hx=>by
      rcases List.mem_cons.1 hx with e | e
      ·omega
      ·have:=R5.lU x e;omega)
     have R06:=R0.outs8 hO6 (fun hx=>by
      rcases List.mem_cons.1 hx with e | e
      ·omega
      ·have:=R5.lU _ e;omega)
     have HR:Hid (_∧_∧_∧_):=⟨R6,R06,hb6,(show w.heap.size + 2≤w6.heap.size by omega)⟩
     clear R6 R06 hb6 R5 R1 R0 hb hin hil2 hil hul ou oi lu li hO6 hd6 o6 B6 hrd hr0 HD had
     go_wp2
     go_roundw
     case rel=>exact ⟨k + 1,d1,_,_,_,by omega,by go_num,HR.out.1,HNX,HR.out.2.1,HR.out.2.2.1,HR.out.2.2.2⟩
     case measure=>simp [intOf];omega
    ·have hkl:k=qs.length:=by omega
     subst hkl
     have hlti2:¬ ((qs.length:Int) < (qs.length:Int)):=by omega
     obtain ⟨HD1,HD2,_,_⟩:=HD.out
     rw [List.take_of_length_le (by simp)] at HD1 HD2
     obtain ⟨HE1,HE2⟩:=HE.out
     subst HE2
     subst HD2
     clear HD HE hlt
     have r0:=R.B.cell 0 _ rfl
     have r1:=R.B.cell 1 _ rfl
     have r2:=R.B.cell 2 _ rfl
     have r3:=R.B.cell 3 _ rfl
     obtain ⟨z0,z1,z2,z3⟩:=R0.cel4
     obtain ⟨g0,g1,g2,g3⟩:=R0.frz4
     obtain ⟨na,nc,rfl⟩:=own_shape R.oN
     obtain ⟨ua,uc,rfl⟩:=own_shape R.oU
     have RF:Hid (∀ u0 u1 u2 u3:Value,Rec w (w.heap.size + 1) (w.heap.size + 2) ((((wr.setCell ⟨w.heap.size,0,none⟩ u0).setCell ⟨w.heap.size,1,none⟩ u1).setCell ⟨w.heap.size,2,none⟩ u2).setCell ⟨w.heap.size,3,none⟩ u3) _ _ _ _ ds us _ _∧Below w.heap.size w ((((wr.setCell ⟨w.heap.size,0,none⟩ u0).setCell ⟨w.heap.size,1,none⟩ u1).setCell ⟨w.heap.size,2,none⟩ u2).setCell ⟨w.heap.size,3,none⟩ u3)):=fun u0 u1 u2 u3=>
      ⟨(((R.other (by omega) (by omega) 0 u0).other (by omega) (by omega) 1 u1).other (by omega) (by omega) 2 u2).other (by omega) (by omega) 3 u3,(((hb.setCell (p:=⟨w.heap.size,0,none⟩) (Nat.le_refl _) u0).setCell (p:=⟨w.heap.size,1,none⟩) (Nat.le_refl _) u1).setCell (p:=⟨w.heap.size,2,none⟩) (Nat.le_refl _) u2).setCell (p:=⟨w.heap.size,3,none⟩) (Nat.le_refl _) u3⟩
     clear R R0
     go_wp2
     exact bodyPost_ret (v:=.agg #[.slice na ds.length nc,_,.slice ua us.length uc,_]) (by simp [results,Tryz.results132,go_sem,z0,z1,z2,z3]) rfl ⟨_,_,_,_,rfl,⟨ds,us,w.heap.size + 1,w.heap.size + 2,(RF.out _ _ _ _).1,HE1,HD1,by omega,by omega⟩,(RF.out _ _ _ _).2⟩

end Go.Proofs.YtjjoahhnkpjolaaGreatDoor
namespace Go.Proofs.YtjjoahhnkpjolaaGreatDoor
open Go.RowKit
open Go.BigFrame
set_option maxRecDepth 100000
theorem undos_oneCell (zs:List UndoD):∀ u∈undoCells zs,u.oneCell' = true:=by
 intro u hu
 obtain ⟨z,_,hz⟩:=List.mem_flatMap.1 hu
 simp only [UndoD.cells,List.mem_cons,List.not_mem_nil,or_false] at hz
 rcases hz with rfl | rfl | rfl <;> rfl

set_option maxRecDepth 100000 in
set_option maxHeartbeats 1000000 in
theorem clone9Item_any (sa:Option Addr) (sc:Nat) (xs:List ItemD) (w:World) (h:itemK.At w (.slice sa xs.length sc) xs) (hN:Nice sa xs.length sc) (hl:xs.length≤1048576) :
  Calls Tryz.prog 146 #[.slice sa xs.length sc] w fun e w' => ∃ a c,e=.returned (.slice a xs.length c)∧itemK.Own w' (.slice a xs.length c) xs∧(∀ k∈blk (.slice a xs.length c),w.heap.size≤k)∧Below w.heap.size w w' := by
 rcases hN with ⟨ad,rfl⟩ | ⟨rfl,hn,rfl⟩
 ·obtain ⟨i0,hi,hz0,hz1,hz2⟩:=info_parts infoItem
  have hbA:Below w.heap.size w (w.alloc (.cells #[] 173)):=by go_grown
  have hr:=(h.below hbA)
  obtain ⟨_,_,e1,l1,_⟩:=hr
  simp only [Value.slice.injEq] at e1
  obtain ⟨rfl,_,rfl⟩:=e1
  have ho:=World.ownsRow_lit (e:=173) (size:=2) w #[] 0 (Nat.le_refl _) (by decide) rfl
  have hnil:∀ w,(binOp .eql 53 (.slice (some ad) xs.length sc) (.slice none 0 0)).run Tryz.prog w=.ok (.bool false) w:=fun w=>by first | rfl | kernel_rfl | (simp only [binOp];simp [Op.equal,Op.maxDepth,Op.equalIn,run_underlying Tryz.underlying53])
  have x1:([]:List ItemD).length + xs.length≤maxLen:=by unfold maxLen;rw [List.length_nil];omega
  have x2:(([]:List ItemD).length + xs.length) * 16≤140737488355328:=by rw [List.length_nil];omega
  have hsz:=hbA.size
  go_enter Tryz.func146,Tryz.ntmps146
  go_wp2_with (at_builtin;refine wpList_app_k (K:=itemK) _ rfl _ _ 53 rfl i0 (.agg #[.int .i64 0,.int .i64 0]) 16 Tryz.underlying53 hi hz0 hz1 hz2 rfl (by decide) w.heap.size _ [] rfl ho _ xs _ rfl l1 (items_oneCell xs) (Or.inl ⟨_,rfl⟩) x1 x2 hsz ?_)
  intro v' w2 hown hgrow
  have hb2:Below w.heap.size w w2:=hbA.grown hgrow hsz (fun k hk=>(ho.lt k hk).1)
  try simp only [List.nil_append] at hown
  obtain ⟨a2,c2,rfl⟩:=own_shape hown
  obtain ⟨o2,l2⟩:=own_zero hown
  clear hgrow ho l1 hown
  go_wp2
  go_ret
  exact ⟨a2,c2,rfl,⟨o2,fun _ _=>trivial⟩,l2,hb2⟩
 ·have hz:xs=[]:=List.eq_nil_of_length_eq_zero hn
  subst hz
  have hnil:∀ w,(binOp .eql 53 (.slice none 0 0) (.slice none 0 0)).run Tryz.prog w=.ok (.bool true) w:=fun w=>by first | rfl | kernel_rfl | (simp only [binOp];simp [Op.equal,Op.maxDepth,Op.equalIn,run_underlying Tryz.underlying53])
  rw [List.length_nil]
  go_enter Tryz.func146,Tryz.ntmps146
  go_wp2
  go_ret
  exact ⟨none,0,rfl,(Kind.own_nil _).1,fun k hk=>by simp [blk,Value.ownBlock] at hk,Below.refl _ _⟩

set_option maxRecDepth 100000 in
set_option maxHeartbeats 1000000 in
theorem clone9Undo_any (sa:Option Addr) (sc:Nat) (xs:List UndoD) (w:World) (h:undoK.At w (.slice sa xs.length sc) xs) (hN:Nice sa xs.length sc) (hl:xs.length≤1048576) :
  Calls Tryz.prog 147 #[.slice sa xs.length sc] w fun e w' => ∃ a c,e=.returned (.slice a xs.length c)∧undoK.Own w' (.slice a xs.length c) xs∧(∀ k∈blk (.slice a xs.length c),w.heap.size≤k)∧Below w.heap.size w w' := by
 rcases hN with ⟨ad,rfl⟩ | ⟨rfl,hn,rfl⟩
 ·obtain ⟨i0,hi,hz0,hz1,hz2⟩:=info_parts infoUndo
  have hbA:Below w.heap.size w (w.alloc (.cells #[] 223)):=by go_grown
  have hr:=(h.below hbA)
  obtain ⟨_,_,e1,l1,_⟩:=hr
  simp only [Value.slice.injEq] at e1
  obtain ⟨rfl,_,rfl⟩:=e1
  have ho:=World.ownsRow_lit (e:=223) (size:=3) w #[] 0 (Nat.le_refl _) (by decide) rfl
  have hnil:∀ w,(binOp .eql 175 (.slice (some ad) xs.length sc) (.slice none 0 0)).run Tryz.prog w=.ok (.bool false) w:=fun w=>by first | rfl | kernel_rfl | (simp only [binOp];simp [Op.equal,Op.maxDepth,Op.equalIn,run_underlying Tryz.underlying175])
  have x1:([]:List UndoD).length + xs.length≤maxLen:=by unfold maxLen;rw [List.length_nil];omega
  have x2:(([]:List UndoD).length + xs.length) * 24≤140737488355328:=by rw [List.length_nil];omega
  have hsz:=hbA.size
  go_enter Tryz.func147,Tryz.ntmps147
  go_wp2_with (at_builtin;refine wpList_app_k (K:=undoK) _ rfl _ _ 175 rfl i0 (.agg #[.int .i64 0,.bool false,.int .i64 0]) 24 Tryz.underlying175 hi hz0 hz1 hz2 rfl (by decide) w.heap.size _ [] rfl ho _ xs _ rfl l1 (undos_oneCell xs) (Or.inl ⟨_,rfl⟩) x1 x2 hsz ?_)
  intro v' w2 hown hgrow
  have hb2:Below w.heap.size w w2:=hbA.grown hgrow hsz (fun k hk=>(ho.lt k hk).1)
  try simp only [List.nil_append] at hown
  obtain ⟨a2,c2,rfl⟩:=own_shape hown
  obtain ⟨o2,l2⟩:=own_zero hown
  clear hgrow ho l1 hown
  go_wp2
  go_ret
  exact ⟨a2,c2,rfl,⟨o2,fun _ _=>trivial⟩,l2,hb2⟩
 ·have hz:xs=[]:=List.eq_nil_of_length_eq_zero hn
  subst hz
  have hnil:∀ w,(binOp .eql 175 (.slice none 0 0) (.slice none 0 0)).run Tryz.prog w=.ok (.bool true) w:=fun w=>by first | rfl | kernel_rfl | (simp only [binOp];simp [Op.equal,Op.maxDepth,Op.equalIn,run_underlying Tryz.underlying175])
  rw [List.length_nil]
  go_enter Tryz.func147,Tryz.ntmps147
  go_wp2
  go_ret
  exact ⟨none,0,rfl,(Kind.own_nil _).1,fun k hk=>by simp [blk,Value.ownBlock] at hk,Below.refl _ _⟩

set_option maxRecDepth 100000 in
set_option maxHeartbeats 4000000 in
theorem txnsN_any (w0:World) (v iv:Value) (ds:List DeedQ) (w:World) (h:(deedNK w0).At w v ds) (h00:Below w0.heap.size w0 w) (hne:∀ p∈ds,p.t.F=0) (hl:ds.length≤100) :
  Calls Tryz.prog 180 #[.agg #[v,iv]] w fun e w' => ∃ v' qs,e=.returned v' ∧ qs.map TxnQ.e=ds.map DeedQ.t∧txnK.Own w' v' qs∧(txnK.fp v' qs).Nodup∧(∀ k∈txnK.fp v' qs,w.heap.size≤k)∧Below w.heap.size w w' := by
 obtain ⟨a,cap,rfl⟩:=h.shape
 obtain ⟨i0,hi,hz0,hz1,hz2⟩:=info_parts infoTxn
 have hbX:Below w.heap.size w (w.alloc (.cells #[.slice a ds.length cap,iv] 144)):=by go_grown
 have BX:=Blk.new w 144 #[.slice a ds.length cap,iv]
 obtain ⟨hn1,hn2⟩:=Kind.own_nil (K:=txnK) (w.alloc (.cells #[.slice a ds.length cap,iv] 144))
 have HN0:Hid ((txnK.fp (.slice none 0 0) ([]:List TxnQ)).Nodup∧∀ k∈txnK.fp (.slice none 0 0) ([]:List TxnQ),w.heap.size≤k):=by
  rw [hn2]
  exact ⟨by simp,by simp⟩
 clear hn2
 have x0:=BX.cell 0 _ rfl
 have hli:(ds.length:Int)≤100:=by omega
 go_enter Tryz.func180,Tryz.ntmps180
 go_wp2
 clear x0 BX
 generalize w.alloc (.cells #[.slice a ds.length cap,iv] 144)=WX at *
 go_loopw [3,9] (fun v j wr=>∃ (k:Nat) (qs:List TxnQ),k≤ds.length∧j=.int .i64 k∧Hid (qs.map TxnQ.e=(ds.take k).map DeedQ.t)∧txnK.Own wr v qs∧Hid ((txnK.fp v qs).Nodup∧∀ k∈txnK.fp v qs,w.heap.size≤k)∧Below w.heap.size w wr) (fun _ j _=>ds.length - (intOf j).toNat)
 case atStart=>exact ⟨0,[],Nat.zero_le _,rfl,(rfl:_=_),hn1,HN0,hbX⟩
 case round=>
  clear HN0 hn1 hbX
  obtain ⟨k,qs,hk,rfl,HE,hO,HN,hb⟩:=hrel
  obtain ⟨sa,sc,rfl⟩:=hO.shape
  have HQL:Hid (qs.length=k):=by
   have:=congrArg List.length HE.out
   rw [List.length_map,List.length_map,List.length_take] at this
   show qs.length=k
   omega
  by_cases hlt:k < ds.length
  ·obtain ⟨b,off,rfl,hbs,hc,hrd⟩:=(h.below hb).cell (by show 0 < 6;decide) k hlt
   have hc' : ∀ j x,((deedNK w0).cells ds[k])[j]? = some x→wr.cell? ⟨b,off + k * 6 + j,none⟩=some x:=hc
   have c0:=hc' 0 (.int .i64 ds[k].i) rfl
   have c1:=hc' 1 (.int .i64 ds[k].s) rfl
   have c2:=hc' 2 (.int .i64 ds[k].q) rfl
   have c3:=hc' 3 (ds[k].va) rfl
   have c4:=hc' 4 (.int .i64 ds[k].code) rfl
   have c5:=hc' 5 (.int .i64 ds[k].val) rfl
   skip
   have hF0:=hne _ (List.getElem_mem hlt)
   have HPE:Hid (∀ p' : TxnQ,p'.e=DeedQ.t ds[k]→(qs ++ [p']).map TxnQ.e=(ds.take (k + 1)).map DeedQ.t):=fun p' hp' => by
    rw [List.take_succ_eq_append_getElem hlt,List.map_append,List.map_append,HE.out,List.map_singleton,List.map_singleton,hp']
   clear hc hc'
   generalize ds[k]=p at *
   obtain ⟨i,s,q,va,acts,code,val,lv,us⟩:=p
   replace hrd:actK.At w0 va acts:=hrd
   skip
   have hz:=(acts_of_F (show txnF i s q acts=0 from hF0)).1
   have hpos:0 < acts.length:=by omega
   replace hrd:=hrd.below (h00.trans (hb.mono h00.size))
   obtain ⟨aa,ac,rfl⟩:=hrd.shape
   dsimp only [DeedQ.t] at c0 c1 c2 c3 c4 c5 HPE
   obtain ⟨ab,ao,haa⟩:∃ ab ao,aa=some ⟨ab,ao,none⟩:=by
    rcases (actK_at hrd).2 with h0 | ⟨ab,ao,e,_⟩
    ·have:=actCells_length acts
     rw [h0] at this
     simp at this
     omega
    ·exact ⟨ab,ao,e⟩
   subst haa
   have hbY:Below wr.heap.size wr (wr.alloc (.cells #[.int .i64 i,.int .i64 s,.int .i64 q,.slice (some ⟨ab,ao,none⟩) acts.length ac,.int .i64 code,.int .i64 val] 298)):=by go_grown
   have BY:=Blk.new wr 298 #[.int .i64 i,.int .i64 s,.int .i64 q,.slice (some ⟨ab,ao,none⟩) acts.length ac,.int .i64 code,.int .i64 val]
   have hcl:=cloneTxn_any i s q ab ao ac acts _ ((actK_at hrd).2.below hbY) hpos (by omega)
   rw [Nat.add_zero] at c0
   replace hO:=hO.below hbY
   replace hb:=hb.trans (hbY.mono hb.size)
   obtain ⟨y0,y1,y2,y3⟩:=BY.cel4
   clear HE hbY
   go_wp2_with fail
   clear c0 c1 c2 c3 c4 c5 y0 y1 y2 y3 BY
   generalize wr.alloc (.cells #[.int .i64 i,.int .i64 s,.int .i64 q,.slice (some ⟨ab,ao,none⟩) acts.length ac,.int .i64 code,.int .i64 val] 298)=Y at *
   have hYs:w.heap.size≤Y.heap.size:=hb.size
   refine hcl.mono ?_
   rintro e w2 ⟨a2,c2,rfl,ho2,hb2⟩
   have HLT:=hO.lt
   replace hO:=hO.below hb2
   replace hb:=hb.trans (hb2.mono hb.size)
   obtain ⟨o2,hk2⟩:=own_zero ho2
   have hP:txnK.own w2 ⟨i,s,q,.slice a2 acts.length c2,acts⟩:=⟨o2,fun _ _=>trivial⟩
   have hPlo:∀ x∈txnK.foot ⟨i,s,q,.slice a2 acts.length c2,acts⟩,Y.heap.size≤x:=fun x hx=>hk2 x (by rw [← actK_fp (.slice a2 acts.length c2) acts];exact hx)
   have hPn:(txnK.foot ⟨i,s,q,.slice a2 acts.length c2,acts⟩).Nodup:=by
    show (actK.fp _ _).Nodup
    rw [actK_fp];exact blk_nodup _
   have hbA:Below w2.heap.size w2 (w2.alloc (.cells #[.int .i64 i,.int .i64 s,.int .i64 q,.slice a2 acts.length c2] 158)):=by go_grown
   have hOA:=hO.below hbA
   have hPA:=txnK.own_out (F:=[]) hP (Out.of_below hbA) (fun _ _=>by simp)
   have hbB:=hb.trans (hbA.mono hb.size)
   clear hcl ho2 hO hP hk2
   have hrow0:=hOA.1
   go_wp2_with (at_builtin;refine wpList_append_own_at _ rfl _ _ 52 rfl 0 158 i0 (.agg #[.int .i64 0,.int .i64 0,.int .i64 0,.slice none 0 0]) 4 48 Tryz.underlying52 hi hz0 hz1 hz2 rfl (by decide) _ qs.length (txnK.row qs) rfl hrow0 ⟨w2.heap.size,0,none⟩ 1 1 [.int .i64 i,.int .i64 s,.int .i64 q,.slice a2 acts.length c2] rfl rfl ?c1 ?c2 ?c3 ?c4 ?c5 ?_)
   all_goals try (case c1=>intro j u hj;match j,hj with | 0,hj=>simp at hj;subst hj;simp [Addr.add] | 1,hj=>simp at hj;subst hj;simp [Addr.add] | 2,hj=>simp at hj;subst hj;simp [Addr.add] | 3,hj=>simp at hj;subst hj;simp [Addr.add])
   all_goals try (case c2=>intro u hu;simp at hu;rcases hu with rfl | rfl | rfl | rfl <;> rfl)
   all_goals try (case c3=>have:=HQL.out;unfold maxLen;omega)
   all_goals try (case c4=>have:=HQL.out;omega)
   all_goals try (case c5=>first | omega | simp)
   intro v' w5 hown hgrow hnil hat
   clear hnil hrow0
   rw [show w2.heap.size + 1=(w2.alloc (.cells #[.int .i64 i,.int .i64 s,.int .i64 q,.slice a2 acts.length c2] 158)).heap.size from (World.size_alloc _ _).symm] at hat
   generalize hwA:w2.alloc (.cells #[.int .i64 i,.int .i64 s,.int .i64 q,.slice a2 acts.length c2] 158)=WA at *
   clear hwA
   have hsz:Y.heap.size≤WA.heap.size:=by have:=hb2.size;have:=hbA.size;omega
   obtain ⟨hO5,hn5,hlo5,hou⟩:=hOA.snoc HN.out.1 HN.out.2 hPA hPn (fun x hx hx' => by have:=HLT x hx';have:=hPlo x hx;omega) (fun x hx=>by have:=hPlo x hx;omega) hbB.size hown hgrow hat
   have hb5:Below w.heap.size w w5:=Out.keep hbB hou hbB.size (fun x hx=>HN.out.2 x (by simp only [Kind.fp,List.mem_append];exact Or.inl hx))
   have HE5:Hid ((qs ++ [(⟨i,s,q,.slice a2 acts.length c2,acts⟩:TxnQ)]).map TxnQ.e=(ds.take (k + 1)).map DeedQ.t):=HPE.out _ rfl
   have HN5:Hid ((txnK.fp v' (qs ++ [(⟨i,s,q,.slice a2 acts.length c2,acts⟩:TxnQ)])).Nodup∧∀ k∈txnK.fp v' (qs ++ [(⟨i,s,q,.slice a2 acts.length c2,acts⟩:TxnQ)]),w.heap.size≤k):=⟨hn5,hlo5⟩
   clear HPE HN HLT hPlo hPn hPA hOA hbB hown hgrow hat hou hn5 hlo5 hrd hb hbA hb2 hpos
   go_wp2
   go_roundw
   case rel=>exact ⟨k + 1,_,by omega,by go_num,HE5,hO5,HN5,hb5⟩
   case measure=>simp [intOf];omega
  ·have hkl:k=ds.length:=by omega
   subst hkl
   have hE:=HE.out
   rw [List.take_length] at hE
   clear HE
   go_wp2
   go_ret
   exact ⟨_,qs,rfl,hE,hO,HN.out.1,HN.out.2,hb⟩

set_option maxRecDepth 100000 in
set_option maxHeartbeats 4000000 in
theorem txnsU_any (w0:World) (v iv:Value) (ds:List DeedQ) (w:World) (h:(deedUK w0).At w v ds) (h00:Below w0.heap.size w0 w) (hne:∀ p∈ds,p.t.F=0) (hl:ds.length≤100) :
  Calls Tryz.prog 181 #[.agg #[v,iv]] w fun e w' => ∃ v' qs,e=.returned v' ∧ qs.map TxnQ.e=ds.map DeedQ.t∧txnK.Own w' v' qs∧(txnK.fp v' qs).Nodup∧(∀ k∈txnK.fp v' qs,w.heap.size≤k)∧Below w.heap.size w w' := by
 obtain ⟨a,cap,rfl⟩:=h.shape
 obtain ⟨i0,hi,hz0,hz1,hz2⟩:=info_parts infoTxn
 have hbX:Below w.heap.size w (w.alloc (.cells #[.slice a ds.length cap,iv] 147)):=by go_grown
 have BX:=Blk.new w 147 #[.slice a ds.length cap,iv]
 obtain ⟨hn1,hn2⟩:=Kind.own_nil (K:=txnK) (w.alloc (.cells #[.slice a ds.length cap,iv] 147))
 have HN0:Hid ((txnK.fp (.slice none 0 0) ([]:List TxnQ)).Nodup∧∀ k∈txnK.fp (.slice none 0 0) ([]:List TxnQ),w.heap.size≤k):=by
  rw [hn2]
  exact ⟨by simp,by simp⟩
 clear hn2
 have x0:=BX.cell 0 _ rfl
 have hli:(ds.length:Int)≤100:=by omega
 go_enter Tryz.func181,Tryz.ntmps181
 go_wp2
 clear x0 BX
 generalize w.alloc (.cells #[.slice a ds.length cap,iv] 147)=WX at *
 go_loopw [3,9] (fun v j wr=>∃ (k:Nat) (qs:List TxnQ),k≤ds.length∧j=.int .i64 k∧Hid (qs.map TxnQ.e=(ds.take k).map DeedQ.t)∧txnK.Own wr v qs∧Hid ((txnK.fp v qs).Nodup∧∀ k∈txnK.fp v qs,w.heap.size≤k)∧Below w.heap.size w wr) (fun _ j _=>ds.length - (intOf j).toNat)
 case atStart=>exact ⟨0,[],Nat.zero_le _,rfl,(rfl:_=_),hn1,HN0,hbX⟩
 case round=>
  clear HN0 hn1 hbX
  obtain ⟨k,qs,hk,rfl,HE,hO,HN,hb⟩:=hrel
  obtain ⟨sa,sc,rfl⟩:=hO.shape
  have HQL:Hid (qs.length=k):=by
   have:=congrArg List.length HE.out
   rw [List.length_map,List.length_map,List.length_take] at this
   show qs.length=k
   omega
  by_cases hlt:k < ds.length
  ·obtain ⟨b,off,rfl,hbs,hc,hrd⟩:=(h.below hb).cell (by show 0 < 7;decide) k hlt
   have hc' : ∀ j x,((deedUK w0).cells ds[k])[j]? = some x→wr.cell? ⟨b,off + k * 7 + j,none⟩=some x:=hc
   have c0:=hc' 0 (.int .i64 ds[k].i) rfl
   have c1:=hc' 1 (.int .i64 ds[k].s) rfl
   have c2:=hc' 2 (.int .i64 ds[k].q) rfl
   have c3:=hc' 3 (ds[k].va) rfl
   have c4:=hc' 4 (.int .i64 ds[k].code) rfl
   have c5:=hc' 5 (.int .i64 ds[k].val) rfl
   have c6:=hc' 6 (ds[k].lv) rfl
   have hF0:=hne _ (List.getElem_mem hlt)
   have HPE:Hid (∀ p' : TxnQ,p'.e=DeedQ.t ds[k]→(qs ++ [p']).map TxnQ.e=(ds.take (k + 1)).map DeedQ.t):=fun p' hp' => by
    rw [List.take_succ_eq_append_getElem hlt,List.map_append,List.map_append,HE.out,List.map_singleton,List.map_singleton,hp']
   clear hc hc'
   generalize ds[k]=p at *
   obtain ⟨i,s,q,va,acts,code,val,lv,us⟩:=p
   obtain ⟨hrd,hrl⟩:actK.At w0 va acts∧undoK.At wr lv us:=hrd
   obtain ⟨la,lc,rfl⟩:=hrl.shape
   have hz:=(acts_of_F (show txnF i s q acts=0 from hF0)).1
   have hpos:0 < acts.length:=by omega
   replace hrd:=hrd.below (h00.trans (hb.mono h00.size))
   obtain ⟨aa,ac,rfl⟩:=hrd.shape
   dsimp only [DeedQ.t] at c0 c1 c2 c3 c4 c5 HPE
   obtain ⟨ab,ao,haa⟩:∃ ab ao,aa=some ⟨ab,ao,none⟩:=by
    rcases (actK_at hrd).2 with h0 | ⟨ab,ao,e,_⟩
    ·have:=actCells_length acts
     rw [h0] at this
     simp at this
     omega
    ·exact ⟨ab,ao,e⟩
   subst haa
   have hbY:Below wr.heap.size wr (wr.alloc (.cells #[.int .i64 i,.int .i64 s,.int .i64 q,.slice (some ⟨ab,ao,none⟩) acts.length ac,.int .i64 code,.int .i64 val,.slice la us.length lc] 258)):=by go_grown
   have BY:=Blk.new wr 258 #[.int .i64 i,.int .i64 s,.int .i64 q,.slice (some ⟨ab,ao,none⟩) acts.length ac,.int .i64 code,.int .i64 val,.slice la us.length lc]
   have hcl:=cloneTxn_any i s q ab ao ac acts _ ((actK_at hrd).2.below hbY) hpos (by omega)
   rw [Nat.add_zero] at c0
   replace hO:=hO.below hbY
   replace hb:=hb.trans (hbY.mono hb.size)
   obtain ⟨y0,y1,y2,y3⟩:=BY.cel4
   clear HE hbY
   go_wp2_with fail
   clear c0 c1 c2 c3 c4 c5 c6 y0 y1 y2 y3 BY
   generalize wr.alloc (.cells #[.int .i64 i,.int .i64 s,.int .i64 q,.slice (some ⟨ab,ao,none⟩) acts.length ac,.int .i64 code,.int .i64 val,.slice la us.length lc] 258)=Y at *
   have hYs:w.heap.size≤Y.heap.size:=hb.size
   refine hcl.mono ?_
   rintro e w2 ⟨a2,c2,rfl,ho2,hb2⟩
   have HLT:=hO.lt
   replace hO:=hO.below hb2
   replace hb:=hb.trans (hb2.mono hb.size)
   obtain ⟨o2,hk2⟩:=own_zero ho2
   have hP:txnK.own w2 ⟨i,s,q,.slice a2 acts.length c2,acts⟩:=⟨o2,fun _ _=>trivial⟩
   have hPlo:∀ x∈txnK.foot ⟨i,s,q,.slice a2 acts.length c2,acts⟩,Y.heap.size≤x:=fun x hx=>hk2 x (by rw [← actK_fp (.slice a2 acts.length c2) acts];exact hx)
   have hPn:(txnK.foot ⟨i,s,q,.slice a2 acts.length c2,acts⟩).Nodup:=by
    show (actK.fp _ _).Nodup
    rw [actK_fp];exact blk_nodup _
   have hbA:Below w2.heap.size w2 (w2.alloc (.cells #[.int .i64 i,.int .i64 s,.int .i64 q,.slice a2 acts.length c2] 158)):=by go_grown
   have hOA:=hO.below hbA
   have hPA:=txnK.own_out (F:=[]) hP (Out.of_below hbA) (fun _ _=>by simp)
   have hbB:=hb.trans (hbA.mono hb.size)
   clear hcl ho2 hO hP hk2
   have hrow0:=hOA.1
   go_wp2_with (at_builtin;refine wpList_append_own_at _ rfl _ _ 52 rfl 0 158 i0 (.agg #[.int .i64 0,.int .i64 0,.int .i64 0,.slice none 0 0]) 4 48 Tryz.underlying52 hi hz0 hz1 hz2 rfl (by decide) _ qs.length (txnK.row qs) rfl hrow0 ⟨w2.heap.size,0,none⟩ 1 1 [.int .i64 i,.int .i64 s,.int .i64 q,.slice a2 acts.length c2] rfl rfl ?c1 ?c2 ?c3 ?c4 ?c5 ?_)
   all_goals try (case c1=>intro j u hj;match j,hj with | 0,hj=>simp at hj;subst hj;simp [Addr.add] | 1,hj=>simp at hj;subst hj;simp [Addr.add] | 2,hj=>simp at hj;subst hj;simp [Addr.add] | 3,hj=>simp at hj;subst hj;simp [Addr.add])
   all_goals try (case c2=>intro u hu;simp at hu;rcases hu with rfl | rfl | rfl | rfl <;> rfl)
   all_goals try (case c3=>have:=HQL.out;unfold maxLen;omega)
   all_goals try (case c4=>have:=HQL.out;omega)
   all_goals try (case c5=>first | omega | simp)
   intro v' w5 hown hgrow hnil hat
   clear hnil hrow0
   rw [show w2.heap.size + 1=(w2.alloc (.cells #[.int .i64 i,.int .i64 s,.int .i64 q,.slice a2 acts.length c2] 158)).heap.size from (World.size_alloc _ _).symm] at hat
   generalize hwA:w2.alloc (.cells #[.int .i64 i,.int .i64 s,.int .i64 q,.slice a2 acts.length c2] 158)=WA at *
   clear hwA
   have hsz:Y.heap.size≤WA.heap.size:=by have:=hb2.size;have:=hbA.size;omega
   obtain ⟨hO5,hn5,hlo5,hou⟩:=hOA.snoc HN.out.1 HN.out.2 hPA hPn (fun x hx hx' => by have:=HLT x hx';have:=hPlo x hx;omega) (fun x hx=>by have:=hPlo x hx;omega) hbB.size hown hgrow hat
   have hb5:Below w.heap.size w w5:=Out.keep hbB hou hbB.size (fun x hx=>HN.out.2 x (by simp only [Kind.fp,List.mem_append];exact Or.inl hx))
   have HE5:Hid ((qs ++ [(⟨i,s,q,.slice a2 acts.length c2,acts⟩:TxnQ)]).map TxnQ.e=(ds.take (k + 1)).map DeedQ.t):=HPE.out _ rfl
   have HN5:Hid ((txnK.fp v' (qs ++ [(⟨i,s,q,.slice a2 acts.length c2,acts⟩:TxnQ)])).Nodup∧∀ k∈txnK.fp v' (qs ++ [(⟨i,s,q,.slice a2 acts.length c2,acts⟩:TxnQ)]),w.heap.size≤k):=⟨hn5,hlo5⟩
   clear HPE HN HLT hPlo hPn hPA hOA hbB hown hgrow hat hou hn5 hlo5 hrd hb hbA hb2 hpos
   go_wp2
   go_roundw
   case rel=>exact ⟨k + 1,_,by omega,by go_num,HE5,hO5,HN5,hb5⟩
   case measure=>simp [intOf];omega
  ·have hkl:k=ds.length:=by omega
   subst hkl
   have hE:=HE.out
   rw [List.take_length] at hE
   clear HE
   go_wp2
   go_ret
   exact ⟨_,qs,rfl,hE,hO,HN.out.1,HN.out.2,hb⟩

end Go.Proofs.YtjjoahhnkpjolaaGreatDoor
