/- Texts joined, with what the laws reach alone. -/
import Derived.Test.YtdhdnppbgaikfaaGreatDoorLDAW
set_option linter.unusedVariables false
set_option linter.unusedSimpArgs false
namespace Go.Proofs.YtdhdnppbgaikfaaGreatDoor
open Go.RowKit
open Go.BigFrame
set_option maxRecDepth 100000
theorem frozB {w w' : World} {g n:Nat} (h:w.frozen? ⟨g,n,none⟩=false) (hlt:g < w.heap.size) (hb:Below w.heap.size w w'):w'.frozen? ⟨g,n,none⟩=false:=by
 have e:=hb.block g hlt
 simp only [World.frozen?] at h ⊢
 rw [e]
 exact h

set_option maxHeartbeats 4000000 in
theorem l10Lay_any (g cap b o n:Nat) (k r v cur:Int) (w:World) (hc:w.cell? ⟨g,n,none⟩=some (.int .i64 cur)) (hf:w.frozen? ⟨g,n,none⟩=false) (hB:Box4 w b o (.int .i64 k) (.int .i64 r) (.int .i64 (n:Int)) (.int .i64 v)) (hn:n < 3) (hbg:b≠g) :
  Calls Tryz.prog 68 #[.slice (some ⟨g,0,none⟩) 3 cap,.pointer (some ⟨b,o,none⟩)] w fun e w' => (¬ (cur=3∨cur=v)∧e=.returned (.bool false)∧Below w.heap.size w w')∨((cur=3∨cur=v)∧e=.returned (.bool true)∧∃ W,Below w.heap.size w W∧w' = W.setCell ⟨g,n,none⟩ (.int .i64 v)):=by
 obtain ⟨b0,b1,b2,b3⟩:=hB
 have hn3:(n:Int) < 3:=by omega
 have hgl:=World.block_lt_of_cell? w ⟨g,n,none⟩ hc
 have lc:=lat_cell hc
 have l2:=lat_cell b2
 have l3:=lat_cell b3
 by_cases h3:cur=3
 ·have e3:(cur != 3)=false:=by rw [h3];rfl
  have HC:Hid (cur=3∨cur=v):=Or.inl h3
  clear h3
  go_enter Tryz.func68,Tryz.ntmps68
  go_wp2_with fail
  have hW:Below w.heap.size w w.drew:=(Below.refl _ _).drew
  have hnn:Nonempty (Lat w):=⟨⟨w,Below.refl _ _⟩⟩
  refine text_begin (S:=fun w' => ∃ u:Lat w,w' = u.val) (by kernel_rfl) ?_
  refine sgr [(0,22)] 0 (by kernel_rfl) ⟨⟨_,hW⟩,rfl⟩ ?_
  simp only [pkE]
  repeat go_big_quiet_step (fail)
  refine wpQuiet_nil ?_
  refine text_end (by kernel_rfl) ?_
  replace hc:=cellB hc hW
  replace b2:=cellB b2 hW
  replace b3:=cellB b3 hW
  replace hf:=frozB hf hgl hW
  have hW1:=hW
  clear hW hnn lc l2 l3
  generalize w.drew=X at *
  go_wp2_with fail
  have l2:=lato_cell (F:=[g]) b2 (by simp only [List.mem_singleton];exact hbg)
  have l3:=lato_cell (F:=[g]) b3 (by simp only [List.mem_singleton];exact hbg)
  have hW:Below X.heap.size X X.drew:=(Below.refl _ _).drew
  have hnn:Nonempty (LatO [g] X):=⟨⟨X,Out.refl _ _⟩⟩
  refine text_begin (S:=fun w' => ∃ u:LatO [g] X,w' = u.val) (by kernel_rfl) ?_
  refine sgr [(0,10)] 1 (by kernel_rfl) ⟨⟨_,Out.of_below hW⟩,rfl⟩ ?_
  simp only [pkE]
  repeat go_big_quiet_step (fail)
  refine wpQuiet_nil ?_
  refine ona 10 0 rfl (by kernel_rfl) ?_
  have HO:Hid (Out [g] X (X.drew.setCell ⟨g,n,none⟩ (.int .i64 v))):=(Out.of_below hW).trans (Out.setCell _ _ _ _)
  have hc2:X.drew.cell? ⟨g,n,none⟩=some (.int .i64 cur):=hc
  have hf2:X.drew.frozen? ⟨g,n,none⟩=false:=hf
  go_wp2
  refine ThenGo.to ⟨⟨⟨_,HO.out⟩,rfl⟩,?_⟩
  refine text_end (by kernel_rfl) ?_
  replace hW1:=hW1.trans (hW.mono hW1.size)
  clear hc2 hf2
  go_wp2
  go_ret
  exact Or.inr ⟨HC.out,rfl,X.drew,hW1,rfl⟩
 ·have e3:(cur != 3)=true:=by simpa using h3
  by_cases h4:cur=v
  ·have e4:(cur != v)=false:=by rw [h4];simp
   have HC:Hid (cur=3∨cur=v):=Or.inr h4
   clear h3 h4
   go_enter Tryz.func68,Tryz.ntmps68
   go_wp2_with fail
   have hW:Below w.heap.size w w.drew:=(Below.refl _ _).drew
   have hnn:Nonempty (Lat w):=⟨⟨w,Below.refl _ _⟩⟩
   refine text_begin (S:=fun w' => ∃ u:Lat w,w' = u.val) (by kernel_rfl) ?_
   refine sgr [(0,22)] 0 (by kernel_rfl) ⟨⟨_,hW⟩,rfl⟩ ?_
   simp only [pkE]
   repeat go_big_quiet_step (fail)
   refine wpQuiet_nil ?_
   refine text_end (by kernel_rfl) ?_
   replace hc:=cellB hc hW
   replace b2:=cellB b2 hW
   replace b3:=cellB b3 hW
   replace hf:=frozB hf hgl hW
   have hW1:=hW
   clear hW hnn lc l2 l3
   generalize w.drew=X at *
   go_wp2_with fail
   have l2:=lato_cell (F:=[g]) b2 (by simp only [List.mem_singleton];exact hbg)
   have l3:=lato_cell (F:=[g]) b3 (by simp only [List.mem_singleton];exact hbg)
   have hW:Below X.heap.size X X.drew:=(Below.refl _ _).drew
   have hnn:Nonempty (LatO [g] X):=⟨⟨X,Out.refl _ _⟩⟩
   refine text_begin (S:=fun w' => ∃ u:LatO [g] X,w' = u.val) (by kernel_rfl) ?_
   refine sgr [(0,10)] 1 (by kernel_rfl) ⟨⟨_,Out.of_below hW⟩,rfl⟩ ?_
   simp only [pkE]
   repeat go_big_quiet_step (fail)
   refine wpQuiet_nil ?_
   refine ona 10 0 rfl (by kernel_rfl) ?_
   have HO:Hid (Out [g] X (X.drew.setCell ⟨g,n,none⟩ (.int .i64 v))):=(Out.of_below hW).trans (Out.setCell _ _ _ _)
   have hc2:X.drew.cell? ⟨g,n,none⟩=some (.int .i64 cur):=hc
   have hf2:X.drew.frozen? ⟨g,n,none⟩=false:=hf
   go_wp2
   refine ThenGo.to ⟨⟨⟨_,HO.out⟩,rfl⟩,?_⟩
   refine text_end (by kernel_rfl) ?_
   replace hW1:=hW1.trans (hW.mono hW1.size)
   clear hc2 hf2
   go_wp2
   go_ret
   exact Or.inr ⟨HC.out,rfl,X.drew,hW1,rfl⟩
  ·have e4:(cur != v)=true:=by simpa using h4
   have HC:Hid (¬ (cur=3∨cur=v)):=fun h=>h.elim h3 h4
   clear h3 h4
   go_enter Tryz.func68,Tryz.ntmps68
   go_wp2_with fail
   have hW:Below w.heap.size w w.drew:=(Below.refl _ _).drew
   have hnn:Nonempty (Lat w):=⟨⟨w,Below.refl _ _⟩⟩
   refine text_begin (S:=fun w' => ∃ u:Lat w,w' = u.val) (by kernel_rfl) ?_
   refine sgr [(0,22)] 0 (by kernel_rfl) ⟨⟨_,hW⟩,rfl⟩ ?_
   simp only [pkE]
   repeat go_big_quiet_step (fail)
   refine wpQuiet_nil ?_
   refine text_end (by kernel_rfl) ?_
   go_wp2
   go_ret
   exact Or.inl ⟨HC.out,rfl,hW⟩

/-- A box of four cells lasts where its block does not turn. -/
theorem Box4.outs {w w' : World} {b o:Nat} {x0 x1 x2 x3:Value} {F:List Nat} (h:Box4 w b o x0 x1 x2 x3) (hU:Out F w w') (hF:b ∉ F):Box4 w' b o x0 x1 x2 x3:=by
 obtain ⟨h0,h1,h2,h3⟩:=h
 have hlt:=World.block_lt_of_cell? w ⟨b,o,none⟩ h0
 have e:=hU.block b hlt hF
 refine ⟨?_,?_,?_,?_⟩
 all_goals
  simp only [World.cell?] at h0 h1 h2 h3 ⊢
  rw [e]
  assumption

theorem proA_at (ks:List RoundQ) (r n:Nat) (hr:r < ks.length) (hn:n < (ks[r]).pro.length):proA (ks.map RoundQ.e) r n=(ks[r]).pro[n]:=by
 unfold proA
 rw [rnd_at ks r hr]
 show (ks[r]).pro.getD n 0=_
 simp [List.getD,hn]

/-- Where a report, a proposal, what was decided lies; and the instance behind a store there. -/
theorem placeR {w:World} {q:InstQ} (h:instK.own w q) (hnd:(instK.foot q).Nodup) (r n:Nat) (hr:r < q.rounds.length) (hn:n < 3) (hl:(q.rounds[r]).rep.length=3) (v:Int):∃ g5 cap5,(q.rounds[r]).vr=.slice (some ⟨g5,0,none⟩) 3 cap5∧g5∈instK.foot q∧w.cell? ⟨g5,n,none⟩=some (.int .i64 (repA q.e.rounds r n))∧w.frozen? ⟨g5,n,none⟩=false∧∀ W,Below w.heap.size w W→instK.own (W.setCell ⟨g5,n,none⟩ (.int .i64 v)) (q.setR r n v hr)∧instK.foot (q.setR r n v hr)=instK.foot q:=by
 obtain ⟨g5,cap5,hv5,hg5,kc,kf,own5,foot5⟩:=own_setR h hnd r n hr (by omega) v
 refine ⟨g5,cap5,by rw [hv5,hl],hg5,?_,kf,fun W hb=>?_⟩
 ·rw [show q.e.rounds=q.rounds.map RoundQ.e from rfl,repA_at q.rounds r n hr (by omega)]
  exact kc
 ·obtain ⟨g6,cap6,hv6,_,_,_,own6,foot6⟩:=own_setR (instK.own_out (F:=[]) h (Out.of_below hb) (fun _ _=>by simp)) hnd r n hr (by omega) v
  rw [hv5] at hv6
  simp only [Value.slice.injEq,Option.some.injEq,Addr.mk.injEq,and_true,true_and] at hv6
  obtain ⟨rfl,_⟩:=hv6
  exact ⟨own6,foot6⟩

theorem placeP {w:World} {q:InstQ} (h:instK.own w q) (hnd:(instK.foot q).Nodup) (r n:Nat) (hr:r < q.rounds.length) (hn:n < 3) (hl:(q.rounds[r]).pro.length=3) (v:Int):∃ g5 cap5,(q.rounds[r]).vp=.slice (some ⟨g5,0,none⟩) 3 cap5∧g5∈instK.foot q∧w.cell? ⟨g5,n,none⟩=some (.int .i64 (proA q.e.rounds r n))∧w.frozen? ⟨g5,n,none⟩=false∧∀ W,Below w.heap.size w W→instK.own (W.setCell ⟨g5,n,none⟩ (.int .i64 v)) (q.setP r n v hr)∧instK.foot (q.setP r n v hr)=instK.foot q:=by
 obtain ⟨g5,cap5,hv5,hg5,kc,kf,own5,foot5⟩:=own_setP h hnd r n hr (by omega) v
 refine ⟨g5,cap5,by rw [hv5,hl],hg5,?_,kf,fun W hb=>?_⟩
 ·rw [show q.e.rounds=q.rounds.map RoundQ.e from rfl,proA_at q.rounds r n hr (by omega)]
  exact kc
 ·obtain ⟨g6,cap6,hv6,_,_,_,own6,foot6⟩:=own_setP (instK.own_out (F:=[]) h (Out.of_below hb) (fun _ _=>by simp)) hnd r n hr (by omega) v
  rw [hv5] at hv6
  simp only [Value.slice.injEq,Option.some.injEq,Addr.mk.injEq,and_true,true_and] at hv6
  obtain ⟨rfl,_⟩:=hv6
  exact ⟨own6,foot6⟩

theorem placeD {w:World} {q:InstQ} (h:instK.own w q) (hnd:(instK.foot q).Nodup) (n:Nat) (hn:n < 3) (hl:q.dec.length=3) (v:Int):∃ g5 cap5,q.vd=.slice (some ⟨g5,0,none⟩) 3 cap5∧g5∈instK.foot q∧w.cell? ⟨g5,n,none⟩=some (.int .i64 (q.dec.getD n 0))∧w.frozen? ⟨g5,n,none⟩=false∧∀ W,Below w.heap.size w W→instK.own (W.setCell ⟨g5,n,none⟩ (.int .i64 v)) (q.setD n v)∧instK.foot (q.setD n v)=instK.foot q:=by
 obtain ⟨g5,cap5,hv5,hg5,kc,kf,own5,foot5⟩:=own_setD h hnd n (by omega) v
 refine ⟨g5,cap5,by rw [hv5,hl],hg5,?_,kf,fun W hb=>?_⟩
 ·rw [kc]
  simp [List.getD,show n < q.dec.length by omega]
 ·obtain ⟨g6,cap6,hv6,_,_,_,own6,foot6⟩:=own_setD (instK.own_out (F:=[]) h (Out.of_below hb) (fun _ _=>by simp)) hnd n (by omega) v
  rw [hv5] at hv6
  simp only [Value.slice.injEq,Option.some.injEq,Addr.mk.injEq,and_true,true_and] at hv6
  obtain ⟨rfl,_⟩:=hv6
  exact ⟨own6,foot6⟩

/-- Where the model's instance stands while a vote is laid. -/
structure At1 (gi:Nat) (q0:InstQ) (w0 w:World) (q:InstQ):Prop where
 b:Blk w gi 28 #[.bool q.has,q.vb,q.vr,q.vd]
 o:instK.own w q
 n:(instK.foot q).Nodup
 g:gi ∉ instK.foot q
 f:∀ k∈instK.foot q,k∈instK.foot q0∨w0.heap.size≤k
 u:Out (gi :: instK.foot q0) w0 w

theorem At1.below {g:Nat} {q0 q:InstQ} {w0 w w' : World} (h:At1 g q0 w0 w q) (hb:Below w.heap.size w w'):At1 g q0 w0 w' q:=⟨h.b.below hb,instK.own_out (F:=[]) h.o (Out.of_below hb) (fun _ _=>by simp),h.n,h.g,h.f,h.u.call hb⟩

set_option maxRecDepth 100000 in
set_option maxHeartbeats 8000000 in
theorem l10One_any (g:Nat) (q:InstQ) (b o:Nat) (k r n v:Int) (w:World) (hG:Blk w g 28 #[.bool q.has,q.vb,q.vr,q.vd]) (oq:instK.own w q) (nq:(instK.foot q).Nodup) (hg:g ∉ instK.foot q) (hF:Frm q.e.rounds q.e.dec) (hB:Box4 w b o (.int .i64 k) (.int .i64 r) (.int .i64 n) (.int .i64 v)) (hbg:b≠g) (hbf:b ∉ instK.foot q) (hv:voteF ⟨k,r,n,v⟩=0) :
  Calls Tryz.prog 30 #[.pointer (some ⟨g,0,none⟩),.pointer (some ⟨b,o,none⟩)] w fun e w' => e=.returned (.int .i64 (lay1 q.e.rounds q.e.dec ⟨k,r,n,v⟩))∧(lay1 q.e.rounds q.e.dec ⟨k,r,n,v⟩=0→∃ q' : InstQ,q'.e=⟨q.e.has,q.e.batch,putR (reaR q.e.rounds r.toNat) ⟨k,r,n,v⟩,putD q.e.dec ⟨k,r,n,v⟩⟩∧Blk w' g 28 #[.bool q'.has,q'.vb,q'.vr,q'.vd]∧instK.own w' q' ∧ (instK.foot q').Nodup∧(∀ k∈instK.foot q',k∈instK.foot q∨w.heap.size≤k))∧Out (g :: instK.foot q) w w' := by
 obtain ⟨h1,h2,h3,h4,h5,_⟩:=voteF_zero hv
 dsimp only at h1 h2 h3 h4 h5
 obtain ⟨rn,rfl⟩:∃ m:Nat,r=(m:Int):=⟨r.toNat,by omega⟩
 obtain ⟨nn,rfl⟩:∃ m:Nat,n=(m:Int):=⟨n.toNat,by omega⟩
 have hrn:rn < 4:=by omega
 have hnn3:nn < 3:=by omega
 rw [Int.toNat_natCast]
 have hblt:=World.block_lt_of_cell? w ⟨b,o,none⟩ hB.1
 have hglt:=hG.lt
 have HL1:Hid ((curV (reaR q.e.rounds rn) q.e.dec ⟨k,(rn:Int),(nn:Int),v⟩=3∨curV (reaR q.e.rounds rn) q.e.dec ⟨k,(rn:Int),(nn:Int),v⟩=v→lay1 q.e.rounds q.e.dec ⟨k,(rn:Int),(nn:Int),v⟩=0)∧(¬ (curV (reaR q.e.rounds rn) q.e.dec ⟨k,(rn:Int),(nn:Int),v⟩=3∨curV (reaR q.e.rounds rn) q.e.dec ⟨k,(rn:Int),(nn:Int),v⟩=v)→lay1 q.e.rounds q.e.dec ⟨k,(rn:Int),(nn:Int),v⟩=6)):=by
  unfold lay1
  dsimp only
  rw [if_pos hv,Int.toNat_natCast]
  exact ⟨fun h=>if_pos h,fun h=>if_neg h⟩
 generalize lay1 q.e.rounds q.e.dec ⟨k,(rn:Int),(nn:Int),v⟩=L1 at *
 have hql:q.e.rounds.length=q.rounds.length:=List.length_map _
 have hl4:=hF.h4
 have hl1:=hF.l
 go_enter Tryz.func30,Tryz.ntmps30
 go_wp2
 go_loopg [6] (rn + 1 - q.e.rounds.length) (fun gn p wr=>∃ (m:Nat) (q1:InstQ),gn=rn + 1 - (q.e.rounds.length + m)∧m≤rn + 1 - q.e.rounds.length∧q1.e=⟨q.e.has,q.e.batch,q.e.rounds ++ List.replicate m opn3,q.e.dec⟩∧At1 g q w wr q1)
 case atStart=>exact ⟨0,q,by omega,by omega,by simp,hG,oq,nq,hg,fun k hk=>Or.inl hk,Out.refl _ _⟩
 case round=>
  obtain ⟨m,q1,rfl,hm,he1,A⟩:=hrel
  have hlen1:q1.rounds.length=q.e.rounds.length + m:=by
   have:=congrArg (fun x=>(InstE.rounds x).length) he1
   simpa [InstQ.e] using this
  have hbF:b ∉ g :: instK.foot q:=fun h=>by rcases List.mem_cons.1 h with h | h;exact hbg h;exact hbf h
  have lb1:=lat_cell (hB.outs A.u hbF).2
  obtain ⟨ra,rk,hra⟩:∃ a c,q1.vr=.slice a q1.rounds.length c:=A.o.2.1.shape
  have lz2:∀ u:Lat wr,u.val.cell? ⟨g,2,none⟩=some (.slice ra q1.rounds.length rk):=by rw [← hra];exact A.b.lat 2 _ rfl
  have HLN:Hid (q1.rounds.length=q.e.rounds.length + m):=hlen1
  by_cases hlt:q.e.rounds.length + m≤rn
  ·have hle:(q1.rounds.length:Int)≤(rn:Int):=by omega
   clear hlen1
   go_wp2_with fail
   have hW:Below wr.heap.size wr wr.drew:=(Below.refl _ _).drew
   have hnn:Nonempty (Lat wr):=⟨⟨wr,Below.refl _ _⟩⟩
   refine text_begin (S:=fun w' => ∃ u:Lat wr,w' = u.val) (by kernel_rfl) ?_
   refine sgr [(0,4),(5,4)] 2 (by kernel_rfl) ⟨⟨_,hW⟩,rfl⟩ ?_
   simp only [pkE]
   repeat go_big_quiet_step (fail)
   refine wpQuiet_nil ?_
   refine qta 4 (some 10) (.int .i64 (q1.rounds.length:Int)) 1 (by kernel_rfl) (fun u _=>by kernel_rfl) ⟨⟨_,hW⟩,rfl⟩ ?_
   simp only [Act.put,pjE]
   refine sgr [(9,1)] 0 (by kernel_rfl) ⟨⟨_,hW⟩,rfl⟩ ?_
   simp only [pkE]
   repeat go_big_quiet_step (fail)
   refine wpQuiet_nil ?_
   refine text_end (by kernel_rfl) ?_
   replace A:=A.below hW
   clear lb1 lz2 hnn hW hra
   generalize wr.drew=wr1 at *
   obtain ⟨b0,b1,b2,b3⟩:=hB.outs A.u hbF
   have hwsz:w.heap.size≤wr1.heap.size:=A.u.size
   have hlen1:=HLN.out
   have HA:Hid (q1.e=⟨q.e.has,q.e.batch,q.e.rounds ++ List.replicate m opn3,q.e.dec⟩∧(∀ k∈instK.foot q1,k∈instK.foot q∨w.heap.size≤k)∧Out (g :: instK.foot q) w wr1):=⟨he1,A.f,A.u⟩
   have HQE0:Hid (q1.rounds.map RoundQ.e=q.e.rounds ++ List.replicate m opn3):=congrArg InstE.rounds he1
   have hG:=A.b
   have oq:=A.o
   have nq:=A.n
   have hg:=A.g
   have hgl:=hG.lt
   have h4:q1.rounds.length≤4:=by omega
   clear he1 A
   obtain ⟨has,vb,batch,vr,qs,vd,dec⟩:=q1
   obtain ⟨ba,bk,rfl⟩:∃ a c,vb=.slice a batch.length c:=oq.1.shape
   obtain ⟨sa,sc,rfl⟩:∃ a c,vr=.slice a qs.length c:=oq.2.1.shape
   obtain ⟨da,dk,rfl⟩:∃ a c,vd=.slice a dec.length c:=oq.2.2.shape
   dsimp only at hG HQE0 hle h4 hlen1
   have HQE:Hid (qs.map RoundQ.e=q.e.rounds ++ List.replicate m opn3):=HQE0.out
   have HLEN:Hid (qs.length=q.e.rounds.length + m):=hlen1
   clear HQE0 hlen1
   obtain ⟨i0,hi,hz0,hz1,hz2⟩:=info_parts infoRound
   obtain ⟨hn1,hn23,hd1⟩:=List.nodup_append.1 nq
   obtain ⟨hn2,hn3',hd2⟩:=List.nodup_append.1 hn23
   obtain ⟨o1,hO,o3⟩:=oq
   dsimp only at o1 hO o3
   have hgT:g ∉ txnK.fp (.slice ba batch.length bk) batch:=fun h=>hg (List.mem_append_left _ h)
   have hgR:g ∉ roundK.fp (.slice sa qs.length sc) qs:=fun h=>hg (List.mem_append_right _ (List.mem_append_left _ h))
   have hgD:g ∉ intK.fp (.slice da dec.length dk) dec:=fun h=>hg (List.mem_append_right _ (List.mem_append_right _ h))
   have hFg:g ∉ blk (.slice sa qs.length sc):=fun hx=>hgR (by simp only [Kind.fp,List.mem_append];exact Or.inl hx)
   have HF:Hid (∀ x∈roundK.fp (.slice sa qs.length sc) qs,x < wr1.heap.size):=hO.lt
   have z2:wr1.cell? ⟨g,2,none⟩=some (.slice sa qs.length sc):=hG.cell 2 _ rfl
   have m0:=lato_cell (F:=blk (.slice sa qs.length sc)) z2 hFg
   have hnn:Nonempty (LatO (blk (.slice sa qs.length sc)) wr1):=⟨⟨wr1,Out.refl _ _⟩⟩
   have hW:Below wr1.heap.size wr1 wr1.drew:=(Below.refl _ _).drew
   have hnw:∀ w',Below wr1.heap.size wr1 w' → ∃ u:LatO (blk (.slice sa qs.length sc)) wr1,w' = u.val:=fun w' hw' => ⟨⟨w',Out.of_below hw'⟩,rfl⟩
   go_wp2_with fail
   clear z2
   refine beginX (S:=fun w' => ∃ u:LatO (blk (.slice sa qs.length sc)) wr1,w' = u.val) (R:=fun _ _=>False) 12 (by kernel_rfl) (fun _ _ _ _ h=>h.elim) ?_
   refine sgX [(0,5)] 8 (by kernel_rfl) (hnw _ hW) ?_
   simp only [pkE]
   repeat go_big_quiet_step (fail)
   refine wpQuiet_nil ?_
   refine clX 5 (some 21) 67 #[] 7 (by kernel_rfl) rfl ?_
   refine (l6Open_any _).mono ?_
   rintro e w8 ⟨x1,y1,rfl,oa,ga,hb8⟩
   have LA:∀ x∈intK.fp (.slice x1 3 y1) [3,3,3],wr1.heap.size≤x:=fun x hx=>by have:=ga x hx;have:=hW.size;omega
   have MA:=oa.lt
   replace hW:=hW.trans (hb8.mono hW.size)
   clear hb8 ga
   refine Or.inl ⟨_,rfl,hnw _ hW,?_⟩
   simp only [Act.put,pgE,pjE]
   refine clX 6 (some 22) 67 #[] 6 (by kernel_rfl) rfl ?_
   refine (l6Open_any _).mono ?_
   rintro e w9 ⟨x2,y2,rfl,ob,gb,hb9⟩
   have LB:∀ x∈intK.fp (.slice x2 3 y2) [3,3,3],wr1.heap.size≤x:=fun x hx=>by have:=gb x hx;have:=hW.size;omega
   have hdis:∀ x∈intK.fp (.slice x1 3 y1) [3,3,3],∀ y∈intK.fp (.slice x2 3 y2) [3,3,3],x≠y:=fun x hx y hy e=>by have:=MA x hx;have:=gb y hy;omega
   replace oa:=oa.below hb9
   replace hW:=hW.trans (hb9.mono hW.size)
   clear hb9 gb MA
   refine Or.inl ⟨_,rfl,hnw _ hW,?_⟩
   simp only [Act.put,pgE,pjE]
   refine onX 7 5 rfl (by kernel_rfl) ?_
   go_wp2
   refine ThenX.to ⟨Or.inr (hnw _ hW),?_⟩
   refine onX 8 4 rfl (by kernel_rfl) ?_
   have hbA:Below w9.heap.size w9 (w9.alloc (.cells #[.slice x1 3 y1,.slice x2 3 y2] 84)):=by go_grown
   replace hW:=hW.trans (hbA.mono hW.size)
   replace oa:=oa.below hbA
   replace ob:=ob.below hbA
   have hsrc:∀ j u,[Value.slice x1 3 y1,.slice x2 3 y2][j]? = some u→(w9.alloc (.cells #[.slice x1 3 y1,.slice x2 3 y2] 84)).cell? ((⟨w9.heap.size,0,none⟩:Addr).add j)=some u:=by
    intro j u hj;match j,hj with | 0,hj=>simp at hj;subst hj;simp [Addr.add] | 1,hj=>simp at hj;subst hj;simp [Addr.add]
   go_wp2
   refine ThenX.to ⟨Or.inr (hnw _ hW),?_⟩
   generalize w9.alloc (.cells #[.slice x1 3 y1,.slice x2 3 y2] 84)=Z at *
   clear hbA
   have hO3:=hO.below hW
   have hrow0:=hO3.1
   have hsZ:=hW.size
   refine onX 9 3 rfl (by kernel_rfl) ?_
   refine wpList_append_own_at _ rfl _ _ 25 rfl 0 84 i0 (.agg #[.slice none 0 0,.slice none 0 0]) 2 48 Tryz.underlying25 hi hz0 hz1 hz2 rfl (by decide) _ qs.length (roundK.row qs) rfl hrow0 ⟨w9.heap.size,0,none⟩ 1 1 [.slice x1 3 y1,.slice x2 3 y2] rfl rfl hsrc ?c2 ?c3 ?c4 ?c5 ?_
   case c2=>intro u hu;simp at hu;rcases hu with rfl | rfl <;> rfl
   case c3=>unfold maxLen;omega
   case c4=>omega
   case c5=>omega
   intro v' w5 hown hgrow hnil hat
   clear hnil hrow0 hsrc
   obtain ⟨hO5,hn5,hlo5,hou⟩:=hO3.snoc (p:=(⟨.slice x1 3 y1,[3,3,3],.slice x2 3 y2,[3,3,3]⟩:RoundQ)) (B:=0) hn2 (fun _ _=>Nat.zero_le _) ⟨oa,ob⟩ (List.nodup_append.2 ⟨intK_nodup _ _,intK_nodup _ _,hdis⟩) (fun x hx hx' => by
    have:=HF.out x hx'
    rcases List.mem_append.1 hx with hx | hx
    ·have:=LA x hx;omega
    ·have:=LB x hx;omega) (fun x hx=>Nat.zero_le _) (Nat.zero_le _) hown hgrow hat
   have hft:∀ k∈roundK.fp v' (qs ++ [(⟨.slice x1 3 y1,[3,3,3],.slice x2 3 y2,[3,3,3]⟩:RoundQ)]),k∈roundK.fp (.slice sa qs.length sc) qs∨wr1.heap.size≤k:=by
    intro k hk
    unfold Kind.fp at hk ⊢
    rw [List.flatMap_append] at hk
    rcases List.mem_append.1 hk with hk | hk
    ·rcases hat with hat | hat
     ·left
      apply List.mem_append_left
      unfold blk at hk ⊢
      rw [hat] at hk
      exact hk
     ·right
      unfold blk at hk
      rw [hat] at hk
      simp only [Option.toList,List.mem_singleton] at hk
      omega
    ·rcases List.mem_append.1 hk with hk | hk
     ·left
      exact List.mem_append_right _ hk
     ·right
      have hk' : k∈roundK.foot (⟨.slice x1 3 y1,[3,3,3],.slice x2 3 y2,[3,3,3]⟩:RoundQ):=by simpa using hk
      rcases List.mem_append.1 hk' with hk' | hk'
      ·exact LA k hk'
      ·exact LB k hk'
   obtain ⟨na,nc,rfl⟩:=hO5.shape
   have hO9:Out (blk (.slice sa qs.length sc)) wr1 w5:=(Out.of_below hW).trans hou
   have Bg5:Blk w5 g 28 #[.bool has,.slice ba batch.length bk,.slice sa qs.length sc,.slice da dec.length dk]:=(hO9.block g hgl hFg).trans hG
   have hks:(qs ++ [(⟨.slice x1 3 y1,[3,3,3],.slice x2 3 y2,[3,3,3]⟩:RoundQ)]).map RoundQ.e=(q.e.rounds ++ List.replicate m opn3) ++ [opn3]:=by rw [List.map_append,HQE.out];rfl
   have hgN:g ∉ roundK.fp (.slice na (qs ++ [(⟨.slice x1 3 y1,[3,3,3],.slice x2 3 y2,[3,3,3]⟩:RoundQ)]).length nc) (qs ++ [(⟨.slice x1 3 y1,[3,3,3],.slice x2 3 y2,[3,3,3]⟩:RoundQ)]):=fun hx=>by
    rcases hft g hx with hx | hx
    ·exact hgR hx
    ·omega
   have hoB:∀ x∈blk (.slice sa qs.length sc),x∈roundK.fp (.slice sa qs.length sc) qs:=fun x hx=>by simp only [Kind.fp,List.mem_append];exact Or.inl hx
   have p1:=o1.out hO9 (fun x hx hx' => hd1 x hx x (List.mem_append_left _ (hoB x hx')) rfl)
   have p3:=o3.out hO9 (fun x hx hx' => hd2 x (hoB x hx') x hx rfl)
   have T1:=o1.lt
   have T3:=o3.lt
   have hU9:Out (g :: instK.foot (⟨has,.slice ba batch.length bk,batch,.slice sa qs.length sc,qs,.slice da dec.length dk,dec⟩:InstQ)) wr1 w5:=hO9.mono (fun x hx=>List.mem_cons_of_mem _ (List.mem_append_right _ (List.mem_append_left _ (hoB x hx))))
   generalize hKS:qs ++ [(⟨.slice x1 3 y1,[3,3,3],.slice x2 3 y2,[3,3,3]⟩:RoundQ)]=ks at *
   clear hKS hou oa ob LA LB hdis hown hgrow hat hO3 m0 HF
   go_wp2
   refine ThenX.to ⟨Or.inr ⟨⟨_,hO9⟩,rfl⟩,?_⟩
   simp only [Act.put,pgE,pjE]
   refine onX 10 2 rfl (by kernel_rfl) ?_
   go_wp2
   refine ThenX.to ⟨Or.inr ⟨⟨_,hO9⟩,rfl⟩,?_⟩
   refine onX 11 1 rfl (by kernel_rfl) ?_
   go_wp2
   refine ThenX.to ⟨Or.inr ⟨⟨_,hO9⟩,rfl⟩,?_⟩
   refine onX 12 0 rfl (by kernel_rfl) ?_
   have t3:=Bg5.cell 2 _ rfl
   have t4:=Bg5.frozen 2
   have Bg6:Blk (w5.setCell ⟨g,2,none⟩ (.slice na ks.length nc)) g 28 #[.bool has,.slice ba batch.length bk,.slice na ks.length nc,.slice da dec.length dk]:=Bg5.set 2 (.slice na ks.length nc)
   have U6:=Out.setCell w5 g 2 (.slice na ks.length nc)
   have r1:=p1.out U6 (fun x hx hx' => by simp only [List.mem_singleton] at hx';subst hx';exact hgT hx)
   have r2:=hO5.out U6 (fun x hx hx' => by simp only [List.mem_singleton] at hx';subst hx';exact hgN hx)
   have r3:=p3.out U6 (fun x hx hx' => by simp only [List.mem_singleton] at hx';subst hx';exact hgD hx)
   have hU6:=hU9.set (b:=g) (j:=2) (u:=.slice na ks.length nc) (List.mem_cons_self ..)
   have ok:instK.own (w5.setCell ⟨g,2,none⟩ (.slice na ks.length nc)) (⟨has,.slice ba batch.length bk,batch,.slice na ks.length nc,ks,.slice da dec.length dk,dec⟩:InstQ):=⟨r1,r2,r3⟩
   have nk:(instK.foot (⟨has,.slice ba batch.length bk,batch,.slice na ks.length nc,ks,.slice da dec.length dk,dec⟩:InstQ)).Nodup:=by
    refine List.nodup_append.2 ⟨hn1,List.nodup_append.2 ⟨hn5,hn3',fun x hx y hy e=>?_⟩,fun x hx y hy e=>?_⟩
    ·subst e
     rcases hft x hx with hx | hx
     ·exact hd2 x hx x hy rfl
     ·have:=T3 x hy;omega
    ·subst e
     rcases List.mem_append.1 hy with hy | hy
     ·rcases hft x hy with hy | hy
      ·exact hd1 x hx x (List.mem_append_left _ hy) rfl
      ·have:=T1 x hx;omega
     ·exact hd1 x hx x (List.mem_append_right _ hy) rfl
   have hgk:g ∉ instK.foot (⟨has,.slice ba batch.length bk,batch,.slice na ks.length nc,ks,.slice da dec.length dk,dec⟩:InstQ):=fun hx=>by
    rcases List.mem_append.1 hx with hx | hx
    ·exact hgT hx
    ·rcases List.mem_append.1 hx with hx | hx
     ·exact hgN hx
     ·exact hgD hx
   have hfk:∀ x∈instK.foot (⟨has,.slice ba batch.length bk,batch,.slice na ks.length nc,ks,.slice da dec.length dk,dec⟩:InstQ),x∈instK.foot (⟨has,.slice ba batch.length bk,batch,.slice sa qs.length sc,qs,.slice da dec.length dk,dec⟩:InstQ)∨wr1.heap.size≤x:=fun x hx=>by
    rcases List.mem_append.1 hx with hx | hx
    ·exact Or.inl (List.mem_append_left _ hx)
    ·rcases List.mem_append.1 hx with hx | hx
     ·rcases hft x hx with hx | hx
      ·exact Or.inl (List.mem_append_right _ (List.mem_append_left _ hx))
      ·exact Or.inr hx
     ·exact Or.inl (List.mem_append_right _ (List.mem_append_right _ hx))
   clear Bg5 U6 r1 r2 r3 p1 p3 hO5 hn5 hlo5 hft hU9 hn1 hn23 hn2 hn3' hd1 hd2 hgT hgR hgD hgN T1 T3 hoB hG o1 hO o3 nq
   go_wp2
   refine ThenX.to ⟨Or.inl (by kernel_rfl),?_⟩
   refine endX (by kernel_rfl) ?_
   clear t3 t4 hO9 hnn hnw hFg hW
   generalize w5.setCell ⟨g,2,none⟩ (.slice na ks.length nc)=w6 at *
   have es:q.e.rounds ++ List.replicate m opn3 ++ [opn3]=q.e.rounds ++ List.replicate (m + 1) opn3:=by
    rw [List.append_assoc,show [opn3]=List.replicate 1 opn3 from rfl,List.replicate_append_replicate]
   have HN:Hid (((⟨has,.slice ba batch.length bk,batch,.slice na ks.length nc,ks,.slice da dec.length dk,dec⟩:InstQ)).e=⟨q.e.has,q.e.batch,q.e.rounds ++ List.replicate (m + 1) opn3,q.e.dec⟩):=by
    have e0:=HA.out.1
    have ea:has=q.e.has:=congrArg InstE.has e0
    have eb:batch.map TxnQ.e=q.e.batch:=congrArg InstE.batch e0
    have ec:dec=q.e.dec:=congrArg InstE.dec e0
    show (⟨has,batch.map TxnQ.e,ks.map RoundQ.e,dec⟩:InstE)=_
    rw [ea,eb,ec,hks,es]
   have hfin:At1 g q w w6 (⟨has,.slice ba batch.length bk,batch,.slice na ks.length nc,ks,.slice da dec.length dk,dec⟩:InstQ):=⟨Bg6,ok,nk,hgk,fun x hx=>by
     rcases hfk x hx with h | h
     ·exact HA.out.2.1 x h
     ·right;omega,by
     have hU:=HA.out.2.2
     refine ⟨hU6.os.trans hU.os,hU6.tape.trans hU.tape,hU6.output.trans hU.output,Nat.le_trans hU.size hU6.size,fun x hx hn=>?_⟩
     refine (hU6.block x (by omega) (fun hx' => ?_)).trans (hU.block x hx hn)
     rcases List.mem_cons.1 hx' with rfl | hx'
     ·exact hn (by simp)
     ·rcases HA.out.2.1 x hx' with h | h
      ·exact hn (List.mem_cons_of_mem _ h)
      ·omega⟩
   clear Bg6 ok nk hgk hfk hU6 HA HQE hks es
   go_wp2
   go_roundg (rn + 1 - (q.e.rounds.length + (m + 1)))
   case rel=>exact ⟨m + 1,_,rfl,by omega,HN.out,hfin⟩
   case measure=>omega
  ·have hle:¬ (q1.rounds.length:Int)≤(rn:Int):=by omega
   clear hlen1
   go_wp2_with fail
   have hW:Below wr.heap.size wr wr.drew:=(Below.refl _ _).drew
   have hnn:Nonempty (Lat wr):=⟨⟨wr,Below.refl _ _⟩⟩
   refine text_begin (S:=fun w' => ∃ u:Lat wr,w' = u.val) (by kernel_rfl) ?_
   refine sgr [(0,4),(5,4)] 2 (by kernel_rfl) ⟨⟨_,hW⟩,rfl⟩ ?_
   simp only [pkE]
   repeat go_big_quiet_step (fail)
   refine wpQuiet_nil ?_
   refine qta 4 (some 10) (.int .i64 (q1.rounds.length:Int)) 1 (by kernel_rfl) (fun u _=>by kernel_rfl) ⟨⟨_,hW⟩,rfl⟩ ?_
   simp only [Act.put,pjE]
   refine sgr [(9,1)] 0 (by kernel_rfl) ⟨⟨_,hW⟩,rfl⟩ ?_
   simp only [pkE]
   repeat go_big_quiet_step (fail)
   refine wpQuiet_nil ?_
   refine text_end (by kernel_rfl) ?_
   replace A:=A.below hW
   clear lb1 lz2 hnn hW hra
   generalize wr.drew=wr1 at *
   obtain ⟨b0,b1,b2,b3⟩:=hB.outs A.u hbF
   have hwsz:w.heap.size≤wr1.heap.size:=A.u.size
   have hlen1:=HLN.out
   have hmr:m=rn + 1 - q.e.rounds.length:=by omega
   have her:q1.e=⟨q.e.has,q.e.batch,reaR q.e.rounds rn,q.e.dec⟩:=by rw [he1,hmr];rfl
   have hwr:=reaR_wel hF.w rn
   have hrlt:=reaR_lt q.e.rounds rn
   have hr1:q1.rounds.length=(reaR q.e.rounds rn).length:=by
    have:=congrArg (fun x=>(InstE.rounds x).length) her
    simpa [InstQ.e] using this
   have hrr:rn < q1.rounds.length:=by omega
   have her1:q1.e.rounds=reaR q.e.rounds rn:=congrArg InstE.rounds her
   have her2:q1.dec=q.e.dec:=congrArg InstE.dec her
   have hwq:Wel q1.e.rounds:=by rw [her1];exact hwr
   have hat:q1.e.rounds.getD rn rnd0=RoundQ.e q1.rounds[rn]:=rnd_at q1.rounds rn hrr
   obtain ⟨l1,l2⟩:=wel_at hwq rn (by rw [her1];exact hrlt)
   rw [hat] at l1 l2
   replace l1:(q1.rounds[rn]).rep.length=3:=l1
   replace l2:(q1.rounds[rn]).pro.length=3:=l2
   have l3:q1.dec.length=3:=by rw [her2];exact hF.d
   have oR:=A.o.2.1
   obtain ⟨va,vk,hvr⟩:∃ a c,q1.vr=.slice a q1.rounds.length c:=oR.shape
   obtain ⟨da,dk,hvd⟩:∃ a c,q1.vd=.slice a q1.dec.length c:=A.o.2.2.shape
   rw [hvr] at oR
   obtain ⟨gr,rfl⟩:=oR.blkOf (by omega)
   have z2:wr1.cell? ⟨g,2,none⟩=some (.slice (some ⟨gr,0,none⟩) q1.rounds.length vk):=by rw [← hvr];exact A.b.cell 2 _ rfl
   have z3:wr1.cell? ⟨g,3,none⟩=some (.slice da q1.dec.length dk):=by rw [← hvd];exact A.b.cell 3 _ rfl
   have hri:(rn:Int) < (q1.rounds.length:Int):=by omega
   have hB1:Box4 wr1 b o (.int .i64 k) (.int .i64 (rn:Int)) (.int .i64 (nn:Int)) (.int .i64 v):=⟨b0,b1,b2,b3⟩
   have HW:Hid (∀ (W:World) (g5:Nat) (q2:InstQ),Below wr1.heap.size wr1 W→g5∈instK.foot q1→instK.own (W.setCell ⟨g5,nn,none⟩ (.int .i64 v)) q2→instK.foot q2=instK.foot q1→q2.has=q1.has→q2.vb=q1.vb→q2.vr=q1.vr→q2.vd=q1.vd→Blk (W.setCell ⟨g5,nn,none⟩ (.int .i64 v)) g 28 #[.bool q2.has,q2.vb,q2.vr,q2.vd]∧instK.own (W.setCell ⟨g5,nn,none⟩ (.int .i64 v)) q2∧(instK.foot q2).Nodup∧(∀ k∈instK.foot q2,k∈instK.foot q∨w.heap.size≤k)∧Out (g :: instK.foot q) w (W.setCell ⟨g5,nn,none⟩ (.int .i64 v))):=by
    intro W g5 q2 hb h5 ho hf e1 e2 e3 e4
    have hne:g≠g5:=fun e=>A.g (e ▸ h5)
    refine ⟨by rw [e1,e2,e3,e4];exact (A.b.below hb).other hne _ _,ho,by rw [hf];exact A.n,fun x hx=>A.f x (by rw [← hf];exact hx),?_⟩
    have hU:=A.u.call hb
    have:=Out.setCell W g5 nn (.int .i64 v)
    refine ⟨this.os.trans hU.os,this.tape.trans hU.tape,this.output.trans hU.output,Nat.le_trans hU.size this.size,fun x hx hn=>?_⟩
    refine (this.block x (Nat.lt_of_lt_of_le hx hU.size) (fun hx' => ?_)).trans (hU.block x hx hn)
    simp only [List.mem_singleton] at hx'
    subst hx'
    rcases A.f x h5 with h | h
    ·exact hn (List.mem_cons_of_mem _ h)
    ·omega
   have HU:Hid (∀ W,Below wr1.heap.size wr1 W→Out (g :: instK.foot q) w W):=fun W hb=>A.u.call hb
   have hk' : k=1∨k=2∨k=3:=by omega
   have hcr:=fun j x hx=>(oR.cell rn hrr j x hx).1
   clear h1 h2 h3 h4 h5 hv
   rcases hk' with rfl | rfl | rfl
   ·obtain ⟨g5,cap5,hv5,hg5,kc,kf,own5⟩:=placeR A.o A.n rn nn hrr hnn3 l1 v
    have hcr2:wr1.cell? ⟨gr,rn * 2,none⟩=some (.slice (some ⟨g5,0,none⟩) 3 cap5):=hcr 0 _ (by show ([(q1.rounds[rn]).vr,(q1.rounds[rn]).vp]:List Value)[0]? = _;rw [← hv5];rfl)
    have hbg5:b≠g5:=fun e=>by
     rcases A.f g5 hg5 with h | h
     ·exact hbf (e ▸ h)
     ·omega
    have hcv:curV (reaR q.e.rounds rn) q.e.dec ⟨1,(rn:Int),(nn:Int),v⟩=repA q1.e.rounds rn nn:=by
     rw [← her1]
     unfold curV
     simp
    rw [hcv] at HL1
    have hly:=fun w hc hf hB=>l10Lay_any g5 cap5 b o nn 1 (rn:Int) v (repA q1.e.rounds rn nn) w hc hf hB hnn3 hbg5
    have HE:Hid (∃ q2:InstQ,q2.e=⟨q.e.has,q.e.batch,putR (reaR q.e.rounds rn) ⟨1,(rn:Int),(nn:Int),v⟩,putD q.e.dec ⟨1,(rn:Int),(nn:Int),v⟩⟩∧q2.has=q1.has∧q2.vb=q1.vb∧q2.vr=q1.vr∧q2.vd=q1.vd∧∀ W,Below wr1.heap.size wr1 W→instK.own (W.setCell ⟨g5,nn,none⟩ (.int .i64 v)) q2∧instK.foot q2=instK.foot q1):=by
     refine ⟨q1.setR rn nn v hrr,?_,rfl,rfl,rfl,rfl,own5⟩
     rw [setR_e,her]
     unfold putR putD
     simp
    generalize repA q1.e.rounds rn nn=CU at *
    clear hcv own5 hcr oR hvr hvd her her1 her2 hwq hat l1 l2 l3 hwr hrlt hlen1 hr1 hmr
    have hlt5:=World.block_lt_of_cell? wr1 ⟨g5,nn,none⟩ kc
    have HD:∀ W:World,Below wr1.heap.size wr1 W→Calls Tryz.prog 68 #[.slice (some ⟨g5,0,none⟩) 3 cap5,.pointer (some ⟨b,o,none⟩)] W fun e w' => (¬ (CU=3∨CU=v)∧e=.returned (.bool false)∧Below wr1.heap.size wr1 w')∨((CU=3∨CU=v)∧e=.returned (.bool true)∧∃ W',Below wr1.heap.size wr1 W' ∧ w' = W'.setCell ⟨g5,nn,none⟩ (.int .i64 v)):=fun W hb=>(hly W (cellB kc hb) (frozB kf hlt5 hb) (hB1.below hb)).mono (fun e w' hp=>by
     rcases hp with ⟨h1,h2,h3⟩ | ⟨h1,h2,W',h3,h4⟩
     ·exact Or.inl ⟨h1,h2,hb.trans (h3.mono hb.size)⟩
     ·exact Or.inr ⟨h1,h2,W',hb.trans (h3.mono hb.size),h4⟩)
    clear hly
    have la2:=lat_cell z2
    have la1:=lat_cell b1
    have lar:=lat_cell hcr2
    go_wp2_with fail
    have hW:Below wr1.heap.size wr1 wr1.drew:=(Below.refl _ _).drew
    have hnn:Nonempty (Lat wr1):=⟨⟨wr1,Below.refl _ _⟩⟩
    refine text_begin (S:=fun w' => ∃ u:Lat wr1,w' = u.val) (by kernel_rfl) ?_
    refine sgr [(0,12)] 0 (by kernel_rfl) ⟨⟨_,hW⟩,rfl⟩ ?_
    simp only [pkE]
    repeat go_big_quiet_step (fail)
    refine wpQuiet_nil ?_
    refine text_end (by kernel_rfl) ?_
    replace z3:=cellB z3 hW
    have HDX:=HD _ hW
    clear la2 la1 lar hnn
    go_wp2_with fail
    refine (HDX).mono ?_
    rintro e w8 (⟨hc8,rfl,hb8⟩ | ⟨hc8,rfl,W',hb8,hw8⟩)
    ·have e9:=HL1.out.2 hc8
     subst e9
     have hU8:=HU.out w8 hb8
     clear HD HL1 HE HW HU hc8 hb8 z2 z3
     go_wp2
     go_ret
     exact ⟨rfl,fun h=>absurd h (by decide),hU8⟩
    ·have e9:=HL1.out.1 hc8
     subst e9
     obtain ⟨q2,hq1,hq2,hq3,hq4,hq5,hq6⟩:=HE.out
     have hq7:=HW.out W' g5 q2 hb8 hg5 (hq6 W' hb8).1 (hq6 W' hb8).2 hq2 hq3 hq4 hq5
     rw [← hw8] at hq7
     have HZ:Hid (_∧_):=And.intro hq1 hq7
     clear HD HL1 HE HW HU hc8 hb8 z2 z3 hq1 hq2 hq3 hq4 hq5 hq6 hq7 hw8
     go_wp2
     go_ret
     exact ⟨rfl,⟨q2,HZ.out.1,HZ.out.2.1,HZ.out.2.2.1,HZ.out.2.2.2.1,HZ.out.2.2.2.2.1⟩,HZ.out.2.2.2.2.2⟩
   ·obtain ⟨g5,cap5,hv5,hg5,kc,kf,own5⟩:=placeP A.o A.n rn nn hrr hnn3 l2 v
    have hcr2:wr1.cell? ⟨gr,rn * 2 + 1,none⟩=some (.slice (some ⟨g5,0,none⟩) 3 cap5):=hcr 1 _ (by show ([(q1.rounds[rn]).vr,(q1.rounds[rn]).vp]:List Value)[1]? = _;rw [← hv5];rfl)
    have hbg5:b≠g5:=fun e=>by
     rcases A.f g5 hg5 with h | h
     ·exact hbf (e ▸ h)
     ·omega
    have hcv:curV (reaR q.e.rounds rn) q.e.dec ⟨2,(rn:Int),(nn:Int),v⟩=proA q1.e.rounds rn nn:=by
     rw [← her1]
     unfold curV
     simp
    rw [hcv] at HL1
    have hly:=fun w hc hf hB=>l10Lay_any g5 cap5 b o nn 2 (rn:Int) v (proA q1.e.rounds rn nn) w hc hf hB hnn3 hbg5
    have HE:Hid (∃ q2:InstQ,q2.e=⟨q.e.has,q.e.batch,putR (reaR q.e.rounds rn) ⟨2,(rn:Int),(nn:Int),v⟩,putD q.e.dec ⟨2,(rn:Int),(nn:Int),v⟩⟩∧q2.has=q1.has∧q2.vb=q1.vb∧q2.vr=q1.vr∧q2.vd=q1.vd∧∀ W,Below wr1.heap.size wr1 W→instK.own (W.setCell ⟨g5,nn,none⟩ (.int .i64 v)) q2∧instK.foot q2=instK.foot q1):=by
     refine ⟨q1.setP rn nn v hrr,?_,rfl,rfl,rfl,rfl,own5⟩
     rw [setP_e,her]
     unfold putR putD
     simp
    generalize proA q1.e.rounds rn nn=CU at *
    clear hcv own5 hcr oR hvr hvd her her1 her2 hwq hat l1 l2 l3 hwr hrlt hlen1 hr1 hmr
    have hlt5:=World.block_lt_of_cell? wr1 ⟨g5,nn,none⟩ kc
    have HD:∀ W:World,Below wr1.heap.size wr1 W→Calls Tryz.prog 68 #[.slice (some ⟨g5,0,none⟩) 3 cap5,.pointer (some ⟨b,o,none⟩)] W fun e w' => (¬ (CU=3∨CU=v)∧e=.returned (.bool false)∧Below wr1.heap.size wr1 w')∨((CU=3∨CU=v)∧e=.returned (.bool true)∧∃ W',Below wr1.heap.size wr1 W' ∧ w' = W'.setCell ⟨g5,nn,none⟩ (.int .i64 v)):=fun W hb=>(hly W (cellB kc hb) (frozB kf hlt5 hb) (hB1.below hb)).mono (fun e w' hp=>by
     rcases hp with ⟨h1,h2,h3⟩ | ⟨h1,h2,W',h3,h4⟩
     ·exact Or.inl ⟨h1,h2,hb.trans (h3.mono hb.size)⟩
     ·exact Or.inr ⟨h1,h2,W',hb.trans (h3.mono hb.size),h4⟩)
    clear hly
    have la2:=lat_cell z2
    have la1:=lat_cell b1
    have lar:=lat_cell hcr2
    go_wp2_with fail
    have hW:Below wr1.heap.size wr1 wr1.drew:=(Below.refl _ _).drew
    have hnn:Nonempty (Lat wr1):=⟨⟨wr1,Below.refl _ _⟩⟩
    refine text_begin (S:=fun w' => ∃ u:Lat wr1,w' = u.val) (by kernel_rfl) ?_
    refine sgr [(0,12)] 0 (by kernel_rfl) ⟨⟨_,hW⟩,rfl⟩ ?_
    simp only [pkE]
    repeat go_big_quiet_step (fail)
    refine wpQuiet_nil ?_
    refine text_end (by kernel_rfl) ?_
    replace z3:=cellB z3 hW
    have HDX:=HD _ hW
    clear la2 la1 lar hnn
    go_wp2_with fail
    refine (HDX).mono ?_
    rintro e w8 (⟨hc8,rfl,hb8⟩ | ⟨hc8,rfl,W',hb8,hw8⟩)
    ·have e9:=HL1.out.2 hc8
     subst e9
     have hU8:=HU.out w8 hb8
     clear HD HL1 HE HW HU hc8 hb8 z2 z3
     go_wp2
     go_ret
     exact ⟨rfl,fun h=>absurd h (by decide),hU8⟩
    ·have e9:=HL1.out.1 hc8
     subst e9
     obtain ⟨q2,hq1,hq2,hq3,hq4,hq5,hq6⟩:=HE.out
     have hq7:=HW.out W' g5 q2 hb8 hg5 (hq6 W' hb8).1 (hq6 W' hb8).2 hq2 hq3 hq4 hq5
     rw [← hw8] at hq7
     have HZ:Hid (_∧_):=And.intro hq1 hq7
     clear HD HL1 HE HW HU hc8 hb8 z2 z3 hq1 hq2 hq3 hq4 hq5 hq6 hq7 hw8
     go_wp2
     go_ret
     exact ⟨rfl,⟨q2,HZ.out.1,HZ.out.2.1,HZ.out.2.2.1,HZ.out.2.2.2.1,HZ.out.2.2.2.2.1⟩,HZ.out.2.2.2.2.2⟩
   ·obtain ⟨g5,cap5,hv5,hg5,kc,kf,own5⟩:=placeD A.o A.n nn hnn3 l3 v
    rw [hvd] at hv5
    rw [hv5] at z3
    have hbg5:b≠g5:=fun e=>by
     rcases A.f g5 hg5 with h | h
     ·exact hbf (e ▸ h)
     ·omega
    have hcv:curV (reaR q.e.rounds rn) q.e.dec ⟨3,(rn:Int),(nn:Int),v⟩=q1.dec.getD nn 0:=by
     rw [← her2]
     unfold curV
     simp
    rw [hcv] at HL1
    have hly:=fun w hc hf hB=>l10Lay_any g5 cap5 b o nn 3 (rn:Int) v (q1.dec.getD nn 0) w hc hf hB hnn3 hbg5
    have HE:Hid (∃ q2:InstQ,q2.e=⟨q.e.has,q.e.batch,putR (reaR q.e.rounds rn) ⟨3,(rn:Int),(nn:Int),v⟩,putD q.e.dec ⟨3,(rn:Int),(nn:Int),v⟩⟩∧q2.has=q1.has∧q2.vb=q1.vb∧q2.vr=q1.vr∧q2.vd=q1.vd∧∀ W,Below wr1.heap.size wr1 W→instK.own (W.setCell ⟨g5,nn,none⟩ (.int .i64 v)) q2∧instK.foot q2=instK.foot q1):=by
     refine ⟨q1.setD nn v,?_,rfl,rfl,rfl,rfl,own5⟩
     rw [setD_e,her]
     unfold putR putD
     simp
    generalize q1.dec.getD nn 0=CU at *
    clear hcv own5 hcr oR hvr hvd her her1 her2 hwq hat l1 l2 l3 hwr hrlt hlen1 hr1 hmr
    have hlt5:=World.block_lt_of_cell? wr1 ⟨g5,nn,none⟩ kc
    have HD:∀ W:World,Below wr1.heap.size wr1 W→Calls Tryz.prog 68 #[.slice (some ⟨g5,0,none⟩) 3 cap5,.pointer (some ⟨b,o,none⟩)] W fun e w' => (¬ (CU=3∨CU=v)∧e=.returned (.bool false)∧Below wr1.heap.size wr1 w')∨((CU=3∨CU=v)∧e=.returned (.bool true)∧∃ W',Below wr1.heap.size wr1 W' ∧ w' = W'.setCell ⟨g5,nn,none⟩ (.int .i64 v)):=fun W hb=>(hly W (cellB kc hb) (frozB kf hlt5 hb) (hB1.below hb)).mono (fun e w' hp=>by
     rcases hp with ⟨h1,h2,h3⟩ | ⟨h1,h2,W',h3,h4⟩
     ·exact Or.inl ⟨h1,h2,hb.trans (h3.mono hb.size)⟩
     ·exact Or.inr ⟨h1,h2,W',hb.trans (h3.mono hb.size),h4⟩)
    clear hly
    go_wp2_with fail
    refine (HD _ (Below.refl _ _)).mono ?_
    rintro e w8 (⟨hc8,rfl,hb8⟩ | ⟨hc8,rfl,W',hb8,hw8⟩)
    ·have e9:=HL1.out.2 hc8
     subst e9
     have hU8:=HU.out w8 hb8
     clear HD HL1 HE HW HU hc8 hb8 z2 z3
     go_wp2
     go_ret
     exact ⟨rfl,fun h=>absurd h (by decide),hU8⟩
    ·have e9:=HL1.out.1 hc8
     subst e9
     obtain ⟨q2,hq1,hq2,hq3,hq4,hq5,hq6⟩:=HE.out
     have hq7:=HW.out W' g5 q2 hb8 hg5 (hq6 W' hb8).1 (hq6 W' hb8).2 hq2 hq3 hq4 hq5
     rw [← hw8] at hq7
     have HZ:Hid (_∧_):=And.intro hq1 hq7
     clear HD HL1 HE HW HU hc8 hb8 z2 z3 hq1 hq2 hq3 hq4 hq5 hq6 hq7 hw8
     go_wp2
     go_ret
     exact ⟨rfl,⟨q2,HZ.out.1,HZ.out.2.1,HZ.out.2.2.1,HZ.out.2.2.2.1,HZ.out.2.2.2.2.1⟩,HZ.out.2.2.2.2.2⟩

end Go.Proofs.YtdhdnppbgaikfaaGreatDoor
