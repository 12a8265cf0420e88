/- Texts joined, with what the laws reach alone. -/
import Derived.Test.YtjjoahhnkpjolaaGreatDoorCFBD
set_option linter.unusedVariables false
set_option linter.unusedSimpArgs false
namespace Go.Proofs.YtjjoahhnkpjolaaGreatDoor
open Go.RowKit
open Go.BigFrame
set_option maxRecDepth 100000
set_option maxRecDepth 100000
set_option maxHeartbeats 8000000 in
theorem l12Fault_any (b:Nat) (p:CluQ) (w:World) (hB:Blk w b 31 #[p.vo,p.vm]) (h:cluK.own w p) (hl:p.n≤1048576) :
  Calls Tryz.prog 22 #[.pointer (some ⟨b,0,none⟩)] w fun e w' => e=.returned (.int .i64 (cluF p.e))∧Below w.heap.size w w' := by
 obtain ⟨vo,ord,vm,mem⟩:=p
 obtain ⟨a0,k0,rfl⟩:∃ a c,vo=.slice a ord.length c:=h.1.shape
 obtain ⟨a1,k1,rfl⟩:∃ a c,vm=.slice a mem.length c:=h.2.shape
 have hn0:ord.length + nmL InstQ.n ord≤1048576:=by dsimp only [CluQ.n] at hl;omega
 have hn1:mem.length + nmL NodeQ.n mem≤1048576:=by dsimp only [CluQ.n] at hl;omega
 clear hl
 obtain ⟨ho,hm⟩:instK.Own w (.slice a0 ord.length k0) ord∧nodeK.Own w (.slice a1 mem.length k1) mem:=h
 generalize hE:cluF _=E
 have HE:Hid (E=if ordF (ord.map InstQ.e)=0 then (if (mem.map NodeQ.e).length=3 then nodsF (ord.map InstQ.e) (mem.map NodeQ.e) else 2) else ordF (ord.map InstQ.e)):=hE.symm
 clear hE
 have hof:=fun w h=>l7Fault_any (.slice a0 ord.length k0) ord w h hn0
 have hnf:=fun g off kn sf (q:RepQ) w hB h hp hl' => l11Fault_o off (.slice a0 ord.length k0) ord g kn sf q w hB h hn0 hp hl'
 have A0:Blk w b 31 #[.slice a0 ord.length k0,.slice a1 mem.length k1]:=hB
 have b0:Below w.heap.size w w:=Below.refl _ _
 clear hB
 have Hnf:Hid _:=hnf
 clear hnf
 generalize ordF (ord.map InstQ.e)=C at *
 have c0:=A0.cell 0 _ rfl
 go_enter Tryz.func22,Tryz.ntmps22
 go_wp2_with fail
 clear c0
 refine (hof w (ho.at.below b0)).mono ?_
 rintro e w1 ⟨rfl,hb⟩
 replace A0:=A0.below hb
 replace b0:=b0.trans (hb.mono b0.size)
 clear hb hof
 by_cases hC:C=0
 case neg=>
  have hC' : (C != 0)=true:=by simpa using hC
  have HD:Hid (E=C):=by rw [HE.out,if_neg hC];trivial
  clear HE hC
  go_wp2
  go_ret
  exact ⟨by first | (rw [HD.out];done) | (rw [HD.out];rfl),b0⟩
 subst hC
 by_cases h3:mem.length=3
 case neg=>
  have h3' : ((mem.length:Int) != 3)=true:=by
   have:¬ (mem.length:Int)=3:=by omega
   simpa using this
  have HD:Hid (E=2):=by rw [HE.out,if_pos rfl,if_neg (by rw [List.length_map];exact h3)];trivial
  have c1:=A0.cell 1 _ rfl
  clear HE
  go_wp2
  go_ret
  exact ⟨by first | (rw [HD.out];done) | (rw [HD.out];rfl),b0⟩
 have HG:Hid (E=nodsF (ord.map InstQ.e) (mem.map NodeQ.e)):=by rw [HE.out,if_pos rfl,if_pos (by rw [List.length_map];exact h3)];trivial
 have h3' : ((mem.length:Int) != 3)=false:=by
  have:(mem.length:Int)=3:=by omega
  rw [this];rfl
 clear HE
 have c1:=A0.cell 1 _ rfl
 go_wp2_with fail
 clear h3' c1
 go_loopw [4] (fun i wr=>∃ k:Nat,k≤mem.length∧i=.int .i64 k∧Hid (E=nodsF (ord.map InstQ.e) ((mem.map NodeQ.e).drop k))∧Blk wr b 31 #[.slice a0 ord.length k0,.slice a1 mem.length k1]∧Below w.heap.size w wr) (fun i _=>mem.length - (intOf i).toNat)
 case atStart=>exact ⟨0,Nat.zero_le _,rfl,HG,A0,b0⟩
 case round=>
  clear HG A0 b0
  obtain ⟨k,hk,rfl,HG,A0,b0⟩:=hrel
  obtain ⟨c0,c1⟩:=A0.cel2
  by_cases hlt:k < mem.length
  ·have hat:(mem.map NodeQ.e)[k]'(by simpa using hlt)=NodeQ.e mem[k]:=by simp
   have HBAD:Hid (nodF (ord.map InstQ.e) mem[k].kn mem[k].sf mem[k].r.e≠0→E=nodF (ord.map InstQ.e) mem[k].kn mem[k].sf mem[k].r.e):=fun hx=>by
    rw [HG.out,nods_bad _ _ k (by simpa using hlt) (by rw [hat];exact hx),hat];exact (rfl:_=_)
   have HNXT:Hid (nodF (ord.map InstQ.e) mem[k].kn mem[k].sf mem[k].r.e=0→E=nodsF (ord.map InstQ.e) ((mem.map NodeQ.e).drop (k + 1))):=fun hx=>by
    rw [HG.out,nods_next _ _ k (by simpa using hlt) (by rw [hat];exact hx)]
   have hn2:NodeQ.n mem[k]≤1048576:=by have:=nm_le NodeQ.n mem k hlt;omega
   have hoq:repK.own w mem[k].r:=hm.2 _ (List.getElem_mem hlt)
   have hrb:=fun (w' : World) (hb:Below w.heap.size w w')=>repK.own_out (F:=[]) (w' := w') hoq (Out.of_below hb) (fun _ _=>by simp)
   obtain ⟨g,off,rfl,hbs,hc,hrd⟩:=(hm.at.below b0).cell (by decide) k hlt
   have hc' : ∀ j x,(nodeK.cells mem[k])[j]? = some x→wr.cell? ⟨g,off + k * 7 + j,none⟩=some x:=hc
   clear hat HG hc hrd hoq
   have O0:Off wr g (off + k * 7) #[.int .i64 mem[k].kn,.int .i64 mem[k].sf,mem[k].r.vd,mem[k].r.vb,mem[k].r.vt,mem[k].r.vu,mem[k].r.vn]:=⟨hbs,fun j x hx=>hc' j x (by simpa [nodeK,NodeQ.r] using hx)⟩
   have hnk0:=Hnf.out g (off + k * 7) mem[k].kn mem[k].sf mem[k].r
   have hnk:=fun w hB h hp=>hnk0 w hB h hp hn2
   clear hnk0
   have HNK:Hid _:=hnk
   have HRB:Hid _:=hrb
   clear hnk hrb hc' hn2
   generalize nodF (ord.map InstQ.e) mem[k].kn mem[k].sf mem[k].r.e=C at *
   generalize mem[k]=p at *
   have hlt' : (k:Int) < (mem.length:Int):=by omega
   go_wp2_with fail
   obtain ⟨f0,f1⟩:=A0.lts2
   have hW:Below wr.heap.size wr wr.drew:=(Below.refl _ _).drew
   have hnn:Nonempty (Lat wr):=⟨⟨wr,Below.refl _ _⟩⟩
   refine text_begin (S:=fun w' => ∃ u:Lat wr,w' = u.val) (by kernel_rfl) ?_
   refine sgr [(0,10)] 2 (by kernel_rfl) ⟨⟨_,hW⟩,rfl⟩ ?_
   simp only [pkE]
   repeat go_big_quiet_step (fail)
   refine wpQuiet_nil ?_
   refine cla 10 (some 39) 41 #[.slice a0 ord.length k0,.pointer (some ⟨g,off + k * 7,none⟩)] 1 (by kernel_rfl) ?_
   refine (HNK.out _ (O0.below hW) (ho.at.below (b0.trans (hW.mono b0.size))) (HRB.out _ (b0.trans (hW.mono b0.size)))).mono ?_
   rintro e w9 ⟨rfl,hb9⟩
   replace hW:=hW.trans (hb9.mono hW.size)
   clear hb9
   refine ⟨_,rfl,⟨⟨_,hW⟩,rfl⟩,?_⟩
   simp only [Act.put,pjE]
   refine sgr [(11,1)] 0 (by kernel_rfl) ⟨⟨_,hW⟩,rfl⟩ ?_
   simp only [pkE]
   repeat go_big_quiet_step (fail)
   refine wpQuiet_nil ?_
   refine text_end (by kernel_rfl) ?_
   replace A0:=A0.below hW
   replace b0:=b0.trans (hW.mono b0.size)
   clear c0 c1 f0 f1 hnn hW O0 HNK HRB
   by_cases hC:C=0
   ·subst hC
    have hC' : ((0:Int) != 0)=false:=by decide
    have HE2:=HNXT.out rfl
    clear HNXT HBAD
    have HE3:Hid _:=HE2
    clear HE2
    go_wp2
    go_roundw
    case rel=>exact ⟨k + 1,by omega,by go_num,HE3,A0,b0⟩
    case measure=>simp [intOf];omega
   ·have hC' : (C != 0)=true:=by simpa using hC
    have HD:Hid (E=C):=HBAD.out hC
    clear HNXT HBAD hC
    go_wp2
    go_ret
    exact ⟨by first | (rw [HD.out];done) | (rw [HD.out];rfl),b0⟩
  ·have HD:Hid (E=0):=by rw [HG.out,nods_end _ _ k (by simpa using hlt)];trivial
   have hlt' : ¬ (k:Int) < (mem.length:Int):=by omega
   clear HG
   go_wp2
   go_ret
   exact ⟨by first | (rw [HD.out];done) | (rw [HD.out];rfl),b0⟩

set_option maxHeartbeats 8000000 in
theorem implClusterFault_any (p:CluQ) (w:World) (hG:Rul w) (hT:ErrT w) (h:cluK.own w p) (hl:p.n≤1048576) :
  Calls Tryz.prog 9 #[.agg #[p.vo,p.vm]] w fun e w' => e=.returned (.int .i64 (cluF p.e))∧Below w.heap.size w w' := by
 obtain ⟨vo,ord,vm,mem⟩:=p
 obtain ⟨a0,k0,rfl⟩:∃ a c,vo=.slice a ord.length c:=h.1.shape
 obtain ⟨a1,k1,rfl⟩:∃ a c,vm=.slice a mem.length c:=h.2.shape
 have hn0:ord.length + nmL InstQ.n ord≤1048576:=by dsimp only [CluQ.n] at hl;omega
 have hn1:mem.length + nmL NodeQ.n mem≤1048576:=by dsimp only [CluQ.n] at hl;omega
 clear hl
 obtain ⟨ho,hm⟩:instK.Own w (.slice a0 ord.length k0) ord∧nodeK.Own w (.slice a1 mem.length k1) mem:=h
 generalize hE:cluF _=E
 have HE:Hid (E=if ordF (ord.map InstQ.e)=0 then (if (mem.map NodeQ.e).length=3 then nodsF (ord.map InstQ.e) (mem.map NodeQ.e) else 2) else ordF (ord.map InstQ.e)):=hE.symm
 clear hE
 have hof:=fun w hG h=>implOrderFault_any (.slice a0 ord.length k0) ord w hG h hn0
 have hcp:=row_cap ho.1
 have hnf:=fun kn sf (q:RepQ) w hG hE h hp nd nt hl' => implNodeFault_any (.slice a0 ord.length k0) ord kn sf q w hG hE h hcp hn0 hp nd nt hl'
 clear hcp
 have A0:=Blk.new w 31 #[.slice a0 ord.length k0,.slice a1 mem.length k1]
 have b0:Below w.heap.size w (w.alloc (.cells #[.slice a0 ord.length k0,.slice a1 mem.length k1] 31)):=by go_grown
 have Hnf:Hid _:=hnf
 clear hnf
 generalize ordF (ord.map InstQ.e)=C at *
 have c0:=A0.cell 0 _ rfl
 go_enter Tryz.func9,Tryz.ntmps9
 go_wp2_with fail
 clear c0
 generalize w.alloc (.cells #[.slice a0 ord.length k0,.slice a1 mem.length k1] 31)=W at *
 refine (hof W (hG.below b0) (ho.at.below b0)).mono ?_
 rintro e w1 ⟨rfl,hb⟩
 replace A0:=A0.below hb
 replace b0:=b0.trans (hb.mono b0.size)
 clear hb hof
 by_cases hC:C=0
 case neg=>
  have hC' : (C != 0)=true:=by simpa using hC
  have HD:Hid (E=C):=by rw [HE.out,if_neg hC];trivial
  clear HE hC
  go_wp2
  go_ret
  exact ⟨by first | (rw [HD.out];done) | (rw [HD.out];rfl),b0⟩
 subst hC
 by_cases h3:mem.length=3
 case neg=>
  have h3' : ((mem.length:Int) != 3)=true:=by
   have:¬ (mem.length:Int)=3:=by omega
   simpa using this
  have HD:Hid (E=2):=by rw [HE.out,if_pos rfl,if_neg (by rw [List.length_map];exact h3)];trivial
  have c1:=A0.cell 1 _ rfl
  clear HE
  go_wp2
  go_ret
  exact ⟨by first | (rw [HD.out];done) | (rw [HD.out];rfl),b0⟩
 have HG:Hid (E=nodsF (ord.map InstQ.e) (mem.map NodeQ.e)):=by rw [HE.out,if_pos rfl,if_pos (by rw [List.length_map];exact h3)];trivial
 have h3' : ((mem.length:Int) != 3)=false:=by
  have:(mem.length:Int)=3:=by omega
  rw [this];rfl
 clear HE
 have c1:=A0.cell 1 _ rfl
 go_wp2_with fail
 clear h3' c1
 go_loopw [20] (fun i wr=>∃ k:Nat,k≤mem.length∧i=.int .i64 k∧Hid (E=nodsF (ord.map InstQ.e) ((mem.map NodeQ.e).drop k))∧Blk wr w.heap.size 31 #[.slice a0 ord.length k0,.slice a1 mem.length k1]∧Below w.heap.size w wr) (fun i _=>mem.length - (intOf i).toNat)
 case atStart=>exact ⟨0,Nat.zero_le _,rfl,HG,A0,b0⟩
 case round=>
  clear HG A0 b0
  obtain ⟨k,hk,rfl,HG,A0,b0⟩:=hrel
  obtain ⟨c0,c1⟩:=A0.cel2
  by_cases hlt:k < mem.length
  ·have hat:(mem.map NodeQ.e)[k]'(by simpa using hlt)=NodeQ.e mem[k]:=by simp
   have HBAD:Hid (nodF (ord.map InstQ.e) mem[k].kn mem[k].sf mem[k].r.e≠0→E=nodF (ord.map InstQ.e) mem[k].kn mem[k].sf mem[k].r.e):=fun hx=>by
    rw [HG.out,nods_bad _ _ k (by simpa using hlt) (by rw [hat];exact hx),hat];exact (rfl:_=_)
   have HNXT:Hid (nodF (ord.map InstQ.e) mem[k].kn mem[k].sf mem[k].r.e=0→E=nodsF (ord.map InstQ.e) ((mem.map NodeQ.e).drop (k + 1))):=fun hx=>by
    rw [HG.out,nods_next _ _ k (by simpa using hlt) (by rw [hat];exact hx)]
   have hn2:NodeQ.n mem[k]≤1048576:=by have:=nm_le NodeQ.n mem k hlt;omega
   have hoq:repK.own w mem[k].r:=hm.2 _ (List.getElem_mem hlt)
   have hrb:=fun (w' : World) (hb:Below w.heap.size w w')=>repK.own_out (F:=[]) (w' := w') hoq (Out.of_below hb) (fun _ _=>by simp)
   obtain ⟨g,off,rfl,hbs,hc,hrd⟩:=(hm.at.below b0).cell (by decide) k hlt
   have hc' : ∀ j x,(nodeK.cells mem[k])[j]? = some x→wr.cell? ⟨g,off + k * 7 + j,none⟩=some x:=hc
   clear hat HG hc hrd hoq
   have hnk0:=Hnf.out mem[k].kn mem[k].sf mem[k].r
   have hnk:=fun w hG hE h hp nd nt=>hnk0 w hG hE h hp nd nt hn2
   clear hnk0
   have HNK:Hid _:=hnk
   have q0:=hc' 0 (.int .i64 mem[k].kn) rfl
   have q1:=hc' 1 (.int .i64 mem[k].sf) rfl
   have q2:=hc' 2 mem[k].vd rfl
   have q3:=hc' 3 mem[k].vb rfl
   have q4:=hc' 4 mem[k].vt rfl
   have q5:=hc' 5 mem[k].vu rfl
   have q6:=hc' 6 mem[k].vn rfl
   rw [Nat.add_zero] at q0
   clear hnk hc' hn2
   generalize nodF (ord.map InstQ.e) mem[k].kn mem[k].sf mem[k].r.e=C at *
   generalize mem[k]=p at *
   obtain ⟨kn,sf,vd,done,vb,base,vt,tent,vu,undos,vn,now⟩:=p
   have oq:=hrb _ b0
   obtain ⟨x0,y0,rfl⟩:∃ a c,vd=.slice a done.length c:=oq.1.shape
   obtain ⟨x1,y1,rfl⟩:∃ a c,vb=.slice a base.length c:=oq.2.1.shape
   obtain ⟨x2,y2,rfl⟩:∃ a c,vt=.slice a tent.length c:=oq.2.2.1.shape
   obtain ⟨x3,y3,rfl⟩:∃ a c,vu=.slice a undos.length c:=oq.2.2.2.1.shape
   obtain ⟨x4,y4,rfl⟩:∃ a c,vn=.slice a now.length c:=oq.2.2.2.2.shape
   clear oq
   dsimp only at q0 q1 q2 q3 q4 q5 q6
   have HRB:Hid _:=hrb
   clear hrb
   have hB1:Below wr.heap.size wr (wr.alloc (.cells #[.int .i64 kn,.int .i64 sf,.slice x0 done.length y0,.slice x1 base.length y1,.slice x2 tent.length y2,.slice x3 undos.length y3,.slice x4 now.length y4] 58)):=by go_grown
   have X0:=Blk.new wr 58 #[.int .i64 kn,.int .i64 sf,.slice x0 done.length y0,.slice x1 base.length y1,.slice x2 tent.length y2,.slice x3 undos.length y3,.slice x4 now.length y4]
   replace A0:=A0.below hB1
   have d0:=A0.cell 0 _ rfl
   obtain ⟨e0,e1,e2,e3,e4,e5,e6⟩:=X0.cel7
   replace b0:=b0.trans (hB1.mono b0.size)
   have hlt' : (k:Int) < (mem.length:Int):=by omega
   go_wp2_with fail
   clear q0 q1 q2 q3 q4 q5 q6 e0 e1 e2 e3 e4 e5 e6 d0 c0 c1 hB1
   generalize wr.alloc (.cells #[.int .i64 kn,.int .i64 sf,.slice x0 done.length y0,.slice x1 base.length y1,.slice x2 tent.length y2,.slice x3 undos.length y3,.slice x4 now.length y4] 58)=WR at *
   have oq:=HRB.out _ b0
   refine (HNK.out WR (hG.below b0) (hT.below b0) (ho.at.below b0) (repK.own_rd oq) oq.1.niceV oq.2.2.1.niceV).mono ?_
   rintro e w9 ⟨rfl,hb9⟩
   replace A0:=A0.below hb9
   replace b0:=b0.trans (hb9.mono b0.size)
   clear hb9 oq HRB HNK X0
   by_cases hC:C=0
   ·subst hC
    have hC' : ((0:Int) != 0)=false:=by decide
    have HE2:=HNXT.out rfl
    clear HNXT HBAD
    have HE3:Hid _:=HE2
    clear HE2
    go_wp2
    go_roundw
    case rel=>exact ⟨k + 1,by omega,by go_num,HE3,A0,b0⟩
    case measure=>simp [intOf];omega
   ·have hC' : (C != 0)=true:=by simpa using hC
    have HD:Hid (E=C):=HBAD.out hC
    clear HNXT HBAD hC
    go_wp2
    go_ret
    exact ⟨by first | (rw [HD.out];done) | (rw [HD.out];rfl),b0⟩
  ·have HD:Hid (E=0):=by rw [HG.out,nods_end _ _ k (by simpa using hlt)];trivial
   have hlt' : ¬ (k:Int) < (mem.length:Int):=by omega
   clear HG
   go_wp2
   go_ret
   exact ⟨by first | (rw [HD.out];done) | (rw [HD.out];rfl),b0⟩

end Go.Proofs.YtjjoahhnkpjolaaGreatDoor
