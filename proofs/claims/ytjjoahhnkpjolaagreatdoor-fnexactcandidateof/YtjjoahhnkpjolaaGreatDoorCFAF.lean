/- Texts joined, with what the laws reach alone. -/
import Derived.Test.YtjjoahhnkpjolaaGreatDoorCFAE
set_option linter.unusedVariables false
set_option linter.unusedSimpArgs false
namespace Go.Proofs.YtjjoahhnkpjolaaGreatDoor
open Go.RowKit
open Go.BigFrame
set_option maxRecDepth 100000
/-- A replica where it lies. -/
structure RepQ where
 vd:Value
 done:List TxnQ
 vb:Value
 base:List ItemD
 vt:Value
 tent:List TxnQ
 vu:Value
 undos:List USQ
 vn:Value
 now:List ItemD

/-- What it tells. -/
structure RepE where
 done:List TxnD
 base:List ItemD
 tent:List TxnD
 undos:List (List UndoD)
 now:List ItemD

def RepQ.e (p:RepQ):RepE:=⟨p.done.map TxnQ.e,p.base,p.tent.map TxnQ.e,p.undos.map USQ.e,p.now⟩

def repK:Kind RepQ where
 ty:=56
 size:=5
 cells p:=[p.vd,p.vb,p.vt,p.vu,p.vn]
 own w p:=txnK.Own w p.vd p.done∧itemK.Own w p.vb p.base∧txnK.Own w p.vt p.tent∧ussK.Own w p.vu p.undos∧itemK.Own w p.vn p.now
 rd w p:=txnK.At w p.vd p.done∧itemK.At w p.vb p.base∧txnK.At w p.vt p.tent∧ussK.At w p.vu p.undos∧itemK.At w p.vn p.now
 foot p:=txnK.fp p.vd p.done ++ (itemK.fp p.vb p.base ++ (txnK.fp p.vt p.tent ++ (ussK.fp p.vu p.undos ++ itemK.fp p.vn p.now)))
 len _:=rfl
 own_rd h:=⟨h.1.at,h.2.1.at,h.2.2.1.at,h.2.2.2.1.at,h.2.2.2.2.at⟩
 own_out h ho hd:=⟨h.1.out ho (fun k hk=>hd k (List.mem_append_left _ hk)),h.2.1.out ho (fun k hk=>hd k (List.mem_append_right _ (List.mem_append_left _ hk))),h.2.2.1.out ho (fun k hk=>hd k (List.mem_append_right _ (List.mem_append_right _ (List.mem_append_left _ hk)))),h.2.2.2.1.out ho (fun k hk=>hd k (List.mem_append_right _ (List.mem_append_right _ (List.mem_append_right _ (List.mem_append_left _ hk))))),h.2.2.2.2.out ho (fun k hk=>hd k (List.mem_append_right _ (List.mem_append_right _ (List.mem_append_right _ (List.mem_append_right _ hk)))))⟩
 own_lt h k hk:=by
  rcases List.mem_append.1 hk with hk | hk
  ·exact h.1.lt k hk
  rcases List.mem_append.1 hk with hk | hk
  ·exact h.2.1.lt k hk
  rcases List.mem_append.1 hk with hk | hk
  ·exact h.2.2.1.lt k hk
  rcases List.mem_append.1 hk with hk | hk
  ·exact h.2.2.2.1.lt k hk
  ·exact h.2.2.2.2.lt k hk
 rd_below h hb:=⟨h.1.below hb,h.2.1.below hb,h.2.2.1.below hb,h.2.2.2.1.below hb,h.2.2.2.2.below hb⟩

def RepQ.n (p:RepQ):Nat:=(p.done.length + nmL TxnQ.n p.done) + p.base.length + (p.tent.length + nmL TxnQ.n p.tent) + (p.undos.length + nmL USQ.n p.undos) + p.now.length

def RepQ.wf (p:RepQ):Prop:=(p.done.length≤9223372036854775807∧∀ q∈p.done,TxnQ.wf q)∧p.base.length≤9223372036854775807∧(p.tent.length≤9223372036854775807∧∀ q∈p.tent,TxnQ.wf q)∧(p.undos.length≤9223372036854775807∧∀ q∈p.undos,USQ.wf q)∧p.now.length≤9223372036854775807

set_option maxHeartbeats 1000000 in
theorem szReplica_k (p:RepQ) (c:Int) (w:World) (h:repK.rd w p) (hn:RepQ.wf p) (h0:0≤c) (h1:c≤1048576) :
  Calls Tryz.prog 68 #[.agg #[p.vd,p.vb,p.vt,p.vu,p.vn],.int .i64 c] w fun e w' => ∃ r:Int,e=.returned (.int .i64 r)∧(¬ r < 0→(RepQ.n p:Int) + r=c)∧Below w.heap.size w w' := by
 obtain ⟨vd,done,vb,base,vt,tent,vu,undos,vn,now⟩:=p
 obtain ⟨h_0,h_1,h_2,h_3,h_4⟩:txnK.At w vd done∧itemK.At w vb base∧txnK.At w vt tent∧ussK.At w vu undos∧itemK.At w vn now:=h
 obtain ⟨hn_0,hn_1,hn_2,hn_3,hn_4⟩:(done.length≤9223372036854775807∧∀ p∈done,TxnQ.wf p)∧base.length≤9223372036854775807∧(tent.length≤9223372036854775807∧∀ p∈tent,TxnQ.wf p)∧(undos.length≤9223372036854775807∧∀ p∈undos,USQ.wf p)∧now.length≤9223372036854775807:=hn
 obtain ⟨a0,k0,rfl⟩:=h_0.shape
 obtain ⟨a1,k1,rfl⟩:=h_1.shape
 obtain ⟨a2,k2,rfl⟩:=h_2.shape
 obtain ⟨a3,k3,rfl⟩:=h_3.shape
 obtain ⟨a4,k4,rfl⟩:=h_4.shape
 have B:=Blk.new w 82 #[.slice a0 done.length k0,.slice a1 base.length k1,.slice a2 tent.length k2,.slice a3 undos.length k3,.slice a4 now.length k4]
 have hB:Below w.heap.size w (w.alloc (.cells #[.slice a0 done.length k0,.slice a1 base.length k1,.slice a2 tent.length k2,.slice a3 undos.length k3,.slice a4 now.length k4] 82)):=by go_grown
 dsimp only [RepQ.n]
 go_enter Tryz.func68,Tryz.ntmps68
 go_wp2_with fail
 generalize w.alloc (.cells #[.slice a0 done.length k0,.slice a1 base.length k1,.slice a2 tent.length k2,.slice a3 undos.length k3,.slice a4 now.length k4] 82)=W at *
 refine (szTxns_k _ done c W (h_0.below hB) hn_0.1 hn_0.2 (by omega) (by omega)).mono ?_
 rintro e w0 ⟨r0,rfl,hr0,hb0⟩
 replace B:=B.below hb0
 replace hB:=hB.trans (hb0.mono hB.size)
 clear hb0
 by_cases hneg0:r0 < 0
 ·go_wp2
  go_ret
  exact ⟨_,rfl,fun h=>by omega,hB⟩
 have hs0:=hr0 hneg0
 clear hr0
 have p1:=B.cell 1 _ rfl
 go_wp2_with fail
 clear p1
 refine (szItems_k _ base r0 w0 (h_1.below hB) hn_1 (by omega) (by omega)).mono ?_
 rintro e w1 ⟨r1,rfl,hr1,hb1⟩
 replace B:=B.below hb1
 replace hB:=hB.trans (hb1.mono hB.size)
 clear hb1
 by_cases hneg1:r1 < 0
 ·go_wp2
  go_ret
  exact ⟨_,rfl,fun h=>by omega,hB⟩
 have hs1:=hr1 hneg1
 clear hr1
 have p2:=B.cell 2 _ rfl
 go_wp2_with fail
 clear p2
 refine (szTxns_k _ tent r1 w1 (h_2.below hB) hn_2.1 hn_2.2 (by omega) (by omega)).mono ?_
 rintro e w2 ⟨r2,rfl,hr2,hb2⟩
 replace B:=B.below hb2
 replace hB:=hB.trans (hb2.mono hB.size)
 clear hb2
 by_cases hneg2:r2 < 0
 ·go_wp2
  go_ret
  exact ⟨_,rfl,fun h=>by omega,hB⟩
 have hs2:=hr2 hneg2
 clear hr2
 have p3:=B.cell 3 _ rfl
 go_wp2_with fail
 clear p3
 refine (szUss_k _ undos r2 w2 (h_3.below hB) hn_3.1 hn_3.2 (by omega) (by omega)).mono ?_
 rintro e w3 ⟨r3,rfl,hr3,hb3⟩
 replace B:=B.below hb3
 replace hB:=hB.trans (hb3.mono hB.size)
 clear hb3
 by_cases hneg3:r3 < 0
 ·go_wp2
  go_ret
  exact ⟨_,rfl,fun h=>by omega,hB⟩
 have hs3:=hr3 hneg3
 clear hr3
 have p4:=B.cell 4 _ rfl
 go_wp2_with fail
 clear p4
 refine (szItems_k _ now r3 w3 (h_4.below hB) hn_4 (by omega) (by omega)).mono ?_
 rintro e w4 ⟨r4,rfl,hr4,hb4⟩
 replace B:=B.below hb4
 replace hB:=hB.trans (hb4.mono hB.size)
 clear hb4
 by_cases hneg4:r4 < 0
 ·go_wp2
  go_ret
  exact ⟨_,rfl,fun h=>by omega,hB⟩
 have hs4:=hr4 hneg4
 clear hr4
 go_wp2
 go_ret
 exact ⟨_,rfl,fun _=>by omega,hB⟩

set_option maxHeartbeats 1000000 in
theorem eqReplica_k (p p' : RepQ) (w:World) (h:repK.rd w p) (h' : repK.rd w p') (he:p.e=p'.e) (hl:RepQ.n p≤1048576) :
  Calls Tryz.prog 92 #[.agg #[p.vd,p.vb,p.vt,p.vu,p.vn],.agg #[p'.vd,p'.vb,p'.vt,p'.vu,p'.vn]] w fun e w' => e=.returned (.bool true)∧Below w.heap.size w w' := by
 obtain ⟨vd,done,vb,base,vt,tent,vu,undos,vn,now⟩:=p
 obtain ⟨vd',done',vb',base',vt',tent',vu',undos',vn',now'⟩:=p'
 simp only [RepQ.e,RepE.mk.injEq] at he
 obtain ⟨e_0,e_1,e_2,e_3,e_4⟩:=he
 dsimp only [RepQ.n] at hl
 obtain ⟨h_0,h_1,h_2,h_3,h_4⟩:txnK.At w vd done∧itemK.At w vb base∧txnK.At w vt tent∧ussK.At w vu undos∧itemK.At w vn now:=h
 obtain ⟨g_0,g_1,g_2,g_3,g_4⟩:txnK.At w vd' done'  ∧ itemK.At w vb' base'  ∧ txnK.At w vt' tent'  ∧ ussK.At w vu' undos'  ∧ itemK.At w vn' now'  := h'
 subst e_1
 subst e_4
 have hq0:=fun w h1 h2=>eqTxns_k vd vd' done done' w h1 h2 e_0 (by omega)
 have hq1:=fun w h1 h2=>eqItems_k vb vb' base w h1 h2 (by omega)
 have hq2:=fun w h1 h2=>eqTxns_k vt vt' tent tent' w h1 h2 e_2 (by omega)
 have hq3:=fun w h1 h2=>eqUss_k vu vu' undos undos' w h1 h2 e_3 (by omega)
 have hq4:=fun w h1 h2=>eqItems_k vn vn' now w h1 h2 (by omega)
 obtain ⟨a0,k0,rfl⟩:=h_0.shape
 obtain ⟨b0,m0,rfl⟩:=g_0.shape
 obtain ⟨a1,k1,rfl⟩:=h_1.shape
 obtain ⟨b1,m1,rfl⟩:=g_1.shape
 obtain ⟨a2,k2,rfl⟩:=h_2.shape
 obtain ⟨b2,m2,rfl⟩:=g_2.shape
 obtain ⟨a3,k3,rfl⟩:=h_3.shape
 obtain ⟨b3,m3,rfl⟩:=g_3.shape
 obtain ⟨a4,k4,rfl⟩:=h_4.shape
 obtain ⟨b4,m4,rfl⟩:=g_4.shape
 have B:=(Blk.new w 56 #[.slice a0 done.length k0,.slice a1 base.length k1,.slice a2 tent.length k2,.slice a3 undos.length k3,.slice a4 now.length k4]).below (w' := (w.alloc (.cells #[.slice a0 done.length k0,.slice a1 base.length k1,.slice a2 tent.length k2,.slice a3 undos.length k3,.slice a4 now.length k4] 56)).alloc (.cells #[.slice b0 done'.length m0,.slice b1 base.length m1,.slice b2 tent'.length m2,.slice b3 undos'.length m3,.slice b4 now.length m4] 56)) (by go_grown)
 have C:=Blk.new (w.alloc (.cells #[.slice a0 done.length k0,.slice a1 base.length k1,.slice a2 tent.length k2,.slice a3 undos.length k3,.slice a4 now.length k4] 56)) 56 #[.slice b0 done'.length m0,.slice b1 base.length m1,.slice b2 tent'.length m2,.slice b3 undos'.length m3,.slice b4 now.length m4]
 have hB:Below w.heap.size w ((w.alloc (.cells #[.slice a0 done.length k0,.slice a1 base.length k1,.slice a2 tent.length k2,.slice a3 undos.length k3,.slice a4 now.length k4] 56)).alloc (.cells #[.slice b0 done'.length m0,.slice b1 base.length m1,.slice b2 tent'.length m2,.slice b3 undos'.length m3,.slice b4 now.length m4] 56)):=by go_grown
 rw [World.size_alloc] at C
 clear e_0 e_2 e_3
 go_enter Tryz.func92,Tryz.ntmps92
 go_wp2_with fail
 generalize (w.alloc (.cells #[.slice a0 done.length k0,.slice a1 base.length k1,.slice a2 tent.length k2,.slice a3 undos.length k3,.slice a4 now.length k4] 56)).alloc (.cells #[.slice b0 done'.length m0,.slice b1 base.length m1,.slice b2 tent'.length m2,.slice b3 undos'.length m3,.slice b4 now.length m4] 56)=W at *
 refine (hq0 W (h_0.below hB) (g_0.below hB)).mono ?_
 rintro e w0 ⟨rfl,hb0⟩
 replace B:=B.below hb0
 replace C:=C.below hb0
 replace hB:=hB.trans (hb0.mono hB.size)
 clear hb0 hq0
 have p1:=B.cell 1 _ rfl
 have q1:=C.cell 1 _ rfl
 go_wp2_with fail
 clear p1 q1
 refine (hq1 w0 (h_1.below hB) (g_1.below hB)).mono ?_
 rintro e w1 ⟨rfl,hb1⟩
 replace B:=B.below hb1
 replace C:=C.below hb1
 replace hB:=hB.trans (hb1.mono hB.size)
 clear hb1 hq1
 have p2:=B.cell 2 _ rfl
 have q2:=C.cell 2 _ rfl
 go_wp2_with fail
 clear p2 q2
 refine (hq2 w1 (h_2.below hB) (g_2.below hB)).mono ?_
 rintro e w2 ⟨rfl,hb2⟩
 replace B:=B.below hb2
 replace C:=C.below hb2
 replace hB:=hB.trans (hb2.mono hB.size)
 clear hb2 hq2
 have p3:=B.cell 3 _ rfl
 have q3:=C.cell 3 _ rfl
 go_wp2_with fail
 clear p3 q3
 refine (hq3 w2 (h_3.below hB) (g_3.below hB)).mono ?_
 rintro e w3 ⟨rfl,hb3⟩
 replace B:=B.below hb3
 replace C:=C.below hb3
 replace hB:=hB.trans (hb3.mono hB.size)
 clear hb3 hq3
 have p4:=B.cell 4 _ rfl
 have q4:=C.cell 4 _ rfl
 go_wp2_with fail
 clear p4 q4
 refine (hq4 w3 (h_4.below hB) (g_4.below hB)).mono ?_
 rintro e w4 ⟨rfl,hb4⟩
 replace B:=B.below hb4
 replace C:=C.below hb4
 replace hB:=hB.trans (hb4.mono hB.size)
 clear hb4 hq4
 go_wp2
 go_ret
 exact ⟨rfl,hB⟩

theorem apart9 {A B:List Nat} {m:Nat} (hA:∀ k∈A,k < m) (hB:∀ k∈B,m≤k):∀ a∈A,∀ b∈B,a≠b:=fun a ha b hb e=>by
 have:=hA a ha
 have:=hB b hb
 omega

set_option maxHeartbeats 4000000 in
theorem toReplica_k (p:RepQ) (w:World) (h:repK.rd w p) (hl:RepQ.n p≤1048576) :
  Calls Tryz.prog 79 #[.agg #[p.vd,p.vb,p.vt,p.vu,p.vn]] w fun e w' => ∃ p' : RepQ,e=.returned (.agg #[p'.vd,p'.vb,p'.vt,p'.vu,p'.vn])∧p'.e=p.e∧repK.own w' p' ∧ (repK.foot p').Nodup∧(∀ k∈repK.foot p',w.heap.size≤k)∧Below w.heap.size w w' := by
 obtain ⟨vd,done,vb,base,vt,tent,vu,undos,vn,now⟩:=p
 dsimp only [RepQ.n] at hl
 obtain ⟨h_0,h_1,h_2,h_3,h_4⟩:txnK.At w vd done∧itemK.At w vb base∧txnK.At w vt tent∧ussK.At w vu undos∧itemK.At w vn now:=h
 have ht0:=fun w h1=>toTxns_k vd done w h1 (by omega)
 have ht1:=fun w h1=>toItems_k vb base w h1 (by omega)
 have ht2:=fun w h1=>toTxns_k vt tent w h1 (by omega)
 have ht3:=fun w h1=>toUss_k vu undos w h1 (by omega)
 have ht4:=fun w h1=>toItems_k vn now w h1 (by omega)
 obtain ⟨a0,k0,rfl⟩:=h_0.shape
 obtain ⟨a1,k1,rfl⟩:=h_1.shape
 obtain ⟨a2,k2,rfl⟩:=h_2.shape
 obtain ⟨a3,k3,rfl⟩:=h_3.shape
 obtain ⟨a4,k4,rfl⟩:=h_4.shape
 have B:=(Blk.new w 82 #[.slice a0 done.length k0,.slice a1 base.length k1,.slice a2 tent.length k2,.slice a3 undos.length k3,.slice a4 now.length k4]).below (w' := ((w.alloc (.cells #[.slice a0 done.length k0,.slice a1 base.length k1,.slice a2 tent.length k2,.slice a3 undos.length k3,.slice a4 now.length k4] 82)).alloc (.cells #[.slice none 0 0,.slice none 0 0,.slice none 0 0,.slice none 0 0,.slice none 0 0] 56)).alloc (.cells #[.slice none 0 0,.slice none 0 0,.slice none 0 0,.slice none 0 0,.slice none 0 0] 56)) (by go_grown)
 have C:=(Blk.new (w.alloc (.cells #[.slice a0 done.length k0,.slice a1 base.length k1,.slice a2 tent.length k2,.slice a3 undos.length k3,.slice a4 now.length k4] 82)) 56 #[.slice none 0 0,.slice none 0 0,.slice none 0 0,.slice none 0 0,.slice none 0 0]).below (w' := ((w.alloc (.cells #[.slice a0 done.length k0,.slice a1 base.length k1,.slice a2 tent.length k2,.slice a3 undos.length k3,.slice a4 now.length k4] 82)).alloc (.cells #[.slice none 0 0,.slice none 0 0,.slice none 0 0,.slice none 0 0,.slice none 0 0] 56)).alloc (.cells #[.slice none 0 0,.slice none 0 0,.slice none 0 0,.slice none 0 0,.slice none 0 0] 56)) (by go_grown)
 have D:=Blk.new ((w.alloc (.cells #[.slice a0 done.length k0,.slice a1 base.length k1,.slice a2 tent.length k2,.slice a3 undos.length k3,.slice a4 now.length k4] 82)).alloc (.cells #[.slice none 0 0,.slice none 0 0,.slice none 0 0,.slice none 0 0,.slice none 0 0] 56)) 56 #[.slice none 0 0,.slice none 0 0,.slice none 0 0,.slice none 0 0,.slice none 0 0]
 have hB:Below w.heap.size w (((w.alloc (.cells #[.slice a0 done.length k0,.slice a1 base.length k1,.slice a2 tent.length k2,.slice a3 undos.length k3,.slice a4 now.length k4] 82)).alloc (.cells #[.slice none 0 0,.slice none 0 0,.slice none 0 0,.slice none 0 0,.slice none 0 0] 56)).alloc (.cells #[.slice none 0 0,.slice none 0 0,.slice none 0 0,.slice none 0 0,.slice none 0 0] 56)):=by go_grown
 simp only [World.size_alloc] at C D
 have hS:w.heap.size + 3≤(((w.alloc (.cells #[.slice a0 done.length k0,.slice a1 base.length k1,.slice a2 tent.length k2,.slice a3 undos.length k3,.slice a4 now.length k4] 82)).alloc (.cells #[.slice none 0 0,.slice none 0 0,.slice none 0 0,.slice none 0 0,.slice none 0 0] 56)).alloc (.cells #[.slice none 0 0,.slice none 0 0,.slice none 0 0,.slice none 0 0,.slice none 0 0] 56)).heap.size:=by simp only [World.size_alloc];omega
 go_enter Tryz.func79,Tryz.ntmps79
 go_wp2_with fail
 generalize ((w.alloc (.cells #[.slice a0 done.length k0,.slice a1 base.length k1,.slice a2 tent.length k2,.slice a3 undos.length k3,.slice a4 now.length k4] 82)).alloc (.cells #[.slice none 0 0,.slice none 0 0,.slice none 0 0,.slice none 0 0,.slice none 0 0] 56)).alloc (.cells #[.slice none 0 0,.slice none 0 0,.slice none 0 0,.slice none 0 0,.slice none 0 0] 56)=W at *
 refine (ht0 W (h_0.below hB)).mono ?_
 rintro e y0 ⟨v0,q0,rfl,E0,O0,N0,G0,hb⟩
 replace B:=B.below hb
 replace C:=C.below hb
 replace D:=D.below hb
 replace hB:=hB.trans (hb.mono hB.size)
 have s0:=hb.size
 obtain ⟨x0,z0,rfl⟩:=O0.shape
 clear hb ht0
 have p1:=B.cell 1 _ rfl
 have d0:=D.cell 0 _ rfl
 have f0:=D.frozen 0
 go_wp2_with fail
 clear p1 d0 f0
 have U0:=(Out.refl [w.heap.size + 1,w.heap.size + 1 + 1] y0).set (b:=w.heap.size + 1 + 1) (j:=0) (u:=.slice x0 q0.length z0) (by simp)
 replace D:=D.set 0 (.slice x0 q0.length z0)
 replace B:=B.other (b' := w.heap.size + 1 + 1) (by omega) 0 (.slice x0 q0.length z0)
 replace C:=C.other (b' := w.heap.size + 1 + 1) (by omega) 0 (.slice x0 q0.length z0)
 replace hB:=hB.setCell (p:=⟨w.heap.size + 1 + 1,0,none⟩) (by show w.heap.size≤w.heap.size + 1 + 1;omega) (.slice x0 q0.length z0)
 simp only [pjE] at D
 have t0:=U0.size
 generalize y0.setCell ⟨w.heap.size + 1 + 1,0,none⟩ (.slice x0 q0.length z0)=V0 at *
 refine (ht1 V0 (h_1.below hB)).mono ?_
 rintro e y1 ⟨v1,rfl,O1,N1,G1,hb⟩
 replace U0:=U0.call hb
 replace B:=B.below hb
 replace C:=C.below hb
 replace D:=D.below hb
 replace hB:=hB.trans (hb.mono hB.size)
 have s1:=hb.size
 obtain ⟨x1,z1,rfl⟩:=O1.shape
 clear hb ht1
 have p2:=B.cell 2 _ rfl
 have d1:=D.cell 1 _ rfl
 have f1:=D.frozen 1
 go_wp2_with fail
 clear p2 d1 f1
 have U1:=(Out.refl [w.heap.size + 1,w.heap.size + 1 + 1] y1).set (b:=w.heap.size + 1 + 1) (j:=1) (u:=.slice x1 base.length z1) (by simp)
 replace U0:=U0.set (b:=w.heap.size + 1 + 1) (j:=1) (u:=.slice x1 base.length z1) (by simp)
 replace D:=D.set 1 (.slice x1 base.length z1)
 replace B:=B.other (b' := w.heap.size + 1 + 1) (by omega) 1 (.slice x1 base.length z1)
 replace C:=C.other (b' := w.heap.size + 1 + 1) (by omega) 1 (.slice x1 base.length z1)
 replace hB:=hB.setCell (p:=⟨w.heap.size + 1 + 1,1,none⟩) (by show w.heap.size≤w.heap.size + 1 + 1;omega) (.slice x1 base.length z1)
 simp only [pjE] at D
 have t1:=U1.size
 generalize y1.setCell ⟨w.heap.size + 1 + 1,1,none⟩ (.slice x1 base.length z1)=V1 at *
 refine (ht2 V1 (h_2.below hB)).mono ?_
 rintro e y2 ⟨v2,q2,rfl,E2,O2,N2,G2,hb⟩
 replace U0:=U0.call hb
 replace U1:=U1.call hb
 replace B:=B.below hb
 replace C:=C.below hb
 replace D:=D.below hb
 replace hB:=hB.trans (hb.mono hB.size)
 have s2:=hb.size
 obtain ⟨x2,z2,rfl⟩:=O2.shape
 clear hb ht2
 have p3:=B.cell 3 _ rfl
 have d2:=D.cell 2 _ rfl
 have f2:=D.frozen 2
 go_wp2_with fail
 clear p3 d2 f2
 have U2:=(Out.refl [w.heap.size + 1,w.heap.size + 1 + 1] y2).set (b:=w.heap.size + 1 + 1) (j:=2) (u:=.slice x2 q2.length z2) (by simp)
 replace U0:=U0.set (b:=w.heap.size + 1 + 1) (j:=2) (u:=.slice x2 q2.length z2) (by simp)
 replace U1:=U1.set (b:=w.heap.size + 1 + 1) (j:=2) (u:=.slice x2 q2.length z2) (by simp)
 replace D:=D.set 2 (.slice x2 q2.length z2)
 replace B:=B.other (b' := w.heap.size + 1 + 1) (by omega) 2 (.slice x2 q2.length z2)
 replace C:=C.other (b' := w.heap.size + 1 + 1) (by omega) 2 (.slice x2 q2.length z2)
 replace hB:=hB.setCell (p:=⟨w.heap.size + 1 + 1,2,none⟩) (by show w.heap.size≤w.heap.size + 1 + 1;omega) (.slice x2 q2.length z2)
 simp only [pjE] at D
 have t2:=U2.size
 generalize y2.setCell ⟨w.heap.size + 1 + 1,2,none⟩ (.slice x2 q2.length z2)=V2 at *
 refine (ht3 V2 (h_3.below hB)).mono ?_
 rintro e y3 ⟨v3,q3,rfl,E3,O3,N3,G3,hb⟩
 replace U0:=U0.call hb
 replace U1:=U1.call hb
 replace U2:=U2.call hb
 replace B:=B.below hb
 replace C:=C.below hb
 replace D:=D.below hb
 replace hB:=hB.trans (hb.mono hB.size)
 have s3:=hb.size
 obtain ⟨x3,z3,rfl⟩:=O3.shape
 clear hb ht3
 have p4:=B.cell 4 _ rfl
 have d3:=D.cell 3 _ rfl
 have f3:=D.frozen 3
 go_wp2_with fail
 clear p4 d3 f3
 have U3:=(Out.refl [w.heap.size + 1,w.heap.size + 1 + 1] y3).set (b:=w.heap.size + 1 + 1) (j:=3) (u:=.slice x3 q3.length z3) (by simp)
 replace U0:=U0.set (b:=w.heap.size + 1 + 1) (j:=3) (u:=.slice x3 q3.length z3) (by simp)
 replace U1:=U1.set (b:=w.heap.size + 1 + 1) (j:=3) (u:=.slice x3 q3.length z3) (by simp)
 replace U2:=U2.set (b:=w.heap.size + 1 + 1) (j:=3) (u:=.slice x3 q3.length z3) (by simp)
 replace D:=D.set 3 (.slice x3 q3.length z3)
 replace B:=B.other (b' := w.heap.size + 1 + 1) (by omega) 3 (.slice x3 q3.length z3)
 replace C:=C.other (b' := w.heap.size + 1 + 1) (by omega) 3 (.slice x3 q3.length z3)
 replace hB:=hB.setCell (p:=⟨w.heap.size + 1 + 1,3,none⟩) (by show w.heap.size≤w.heap.size + 1 + 1;omega) (.slice x3 q3.length z3)
 simp only [pjE] at D
 have t3:=U3.size
 generalize y3.setCell ⟨w.heap.size + 1 + 1,3,none⟩ (.slice x3 q3.length z3)=V3 at *
 refine (ht4 V3 (h_4.below hB)).mono ?_
 rintro e y4 ⟨v4,rfl,O4,N4,G4,hb⟩
 replace U0:=U0.call hb
 replace U1:=U1.call hb
 replace U2:=U2.call hb
 replace U3:=U3.call hb
 replace B:=B.below hb
 replace C:=C.below hb
 replace D:=D.below hb
 replace hB:=hB.trans (hb.mono hB.size)
 have s4:=hb.size
 obtain ⟨x4,z4,rfl⟩:=O4.shape
 clear hb ht4
 clear B
 have d0:=D.cell 0 _ rfl
 have f0:=D.frozen 0
 have c0:=C.cell 0 _ rfl
 have g0:=C.frozen 0
 have d1:=D.cell 1 _ rfl
 have f1:=D.frozen 1
 have c1:=C.cell 1 _ rfl
 have g1:=C.frozen 1
 have d2:=D.cell 2 _ rfl
 have f2:=D.frozen 2
 have c2:=C.cell 2 _ rfl
 have g2:=C.frozen 2
 have d3:=D.cell 3 _ rfl
 have f3:=D.frozen 3
 have c3:=C.cell 3 _ rfl
 have g3:=C.frozen 3
 have d4:=D.cell 4 _ rfl
 have f4:=D.frozen 4
 have c4:=C.cell 4 _ rfl
 have g4:=C.frozen 4
 have R : Hid (∀ j u j' u' j'' u'' j''' u''' j'''' u'''' j''''' u''''', repK.own ((((((y4.setCell ⟨w.heap.size + 1 + 1, j, none⟩ u).setCell ⟨w.heap.size + 1, j', none⟩ u').setCell ⟨w.heap.size + 1, j'', none⟩ u'').setCell ⟨w.heap.size + 1, j''', none⟩ u''').setCell ⟨w.heap.size + 1, j'''', none⟩ u'''').setCell ⟨w.heap.size + 1, j''''', none⟩ u''''') ⟨.slice x0 q0.length z0, q0, .slice x1 base.length z1, base, .slice x2 q2.length z2, q2, .slice x3 q3.length z3, q3, .slice x4 now.length z4, now⟩ ∧ Below w.heap.size w ((((((y4.setCell ⟨w.heap.size + 1 + 1, j, none⟩ u).setCell ⟨w.heap.size + 1, j', none⟩ u').setCell ⟨w.heap.size + 1, j'', none⟩ u'').setCell ⟨w.heap.size + 1, j''', none⟩ u''').setCell ⟨w.heap.size + 1, j'''', none⟩ u'''').setCell ⟨w.heap.size + 1, j''''', none⟩ u''''')) := by
  intro j u j' u' j'' u'' j''' u''' j'''' u'''' j''''' u'''''
  have X0 := ((((((U0.set (b := w.heap.size + 1 + 1) (j := j) (u := u) (by simp)).set (b := w.heap.size + 1) (j := j') (u := u') (by simp)).set (b := w.heap.size + 1) (j := j'') (u := u'') (by simp)).set (b := w.heap.size + 1) (j := j''') (u := u''') (by simp)).set (b := w.heap.size + 1) (j := j'''') (u := u'''') (by simp)).set (b := w.heap.size + 1) (j := j''''') (u := u''''') (by simp))
  have X1 := ((((((U1.set (b := w.heap.size + 1 + 1) (j := j) (u := u) (by simp)).set (b := w.heap.size + 1) (j := j') (u := u') (by simp)).set (b := w.heap.size + 1) (j := j'') (u := u'') (by simp)).set (b := w.heap.size + 1) (j := j''') (u := u''') (by simp)).set (b := w.heap.size + 1) (j := j'''') (u := u'''') (by simp)).set (b := w.heap.size + 1) (j := j''''') (u := u''''') (by simp))
  have X2 := ((((((U2.set (b := w.heap.size + 1 + 1) (j := j) (u := u) (by simp)).set (b := w.heap.size + 1) (j := j') (u := u') (by simp)).set (b := w.heap.size + 1) (j := j'') (u := u'') (by simp)).set (b := w.heap.size + 1) (j := j''') (u := u''') (by simp)).set (b := w.heap.size + 1) (j := j'''') (u := u'''') (by simp)).set (b := w.heap.size + 1) (j := j''''') (u := u''''') (by simp))
  have X3 := ((((((U3.set (b := w.heap.size + 1 + 1) (j := j) (u := u) (by simp)).set (b := w.heap.size + 1) (j := j') (u := u') (by simp)).set (b := w.heap.size + 1) (j := j'') (u := u'') (by simp)).set (b := w.heap.size + 1) (j := j''') (u := u''') (by simp)).set (b := w.heap.size + 1) (j := j'''') (u := u'''') (by simp)).set (b := w.heap.size + 1) (j := j''''') (u := u''''') (by simp))
  have X4 := (((((((Out.refl [w.heap.size + 1, w.heap.size + 1 + 1] y4).set (b := w.heap.size + 1 + 1) (j := j) (u := u) (by simp)).set (b := w.heap.size + 1) (j := j') (u := u') (by simp)).set (b := w.heap.size + 1) (j := j'') (u := u'') (by simp)).set (b := w.heap.size + 1) (j := j''') (u := u''') (by simp)).set (b := w.heap.size + 1) (j := j'''') (u := u'''') (by simp)).set (b := w.heap.size + 1) (j := j''''') (u := u''''') (by simp))
  refine ⟨⟨O0.out X0 (fun k hk=>?_),O1.out X1 (fun k hk=>?_),O2.out X2 (fun k hk=>?_),O3.out X3 (fun k hk=>?_),O4.out X4 (fun k hk=>?_)⟩,?_⟩
  ·have:=G0 k hk
   simp only [List.mem_cons,List.not_mem_nil,or_false];omega
  ·have:=G1 k hk
   simp only [List.mem_cons,List.not_mem_nil,or_false];omega
  ·have:=G2 k hk
   simp only [List.mem_cons,List.not_mem_nil,or_false];omega
  ·have:=G3 k hk
   simp only [List.mem_cons,List.not_mem_nil,or_false];omega
  ·have:=G4 k hk
   simp only [List.mem_cons,List.not_mem_nil,or_false];omega
  ·exact ((((((hB.setCell (p := ⟨w.heap.size + 1 + 1, j, none⟩) (by show w.heap.size ≤ w.heap.size + 1 + 1; omega) u).setCell (p := ⟨w.heap.size + 1, j', none⟩) (by show w.heap.size ≤ w.heap.size + 1; omega) u').setCell (p := ⟨w.heap.size + 1, j'', none⟩) (by show w.heap.size ≤ w.heap.size + 1; omega) u'').setCell (p := ⟨w.heap.size + 1, j''', none⟩) (by show w.heap.size ≤ w.heap.size + 1; omega) u''').setCell (p := ⟨w.heap.size + 1, j'''', none⟩) (by show w.heap.size ≤ w.heap.size + 1; omega) u'''').setCell (p := ⟨w.heap.size + 1, j''''', none⟩) (by show w.heap.size ≤ w.heap.size + 1; omega) u''''')
 have R1:Hid ((repK.foot ⟨.slice x0 q0.length z0,q0,.slice x1 base.length z1,base,.slice x2 q2.length z2,q2,.slice x3 q3.length z3,q3,.slice x4 now.length z4,now⟩).Nodup∧(∀ k∈repK.foot ⟨.slice x0 q0.length z0,q0,.slice x1 base.length z1,base,.slice x2 q2.length z2,q2,.slice x3 q3.length z3,q3,.slice x4 now.length z4,now⟩,w.heap.size≤k)):=by
  have L0:=O0.lt
  have L1:=O1.lt
  have L2:=O2.lt
  have L3:=O3.lt
  have L4:=O4.lt
  have T0:=U0.size
  have T1:=U1.size
  have T2:=U2.size
  have T3:=U3.size
  refine ⟨?_,?_⟩
  ·show List.Nodup (_ ++ _)
   exact List.nodup_append.2 ⟨N0,List.nodup_append.2 ⟨N1,List.nodup_append.2 ⟨N2,List.nodup_append.2 ⟨N3,N4,apart9 (m:=(V3).heap.size) (fun k hk=>by have:=L3 k hk;omega) (fun k hk=>by have:=G4 k hk;omega)⟩,apart9 (m:=(V2).heap.size) (fun k hk=>by have:=L2 k hk;omega) (fun k hk=>by rcases List.mem_append.1 hk with hk | hk <;> first | (have:=G3 k hk;omega) | (have:=G4 k hk;omega))⟩,apart9 (m:=(V1).heap.size) (fun k hk=>by have:=L1 k hk;omega) (fun k hk=>by rcases List.mem_append.1 hk with hk | hk <;> first | (have:=G2 k hk;omega) | (rcases List.mem_append.1 hk with hk | hk <;> first | (have:=G3 k hk;omega) | (have:=G4 k hk;omega)))⟩,apart9 (m:=(V0).heap.size) (fun k hk=>by have:=L0 k hk;omega) (fun k hk=>by rcases List.mem_append.1 hk with hk | hk <;> first | (have:=G1 k hk;omega) | (rcases List.mem_append.1 hk with hk | hk <;> first | (have:=G2 k hk;omega) | (rcases List.mem_append.1 hk with hk | hk <;> first | (have:=G3 k hk;omega) | (have:=G4 k hk;omega))))⟩
  ·exact (fun k hk=>by rcases List.mem_append.1 hk with hk | hk <;> first | (have:=G0 k hk;omega) | (rcases List.mem_append.1 hk with hk | hk <;> first | (have:=G1 k hk;omega) | (rcases List.mem_append.1 hk with hk | hk <;> first | (have:=G2 k hk;omega) | (rcases List.mem_append.1 hk with hk | hk <;> first | (have:=G3 k hk;omega) | (have:=G4 k hk;omega)))))
 have R2:Hid (RepQ.e ⟨.slice x0 q0.length z0,q0,.slice x1 base.length z1,base,.slice x2 q2.length z2,q2,.slice x3 q3.length z3,q3,.slice x4 now.length z4,now⟩=RepQ.e ⟨.slice a0 done.length k0,done,.slice a1 base.length k1,base,.slice a2 tent.length k2,tent,.slice a3 undos.length k3,undos,.slice a4 now.length k4,now⟩):=show _=_ by simp only [RepQ.e,E0,E2,E3]
 clear O0 N0 G0 O1 N1 G1 O2 N2 G2 O3 N3 G3 O4 N4 G4 U0 U1 U2 U3 E0 E2 E3 hB C D h_0 h_1 h_2 h_3 h_4
 go_wp2
 exact bodyPost_ret (v:=.agg #[.slice x0 q0.length z0,.slice x1 base.length z1,.slice x2 q2.length z2,.slice x3 q3.length z3,.slice x4 now.length z4]) (by simp [results,Tryz.results79,go_sem,c0,c1,c2,c3,c4]) rfl ⟨⟨.slice x0 q0.length z0,q0,.slice x1 base.length z1,base,.slice x2 q2.length z2,q2,.slice x3 q3.length z3,q3,.slice x4 now.length z4,now⟩,rfl,R2.out,(R.out _ _ _ _ _ _ _ _ _ _ _ _).1,R1.out.1,R1.out.2,(R.out _ _ _ _ _ _ _ _ _ _ _ _).2⟩

end Go.Proofs.YtjjoahhnkpjolaaGreatDoor
namespace Go.Proofs.YtjjoahhnkpjolaaGreatDoor
open Go.RowKit
set_option maxRecDepth 100000
/-- The table's cells. -/
def rulL:List Value:=[
 .int .i64 2,.int .i64 0,.int .i64 0,.int .i64 0,.bool true,.bool false,.int .i64 0,
 .int .i64 0,.int .i64 2,.int .i64 1,.int .i64 0,.bool true,.bool false,.int .i64 1,
 .int .i64 1,.int .i64 0,.int .i64 2,.int .i64 0,.bool false,.bool false,.int .i64 0,
 .int .i64 0,.int .i64 1,.int .i64 2,.int .i64 0,.bool false,.bool false,.int .i64 1,
 .int .i64 0,.int .i64 0,.int .i64 2,.int .i64 0,.bool false,.bool true,.int .i64 0]

/-- The variable holds the table. -/
def Rul (w:World):Prop:=∀ i v,rulL[i]? = some v→w.cell? ⟨2,i,none⟩=some v

theorem Rul.below {w w' : World} (h:Rul w) (hb:Below w.heap.size w w'):Rul w' := by
 intro i v hv
 have h1:=h i v hv
 rw [hb.cell (p:=⟨2,i,none⟩) (World.block_lt_of_cell? w ⟨2,i,none⟩ h1)]
 exact h1

/-- A number as a float. -/
abbrev fl (n:Int):Nat:=floatOfInt FloatKind.f64 n

theorem fl_geq4:∀ a∈[(0:Int),1,2,3],∀ b∈[(0:Int),1,2,3],(FloatKind.f64.format.order (fl a) (fl b) == some .gt || FloatKind.f64.format.order (fl a) (fl b) == some .eq)=decide (b≤a):=by decide +kernel

theorem fl_gtr4:∀ a∈[(0:Int),1,2,3],(FloatKind.f64.format.order (fl a) 0 == some .gt)=decide (0 < a):=by decide +kernel

theorem four {a:Int} (h:0≤a∧a≤3):a∈[(0:Int),1,2,3]:=by
 have:a=0∨a=1∨a=2∨a=3:=by omega
 rcases this with rfl | rfl | rfl | rfl <;> simp

theorem fl_geq {a b:Int} (ha:0≤a∧a≤3) (hb:0≤b∧b≤3):(FloatKind.f64.format.order (fl a) (fl b) == some .gt || FloatKind.f64.format.order (fl a) (fl b) == some .eq)=decide (b≤a):=fl_geq4 a (four ha) b (four hb)

theorem fl_gtr {a:Int} (ha:0≤a∧a≤3):(FloatKind.f64.format.order (fl a) 0 == some .gt)=decide (0 < a):=fl_gtr4 a (four ha)

/-- The value of a rule. -/
def rulV (zi oi pr:Int) (d k:Bool) (vl:Int):Value:=.agg #[.int .i64 zi,.int .i64 oi,.int .i64 pr,.int .i64 0,.bool d,.bool k,.int .i64 vl]

set_option maxHeartbeats 2000000 in
theorem fits_any (zi oi pr:Int) (d k:Bool) (vl z o:Int) (w:World) (hzi:0≤zi∧zi≤3) (hoi:0≤oi∧oi≤3) (hz:0≤z∧z≤3) (ho:0≤o∧o≤3) :
  Calls Tryz.prog 272 #[rulV zi oi pr d k vl,.complex .f64 (fl z) (fl o)] w fun e w' => e=.returned (.bool (decide (zi≤z) && decide (oi≤o)))∧Below w.heap.size w w' := by
 have f1:=fl_geq hz hzi
 have f2:=fl_geq ho hoi
 unfold rulV
 generalize fl z=z0 at f1 ⊢
 generalize fl o=o0 at f2 ⊢
 dsimp only [fl] at f1 f2
 by_cases h1:zi≤z
 ·have d1:decide (zi≤z)=true:=decide_eq_true h1
  rw [d1] at f1 ⊢
  generalize decide (oi≤o)=t at f2 ⊢
  clear h1 d1 hzi hoi hz ho
  go_enter Tryz.func272,Tryz.ntmps272
  go_wp2
  go_ret
  exact ⟨by simp [f2],by go_grown⟩
 ·have d1:decide (zi≤z)=false:=decide_eq_false h1
  rw [d1] at f1 ⊢
  clear h1 d1 hzi hoi hz ho f2
  go_enter Tryz.func272,Tryz.ntmps272
  go_wp2
  go_ret
  exact ⟨by simp,by go_grown⟩

end Go.Proofs.YtjjoahhnkpjolaaGreatDoor
namespace Go.Proofs.YtjjoahhnkpjolaaGreatDoor
open Go.RowKit
set_option maxRecDepth 100000
/-- The rules, one by one. -/
def rz (k:Nat):Int:=[2,0,1,0,0].getD k 0

def ro (k:Nat):Int:=[0,2,0,1,0].getD k 0

def rp (k:Nat):Int:=[0,1,2,2,2].getD k 0

def rd (k:Nat):Bool:=[true,true,false,false,false].getD k false

def rc (k:Nat):Bool:=[false,false,false,false,true].getD k false

def rv (k:Nat):Int:=[0,1,0,1,0].getD k 0

def rule (k:Nat):Value:=rulV (rz k) (ro k) (rp k) (rd k) (rc k) (rv k)

def fitB (k:Nat) (z o:Int):Bool:=decide (rz k≤z) && decide (ro k≤o)

/-- Which rule is it? -/
def pick5 (z o:Int):Nat:=if 2≤z then 0 else if 2≤o then 1 else if 1≤z then 2 else if 1≤o then 3 else 4

theorem pick4:∀ z∈[(0:Int),1,2,3],∀ o∈[(0:Int),1,2,3],pick5 z o≤4∧∀ k,k < 5→k≤pick5 z o→(fitB k z o=true→k=pick5 z o)∧(fitB k z o=false→k + 1≤pick5 z o):=by decide +kernel

theorem pick_at {z o:Int} (hz:0≤z∧z≤3) (ho:0≤o∧o≤3):pick5 z o≤4∧∀ k,k < 5→k≤pick5 z o→(fitB k z o=true→k=pick5 z o)∧(fitB k z o=false→k + 1≤pick5 z o):=pick4 z (four hz) o (four ho)

theorem rul_at {w:World} (h:Rul w) (k:Nat) (hk:k < 5):w.cell? ⟨2,k * 7,none⟩=some (.int .i64 (rz k))∧w.cell? ⟨2,k * 7 + 1,none⟩=some (.int .i64 (ro k))∧w.cell? ⟨2,k * 7 + 2,none⟩=some (.int .i64 (rp k))∧w.cell? ⟨2,k * 7 + 3,none⟩=some (.int .i64 0) ∧
  w.cell? ⟨2,k * 7 + 4,none⟩=some (.bool (rd k))∧w.cell? ⟨2,k * 7 + 5,none⟩=some (.bool (rc k))∧w.cell? ⟨2,k * 7 + 6,none⟩=some (.int .i64 (rv k)):=by
 match k,hk with
 | 0,_=>exact ⟨h _ _ rfl,h _ _ rfl,h _ _ rfl,h _ _ rfl,h _ _ rfl,h _ _ rfl,h _ _ rfl⟩
 | 1,_=>exact ⟨h _ _ rfl,h _ _ rfl,h _ _ rfl,h _ _ rfl,h _ _ rfl,h _ _ rfl,h _ _ rfl⟩
 | 2,_=>exact ⟨h _ _ rfl,h _ _ rfl,h _ _ rfl,h _ _ rfl,h _ _ rfl,h _ _ rfl,h _ _ rfl⟩
 | 3,_=>exact ⟨h _ _ rfl,h _ _ rfl,h _ _ rfl,h _ _ rfl,h _ _ rfl,h _ _ rfl,h _ _ rfl⟩
 | 4,_=>exact ⟨h _ _ rfl,h _ _ rfl,h _ _ rfl,h _ _ rfl,h _ _ rfl,h _ _ rfl,h _ _ rfl⟩

theorem r_in (k:Nat) (hk:k < 5):(0≤rz k∧rz k≤3)∧(0≤ro k∧ro k≤3):=by
 match k,hk with
 | 0,_=>decide
 | 1,_=>decide
 | 2,_=>decide
 | 3,_=>decide
 | 4,_=>decide

set_option maxHeartbeats 400000 in
theorem ruleFor_any (z o:Int) (w:World) (hG:Rul w) (hz:0≤z∧z≤3) (ho:0≤o∧o≤3) :
  Calls Tryz.prog 256 #[.complex .f64 (fl z) (fl o)] w fun e w' => e=.returned (rule (pick5 z o))∧Below w.heap.size w w' := by
 obtain ⟨hp,hpk⟩:=pick_at hz ho
 generalize hE:pick5 z o=E at hp hpk ⊢
 clear hE
 have hfit:=fun k (hk:k < 5) w=>fits_any (rz k) (ro k) (rp k) (rd k) (rc k) (rv k) z o w (r_in k hk).1 (r_in k hk).2 hz ho
 generalize fl z=z0 at hfit ⊢
 generalize fl o=o0 at hfit ⊢
 go_enter Tryz.func256,Tryz.ntmps256
 go_wp2
 have Bx:=Blk.new w 351 #[.int .i64 0,.int .i64 0,.int .i64 0,.int .i64 0,.bool false,.bool false,.int .i64 0]
 have hB:Below w.heap.size w (w.alloc (.cells #[.int .i64 0,.int .i64 0,.int .i64 0,.int .i64 0,.bool false,.bool false,.int .i64 0] 351)):=by go_grown
 generalize w.alloc (.cells #[.int .i64 0,.int .i64 0,.int .i64 0,.int .i64 0,.bool false,.bool false,.int .i64 0] 351)=W at *
 go_loopw [3] (fun i wr=>∃ k:Nat,k < 5∧k≤E∧i=.int .i64 k∧Below W.heap.size W wr) (fun i _=>5 - (intOf i).toNat)
 case atStart=>exact ⟨0,by omega,Nat.zero_le _,rfl,Below.refl _ _⟩
 case round=>
  obtain ⟨k,hk,hkE,rfl,hb⟩:=hrel
  replace hB:=hB.trans (hb.mono hB.size)
  replace Bx:=Bx.below hb
  obtain ⟨c0,c1,c2,c3,c4,c5,c6⟩:=rul_at (hG.below hB) k hk
  obtain ⟨hy,hn⟩:=hpk k hk hkE
  have HY:Hid (fitB k z o=true→k=E):=hy
  have HN:Hid (fitB k z o=false→k + 1≤E):=hn
  have hf:=hfit k hk wr
  rw [show (decide (rz k≤z) && decide (ro k≤o))=fitB k z o from rfl] at hf
  clear hfit hpk hy hn
  unfold rulV at hf
  have HV:Hid (rule k=.agg #[.int .i64 (rz k),.int .i64 (ro k),.int .i64 (rp k),.int .i64 0,.bool (rd k),.bool (rc k),.int .i64 (rv k)]):=rfl
  generalize rz k=a0 at *
  generalize ro k=a1 at *
  generalize rp k=a2 at *
  generalize rd k=a4 at *
  generalize rc k=a5 at *
  generalize rv k=a6 at *
  go_wp2_with fail
  refine hf.mono ?_
  rintro e w2 ⟨rfl,hb2⟩
  have hz2:=World.block_lt_of_cell? wr ⟨2,k * 7,none⟩ c0
  dsimp only at hz2
  replace c0:=(hb2.cell (p:=⟨2,k * 7,none⟩) hz2).trans c0
  replace c1:=(hb2.cell (p:=⟨2,k * 7 + 1,none⟩) hz2).trans c1
  replace c2:=(hb2.cell (p:=⟨2,k * 7 + 2,none⟩) hz2).trans c2
  replace c3:=(hb2.cell (p:=⟨2,k * 7 + 3,none⟩) hz2).trans c3
  replace c4:=(hb2.cell (p:=⟨2,k * 7 + 4,none⟩) hz2).trans c4
  replace c5:=(hb2.cell (p:=⟨2,k * 7 + 5,none⟩) hz2).trans c5
  replace c6:=(hb2.cell (p:=⟨2,k * 7 + 6,none⟩) hz2).trans c6
  replace Bx:=Bx.below hb2
  replace hB:=hB.trans (hb2.mono hB.size)
  replace hb:=hb.trans (hb2.mono hb.size)
  clear hf hb2 hz2
  by_cases hfb:fitB k z o=true
  ·have hkE2:=HY.out hfb
   clear HY HN
   rw [hfb]
   obtain ⟨p0,p1,p2,p3,p4,p5,p6⟩:=Bx.cel7
   obtain ⟨f0,f1,f2,f3,f4,f5,f6⟩:=Bx.frz7
   have hV:Hid (rule E=.agg #[.int .i64 a0,.int .i64 a1,.int .i64 a2,.int .i64 0,.bool a4,.bool a5,.int .i64 a6]):=by rw [← hkE2];exact HV.out
   have hB7:=((((((hB.setCell (p:=⟨w.heap.size,0,none⟩) (Nat.le_refl _) (.int .i64 a0)).setCell (p:=⟨w.heap.size,1,none⟩) (Nat.le_refl _) (.int .i64 a1)).setCell (p:=⟨w.heap.size,2,none⟩) (Nat.le_refl _) (.int .i64 a2)).setCell (p:=⟨w.heap.size,3,none⟩) (Nat.le_refl _) (.int .i64 0)).setCell (p:=⟨w.heap.size,4,none⟩) (Nat.le_refl _) (.bool a4)).setCell (p:=⟨w.heap.size,5,none⟩) (Nat.le_refl _) (.bool a5)).setCell (p:=⟨w.heap.size,6,none⟩) (Nat.le_refl _) (.int .i64 a6)
   have HB:Hid (Below w.heap.size w _):=hB7
   clear Bx hB hb hB7 hkE2 HV
   go_wp2
   exact bodyPost_ret (v:=.agg #[.int .i64 a0,.int .i64 a1,.int .i64 a2,.int .i64 0,.bool a4,.bool a5,.int .i64 a6]) (by simp [results,Tryz.results256,go_sem,p0,p1,p2,p3,p4,p5,p6]) rfl ⟨by rw [hV.out],HB.out⟩
  ·have hfb' : fitB k z o=false:=by simpa using hfb
   have hkE2:=HN.out hfb'
   clear HY HN hfb
   rw [hfb']
   clear c0 c1 c2 c3 c4 c5 c6 Bx hB
   go_wp2
   go_roundw
   case rel=>exact ⟨k + 1,by omega,hkE2,by go_num,hb⟩
   case measure=>simp [intOf];omega

end Go.Proofs.YtjjoahhnkpjolaaGreatDoor
namespace Go.Proofs.YtjjoahhnkpjolaaGreatDoor
open Go.RowKit
set_option maxRecDepth 100000
/-- Was a quorum heard? -/
def heard (zs:List Int) (m:Int):Bool:=isQ m && (cnt m zs 3 == 0)

theorem isQ_in {m:Int} (h:isQ m=true):inB m 0 7=true:=by
 unfold isQ at h
 rw [Bool.and_eq_true] at h
 exact h.1

theorem heard_in {zs:List Int} {m:Int} (h:heard zs m=true):inB m 0 7=true:=by
 unfold heard at h
 rw [Bool.and_eq_true] at h
 exact isQ_in h.1

theorem vfa2 (zs:List Int):vfault zs 2=vf zs 2:=by simp [vfault,inB]

theorem vfa1 (zs:List Int):vfault zs 1=vf zs 1:=by simp [vfault,inB]

set_option maxHeartbeats 1000000 in
theorem isHeard_any (a:Option Addr) (cap:Nat) (zs:List Int) (m:Int) (w:World) (h:Row .i64 w a zs) (hl:zs.length=3) :
  Calls Tryz.prog 255 #[.slice a 3 cap,.int .i64 m] w fun e w' => e=.returned (.bool (heard zs m))∧w' = w:=by
 have hq:=isQuorum_any m w
 have hvo:=votersOf_any a cap zs 3 w h hl
 unfold heard
 by_cases h1:isQ m=true
 ·obtain ⟨q1,q2,q3⟩:=and_vot (isQ_in h1) zs 3
  rw [h1] at hq ⊢
  rw [← q3]
  clear q1 q2 q3 h1
  generalize vot zs 3=u at *
  go_enter Tryz.func255,Tryz.ntmps255
  go_wp2_with (first | (go_at_call 271;refine hq.mono ?_;rintro e w' ⟨rfl,rfl⟩) | (go_at_call 209;refine hvo.mono ?_;rintro e w' ⟨rfl,rfl⟩))
  go_ret
  exact ⟨by simp,rfl⟩
 ·have h1' : isQ m=false:=by simpa using h1
  rw [h1'] at hq ⊢
  clear h1 h1'
  go_enter Tryz.func255,Tryz.ntmps255
  go_wp2_with (go_at_call 271;refine hq.mono ?_;rintro e w' ⟨rfl,rfl⟩)
  go_ret
  exact ⟨by simp,rfl⟩

set_option maxHeartbeats 1000000 in
theorem countsOf_any (a:Option Addr) (cap:Nat) (zs:List Int) (m:Int) (w:World) (h:Row .i64 w a zs) (hl:zs.length=3) (hm:inB m 0 7=true) :
  Calls Tryz.prog 254 #[.slice a 3 cap,.int .i64 m] w fun e w' => e=.returned (.complex .f64 (fl (cnt m zs 0)) (fl (cnt m zs 1)))∧w' = w:=by
 obtain ⟨q1,q2,_⟩:=and_vot hm zs 0
 obtain ⟨r1,r2,_⟩:=and_vot hm zs 1
 have hn0:=nodesIn_any _ w q1
 have hn1:=nodesIn_any _ w r1
 rw [q2] at hn0
 rw [r2] at hn1
 have hv0:=votersOf_any a cap zs 0 w h hl
 have hv1:=votersOf_any a cap zs 1 w h hl
 clear q1 q2 r1 r2
 generalize vot zs 0=u0 at *
 generalize vot zs 1=u1 at *
 generalize cnt m zs 0=c0 at *
 generalize cnt m zs 1=c1 at *
 go_enter Tryz.func254,Tryz.ntmps254
 go_wp2_with fail
 refine hv0.mono ?_
 rintro e w' ⟨rfl,hw⟩
 replace hw:=hw.symm
 subst hw
 go_wp2_with fail
 refine hn0.mono ?_
 rintro e w' ⟨rfl,hw⟩
 replace hw:=hw.symm
 subst hw
 go_wp2_with fail
 refine hv1.mono ?_
 rintro e w' ⟨rfl,hw⟩
 replace hw:=hw.symm
 subst hw
 go_wp2_with fail
 refine hn1.mono ?_
 rintro e w' ⟨rfl,hw⟩
 replace hw:=hw.symm
 subst hw
 go_wp2
 go_ret
 exact ⟨rfl,rfl⟩

end Go.Proofs.YtjjoahhnkpjolaaGreatDoor
namespace Go.Proofs.YtjjoahhnkpjolaaGreatDoor
open Go.RowKit
set_option maxRecDepth 100000
def pr2 (z o:Int):Int:=if 2≤z then 0 else if 2≤o then 1 else 2

def pfC (zs:List Int) (m:Int):Int:=if vf zs 1=0 then (if heard zs m then 0 else 10) else vf zs 1

def pfV (zs:List Int) (m:Int):Int:=if pfC zs m=0 then pr2 (cnt m zs 0) (cnt m zs 1) else 0

theorem rp_pr4:∀ z∈[(0:Int),1,2,3],∀ o∈[(0:Int),1,2,3],rp (pick5 z o)=pr2 z o:=by decide +kernel

theorem fieldR2 (a0 a1 a2 a3:Int) (a4 a5:Bool) (a6:Int) (w:World):(Instr.field 351 (.agg #[.int .i64 a0,.int .i64 a1,.int .i64 a2,.int .i64 a3,.bool a4,.bool a5,.int .i64 a6]) 2).run Tryz.prog w=.ok (.int .i64 a2) w:=by kernel_rfl

theorem fieldR3 (a0 a1 a2 a3:Int) (a4 a5:Bool) (a6:Int) (w:World):(Instr.field 351 (.agg #[.int .i64 a0,.int .i64 a1,.int .i64 a2,.int .i64 a3,.bool a4,.bool a5,.int .i64 a6]) 3).run Tryz.prog w=.ok (.agg #[.int .i64 a3,.bool a4,.bool a5,.int .i64 a6]) w:=by kernel_rfl

set_option maxHeartbeats 1000000 in
theorem implProp_any (a:Option Addr) (cap:Nat) (zs:List Int) (m:Int) (w:World) (hG:Rul w) (h:Row .i64 w a zs) (hm:zs.length≤9223372036854775807) :
  Calls Tryz.prog 232 #[.slice a zs.length cap,.int .i64 m] w fun e w' => e=.returned (.agg #[.int .i64 (pfC zs m),.int .i64 (pfV zs m)])∧Below w.heap.size w w' := by
 have hB:Below w.heap.size w (w.alloc (.cells #[.int .i64 0,.int .i64 0] 42)):=by go_grown
 have hv:=fun w h=>votesFault_any a cap zs 1 w h hm
 rw [vfa1] at hv
 by_cases h0:vf zs 1=0
 ·have hl:=vf_len h0
  rw [h0] at hv
  rw [hl] at hv ⊢
  have hh:=isHeard_any a cap zs m _ (h.below hB) hl
  by_cases h1:heard zs m=true
  ·have e1:pfC zs m=0:=by simp [pfC,h0,h1]
   have e2:pfV zs m=pr2 (cnt m zs 0) (cnt m zs 1):=by simp [pfV,e1]
   have e3:=rp_pr4 _ (four (cnt_in m zs 0)) _ (four (cnt_in m zs 1))
   have hc:=countsOf_any a cap zs m _ (h.below hB) hl (heard_in h1)
   have hr:=ruleFor_any _ _ _ (hG.below hB) (cnt_in m zs 0) (cnt_in m zs 1)
   rw [e1,e2,← e3]
   rw [h1] at hh
   clear e1 e2 e3 h0 hl h1
   unfold rule rulV at hr
   generalize pick5 (cnt m zs 0) (cnt m zs 1)=E at *
   generalize fl (cnt m zs 0)=z0 at *
   generalize fl (cnt m zs 1)=o0 at *
   generalize rz E=a0 at *
   generalize ro E=a1 at *
   generalize rp E=a2 at *
   generalize rd E=a4 at *
   generalize rc E=a5 at *
   generalize rv E=a6 at *
   have Bx:=Blk.new w 42 #[.int .i64 0,.int .i64 0]
   have hv1:=hv _ (h.below hB)
   clear hv
   go_enter Tryz.func232,Tryz.ntmps232
   go_wp2_with fail
   generalize w.alloc (.cells #[.int .i64 0,.int .i64 0] 42)=W at *
   refine hv1.mono ?_
   rintro e w' ⟨rfl,hw⟩
   replace hw:=hw.symm
   subst hw
   go_wp2_with fail
   refine hh.mono ?_
   rintro e w' ⟨rfl,hw⟩
   replace hw:=hw.symm
   subst hw
   go_wp2_with fail
   refine hc.mono ?_
   rintro e w' ⟨rfl,hw⟩
   replace hw:=hw.symm
   subst hw
   go_wp2_with fail
   refine hr.mono ?_
   rintro e w' ⟨rfl,hb⟩
   replace Bx:=Bx.below hb
   replace hB:=hB.trans (hb.mono hB.size)
   obtain ⟨p0,p1⟩:=Bx.cel2
   obtain ⟨f0,f1⟩:=Bx.frz2
   have hfl:=fieldR2 a0 a1 a2 0 a4 a5 a6 w'
   clear hb hv1 hh hc hr Bx
   go_wp2
   exact bodyPost_ret (v:=.agg #[.int .i64 0,.int .i64 a2]) (by simp [results,Tryz.results232,go_sem,p0,p1]) rfl ⟨rfl,(hB.setCell (p:=⟨w.heap.size,0,none⟩) (Nat.le_refl _) _).setCell (p:=⟨w.heap.size,1,none⟩) (Nat.le_refl _) _⟩
  ·have h1' : heard zs m=false:=by simpa using h1
   have e1:pfC zs m=10:=by simp [pfC,h0,h1']
   have e2:pfV zs m=0:=by simp [pfV,e1]
   rw [e1,e2]
   rw [h1'] at hh
   clear e1 e2 h0 hl h1
   go_enter Tryz.func232,Tryz.ntmps232
   go_wp2_with (first | (go_at_call 168;refine (hv _ (h.below (by go_grown))).mono ?_;rintro e w' ⟨rfl,rfl⟩) | (go_at_call 255;refine hh.mono ?_;rintro e w' ⟨rfl,rfl⟩))
   exact bodyPost_ret (v:=.agg #[.int .i64 10,.int .i64 0]) (by simp [results,Tryz.results232,go_sem]) rfl ⟨rfl,by go_grown⟩
 ·have e1:pfC zs m=vf zs 1:=by simp [pfC,h0]
  have e2:pfV zs m=0:=by simp [pfV,e1,h0]
  rw [e1,e2]
  clear e1 e2
  have h0' : (vf zs 1 != 0)=true:=by simpa using h0
  clear h0
  generalize vf zs 1=c at *
  go_enter Tryz.func232,Tryz.ntmps232
  go_wp2_with (go_at_call 168;refine (hv _ (h.below (by go_grown))).mono ?_;rintro e w' ⟨rfl,rfl⟩)
  exact bodyPost_ret (v:=.agg #[.int .i64 c,.int .i64 0]) (by simp [results,Tryz.results232,go_sem]) rfl ⟨rfl,by go_grown⟩

set_option maxHeartbeats 1000000 in
theorem l5Heard_any (a:Option Addr) (cap:Nat) (zs:List Int) (m:Int) (w:World) (h:Row .i64 w a zs) (hl:zs.length=3) :
  Calls Tryz.prog 221 #[.slice a 3 cap,.int .i64 m] w fun e w' => e=.returned (.bool (heard zs m))∧Below w.heap.size w w' := by
 have hq:=l5Quorum_any m w
 unfold heard
 by_cases h1:isQ m=true
 ·have hvo:=fun w h=>l5Count_any a cap zs m 3 w h hl (isQ_in h1)
  rw [h1] at hq ⊢
  clear h1
  generalize cnt m zs 3=u at *
  go_enter Tryz.func221,Tryz.ntmps221
  go_wp2_with fail
  refine hq.mono ?_
  rintro e w1 ⟨rfl,b1⟩
  have hv1:=hvo w1 (h.below b1)
  clear hvo hq
  go_wp2_with fail
  refine hv1.mono ?_
  rintro e w2 ⟨rfl,b2⟩
  replace b2:=b1.trans (b2.mono b1.size)
  clear hv1
  go_wp2
  go_ret
  exact ⟨by simp,b2⟩
 ·have h1' : isQ m=false:=by simpa using h1
  rw [h1'] at hq ⊢
  clear h1 h1'
  go_enter Tryz.func221,Tryz.ntmps221
  go_wp2_with (go_at_call 239;refine hq.mono ?_;rintro e w' ⟨rfl,b1⟩)
  go_ret
  exact ⟨by simp,b1⟩

set_option maxHeartbeats 1000000 in
theorem l5Proposal_any (a:Option Addr) (cap:Nat) (zs:List Int) (m:Int) (w:World) (h:Row .i64 w a zs) (hl:zs.length=3) (hm:inB m 0 7=true) :
  Calls Tryz.prog 222 #[.slice a 3 cap,.int .i64 m] w fun e w' => e=.returned (.int .i64 (pr2 (cnt m zs 0) (cnt m zs 1)))∧Below w.heap.size w w' := by
 have hc0:=fun w h=>l5Count_any a cap zs m 0 w h hl hm
 have hc1:=fun w h=>l5Count_any a cap zs m 1 w h hl hm
 generalize cnt m zs 0=z at *
 generalize cnt m zs 1=o at *
 generalize hE:pr2 z o=E
 unfold pr2 at hE
 have h0:=hc0 w h
 clear hc0
 by_cases hz:2≤z
 ·rw [if_pos hz] at hE
  have HE:Hid (E=0):=hE.symm
  clear hc1 hE
  go_enter Tryz.func222,Tryz.ntmps222
  go_wp2
  refine wp_loop_rounds 1 ?_
  rw [rounds_succ]
  go_wp2_with fail
  refine h0.mono ?_
  rintro e w1 ⟨rfl,b1⟩
  clear h0
  go_wp2
  go_ret
  exact ⟨by rw [HE.out];rfl,b1⟩
 ·rw [if_neg hz] at hE
  have HE:Hid (E=if 2≤o then 1 else 2):=hE.symm
  clear hE
  go_enter Tryz.func222,Tryz.ntmps222
  go_wp2
  refine wp_loop_rounds 3 ?_
  rw [rounds_succ]
  go_wp2_with fail
  refine h0.mono ?_
  rintro e w1 ⟨rfl,b1⟩
  have h1:=hc1 w1 (h.below b1)
  clear h0 hc1
  by_cases ho:2≤o
  ·have HE2:Hid (E=1):=HE.out.trans (if_pos ho)
   clear HE
   go_wp2_with fail
   rw [rounds_succ]
   go_wp2_with fail
   refine h1.mono ?_
   rintro e w2 ⟨rfl,b2⟩
   replace b2:=b1.trans (b2.mono b1.size)
   clear h1
   go_wp2
   go_ret
   exact ⟨by rw [HE2.out];rfl,b2⟩
  ·have HE2:Hid (E=2):=HE.out.trans (if_neg ho)
   clear HE
   go_wp2_with fail
   rw [rounds_succ]
   go_wp2_with fail
   refine h1.mono ?_
   rintro e w2 ⟨rfl,b2⟩
   replace b2:=b1.trans (b2.mono b1.size)
   clear h1
   go_wp2
   rw [rounds_succ]
   go_wp2
   go_ret
   exact ⟨by rw [HE2.out];rfl,b2⟩

end Go.Proofs.YtjjoahhnkpjolaaGreatDoor
namespace Go.Proofs.YtjjoahhnkpjolaaGreatDoor
open Go.RowKit
set_option maxRecDepth 100000
set_option maxHeartbeats 1000000 in
theorem specProp_any (a:Option Addr) (cap:Nat) (zs:List Int) (m:Int) (w:World) (h:Row .i64 w a zs) (hm:zs.length≤9223372036854775807) :
  Calls Tryz.prog 193 #[.slice a zs.length cap,.int .i64 m] w fun e w' => e=.returned (.agg #[.int .i64 (pfC zs m),.int .i64 (pfV zs m)])∧Below w.heap.size w w' := by
 obtain ⟨C,hC⟩:∃ C,pfC zs m=C:=⟨_,rfl⟩
 obtain ⟨V,hV⟩:∃ V,pfV zs m=V:=⟨_,rfl⟩
 have HC:Hid (pfC zs m=C∧pfV zs m=V):=And.intro hC hV
 rw [hC,hV]
 clear hC hV
 have hB:Below w.heap.size w (w.alloc (.cells #[.int .i64 0,.int .i64 0] 42)):=by go_grown
 have Bx:=Blk.new w 42 #[.int .i64 0,.int .i64 0]
 have hv:=l5Votes_any a cap zs 1 _ (h.below hB) hm
 go_enter Tryz.func193,Tryz.ntmps193
 go_wp2_with fail
 generalize w.alloc (.cells #[.int .i64 0,.int .i64 0] 42)=W at *
 refine hv.mono ?_
 rintro e w1 ⟨rfl,hb⟩
 replace Bx:=Bx.below hb
 replace hB:=hB.trans (hb.mono hB.size)
 clear hv hb
 by_cases h0:vf zs 1=0
 ·have hl:=vf_len h0
  have hh:=l5Heard_any a cap zs m w1 (h.below hB) hl
  rw [h0,hl]
  by_cases h1:heard zs m=true
  ·have HE:Hid (C=0∧V=pr2 (cnt m zs 0) (cnt m zs 1)):=by
    obtain ⟨e1,e2⟩:=HC.out
    have e3:pfC zs m=0:=by simp [pfC,h0,h1]
    exact ⟨e1.symm.trans e3,e2.symm.trans (by simp [pfV,e3])⟩
   have hp:=fun w h=>l5Proposal_any a cap zs m w h hl (heard_in h1)
   rw [h1] at hh
   clear h0 hl h1 HC
   generalize pr2 (cnt m zs 0) (cnt m zs 1)=P at *
   go_wp2_with fail
   refine hh.mono ?_
   rintro e w2 ⟨rfl,hb⟩
   replace Bx:=Bx.below hb
   replace hB:=hB.trans (hb.mono hB.size)
   have hp2:=hp w2 (h.below hB)
   clear hh hb hp
   go_wp2_with fail
   refine hp2.mono ?_
   rintro e w3 ⟨rfl,hb⟩
   replace Bx:=Bx.below hb
   replace hB:=hB.trans (hb.mono hB.size)
   obtain ⟨p0,p1⟩:=Bx.cel2
   obtain ⟨f0,f1⟩:=Bx.frz2
   clear hp2 hb Bx
   go_wp2
   exact bodyPost_ret (v:=.agg #[.int .i64 0,.int .i64 P]) (by simp [results,Tryz.results193,go_sem,p0,p1]) rfl ⟨by rw [HE.out.1,HE.out.2],(hB.setCell (p:=⟨w.heap.size,0,none⟩) (Nat.le_refl _) _).setCell (p:=⟨w.heap.size,1,none⟩) (Nat.le_refl _) _⟩
  ·have h1' : heard zs m=false:=by simpa using h1
   have HE:Hid (C=10∧V=0):=by
    obtain ⟨e1,e2⟩:=HC.out
    have e3:pfC zs m=10:=by simp [pfC,h0,h1']
    exact ⟨e1.symm.trans e3,e2.symm.trans (by simp [pfV,e3])⟩
   rw [h1'] at hh
   clear h0 hl h1 HC
   go_wp2_with fail
   refine hh.mono ?_
   rintro e w2 ⟨rfl,hb⟩
   replace Bx:=Bx.below hb
   replace hB:=hB.trans (hb.mono hB.size)
   obtain ⟨p0,p1⟩:=Bx.cel2
   obtain ⟨f0,f1⟩:=Bx.frz2
   clear hh hb Bx
   go_wp2
   exact bodyPost_ret (v:=.agg #[.int .i64 10,.int .i64 0]) (by simp [results,Tryz.results193,go_sem,p0,p1]) rfl ⟨by rw [HE.out.1,HE.out.2],(hB.setCell (p:=⟨w.heap.size,0,none⟩) (Nat.le_refl _) _).setCell (p:=⟨w.heap.size,1,none⟩) (Nat.le_refl _) _⟩
 ·have HE:Hid (C=vf zs 1∧V=0):=by
   obtain ⟨e1,e2⟩:=HC.out
   have e3:pfC zs m=vf zs 1:=by simp [pfC,h0]
   exact ⟨e1.symm.trans e3,e2.symm.trans (by simp [pfV,e3,h0])⟩
  have h0' : (vf zs 1 != 0)=true:=by simpa using h0
  clear h0 HC
  generalize vf zs 1=c at *
  obtain ⟨p0,p1⟩:=Bx.cel2
  obtain ⟨f0,f1⟩:=Bx.frz2
  clear Bx
  go_wp2
  exact bodyPost_ret (v:=.agg #[.int .i64 c,.int .i64 0]) (by simp [results,Tryz.results193,go_sem,p0,p1]) rfl ⟨by rw [HE.out.1,HE.out.2],(hB.setCell (p:=⟨w.heap.size,0,none⟩) (Nat.le_refl _) _).setCell (p:=⟨w.heap.size,1,none⟩) (Nat.le_refl _) _⟩

end Go.Proofs.YtjjoahhnkpjolaaGreatDoor
