/- Texts joined, with what the laws reach alone. -/
import Derived.Test.YtfdkcbafpiojkaaGreatDoorSGAZ
set_option linter.unusedVariables false
set_option linter.unusedSimpArgs false
namespace Go.Proofs.YtfdkcbafpiojkaaGreatDoor
open Go.RowKit Go.Maps
open Go.BigFrame
set_option maxRecDepth 100000
theorem rep_mem {q:RepQ} {k:Nat}:k∈repK.foot q↔k∈txnK.fp q.vd q.done∨k∈itemK.fp q.vb q.base∨k∈txnK.fp q.vt q.tent∨k∈ussK.fp q.vu q.undos∨k∈itemK.fp q.vn q.now:=by
 show k∈txnK.fp q.vd q.done ++ (itemK.fp q.vb q.base ++ (txnK.fp q.vt q.tent ++ (ussK.fp q.vu q.undos ++ itemK.fp q.vn q.now)))↔_
 simp only [List.mem_append]

theorem nd5 {A B C D E:List Nat} (h:(A ++ (B ++ (C ++ (D ++ E)))).Nodup):(C.Nodup∧(∀ k∈A,k ∉ C)∧(∀ k∈B,k ∉ C)∧(∀ k∈D,k ∉ C)∧(∀ k∈E,k ∉ C))∧(D.Nodup∧(∀ k∈A,k ∉ D)∧(∀ k∈B,k ∉ D)∧(∀ k∈C,k ∉ D)∧(∀ k∈E,k ∉ D)):=by
 obtain ⟨_,h1,a1⟩:=List.nodup_append.1 h
 obtain ⟨_,h2,a2⟩:=List.nodup_append.1 h1
 obtain ⟨hC,h3,a3⟩:=List.nodup_append.1 h2
 obtain ⟨hD,_,a4⟩:=List.nodup_append.1 h3
 refine ⟨⟨hC,fun k hk hk' => a1 k hk k ?_ rfl,fun k hk hk' => a2 k hk k ?_ rfl,fun k hk hk' => a3 k hk' k ?_ rfl,fun k hk hk' => a3 k hk' k ?_ rfl⟩,hD,fun k hk hk' => a1 k hk k ?_ rfl,fun k hk hk' => a2 k hk k ?_ rfl,fun k hk hk' => a3 k hk k ?_ rfl,fun k hk hk' => a4 k hk' k hk rfl⟩ <;> simp only [List.mem_append] <;> simp [hk,hk']

theorem zero_own (w:World):txnK.own w (⟨0,0,0,.slice none 0 0,[]⟩:TxnQ):=(Kind.own_nil (K:=actK) w).1

theorem uss_own {w:World} {v:Value} {us:List UndoD} (h:undoK.Own w v us):ussK.own w (⟨v,us⟩:USQ):=h

theorem fp_snoc {P:Type} {K:Kind P} {v v' : Value} {ps:List P} {p:P} {N:Nat} (hat:v'.ownBlock=v.ownBlock∨v'.ownBlock=some N) {k:Nat} (hk:k∈K.fp v' (ps ++ [p])):k∈K.fp v ps∨k∈K.foot p∨k=N:=by
 simp only [Kind.fp,List.mem_append,List.flatMap_append,List.flatMap_cons,List.flatMap_nil,List.append_nil] at hk ⊢
 rcases hk with hk | hk | hk
 ·unfold blk at hk ⊢
  rcases hat with h | h
  ·rw [h] at hk;exact Or.inl (Or.inl hk)
  ·rw [h] at hk
   simp only [Option.toList,List.mem_singleton] at hk
   exact Or.inr (Or.inr hk)
 ·exact Or.inl (Or.inr hk)
 ·exact Or.inr (Or.inl hk)

set_option maxRecDepth 100000 in
set_option maxHeartbeats 8000000 in
theorem l9Bent_any (B b T:Nat) (w:World) (hS:Src B w b T) (hT:T≤700000) :
  Calls Tryz.prog 76 #[.pointer (some ⟨b,0,none⟩)] w fun e w' => ∃ q:RepQ,e=.returned (.agg #[q.vd,q.vb,q.vt,q.vu,q.vn])∧q.n≤3000∧repK.own w' q∧(∀ k∈repK.foot q,w.heap.size≤k)∧Src B w' b (T + 400)∧w.grownBy w' (some b):=by
 have hlt:=hS.lt
 have R0:=Blk.new w 32 #[.slice none 0 0,.slice none 0 0,.slice none 0 0,.slice none 0 0,.slice none 0 0]
 have hg:w.grownBy (w.alloc (.cells #[.slice none 0 0,.slice none 0 0,.slice none 0 0,.slice none 0 0,.slice none 0 0] 32)) (some b):=World.grownBy_alloc w _ _
 have hs0:(w.alloc (.cells #[.slice none 0 0,.slice none 0 0,.slice none 0 0,.slice none 0 0,.slice none 0 0] 32)).heap.size=w.heap.size + 1:=by simp
 replace hS:Src B (w.alloc (.cells #[.slice none 0 0,.slice none 0 0,.slice none 0 0,.slice none 0 0,.slice none 0 0] 32)) b T:=hS.below (by go_grown)
 go_enter Tryz.func76,Tryz.ntmps76
 go_wp2_with fail
 generalize w.alloc (.cells #[.slice none 0 0,.slice none 0 0,.slice none 0 0,.slice none 0 0,.slice none 0 0] 32)=W at *
 refine (l9Draw_any B b T W hS (by omega)).mono ?_
 rintro e w1 ⟨q,rfl,hqn,oq,nq,gq,hSn,hgn⟩
 replace hS:=hSn
 replace R0:=R0.grown hgn (by simp only [ne_eq,Option.some.injEq];omega)
 replace hg:=hg.trans hgn
 have hs1:=hgn.size
 have low0:∀ k∈repK.foot q,w.heap.size < k∧k≠w1.heap.size:=fun k hk=>⟨by have:=gq k hk;omega,by have:=repK.own_lt oq k hk;omega⟩
 have HN:Hid (q.n≤1000):=hqn
 clear hSn hgn gq hqn
 obtain ⟨qvd,qd,qvb,qb,qvt,qt,qvu,qu,qvn,qn⟩:=q
 obtain ⟨s0,t0,rfl⟩:∃ a c,qvd=.slice a qd.length c:=oq.1.shape
 obtain ⟨s1,t1,rfl⟩:∃ a c,qvb=.slice a qb.length c:=oq.2.1.shape
 obtain ⟨s2,t2,rfl⟩:∃ a c,qvt=.slice a qt.length c:=oq.2.2.1.shape
 obtain ⟨s3,t3,rfl⟩:∃ a c,qvu=.slice a qu.length c:=oq.2.2.2.1.shape
 obtain ⟨s4,t4,rfl⟩:∃ a c,qvn=.slice a qn.length c:=oq.2.2.2.2.shape
 have Bx:=Blk.new w1 32 #[.slice s0 qd.length t0,.slice s1 qb.length t1,.slice s2 qt.length t2,.slice s3 qu.length t3,.slice s4 qn.length t4]
 have hbx:Below w1.heap.size w1 (w1.alloc (.cells #[.slice s0 qd.length t0,.slice s1 qb.length t1,.slice s2 qt.length t2,.slice s3 qu.length t3,.slice s4 qn.length t4] 32)):=by go_grown
 have hsx:w1.heap.size < (w1.alloc (.cells #[.slice s0 qd.length t0,.slice s1 qb.length t1,.slice s2 qt.length t2,.slice s3 qu.length t3,.slice s4 qn.length t4] 32)).heap.size:=by simp
 replace oq:=repK.own_out (F:=[]) oq (Out.of_below hbx) (fun _ _=>by simp)
 replace R0:=R0.below hbx
 replace hS:=hS.below hbx
 replace hg:=grown_low hg (hbx.mono hg.size)
 clear hbx
 go_wp2_with fail
 generalize w1.alloc (.cells #[.slice s0 qd.length t0,.slice s1 qb.length t1,.slice s2 qt.length t2,.slice s3 qu.length t3,.slice s4 qn.length t4] 32)=X0 at *
 generalize hgg:w1.heap.size=g at *
 refine (next_any B b (T + 300) 14 X0 hS (by omega) (by omega)).mono ?_
 rintro e X ⟨r,rfl,hr,hSn,hgn⟩
 replace hS:=hSn
 replace oq:=repK.own_out oq (Out.of_grown hgn) (fun k hk hk' => by simp only [Option.toList,List.mem_singleton] at hk';have:=(low0 k hk).1;omega)
 replace R0:=R0.grown hgn (by simp only [ne_eq,Option.some.injEq];omega)
 replace Bx:=Bx.grown hgn (by simp only [ne_eq,Option.some.injEq];omega)
 replace hg:=hg.trans hgn
 have hgX:g < X.heap.size:=Nat.lt_of_lt_of_le hsx hgn.size
 have hgl:w.heap.size < g:=by omega
 have low:=low0
 have hbg:b≠g:=by omega
 clear hSn hgn hr low0 hgg hs1 hsx
 by_cases hr0:r=0
 ·subst hr0
  go_wp2_with fail
  refine (l3Bent_any B b (T + 301) X hS (by omega)).mono ?_
  rintro e X1 ⟨a,c,xs,rfl,hx9,ho,hSn,hgn⟩
  have hgs:=hgn.size
  have Bx1:=Bx.grown hgn (by simp only [ne_eq,Option.some.injEq];omega)
  have R1:=R0.grown hgn (by simp only [ne_eq,Option.some.injEq];omega)
  have oq1:=repK.own_out oq (Out.of_grown hgn) (fun k hk hk' => by simp only [Option.toList,List.mem_singleton] at hk';have:=(low k hk).1;omega)
  obtain ⟨o0,hlo⟩:=own_zero ho
  have oi:itemK.Own X1 (.slice a xs.length c) xs:=⟨by rw [itemK_row];exact o0,fun _ _=>trivial⟩
  have k1:=Bx1.cell 1 _ rfl
  have k2:=Bx1.frozen 1
  have oy:repK.own X1 (⟨.slice s0 qd.length t0,qd,.slice a xs.length c,xs,.slice s2 qt.length t2,qt,.slice s3 qu.length t3,qu,.slice s4 qn.length t4,qn⟩:RepQ):=⟨oq1.1,oi,oq1.2.2.1,oq1.2.2.2.1,oq1.2.2.2.2⟩
  have lz:∀ k∈repK.foot (⟨.slice s0 qd.length t0,qd,.slice a xs.length c,xs,.slice s2 qt.length t2,qt,.slice s3 qu.length t3,qu,.slice s4 qn.length t4,qn⟩:RepQ),w.heap.size < k:=fun k hk=>by
   rcases rep_mem.1 hk with hk | hk | hk | hk | hk
   ·exact (low k (rep_mem.2 (Or.inl hk))).1
   ·rw [itemK_fp] at hk;have:=hlo k hk;omega
   ·exact (low k (rep_mem.2 (Or.inr (Or.inr (Or.inl hk))))).1
   ·exact (low k (rep_mem.2 (Or.inr (Or.inr (Or.inr (Or.inl hk)))))).1
   ·exact (low k (rep_mem.2 (Or.inr (Or.inr (Or.inr (Or.inr hk)))))).1
  have gy:∀ k∈repK.foot (⟨.slice s0 qd.length t0,qd,.slice a xs.length c,xs,.slice s2 qt.length t2,qt,.slice s3 qu.length t3,qu,.slice s4 qn.length t4,qn⟩:RepQ),k≠g:=fun k hk=>by
   rcases rep_mem.1 hk with hk | hk | hk | hk | hk
   ·exact (low k (rep_mem.2 (Or.inl hk))).2
   ·rw [itemK_fp] at hk;have:=hlo k hk;omega
   ·exact (low k (rep_mem.2 (Or.inr (Or.inr (Or.inl hk))))).2
   ·exact (low k (rep_mem.2 (Or.inr (Or.inr (Or.inr (Or.inl hk)))))).2
   ·exact (low k (rep_mem.2 (Or.inr (Or.inr (Or.inr (Or.inr hk)))))).2
  have oz:=repK.own_out oy (Out.setCell X1 g 1 (.slice a xs.length c)) (fun k hk hk' => by simp only [List.mem_singleton] at hk';exact gy k hk hk')
  have Bz:Blk (X1.setCell ⟨g,1,none⟩ (.slice a xs.length c)) g 32 #[.slice s0 qd.length t0,.slice a xs.length c,.slice s2 qt.length t2,.slice s3 qu.length t3,.slice s4 qn.length t4]:=by
   have:=Bx1.set 1 (.slice a xs.length c)
   simpa using this
  have Rz:=R1.other (b' := g) (by omega) 1 (.slice a xs.length c)
  have sz:=hSn.low ((Below.refl w.heap.size X1).setCell (p:=⟨g,1,none⟩) (by show w.heap.size≤g;omega) (.slice a xs.length c)) hlt.2
  have gz:=grown_low (hg.trans hgn) ((Below.refl w.heap.size X1).setCell (p:=⟨g,1,none⟩) (by show w.heap.size≤g;omega) (.slice a xs.length c))
  have nz:RepQ.n (⟨.slice s0 qd.length t0,qd,.slice a xs.length c,xs,.slice s2 qt.length t2,qt,.slice s3 qu.length t3,qu,.slice s4 qn.length t4,qn⟩:RepQ)≤3000:=by have:=HN.out;dsimp only [RepQ.n] at this ⊢;omega
  clear oy gy oi o0 hlo ho oq1 hSn hgn oq nq low hS hg Bx R0
  have Rr:=Rz.row #[.slice s0 qd.length t0,.slice a xs.length c,.slice s2 qt.length t2,.slice s3 qu.length t3,.slice s4 qn.length t4]
  have hUr:=out_row (X1.setCell ⟨g,1,none⟩ (.slice a xs.length c)) w.heap.size #[.slice s0 qd.length t0,.slice a xs.length c,.slice s2 qt.length t2,.slice s3 qu.length t3,.slice s4 qn.length t4]
  have hbr:=below_row (g:=w.heap.size) (Below.refl w.heap.size (X1.setCell ⟨g,1,none⟩ (.slice a xs.length c))) (Nat.le_refl _) #[.slice s0 qd.length t0,.slice a xs.length c,.slice s2 qt.length t2,.slice s3 qu.length t3,.slice s4 qn.length t4]
  have HZ:Hid (repK.own ((X1.setCell ⟨g,1,none⟩ (.slice a xs.length c)).setRow w.heap.size #[.slice s0 qd.length t0,.slice a xs.length c,.slice s2 qt.length t2,.slice s3 qu.length t3,.slice s4 qn.length t4]) (⟨.slice s0 qd.length t0,qd,.slice a xs.length c,xs,.slice s2 qt.length t2,qt,.slice s3 qu.length t3,qu,.slice s4 qn.length t4,qn⟩:RepQ)∧Src B ((X1.setCell ⟨g,1,none⟩ (.slice a xs.length c)).setRow w.heap.size #[.slice s0 qd.length t0,.slice a xs.length c,.slice s2 qt.length t2,.slice s3 qu.length t3,.slice s4 qn.length t4]) b (T + 400)∧w.grownBy ((X1.setCell ⟨g,1,none⟩ (.slice a xs.length c)).setRow w.heap.size #[.slice s0 qd.length t0,.slice a xs.length c,.slice s2 qt.length t2,.slice s3 qu.length t3,.slice s4 qn.length t4]) (some b)):=⟨repK.own_out oz hUr (fun k hk hk' => by simp only [List.mem_singleton] at hk';have:=lz k hk;omega),(sz.low hbr hlt.2).mono (by omega),grown_low gz hbr⟩
  have HQ:Hid (RepQ.n (⟨.slice s0 qd.length t0,qd,.slice a xs.length c,xs,.slice s2 qt.length t2,qt,.slice s3 qu.length t3,qu,.slice s4 qn.length t4,qn⟩:RepQ)≤3000∧∀ k∈repK.foot (⟨.slice s0 qd.length t0,qd,.slice a xs.length c,xs,.slice s2 qt.length t2,qt,.slice s3 qu.length t3,qu,.slice s4 qn.length t4,qn⟩:RepQ),w.heap.size≤k):=⟨nz,fun k hk=>by have:=lz k hk;omega⟩
  have p0:=Bz.cell 0 _ rfl
  have p1:=Bz.cell 1 _ rfl
  have p2:=Bz.cell 2 _ rfl
  have p3:=Bz.cell 3 _ rfl
  have p4:=Bz.cell 4 _ rfl
  clear oz lz sz gz nz hUr hbr
  go_wp2_with (first | (refine st_row (by kernel_rfl) 32 _ _ rfl _ #[.slice s0 qd.length t0,.slice a xs.length c,.slice s2 qt.length t2,.slice s3 qu.length t3,.slice s4 qn.length t4] rfl rfl 32 _ Rz sz_rep9 rfl (by simp [Value.oneCell']) ?_))
  have q0:=Rr.cell 0 _ rfl
  have q1:=Rr.cell 1 _ rfl
  have q2:=Rr.cell 2 _ rfl
  have q3:=Rr.cell 3 _ rfl
  have q4:=Rr.cell 4 _ rfl
  exact bodyPost_ret (v:=.agg #[.slice s0 qd.length t0,.slice a xs.length c,.slice s2 qt.length t2,.slice s3 qu.length t3,.slice s4 qn.length t4]) (by simp [results,Tryz.results76,go_sem,q0,q1,q2,q3,q4]) rfl ⟨(⟨.slice s0 qd.length t0,qd,.slice a xs.length c,xs,.slice s2 qt.length t2,qt,.slice s3 qu.length t3,qu,.slice s4 qn.length t4,qn⟩:RepQ),rfl,HQ.out.1,HZ.out.1,HQ.out.2,HZ.out.2.1,HZ.out.2.2⟩
 by_cases hr1:r=1
 ·subst hr1
  clear hr0
  go_wp2_with fail
  refine (l3Bent_any B b (T + 301) X hS (by omega)).mono ?_
  rintro e X1 ⟨a,c,xs,rfl,hx9,ho,hSn,hgn⟩
  have hgs:=hgn.size
  have Bx1:=Bx.grown hgn (by simp only [ne_eq,Option.some.injEq];omega)
  have R1:=R0.grown hgn (by simp only [ne_eq,Option.some.injEq];omega)
  have oq1:=repK.own_out oq (Out.of_grown hgn) (fun k hk hk' => by simp only [Option.toList,List.mem_singleton] at hk';have:=(low k hk).1;omega)
  obtain ⟨o0,hlo⟩:=own_zero ho
  have oi:itemK.Own X1 (.slice a xs.length c) xs:=⟨by rw [itemK_row];exact o0,fun _ _=>trivial⟩
  have k1:=Bx1.cell 4 _ rfl
  have k2:=Bx1.frozen 4
  have oy:repK.own X1 (⟨.slice s0 qd.length t0,qd,.slice s1 qb.length t1,qb,.slice s2 qt.length t2,qt,.slice s3 qu.length t3,qu,.slice a xs.length c,xs⟩:RepQ):=⟨oq1.1,oq1.2.1,oq1.2.2.1,oq1.2.2.2.1,oi⟩
  have lz:∀ k∈repK.foot (⟨.slice s0 qd.length t0,qd,.slice s1 qb.length t1,qb,.slice s2 qt.length t2,qt,.slice s3 qu.length t3,qu,.slice a xs.length c,xs⟩:RepQ),w.heap.size < k:=fun k hk=>by
   rcases rep_mem.1 hk with hk | hk | hk | hk | hk
   ·exact (low k (rep_mem.2 (Or.inl hk))).1
   ·exact (low k (rep_mem.2 (Or.inr (Or.inl hk)))).1
   ·exact (low k (rep_mem.2 (Or.inr (Or.inr (Or.inl hk))))).1
   ·exact (low k (rep_mem.2 (Or.inr (Or.inr (Or.inr (Or.inl hk)))))).1
   ·rw [itemK_fp] at hk;have:=hlo k hk;omega
  have gy:∀ k∈repK.foot (⟨.slice s0 qd.length t0,qd,.slice s1 qb.length t1,qb,.slice s2 qt.length t2,qt,.slice s3 qu.length t3,qu,.slice a xs.length c,xs⟩:RepQ),k≠g:=fun k hk=>by
   rcases rep_mem.1 hk with hk | hk | hk | hk | hk
   ·exact (low k (rep_mem.2 (Or.inl hk))).2
   ·exact (low k (rep_mem.2 (Or.inr (Or.inl hk)))).2
   ·exact (low k (rep_mem.2 (Or.inr (Or.inr (Or.inl hk))))).2
   ·exact (low k (rep_mem.2 (Or.inr (Or.inr (Or.inr (Or.inl hk)))))).2
   ·rw [itemK_fp] at hk;have:=hlo k hk;omega
  have oz:=repK.own_out oy (Out.setCell X1 g 4 (.slice a xs.length c)) (fun k hk hk' => by simp only [List.mem_singleton] at hk';exact gy k hk hk')
  have Bz:Blk (X1.setCell ⟨g,4,none⟩ (.slice a xs.length c)) g 32 #[.slice s0 qd.length t0,.slice s1 qb.length t1,.slice s2 qt.length t2,.slice s3 qu.length t3,.slice a xs.length c]:=by
   have:=Bx1.set 4 (.slice a xs.length c)
   simpa using this
  have Rz:=R1.other (b' := g) (by omega) 4 (.slice a xs.length c)
  have sz:=hSn.low ((Below.refl w.heap.size X1).setCell (p:=⟨g,4,none⟩) (by show w.heap.size≤g;omega) (.slice a xs.length c)) hlt.2
  have gz:=grown_low (hg.trans hgn) ((Below.refl w.heap.size X1).setCell (p:=⟨g,4,none⟩) (by show w.heap.size≤g;omega) (.slice a xs.length c))
  have nz:RepQ.n (⟨.slice s0 qd.length t0,qd,.slice s1 qb.length t1,qb,.slice s2 qt.length t2,qt,.slice s3 qu.length t3,qu,.slice a xs.length c,xs⟩:RepQ)≤3000:=by have:=HN.out;dsimp only [RepQ.n] at this ⊢;omega
  clear oy gy oi o0 hlo ho oq1 hSn hgn oq nq low hS hg Bx R0
  have Rr:=Rz.row #[.slice s0 qd.length t0,.slice s1 qb.length t1,.slice s2 qt.length t2,.slice s3 qu.length t3,.slice a xs.length c]
  have hUr:=out_row (X1.setCell ⟨g,4,none⟩ (.slice a xs.length c)) w.heap.size #[.slice s0 qd.length t0,.slice s1 qb.length t1,.slice s2 qt.length t2,.slice s3 qu.length t3,.slice a xs.length c]
  have hbr:=below_row (g:=w.heap.size) (Below.refl w.heap.size (X1.setCell ⟨g,4,none⟩ (.slice a xs.length c))) (Nat.le_refl _) #[.slice s0 qd.length t0,.slice s1 qb.length t1,.slice s2 qt.length t2,.slice s3 qu.length t3,.slice a xs.length c]
  have HZ:Hid (repK.own ((X1.setCell ⟨g,4,none⟩ (.slice a xs.length c)).setRow w.heap.size #[.slice s0 qd.length t0,.slice s1 qb.length t1,.slice s2 qt.length t2,.slice s3 qu.length t3,.slice a xs.length c]) (⟨.slice s0 qd.length t0,qd,.slice s1 qb.length t1,qb,.slice s2 qt.length t2,qt,.slice s3 qu.length t3,qu,.slice a xs.length c,xs⟩:RepQ)∧Src B ((X1.setCell ⟨g,4,none⟩ (.slice a xs.length c)).setRow w.heap.size #[.slice s0 qd.length t0,.slice s1 qb.length t1,.slice s2 qt.length t2,.slice s3 qu.length t3,.slice a xs.length c]) b (T + 400)∧w.grownBy ((X1.setCell ⟨g,4,none⟩ (.slice a xs.length c)).setRow w.heap.size #[.slice s0 qd.length t0,.slice s1 qb.length t1,.slice s2 qt.length t2,.slice s3 qu.length t3,.slice a xs.length c]) (some b)):=⟨repK.own_out oz hUr (fun k hk hk' => by simp only [List.mem_singleton] at hk';have:=lz k hk;omega),(sz.low hbr hlt.2).mono (by omega),grown_low gz hbr⟩
  have HQ:Hid (RepQ.n (⟨.slice s0 qd.length t0,qd,.slice s1 qb.length t1,qb,.slice s2 qt.length t2,qt,.slice s3 qu.length t3,qu,.slice a xs.length c,xs⟩:RepQ)≤3000∧∀ k∈repK.foot (⟨.slice s0 qd.length t0,qd,.slice s1 qb.length t1,qb,.slice s2 qt.length t2,qt,.slice s3 qu.length t3,qu,.slice a xs.length c,xs⟩:RepQ),w.heap.size≤k):=⟨nz,fun k hk=>by have:=lz k hk;omega⟩
  have p0:=Bz.cell 0 _ rfl
  have p1:=Bz.cell 1 _ rfl
  have p2:=Bz.cell 2 _ rfl
  have p3:=Bz.cell 3 _ rfl
  have p4:=Bz.cell 4 _ rfl
  clear oz lz sz gz nz hUr hbr
  go_wp2_with (first | (refine st_row (by kernel_rfl) 32 _ _ rfl _ #[.slice s0 qd.length t0,.slice s1 qb.length t1,.slice s2 qt.length t2,.slice s3 qu.length t3,.slice a xs.length c] rfl rfl 32 _ Rz sz_rep9 rfl (by simp [Value.oneCell']) ?_))
  have q0:=Rr.cell 0 _ rfl
  have q1:=Rr.cell 1 _ rfl
  have q2:=Rr.cell 2 _ rfl
  have q3:=Rr.cell 3 _ rfl
  have q4:=Rr.cell 4 _ rfl
  exact bodyPost_ret (v:=.agg #[.slice s0 qd.length t0,.slice s1 qb.length t1,.slice s2 qt.length t2,.slice s3 qu.length t3,.slice a xs.length c]) (by simp [results,Tryz.results76,go_sem,q0,q1,q2,q3,q4]) rfl ⟨(⟨.slice s0 qd.length t0,qd,.slice s1 qb.length t1,qb,.slice s2 qt.length t2,qt,.slice s3 qu.length t3,qu,.slice a xs.length c,xs⟩:RepQ),rfl,HQ.out.1,HZ.out.1,HQ.out.2,HZ.out.2.1,HZ.out.2.2⟩
 by_cases hr2:r=2
 ·subst hr2
  clear hr0 hr1
  obtain ⟨i0,hi,hz0,hz1,hz2⟩:=info_parts infoUndos
  have ND:=nd5 nq
  have hP0:Blk X g 32 #[.slice s0 qd.length t0,.slice s1 qb.length t1,.slice s2 qt.length t2,.slice s3 qu.length t3,.slice s4 qn.length t4]:=Bx
  generalize hP:(fun u:World=>Blk u g 32 #[.slice s0 qd.length t0,.slice s1 qb.length t1,.slice s2 qt.length t2,.slice s3 qu.length t3,.slice s4 qn.length t4])=PP
  have hPX:PP X:=by subst hP;exact hP0
  have cc:∀ u:KeepP PP,u.val.cell? ⟨g,3,none⟩=some (.slice s3 qu.length t3):=fun u=>by have:=u.isP;subst hP;exact this.cell 3 _ rfl
  have hne:Nonempty (KeepP PP):=⟨⟨X,hPX⟩⟩
  go_wp2_with fail
  refine beginX (S:=fun w' => ∃ u:KeepP PP,w' = u.val) (R:=fun _ _=>False) 7 (by kernel_rfl) (fun _ _ _ _ h=>h.elim) ?_
  have hPd:PP X.drew:=by subst hP;exact hP0
  refine segX [(0,3)] 5 (by kernel_rfl) (by kernel_rfl) (by kernel_rfl) (by kernel_rfl) (by kernel_rfl) ⟨⟨X.drew,hPd⟩,rfl⟩ ?_
  simp only [pickR,List.toList_toArray,List.flatMap_cons,List.flatMap_nil,List.drop_succ_cons,List.drop_zero,List.take_succ_cons,List.take_zero,List.cons_append,List.nil_append,List.append_nil]
  repeat go_big_quiet_step (fail)
  refine wpQuiet_nil ?_
  have hbd:Below X.heap.size X X.drew:=(Below.refl _ _).drew
  replace oq:=repK.own_out (F:=[]) oq (Out.of_below hbd) (fun _ _=>by simp)
  replace hS:=hS.below hbd
  replace hg:=grown_low hg (hbd.mono hg.size)
  replace R0:=R0.below hbd
  replace Bx:=Bx.below hbd
  have hXd:X.heap.size≤X.drew.heap.size:=hbd.size
  clear hbd hPd cc hne hPX hP0
  generalize X.drew=Xd at *
  refine callX 3 (some 23) 143 #[.pointer (some ⟨b,0,none⟩)] 4 (by kernel_rfl) (by kernel_rfl) (by kernel_rfl) (by kernel_rfl) (by kernel_rfl) rfl ?_
  refine (l4Bent_any B b (T + 301) Xd hS (by omega)).mono ?_
  rintro e X1 ⟨a,c,us,rfl,hx5,ho,hSn,hgn⟩
  have hgs:=hgn.size
  have Bx1:=Bx.grown hgn (by simp only [ne_eq,Option.some.injEq];omega)
  have R1:=R0.grown hgn (by simp only [ne_eq,Option.some.injEq];omega)
  have hlq:=oq.2.2.2.1.lt
  have oq1:=repK.own_out oq (Out.of_grown hgn) (fun k hk hk' => by simp only [Option.toList,List.mem_singleton] at hk';have:=(low k hk).1;omega)
  obtain ⟨o0,hlo⟩:=own_zero ho
  have oe:ussK.own X1 (⟨.slice a us.length c,us⟩:USQ):=uss_own ⟨by rw [undoK_row];exact o0,fun _ _=>trivial⟩
  have fe:∀ k∈ussK.foot (⟨.slice a us.length c,us⟩:USQ),Xd.heap.size≤k:=fun k hk=>by
   replace hk:k∈undoK.fp (.slice a us.length c) us:=hk
   rw [undoK_fp] at hk;exact hlo k hk
  have ne:(ussK.foot (⟨.slice a us.length c,us⟩:USQ)).Nodup:=by
   show (undoK.fp (.slice a us.length c) us).Nodup
   rw [undoK_fp];exact blk_nodup _
  have hed:∀ k∈ussK.foot (⟨.slice a us.length c,us⟩:USQ),k ∉ ussK.fp (.slice s3 qu.length t3) qu:=fun k hk hk' => by
   have h1:=hlq k hk'
   have h2:=fe k hk
   omega
  replace hg:=hg.trans hgn
  replace hS:=hSn
  refine Or.inl ⟨_,rfl,⟨⟨X1,by subst hP;exact Bx1⟩,rfl⟩,?_⟩
  simp only [Act.put,List.setIfInBounds_toArray,List.set_cons_zero,List.set_cons_succ]
  refine oneX 4 _ 3 (by kernel_rfl) rfl (by kernel_rfl) ?_
  have hbA:Below X1.heap.size X1 (X1.alloc (.cells #[.slice a us.length c] 118)):=by go_grown
  have hOA:=oq1.2.2.2.1.below hbA
  have hPA:=ussK.own_out (F:=[]) oe (Out.of_below hbA) (fun _ _=>by simp)
  have oqA:=repK.own_out (F:=[]) oq1 (Out.of_below hbA) (fun _ _=>by simp)
  have BxA:=Bx1.below hbA
  have RA:=R1.below hbA
  replace hS:=hS.below hbA
  replace hg:=grown_low hg (hbA.mono hg.size)
  go_wp2
  refine ThenX.to ⟨Or.inr ⟨⟨_,by subst hP;exact BxA⟩,rfl⟩,?_⟩
  have hrow0:=hOA.1
  refine oneX 5 _ 2 (by kernel_rfl) rfl (by kernel_rfl) ?_
  have HQL:Hid (qu.length≤1000):=by have:=HN.out;dsimp only [RepQ.n] at this;show _≤_;omega
  refine wpList_append_own_at _ rfl _ _ 30 rfl 0 118 i0 (.slice none 0 0) 1 24 Tryz.underlying30 hi hz0 hz1 hz2 rfl (by decide) _ qu.length (ussK.row qu) rfl hrow0 ⟨X1.heap.size,0,none⟩ 1 1 [.slice a us.length c] rfl rfl ?c1 ?c2 ?c3 ?c4 ?c5 ?_
  case c1=>intro j u hj;match j,hj with | 0,hj=>simp at hj;subst hj;simp [Addr.add]
  case c2=>intro u hu;simp at hu;subst hu;rfl
  case c3=>have:=HQL.out;unfold maxLen;omega
  case c4=>have:=HQL.out;omega
  case c5=>first | omega | simp
  intro v' X5 hown hgrow hnil hat
  clear hnil hrow0
  have hXA:w.heap.size≤(X1.alloc (.cells #[.slice a us.length c] 118)).heap.size:=hg.size
  have hXB:X1.heap.size≤(X1.alloc (.cells #[.slice a us.length c] 118)).heap.size:=hbA.size
  generalize hwA:X1.alloc (.cells #[.slice a us.length c] 118)=WA at *
  clear hwA
  obtain ⟨hO5,hn5,hlo5,hou⟩:=hOA.snoc (B:=w.heap.size) ND.2.1 (fun k hk=>by have:=(low k (rep_mem.2 (Or.inr (Or.inr (Or.inr (Or.inl hk)))))).1;omega) hPA ne hed (fun k hk=>by have:=fe k hk;omega) hXA hown hgrow hat
  obtain ⟨a5,k5,hv5⟩:=hO5.shape
  rw [List.length_append,List.length_singleton] at hv5
  subst hv5
  have bl:∀ k∈blk (.slice s3 qu.length t3),k∈ussK.fp (.slice s3 qu.length t3) qu:=fun k hk=>by simp only [Kind.fp,List.mem_append];exact Or.inl hk
  have gbl:g ∉ blk (.slice s3 qu.length t3):=fun hk=>by have hk:=bl _ hk;exact (low g (rep_mem.2 (Or.inr (Or.inr (Or.inr (Or.inl hk)))))).2 rfl
  have rbl:w.heap.size ∉ blk (.slice s3 qu.length t3):=fun hk=>by have hk:=bl _ hk;have:=(low _ (rep_mem.2 (Or.inr (Or.inr (Or.inr (Or.inl hk)))))).1;omega
  have hB5:Below w.heap.size WA X5:=Out.keep (Below.refl _ _) hou hXA (fun k hk=>by have hk:=bl _ hk;have:=(low _ (rep_mem.2 (Or.inr (Or.inr (Or.inr (Or.inl hk)))))).1;omega)
  replace hS:=hS.low hB5 hlt.2
  replace hg:=grown_low hg hB5
  have Bx5:=BxA.outs8 hou gbl
  have R5:=RA.outs8 hou rbl
  replace oq1:=oqA
  have oy:repK.own X5 (⟨.slice s0 qd.length t0,qd,.slice s1 qb.length t1,qb,.slice s2 qt.length t2,qt,.slice a5 (qu.length + 1) k5,qu ++ [(⟨.slice a us.length c,us⟩:USQ)],.slice s4 qn.length t4,qn⟩:RepQ):=⟨oq1.1.out hou (fun k hk hk' => ND.2.2.1 k hk (bl k hk')),oq1.2.1.out hou (fun k hk hk' => ND.2.2.2.1 k hk (bl k hk')),oq1.2.2.1.out hou (fun k hk hk' => ND.2.2.2.2.1 k hk (bl k hk')),hO5,oq1.2.2.2.2.out hou (fun k hk hk' => ND.2.2.2.2.2 k hk (bl k hk'))⟩
  have hgn5:∀ k∈ussK.fp (.slice a5 (qu.length + 1) k5) (qu ++ [(⟨.slice a us.length c,us⟩:USQ)]),w.heap.size < k∧k≠g:=fun k hk=>by
   have hm:=fp_snoc hat hk
   rcases hm with hk | hk | rfl
   ·exact low k (rep_mem.2 (Or.inr (Or.inr (Or.inr (Or.inl hk)))))
   ·have:=fe k hk;omega
   ·have:=hgX;omega
  have lz:∀ k∈repK.foot (⟨.slice s0 qd.length t0,qd,.slice s1 qb.length t1,qb,.slice s2 qt.length t2,qt,.slice a5 (qu.length + 1) k5,qu ++ [(⟨.slice a us.length c,us⟩:USQ)],.slice s4 qn.length t4,qn⟩:RepQ),w.heap.size < k:=fun k hk=>by
   rcases rep_mem.1 hk with hk | hk | hk | hk | hk
   ·exact (low k (rep_mem.2 (Or.inl hk))).1
   ·exact (low k (rep_mem.2 (Or.inr (Or.inl hk)))).1
   ·exact (low k (rep_mem.2 (Or.inr (Or.inr (Or.inl hk))))).1
   ·exact (hgn5 k hk).1
   ·exact (low k (rep_mem.2 (Or.inr (Or.inr (Or.inr (Or.inr hk)))))).1
  have gy:∀ k∈repK.foot (⟨.slice s0 qd.length t0,qd,.slice s1 qb.length t1,qb,.slice s2 qt.length t2,qt,.slice a5 (qu.length + 1) k5,qu ++ [(⟨.slice a us.length c,us⟩:USQ)],.slice s4 qn.length t4,qn⟩:RepQ),k≠g:=fun k hk=>by
   rcases rep_mem.1 hk with hk | hk | hk | hk | hk
   ·exact (low k (rep_mem.2 (Or.inl hk))).2
   ·exact (low k (rep_mem.2 (Or.inr (Or.inl hk)))).2
   ·exact (low k (rep_mem.2 (Or.inr (Or.inr (Or.inl hk))))).2
   ·exact (hgn5 k hk).2
   ·exact (low k (rep_mem.2 (Or.inr (Or.inr (Or.inr (Or.inr hk)))))).2
  go_wp2
  refine ThenX.to ⟨Or.inr ⟨⟨_,by subst hP;exact Bx5⟩,rfl⟩,?_⟩
  refine oneX 6 _ 1 (by kernel_rfl) rfl (by kernel_rfl) ?_
  go_wp2
  refine ThenX.to ⟨Or.inr ⟨⟨_,by subst hP;exact Bx5⟩,rfl⟩,?_⟩
  refine oneX 7 _ 0 (by kernel_rfl) rfl (by kernel_rfl) ?_
  have k1:=Bx5.cell 3 _ rfl
  have k2:=Bx5.frozen 3
  have oz:=repK.own_out oy (Out.setCell X5 g 3 (.slice a5 (qu.length + 1) k5)) (fun k hk hk' => by simp only [List.mem_singleton] at hk';exact gy k hk hk')
  have Bz:Blk (X5.setCell ⟨g,3,none⟩ (.slice a5 (qu.length + 1) k5)) g 32 #[.slice s0 qd.length t0,.slice s1 qb.length t1,.slice s2 qt.length t2,.slice a5 (qu.length + 1) k5,.slice s4 qn.length t4]:=by
   have:=Bx5.set 3 (.slice a5 (qu.length + 1) k5)
   simpa using this
  have Rz:=R5.other (b' := g) (by omega) 3 (.slice a5 (qu.length + 1) k5)
  have sz:=hS.low ((Below.refl w.heap.size X5).setCell (p:=⟨g,3,none⟩) (by show w.heap.size≤g;omega) (.slice a5 (qu.length + 1) k5)) hlt.2
  have gz:=grown_low hg ((Below.refl w.heap.size X5).setCell (p:=⟨g,3,none⟩) (by show w.heap.size≤g;omega) (.slice a5 (qu.length + 1) k5))
  have nz:RepQ.n (⟨.slice s0 qd.length t0,qd,.slice s1 qb.length t1,qb,.slice s2 qt.length t2,qt,.slice a5 (qu.length + 1) k5,qu ++ [(⟨.slice a us.length c,us⟩:USQ)],.slice s4 qn.length t4,qn⟩:RepQ)≤3000:=by
   have:=HN.out
   dsimp only [RepQ.n] at this ⊢
   have e1:nmL USQ.n (qu ++ [(⟨.slice a us.length c,us⟩:USQ)])=nmL USQ.n qu + us.length:=by simp [nmL,USQ.n]
   rw [e1,List.length_append,List.length_singleton]
   omega
  clear oy gy hgn5 hO5 hn5 hlo5 hou oqA hOA hPA hown hgrow hat
  generalize qu ++ [(⟨.slice a us.length c,us⟩:USQ)]=ls at *
  go_wp2
  clear k1 k2
  refine ThenX.to ⟨Or.inl (by kernel_rfl),?_⟩
  refine endX (by kernel_rfl) ?_
  have Rr:=Rz.row #[.slice s0 qd.length t0,.slice s1 qb.length t1,.slice s2 qt.length t2,.slice a5 (qu.length + 1) k5,.slice s4 qn.length t4]
  have hUr:=out_row (X5.setCell ⟨g,3,none⟩ (.slice a5 (qu.length + 1) k5)) w.heap.size #[.slice s0 qd.length t0,.slice s1 qb.length t1,.slice s2 qt.length t2,.slice a5 (qu.length + 1) k5,.slice s4 qn.length t4]
  have hbr:=below_row (g:=w.heap.size) (Below.refl w.heap.size (X5.setCell ⟨g,3,none⟩ (.slice a5 (qu.length + 1) k5))) (Nat.le_refl _) #[.slice s0 qd.length t0,.slice s1 qb.length t1,.slice s2 qt.length t2,.slice a5 (qu.length + 1) k5,.slice s4 qn.length t4]
  have HZ:Hid (repK.own ((X5.setCell ⟨g,3,none⟩ (.slice a5 (qu.length + 1) k5)).setRow w.heap.size #[.slice s0 qd.length t0,.slice s1 qb.length t1,.slice s2 qt.length t2,.slice a5 (qu.length + 1) k5,.slice s4 qn.length t4]) (⟨.slice s0 qd.length t0,qd,.slice s1 qb.length t1,qb,.slice s2 qt.length t2,qt,.slice a5 (qu.length + 1) k5,ls,.slice s4 qn.length t4,qn⟩:RepQ)∧Src B ((X5.setCell ⟨g,3,none⟩ (.slice a5 (qu.length + 1) k5)).setRow w.heap.size #[.slice s0 qd.length t0,.slice s1 qb.length t1,.slice s2 qt.length t2,.slice a5 (qu.length + 1) k5,.slice s4 qn.length t4]) b (T + 400)∧w.grownBy ((X5.setCell ⟨g,3,none⟩ (.slice a5 (qu.length + 1) k5)).setRow w.heap.size #[.slice s0 qd.length t0,.slice s1 qb.length t1,.slice s2 qt.length t2,.slice a5 (qu.length + 1) k5,.slice s4 qn.length t4]) (some b)):=⟨repK.own_out oz hUr (fun k hk hk' => by simp only [List.mem_singleton] at hk';have:=lz k hk;omega),(sz.low hbr hlt.2).mono (by omega),grown_low gz hbr⟩
  have HQ:Hid (RepQ.n (⟨.slice s0 qd.length t0,qd,.slice s1 qb.length t1,qb,.slice s2 qt.length t2,qt,.slice a5 (qu.length + 1) k5,ls,.slice s4 qn.length t4,qn⟩:RepQ)≤3000∧∀ k∈repK.foot (⟨.slice s0 qd.length t0,qd,.slice s1 qb.length t1,qb,.slice s2 qt.length t2,qt,.slice a5 (qu.length + 1) k5,ls,.slice s4 qn.length t4,qn⟩:RepQ),w.heap.size≤k):=⟨nz,fun k hk=>by have:=lz k hk;omega⟩
  have p0:=Bz.cell 0 _ rfl
  have p1:=Bz.cell 1 _ rfl
  have p2:=Bz.cell 2 _ rfl
  have p3:=Bz.cell 3 _ rfl
  have p4:=Bz.cell 4 _ rfl
  clear oz lz sz gz nz hUr hbr
  go_wp2_with (first | (refine st_row (by kernel_rfl) 32 _ _ rfl _ #[.slice s0 qd.length t0,.slice s1 qb.length t1,.slice s2 qt.length t2,.slice a5 (qu.length + 1) k5,.slice s4 qn.length t4] rfl rfl 32 _ Rz sz_rep9 rfl (by simp [Value.oneCell']) ?_))
  have q0:=Rr.cell 0 _ rfl
  have q1:=Rr.cell 1 _ rfl
  have q2:=Rr.cell 2 _ rfl
  have q3:=Rr.cell 3 _ rfl
  have q4:=Rr.cell 4 _ rfl
  exact bodyPost_ret (v:=.agg #[.slice s0 qd.length t0,.slice s1 qb.length t1,.slice s2 qt.length t2,.slice a5 (qu.length + 1) k5,.slice s4 qn.length t4]) (by simp [results,Tryz.results76,go_sem,q0,q1,q2,q3,q4]) rfl ⟨(⟨.slice s0 qd.length t0,qd,.slice s1 qb.length t1,qb,.slice s2 qt.length t2,qt,.slice a5 (qu.length + 1) k5,ls,.slice s4 qn.length t4,qn⟩:RepQ),rfl,HQ.out.1,HZ.out.1,HQ.out.2,HZ.out.2.1,HZ.out.2.2⟩
 by_cases hr3:r=3
 ·subst hr3
  clear hr0 hr1 hr2
  obtain ⟨i0,hi,hz0,hz1,hz2⟩:=info_parts infoTxn
  have ND:=nd5 nq
  have hP0:Blk X g 32 #[.slice s0 qd.length t0,.slice s1 qb.length t1,.slice s2 qt.length t2,.slice s3 qu.length t3,.slice s4 qn.length t4]:=Bx
  generalize hP:(fun u:World=>Blk u g 32 #[.slice s0 qd.length t0,.slice s1 qb.length t1,.slice s2 qt.length t2,.slice s3 qu.length t3,.slice s4 qn.length t4])=PP
  have hPX:PP X:=by subst hP;exact hP0
  have cc:∀ u:KeepP PP,u.val.cell? ⟨g,2,none⟩=some (.slice s2 qt.length t2):=fun u=>by have:=u.isP;subst hP;exact this.cell 2 _ rfl
  have hne:Nonempty (KeepP PP):=⟨⟨X,hPX⟩⟩
  go_wp2_with fail
  refine beginX (S:=fun w' => ∃ u:KeepP PP,w' = u.val) (R:=fun _ _=>False) 7 (by kernel_rfl) (fun _ _ _ _ h=>h.elim) ?_
  have hPd:PP X.drew:=by subst hP;exact hP0
  refine segX [(0,3)] 5 (by kernel_rfl) (by kernel_rfl) (by kernel_rfl) (by kernel_rfl) (by kernel_rfl) ⟨⟨X.drew,hPd⟩,rfl⟩ ?_
  simp only [pickR,List.toList_toArray,List.flatMap_cons,List.flatMap_nil,List.drop_succ_cons,List.drop_zero,List.take_succ_cons,List.take_zero,List.cons_append,List.nil_append,List.append_nil]
  repeat go_big_quiet_step (fail)
  refine wpQuiet_nil ?_
  have hbd:Below X.heap.size X X.drew:=(Below.refl _ _).drew
  replace oq:=repK.own_out (F:=[]) oq (Out.of_below hbd) (fun _ _=>by simp)
  replace hS:=hS.below hbd
  replace hg:=grown_low hg (hbd.mono hg.size)
  replace R0:=R0.below hbd
  replace Bx:=Bx.below hbd
  have hXd:X.heap.size≤X.drew.heap.size:=hbd.size
  clear hbd hPd cc hne hPX hP0
  generalize X.drew=Xd at *
  refine callX 3 (some 32) 78 #[.pointer (some ⟨b,0,none⟩)] 4 (by kernel_rfl) (by kernel_rfl) (by kernel_rfl) (by kernel_rfl) (by kernel_rfl) rfl ?_
  refine (l2Bent_any B b (T + 301) Xd hS (by omega)).mono ?_
  rintro e X1 ⟨i,s,q9,a,c,xs,rfl,hx5,ho,hSn,hgn⟩
  have hgs:=hgn.size
  have Bx1:=Bx.grown hgn (by simp only [ne_eq,Option.some.injEq];omega)
  have R1:=R0.grown hgn (by simp only [ne_eq,Option.some.injEq];omega)
  have hlq:=oq.2.2.1.lt
  have oq1:=repK.own_out oq (Out.of_grown hgn) (fun k hk hk' => by simp only [Option.toList,List.mem_singleton] at hk';have:=(low k hk).1;omega)
  obtain ⟨o0,hlo⟩:=own_zero ho
  have oe:txnK.own X1 (⟨i,s,q9,.slice a xs.length c,xs⟩:TxnQ):=⟨o0,fun _ _=>trivial⟩
  have fe:∀ k∈txnK.foot (⟨i,s,q9,.slice a xs.length c,xs⟩:TxnQ),Xd.heap.size≤k:=fun k hk=>hlo k (by rw [← actK_fp (.slice a xs.length c) xs];exact hk)
  have ne:(txnK.foot (⟨i,s,q9,.slice a xs.length c,xs⟩:TxnQ)).Nodup:=by
   show (actK.fp _ _).Nodup
   rw [actK_fp];exact blk_nodup _
  have hed:∀ k∈txnK.foot (⟨i,s,q9,.slice a xs.length c,xs⟩:TxnQ),k ∉ txnK.fp (.slice s2 qt.length t2) qt:=fun k hk hk' => by
   have h1:=hlq k hk'
   have h2:=fe k hk
   omega
  replace hg:=hg.trans hgn
  replace hS:=hSn
  refine Or.inl ⟨_,rfl,⟨⟨X1,by subst hP;exact Bx1⟩,rfl⟩,?_⟩
  simp only [Act.put,List.setIfInBounds_toArray,List.set_cons_zero,List.set_cons_succ]
  refine oneX 4 _ 3 (by kernel_rfl) rfl (by kernel_rfl) ?_
  have hbA:Below X1.heap.size X1 (X1.alloc (.cells #[.int .i64 i,.int .i64 s,.int .i64 q9,.slice a xs.length c] 49)):=by go_grown
  have hOA:=oq1.2.2.1.below hbA
  have hPA:=txnK.own_out (F:=[]) oe (Out.of_below hbA) (fun _ _=>by simp)
  have oqA:=repK.own_out (F:=[]) oq1 (Out.of_below hbA) (fun _ _=>by simp)
  have BxA:=Bx1.below hbA
  have RA:=R1.below hbA
  replace hS:=hS.below hbA
  replace hg:=grown_low hg (hbA.mono hg.size)
  go_wp2
  refine ThenX.to ⟨Or.inr ⟨⟨_,by subst hP;exact BxA⟩,rfl⟩,?_⟩
  have hrow0:=hOA.1
  refine oneX 5 _ 2 (by kernel_rfl) rfl (by kernel_rfl) ?_
  have HQL:Hid (qt.length≤1000):=by have:=HN.out;dsimp only [RepQ.n] at this;show _≤_;omega
  refine wpList_append_own_at _ rfl _ _ 28 rfl 0 49 i0 (.agg #[.int .i64 0,.int .i64 0,.int .i64 0,.slice none 0 0]) 4 48 Tryz.underlying28 hi hz0 hz1 hz2 rfl (by decide) _ qt.length (txnK.row qt) rfl hrow0 ⟨X1.heap.size,0,none⟩ 1 1 [.int .i64 i,.int .i64 s,.int .i64 q9,.slice a xs.length c] rfl rfl ?c1 ?c2 ?c3 ?c4 ?c5 ?_
  case c1=>intro j u hj;match j,hj with | 0,hj=>simp at hj;subst hj;simp [Addr.add] | 1,hj=>simp at hj;subst hj;simp [Addr.add] | 2,hj=>simp at hj;subst hj;simp [Addr.add] | 3,hj=>simp at hj;subst hj;simp [Addr.add]
  case c2=>intro u hu;simp at hu;rcases hu with rfl | rfl | rfl | rfl <;> rfl
  case c3=>have:=HQL.out;unfold maxLen;omega
  case c4=>have:=HQL.out;omega
  case c5=>first | omega | simp
  intro v' X5 hown hgrow hnil hat
  clear hnil hrow0
  have hXA:w.heap.size≤(X1.alloc (.cells #[.int .i64 i,.int .i64 s,.int .i64 q9,.slice a xs.length c] 49)).heap.size:=hg.size
  have hXB:X1.heap.size≤(X1.alloc (.cells #[.int .i64 i,.int .i64 s,.int .i64 q9,.slice a xs.length c] 49)).heap.size:=hbA.size
  generalize hwA:X1.alloc (.cells #[.int .i64 i,.int .i64 s,.int .i64 q9,.slice a xs.length c] 49)=WA at *
  clear hwA
  obtain ⟨hO5,hn5,hlo5,hou⟩:=hOA.snoc (B:=w.heap.size) ND.1.1 (fun k hk=>by have:=(low k (rep_mem.2 (Or.inr (Or.inr (Or.inl hk))))).1;omega) hPA ne hed (fun k hk=>by have:=fe k hk;omega) hXA hown hgrow hat
  obtain ⟨a5,k5,hv5⟩:=hO5.shape
  rw [List.length_append,List.length_singleton] at hv5
  subst hv5
  have bl:∀ k∈blk (.slice s2 qt.length t2),k∈txnK.fp (.slice s2 qt.length t2) qt:=fun k hk=>by simp only [Kind.fp,List.mem_append];exact Or.inl hk
  have gbl:g ∉ blk (.slice s2 qt.length t2):=fun hk=>by have hk:=bl _ hk;exact (low g (rep_mem.2 (Or.inr (Or.inr (Or.inl hk))))).2 rfl
  have rbl:w.heap.size ∉ blk (.slice s2 qt.length t2):=fun hk=>by have hk:=bl _ hk;have:=(low _ (rep_mem.2 (Or.inr (Or.inr (Or.inl hk))))).1;omega
  have hB5:Below w.heap.size WA X5:=Out.keep (Below.refl _ _) hou hXA (fun k hk=>by have hk:=bl _ hk;have:=(low _ (rep_mem.2 (Or.inr (Or.inr (Or.inl hk))))).1;omega)
  replace hS:=hS.low hB5 hlt.2
  replace hg:=grown_low hg hB5
  have Bx5:=BxA.outs8 hou gbl
  have R5:=RA.outs8 hou rbl
  replace oq1:=oqA
  have oy:repK.own X5 (⟨.slice s0 qd.length t0,qd,.slice s1 qb.length t1,qb,.slice a5 (qt.length + 1) k5,qt ++ [(⟨i,s,q9,.slice a xs.length c,xs⟩:TxnQ)],.slice s3 qu.length t3,qu,.slice s4 qn.length t4,qn⟩:RepQ):=⟨oq1.1.out hou (fun k hk hk' => ND.1.2.1 k hk (bl k hk')),oq1.2.1.out hou (fun k hk hk' => ND.1.2.2.1 k hk (bl k hk')),hO5,oq1.2.2.2.1.out hou (fun k hk hk' => ND.1.2.2.2.1 k hk (bl k hk')),oq1.2.2.2.2.out hou (fun k hk hk' => ND.1.2.2.2.2 k hk (bl k hk'))⟩
  have hgn5:∀ k∈txnK.fp (.slice a5 (qt.length + 1) k5) (qt ++ [(⟨i,s,q9,.slice a xs.length c,xs⟩:TxnQ)]),w.heap.size < k∧k≠g:=fun k hk=>by
   have hm:=fp_snoc hat hk
   rcases hm with hk | hk | rfl
   ·exact low k (rep_mem.2 (Or.inr (Or.inr (Or.inl hk))))
   ·have:=fe k hk;omega
   ·have:=hgX;omega
  have lz:∀ k∈repK.foot (⟨.slice s0 qd.length t0,qd,.slice s1 qb.length t1,qb,.slice a5 (qt.length + 1) k5,qt ++ [(⟨i,s,q9,.slice a xs.length c,xs⟩:TxnQ)],.slice s3 qu.length t3,qu,.slice s4 qn.length t4,qn⟩:RepQ),w.heap.size < k:=fun k hk=>by
   rcases rep_mem.1 hk with hk | hk | hk | hk | hk
   ·exact (low k (rep_mem.2 (Or.inl hk))).1
   ·exact (low k (rep_mem.2 (Or.inr (Or.inl hk)))).1
   ·exact (hgn5 k hk).1
   ·exact (low k (rep_mem.2 (Or.inr (Or.inr (Or.inr (Or.inl hk)))))).1
   ·exact (low k (rep_mem.2 (Or.inr (Or.inr (Or.inr (Or.inr hk)))))).1
  have gy:∀ k∈repK.foot (⟨.slice s0 qd.length t0,qd,.slice s1 qb.length t1,qb,.slice a5 (qt.length + 1) k5,qt ++ [(⟨i,s,q9,.slice a xs.length c,xs⟩:TxnQ)],.slice s3 qu.length t3,qu,.slice s4 qn.length t4,qn⟩:RepQ),k≠g:=fun k hk=>by
   rcases rep_mem.1 hk with hk | hk | hk | hk | hk
   ·exact (low k (rep_mem.2 (Or.inl hk))).2
   ·exact (low k (rep_mem.2 (Or.inr (Or.inl hk)))).2
   ·exact (hgn5 k hk).2
   ·exact (low k (rep_mem.2 (Or.inr (Or.inr (Or.inr (Or.inl hk)))))).2
   ·exact (low k (rep_mem.2 (Or.inr (Or.inr (Or.inr (Or.inr hk)))))).2
  go_wp2
  refine ThenX.to ⟨Or.inr ⟨⟨_,by subst hP;exact Bx5⟩,rfl⟩,?_⟩
  refine oneX 6 _ 1 (by kernel_rfl) rfl (by kernel_rfl) ?_
  go_wp2
  refine ThenX.to ⟨Or.inr ⟨⟨_,by subst hP;exact Bx5⟩,rfl⟩,?_⟩
  refine oneX 7 _ 0 (by kernel_rfl) rfl (by kernel_rfl) ?_
  have k1:=Bx5.cell 2 _ rfl
  have k2:=Bx5.frozen 2
  have oz:=repK.own_out oy (Out.setCell X5 g 2 (.slice a5 (qt.length + 1) k5)) (fun k hk hk' => by simp only [List.mem_singleton] at hk';exact gy k hk hk')
  have Bz:Blk (X5.setCell ⟨g,2,none⟩ (.slice a5 (qt.length + 1) k5)) g 32 #[.slice s0 qd.length t0,.slice s1 qb.length t1,.slice a5 (qt.length + 1) k5,.slice s3 qu.length t3,.slice s4 qn.length t4]:=by
   have:=Bx5.set 2 (.slice a5 (qt.length + 1) k5)
   simpa using this
  have Rz:=R5.other (b' := g) (by omega) 2 (.slice a5 (qt.length + 1) k5)
  have sz:=hS.low ((Below.refl w.heap.size X5).setCell (p:=⟨g,2,none⟩) (by show w.heap.size≤g;omega) (.slice a5 (qt.length + 1) k5)) hlt.2
  have gz:=grown_low hg ((Below.refl w.heap.size X5).setCell (p:=⟨g,2,none⟩) (by show w.heap.size≤g;omega) (.slice a5 (qt.length + 1) k5))
  have nz:RepQ.n (⟨.slice s0 qd.length t0,qd,.slice s1 qb.length t1,qb,.slice a5 (qt.length + 1) k5,qt ++ [(⟨i,s,q9,.slice a xs.length c,xs⟩:TxnQ)],.slice s3 qu.length t3,qu,.slice s4 qn.length t4,qn⟩:RepQ)≤3000:=by
   have:=HN.out
   dsimp only [RepQ.n] at this ⊢
   have e1:nmL TxnQ.n (qt ++ [(⟨i,s,q9,.slice a xs.length c,xs⟩:TxnQ)])=nmL TxnQ.n qt + xs.length:=by simp [nmL,TxnQ.n]
   rw [e1,List.length_append,List.length_singleton]
   omega
  clear oy gy hgn5 hO5 hn5 hlo5 hou oqA hOA hPA hown hgrow hat
  generalize qt ++ [(⟨i,s,q9,.slice a xs.length c,xs⟩:TxnQ)]=ls at *
  go_wp2
  clear k1 k2
  refine ThenX.to ⟨Or.inl (by kernel_rfl),?_⟩
  refine endX (by kernel_rfl) ?_
  have Rr:=Rz.row #[.slice s0 qd.length t0,.slice s1 qb.length t1,.slice a5 (qt.length + 1) k5,.slice s3 qu.length t3,.slice s4 qn.length t4]
  have hUr:=out_row (X5.setCell ⟨g,2,none⟩ (.slice a5 (qt.length + 1) k5)) w.heap.size #[.slice s0 qd.length t0,.slice s1 qb.length t1,.slice a5 (qt.length + 1) k5,.slice s3 qu.length t3,.slice s4 qn.length t4]
  have hbr:=below_row (g:=w.heap.size) (Below.refl w.heap.size (X5.setCell ⟨g,2,none⟩ (.slice a5 (qt.length + 1) k5))) (Nat.le_refl _) #[.slice s0 qd.length t0,.slice s1 qb.length t1,.slice a5 (qt.length + 1) k5,.slice s3 qu.length t3,.slice s4 qn.length t4]
  have HZ:Hid (repK.own ((X5.setCell ⟨g,2,none⟩ (.slice a5 (qt.length + 1) k5)).setRow w.heap.size #[.slice s0 qd.length t0,.slice s1 qb.length t1,.slice a5 (qt.length + 1) k5,.slice s3 qu.length t3,.slice s4 qn.length t4]) (⟨.slice s0 qd.length t0,qd,.slice s1 qb.length t1,qb,.slice a5 (qt.length + 1) k5,ls,.slice s3 qu.length t3,qu,.slice s4 qn.length t4,qn⟩:RepQ)∧Src B ((X5.setCell ⟨g,2,none⟩ (.slice a5 (qt.length + 1) k5)).setRow w.heap.size #[.slice s0 qd.length t0,.slice s1 qb.length t1,.slice a5 (qt.length + 1) k5,.slice s3 qu.length t3,.slice s4 qn.length t4]) b (T + 400)∧w.grownBy ((X5.setCell ⟨g,2,none⟩ (.slice a5 (qt.length + 1) k5)).setRow w.heap.size #[.slice s0 qd.length t0,.slice s1 qb.length t1,.slice a5 (qt.length + 1) k5,.slice s3 qu.length t3,.slice s4 qn.length t4]) (some b)):=⟨repK.own_out oz hUr (fun k hk hk' => by simp only [List.mem_singleton] at hk';have:=lz k hk;omega),(sz.low hbr hlt.2).mono (by omega),grown_low gz hbr⟩
  have HQ:Hid (RepQ.n (⟨.slice s0 qd.length t0,qd,.slice s1 qb.length t1,qb,.slice a5 (qt.length + 1) k5,ls,.slice s3 qu.length t3,qu,.slice s4 qn.length t4,qn⟩:RepQ)≤3000∧∀ k∈repK.foot (⟨.slice s0 qd.length t0,qd,.slice s1 qb.length t1,qb,.slice a5 (qt.length + 1) k5,ls,.slice s3 qu.length t3,qu,.slice s4 qn.length t4,qn⟩:RepQ),w.heap.size≤k):=⟨nz,fun k hk=>by have:=lz k hk;omega⟩
  have p0:=Bz.cell 0 _ rfl
  have p1:=Bz.cell 1 _ rfl
  have p2:=Bz.cell 2 _ rfl
  have p3:=Bz.cell 3 _ rfl
  have p4:=Bz.cell 4 _ rfl
  clear oz lz sz gz nz hUr hbr
  go_wp2_with (first | (refine st_row (by kernel_rfl) 32 _ _ rfl _ #[.slice s0 qd.length t0,.slice s1 qb.length t1,.slice a5 (qt.length + 1) k5,.slice s3 qu.length t3,.slice s4 qn.length t4] rfl rfl 32 _ Rz sz_rep9 rfl (by simp [Value.oneCell']) ?_))
  have q0:=Rr.cell 0 _ rfl
  have q1:=Rr.cell 1 _ rfl
  have q2:=Rr.cell 2 _ rfl
  have q3:=Rr.cell 3 _ rfl
  have q4:=Rr.cell 4 _ rfl
  exact bodyPost_ret (v:=.agg #[.slice s0 qd.length t0,.slice s1 qb.length t1,.slice a5 (qt.length + 1) k5,.slice s3 qu.length t3,.slice s4 qn.length t4]) (by simp [results,Tryz.results76,go_sem,q0,q1,q2,q3,q4]) rfl ⟨(⟨.slice s0 qd.length t0,qd,.slice s1 qb.length t1,qb,.slice a5 (qt.length + 1) k5,ls,.slice s3 qu.length t3,qu,.slice s4 qn.length t4,qn⟩:RepQ),rfl,HQ.out.1,HZ.out.1,HQ.out.2,HZ.out.2.1,HZ.out.2.2⟩
 by_cases hr4:r=4
 ·subst hr4
  clear hr0 hr1 hr2 hr3
  obtain ⟨i0,hi,hz0,hz1,hz2⟩:=info_parts infoTxn
  have hby:i0.bytes * 17≤281474976710656:=by rw [hz2];omega
  have hmx:17≤maxLen:=by unfold maxLen;omega
  go_wp2_with (at_make;refine wpList_make_full _ rfl _ _ 28 rfl X.heap.size 49 i0 (.agg #[.int .i64 0,.int .i64 0,.int .i64 0,.slice none 0 0]) 4 Tryz.underlying28 hi hz0 hz1 _ _ _ _ 17 rfl rfl rfl rfl hby hmx (Nat.le_refl _) ?_)
  intro X1 hown hgrow
  have hb3:Below X.heap.size X X1:=(Below.refl _ _).grown hgrow (Nat.le_refl _) (by simp)
  obtain ⟨o0,_⟩:=own_zero hown
  have oN:txnK.Own X1 (.slice (some ⟨X.heap.size,0,none⟩) 17 17) (List.replicate 17 (⟨0,0,0,.slice none 0 0,[]⟩:TxnQ)):=by
   refine ⟨?_,fun p hp=>by rw [List.eq_of_mem_replicate hp];exact zero_own _⟩
   rw [← made_row (K:=txnK) _ _ (by decide),List.length_replicate]
   exact o0
  have fN:∀ k∈txnK.fp (.slice (some ⟨X.heap.size,0,none⟩) 17 17) (List.replicate 17 (⟨0,0,0,.slice none 0 0,[]⟩:TxnQ)),k=X.heap.size:=fun k hk=>by
   have e:txnK.fp (.slice (some ⟨X.heap.size,0,none⟩) 17 17) (List.replicate 17 (⟨0,0,0,.slice none 0 0,[]⟩:TxnQ))=[X.heap.size]:=fp_new (K:=txnK) (by rfl)
   rw [e] at hk
   simpa using hk
  have oq1:=repK.own_out (F:=[]) oq (Out.of_below hb3) (fun _ _=>by simp)
  have hXs:=hb3.size
  have Bx1:=Bx.below hb3
  have R1:=R0.below hb3
  have k1:=Bx1.cell 0 _ rfl
  have k2:=Bx1.frozen 0
  have oy:repK.own X1 (⟨.slice (some ⟨X.heap.size,0,none⟩) 17 17,List.replicate 17 (⟨0,0,0,.slice none 0 0,[]⟩:TxnQ),.slice s1 qb.length t1,qb,.slice s2 qt.length t2,qt,.slice s3 qu.length t3,qu,.slice s4 qn.length t4,qn⟩:RepQ):=⟨oN,oq1.2⟩
  have lz:∀ k∈repK.foot (⟨.slice (some ⟨X.heap.size,0,none⟩) 17 17,List.replicate 17 (⟨0,0,0,.slice none 0 0,[]⟩:TxnQ),.slice s1 qb.length t1,qb,.slice s2 qt.length t2,qt,.slice s3 qu.length t3,qu,.slice s4 qn.length t4,qn⟩:RepQ),w.heap.size < k:=fun k hk=>by
   rcases rep_mem.1 hk with hk | hk | hk | hk | hk
   ·have:=fN k hk;omega
   ·exact (low k (rep_mem.2 (Or.inr (Or.inl hk)))).1
   ·exact (low k (rep_mem.2 (Or.inr (Or.inr (Or.inl hk))))).1
   ·exact (low k (rep_mem.2 (Or.inr (Or.inr (Or.inr (Or.inl hk)))))).1
   ·exact (low k (rep_mem.2 (Or.inr (Or.inr (Or.inr (Or.inr hk)))))).1
  have gy:∀ k∈repK.foot (⟨.slice (some ⟨X.heap.size,0,none⟩) 17 17,List.replicate 17 (⟨0,0,0,.slice none 0 0,[]⟩:TxnQ),.slice s1 qb.length t1,qb,.slice s2 qt.length t2,qt,.slice s3 qu.length t3,qu,.slice s4 qn.length t4,qn⟩:RepQ),k≠g:=fun k hk=>by
   rcases rep_mem.1 hk with hk | hk | hk | hk | hk
   ·have:=fN k hk;omega
   ·exact (low k (rep_mem.2 (Or.inr (Or.inl hk)))).2
   ·exact (low k (rep_mem.2 (Or.inr (Or.inr (Or.inl hk))))).2
   ·exact (low k (rep_mem.2 (Or.inr (Or.inr (Or.inr (Or.inl hk)))))).2
   ·exact (low k (rep_mem.2 (Or.inr (Or.inr (Or.inr (Or.inr hk)))))).2
  have oz:=repK.own_out oy (Out.setCell X1 g 0 (.slice (some ⟨X.heap.size,0,none⟩) 17 17)) (fun k hk hk' => by simp only [List.mem_singleton] at hk';exact gy k hk hk')
  have Bz:Blk (X1.setCell ⟨g,0,none⟩ (.slice (some ⟨X.heap.size,0,none⟩) 17 17)) g 32 #[.slice (some ⟨X.heap.size,0,none⟩) 17 17,.slice s1 qb.length t1,.slice s2 qt.length t2,.slice s3 qu.length t3,.slice s4 qn.length t4]:=by
   have:=Bx1.set 0 (.slice (some ⟨X.heap.size,0,none⟩) 17 17)
   simpa using this
  have Rz:=R1.other (b' := g) (by omega) 0 (.slice (some ⟨X.heap.size,0,none⟩) 17 17)
  have sz:=(hS.below hb3).low ((Below.refl w.heap.size X1).setCell (p:=⟨g,0,none⟩) (by show w.heap.size≤g;omega) (.slice (some ⟨X.heap.size,0,none⟩) 17 17)) hlt.2
  have gz:=grown_low (grown_low hg (hb3.mono hg.size)) ((Below.refl w.heap.size X1).setCell (p:=⟨g,0,none⟩) (by show w.heap.size≤g;omega) (.slice (some ⟨X.heap.size,0,none⟩) 17 17))
  have nz:RepQ.n (⟨.slice (some ⟨X.heap.size,0,none⟩) 17 17,List.replicate 17 (⟨0,0,0,.slice none 0 0,[]⟩:TxnQ),.slice s1 qb.length t1,qb,.slice s2 qt.length t2,qt,.slice s3 qu.length t3,qu,.slice s4 qn.length t4,qn⟩:RepQ)≤3000:=by
   have:=HN.out
   dsimp only [RepQ.n] at this ⊢
   have e1:nmL TxnQ.n (List.replicate 17 (⟨0,0,0,.slice none 0 0,[]⟩:TxnQ))=0:=by rfl
   rw [e1,List.length_replicate]
   omega
  clear oy gy oN fN o0 hown hgrow hb3 oq1 oq nq low hS hg Bx R0
  have Rr:=Rz.row #[.slice (some ⟨X.heap.size,0,none⟩) 17 17,.slice s1 qb.length t1,.slice s2 qt.length t2,.slice s3 qu.length t3,.slice s4 qn.length t4]
  have hUr:=out_row (X1.setCell ⟨g,0,none⟩ (.slice (some ⟨X.heap.size,0,none⟩) 17 17)) w.heap.size #[.slice (some ⟨X.heap.size,0,none⟩) 17 17,.slice s1 qb.length t1,.slice s2 qt.length t2,.slice s3 qu.length t3,.slice s4 qn.length t4]
  have hbr:=below_row (g:=w.heap.size) (Below.refl w.heap.size (X1.setCell ⟨g,0,none⟩ (.slice (some ⟨X.heap.size,0,none⟩) 17 17))) (Nat.le_refl _) #[.slice (some ⟨X.heap.size,0,none⟩) 17 17,.slice s1 qb.length t1,.slice s2 qt.length t2,.slice s3 qu.length t3,.slice s4 qn.length t4]
  have HZ:Hid (repK.own ((X1.setCell ⟨g,0,none⟩ (.slice (some ⟨X.heap.size,0,none⟩) 17 17)).setRow w.heap.size #[.slice (some ⟨X.heap.size,0,none⟩) 17 17,.slice s1 qb.length t1,.slice s2 qt.length t2,.slice s3 qu.length t3,.slice s4 qn.length t4]) (⟨.slice (some ⟨X.heap.size,0,none⟩) 17 17,List.replicate 17 (⟨0,0,0,.slice none 0 0,[]⟩:TxnQ),.slice s1 qb.length t1,qb,.slice s2 qt.length t2,qt,.slice s3 qu.length t3,qu,.slice s4 qn.length t4,qn⟩:RepQ)∧Src B ((X1.setCell ⟨g,0,none⟩ (.slice (some ⟨X.heap.size,0,none⟩) 17 17)).setRow w.heap.size #[.slice (some ⟨X.heap.size,0,none⟩) 17 17,.slice s1 qb.length t1,.slice s2 qt.length t2,.slice s3 qu.length t3,.slice s4 qn.length t4]) b (T + 400)∧w.grownBy ((X1.setCell ⟨g,0,none⟩ (.slice (some ⟨X.heap.size,0,none⟩) 17 17)).setRow w.heap.size #[.slice (some ⟨X.heap.size,0,none⟩) 17 17,.slice s1 qb.length t1,.slice s2 qt.length t2,.slice s3 qu.length t3,.slice s4 qn.length t4]) (some b)):=⟨repK.own_out oz hUr (fun k hk hk' => by simp only [List.mem_singleton] at hk';have:=lz k hk;omega),(sz.low hbr hlt.2).mono (by omega),grown_low gz hbr⟩
  have HQ:Hid (RepQ.n (⟨.slice (some ⟨X.heap.size,0,none⟩) 17 17,List.replicate 17 (⟨0,0,0,.slice none 0 0,[]⟩:TxnQ),.slice s1 qb.length t1,qb,.slice s2 qt.length t2,qt,.slice s3 qu.length t3,qu,.slice s4 qn.length t4,qn⟩:RepQ)≤3000∧∀ k∈repK.foot (⟨.slice (some ⟨X.heap.size,0,none⟩) 17 17,List.replicate 17 (⟨0,0,0,.slice none 0 0,[]⟩:TxnQ),.slice s1 qb.length t1,qb,.slice s2 qt.length t2,qt,.slice s3 qu.length t3,qu,.slice s4 qn.length t4,qn⟩:RepQ),w.heap.size≤k):=⟨nz,fun k hk=>by have:=lz k hk;omega⟩
  have p0:=Bz.cell 0 _ rfl
  have p1:=Bz.cell 1 _ rfl
  have p2:=Bz.cell 2 _ rfl
  have p3:=Bz.cell 3 _ rfl
  have p4:=Bz.cell 4 _ rfl
  clear oz lz sz gz nz hUr hbr
  go_wp2_with (first | (refine st_row (by kernel_rfl) 32 _ _ rfl _ #[.slice (some ⟨X.heap.size,0,none⟩) 17 17,.slice s1 qb.length t1,.slice s2 qt.length t2,.slice s3 qu.length t3,.slice s4 qn.length t4] rfl rfl 32 _ Rz sz_rep9 rfl (by simp [Value.oneCell']) ?_))
  have q0:=Rr.cell 0 _ rfl
  have q1:=Rr.cell 1 _ rfl
  have q2:=Rr.cell 2 _ rfl
  have q3:=Rr.cell 3 _ rfl
  have q4:=Rr.cell 4 _ rfl
  exact bodyPost_ret (v:=.agg #[.slice (some ⟨X.heap.size,0,none⟩) 17 17,.slice s1 qb.length t1,.slice s2 qt.length t2,.slice s3 qu.length t3,.slice s4 qn.length t4]) (by simp [results,Tryz.results76,go_sem,q0,q1,q2,q3,q4]) rfl ⟨(⟨.slice (some ⟨X.heap.size,0,none⟩) 17 17,List.replicate 17 (⟨0,0,0,.slice none 0 0,[]⟩:TxnQ),.slice s1 qb.length t1,qb,.slice s2 qt.length t2,qt,.slice s3 qu.length t3,qu,.slice s4 qn.length t4,qn⟩:RepQ),rfl,HQ.out.1,HZ.out.1,HQ.out.2,HZ.out.2.1,HZ.out.2.2⟩
 have hr0' : (r == 0)=false:=by simpa using hr0
 have hr1' : (r == 1)=false:=by simpa using hr1
 have hr2' : (r == 2)=false:=by simpa using hr2
 have hr3' : (r == 3)=false:=by simpa using hr3
 have hr4' : (r == 4)=false:=by simpa using hr4
 clear hr0 hr1 hr2 hr3 hr4
 have oz:=oq
 have Bz:=Bx
 have Rz:=R0
 have sz:=hS
 have gz:=hg
 have lz:∀ k∈repK.foot (⟨.slice s0 qd.length t0,qd,.slice s1 qb.length t1,qb,.slice s2 qt.length t2,qt,.slice s3 qu.length t3,qu,.slice s4 qn.length t4,qn⟩:RepQ),w.heap.size < k:=fun k hk=>(low k hk).1
 have nz:RepQ.n (⟨.slice s0 qd.length t0,qd,.slice s1 qb.length t1,qb,.slice s2 qt.length t2,qt,.slice s3 qu.length t3,qu,.slice s4 qn.length t4,qn⟩:RepQ)≤3000:=by have:=HN.out;omega
 clear oq Bx R0 hS hg nq low
 have Rr:=Rz.row #[.slice s0 qd.length t0,.slice s1 qb.length t1,.slice s2 qt.length t2,.slice s3 qu.length t3,.slice s4 qn.length t4]
 have hUr:=out_row (X) w.heap.size #[.slice s0 qd.length t0,.slice s1 qb.length t1,.slice s2 qt.length t2,.slice s3 qu.length t3,.slice s4 qn.length t4]
 have hbr:=below_row (g:=w.heap.size) (Below.refl w.heap.size (X)) (Nat.le_refl _) #[.slice s0 qd.length t0,.slice s1 qb.length t1,.slice s2 qt.length t2,.slice s3 qu.length t3,.slice s4 qn.length t4]
 have HZ:Hid (repK.own ((X).setRow w.heap.size #[.slice s0 qd.length t0,.slice s1 qb.length t1,.slice s2 qt.length t2,.slice s3 qu.length t3,.slice s4 qn.length t4]) (⟨.slice s0 qd.length t0,qd,.slice s1 qb.length t1,qb,.slice s2 qt.length t2,qt,.slice s3 qu.length t3,qu,.slice s4 qn.length t4,qn⟩:RepQ)∧Src B ((X).setRow w.heap.size #[.slice s0 qd.length t0,.slice s1 qb.length t1,.slice s2 qt.length t2,.slice s3 qu.length t3,.slice s4 qn.length t4]) b (T + 400)∧w.grownBy ((X).setRow w.heap.size #[.slice s0 qd.length t0,.slice s1 qb.length t1,.slice s2 qt.length t2,.slice s3 qu.length t3,.slice s4 qn.length t4]) (some b)):=⟨repK.own_out oz hUr (fun k hk hk' => by simp only [List.mem_singleton] at hk';have:=lz k hk;omega),(sz.low hbr hlt.2).mono (by omega),grown_low gz hbr⟩
 have HQ:Hid (RepQ.n (⟨.slice s0 qd.length t0,qd,.slice s1 qb.length t1,qb,.slice s2 qt.length t2,qt,.slice s3 qu.length t3,qu,.slice s4 qn.length t4,qn⟩:RepQ)≤3000∧∀ k∈repK.foot (⟨.slice s0 qd.length t0,qd,.slice s1 qb.length t1,qb,.slice s2 qt.length t2,qt,.slice s3 qu.length t3,qu,.slice s4 qn.length t4,qn⟩:RepQ),w.heap.size≤k):=⟨nz,fun k hk=>by have:=lz k hk;omega⟩
 have p0:=Bz.cell 0 _ rfl
 have p1:=Bz.cell 1 _ rfl
 have p2:=Bz.cell 2 _ rfl
 have p3:=Bz.cell 3 _ rfl
 have p4:=Bz.cell 4 _ rfl
 clear oz lz sz gz nz hUr hbr
 go_wp2_with (first | (refine st_row (by kernel_rfl) 32 _ _ rfl _ #[.slice s0 qd.length t0,.slice s1 qb.length t1,.slice s2 qt.length t2,.slice s3 qu.length t3,.slice s4 qn.length t4] rfl rfl 32 _ Rz sz_rep9 rfl (by simp [Value.oneCell']) ?_))
 have q0:=Rr.cell 0 _ rfl
 have q1:=Rr.cell 1 _ rfl
 have q2:=Rr.cell 2 _ rfl
 have q3:=Rr.cell 3 _ rfl
 have q4:=Rr.cell 4 _ rfl
 exact bodyPost_ret (v:=.agg #[.slice s0 qd.length t0,.slice s1 qb.length t1,.slice s2 qt.length t2,.slice s3 qu.length t3,.slice s4 qn.length t4]) (by simp [results,Tryz.results76,go_sem,q0,q1,q2,q3,q4]) rfl ⟨(⟨.slice s0 qd.length t0,qd,.slice s1 qb.length t1,qb,.slice s2 qt.length t2,qt,.slice s3 qu.length t3,qu,.slice s4 qn.length t4,qn⟩:RepQ),rfl,HQ.out.1,HZ.out.1,HQ.out.2,HZ.out.2.1,HZ.out.2.2⟩

end Go.Proofs.YtfdkcbafpiojkaaGreatDoor
