/- Texts joined, with what the laws reach alone. -/
import Derived.Test.YtfdkcbafpiojkaaGreatDoorSGAY
set_option linter.unusedVariables false
set_option linter.unusedSimpArgs false
namespace Go.Proofs.YtfdkcbafpiojkaaGreatDoor
open Go.RowKit
open Go.BigFrame
set_option maxRecDepth 100000
set_option maxHeartbeats 2000000 in
theorem l9Bad_any (c:Int) (w:World) :
  Calls Tryz.prog 53 #[.int .i64 c] w fun e w' => e=.returned (.agg #[.int .i64 c,.int .i64 0,.int .i64 0,.slice none 0 0,.slice none 0 0,.slice none 0 0,.slice none 0 0,.slice none 0 0])∧Below w.heap.size w w' := by
 have hB:Below w.heap.size w (w.alloc (.cells #[.int .i64 0,.int .i64 0,.int .i64 0,.slice none 0 0,.slice none 0 0,.slice none 0 0,.slice none 0 0,.slice none 0 0] 34)):=by go_grown
 have Rb:=Blk.new w 34 #[.int .i64 0,.int .i64 0,.int .i64 0,.slice none 0 0,.slice none 0 0,.slice none 0 0,.slice none 0 0,.slice none 0 0]
 have Rr:=Rb.row #[.int .i64 c,.int .i64 0,.int .i64 0,.slice none 0 0,.slice none 0 0,.slice none 0 0,.slice none 0 0,.slice none 0 0]
 have hBr:=below_row hB (g:=w.heap.size) (Nat.le_refl _) #[.int .i64 c,.int .i64 0,.int .i64 0,.slice none 0 0,.slice none 0 0,.slice none 0 0,.slice none 0 0,.slice none 0 0]
 go_enter Tryz.func53,Tryz.ntmps53
 go_wp2_with (first | (refine st_row (by kernel_rfl) 34 _ _ rfl _ #[.int .i64 c,.int .i64 0,.int .i64 0,.slice none 0 0,.slice none 0 0,.slice none 0 0,.slice none 0 0,.slice none 0 0] rfl rfl 34 _ Rb sz_rr rfl (by simp [Value.oneCell']) ?_))
 have z0:=Rr.cell 0 _ rfl
 have z1:=Rr.cell 1 _ rfl
 have z2:=Rr.cell 2 _ rfl
 have z3:=Rr.cell 3 _ rfl
 have z4:=Rr.cell 4 _ rfl
 have z5:=Rr.cell 5 _ rfl
 have z6:=Rr.cell 6 _ rfl
 have z7:=Rr.cell 7 _ rfl
 exact bodyPost_ret (v:=.agg #[.int .i64 c,.int .i64 0,.int .i64 0,.slice none 0 0,.slice none 0 0,.slice none 0 0,.slice none 0 0,.slice none 0 0]) (by simp [results,Tryz.results53,go_sem,z0,z1,z2,z3,z4,z5,z6,z7]) rfl ⟨rfl,hBr⟩

end Go.Proofs.YtfdkcbafpiojkaaGreatDoor
namespace Go.Proofs.YtfdkcbafpiojkaaGreatDoor
open Go.RowKit
set_option maxRecDepth 100000
theorem lst_sub {xs ds:List TxnD} (h:lstF ds=0) (hs:xs.Sublist ds):lstF xs=0:=by
 obtain ⟨h1,h2,h3⟩:=(lst_iff ds).1 h
 exact (lst_iff xs).2 ⟨Nat.le_trans hs.length_le h1,fun t ht=>h2 t (hs.subset ht),h3.sublist hs⟩

end Go.Proofs.YtfdkcbafpiojkaaGreatDoor
namespace Go.Proofs.YtfdkcbafpiojkaaGreatDoor
open Go.RowKit
open Go.BigFrame
set_option maxRecDepth 100000
theorem iSR (p q:RepQ) (w:World) (h:repK.own w p) (h' : repK.own w q) (he:p.e=q.e) (hl:p.n≤1048576) (hl' : q.n≤1048576):Calls Tryz.prog 38 #[.agg #[p.vd,p.vb,p.vt,p.vu,p.vn],.agg #[q.vd,q.vb,q.vt,q.vu,q.vn]] w fun e w' => e=.returned (.bool true)∧Below w.heap.size w w' := by
 have:=implSameReplicas_any p q w (repK.own_rd h) (repK.own_rd h') hl hl'
 rw [he,sameRep_refl9] at this
 exact this

end Go.Proofs.YtfdkcbafpiojkaaGreatDoor
