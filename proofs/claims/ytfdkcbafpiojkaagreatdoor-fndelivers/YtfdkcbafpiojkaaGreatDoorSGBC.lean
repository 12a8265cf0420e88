/- Texts joined, with what the laws reach alone. -/
import Derived.Test.YtfdkcbafpiojkaaGreatDoorSGAE
set_option linter.unusedVariables false
set_option linter.unusedSimpArgs false
namespace Go.Proofs.YtfdkcbafpiojkaaGreatDoor
open Go.RowKit
set_option maxRecDepth 100000
theorem uss_n {ps qs:List USQ} (h:ps.map USQ.e=qs.map USQ.e):ps.length + nmL USQ.n ps=qs.length + nmL USQ.n qs:=by
 have e:∀ l:List USQ,nmL USQ.n l=nmL List.length (l.map USQ.e):=fun l=>by simp only [nmL,List.map_map];rfl
 have hl:ps.length=qs.length:=by simpa using congrArg List.length h
 rw [e,e,h,hl]

theorem txq_n {ps qs:List TxnQ} (h:ps.map TxnQ.e=qs.map TxnQ.e):ps.length + nmL TxnQ.n ps=qs.length + nmL TxnQ.n qs:=by
 have e:∀ l:List TxnQ,nmL TxnQ.n l=nmL TxnD.n (l.map TxnQ.e):=fun l=>by simp only [nmL,List.map_map];rfl
 have hl:ps.length=qs.length:=by simpa using congrArg List.length h
 rw [e,e,h,hl]

theorem rep_n {p q:RepQ} (h:p.e=q.e):p.n=q.n:=by
 simp only [RepQ.e,RepE.mk.injEq] at h
 obtain ⟨h0,h1,h2,h3,h4⟩:=h
 simp only [RepQ.n]
 have a0:=txq_n h0
 have a2:=txq_n h2
 have a3:=uss_n h3
 rw [h1,h4]
 omega

theorem rep_n9 {p q:RepQ} (h:p.e=q.e) (hl:p.n≤1048576):q.n≤1048576:=by rw [← rep_n h];exact hl

end Go.Proofs.YtfdkcbafpiojkaaGreatDoor
