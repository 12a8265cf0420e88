/- Texts joined, with what the law reaches alone. -/
import Derived.Test.YthmcgflmejofbaaGreatDoorSRAA
import Derived.Test.YthmcgflmejofbaaGreatDoorProg
import Derived.WalkKit
import Derived.BigQuiet
import Derived.Deep.RegionHeld3
import Derived.Handy
set_option linter.unusedVariables false
set_option linter.unusedSimpArgs false
namespace Go.Proofs.YthmcgflmejofbaaGreatDoor
open Go.RowKit
set_option maxRecDepth 100000
section
variable {P:Type} {K:Kind P} {w w' : World} {v:Value} {ps:List P}
theorem made_row (z:P) (n:Nat) (hs:0 < K.size):(madeCells (K.cells z).toArray (n * K.size)).toList=K.row (List.replicate n z):=by
 have hl:=Kind.row_length (K:=K) (List.replicate n z)
 rw [List.length_replicate] at hl
 apply List.ext_getElem?
 intro j
 by_cases hj:j < n * K.size
 ·have hm:=Nat.mod_lt j hs
  have hq:j / K.size < n:=Nat.div_lt_of_lt_mul (by rw [Nat.mul_comm];exact hj)
  have e:j=j / K.size * K.size + j % K.size:=by rw [Nat.mul_comm];exact (Nat.div_add_mod j K.size).symm
  have e2:=Kind.row_get (K:=K) (List.replicate n z) (j / K.size) (by simpa using hq) (j % K.size) hm
  rw [← e] at e2
  rw [e2]
  have hz:(K.cells z).length=K.size:=K.len z
  simp only [madeCells,Array.toList_map,Array.toList_range,List.getElem?_map,List.getElem?_range hj,Option.map_some,List.size_toArray,hz,List.getElem_replicate]
  rw [List.getElem!_toArray,List.getElem?_eq_getElem (by omega),getElem!_pos (K.cells z) (j % K.size) (by omega)]
 ·rw [List.getElem?_eq_none (by simp [size_madeCells];omega),List.getElem?_eq_none (by omega)]

theorem fp_new {z:P} {n g cap:Nat} (hz:K.foot z=[]):K.fp (.slice (some ⟨g,0,none⟩) n cap) (List.replicate n z)=[g]:=by
 have:(List.replicate n z).flatMap K.foot=[]:=by
  rw [List.flatMap_eq_nil_iff]
  intro x hx
  rw [(List.mem_replicate.1 hx).2,hz]
 simp [Kind.fp,blk,Value.ownBlock,this]

theorem set_split (ps:List P) (i:Nat) (hi:i < ps.length) (p:P):ps.set i p=ps.take i ++ p :: ps.drop (i + 1):=by
 rw [List.set_eq_take_append_cons_drop,if_pos hi]

theorem mem_foot_set {ps:List P} {i:Nat} (hi:i < ps.length) {p:P} {k:Nat} (h:k∈(ps.set i p).flatMap K.foot):k∈ps.flatMap K.foot∨k∈K.foot p:=by
 obtain ⟨q,hq,hk⟩:=List.mem_flatMap.1 h
 rcases List.mem_or_eq_of_mem_set hq with hq | rfl
 ·exact Or.inl (List.mem_flatMap.2 ⟨q,hq,hk⟩)
 ·exact Or.inr hk

theorem nodup_put {ps:List P} (h:(K.fp v ps).Nodup) (i:Nat) (hi:i < ps.length) (p:P) (h0:K.foot ps[i]=[]) (hp:(K.foot p).Nodup) (hd:∀ k∈K.foot p,k ∉ K.fp v ps):(K.fp v (ps.set i p)).Nodup:=by
 have e:ps=ps.take i ++ ps[i] :: ps.drop (i + 1):=by
  conv=>lhs;rw [← List.take_append_drop i ps,List.drop_eq_getElem_cons hi]
 have hA:K.fp v ps=blk v ++ ((ps.take i).flatMap K.foot ++ (ps.drop (i + 1)).flatMap K.foot):=by
  conv=>lhs;rw [e]
  simp only [Kind.fp,List.flatMap_append,List.flatMap_cons,h0,List.nil_append]
 rw [hA] at h hd
 simp only [Kind.fp]
 rw [set_split ps i hi p]
 simp only [List.flatMap_append,List.flatMap_cons]
 generalize blk v=A at *
 generalize (ps.take i).flatMap K.foot=B at *
 generalize (ps.drop (i + 1)).flatMap K.foot=C at *
 generalize K.foot p=D at *
 simp only [List.nodup_append,List.mem_append] at h hd ⊢
 obtain ⟨hA1,⟨hB1,hC1,hBC⟩,hABC⟩:=h
 refine ⟨hA1,⟨hB1,⟨hp,hC1,?_⟩,?_⟩,?_⟩
 ·rintro a ha b hb rfl
  exact hd a ha (Or.inr (Or.inr hb))
 ·rintro a ha b (hb | hb) rfl
  ·exact hd a hb (Or.inr (Or.inl ha))
  ·exact hBC a ha a hb rfl
 ·rintro a ha b (hb | hb | hb) rfl
  ·exact hABC a ha a (Or.inl hb) rfl
  ·exact hd a hb (Or.inl ha)
  ·exact hABC a ha a (Or.inr hb) rfl

section
variable {g n cap k:Nat} {hs:List P} {p:P}
end
end
theorem Out.set {F:List Nat} {w W:World} {b j:Nat} {u:Value} (h:Out F w W) (hb:b∈F):Out F w (W.setCell ⟨b,j,none⟩ u):=h.trans ((Out.setCell W b j u).mono (fun k hk=>by simp only [List.mem_singleton] at hk;rw [hk];exact hb))

theorem Out.call {F:List Nat} {w W W' : World} (h:Out F w W) (hb:Below W.heap.size W W'):Out F w W' := h.trans (Out.of_below hb)

theorem Below.call {B:Nat} {w W W' : World} (h:Below B w W) (hs:B≤W.heap.size) (hb:Below W.heap.size W W'):Below B w W' := h.trans (hb.mono hs)

/-- A row of cells is written over, place by place. -/
theorem own_setFrom {w:World} {base e s g n cap:Nat} {xs:List Value} (h:w.ownsRow base e s (.slice (some ⟨g,0,none⟩) n cap) n xs) (o:Nat) (ys:List Value) :
  (ys.zipIdx.foldl (fun w (y:Value × Nat)=>w.setCell ⟨g,o + y.2,none⟩ y.1) w).ownsRow base e s (.slice (some ⟨g,0,none⟩) n cap) n (setFrom xs o ys):=by
 suffices H:∀ (ys:List Value) (w:World) (xs:List Value) (d:Nat),w.ownsRow base e s (.slice (some ⟨g,0,none⟩) n cap) n xs→((ys.zipIdx d).foldl (fun w (y:Value × Nat)=>w.setCell ⟨g,o + y.2,none⟩ y.1) w).ownsRow base e s (.slice (some ⟨g,0,none⟩) n cap) n (setFrom xs (o + d) ys) from H ys w xs 0 h
 intro ys
 induction ys with
 | nil=>intro w xs d h;exact h
 | cons y ys ih=>
  intro w xs d h
  have:=ih (w.setCell ⟨g,o + d,none⟩ y) (xs.set (o + d) y) (d + 1) (h.stored (o + d) y).1
  simpa [List.zipIdx_cons,setFrom,Nat.add_assoc] using this

end Go.Proofs.YthmcgflmejofbaaGreatDoor
namespace Go.Proofs.YthmcgflmejofbaaGreatDoor
open Go.RowKit
set_option maxRecDepth 100000
theorem infoI64:(Tryz.prog.info? 2).map (fun i=>(i.zero,i.size,i.bytes))=some (some (.int .i64 0),1,8):=by kernel_rfl

end Go.Proofs.YthmcgflmejofbaaGreatDoor
namespace Go.Proofs.YthmcgflmejofbaaGreatDoor
open Go.RowKit
set_option maxRecDepth 100000
/-- The worlds that have new memory alone beside w. -/
structure Lat (w:World) where
 val:World
 isBelow:Below w.heap.size w val

/-- The worlds that are as w below B. -/
structure LatB (B:Nat) (w:World) where
 val:World
 isBelow:Below B w val

/-- Operations that yield one value and nothing else. -/
def plainB:Op→Bool
 | .move _=>true
 | .assign _=>true
 | .pick _ _ _=>true
 | .load _ _=>true
 | .fieldAddr _ _ _=>true
 | .field _ _ _=>true
 | .binOp _ _ _ _ _=>true
 | .unOp _ _ _=>true
 | .convert _ _ _=>true
 | .indexAddr _ _ _=>true
 | .extract _ _=>true
 | .nilCheck _=>true
 | .build _ _=>true
 | _=>false

theorem value_of_bind {P:Program} {s:Sem Value} {w w' : World} {n:Next} (h:(do let x ← s;pure (Next.value x):Sem Next).run P w=.ok n w'):∃ v,n=.value v:=by
 rw [Sem.run_bind] at h
 cases hs:s.run P w with
 | ok x w1=>
  rw [hs] at h
  simp [Result.andThen,Sem.run_pure] at h
  exact ⟨x,h.1.symm⟩
 | halt x w1=>
  rw [hs] at h
  simp [Result.andThen] at h

theorem value_of_nil {P:Program} {g:Program→Sem (Option Bool)} {u:Unsupported} {x:Value} {w w' : World} {n:Next}
  (h:(do let p ← program;let r ← g p;if (r != some false)=true then do unsupported u;pure (Next.value x) else pure (Next.value x):Sem Next).run P w=.ok n w'):∃ v,n=.value v:=by
 simp only [Sem.run_bind,run_program,Result.andThen_ok] at h
 cases hs:(g P).run P w with
 | ok r w1=>
  rw [hs] at h
  simp only [Result.andThen_ok] at h
  split at h
  ·rw [Sem.run_bind] at h
   cases hu:(unsupported u:Sem Unit).run P w1 with
   | ok r w2=>rw [hu] at h;simp [Sem.run_pure] at h;exact ⟨_,h.1.symm⟩
   | halt r w2=>rw [hu] at h;simp [Result.andThen] at h
  ·simp [Sem.run_pure] at h;exact ⟨_,h.1.symm⟩
 | halt r w1=>rw [hs] at h;simp [Result.andThen] at h

theorem plain_value {P:Program} {o:Oper} {ρ:Operand→Value} {w w' : World} {n:Next} (hp:plainB o.op=true) (h:(execOp ρ o).run P w=.ok n w'):∃ v,n=.value v:=by
  unfold execOp at h
  cases hop:o.op <;> rw [hop] at hp <;> simp only [plainB,Bool.false_eq_true] at hp <;> rw [hop] at h <;> dsimp only at h
  all_goals first
    | exact value_of_bind h
    | (simp [Sem.run_pure] at h;exact ⟨_,h.1.symm⟩)
    | (split at h
       all_goals first
         | (simp [Sem.run_pure] at h;exact ⟨_,h.1.symm⟩)
         | (simp [go_sem] at h;done)
         | (split at h
            all_goals first
              | (simp [Sem.run_pure] at h;exact ⟨_,h.1.symm⟩)
              | (simp [go_sem] at h;done)
              | (exact value_of_nil (g:=fun p=>nilAhead (p.types.size + Made.depth) _ _ _) h)))
    | (rw [Sem.run_bind] at h
       revert h
       cases (asBool (ρ _)).run P w with
       | ok x w1=>intro h;simp [Result.andThen,Sem.run_pure] at h;exact ⟨_,h.1.symm⟩
       | halt x w1=>intro h;simp [Result.andThen] at h)

section
variable {P:Program} {ops:Array Oper} {Q:Exit→Act→World→Prop} {S:World→Prop}
/-- These may come up one behind the other, each ahead of all that has not come up. -/
def okSeg (ops:Array Oper):List Nat→Array Bool→Bool
 | [],_=>true
 | i :: r,l=>Region.free .any ops l i && (Region.ready .any ops l).contains i && okSeg ops r (l.setIfInBounds i true)

/-- What has come up behind these. -/
def upTo:List Nat→Array Bool→Array Bool
 | [],l=>l
 | i :: r,l=>upTo r (l.setIfInBounds i true)

/-- The numbers, and the operations, of ranges (from, how many). -/
def idxR (rs:List (Nat × Nat)):List Nat:=rs.flatMap fun r=>(List.range r.2).map (r.1 + ·)

def pickR (l:List Oper) (rs:List (Nat × Nat)):List Oper:=rs.flatMap fun r=>(l.drop r.1).take r.2

theorem seg_sound (hs:Region.noSelect ops=true) (hQ:∀ c a d v w,Q (.panic c) (a.put d v) w→Q (.panic c) a w) :
  ∀ (idx:List Nat) (os:List Oper) (l:Array Bool) (a:Act) (w:World) (fuel:Nat),idx.map (ops[·]?)=os.map some→os.all (fun o=>plainB o.op)=true→okSeg ops idx l=true→S w →
   wpQuiet P ops S (fun a' => wpAnyH P .any ops Q S fuel (upTo idx l) a' w) os a→wpAnyH P .any ops Q S (fuel + idx.length) l a w:=by
 intro idx
 induction idx with
 | nil=>
  intro os l a w fuel hos _ _ _ h
  cases os with
  | nil=>exact h
  | cons o os=>simp at hos
 | cons i r ih=>
  intro os l a w fuel hos hpl hok hS h
  cases os with
  | nil=>simp at hos
  | cons o os=>
   simp only [List.map_cons,List.cons.injEq] at hos
   simp only [List.all_cons,Bool.and_eq_true] at hpl
   simp only [okSeg,Bool.and_eq_true] at hok
   obtain ⟨⟨hf,hr⟩,hok'⟩:=hok
   simp only [wpQuiet] at h
   by_cases hw:Region.wanted o (yielded ops a.tmps)=true
   ·rw [if_pos hw] at h
    obtain ⟨v,hv,hk⟩:=h
    refine wpAnyH_take (i:=i) (oi:=o) (v:=v) hos.1 hs hf hr (fun c a w=>hQ c a _ _ w) (Or.inl ⟨hw,fun u hu=>?_⟩) hS (ih os _ _ w fuel hos.2 hpl.2 hok' hS hk)
    have hq:=hv u hu
    unfold Oper.quietAt at hq
    cases hrun:(execOp a.eval o).run P u with
    | ok n u' =>
     obtain ⟨x,rfl⟩:=plain_value hpl.1 hrun
     rw [hrun] at hq
     obtain ⟨e1,e2⟩:=hq
     rw [e1,e2]
    | halt x u' =>
     rw [hrun] at hq
     exact hq.elim
   ·rw [if_neg hw] at h
    have hw' : Region.wanted o (yielded ops a.tmps)=false:=by simpa using hw
    exact wpAnyH_take (i:=i) (oi:=o) (v:=undef) hos.1 hs hf hr (fun c a w=>hQ c a _ _ w) (Or.inr ⟨hw',rfl⟩) hS (ih os _ _ w fuel hos.2 hpl.2 hok' hS h)

/-- An operation whose guard says no. -/
theorem skip_sound (hs:Region.noSelect ops=true) (hQ:∀ c a d v w,Q (.panic c) (a.put d v) w→Q (.panic c) a w) (i:Nat) (d:Option Tmp) {l:Array Bool} {a:Act} {w:World} {fuel:Nat}
  (hd:(ops[i]?).map (·.dst)=some d) (hok:okSeg ops [i] l=true) (hw:(ops[i]?).map (fun o=>Region.wanted o (yielded ops a.tmps))=some false) (hS:S w)
  (h:wpAnyH P .any ops Q S fuel (upTo [i] l) (a.put d undef) w):wpAnyH P .any ops Q S (fuel + 1) l a w:=by
 cases ho:ops[i]? with
 | none=>rw [ho] at hd;simp at hd
 | some o=>
  rw [ho] at hd hw
  simp only [Option.map_some,Option.some.injEq] at hd hw
  subst hd
  simp only [okSeg,Bool.and_eq_true,Bool.and_true] at hok
  exact wpAnyH_take (i:=i) (oi:=o) (v:=undef) ho hs hok.1 hok.2 (fun c a w=>hQ c a _ _ w) (Or.inr ⟨hw,rfl⟩) hS h

/-- A call that alone may come up: by its contract, S shown anew. -/
theorem call_sound (i:Nat) (d:Option Tmp) (f:Nat) (args:Array Value) {l:Array Bool} {a:Act} {w:World} {fuel:Nat}
  (hd:(ops[i]?).map (·.dst)=some d) (hr:Region.ready .any ops l=[i]) (hw:(ops[i]?).map (fun o=>Region.wanted o (yielded ops a.tmps))=some true)
  (hrun:(ops[i]?).map (fun o=>(execOp a.eval o).run P w)=some (.ok (.enter f args) w))
  (hc:Calls P f args w (fun e w' => ∃ v,e=.returned v∧S w' ∧ wpAnyH P .any ops Q S fuel (upTo [i] l) (a.put d v) w')):wpAnyH P .any ops Q S (fuel + 1) l a w:=by
 cases ho:ops[i]? with
 | none=>rw [ho] at hd;simp at hd
 | some o=>
  rw [ho] at hd hw hrun
  simp only [Option.map_some,Option.some.injEq] at hd hw hrun
  subst hd
  refine wpAnyH_all hr (by simp) (fun j hj=>?_)
  simp only [List.mem_singleton] at hj
  subst hj
  unfold wpOp
  simp only [ho,hw,if_true]
  refine .inl ?_
  unfold Oper.wp
  rw [hrun]
  simp only [Oper.upon]
  refine hc.mono fun e w' he=>?_
  obtain ⟨v,rfl,h1,h2⟩:=he
  exact ⟨h1,h2⟩

/-- The same over ranges; the fuel as it stands. -/
theorem seg_range (rs:List (Nat × Nat)) (fuel:Nat) {F:Nat} {l:Array Bool} {a:Act} {w:World} (hF:F=fuel + (idxR rs).length) (hs:Region.noSelect ops=true) (hm:(idxR rs).map (ops[·]?)=(pickR ops.toList rs).map some)
  (hp:(pickR ops.toList rs).all (fun o=>plainB o.op)=true) (hok:okSeg ops (idxR rs) l=true) (hS:S w)
  (h:wpQuiet P ops S (fun a' => wpAnyH P .any ops (NoPanic Q) S fuel (upTo (idxR rs) l) a' w) (pickR ops.toList rs) a):wpAnyH P .any ops (NoPanic Q) S F l a w:=by
 subst hF
 exact seg_sound hs (fun _ _ _ _ _ h=>h) (idxR rs) _ l a w fuel hm hp hok hS h

theorem skip_at (i:Nat) (d:Option Tmp) (fuel:Nat) {F:Nat} {l:Array Bool} {a:Act} {w:World} (hF:F=fuel + 1) (hs:Region.noSelect ops=true)
  (hd:(ops[i]?).map (·.dst)=some d) (hok:okSeg ops [i] l=true) (hw:(ops[i]?).map (fun o=>Region.wanted o (yielded ops a.tmps))=some false) (hS:S w)
  (h:wpAnyH P .any ops (NoPanic Q) S fuel (upTo [i] l) (a.put d undef) w):wpAnyH P .any ops (NoPanic Q) S F l a w:=by
 subst hF
 exact skip_sound hs (fun _ _ _ _ _ h=>h) i d hd hok hw hS h

theorem call_at (i:Nat) (d:Option Tmp) (f:Nat) (args:Array Value) (fuel:Nat) {F:Nat} {l:Array Bool} {a:Act} {w:World} (hF:F=fuel + 1)
  (hd:(ops[i]?).map (·.dst)=some d) (hr:Region.ready .any ops l=[i]) (hw:(ops[i]?).map (fun o=>Region.wanted o (yielded ops a.tmps))=some true)
  (hrun:(ops[i]?).map (fun o=>(execOp a.eval o).run P w)=some (.ok (.enter f args) w))
  (hc:Calls P f args w (fun e w' => ∃ v,e=.returned v∧S w' ∧ wpAnyH P .any ops (NoPanic Q) S fuel (upTo [i] l) (a.put d v) w')):wpAnyH P .any ops (NoPanic Q) S F l a w:=by
 subst hF
 exact call_sound i d f args hd hr hw hrun hc

/-- What one operation of a region is to come to. -/
def ThenGo (Q:Exit→Act→World→Prop) (K:Act→World→Prop):Exit→Act→World→Prop
 | .normal,a,w=>K a w
 | e,a,w=>NoPanic Q e a w

theorem ThenGo.to {K:Act→World→Prop} {a:Act} {w:World} (h:K a w):ThenGo Q K .normal a w:=h

/-- An operation that alone may come up, whatever it does: walked as a list of one. -/
theorem one_at (i:Nat) (o:Oper) (fuel:Nat) {F:Nat} {l:Array Bool} {a:Act} {w:World} (hF:F=fuel + 1) (ho:ops[i]? = some o) (hr:Region.ready .any ops l=[i])
  (h:wpList P ops (ThenGo Q (fun a' w' => S w' ∧ wpAnyH P .any ops (NoPanic Q) S fuel (upTo [i] l) a' w')) [o] a w):wpAnyH P .any ops (NoPanic Q) S F l a w:=by
 subst hF
 refine wpAnyH_all hr (by simp) (fun j hj=>?_)
 simp only [List.mem_singleton] at hj
 subst hj
 unfold wpOp
 simp only [ho]
 simp only [wpList] at h
 split at h
 ·rename_i hw
  rw [if_pos hw]
  rcases h with h | ⟨h1,h2⟩
  ·left
   unfold Oper.wp at h ⊢
   revert h
   generalize (execOp a.eval o).run P w=r
   intro h
   unfold Oper.upon at h ⊢
   split at h
   ·exact h
   ·exact h
   ·exact h
   ·refine Calls.mono h fun e w' he=>?_
    cases e <;> exact he
   ·exact h
   ·exact h
   ·exact h
  ·exact Or.inr ⟨h1,h2⟩
 ·rename_i hw
  rw [if_neg hw]
  exact h

/-- All have come up. -/
theorem text_end {F:Nat} {l:Array Bool} {a:Act} {w:World} (hr:Region.ready .any ops l=[]) (h:Q .normal a w):wpAnyH P .any ops (NoPanic Q) S F l a w:=wpAnyH_done hr (NoPanic.normal h) F

/-- The beginning. -/
theorem text_begin {id:Nat} {a:Act} {w:World} (hm:P.follows .mixedOrders=true)
  (h:wpAnyH P .any ops (NoPanic Q) S ops.size (Array.replicate ops.size false) a w.drew):(Code.region id ops true).wp P Q a w:=
 wp_region_noPanic (wp_region_held hm h)

theorem noPanic_put:∀ c a d v w,NoPanic Q (.panic c) (Act.put a d v) w→NoPanic Q (.panic c) a w:=fun _ _ _ _ _ h=>h

end
end Go.Proofs.YthmcgflmejofbaaGreatDoor
namespace Go.Proofs.YthmcgflmejofbaaGreatDoor
open Go.RowKit
open Go.BigFrame
set_option maxRecDepth 100000
set_option maxHeartbeats 1000000 in
theorem eqAct_true (k y v:Int) (w:World) :
  Calls Tryz.prog 158 #[.agg #[.int .i64 k,.int .i64 y,.int .i64 v],.agg #[.int .i64 k,.int .i64 y,.int .i64 v]] w fun e w' => e=.returned (.bool true)∧Below w.heap.size w w' := by
 have h0:(k != k)=false:=by simp
 have h1:(y != y)=false:=by simp
 have h2:(v != v)=false:=by simp
 go_enter Tryz.func158,Tryz.ntmps158
 go_wp2
 go_ret
 exact ⟨rfl,by go_grown⟩

theorem lat_cell {w:World} {a:Addr} {v:Value} (h:w.cell? a=some v):∀ u:Lat w,u.val.cell? a=some v:=fun u=>by
 rw [u.isBelow.cell (World.block_lt_of_cell? w a h)];exact h

set_option maxHeartbeats 2000000 in
theorem eqActS_true (a a' : Option Addr) (cap cap' : Nat) (zs:List ActD) (w:World) (h:ActRow w a zs) (h' : ActRow w a' zs) (hl:zs.length≤1099511627776) :
  Calls Tryz.prog 109 #[.slice a zs.length cap,.slice a' zs.length cap'] w fun e w' => e=.returned (.bool true)∧Below w.heap.size w w' := by
 go_enter Tryz.func109,Tryz.ntmps109
 go_wp2
 go_loopw [5] (fun i wr=>∃ k:Nat,k≤zs.length∧i=.int .i64 k∧Below w.heap.size w wr) (fun i _=>zs.length - (intOf i).toNat)
 case atStart=>exact ⟨0,Nat.zero_le _,rfl,Below.refl _ _⟩
 case round=>
  obtain ⟨k,hk,rfl,hb⟩:=hrel
  by_cases hlt:k < zs.length
  ·obtain ⟨b,off,rfl,hbs,hc0,hc1,hc2⟩:=(h.below hb).at k hlt
   obtain ⟨b',off',rfl,hbs',hd0,hd1,hd2⟩:=(h'.below hb).at k hlt
   generalize zs.getD k actNo=z at hc0 hc1 hc2 hd0 hd1 hd2
   obtain ⟨z0,z1,z2⟩:=z
   have k0:=lat_cell hc0
   have k1:=lat_cell hc1
   have k2:=lat_cell hc2
   have l0:=lat_cell hd0
   have l1:=lat_cell hd1
   have l2:=lat_cell hd2
   clear hc0 hc1 hc2 hd0 hd1 hd2
   have hW:Below wr.heap.size wr wr.drew:=(Below.refl _ _).drew
   have hne:Nonempty (Lat wr):=⟨⟨wr,Below.refl _ _⟩⟩
   go_wp2_with fail
   refine text_begin (S:=fun w' => ∃ u:Lat wr,w' = u.val) (by kernel_rfl) ?_
   refine seg_range [(0,8)] 2 (by kernel_rfl) (by kernel_rfl) (by kernel_rfl) (by kernel_rfl) (by kernel_rfl) ⟨⟨_,hW⟩,rfl⟩ ?_
   simp only [pickR,List.toList_toArray,List.flatMap_cons,List.flatMap_nil,List.drop_succ_cons,List.drop_zero,List.take_succ_cons,List.take_zero,List.cons_append,List.nil_append,List.append_nil]
   repeat go_big_quiet_step (fail)
   refine wpQuiet_nil ?_
   refine call_at 8 (some 25) 158 #[.agg #[.int .i64 z0,.int .i64 z1,.int .i64 z2],.agg #[.int .i64 z0,.int .i64 z1,.int .i64 z2]] 1 (by kernel_rfl) (by kernel_rfl) (by kernel_rfl) (by kernel_rfl) (by kernel_rfl) ?_
   refine (eqAct_true _ _ _ _).mono ?_
   rintro e w2 ⟨rfl,hb2⟩
   replace hW:=hW.trans (hb2.mono hW.size)
   clear hb2
   refine ⟨_,rfl,⟨⟨_,hW⟩,rfl⟩,?_⟩
   simp only [Act.put,List.setIfInBounds_toArray,List.set_cons_zero,List.set_cons_succ]
   refine seg_range [(9,1)] 0 (by kernel_rfl) (by kernel_rfl) (by kernel_rfl) (by kernel_rfl) (by kernel_rfl) ⟨⟨_,hW⟩,rfl⟩ ?_
   simp only [pickR,List.toList_toArray,List.flatMap_cons,List.flatMap_nil,List.drop_succ_cons,List.drop_zero,List.take_succ_cons,List.take_zero,List.cons_append,List.nil_append,List.append_nil]
   repeat go_big_quiet_step (fail)
   refine wpQuiet_nil ?_
   refine text_end (by kernel_rfl) ?_
   replace hb:=hb.trans (hW.mono hb.size)
   clear k0 k1 k2 l0 l1 l2 hW hne
   go_wp2
   go_roundw
   case rel=>exact ⟨k + 1,by omega,by go_num,hb⟩
   case measure=>simp [intOf];omega
  ·go_wp2
   go_ret
   exact ⟨rfl,hb⟩

end Go.Proofs.YthmcgflmejofbaaGreatDoor
namespace Go.Proofs.YthmcgflmejofbaaGreatDoor
open Go.RowKit
set_option maxRecDepth 100000
theorem below_from {w W w' : World} (h:Below w.heap.size w W) (hb:Below W.heap.size W w'):Below w.heap.size w w' := h.trans (hb.mono h.size)

set_option maxHeartbeats 1000000 in
theorem szActS_any (a:Option Addr) (n cap:Nat) (c:Int) (w:World) (hn:n≤9223372036854775807) (h0:0≤c) (h1:c≤1099511627776) :
  Calls Tryz.prog 107 #[.slice a n cap,.int .i64 c] w fun e w' => e=.returned (.int .i64 (if c - n < 0 then -1 else c - n))∧w' = w:=by
 by_cases h:c - n < 0
 ·rw [if_pos h]
  go_enter Tryz.func107,Tryz.ntmps107
  go_wp2
  go_ret
  exact ⟨rfl,rfl⟩
 ·rw [if_neg h]
  go_enter Tryz.func107,Tryz.ntmps107
  go_wp2
  go_ret
  exact ⟨rfl,rfl⟩

set_option maxHeartbeats 1000000 in
theorem szTxn_any (i s q:Int) (a:Option Addr) (n cap:Nat) (c:Int) (w:World) (hn:n≤9223372036854775807) (h0:0≤c) (h1:c≤1099511627776) :
  Calls Tryz.prog 41 #[.agg #[.int .i64 i,.int .i64 s,.int .i64 q,.slice a n cap],.int .i64 c] w fun e w' => e=.returned (.int .i64 (if c - n < 0 then -1 else c - n))∧Below w.heap.size w w' := by
 have hs:=fun w=>szActS_any a n cap c w hn h0 h1
 by_cases h:c - n < 0
 ·rw [if_pos h] at hs ⊢
  go_enter Tryz.func41,Tryz.ntmps41
  go_wp2_with (go_at_call 107;refine (hs _).mono ?_;rintro e w' ⟨rfl,rfl⟩)
  go_ret
  exact ⟨rfl,by go_grown⟩
 ·rw [if_neg h] at hs ⊢
  go_enter Tryz.func41,Tryz.ntmps41
  go_wp2_with (go_at_call 107;refine (hs _).mono ?_;rintro e w' ⟨rfl,rfl⟩)
  go_ret
  exact ⟨rfl,by go_grown⟩

set_option maxHeartbeats 1000000 in
theorem toTxn_any (i s q:Int) (a:Option Addr) (cap:Nat) (zs:List ActD) (w:World) (h:ActRow w a zs) (hl:zs.length≤1048576) :
  Calls Tryz.prog 42 #[.agg #[.int .i64 i,.int .i64 s,.int .i64 q,.slice a zs.length cap]] w fun e w' => ∃ g c,e=.returned (.agg #[.int .i64 i,.int .i64 s,.int .i64 q,.slice (some ⟨g,0,none⟩) zs.length c]) ∧
   w'.ownsRow w.heap.size 135 3 (.slice (some ⟨g,0,none⟩) zs.length c) zs.length (actCells zs)∧Below w.heap.size w w' := by
 go_enter Tryz.func42,Tryz.ntmps42
 go_wp2_with (go_at_call 108;refine (toActS_any a cap zs _ (h.below (by go_grown)) hl).mono ?_;rintro e w' ⟨g,c,rfl,ho,hb⟩;obtain ⟨hc,hf⟩:=bcell hb;have hz:w.heap.size + 3≤w'.heap.size:=by have:=hb.size;simp at this;omega)
 simp only [World.size_alloc] at ho
 refine bodyPost_ret (v:=.agg #[.int .i64 i,.int .i64 s,.int .i64 q,.slice (some ⟨g,0,none⟩) zs.length c]) (by simp [results,Tryz.results42,go_sem,hc]) rfl ⟨_,_,rfl,?_,?_⟩
 ·refine own_base (base:=w.heap.size + 1 + 1 + 1) ?_ (by omega)
  repeat' (refine ownsRow_setCell_below ?_ (by dsimp only;omega) _)
  exact ho
 ·repeat' (refine Below.setCell ?_ (by dsimp only;omega) _)
  exact below_from (by go_grown) hb

set_option maxHeartbeats 1000000 in
theorem eqTxn_true (i s q:Int) (a a' : Option Addr) (cap cap' : Nat) (zs:List ActD) (w:World) (h:ActRow w a zs) (h' : ActRow w a' zs) (hl:zs.length≤1099511627776) :
  Calls Tryz.prog 44 #[.agg #[.int .i64 i,.int .i64 s,.int .i64 q,.slice a zs.length cap],.agg #[.int .i64 i,.int .i64 s,.int .i64 q,.slice a' zs.length cap']] w fun e w' => e=.returned (.bool true)∧Below w.heap.size w w' := by
 have h0:(i != i)=false:=by simp
 have h1:(s != s)=false:=by simp
 have h2:(q != q)=false:=by simp
 go_enter Tryz.func44,Tryz.ntmps44
 go_wp2_with (go_at_call 109;refine (eqActS_true a a' cap cap' zs _ (h.below (by go_grown)) (h'.below (by go_grown)) hl).mono ?_;rintro e w' ⟨rfl,hb⟩)
 go_ret
 exact ⟨rfl,below_from (by go_grown) hb⟩

end Go.Proofs.YthmcgflmejofbaaGreatDoor
namespace Go.Proofs.YthmcgflmejofbaaGreatDoor
open Go.RowKit
set_option maxRecDepth 100000
def inW (n lo hi:Int):Bool:=decide (lo≤n) && decide (n≤hi)

def actF (x:ActD):Int:=
 if (inW x.kind 1 4=false)∨((x.kind == 3)=true∧(x.val != 0)=true) then 1
 else if inW x.key 1 20=false∨inW x.val (-1000) 1000=false then 3 else 0

def actsF:List ActD→Int
 | []=>0
 | x :: r=>if actF x=0 then actsF r else actF x

def txnF (i s q:Int) (zs:List ActD):Int:=
 if inW i 1 200=false∨inW s 1 9=false∨inW q 1 99=false then 3
 else if zs.length < 1∨4 < zs.length then 2 else actsF zs

theorem actsF_first (zs:List ActD):∀ k,(∀ j,j < k→actF (zs.getD j actNo)=0)→k < zs.length→actF (zs.getD k actNo)≠0→actsF zs=actF (zs.getD k actNo):=by
 induction zs with
 | nil=>intro k _ h;simp at h
 | cons x r ih=>
  intro k h0 hk hne
  cases k with
  | zero=>simp [List.getD] at hne ⊢;simp [actsF,hne]
  | succ k=>
   have hx:actF x=0:=by simpa [List.getD] using h0 0 (by omega)
   have:=ih k (fun j hj=>by simpa [List.getD] using h0 (j + 1) (by omega)) (by simpa using hk) (by simpa [List.getD] using hne)
   simp only [actsF,hx,if_true]
   rw [this]
   simp [List.getD]

theorem actsF_none (zs:List ActD) (h:∀ j,j < zs.length→actF (zs.getD j actNo)=0):actsF zs=0:=by
 induction zs with
 | nil=>rfl
 | cons x r ih=>
  have hx:actF x=0:=by simpa [List.getD] using h 0 (by simp)
  simp only [actsF,hx,if_true]
  exact ih (fun j hj=>by simpa [List.getD] using h (j + 1) (by simpa using hj))

set_option maxHeartbeats 1000000 in
theorem isWithin_any (n lo hi:Int) (w:World) :
    Calls Tryz.prog 136 #[.int .i64 n,.int .i64 lo,.int .i64 hi] w fun e w' => e=.returned (.bool (inW n lo hi))∧w' = w:=by
  unfold inW
  cases h1:decide (lo≤n) <;> cases h2:decide (n≤hi) <;> simp only [decide_eq_true_eq,decide_eq_false_iff_not] at h1 h2 <;>
  (go_enter Tryz.func136,Tryz.ntmps136
   go_wp2
   go_ret
   exact ⟨rfl,rfl⟩)

set_option maxHeartbeats 1000000 in
theorem l1InW_any (n lo hi:Int) (w:World) :
    Calls Tryz.prog 176 #[.int .i64 n,.int .i64 lo,.int .i64 hi] w fun e w' => e=.returned (.bool (inW n lo hi))∧w' = w:=by
  unfold inW
  cases h1:decide (lo≤n) <;> cases h2:decide (n≤hi) <;> simp only [decide_eq_true_eq,decide_eq_false_iff_not] at h1 h2 <;>
  (go_enter Tryz.func176,Tryz.ntmps176
   go_wp2
   go_ret
   exact ⟨rfl,rfl⟩)

/-- The ways through an act's tests. -/
theorem actF_ways (k y v:Int) :
  (inW k 1 4=false∧actF ⟨k,y,v⟩=1)∨(inW k 1 4=true∧(k == 3)=true∧(v != 0)=true∧actF ⟨k,y,v⟩=1) ∨
  (inW k 1 4=true∧(((k == 3)=true∧(v != 0)=false)∨(k == 3)=false) ∧
   ((inW y 1 20=false∧actF ⟨k,y,v⟩=3)∨(inW y 1 20=true∧inW v (-1000) 1000=false∧actF ⟨k,y,v⟩=3)∨(inW y 1 20=true∧inW v (-1000) 1000=true∧actF ⟨k,y,v⟩=0))):=by
 unfold actF
 cases h1:inW k 1 4 <;> cases h2:(k == 3) <;> cases h3:(v != 0) <;> cases h4:inW y 1 20 <;> cases h5:inW v (-1000) 1000 <;> simp [h1,h2,h3,h4,h5]

set_option maxHeartbeats 400000 in
theorem actFault_any (k y v:Int) (w:World) :
    Calls Tryz.prog 141 #[.agg #[.int .i64 k,.int .i64 y,.int .i64 v]] w fun e w' => e=.returned (.int .i64 (actF ⟨k,y,v⟩))∧Below w.heap.size w w' := by
  rcases actF_ways k y v with ⟨h1,h⟩ | ⟨h1,h2,h3,h⟩ | ⟨h1,⟨h2,h3⟩ | h2,⟨h4,h⟩ | ⟨h4,h5,h⟩ | ⟨h4,h5,h⟩⟩ <;> rw [h] <;> clear h <;>
  (go_enter Tryz.func141,Tryz.ntmps141
   go_wp2_with (go_at_call 136;refine (isWithin_any _ _ _ _).mono ?_;rintro e w' ⟨rfl,rfl⟩)
   go_ret
   exact ⟨rfl,by go_grown⟩)

set_option maxHeartbeats 400000 in
theorem l2Act_any (b o:Nat) (k y v:Int) (w:World) (h0:w.cell? ⟨b,o,none⟩=some (.int .i64 k)) (h1:w.cell? ⟨b,o + 1,none⟩=some (.int .i64 y)) (h2:w.cell? ⟨b,o + 2,none⟩=some (.int .i64 v)) :
    Calls Tryz.prog 177 #[.pointer (some ⟨b,o,none⟩)] w fun e w' => e=.returned (.int .i64 (actF ⟨k,y,v⟩))∧w' = w:=by
  rcases actF_ways k y v with ⟨h1,h⟩ | ⟨h1,h2,h3,h⟩ | ⟨h1,⟨h2,h3⟩ | h2,⟨h4,h⟩ | ⟨h4,h5,h⟩ | ⟨h4,h5,h⟩⟩ <;> rw [h] <;> clear h <;>
  (go_enter Tryz.func177,Tryz.ntmps177
   go_wp2_with (go_at_call 176;refine (l1InW_any _ _ _ _).mono ?_;rintro e w' ⟨rfl,rfl⟩)
   go_ret
   exact ⟨rfl,rfl⟩)

end Go.Proofs.YthmcgflmejofbaaGreatDoor
