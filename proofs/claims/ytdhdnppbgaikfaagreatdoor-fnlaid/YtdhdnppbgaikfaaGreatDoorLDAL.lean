/- Texts joined, with what the laws reach alone. -/
import Derived.Test.YtdhdnppbgaikfaaGreatDoorLDAK
set_option linter.unusedVariables false
set_option linter.unusedSimpArgs false
namespace Go.Proofs.YtdhdnppbgaikfaaGreatDoor
open Go.RowKit
set_option maxRecDepth 100000
/-- The worlds of which p is so. -/
structure KeepP (p:World→Prop) where
 val:World
 isP:p val

section
variable {P:Program} {ops:Array Oper} {Q:Exit→Act→World→Prop} {S:World→Prop} {st:Nat}
/-- Whatever order is picked from here on, and behind every operation S holds, or st has come up. -/
def wpAnyX (P:Program) (ops:Array Oper) (Q:Exit→Act→World→Prop) (S:World→Prop) (st:Nat):Nat→Array Bool→Act→World→Prop
 | 0,listed,a,w=>Region.ready .any ops listed=[]∧Q .normal a w
 | fuel + 1,listed,a,w=>
  (Region.ready .any ops listed=[]→Q .normal a w) ∧
  ∀ i∈Region.ready .any ops listed,wpOp P ops Q i (fun a' w' => ((listed.setIfInBounds i true).getD st true=true∨S w')∧wpAnyX P ops Q S st fuel (listed.setIfInBounds i true) a' w') a w

theorem wpAny_of_X:∀ (fuel:Nat) (listed:Array Bool) (a:Act) (w:World),wpAnyX P ops Q S st fuel listed a w→wpAny P .any ops Q fuel listed a w
 | 0,_,_,_,h=>h
 | fuel + 1,_,_,_,h=>⟨h.1,fun i hi=>wpOp_mono (fun a' w' h' => wpAny_of_X fuel _ a' w' h'.2) (h.2 i hi)⟩

/-- As OrdersHeld's 'wpAnyH_first': besides, st has not come up and waits for i. -/
theorem wpAnyX_first {i:Nat} {oi:Oper} {v:Value} (hi:ops[i]? = some oi) (hsel:∀ (j:Nat) (o:Oper) cs b,ops[j]? = some o→o.op≠.select cs b)
  (hQ:∀ c a w,Q (.panic c) (a.put oi.dst v) w→Q (.panic c) a w) (hist:i≠st) (hst:∀ o,ops[st]? = some o→∃ e∈o.after,Region.binds .any e=true∧e.on=i) :
  ∀ (fuel:Nat) (listed:Array Bool) (a:Act) (w:World),
   (∀ j oj,ops[j]? = some oj→j≠i→listed.getD j true=false→(∀ e∈oj.after,Region.binds .any e=true→e.on≠i)→oi.apart ops oj=true) →
   i∈Region.ready .any ops listed→YieldsIf P ops S oi v a→S w→listed.getD st true=false →
   wpAnyX P ops Q S st fuel (listed.setIfInBounds i true) (a.put oi.dst v) w→wpAnyX P ops Q S st (fuel + 1) listed a w:=by
 intro fuel
 induction fuel with
 | zero=>
  intro listed a w _ hr hy hS hl H
  refine ⟨fun h=>(by rw [h] at hr;cases hr),fun j hj=>?_⟩
  by_cases hji:j=i
  ·subst hji;exact hy.wpOp hi hS ⟨Or.inr hS,H⟩
  ·have:=ready_mono hj hji
   rw [H.1] at this
   cases this
 | succ fuel ih=>
  intro listed a w hfree hr hy hS hl H
  refine ⟨fun h=>(by rw [h] at hr;cases hr),fun j hj=>?_⟩
  by_cases hji:j=i
  ·subst hji;exact hy.wpOp hi hS ⟨Or.inr hS,H⟩
  ·have h1:=H.2 j (ready_mono hj hji)
   obtain ⟨hjun,oj,hoj,hall⟩:=mem_ready.1 hj
   have hnot:∀ e∈oj.after,Region.binds .any e=true→e.on≠i:=fun e he hb heq=>by
    have h1:=hall e he hb
    have h0:=(mem_ready.1 hr).1
    rw [heq] at h1
    rcases Nat.lt_or_ge i listed.size with h' | h'
    ·simp [h'] at h0 h1;rw [h0] at h1;cases h1
    ·simp [Array.getElem?_eq_none h'] at h1
   have hjst:j≠st:=by
    intro e
    subst e
    obtain ⟨e,he,hb,hon⟩:=hst oj hoj
    exact hnot e he hb hon
   have h2:=wpOp_putIf hoj (hfree j oj hoj hji hjun hnot) (fun cs b=>hsel i oi cs b hi) (fun cs b=>hsel j oj cs b hoj) hQ hy h1
   have hfree' : ∀ k ok,ops[k]? = some ok→k≠i→(listed.setIfInBounds j true).getD k true=false →
     (∀ e∈ok.after,Region.binds .any e=true→e.on≠i)→oi.apart ops ok=true:=fun k ok hk hki hun hno=>by
    refine hfree k ok hk hki ?_ hno
    by_cases hjk:j=k
    ·subst hjk;exact hjun
    ·rw [getD_set_ne true hjk] at hun;exact hun
   have hl' : (listed.setIfInBounds j true).getD st true=false:=by rw [getD_set_ne true hjst];exact hl
   refine wpOp_mono (fun a' w' h3=>?_) h2
   have hS' : S w' := by
    rcases h3.2.1 with h4 | h4
    ·rw [getD_set_ne true hjst,getD_set_ne true hist,hl] at h4
     cases h4
    ·exact h4
   refine ⟨Or.inr hS',ih (listed.setIfInBounds j true) a' w' hfree' (ready_mono hr (Ne.symm hji)) h3.1 hS' hl' ?_⟩
   rw [Array.setIfInBounds_comm _ _ hji]
   exact h3.2.2

/-- A post whose word on a panic does not look at the temporaries. -/
def PanTo (Q:Exit→Act→World→Prop) (R:List PanicEntry→World→Prop):Exit→Act→World→Prop
 | .panic c,a,w=>a.defers=[]∧R c w
 | e,a,w=>Q e a w

theorem put_defers_eq (a:Act) (d:Option Tmp) (v:Value):(a.put d v).defers=a.defers:=by cases d <;> rfl

theorem PanTo.put {R:List PanicEntry→World→Prop}:∀ c (a:Act) (d:Option Tmp) (v:Value) w,PanTo Q R (.panic c) (a.put d v) w→PanTo Q R (.panic c) a w:=fun c a d v w h=>⟨(put_defers_eq a d v) ▸ h.1,h.2⟩

variable {R:List PanicEntry→World→Prop}
theorem PanTo.imp (hR:∀ c a w,a.defers=[]→R c w→Q (.panic c) a w):∀ (e:Exit) (a:Act) (w:World),PanTo Q R e a w→Q e a w:=fun e a w h=>by
 cases e <;> first | exact h | exact hR _ _ _ h.1 h.2

theorem beginX {id:Nat} {a:Act} {w:World} (st:Nat) (hm:P.follows .mixedOrders=true) (hR:∀ c a w,a.defers=[]→R c w→Q (.panic c) a w)
  (h:wpAnyX P ops (PanTo Q R) S st ops.size (Array.replicate ops.size false) a w.drew):(Code.region id ops true).wp P Q a w:=
 Code.wp_mono (PanTo.imp hR) (wp_region_any hm (wpAny_of_X _ _ _ _ h))

def waitsB (ops:Array Oper) (st i:Nat):Bool:=match ops[st]? with
 | some o=>o.after.any (fun e=>Region.binds .any e && e.on == i)
 | none=>true

theorem waits_of {i:Nat} (h:waitsB ops st i=true):∀ o,ops[st]? = some o→∃ e∈o.after,Region.binds .any e=true∧e.on=i:=by
 intro o ho
 unfold waitsB at h
 rw [ho] at h
 obtain ⟨k,hk,_,_,hb⟩:=Array.any_iff_exists.1 h
 simp only [Bool.and_eq_true,beq_iff_eq] at hb
 exact ⟨o.after[k],Array.getElem_mem hk,hb⟩

def okSegX (ops:Array Oper) (st:Nat):List Nat→Array Bool→Bool
 | [],_=>true
 | i :: r,l=>Region.free .any ops l i && (Region.ready .any ops l).contains i && (i != st) && waitsB ops st i && !(l.getD st true) && okSegX ops st r (l.setIfInBounds i true)

theorem segX_sound (hs:Region.noSelect ops=true) :
  ∀ (idx:List Nat) (os:List Oper) (l:Array Bool) (a:Act) (w:World) (fuel:Nat),idx.map (ops[·]?)=os.map some→os.all (fun o=>plainB o.op)=true→okSegX ops st idx l=true→S w →
   wpQuiet P ops S (fun a' => wpAnyX P ops (PanTo Q R) S st fuel (upTo idx l) a' w) os a→wpAnyX P ops (PanTo Q R) S st (fuel + idx.length) l a w:=by
 intro idx
 induction idx with
 | nil=>
  intro os l a w fuel hos _ _ _ h
  cases os with
  | nil=>exact h
  | cons o os=>simp at hos
 | cons i r ih=>
  intro os l a w fuel hos hpl hok hS h
  cases os with
  | nil=>simp at hos
  | cons o os=>
   simp only [List.map_cons,List.cons.injEq] at hos
   simp only [List.all_cons,Bool.and_eq_true] at hpl
   simp only [okSegX,Bool.and_eq_true,bne_iff_ne,ne_eq,Bool.not_eq_true'] at hok
   obtain ⟨⟨⟨⟨⟨hf,hr⟩,hne⟩,hwt⟩,hl⟩,hok'⟩:=hok
   simp only [wpQuiet] at h
   by_cases hw:Region.wanted o (yielded ops a.tmps)=true
   ·rw [if_pos hw] at h
    obtain ⟨v,hv,hk⟩:=h
    refine wpAnyX_first (i:=i) (oi:=o) (v:=v) hos.1 (Region.noSelect_spec hs) (fun c a w h=>PanTo.put c a _ _ w h) hne (waits_of hwt) _ l a w (Region.free_spec hos.1 hf) (by simpa using hr) (Or.inl ⟨hw,fun u hu=>?_⟩) hS hl (ih os _ _ w fuel hos.2 hpl.2 hok' hS hk)
    have hq:=hv u hu
    unfold Oper.quietAt at hq
    cases hrun:(execOp a.eval o).run P u with
    | ok n u' =>
     obtain ⟨x,rfl⟩:=plain_value hpl.1 hrun
     rw [hrun] at hq
     obtain ⟨e1,e2⟩:=hq
     rw [e1,e2]
    | halt x u' =>
     rw [hrun] at hq
     exact hq.elim
   ·rw [if_neg hw] at h
    have hw' : Region.wanted o (yielded ops a.tmps)=false:=by simpa using hw
    exact wpAnyX_first (i:=i) (oi:=o) (v:=undef) hos.1 (Region.noSelect_spec hs) (fun c a w h=>PanTo.put c a _ _ w h) hne (waits_of hwt) _ l a w (Region.free_spec hos.1 hf) (by simpa using hr) (Or.inr ⟨hw',rfl⟩) hS hl (ih os _ _ w fuel hos.2 hpl.2 hok' hS h)

theorem segX (rs:List (Nat × Nat)) (fuel:Nat) {F:Nat} {l:Array Bool} {a:Act} {w:World} (hF:F=fuel + (idxR rs).length) (hs:Region.noSelect ops=true) (hm:(idxR rs).map (ops[·]?)=(pickR ops.toList rs).map some)
  (hp:(pickR ops.toList rs).all (fun o=>plainB o.op)=true) (hok:okSegX ops st (idxR rs) l=true) (hS:S w)
  (h:wpQuiet P ops S (fun a' => wpAnyX P ops (PanTo Q R) S st fuel (upTo (idxR rs) l) a' w) (pickR ops.toList rs) a):wpAnyX P ops (PanTo Q R) S st F l a w:=by
 subst hF
 exact segX_sound hs (idxR rs) _ l a w fuel hm hp hok hS h

/-- A call that alone may come up: it returns, or it panics. -/
theorem callX (i:Nat) (d:Option Tmp) (f:Nat) (args:Array Value) (fuel:Nat) {F:Nat} {l:Array Bool} {a:Act} {w:World} (hF:F=fuel + 1)
  (hd:(ops[i]?).map (·.dst)=some d) (hr:Region.ready .any ops l=[i]) (hw:(ops[i]?).map (fun o=>Region.wanted o (yielded ops a.tmps))=some true)
  (hrun:(ops[i]?).map (fun o=>(execOp a.eval o).run P w)=some (.ok (.enter f args) w))
  (hdf:a.defers=[]) (hc:Calls P f args w (fun e w' => (∃ v,e=.returned v∧S w' ∧ wpAnyX P ops (PanTo Q R) S st fuel (upTo [i] l) (a.put d v) w')∨∃ c,e=.panicked c∧R c w')):wpAnyX P ops (PanTo Q R) S st F l a w:=by
 subst hF
 cases ho:ops[i]? with
 | none=>rw [ho] at hd;simp at hd
 | some o=>
  rw [ho] at hd hw hrun
  simp only [Option.map_some,Option.some.injEq] at hd hw hrun
  subst hd
  refine ⟨fun h0=>(by rw [hr] at h0;cases h0),fun j hj=>?_⟩
  rw [hr] at hj
  simp only [List.mem_singleton] at hj
  subst hj
  unfold wpOp
  simp only [ho,hw,if_true]
  refine .inl ?_
  unfold Oper.wp
  rw [hrun]
  simp only [Oper.upon]
  refine hc.mono fun e w' he=>?_
  rcases he with ⟨v,rfl,h1,h2⟩ | ⟨c,rfl,h1⟩
  ·exact ⟨Or.inr h1,h2⟩
  ·exact ⟨hdf,h1⟩

def ThenX (Q:Exit→Act→World→Prop) (R:List PanicEntry→World→Prop) (K:Act→World→Prop):Exit→Act→World→Prop
 | .normal,a,w=>K a w
 | e,a,w=>PanTo Q R e a w

theorem ThenX.to {K:Act→World→Prop} {a:Act} {w:World} (h:K a w):ThenX Q R K .normal a w:=h

theorem oneX (i:Nat) (o:Oper) (fuel:Nat) {F:Nat} {l:Array Bool} {a:Act} {w:World} (hF:F=fuel + 1) (ho:ops[i]? = some o) (hr:Region.ready .any ops l=[i])
  (h:wpList P ops (ThenX Q R (fun a' w' => ((upTo [i] l).getD st true=true∨S w')∧wpAnyX P ops (PanTo Q R) S st fuel (upTo [i] l) a' w')) [o] a w):wpAnyX P ops (PanTo Q R) S st F l a w:=by
 subst hF
 refine ⟨fun h0=>(by rw [hr] at h0;cases h0),fun j hj=>?_⟩
 rw [hr] at hj
 simp only [List.mem_singleton] at hj
 subst hj
 unfold wpOp
 simp only [ho]
 simp only [wpList] at h
 split at h
 ·rename_i hw
  rw [if_pos hw]
  rcases h with h | ⟨h1,h2⟩
  ·left
   unfold Oper.wp at h ⊢
   revert h
   generalize (execOp a.eval o).run P w=r
   intro h
   unfold Oper.upon at h ⊢
   split at h
   ·exact h
   ·exact h
   ·exact h
   ·refine Calls.mono h fun e w' he=>?_
    cases e <;> exact he
   ·exact h
   ·exact h
   ·exact h
  ·exact Or.inr ⟨h1,h2⟩
 ·rename_i hw
  rw [if_neg hw]
  exact h

theorem endX {F:Nat} {l:Array Bool} {a:Act} {w:World} (hr:Region.ready .any ops l=[]) (h:Q .normal a w):wpAnyX P ops (PanTo Q R) S st F l a w:=by
 cases F with
 | zero=>exact ⟨hr,h⟩
 | succ F=>exact ⟨fun _=>h,by rw [hr];simp⟩

theorem sgX (rs:List (Nat × Nat)) (fuel:Nat) {F:Nat} {l:Array Bool} {a:Act} {w:World} (h5:(F,Region.noSelect ops,(idxR rs).map (ops[·]?),(pickR ops.toList rs).all (fun o=>plainB o.op),okSegX ops st (idxR rs) l)=(fuel + (idxR rs).length,true,(pickR ops.toList rs).map some,true,true)) (hS:S w)
  (h:wpQuiet P ops S (fun a' => wpAnyX P ops (PanTo Q R) S st fuel (upTo (idxR rs) l) a' w) (pickR ops.toList rs) a):wpAnyX P ops (PanTo Q R) S st F l a w:=by
 simp only [Prod.mk.injEq] at h5
 exact segX rs fuel h5.1 h5.2.1 h5.2.2.1 h5.2.2.2.1 h5.2.2.2.2 hS h

theorem clX (i:Nat) (d:Option Tmp) (f:Nat) (args:Array Value) (fuel:Nat) {F:Nat} {l:Array Bool} {a:Act} {w:World} (h5:(F,(ops[i]?).map (·.dst),Region.ready .any ops l,(ops[i]?).map (fun o=>Region.wanted o (yielded ops a.tmps)),(ops[i]?).map (fun o=>(execOp a.eval o).run P w))=(fuel + 1,some d,[i],some true,some (.ok (.enter f args) w)))
  (hdf:a.defers=[]) (hc:Calls P f args w (fun e w' => (∃ v,e=.returned v∧S w' ∧ wpAnyX P ops (PanTo Q R) S st fuel (upTo [i] l) (a.put d v) w')∨∃ c,e=.panicked c∧R c w')):wpAnyX P ops (PanTo Q R) S st F l a w:=by
 simp only [Prod.mk.injEq] at h5
 exact callX i d f args fuel h5.1 h5.2.1 h5.2.2.1 h5.2.2.2.1 h5.2.2.2.2 hdf hc

theorem onX (i:Nat) {o:Oper} (fuel:Nat) {F:Nat} {l:Array Bool} {a:Act} {w:World} (ho:ops[i]? = some o) (h2:(F,Region.ready .any ops l)=(fuel + 1,[i]))
  (h:wpList P ops (ThenX Q R (fun a' w' => ((upTo [i] l).getD st true=true∨S w')∧wpAnyX P ops (PanTo Q R) S st fuel (upTo [i] l) a' w')) [o] a w):wpAnyX P ops (PanTo Q R) S st F l a w:=by
 simp only [Prod.mk.injEq] at h2
 exact oneX i o fuel h2.1 ho h2.2 h

end
end Go.Proofs.YtdhdnppbgaikfaaGreatDoor
namespace Go.Proofs.YtdhdnppbgaikfaaGreatDoor
open Go.RowKit
open Go.BigFrame
set_option maxRecDepth 100000
set_option maxHeartbeats 8000000 in
theorem l6Copy_any (p:InstQ) (w:World) (h:instK.rd w p) (hl:p.n≤1048576) (hne:∀ t∈p.batch,0 < t.acts.length) (hro:∀ r∈p.rounds,0 < r.rep.length∧0 < r.pro.length) (hd0:0 < p.dec.length) :
  Calls Tryz.prog 28 #[.agg #[.bool p.has,p.vb,p.vr,p.vd]] w fun e w' => ∃ q:InstQ,e=.returned (.agg #[.bool q.has,q.vb,q.vr,q.vd])∧q.e=p.e∧instK.own w' q∧(instK.foot q).Nodup∧(∀ k∈instK.foot q,w.heap.size≤k)∧Below w.heap.size w w' := by
 obtain ⟨has,vb,batch,vr,rounds,vd,dec⟩:=p
 obtain ⟨h1,h2,h3⟩:txnK.At w vb batch∧roundK.At w vr rounds∧intK.At w vd dec:=h
 obtain ⟨ba,bk,rfl⟩:=h1.shape
 obtain ⟨va,vk,rfl⟩:=h2.shape
 obtain ⟨da,dk,rfl⟩:=h3.shape
 dsimp only [InstQ.n] at hl hne hro hd0
 have hc1:=fun w (hT:txnK.At w (.slice ba batch.length bk) batch)=>l2CopyAll_any _ batch w hT hne (by omega)
 have hc3:=fun w (hT:intK.At w (.slice da dec.length dk) dec)=>l1Ints_any _ dec w hT hd0 (by omega)
 have hB:Below w.heap.size w ((w.alloc (.cells #[.bool has,.slice ba batch.length bk,.slice va rounds.length vk,.slice da dec.length dk] 28)).alloc (.cells #[.bool false,.slice none 0 0,.slice none 0 0,.slice none 0 0] 28)):=by go_grown
 have Bx:=Blk.new w 28 #[.bool has,.slice ba batch.length bk,.slice va rounds.length vk,.slice da dec.length dk]
 have hbb:Below (w.alloc (.cells #[.bool has,.slice ba batch.length bk,.slice va rounds.length vk,.slice da dec.length dk] 28)).heap.size (w.alloc (.cells #[.bool has,.slice ba batch.length bk,.slice va rounds.length vk,.slice da dec.length dk] 28)) ((w.alloc (.cells #[.bool has,.slice ba batch.length bk,.slice va rounds.length vk,.slice da dec.length dk] 28)).alloc (.cells #[.bool false,.slice none 0 0,.slice none 0 0,.slice none 0 0] 28)):=by go_grown
 have Rb:=Blk.new (w.alloc (.cells #[.bool has,.slice ba batch.length bk,.slice va rounds.length vk,.slice da dec.length dk] 28)) 28 #[.bool false,.slice none 0 0,.slice none 0 0,.slice none 0 0]
 rw [World.size_alloc] at Rb
 replace Bx:=Bx.below hbb
 clear hbb
 have hws:w.heap.size + 2≤((w.alloc (.cells #[.bool has,.slice ba batch.length bk,.slice va rounds.length vk,.slice da dec.length dk] 28)).alloc (.cells #[.bool false,.slice none 0 0,.slice none 0 0,.slice none 0 0] 28)).heap.size:=by simp
 go_enter Tryz.func28,Tryz.ntmps28
 go_wp2_with fail
 generalize ((w.alloc (.cells #[.bool has,.slice ba batch.length bk,.slice va rounds.length vk,.slice da dec.length dk] 28)).alloc (.cells #[.bool false,.slice none 0 0,.slice none 0 0,.slice none 0 0] 28))=W at *
 refine region_vals [some 5,some 6,some 7,some 8,some 9,some 10,some 11,some 12,some 13,some 3] (fun vs w' => ∃ (s1:Option Addr) (t1:Nat) (q1:List TxnQ) (a3:Option Addr) (c3 g:Nat),vs=[.pointer (some ⟨w.heap.size,0,none⟩),.bool has,.pointer (some ⟨w.heap.size,1,none⟩),.slice ba batch.length bk,.slice s1 q1.length t1,.pointer (some ⟨w.heap.size,3,none⟩),.slice da dec.length dk,.slice a3 dec.length c3,.agg #[.bool has,.slice s1 q1.length t1,.slice none 0 0,.slice a3 dec.length c3],.pointer (some ⟨g,0,none⟩)]∧W.heap.size≤g∧Blk w' g 28 #[.bool has,.slice s1 q1.length t1,.slice none 0 0,.slice a3 dec.length c3]∧q1.map TxnQ.e=batch.map TxnQ.e∧txnK.Own w' (.slice s1 q1.length t1) q1∧(txnK.fp (.slice s1 q1.length t1) q1).Nodup∧(∀ k∈txnK.fp (.slice s1 q1.length t1) q1,W.heap.size≤k)∧(∀ k∈txnK.fp (.slice s1 q1.length t1) q1,k≠g)∧intK.Own w' (.slice a3 dec.length c3) dec∧(∀ k∈intK.fp (.slice a3 dec.length c3) dec,W.heap.size≤k)∧(∀ k∈intK.fp (.slice a3 dec.length c3) dec,k≠g)∧(∀ x∈txnK.fp (.slice s1 q1.length t1) q1,∀ y∈intK.fp (.slice a3 dec.length c3) dec,x≠y)∧Below W.heap.size W w') ?_ ?_
 ·have hW:Below W.heap.size W W.drew:=(Below.refl _ _).drew
  have hnn:Nonempty (Lat W):=⟨⟨W,Below.refl _ _⟩⟩
  obtain ⟨p0,p1⟩:=Bx.lts2
  have p3:=Bx.lat 3 _ rfl
  refine text_begin (S:=fun w' => ∃ u:Lat W,w' = u.val) (by kernel_rfl) ?_
  refine sgr [(0,4),(5,2)] 5 (by kernel_rfl) ⟨⟨_,hW⟩,rfl⟩ ?_
  simp only [pkE]
  repeat go_big_quiet_step (fail)
  refine wpQuiet_nil ?_
  clear p0 p1 p3
  generalize W.drew=wd at hW ⊢
  refine twa 4 9 4 (by kernel_rfl) ?_ ?_
  ·skip
   refine opc 4 (some 9) 63 #[.slice ba batch.length bk] (by kernel_rfl) ?_
   refine (hc1 _ (h1.below (hB.trans (hW.mono hB.size)))).mono ?_
   rintro e x0 ⟨v1,q1,rfl,e1,o1,n1,g1,hb⟩
   obtain ⟨s1,t1,rfl⟩:=o1.shape
   have L1:∀ k∈txnK.fp (.slice s1 q1.length t1) q1,W.heap.size≤k:=fun k hk=>by have:=g1 k hk;have:=hW.size;omega
   clear g1
   replace hW:=hW.trans (hb.mono hW.size)
   clear hb
   refine ⟨_,rfl,⟨⟨_,hW⟩,rfl⟩,?_⟩
   simp only [Act.put,pgE,pjE]
   refine twa 7 9 3 (by kernel_rfl) ?_ ?_
   ·skip
    refine opc 7 (some 12) 64 #[.slice da dec.length dk] (by kernel_rfl) ?_
    refine (hc3 _ (h3.below (hB.trans (hW.mono hB.size)))).mono ?_
    rintro e x1 ⟨a3,c3,rfl,o3,g3,hb⟩
    have L3:∀ k∈intK.fp (.slice a3 dec.length c3) dec,W.heap.size≤k:=fun k hk=>by have:=g3 k hk;have:=hW.size;omega
    have D13:∀ x∈txnK.fp (.slice s1 q1.length t1) q1,∀ y∈intK.fp (.slice a3 dec.length c3) dec,x≠y:=fun x hx y hy e=>by have:=o1.lt x hx;have:=g3 y hy;omega
    replace o1:=o1.below hb
    clear g3
    replace hW:=hW.trans (hb.mono hW.size)
    clear hb
    refine ⟨_,rfl,⟨⟨_,hW⟩,rfl⟩,?_⟩
    simp only [Act.put,pgE,pjE]
    refine qta 8 (some 13) (.agg #[.bool has,.slice s1 q1.length t1,.slice none 0 0,.slice a3 dec.length c3]) 2 (by kernel_rfl) (fun u _=>by kernel_rfl) ⟨⟨_,hW⟩,rfl⟩ ?_
    simp only [Act.put,pgE,pjE]
    refine ona 9 1 rfl (by kernel_rfl) ?_
    have Bz:=Blk.new x1 28 #[.bool false,.slice none 0 0,.slice none 0 0,.slice none 0 0]
    have hzz:W.heap.size≤x1.heap.size:=hW.size
    have N1:∀ k∈txnK.fp (.slice s1 q1.length t1) q1,k≠x1.heap.size:=fun k hk e=>by have:=o1.lt k hk;omega
    have N3:∀ k∈intK.fp (.slice a3 dec.length c3) dec,k≠x1.heap.size:=fun k hk e=>by have:=o3.lt k hk;omega
    have hba:Below x1.heap.size x1 (x1.alloc (.cells #[.bool false,.slice none 0 0,.slice none 0 0,.slice none 0 0] 28)):=by go_grown
    replace o1:=o1.below hba
    replace o3:=o3.below hba
    replace hW:=hW.trans (hba.mono hW.size)
    clear hba
    go_wp2
    refine ThenGo.to ⟨⟨⟨_,hW⟩,rfl⟩,?_⟩
    generalize hG2:x1.heap.size=g at *
    clear hG2
    generalize x1.alloc (.cells #[.bool false,.slice none 0 0,.slice none 0 0,.slice none 0 0] 28)=Y2 at *
    refine ona 10 0 rfl (by kernel_rfl) ?_
    have hou:=out_row Y2 g #[.bool has,.slice s1 q1.length t1,.slice none 0 0,.slice a3 dec.length c3]
    have hgW:W.heap.size≤g:=by omega
    have Rz:=Bz.row #[.bool has,.slice s1 q1.length t1,.slice none 0 0,.slice a3 dec.length c3]
    replace hW:=below_row hW hgW #[.bool has,.slice s1 q1.length t1,.slice none 0 0,.slice a3 dec.length c3]
    replace o1:=o1.out hou (fun k hk=>by simp only [List.mem_singleton];exact N1 k hk)
    replace o3:=o3.out hou (fun k hk=>by simp only [List.mem_singleton];exact N3 k hk)
    refine st_row (by kernel_rfl) 28 _ _ rfl _ #[.bool has,.slice s1 q1.length t1,.slice none 0 0,.slice a3 dec.length c3] rfl rfl 28 _ Bz sz_inst rfl (by simp [Value.oneCell']) ?_
    refine ThenGo.to ⟨⟨⟨_,hW⟩,rfl⟩,?_⟩
    refine text_end (by kernel_rfl) ?_
    refine ⟨rfl,_,⟨s1,t1,q1,a3,c3,g,rfl,hgW,Rz,e1,o1,n1,L1,N1,o3,L3,N3,D13,hW⟩,?_⟩
    simp only [putAll,Act.put,pgE,pjE]
    try rfl
   ·skip
    refine op_one 9 _ rfl ?_
    have Bz:=Blk.new x0 28 #[.bool false,.slice none 0 0,.slice none 0 0,.slice none 0 0]
    have hzz:W.heap.size≤x0.heap.size:=hW.size
    have N1:∀ k∈txnK.fp (.slice s1 q1.length t1) q1,k≠x0.heap.size:=fun k hk e=>by have:=o1.lt k hk;omega
    have hba:Below x0.heap.size x0 (x0.alloc (.cells #[.bool false,.slice none 0 0,.slice none 0 0,.slice none 0 0] 28)):=by go_grown
    replace o1:=o1.below hba
    replace hW:=hW.trans (hba.mono hW.size)
    clear hba
    go_wp2
    refine ThenGo.to ⟨⟨⟨_,hW⟩,rfl⟩,?_⟩
    generalize hG1:x0.heap.size=g at *
    clear hG1
    generalize x0.alloc (.cells #[.bool false,.slice none 0 0,.slice none 0 0,.slice none 0 0] 28)=Y1 at *
    refine cla 7 (some 12) 64 #[.slice da dec.length dk] 2 (by kernel_rfl) ?_
    refine (hc3 _ (h3.below (hB.trans (hW.mono hB.size)))).mono ?_
    rintro e x2 ⟨a3,c3,rfl,o3,g3,hb⟩
    have L3:∀ k∈intK.fp (.slice a3 dec.length c3) dec,W.heap.size≤k:=fun k hk=>by have:=g3 k hk;have:=hW.size;omega
    have D13:∀ x∈txnK.fp (.slice s1 q1.length t1) q1,∀ y∈intK.fp (.slice a3 dec.length c3) dec,x≠y:=fun x hx y hy e=>by have:=o1.lt x hx;have:=g3 y hy;omega
    have N3:∀ k∈intK.fp (.slice a3 dec.length c3) dec,k≠g:=fun k hk e=>by have:=g3 k hk;have:=Bz.lt;omega
    replace Bz:=Bz.below hb
    replace o1:=o1.below hb
    clear g3
    replace hW:=hW.trans (hb.mono hW.size)
    clear hb
    refine ⟨_,rfl,⟨⟨_,hW⟩,rfl⟩,?_⟩
    simp only [Act.put,pgE,pjE]
    refine qta 8 (some 13) (.agg #[.bool has,.slice s1 q1.length t1,.slice none 0 0,.slice a3 dec.length c3]) 1 (by kernel_rfl) (fun u _=>by kernel_rfl) ⟨⟨_,hW⟩,rfl⟩ ?_
    simp only [Act.put,pgE,pjE]
    refine ona 10 0 rfl (by kernel_rfl) ?_
    have hou:=out_row x2 g #[.bool has,.slice s1 q1.length t1,.slice none 0 0,.slice a3 dec.length c3]
    have hgW:W.heap.size≤g:=by omega
    have Rz:=Bz.row #[.bool has,.slice s1 q1.length t1,.slice none 0 0,.slice a3 dec.length c3]
    replace hW:=below_row hW hgW #[.bool has,.slice s1 q1.length t1,.slice none 0 0,.slice a3 dec.length c3]
    replace o1:=o1.out hou (fun k hk=>by simp only [List.mem_singleton];exact N1 k hk)
    replace o3:=o3.out hou (fun k hk=>by simp only [List.mem_singleton];exact N3 k hk)
    refine st_row (by kernel_rfl) 28 _ _ rfl _ #[.bool has,.slice s1 q1.length t1,.slice none 0 0,.slice a3 dec.length c3] rfl rfl 28 _ Bz sz_inst rfl (by simp [Value.oneCell']) ?_
    refine ThenGo.to ⟨⟨⟨_,hW⟩,rfl⟩,?_⟩
    refine text_end (by kernel_rfl) ?_
    refine ⟨rfl,_,⟨s1,t1,q1,a3,c3,g,rfl,hgW,Rz,e1,o1,n1,L1,N1,o3,L3,N3,D13,hW⟩,?_⟩
    simp only [putAll,Act.put,pgE,pjE]
    try rfl
  ·skip
   refine op_one 9 _ rfl ?_
   have Bz:=Blk.new wd 28 #[.bool false,.slice none 0 0,.slice none 0 0,.slice none 0 0]
   have hzz:W.heap.size≤wd.heap.size:=hW.size
   have hba:Below wd.heap.size wd (wd.alloc (.cells #[.bool false,.slice none 0 0,.slice none 0 0,.slice none 0 0] 28)):=by go_grown
   replace hW:=hW.trans (hba.mono hW.size)
   clear hba
   go_wp2
   refine ThenGo.to ⟨⟨⟨_,hW⟩,rfl⟩,?_⟩
   generalize hG0:wd.heap.size=g at *
   clear hG0
   generalize wd.alloc (.cells #[.bool false,.slice none 0 0,.slice none 0 0,.slice none 0 0] 28)=Y0 at *
   refine cla 4 (some 9) 63 #[.slice ba batch.length bk] 3 (by kernel_rfl) ?_
   refine (hc1 _ (h1.below (hB.trans (hW.mono hB.size)))).mono ?_
   rintro e x1 ⟨v1,q1,rfl,e1,o1,n1,g1,hb⟩
   obtain ⟨s1,t1,rfl⟩:=o1.shape
   have L1:∀ k∈txnK.fp (.slice s1 q1.length t1) q1,W.heap.size≤k:=fun k hk=>by have:=g1 k hk;have:=hW.size;omega
   have N1:∀ k∈txnK.fp (.slice s1 q1.length t1) q1,k≠g:=fun k hk e=>by have:=g1 k hk;have:=Bz.lt;omega
   replace Bz:=Bz.below hb
   clear g1
   replace hW:=hW.trans (hb.mono hW.size)
   clear hb
   refine ⟨_,rfl,⟨⟨_,hW⟩,rfl⟩,?_⟩
   simp only [Act.put,pgE,pjE]
   refine cla 7 (some 12) 64 #[.slice da dec.length dk] 2 (by kernel_rfl) ?_
   refine (hc3 _ (h3.below (hB.trans (hW.mono hB.size)))).mono ?_
   rintro e x2 ⟨a3,c3,rfl,o3,g3,hb⟩
   have L3:∀ k∈intK.fp (.slice a3 dec.length c3) dec,W.heap.size≤k:=fun k hk=>by have:=g3 k hk;have:=hW.size;omega
   have D13:∀ x∈txnK.fp (.slice s1 q1.length t1) q1,∀ y∈intK.fp (.slice a3 dec.length c3) dec,x≠y:=fun x hx y hy e=>by have:=o1.lt x hx;have:=g3 y hy;omega
   have N3:∀ k∈intK.fp (.slice a3 dec.length c3) dec,k≠g:=fun k hk e=>by have:=g3 k hk;have:=Bz.lt;omega
   replace Bz:=Bz.below hb
   replace o1:=o1.below hb
   clear g3
   replace hW:=hW.trans (hb.mono hW.size)
   clear hb
   refine ⟨_,rfl,⟨⟨_,hW⟩,rfl⟩,?_⟩
   simp only [Act.put,pgE,pjE]
   refine qta 8 (some 13) (.agg #[.bool has,.slice s1 q1.length t1,.slice none 0 0,.slice a3 dec.length c3]) 1 (by kernel_rfl) (fun u _=>by kernel_rfl) ⟨⟨_,hW⟩,rfl⟩ ?_
   simp only [Act.put,pgE,pjE]
   refine ona 10 0 rfl (by kernel_rfl) ?_
   have hou:=out_row x2 g #[.bool has,.slice s1 q1.length t1,.slice none 0 0,.slice a3 dec.length c3]
   have hgW:W.heap.size≤g:=by omega
   have Rz:=Bz.row #[.bool has,.slice s1 q1.length t1,.slice none 0 0,.slice a3 dec.length c3]
   replace hW:=below_row hW hgW #[.bool has,.slice s1 q1.length t1,.slice none 0 0,.slice a3 dec.length c3]
   replace o1:=o1.out hou (fun k hk=>by simp only [List.mem_singleton];exact N1 k hk)
   replace o3:=o3.out hou (fun k hk=>by simp only [List.mem_singleton];exact N3 k hk)
   refine st_row (by kernel_rfl) 28 _ _ rfl _ #[.bool has,.slice s1 q1.length t1,.slice none 0 0,.slice a3 dec.length c3] rfl rfl 28 _ Bz sz_inst rfl (by simp [Value.oneCell']) ?_
   refine ThenGo.to ⟨⟨⟨_,hW⟩,rfl⟩,?_⟩
   refine text_end (by kernel_rfl) ?_
   refine ⟨rfl,_,⟨s1,t1,q1,a3,c3,g,rfl,hgW,Rz,e1,o1,n1,L1,N1,o3,L3,N3,D13,hW⟩,?_⟩
   simp only [putAll,Act.put,pgE,pjE]
   try rfl
 rintro vs X ⟨s1,t1,q1,a3,c3,g,rfl,hg,Bg,e1,o1,n1,L1,N1,o3,L3,N3,D13,hX⟩
 simp only [putAll,Act.put,pjE]
 have hBX:Below w.heap.size w X:=hB.trans (hX.mono hB.size)
 have RbX:=Rb.below hX
 have BxX:=Bx.below hX
 have h2X:=h2
 have hgX:=Bg.lt
 have hXs:=hX.size
 obtain ⟨i0,hi,hz0,hz1,hz2⟩:=info_parts infoRound
 obtain ⟨hn1,hn2⟩:=Kind.own_nil (K:=roundK) X
 have HN0:Hid ((roundK.fp (.slice none 0 0) ([]:List RoundQ)).Nodup∧∀ k∈roundK.fp (.slice none 0 0) ([]:List RoundQ),X.heap.size≤k):=by
  rw [hn2]
  exact ⟨by simp,by simp⟩
 have HQ1:Hid (q1.map TxnQ.e=batch.map TxnQ.e∧txnK.Own X (.slice s1 q1.length t1) q1∧(txnK.fp (.slice s1 q1.length t1) q1).Nodup∧(∀ k∈txnK.fp (.slice s1 q1.length t1) q1,W.heap.size≤k)∧(∀ k∈txnK.fp (.slice s1 q1.length t1) q1,k≠g)∧intK.Own X (.slice a3 dec.length c3) dec∧(∀ k∈intK.fp (.slice a3 dec.length c3) dec,W.heap.size≤k)∧(∀ k∈intK.fp (.slice a3 dec.length c3) dec,k≠g)∧(∀ x∈txnK.fp (.slice s1 q1.length t1) q1,∀ y∈intK.fp (.slice a3 dec.length c3) dec,x≠y)):=⟨e1,o1,n1,L1,N1,o3,L3,N3,D13⟩
 clear hn2 hc1 hc3 Rb Bx hB hX e1 o1 n1 L1 N1 o3 L3 N3 D13 h1 h3
 go_wp2
 go_loopw [4] (fun j wr=>∃ (k:Nat) (v2:Value) (qs:List RoundQ),k≤rounds.length∧j=.int .i64 k∧Hid (qs.map RoundQ.e=(rounds.take k).map RoundQ.e)∧roundK.Own wr v2 qs∧Hid ((roundK.fp v2 qs).Nodup∧∀ k∈roundK.fp v2 qs,X.heap.size≤k)∧Hid (Blk wr g 28 #[.bool has,.slice s1 q1.length t1,v2,.slice a3 dec.length c3])∧Hid (Out [g] X wr)) (fun j _=>rounds.length - (intOf j).toNat)
 case atStart=>exact ⟨0,.slice none 0 0,[],Nat.zero_le _,rfl,(rfl:_=_),hn1,HN0,Bg,Out.refl _ _⟩
 case round=>
  clear HN0 hn1 Bg
  obtain ⟨k,v2,qs,hk,rfl,HE,hO,HN,HBg,HO⟩:=hrel
  obtain ⟨sa,sc,rfl⟩:=hO.shape
  have hBr:Below w.heap.size w wr:=Out.keep hBX HO.out hBX.size (fun x hx=>by simp only [List.mem_singleton] at hx;omega)
  have hXr:=HO.out.size
  have Bxr:Blk wr w.heap.size 28 #[.bool has,.slice ba batch.length bk,.slice va rounds.length vk,.slice da dec.length dk]:=(HO.out.block _ BxX.lt (by simp only [List.mem_singleton];omega)).trans BxX
  have HLO:Hid (∀ x∈blk (.slice sa qs.length sc),X.heap.size≤x):=fun x hx=>HN.out.2 x (by simp only [Kind.fp,List.mem_append];exact Or.inl hx)
  have b2:=Bxr.cell 2 _ rfl
  by_cases hlt:k < rounds.length
  ·obtain ⟨rb,ro,rfl,hbs,hc,hrd⟩:=(h2.below hBr).cell (by decide) k hlt
   have hrbw:rb < w.heap.size:=by
    obtain ⟨rb',ro',e',hbs',_,_⟩:=h2.cell (by decide) k hlt
    simp only [Option.some.injEq,Addr.mk.injEq,and_true] at e'
    omega
   have hc' : ∀ j x,(roundK.cells rounds[k])[j]? = some x→wr.cell? ⟨rb,ro + k * 2 + j,none⟩=some x:=hc
   have f0:=hc' 0 (rounds[k].vr) rfl
   have f1:=hc' 1 (rounds[k].vp) rfl
   have n1:=nm_le RoundQ.n rounds k hlt
   have hpos:=hro _ (List.getElem_mem hlt)
   have HQL:Hid (qs.length≤1048576):=by
    have:=congrArg List.length HE.out
    rw [List.length_map,List.length_map,List.length_take] at this
    show qs.length≤1048576
    omega
   have HPE:Hid (∀ p' : RoundQ,p'.e=RoundQ.e rounds[k]→(qs ++ [p']).map RoundQ.e=(rounds.take (k + 1)).map RoundQ.e):=fun p' hp' => by
    rw [List.take_succ_eq_append_getElem hlt,List.map_append,List.map_append,HE.out,List.map_singleton,List.map_singleton,hp']
   clear HE hc hc'
   generalize rounds[k]=p at *
   obtain ⟨pv,pr,pw,pp⟩:=p
   obtain ⟨u1,u2⟩:intK.At wr pv pr∧intK.At wr pw pp:=hrd
   obtain ⟨x1',j1,rfl⟩:=u1.shape
   obtain ⟨x2',j2,rfl⟩:=u2.shape
   dsimp only [RoundQ.n] at f0 f1 n1 hpos
   rw [Nat.add_zero] at f0
   have hcA:=fun w (hT:intK.At w (.slice x1' pr.length j1) pr)=>l1Ints_any _ pr w hT hpos.1 (by omega)
   have hcB:=fun w (hT:intK.At w (.slice x2' pp.length j2) pp)=>l1Ints_any _ pp w hT hpos.2 (by omega)
   have hFg:g ∉ blk (.slice sa qs.length sc):=fun hx=>by have:=HLO.out g hx;omega
   have hFw:w.heap.size ∉ blk (.slice sa qs.length sc):=fun hx=>by have:=HLO.out _ hx;omega
   have hFr:rb ∉ blk (.slice sa qs.length sc):=fun hx=>by have:=HLO.out rb hx;omega
   have HF:Hid (∀ x∈roundK.fp (.slice sa qs.length sc) qs,x < wr.heap.size):=hO.lt
   have m0:=lato_cell (F:=blk (.slice sa qs.length sc)) (HBg.out.cell 2 _ rfl) hFg
   have m1:=lato_cell (F:=blk (.slice sa qs.length sc)) b2 hFw
   have m2:=lato_cell (F:=blk (.slice sa qs.length sc)) f0 hFr
   have m3:=lato_cell (F:=blk (.slice sa qs.length sc)) f1 hFr
   have hlti:(k:Int) < (rounds.length:Int):=by omega
   have hnn:Nonempty (LatO (blk (.slice sa qs.length sc)) wr):=⟨⟨wr,Out.refl _ _⟩⟩
   have hW:Below wr.heap.size wr wr.drew:=(Below.refl _ _).drew
   have hnw:∀ w',Below wr.heap.size wr w' → ∃ u:LatO (blk (.slice sa qs.length sc)) wr,w' = u.val:=fun w' hw' => ⟨⟨w',Out.of_below hw'⟩,rfl⟩
   clear f0 f1
   go_wp2_with fail
   clear b2
   refine beginX (S:=fun w' => ∃ u:LatO (blk (.slice sa qs.length sc)) wr,w' = u.val) (R:=fun _ _=>False) 20 (by kernel_rfl) (fun _ _ _ _ h=>h.elim) ?_
   refine sgX [(0,8),(9,6)] 7 (by kernel_rfl) (hnw _ hW) ?_
   simp only [pkE]
   repeat go_big_quiet_step (fail)
   refine wpQuiet_nil ?_
   refine clX 8 (some 29) 64 #[.slice x1' pr.length j1] 6 (by kernel_rfl) rfl ?_
   refine (hcA _ (u1.below hW)).mono ?_
   rintro e w8 ⟨x1,y1,rfl,oa,ga,hb8⟩
   have LA:∀ x∈intK.fp (.slice x1 pr.length y1) pr,wr.heap.size≤x:=fun x hx=>by have:=ga x hx;have:=hW.size;omega
   have MA:=oa.lt
   replace hW:=hW.trans (hb8.mono hW.size)
   clear hb8 ga
   refine Or.inl ⟨_,rfl,hnw _ hW,?_⟩
   simp only [Act.put,pgE,pjE]
   refine clX 15 (some 36) 64 #[.slice x2' pp.length j2] 5 (by kernel_rfl) rfl ?_
   refine (hcB _ (u2.below hW)).mono ?_
   rintro e w9 ⟨x2,y2,rfl,ob,gb,hb9⟩
   have LB:∀ x∈intK.fp (.slice x2 pp.length y2) pp,wr.heap.size≤x:=fun x hx=>by have:=gb x hx;have:=hW.size;omega
   have hdis:∀ x∈intK.fp (.slice x1 pr.length y1) pr,∀ y∈intK.fp (.slice x2 pp.length y2) pp,x≠y:=fun x hx y hy e=>by have:=MA x hx;have:=gb y hy;omega
   replace oa:=oa.below hb9
   replace hW:=hW.trans (hb9.mono hW.size)
   clear hb9 gb MA
   refine Or.inl ⟨_,rfl,hnw _ hW,?_⟩
   simp only [Act.put,pgE,pjE]
   refine onX 16 4 rfl (by kernel_rfl) ?_
   go_wp2
   refine ThenX.to ⟨Or.inr (hnw _ hW),?_⟩
   refine onX 17 3 rfl (by kernel_rfl) ?_
   have hbA:Below w9.heap.size w9 (w9.alloc (.cells #[.slice x1 pr.length y1,.slice x2 pp.length y2] 84)):=by go_grown
   replace hW:=hW.trans (hbA.mono hW.size)
   replace oa:=oa.below hbA
   replace ob:=ob.below hbA
   have hsrc:∀ j u,[Value.slice x1 pr.length y1,.slice x2 pp.length y2][j]? = some u→(w9.alloc (.cells #[.slice x1 pr.length y1,.slice x2 pp.length y2] 84)).cell? ((⟨w9.heap.size,0,none⟩:Addr).add j)=some u:=by
    intro j u hj;match j,hj with | 0,hj=>simp at hj;subst hj;simp [Addr.add] | 1,hj=>simp at hj;subst hj;simp [Addr.add]
   go_wp2
   refine ThenX.to ⟨Or.inr (hnw _ hW),?_⟩
   generalize w9.alloc (.cells #[.slice x1 pr.length y1,.slice x2 pp.length y2] 84)=Z at *
   clear hbA
   have hO3:=hO.below hW
   have hrow0:=hO3.1
   have hsZ:=hW.size
   refine onX 18 2 rfl (by kernel_rfl) ?_
   refine wpList_append_own_at _ rfl _ _ 25 rfl 0 84 i0 (.agg #[.slice none 0 0,.slice none 0 0]) 2 48 Tryz.underlying25 hi hz0 hz1 hz2 rfl (by decide) _ qs.length (roundK.row qs) rfl hrow0 ⟨w9.heap.size,0,none⟩ 1 1 [.slice x1 pr.length y1,.slice x2 pp.length y2] rfl rfl hsrc ?c2 ?c3 ?c4 ?c5 ?_
   case c2=>intro u hu;simp at hu;rcases hu with rfl | rfl <;> rfl
   case c3=>have:=HQL.out;unfold maxLen;omega
   case c4=>have:=HQL.out;omega
   case c5=>omega
   intro v' w5 hown hgrow hnil hat
   clear hnil hrow0 hsrc
   obtain ⟨hO5,hn5,hlo5,hou⟩:=hO3.snoc (p:=⟨.slice x1 pr.length y1,pr,.slice x2 pp.length y2,pp⟩) (B:=X.heap.size) HN.out.1 HN.out.2 ⟨oa,ob⟩ (List.nodup_append.2 ⟨intK_nodup _ _,intK_nodup _ _,hdis⟩) (fun x hx hx' => by
    have:=HF.out x hx'
    rcases List.mem_append.1 hx with hx | hx
    ·have:=LA x hx;omega
    ·have:=LB x hx;omega) (fun x hx=>by
    rcases List.mem_append.1 hx with hx | hx
    ·have:=LA x hx;omega
    ·have:=LB x hx;omega) (by omega) hown hgrow hat
   obtain ⟨na,nc,rfl⟩:=hO5.shape
   rw [List.length_append,List.length_singleton] at hO5 hn5 hlo5
   have hO9:Out (blk (.slice sa qs.length sc)) wr w5:=(Out.of_below hW).trans hou
   have Bg5:Blk w5 g 28 #[.bool has,.slice s1 q1.length t1,.slice sa qs.length sc,.slice a3 dec.length c3]:=(hO9.block g (by omega) hFg).trans HBg.out
   have HE5:Hid ((qs ++ [(⟨.slice x1 pr.length y1,pr,.slice x2 pp.length y2,pp⟩:RoundQ)]).map RoundQ.e=(rounds.take (k + 1)).map RoundQ.e):=HPE.out _ rfl
   have HN5:Hid ((roundK.fp (.slice na (qs.length + 1) nc) (qs ++ [(⟨.slice x1 pr.length y1,pr,.slice x2 pp.length y2,pp⟩:RoundQ)])).Nodup∧∀ k∈roundK.fp (.slice na (qs.length + 1) nc) (qs ++ [(⟨.slice x1 pr.length y1,pr,.slice x2 pp.length y2,pp⟩:RoundQ)]),X.heap.size≤k):=⟨hn5,hlo5⟩
   have hX5:Out [g] X w5:=by
    refine ⟨hO9.os.trans HO.out.os,hO9.tape.trans HO.out.tape,hO9.output.trans HO.out.output,Nat.le_trans hXr hO9.size,fun x hx hn=>?_⟩
    exact (hO9.block x (by omega) (fun hx' => by have:=HLO.out x hx';omega)).trans (HO.out.block x hx hn)
   clear hn5 hlo5 hou HPE HN HF oa ob LA LB hdis hown hgrow hat hO3 hO m0 m1 m2 m3 hcA hcB
   go_wp2
   refine ThenX.to ⟨Or.inr ⟨⟨_,hO9⟩,rfl⟩,?_⟩
   simp only [Act.put,pgE,pjE]
   refine onX 19 1 rfl (by kernel_rfl) ?_
   go_wp2
   refine ThenX.to ⟨Or.inr ⟨⟨_,hO9⟩,rfl⟩,?_⟩
   refine onX 20 0 rfl (by kernel_rfl) ?_
   have t3:=Bg5.cell 2 _ rfl
   have t4:=Bg5.frozen 2
   have Bg6:=Bg5.set 2 (.slice na (qs.length + 1) nc)
   have hO6:=hO5.out (Out.setCell w5 g 2 (.slice na (qs.length + 1) nc)) (fun x hx=>by have:=HN5.out.2 x hx;simp only [List.mem_singleton];omega)
   have hX6:Out [g] X (w5.setCell ⟨g,2,none⟩ (.slice na (qs.length + 1) nc)):=hX5.trans (Out.setCell w5 g 2 _)
   have HB6:Hid (Blk (w5.setCell ⟨g,2,none⟩ (.slice na (qs.length + 1) nc)) g 28 #[.bool has,.slice s1 q1.length t1,.slice na (qs.length + 1) nc,.slice a3 dec.length c3]):=Bg6
   have HO6:Hid (Out [g] X (w5.setCell ⟨g,2,none⟩ (.slice na (qs.length + 1) nc))):=hX6
   clear Bg6 hX6 hX5 hO5 Bg5 HBg HO
   generalize qs ++ [(⟨.slice x1 pr.length y1,pr,.slice x2 pp.length y2,pp⟩:RoundQ)]=qs' at *
   go_wp2
   refine ThenX.to ⟨Or.inl (by kernel_rfl),?_⟩
   refine endX (by kernel_rfl) ?_
   clear t3 t4 hO9 hnn hnw hFg hFw hFr
   generalize w5.setCell ⟨g,2,none⟩ (.slice na (qs.length + 1) nc)=w6 at *
   go_wp2
   go_roundw
   case rel=>exact ⟨k + 1,_,qs',by omega,by go_num,HE5,hO6,HN5,HB6,HO6⟩
   case measure=>simp [intOf];omega
  ·have hkl:k=rounds.length:=by omega
   subst hkl
   have hE:=HE.out
   rw [List.take_length] at hE
   have HE9:Hid (qs.map RoundQ.e=rounds.map RoundQ.e):=hE
   clear HE hE
   have Rbr:Blk wr (w.heap.size + 1) 28 #[.bool false,.slice none 0 0,.slice none 0 0,.slice none 0 0]:=(HO.out.block _ RbX.lt (by simp only [List.mem_singleton];omega)).trans RbX
   have g0:=HBg.out.cell 0 _ rfl
   have g1:=HBg.out.cell 1 _ rfl
   have g2:=HBg.out.cell 2 _ rfl
   have g3:=HBg.out.cell 3 _ rfl
   have Rz:=Rbr.row #[.bool has,.slice s1 q1.length t1,.slice sa qs.length sc,.slice a3 dec.length c3]
   have hou:=out_row wr (w.heap.size + 1) #[.bool has,.slice s1 q1.length t1,.slice sa qs.length sc,.slice a3 dec.length c3]
   have hBe:=below_row hBr (g:=w.heap.size + 1) (by omega) #[.bool has,.slice s1 q1.length t1,.slice sa qs.length sc,.slice a3 dec.length c3]
   obtain ⟨e1,o1,n1,L1,N1,o3,L3,N3,D13⟩:=HQ1.out
   have oa:=(o1.out HO.out (fun x hx=>by simp only [List.mem_singleton];exact N1 x hx)).out hou (fun x hx=>by have:=L1 x hx;simp only [List.mem_singleton];omega)
   have oc:=(o3.out HO.out (fun x hx=>by simp only [List.mem_singleton];exact N3 x hx)).out hou (fun x hx=>by have:=L3 x hx;simp only [List.mem_singleton];omega)
   have ob:=hO.out hou (fun x hx=>by have:=HN.out.2 x hx;simp only [List.mem_singleton];omega)
   have HR:Hid ((InstQ.e ⟨has,.slice s1 q1.length t1,q1,.slice sa qs.length sc,qs,.slice a3 dec.length c3,dec⟩=InstQ.e ⟨has,.slice ba batch.length bk,batch,.slice va rounds.length vk,rounds,.slice da dec.length dk,dec⟩)∧(instK.foot ⟨has,.slice s1 q1.length t1,q1,.slice sa qs.length sc,qs,.slice a3 dec.length c3,dec⟩).Nodup∧∀ x∈instK.foot ⟨has,.slice s1 q1.length t1,q1,.slice sa qs.length sc,qs,.slice a3 dec.length c3,dec⟩,w.heap.size≤x):=by
    refine ⟨?_,?_,?_⟩
    ·simp only [InstQ.e,e1,HE9.out]
    ·refine List.nodup_append.2 ⟨n1,List.nodup_append.2 ⟨HN.out.1,intK_nodup _ _,fun x hx y hy e=>?_⟩,fun x hx y hy e=>?_⟩
     ·have:=HN.out.2 x hx;have:=o3.lt y hy;omega
     ·rcases List.mem_append.1 hy with hy | hy
      ·have:=HN.out.2 y hy;have:=o1.lt x hx;omega
      ·exact D13 x hx y hy e
    ·intro x hx
     rcases List.mem_append.1 hx with hx | hx
     ·have:=L1 x hx;omega
     ·rcases List.mem_append.1 hx with hx | hx
      ·have:=HN.out.2 x hx;omega
      ·have:=L3 x hx;omega
   clear e1 o1 n1 L1 N1 o3 L3 N3 D13 hou HQ1 HE9 hO HN HLO
   go_wp2_with (first | (refine st_row (by kernel_rfl) 28 _ _ rfl _ #[.bool has,.slice s1 q1.length t1,.slice sa qs.length sc,.slice a3 dec.length c3] rfl rfl 28 _ Rbr sz_inst rfl (by simp [Value.oneCell']) ?_))
   obtain ⟨k0,k1,k2,k3⟩:=Rz.cel4
   exact bodyPost_ret (v:=.agg #[.bool has,.slice s1 q1.length t1,.slice sa qs.length sc,.slice a3 dec.length c3]) (by simp [results,Tryz.results28,go_sem,k0,k1,k2,k3]) rfl ⟨⟨has,.slice s1 q1.length t1,q1,.slice sa qs.length sc,qs,.slice a3 dec.length c3,dec⟩,rfl,HR.out.1,⟨oa,ob,oc⟩,HR.out.2.1,HR.out.2.2,hBe⟩

end Go.Proofs.YtdhdnppbgaikfaaGreatDoor
