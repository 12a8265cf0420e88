/- Texts joined, with what the laws reach alone. -/
import Derived.Test.YtfdkcbafpiojkaaGreatDoorSGAE
import Derived.LaidEql
import Derived.Stop.Asserts
import Derived.RowKitTokens
set_option linter.unusedVariables false
set_option linter.unusedSimpArgs false
namespace Go.Proofs.YtfdkcbafpiojkaaGreatDoor
open Go.RowKit Go.Extern.Stop Go.Stop Go.Extern
set_option maxRecDepth 100000
/-- errors.As(nil, target). -/
theorem as_nil (t:Value) (w:World) :
  Calls Tryz.prog 133 #[.nilIface,t] w fun e w' => e=.returned (.bool false)∧w' = w:=by
 go_enter Tryz.func133,Tryz.ntmps133
 go_wp2
 go_ret
 exact ⟨rfl,rfl⟩

theorem as9_valueOf27 (t:Addr) (w:World):(ReflectliteValue.unpack (.iface 197 (.pointer (some t)))).run Tryz.prog w
  = .ok (.agg #[.pointer (some ⟨1,197,none⟩),.pointer (some ⟨w.heap.size,0,none⟩),.int .u64 150]) (w.alloc (.cells #[.pointer (some t)] 197)):=by kernel_rfl

theorem as9_type27 (a : Addr) (w : World) : (ReflectliteValue.methodAny (ReflectliteValue.valueError "reflectlite.Value.Type" 0) (fun t _ _ _ => ReflectliteType.toType t) #[.agg #[.pointer (some ⟨1, 197, none⟩), .pointer (some a), .int .u64 150]]).run Tryz.prog w
  = .ok (.iface 259 (.agg #[.pointer (some ⟨1,197,none⟩)])) w:=by kernel_rfl

theorem as9_methodKind (h : Value) (w : World) : (Go.method 241 259 (.agg #[h]) "Kind").run Tryz.prog w = .ok (232, h) w := by kernel_rfl

theorem as9_kind27 (w:World):((ReflectliteType.abiMethod fun t=>(fun a:Nat=>Value.int IntKind.u8 (a:Int)) <$> Rtype.kind t) #[.pointer (some ⟨1,197,none⟩)]).run Tryz.prog w=.ok (.int .u8 22) w:=by kernel_rfl

theorem as9_kind25 (w:World):((ReflectliteType.abiMethod fun t=>(fun a:Nat=>Value.int IntKind.u8 (a:Int)) <$> Rtype.kind t) #[.pointer (some ⟨1,195,none⟩)]).run Tryz.prog w=.ok (.int .u8 25) w:=by kernel_rfl

theorem as9_rlm (z:Sem Value) (f:TypeId→Addr→Nat→Nat→Sem Value) (v:Value) :
  ReflectliteValue.method z f #[v]=(do match ← ReflectliteValue.parts v with | none=>z | some (t,a,fl)=>f t a fl (fl % 32)):=rfl

theorem as9_parts27 (a:Addr) (w:World):(ReflectliteValue.parts (.agg #[.pointer (some ⟨1,197,none⟩),.pointer (some a),.int .u64 150])).run Tryz.prog w=.ok (some (197,a,150)) w:=by kernel_rfl

/-- (Value).IsNil at the Value of a **p.E that is not nil. -/
theorem as9_isNil27 (a p:Addr) (W:World) (ha:W.cell? a=some (.pointer (some p))) :
  (ReflectliteValue.method (ReflectliteValue.valueError "reflectlite.Value.IsNil" 0) ReflectliteValue.isNil #[.agg #[.pointer (some ⟨1, 197, none⟩), .pointer (some a), .int .u64 150]]).run Tryz.prog W = .ok (.bool false) W := by
 rw [as9_rlm]
 simp only [Sem.run_bind,as9_parts27,Result.andThen]
 simp [ReflectliteValue.isNil,loadVar,isAgg,underlying,Tryz.underlying197,ha,Result.andThen]

theorem as9_methodElem (h : Value) (w : World) : (Go.method 241 259 (.agg #[h]) "Elem").run Tryz.prog w = .ok (242, .agg #[h]) w := by kernel_rfl

theorem as9_methodImplements (h : Value) (w : World) : (Go.method 241 259 (.agg #[h]) "Implements").run Tryz.prog w = .ok (243, .agg #[h]) w := by kernel_rfl

theorem as9_methodAssignableTo (h : Value) (w : World) : (Go.method 241 259 (.agg #[h]) "AssignableTo").run Tryz.prog w = .ok (240, .agg #[h]) w := by kernel_rfl

theorem as9_elem27 (w:World):(ReflectliteType.method ReflectliteType.elem #[.agg #[.pointer (some ⟨1,197,none⟩)]]).run Tryz.prog w=.ok (.iface 259 (.agg #[.pointer (some ⟨1,195,none⟩)])) w:=by kernel_rfl

theorem as9_implements25 (w : World) : (ReflectliteType.relation "Implements" ReflectliteType.implements_ #[.agg #[.pointer (some ⟨1, 195, none⟩)], .iface 259 (.agg #[.pointer (some ⟨1, 115, none⟩)])]).run Tryz.prog w = .ok (.bool true) w := by kernel_rfl

theorem as9_typeOf25 (v:Value) (w:World):(ReflectliteType.typeOf #[.iface 195 v]).run Tryz.prog w=.ok (.iface 259 (.agg #[.pointer (some ⟨1,195,none⟩)])) w:=by kernel_rfl

theorem as9_assignable25 (w : World) : (ReflectliteType.relation "AssignableTo" ReflectliteType.assignableTo #[.agg #[.pointer (some ⟨1, 195, none⟩)], .iface 259 (.agg #[.pointer (some ⟨1, 195, none⟩)])]).run Tryz.prog w = .ok (.bool true) w := by kernel_rfl

theorem as9_valueOf25 (c:Int) (w:World):(ReflectliteValue.unpack (.iface 195 (.agg #[.int .i64 c]))).run Tryz.prog w
  = .ok (.agg #[.pointer (some ⟨1,195,none⟩),.pointer (some ⟨w.heap.size,0,none⟩),.int .u64 153]) (w.alloc (.cells #[.int .i64 c] 195)):=by kernel_rfl

theorem as9_elemOf27 (w:World):(Rtype.elem? 197).run Tryz.prog w=.ok (some 195) w:=by kernel_rfl

theorem as9_mk25 (p:Addr) (w:World):(ReflectliteValue.mk 195 p ReflectliteValue.flagAddr).run Tryz.prog w=.ok (.agg #[.pointer (some ⟨1,195,none⟩),.pointer (some p),.int .u64 409]) w:=by kernel_rfl

/-- (Value).Elem at the Value of a **p.E that is not nil: the Value of the *p.E variable that it points to, addressable. -/
theorem as9_elemV27 (a p:Addr) (W:World) (ha:W.cell? a=some (.pointer (some p))) :
  (ReflectliteValue.method (ReflectliteValue.valueError "reflectlite.Value.Elem" 0) ReflectliteValue.elem #[.agg #[.pointer (some ⟨1, 197, none⟩), .pointer (some a), .int .u64 150]]).run Tryz.prog W
   = .ok (.agg #[.pointer (some ⟨1,195,none⟩),.pointer (some p),.int .u64 409]) W:=by
 rw [as9_rlm]
 simp only [Sem.run_bind,as9_parts27,Result.andThen]
 simp [ReflectliteValue.elem,loadVar,isAgg,underlying,Tryz.underlying197,ha,Result.andThen,as9_elemOf27,as9_mk25]

theorem as9_rls (v x:Value):ReflectliteValue.set #[v,x]=(do
  let (some (dst,a,fl),some (src,b,_)):=(← ReflectliteValue.parts v,← ReflectliteValue.parts x)
   | unsupported (.noEntry "extern/(internal/reflectlite.Value).Set.zeroValue")
  if fl / ReflectliteValue.flagAddr % 2 == 0 then unsupported (.noEntry "extern/(internal/reflectlite.Value).Set.unaddressable")
  let val ← loadVar src b
  if ← Rtype.directlyAssignable dst src then storeVar dst a val
  else if ← Rtype.implements dst src then
   if (← Rtype.kind src) == 20 then
    match val with
    | .nilIface => unsupported (.noEntry "extern/reflectlite: a nil value of one interface type handed on as a value of another")
    | _=>storeVar dst a val
   else storeVar dst a (.iface src val)
  else panicString ("reflectlite.Set: value of type " ++ (← Rtype.spelt src) ++ " is not assignable to type " ++ (← Rtype.spelt dst))
  pure (.tuple #[])):=rfl

theorem as9_parts25a (a:Addr) (w:World):(ReflectliteValue.parts (.agg #[.pointer (some ⟨1,195,none⟩),.pointer (some a),.int .u64 409])).run Tryz.prog w=.ok (some (195,a,409)) w:=by kernel_rfl

theorem as9_parts25 (a:Addr) (w:World):(ReflectliteValue.parts (.agg #[.pointer (some ⟨1,195,none⟩),.pointer (some a),.int .u64 153])).run Tryz.prog w=.ok (some (195,a,153)) w:=by kernel_rfl

theorem as9_direct25 (w:World):(Rtype.directlyAssignable 195 195).run Tryz.prog w=.ok true w:=by kernel_rfl

theorem as9_size25 (w:World):(sizeOf 195).run Tryz.prog w=.ok 1 w:=by kernel_rfl

theorem as9_ld (b:Addr) (c:Int) (W:World) (hb:W.cell? b=some (.int .i64 c)):(loadVar 195 b).run Tryz.prog W=.ok (.agg #[.int .i64 c]) W:=by
 have h1:(loadCells b 1).run Tryz.prog W=.ok #[.int .i64 c] W:=run_loadCells_list (P:=Tryz.prog) (w:=W) b [.int .i64 c] (fun j v hj=>by
  match j,hj with
  | 0,hj=>simp at hj;subst hj;simpa [Addr.add] using hb)
 unfold loadVar
 simp only [Sem.run_bind]
 have h2:(isAgg 195).run Tryz.prog W=.ok true W:=by simp [isAgg,underlying,Tryz.underlying195,Result.andThen]
 rw [h2]
 simp [Result.andThen,as9_size25,h1]

theorem as9_sv (ta:Addr) (c:Int) (old:Value) (W:World) (ht:W.cell? ta=some old) (hf:W.frozen? ta=false):(storeVar 195 ta (.agg #[.int .i64 c])).run Tryz.prog W=.ok () (W.setCell ta (.int .i64 c)):=by
 unfold storeVar
 simp [as9_size25,Value.cells,storeCells,Result.andThen,Addr.add]
 rw [run_store Tryz.prog W ta _ _ (by rfl)]
 simp [ht,hf]

/-- (Value).Set: the misfit at 'ta' gets what the Value's own variable 'b' holds. -/
theorem as9_set25 (ta b:Addr) (c:Int) (old:Value) (W:World) (hb:W.cell? b=some (.int .i64 c)) (ht:W.cell? ta=some old) (hf:W.frozen? ta=false) :
  (ReflectliteValue.set #[.agg #[.pointer (some ⟨1,195,none⟩),.pointer (some ta),.int .u64 409],.agg #[.pointer (some ⟨1,195,none⟩),.pointer (some b),.int .u64 153]]).run Tryz.prog W
   = .ok (.tuple #[]) (W.setCell ta (.int .i64 c)):=by
 rw [as9_rls]
 simp only [Sem.run_bind,as9_parts25a,as9_parts25,Result.andThen]
 simp [ReflectliteValue.flagAddr,Result.andThen,as9_direct25,as9_ld b c W hb,as9_sv ta c old W ht hf]

set_option maxHeartbeats 4000000 in
theorem as_hit (c:Int) (t:Addr) (old:Value) (w:World) (hg:w.cell? ⟨0,0,none⟩=some (.iface 259 (.agg #[.pointer (some ⟨1,115,none⟩)]))) (ht0:w.cell? t=some old) (hf0:w.frozen? t=false) :
  Calls Tryz.prog 133 #[.iface 195 (.agg #[.int .i64 c]),.iface 197 (.pointer (some t))] w fun ev w' => ev=.returned (.bool true)∧w' = ((((w.alloc (.cells #[.pointer (some t)] 197)).alloc (.cells #[.pointer (some ⟨1,197,none⟩),.pointer (some ⟨w.heap.size,0,none⟩),.int .u64 150] 238)).alloc (.cells #[.pointer (some ⟨1,197,none⟩),.pointer (some ⟨w.heap.size,0,none⟩),.int .u64 150] 238)).alloc (.cells #[.int .i64 c] 195)).setCell t (.int .i64 c):=by
 have h6:=@run_callFunc_extern Tryz.prog 172 _ (fun args=>ReflectliteValue.unpack (args.getD 0 (.tuple #[]))) Tryz.func172 (by kernel_rfl) (by kernel_rfl) (by kernel_rfl) (by kernel_rfl)
 have h7 := @run_callFunc_extern Tryz.prog 173 _ (ReflectliteValue.methodAny (ReflectliteValue.valueError "reflectlite.Value.Type" 0) (fun t _ _ _ => ReflectliteType.toType t)) Tryz.func173 (by kernel_rfl) (by kernel_rfl) (by kernel_rfl) (by kernel_rfl)
 have h8 := @run_callFunc_extern Tryz.prog 174 _ (ReflectliteValue.method (ReflectliteValue.valueError "reflectlite.Value.IsNil" 0) ReflectliteValue.isNil) Tryz.func174 (by kernel_rfl) (by kernel_rfl) (by kernel_rfl) (by kernel_rfl)
 have h27:=@run_callFunc_extern Tryz.prog 232 _ (ReflectliteType.abiMethod fun t=>do pure (.int .u8 (← Rtype.kind t))) Tryz.func232 (by kernel_rfl) (by kernel_rfl) (by kernel_rfl) (by kernel_rfl)
 have h37:=@run_callFunc_extern Tryz.prog 242 _ (ReflectliteType.method ReflectliteType.elem) Tryz.func242 (by kernel_rfl) (by kernel_rfl) (by kernel_rfl) (by kernel_rfl)
 have h38 := @run_callFunc_extern Tryz.prog 243 _ (ReflectliteType.relation "Implements" ReflectliteType.implements_) Tryz.func243 (by kernel_rfl) (by kernel_rfl) (by kernel_rfl) (by kernel_rfl)
 have h10:=@run_callFunc_extern Tryz.prog 193 _ ReflectliteType.typeOf Tryz.func193 (by kernel_rfl) (by kernel_rfl) (by kernel_rfl) (by kernel_rfl)
 have h35 := @run_callFunc_extern Tryz.prog 240 _ (ReflectliteType.relation "AssignableTo" ReflectliteType.assignableTo) Tryz.func240 (by kernel_rfl) (by kernel_rfl) (by kernel_rfl) (by kernel_rfl)
 have h11 := @run_callFunc_extern Tryz.prog 194 _ (ReflectliteValue.method (ReflectliteValue.valueError "reflectlite.Value.Elem" 0) ReflectliteValue.elem) Tryz.func194 (by kernel_rfl) (by kernel_rfl) (by kernel_rfl) (by kernel_rfl)
 have h12:=@run_callFunc_extern Tryz.prog 195 _ ReflectliteValue.set Tryz.func195 (by kernel_rfl) (by kernel_rfl) (by kernel_rfl) (by kernel_rfl)
 have tO:=as9_typeOf25
 have mA:=as9_methodAssignableTo
 have a25:=as9_assignable25
 have v25:=as9_valueOf25
 have f6:=as9_valueOf27
 have f7:=as9_type27
 have mK:=as9_methodKind
 have mE:=as9_methodElem
 have mI:=as9_methodImplements
 have k27:=as9_kind27
 have k25:=as9_kind25
 have e27:=as9_elem27
 have i25:=as9_implements25
 have n8:=as9_isNil27 ⟨w.heap.size,0,none⟩ t ((w.alloc (.cells #[.pointer (some t)] 197)).alloc (.cells #[.pointer (some ⟨1,197,none⟩),.pointer (some ⟨w.heap.size,0,none⟩),.int .u64 150] 238)) (by simp)
 have hlt:0 < w.heap.size:=by
  rcases Nat.eq_zero_or_pos w.heap.size with h0 | h
  ·simp [World.cell?,h0] at hg
  ·exact h
 have hg2:((w.alloc (.cells #[.pointer (some t)] 197)).alloc (.cells #[.pointer (some ⟨1,197,none⟩),.pointer (some ⟨w.heap.size,0,none⟩),.int .u64 150] 238)).cell? ⟨0,0,none⟩=some (.iface 259 (.agg #[.pointer (some ⟨1,115,none⟩)])):=by
  rw [World.cell?_alloc_lt _ _ ⟨0,0,none⟩ (by simp),World.cell?_alloc_lt _ _ ⟨0,0,none⟩ hlt];exact hg
 have htl:t.block < w.heap.size:=by
  rcases Nat.lt_or_ge t.block w.heap.size with h | h
  ·exact h
  ·simp [World.cell?,Array.getElem?_eq_none h] at ht0
 have el:=as9_elemV27 ⟨w.heap.size,0,none⟩ t (((w.alloc (.cells #[.pointer (some t)] 197)).alloc (.cells #[.pointer (some ⟨1,197,none⟩),.pointer (some ⟨w.heap.size,0,none⟩),.int .u64 150] 238)).alloc (.cells #[.pointer (some ⟨1,197,none⟩),.pointer (some ⟨w.heap.size,0,none⟩),.int .u64 150] 238)) (by rw [World.cell?_alloc_lt _ _ ⟨w.heap.size,0,none⟩ (by simp;omega)];simp)
 have st:=as9_set25 t ⟨w.heap.size + 1 + 1 + 1,0,none⟩ c old ((((w.alloc (.cells #[.pointer (some t)] 197)).alloc (.cells #[.pointer (some ⟨1,197,none⟩),.pointer (some ⟨w.heap.size,0,none⟩),.int .u64 150] 238)).alloc (.cells #[.pointer (some ⟨1,197,none⟩),.pointer (some ⟨w.heap.size,0,none⟩),.int .u64 150] 238)).alloc (.cells #[.int .i64 c] 195))
  (by rw [World.cell?_alloc_at _ _ _ _ (by simp)];rfl)
  (by rw [World.cell?_alloc_lt _ _ t (by simp;omega),World.cell?_alloc_lt _ _ t (by simp;omega),World.cell?_alloc_lt _ _ t (by simp;omega),World.cell?_alloc_lt _ _ t htl];exact ht0)
  (by rw [World.frozen?_alloc_old _ _ t (by simp;omega),World.frozen?_alloc_old _ _ t (by simp;omega),World.frozen?_alloc_old _ _ t (by simp;omega),World.frozen?_alloc_old _ _ t (Nat.ne_of_lt htl)];exact hf0)
 go_enter Tryz.func133,Tryz.ntmps133
 go_wp2
 refine wp_loop_rounds 1 ?_
 rw [rounds_succ]
 go_wp2
 go_ret
 exact ⟨rfl,rfl⟩

/-- errors.errorType, as the program's text lays it. -/
def ErrT (w:World):Prop:=w.cell? ⟨0,0,none⟩=some (.iface 259 (.agg #[.pointer (some ⟨1,115,none⟩)]))

theorem ErrT.below {w w' : World} (h:ErrT w) (hb:Below w.heap.size w w'):ErrT w' := by
 have hlt:0 < w.heap.size:=by
  rcases Nat.eq_zero_or_pos w.heap.size with h0 | h0
  ·unfold ErrT at h
   simp [World.cell?,h0] at h
  ·exact h0
 exact (hb.cell (p:=⟨0,0,none⟩) hlt).trans h

theorem codeOf_nil (w:World):Calls Tryz.prog 67 #[.nilIface] w fun e w' => e=.returned (.int .i64 0)∧Below w.heap.size w w' := by
 have hB:Below w.heap.size w (w.alloc (.cells #[.int .i64 0] 195)):=by go_grown
 go_enter Tryz.func67,Tryz.ntmps67
 go_wp2_with fail
 refine (as_nil _ _).mono ?_
 rintro e w1 ⟨rfl,rfl⟩
 go_wp2
 go_ret
 exact ⟨rfl,hB⟩

theorem codeOf_hit (c:Int) (w:World) (hg:ErrT w):Calls Tryz.prog 67 #[.iface 195 (.agg #[.int .i64 c])] w fun e w' => e=.returned (.int .i64 c)∧Below w.heap.size w w' := by
 have hB:Below w.heap.size w (w.alloc (.cells #[.int .i64 0] 195)):=by go_grown
 have B:=Blk.new w 195 #[.int .i64 0]
 have h0:=B.cell 0 _ rfl
 have hf:=B.frozen 0
 have hlt:=B.lt
 go_enter Tryz.func67,Tryz.ntmps67
 go_wp2_with fail
 have hg' := hg.below hB
 generalize w.alloc (.cells #[.int .i64 0] 195)=W at *
 generalize hgs:w.heap.size=g at *
 refine (as_hit c ⟨g,0,none⟩ (.int .i64 0) W hg' h0 hf).mono ?_
 rintro e w1 ⟨rfl,rfl⟩
 have hb2:Below W.heap.size W ((((W.alloc (.cells #[.pointer (some ⟨g,0,none⟩)] 197)).alloc (.cells #[.pointer (some ⟨1,197,none⟩),.pointer (some ⟨W.heap.size,0,none⟩),.int .u64 150] 238)).alloc (.cells #[.pointer (some ⟨1,197,none⟩),.pointer (some ⟨W.heap.size,0,none⟩),.int .u64 150] 238)).alloc (.cells #[.int .i64 c] 195)):=by go_grown
 have B2:=B.below hb2
 have hB2:=hB.trans (hb2.mono (by rw [← hgs];exact hB.size))
 generalize (((W.alloc (.cells #[.pointer (some ⟨g,0,none⟩)] 197)).alloc (.cells #[.pointer (some ⟨1,197,none⟩),.pointer (some ⟨W.heap.size,0,none⟩),.int .u64 150] 238)).alloc (.cells #[.pointer (some ⟨1,197,none⟩),.pointer (some ⟨W.heap.size,0,none⟩),.int .u64 150] 238)).alloc (.cells #[.int .i64 c] 195)=W2 at *
 have c3:(W2.setCell ⟨g,0,none⟩ (.int .i64 c)).cell? ⟨g,0,none⟩=some (.int .i64 c):=by
  have:W2.heap[g]? = some (.cells #[.int .i64 0] 195 (0,0)):=B2
  simp [World.cell?,World.setCell,Array.getElem?_modify,this]
 have hB3:Below g w (W2.setCell ⟨g,0,none⟩ (.int .i64 c)):=hB2.setCell (p:=⟨g,0,none⟩) (Nat.le_refl _) _
 generalize W2.setCell ⟨g,0,none⟩ (.int .i64 c)=W3 at *
 go_wp2
 go_ret
 exact ⟨rfl,by rw [hgs];exact hB3⟩

end Go.Proofs.YtfdkcbafpiojkaaGreatDoor
namespace Go.Proofs.YtfdkcbafpiojkaaGreatDoor
open Go.RowKit
open Go.BigFrame
set_option maxRecDepth 100000
set_option maxHeartbeats 2000000 in
theorem l2CopyAll_any (v:Value) (ps:List TxnQ) (w:World) (h:txnK.At w v ps) (hne:∀ p∈ps,0 < p.acts.length) (hl:ps.length + nmL TxnQ.n ps≤1048576) :
  Calls Tryz.prog 92 #[v] w fun e w' => ∃ v' qs,e=.returned v' ∧ qs.map TxnQ.e=ps.map TxnQ.e∧txnK.Own w' v' qs∧(txnK.fp v' qs).Nodup∧(∀ k∈txnK.fp v' qs,w.heap.size≤k)∧Below w.heap.size w w' := by
 obtain ⟨a,cap,rfl⟩:=h.shape
 obtain ⟨i0,hi,hz0,hz1,hz2⟩:=info_parts infoTxn
 have ho:=World.ownsRow_lit (e:=49) (size:=4) w #[] 0 (Nat.le_refl _) (by decide) rfl
 have hn1:txnK.Own (w.alloc (.cells #[] 49)) (.slice (some ⟨w.heap.size,0,none⟩) 0 0) ([]:List TxnQ):=⟨(own_zero ho).1,fun p hp=>by simp at hp⟩
 have hnb:Below w.heap.size w (w.alloc (.cells #[] 49)):=by go_grown
 have HN0:Hid ((txnK.fp (.slice (some ⟨w.heap.size,0,none⟩) 0 0) ([]:List TxnQ)).Nodup∧∀ k∈txnK.fp (.slice (some ⟨w.heap.size,0,none⟩) 0 0) ([]:List TxnQ),w.heap.size≤k):=by
  refine ⟨?_,?_⟩
  ·simp [Kind.fp,blk,Value.ownBlock]
  ·simp [Kind.fp,blk,Value.ownBlock]
 clear ho
 go_enter Tryz.func92,Tryz.ntmps92
 go_wp2
 go_loopw [3,4] (fun v j wr=>∃ (k:Nat) (qs:List TxnQ),k≤ps.length∧j=.int .i64 k∧Hid (qs.map TxnQ.e=(ps.take k).map TxnQ.e)∧txnK.Own wr v qs∧Hid ((txnK.fp v qs).Nodup∧∀ k∈txnK.fp v qs,w.heap.size≤k)∧Below w.heap.size w wr) (fun _ j _=>ps.length - (intOf j).toNat)
 case atStart=>exact ⟨0,[],Nat.zero_le _,rfl,(rfl:_=_),hn1,HN0,hnb⟩
 case round=>
  clear HN0 hn1 hnb
  obtain ⟨k,qs,hk,rfl,HE,hO,HN,hb⟩:=hrel
  obtain ⟨sa,sc,rfl⟩:=hO.shape
  have HQL:Hid (qs.length=k):=by
   have:=congrArg List.length HE.out
   rw [List.length_map,List.length_map,List.length_take] at this
   show qs.length=k
   omega
  by_cases hlt:k < ps.length
  ·obtain ⟨b,off,rfl,hbs,hc,hrd⟩:=(h.below hb).cell (by decide) k hlt
   have hc' : ∀ j x,(txnK.cells ps[k])[j]? = some x→wr.cell? ⟨b,off + k * 4 + j,none⟩=some x:=hc
   have c0:=hc' 0 (.int .i64 ps[k].i) rfl
   have c1:=hc' 1 (.int .i64 ps[k].s) rfl
   have c2:=hc' 2 (.int .i64 ps[k].q) rfl
   have c3:=hc' 3 (ps[k].va) rfl
   have hzl:=nm_le TxnQ.n ps k hlt
   have hpos:=hne _ (List.getElem_mem hlt)
   have HPE:Hid (∀ p' : TxnQ,p'.e=TxnQ.e ps[k]→(qs ++ [p']).map TxnQ.e=(ps.take (k + 1)).map TxnQ.e):=fun p' hp' => by
    rw [List.take_succ_eq_append_getElem hlt,List.map_append,List.map_append,HE.out,List.map_singleton,List.map_singleton,hp']
   clear hc hc'
   generalize ps[k]=p at *
   obtain ⟨i,s,q,va,acts⟩:=p
   replace hrd:actK.At wr va acts:=hrd
   replace hzl:acts.length≤nmL TxnQ.n ps:=hzl
   obtain ⟨aa,ac,rfl⟩:=hrd.shape
   dsimp only at c0 c1 c2 c3 hpos
   obtain ⟨ab,ao,haa⟩:∃ ab ao,aa=some ⟨ab,ao,none⟩:=by
    rcases (actK_at hrd).2 with h0 | ⟨ab,ao,e,_⟩
    ·have:=actCells_length acts
     rw [h0] at this
     simp at this
     omega
    ·exact ⟨ab,ao,e⟩
   subst haa
   have hcl:=l2Copy_any i s q ab ao ac acts _ (actK_at hrd).2 hpos (by omega)
   rw [Nat.add_zero] at c0
   clear HE
   go_wp2_with fail
   clear c0 c1 c2 c3
   have hYs:w.heap.size≤wr.heap.size:=hb.size
   refine hcl.mono ?_
   rintro e w2 ⟨a2,c2,rfl,ho2,hb2⟩
   have HLT:=hO.lt
   replace hO:=hO.below hb2
   replace hb:=hb.trans (hb2.mono hb.size)
   obtain ⟨o2,hk2⟩:=own_zero ho2
   have hP:txnK.own w2 ⟨i,s,q,.slice a2 acts.length c2,acts⟩:=⟨o2,fun _ _=>trivial⟩
   have hPlo:∀ x∈txnK.foot ⟨i,s,q,.slice a2 acts.length c2,acts⟩,wr.heap.size≤x:=fun x hx=>hk2 x (by rw [← actK_fp (.slice a2 acts.length c2) acts];exact hx)
   have hPn:(txnK.foot ⟨i,s,q,.slice a2 acts.length c2,acts⟩).Nodup:=by
    show (actK.fp _ _).Nodup
    rw [actK_fp];exact blk_nodup _
   have hbA:Below w2.heap.size w2 (w2.alloc (.cells #[.int .i64 i,.int .i64 s,.int .i64 q,.slice a2 acts.length c2] 49)):=by go_grown
   have hOA:=hO.below hbA
   have hPA:=txnK.own_out (F:=[]) hP (Out.of_below hbA) (fun _ _=>by simp)
   have hbB:=hb.trans (hbA.mono hb.size)
   clear hcl ho2 hO hP hk2
   have hrow0:=hOA.1
   go_wp2_with (at_builtin;refine wpList_append_own_at _ rfl _ _ 28 rfl 0 49 i0 (.agg #[.int .i64 0,.int .i64 0,.int .i64 0,.slice none 0 0]) 4 48 Tryz.underlying28 hi hz0 hz1 hz2 rfl (by decide) _ qs.length (txnK.row qs) rfl hrow0 ⟨w2.heap.size,0,none⟩ 1 1 [.int .i64 i,.int .i64 s,.int .i64 q,.slice a2 acts.length c2] rfl rfl ?c1 ?c2 ?c3 ?c4 ?c5 ?_)
   all_goals try (case c1=>intro j u hj;match j,hj with | 0,hj=>simp at hj;subst hj;simp [Addr.add] | 1,hj=>simp at hj;subst hj;simp [Addr.add] | 2,hj=>simp at hj;subst hj;simp [Addr.add] | 3,hj=>simp at hj;subst hj;simp [Addr.add])
   all_goals try (case c2=>intro u hu;simp at hu;rcases hu with rfl | rfl | rfl | rfl <;> rfl)
   all_goals try (case c3=>have:=HQL.out;unfold maxLen;omega)
   all_goals try (case c4=>have:=HQL.out;omega)
   all_goals try (case c5=>first | omega | simp)
   intro v' w5 hown hgrow hnil hat
   clear hnil hrow0
   rw [show w2.heap.size + 1=(w2.alloc (.cells #[.int .i64 i,.int .i64 s,.int .i64 q,.slice a2 acts.length c2] 49)).heap.size from (World.size_alloc _ _).symm] at hat
   generalize hwA:w2.alloc (.cells #[.int .i64 i,.int .i64 s,.int .i64 q,.slice a2 acts.length c2] 49)=WA at *
   clear hwA
   have hsz:wr.heap.size≤WA.heap.size:=by have:=hb2.size;have:=hbA.size;omega
   obtain ⟨hO5,hn5,hlo5,hou⟩:=hOA.snoc HN.out.1 HN.out.2 hPA hPn (fun x hx hx' => by have:=HLT x hx';have:=hPlo x hx;omega) (fun x hx=>by have:=hPlo x hx;omega) hbB.size hown hgrow hat
   have hb5:Below w.heap.size w w5:=Out.keep hbB hou hbB.size (fun x hx=>HN.out.2 x (by simp only [Kind.fp,List.mem_append];exact Or.inl hx))
   have HE5:Hid ((qs ++ [(⟨i,s,q,.slice a2 acts.length c2,acts⟩:TxnQ)]).map TxnQ.e=(ps.take (k + 1)).map TxnQ.e):=HPE.out _ rfl
   have HN5:Hid ((txnK.fp v' (qs ++ [(⟨i,s,q,.slice a2 acts.length c2,acts⟩:TxnQ)])).Nodup∧∀ k∈txnK.fp v' (qs ++ [(⟨i,s,q,.slice a2 acts.length c2,acts⟩:TxnQ)]),w.heap.size≤k):=⟨hn5,hlo5⟩
   clear HPE HN HLT hPlo hPn hPA hOA hbB hown hgrow hat hou hn5 hlo5 hrd hb hbA hb2 hzl hpos
   go_wp2
   go_roundw
   case rel=>exact ⟨k + 1,_,by omega,by go_num,HE5,hO5,HN5,hb5⟩
   case measure=>simp [intOf];omega
  ·have hkl:k=ps.length:=by omega
   subst hkl
   have hE:=HE.out
   rw [List.take_length] at hE
   clear HE
   go_wp2
   go_ret
   exact ⟨_,qs,rfl,hE,hO,HN.out.1,HN.out.2,hb⟩

end Go.Proofs.YtfdkcbafpiojkaaGreatDoor
namespace Go.Proofs.YtfdkcbafpiojkaaGreatDoor
open Go.RowKit
open Go.BigFrame
set_option maxRecDepth 100000
theorem stp_zero {acc:List TxnD} {t:TxnD} (h:stpF acc t=0):t.F=0∧knw acc t=false:=by
 unfold stpF at h
 by_cases h0:t.F=0
 ·rw [if_pos h0] at h
  refine ⟨h0,?_⟩
  cases hk:knw acc t with
  | false=>rfl
  | true=>rw [hk] at h;exact absurd h (by decide)
 ·rw [if_neg h0] at h
  exact absurd h h0

end Go.Proofs.YtfdkcbafpiojkaaGreatDoor
namespace Go.Proofs.YtfdkcbafpiojkaaGreatDoor
open Go.RowKit
set_option maxRecDepth 100000
/-- A source of draws at block b: bytes that lie below block B, and a count of at most T. -/
def Src (B:Nat) (w:World) (b:Nat) (T:Nat):Prop:=
 ∃ (a:Option Addr) (zs:List Int) (cap t:Nat),B≤b∧b < w.heap.size∧w.cell? ⟨b,0,none⟩=some (.slice a zs.length cap)∧w.cell? ⟨b,1,none⟩=some (.int .i64 (t:Int))∧w.frozen? ⟨b,1,none⟩=false ∧
  t≤T∧zs.length≤1048576∧(∀ i,0≤zs.getD i 0∧zs.getD i 0≤255)∧(∀ i,i < zs.length→∃ b' off,a=some ⟨b',off,none⟩∧b' < B∧w.cell? ⟨b',off + i,none⟩=some (.int .u8 (zs.getD i 0)))

theorem Src.lt {B b T:Nat} {w:World} (h:Src B w b T):B≤b∧b < w.heap.size:=by
 obtain ⟨a,zs,cap,t,h1,h2,_⟩:=h
 exact ⟨h1,h2⟩

/-- A source lasts while its block, and all below B, read as before. -/
theorem Src.kept {B b T:Nat} {w w' : World} (h:Src B w b T) (hs:w.heap.size≤w'.heap.size) (hb:w'.heap[b]? = w.heap[b]?) (hB:∀ k,k < B→w'.heap[k]? = w.heap[k]?):Src B w' b T:=by
 obtain ⟨a,zs,cap,t,h1,h2,h3,h4,h5,h6,h7,h8,h9⟩:=h
 refine ⟨a,zs,cap,t,h1,Nat.lt_of_lt_of_le h2 hs,?_,?_,?_,h6,h7,h8,?_⟩
 ·rw [World.cell?_of_block (w:=w) (a:=⟨b,0,none⟩) hb];exact h3
 ·rw [World.cell?_of_block (w:=w) (a:=⟨b,1,none⟩) hb];exact h4
 ·rw [World.frozen?_of_block (w:=w) (a:=⟨b,1,none⟩) hb];exact h5
 ·intro i hi
  obtain ⟨b',off,e1,e2,e3⟩:=h9 i hi
  exact ⟨b',off,e1,e2,by rw [World.cell?_of_block (w:=w) (a:=⟨b',off + i,none⟩) (hB b' e2)];exact e3⟩

theorem Src.below {B b T:Nat} {w w' : World} (h:Src B w b T) (hb:Below w.heap.size w w'):Src B w' b T:=
 h.kept hb.size (hb.block b h.lt.2) (fun k hk=>hb.block k (by have:=h.lt;omega))

theorem Src.mono {B b T T' : Nat} {w:World} (h:Src B w b T) (hT:T≤T'):Src B w b T' := by
 obtain ⟨a,zs,cap,t,h1,h2,h3,h4,h5,h6,r⟩:=h
 exact ⟨a,zs,cap,t,h1,h2,h3,h4,h5,Nat.le_trans h6 hT,r⟩

/-- The count goes one up. -/
theorem Src.step {B b T:Nat} {w:World} {a:Option Addr} {zs:List Int} {cap t:Nat} (h1:B≤b) (h2:b < w.heap.size) (h3:w.cell? ⟨b,0,none⟩=some (.slice a zs.length cap)) (h4:w.cell? ⟨b,1,none⟩=some (.int .i64 (t:Int))) (h5:w.frozen? ⟨b,1,none⟩=false)
  (h6:t≤T) (h7:zs.length≤1048576) (h8:∀ i,0≤zs.getD i 0∧zs.getD i 0≤255) (h9:∀ i,i < zs.length→∃ b' off,a=some ⟨b',off,none⟩∧b' < B∧w.cell? ⟨b',off + i,none⟩=some (.int .u8 (zs.getD i 0))) :
  Src B (w.setCell ⟨b,1,none⟩ (.int .i64 ((t:Int) + 1))) b (T + 1)∧w.grownBy (w.setCell ⟨b,1,none⟩ (.int .i64 ((t:Int) + 1))) (some b):=by
 refine ⟨⟨a,zs,cap,t + 1,h1,by simpa using h2,?_,?_,?_,by omega,h7,h8,?_⟩,⟨rfl,rfl,rfl,by simp,fun k _ hk=>Below.heap_setCell w _ _ k (fun e=>hk (by simp [e]))⟩⟩
 ·go_cell
 ·rw [World.cell?_setCell_same _ _ _ h4];simp
 ·rw [World.frozen?_setCell];exact h5
 ·intro i hi
  obtain ⟨b',off,e1,e2,e3⟩:=h9 i hi
  refine ⟨b',off,e1,e2,?_⟩
  rw [World.cell?_of_block (w:=w) (a:=⟨b',off + i,none⟩) (Below.heap_setCell w _ _ b' (by simp;omega))]
  exact e3

/-- A draw out of n: from 0 to n - 1, and 0 where n is below 1. -/
def InR (n r:Int):Prop:=0≤r∧(1≤n→r < n)∧(n < 1→r=0)

theorem InR.mod (x n:Int) (h:1≤n):InR n (x % n):=⟨Int.emod_nonneg _ (by omega),fun _=>Int.emod_lt_of_pos _ (by omega),fun k=>by omega⟩

set_option maxHeartbeats 2000000 in
theorem next_any (B b T:Nat) (n:Int) (w:World) (hS:Src B w b T) (hT:T≤1099511627776) (hn:n≤1099511627776) :
  Calls Tryz.prog 93 #[.pointer (some ⟨b,0,none⟩),.int .i64 n] w fun e w' => ∃ r:Int,e=.returned (.int .i64 r)∧InR n r∧Src B w' b (T + 1)∧w.grownBy w' (some b):=by
 obtain ⟨a,zs,cap,t,h1,h2,h3,h4,h5,h6,h7,h8,h9⟩:=hS
 obtain ⟨r1,r2⟩:=Src.step h1 h2 h3 h4 h5 h6 h7 h8 h9
 have R1:Hid (Src B (w.setCell ⟨b,1,none⟩ (.int .i64 ((t:Int) + 1))) b (T + 1)):=r1
 have R2:Hid (w.grownBy (w.setCell ⟨b,1,none⟩ (.int .i64 ((t:Int) + 1))) (some b)):=r2
 clear r1 r2
 by_cases hn1:n < 1
 ·go_enter Tryz.func93,Tryz.ntmps93
  go_wp2
  go_ret
  exact ⟨0,rfl,⟨by omega,by omega,fun _=>rfl⟩,R1.out,R2.out⟩
 ·by_cases hz:zs.length=0
  ·have hz' : ((zs.length:Int) == 0)=true:=by simp [hz]
   clear h9 hz h7
   go_enter Tryz.func93,Tryz.ntmps93
   go_wp2
   go_ret
   exact ⟨_,rfl,InR.mod _ _ (by omega),R1.out,R2.out⟩
  ·have hz' : ((zs.length:Int) == 0)=false:=by rw [beq_eq_false_iff_ne];omega
   have hpos:0 < zs.length:=by omega
   have hm1:t % zs.length < zs.length:=Nat.mod_lt _ hpos
   have hm2:(t + 1) % zs.length < zs.length:=Nat.mod_lt _ hpos
   have c1:∃ b' off,a=some ⟨b',off,none⟩∧(w.setCell ⟨b,1,none⟩ (.int .i64 ((t:Int) + 1))).cell? ⟨b',off + t % zs.length,none⟩=some (.int .u8 (zs.getD (t % zs.length) 0))∧(w.setCell ⟨b,1,none⟩ (.int .i64 ((t:Int) + 1))).cell? ⟨b',off + (t + 1) % zs.length,none⟩=some (.int .u8 (zs.getD ((t + 1) % zs.length) 0)):=by
    obtain ⟨b',off,rfl,e2,e3⟩:=h9 _ hm1
    obtain ⟨b2,off2,e4,e5,e6⟩:=h9 _ hm2
    simp only [Option.some.injEq,Addr.mk.injEq,and_true] at e4
    obtain ⟨rfl,rfl⟩:=e4
    refine ⟨b',off,rfl,?_,?_⟩
    ·rw [World.cell?_of_block (w:=w) (a:=⟨b',_,none⟩) (Below.heap_setCell w _ _ b' (by simp;omega))];exact e3
    ·rw [World.cell?_of_block (w:=w) (a:=⟨b',_,none⟩) (Below.heap_setCell w _ _ b' (by simp;omega))];exact e6
   obtain ⟨b',off,rfl,c1,c2⟩:=c1
   have u1:=h8 (t % zs.length)
   have u2:=h8 ((t + 1) % zs.length)
   have hq:(t:Int) / (zs.length:Int)≤1099511627776:=Int.le_trans (Int.ediv_le_self _ (by omega)) (by omega)
   have hq0:0≤(t:Int) / (zs.length:Int):=Int.ediv_nonneg (by omega) (by omega)
   generalize zs.getD (t % zs.length) 0=x at c1 u1
   generalize zs.getD ((t + 1) % zs.length) 0=y at c2 u2
   have m0:0≤((t:Int) + 1) % (zs.length:Int):=Int.emod_nonneg _ (by omega)
   have m1:((t:Int) + 1) % (zs.length:Int) < (zs.length:Int):=Int.emod_lt_of_pos _ (by omega)
   clear h8 h9 hz
   by_cases h200:200 < n
   ·go_enter Tryz.func93,Tryz.ntmps93
    go_wp2
    go_quiet (fail)
    go_wp2
    go_quiet (fail)
    go_wp2
    go_ret
    exact ⟨_,rfl,InR.mod _ _ (by omega),R1.out.below (below_drewN (Below.refl _ _) _),R2.out.trans ⟨rfl,rfl,rfl,Nat.le_refl _,fun _ _ _=>rfl⟩⟩
   ·go_enter Tryz.func93,Tryz.ntmps93
    go_wp2
    go_quiet (fail)
    go_wp2
    go_ret
    exact ⟨_,rfl,InR.mod _ _ (by omega),R1.out.below (below_drewN (Below.refl _ _) _),R2.out.trans ⟨rfl,rfl,rfl,Nat.le_refl _,fun _ _ _=>rfl⟩⟩

set_option maxHeartbeats 1000000 in
theorem source_any (B:Nat) (a:Option Addr) (cap:Nat) (zs:List Int) (w:World) (hB:B≤w.heap.size) (hl:zs.length≤1048576) (hu:∀ i,0≤zs.getD i 0∧zs.getD i 0≤255)
  (h:∀ i,i < zs.length→∃ b' off,a=some ⟨b',off,none⟩∧b' < B∧w.cell? ⟨b',off + i,none⟩=some (.int .u8 (zs.getD i 0))) :
  Calls Tryz.prog 75 #[.slice a zs.length cap] w fun e w' => e=.returned (.pointer (some ⟨w.heap.size,0,none⟩))∧Src B w' w.heap.size 0∧Below w.heap.size w w' := by
 go_enter Tryz.func75,Tryz.ntmps75
 go_wp2
 go_ret
 refine ⟨rfl,⟨a,zs,cap,0,hB,by simp,by simp,by simp,by simp,Nat.le_refl _,hl,hu,?_⟩,by go_grown⟩
 intro i hi
 obtain ⟨b',off,e1,e2,e3⟩:=h i hi
 refine ⟨b',off,e1,e2,?_⟩
 rw [World.cell?_of_block (w:=w) (a:=⟨b',off + i,none⟩) (Below.heap_alloc w _ b' (by omega))]
 exact e3

set_option maxHeartbeats 1000000 in
theorem pick_any (B b T base:Nat) (v:Value) (xs:List Int) (w:World) (hS:Src B w b T) (hT:T≤1099511627776) (ho:w.ownsRow base 2 1 v xs.length (xs.map (Value.int .i64))) (hx:xs≠[]) (hlen:xs.length≤100) (hne:some b≠v.ownBlock) :
  Calls Tryz.prog 144 #[.pointer (some ⟨b,0,none⟩),v] w fun e w' => ∃ r:Int,e=.returned (.int .i64 r)∧r∈xs∧Src B w' b (T + 1)∧w.grownBy w' (some b):=by
 obtain ⟨a,k,rfl⟩:=own_shape ho
 have hpos:0 < xs.length:=List.length_pos_iff.2 hx
 have hn:=next_any B b T (xs.length:Int) w hS hT (by omega)
 go_enter Tryz.func144,Tryz.ntmps144
 go_wp2_with fail
 refine hn.mono ?_
 rintro e w' ⟨r,rfl,hr,hS',hg⟩
 obtain ⟨j,rfl⟩:=Int.eq_ofNat_of_zero_le hr.1
 have hj:j < xs.length:=by have:=hr.2.1 (by omega);omega
 have ho' := ho.kept hg (Or.inr (fun e=>hne e.symm))
 obtain ⟨b2,off2,rfl,hb2,hc2⟩:=Row.own ho' j hj
 have hmem:xs.getD j 0∈xs:=by simp [List.getD,hj]
 generalize xs.getD j 0=x at hc2 hmem
 clear hr ho ho' hn
 go_wp2
 go_ret
 exact ⟨x,rfl,hmem,hS',hg⟩

end Go.Proofs.YtfdkcbafpiojkaaGreatDoor
namespace Go.Proofs.YtfdkcbafpiojkaaGreatDoor
open Go.RowKit
set_option maxRecDepth 100000
/-- What is written into rows other than the source's, and into new memory, leaves the source. -/
theorem Src.grown {B b T:Nat} {w w' : World} {row:Option Nat} (h:Src B w b T) (hg:w.grownBy w' row) (hne:some b≠row) (hB:∀ k,row=some k→B≤k):Src B w' b T:=
 h.kept hg.size (hg.block b h.lt.2 hne) (fun k hk=>hg.block k (by have:=h.lt;omega) (fun e=>by have:=hB k e.symm;omega))

end Go.Proofs.YtfdkcbafpiojkaaGreatDoor
namespace Go.Proofs.YtfdkcbafpiojkaaGreatDoor
open Go.RowKit
open Go.BigFrame
set_option maxRecDepth 100000
theorem grown_low {w wr w' : World} {b:Nat} (hg:w.grownBy wr (some b)) (hb:Below w.heap.size wr w'):w.grownBy w' (some b):=
 ⟨hb.os.trans hg.os,hb.tape.trans hg.tape,hb.output.trans hg.output,by have:=hg.size;have:=hb.size;omega,fun k hk hne=>(hb.block k hk).trans (hg.block k hk hne)⟩

theorem Src.low {B b T N:Nat} {w w' : World} (h:Src B w b T) (hb:Below N w w') (hN:b < N):Src B w' b T:=
 h.kept hb.size (hb.block b hN) (fun k hk=>hb.block k (by have:=h.lt;omega))

theorem actCells_snoc' (xs:List ActD) (z:ActD):actCells (xs ++ [z])=actCells xs ++ [.int .i64 z.kind,.int .i64 z.key,.int .i64 z.val]:=by simp [actCells,ActD.cells]

set_option maxRecDepth 100000 in
set_option maxHeartbeats 400000 in
theorem l2DrawAct_any (B b T:Nat) (w:World) (hS:Src B w b T) (hT:T≤1000000) :
  Calls Tryz.prog 145 #[.pointer (some ⟨b,0,none⟩)] w fun e w' => ∃ k y z:Int,e=.returned (.agg #[.int .i64 k,.int .i64 y,.int .i64 z])∧Src B w' b (T + 3)∧w.grownBy w' (some b):=by
 have hlt:=hS.lt
 have B0:=Blk.new w 146 #[.int .i64 0,.int .i64 0,.int .i64 0]
 have hg:w.grownBy (w.alloc (.cells #[.int .i64 0,.int .i64 0,.int .i64 0] 146)) (some b):=World.grownBy_alloc w _ _
 replace hS:Src B (w.alloc (.cells #[.int .i64 0,.int .i64 0,.int .i64 0] 146)) b T:=hS.below (by go_grown)
 go_enter Tryz.func145,Tryz.ntmps145
 go_wp2_with fail
 have hs1:w.heap.size + 1=(w.alloc (.cells #[.int .i64 0,.int .i64 0,.int .i64 0] 146)).heap.size:=by simp
 generalize w.alloc (.cells #[.int .i64 0,.int .i64 0,.int .i64 0] 146)=W1 at B0 hg hS hs1
 try simp only [hs1]
 replace hs1:w.heap.size < W1.heap.size:=by omega
 have hltp:=hS.lt
 have hbA:Below W1.heap.size W1 (W1.alloc (.cells #[.int .i64 1,.int .i64 1,.int .i64 2,.int .i64 2,.int .i64 3,.int .i64 4] 2)):=by go_grown
 replace B0:=B0.below hbA
 replace hg:=hg.trans (World.grownBy_alloc W1 (.cells #[.int .i64 1,.int .i64 1,.int .i64 2,.int .i64 2,.int .i64 3,.int .i64 4] 2) (some b))
 refine (pick_any B b T W1.heap.size _ [1,1,2,2,3,4] _ (hS.below (by go_grown)) (by omega) (World.ownsRow_lit W1 _ 6 (Nat.le_refl _) (by decide) rfl) (by simp) (by simp) (by simp [Value.ownBlock];omega)).mono ?_
 rintro e w3 ⟨k,rfl,hmem,hSn,hgn⟩
 replace B0:=B0.grown hgn (by simp;omega)
 replace hg:=hg.trans hgn
 replace hS:=hSn
 have hsz_w3:=hgn.size
 clear hgn hSn
 clear hmem
 go_wp2_with fail
 refine (next_any B b (T + 1) 4 w3 hS (by omega) (by omega)).mono ?_
 rintro e w4 ⟨r,rfl,hr,hSn,hgn⟩
 have r1:=hr.1
 have r2:=hr.2.1 (by omega)
 replace B0:=B0.grown hgn (by simp;omega)
 replace hg:=hg.trans hgn
 replace hS:=hSn
 have hsz_w4:=hgn.size
 clear hgn hSn
 clear hr
 have hbA:Below w4.heap.size w4 (w4.alloc (.cells #[.int .i64 k,.int .i64 (1 + r),.int .i64 0] 146)):=by go_grown
 have B1:=Blk.new w4 146 #[.int .i64 k,.int .i64 (1 + r),.int .i64 0]
 have hlt4:=B0.lt
 have B0w:=B0
 have hSw:=hS
 have hgw:=hg
 replace B0:=B0.below hbA
 replace hS:=hS.below hbA
 have hsw:=hg.size
 replace hg:=grown_low hg (hbA.mono hsw)
 have q0:=B1.cell 0 _ rfl
 clear hbA
 by_cases hk:k=3
 ·have hk' : (k != 3)=false:=by simp [hk]
  have p0:=B0w.cell 0 _ rfl
  have p1:=B0w.cell 1 _ rfl
  have p2:=B0w.cell 2 _ rfl
  have f0:=B0w.frozen 0
  have f1:=B0w.frozen 1
  have f2:=B0w.frozen 2
  clear B0 B1 B0w hS hg hk q0
  go_wp2
  refine bodyPost_ret (v:=.agg #[.int .i64 k,.int .i64 (1 + r),.int .i64 0]) (by simp [results,Tryz.results145,go_sem,p0,p1,p2,hlt4]) rfl ?_
  have hbE:∀ O,Below w.heap.size w4 ((((w4.setCell ⟨w.heap.size,0,none⟩ (.int .i64 k)).setCell ⟨w.heap.size,1,none⟩ (.int .i64 (1 + r))).setCell ⟨w.heap.size,2,none⟩ (.int .i64 0)).alloc O):=fun O=>
   ((((Below.refl _ _).setCell (p:=⟨w.heap.size,0,none⟩) (Nat.le_refl _) _).setCell (p:=⟨w.heap.size,1,none⟩) (Nat.le_refl _) _).setCell (p:=⟨w.heap.size,2,none⟩) (Nat.le_refl _) _).alloc (by simp [World.setCell];omega) O
  exact ⟨_,_,_,rfl,(hSw.low (hbE _) hlt.2).mono (by omega),grown_low hgw (hbE _)⟩
 ·have hk' : (k != 3)=true:=by simp [bne_iff_ne,hk]
  clear B0w hSw hgw
  go_wp2_with fail
  clear q0
  have hs5:w4.heap.size + 1=(w4.alloc (.cells #[.int .i64 k,.int .i64 (1 + r),.int .i64 0] 146)).heap.size:=by simp
  generalize w4.alloc (.cells #[.int .i64 k,.int .i64 (1 + r),.int .i64 0] 146)=W5 at *
  simp only [hs5]
  clear hs5
  have hltp:=hS.lt
  have hbA:Below W5.heap.size W5 (W5.alloc (.cells #[.int .i64 0,.int .i64 1,.int .i64 5,.int .i64 (-3),.int .i64 1000] 2)):=by go_grown
  replace B0:=B0.below hbA
  replace B1:=B1.below hbA
  replace hg:=hg.trans (World.grownBy_alloc W5 (.cells #[.int .i64 0,.int .i64 1,.int .i64 5,.int .i64 (-3),.int .i64 1000] 2) (some b))
  refine (pick_any B b (T + 1 + 1) W5.heap.size _ [0,1,5,-3,1000] _ (hS.below (by go_grown)) (by omega) (World.ownsRow_lit W5 _ 5 (Nat.le_refl _) (by decide) rfl) (by simp) (by simp) (by simp [Value.ownBlock];omega)).mono ?_
  rintro e w6 ⟨z,rfl,hmem,hSn,hgn⟩
  replace B0:=B0.grown hgn (by simp;omega)
  replace B1:=B1.grown hgn (by simp;omega)
  replace hg:=hg.trans hgn
  replace hS:=hSn
  have hsz_w6:=hgn.size
  clear hgn hSn
  clear hmem
  have hsb:w4.heap.size < w6.heap.size:=B1.lt
  have q0:=B1.cell 0 _ rfl
  have q1:=B1.cell 1 _ rfl
  have q2:=B1.cell 2 _ rfl
  have g2:=B1.frozen 2
  have p0:=B0.cell 0 _ rfl
  have p1:=B0.cell 1 _ rfl
  have p2:=B0.cell 2 _ rfl
  have f0:=B0.frozen 0
  have f1:=B0.frozen 1
  have f2:=B0.frozen 2
  have hne0:w.heap.size≠w4.heap.size:=by omega
  clear B0 B1 hk
  go_wp2
  refine bodyPost_ret (v:=.agg #[.int .i64 k,.int .i64 (1 + r),.int .i64 z]) (by simp [results,Tryz.results145,go_sem,p0,p1,p2]) rfl ?_
  have hbE:Below w.heap.size w6 ((((w6.setCell ⟨w4.heap.size,2,none⟩ (.int .i64 z)).setCell ⟨w.heap.size,0,none⟩ (.int .i64 k)).setCell ⟨w.heap.size,1,none⟩ (.int .i64 (1 + r))).setCell ⟨w.heap.size,2,none⟩ (.int .i64 z)):=by
   exact ((((Below.refl _ _).setCell (p:=⟨w4.heap.size,2,none⟩) (show w.heap.size≤w4.heap.size by omega) _).setCell (p:=⟨w.heap.size,0,none⟩) (Nat.le_refl _) _).setCell (p:=⟨w.heap.size,1,none⟩) (Nat.le_refl _) _).setCell (p:=⟨w.heap.size,2,none⟩) (Nat.le_refl _) _
  exact ⟨_,_,_,rfl,(hS.low hbE hlt.2).mono (by omega),grown_low hg hbE⟩

end Go.Proofs.YtfdkcbafpiojkaaGreatDoor
