/- Texts joined, with what the laws reach alone. -/
import Derived.Test.YtjjoahhnkpjolaaGreatDoorCFAR
import Derived.LaidEql
import Derived.Stop.Asserts
import Derived.RowKitTokens
import Derived.Maps.Own
import Derived.Maps.Keyed
import Derived.Maps.Views
import Derived.DeepKeys4
import Derived.Maps.OwnSet
import Derived.WideKeyEntry
set_option linter.unusedVariables false
set_option linter.unusedSimpArgs false
namespace Go.Proofs.YtjjoahhnkpjolaaGreatDoor
open Go.RowKit
open Go.BigFrame
set_option maxRecDepth 100000
/-- All is the same. -/
def sameRep (x y:RepE):Bool:=sameTs x.done y.done && (sameIs x.base y.base && (sameTs x.tent y.tent && (sameUss x.undos y.undos && sameIs x.now y.now)))

set_option maxHeartbeats 4000000 in
theorem implSameReplicas_any (p q:RepQ) (w:World) (h:repK.rd w p) (h' : repK.rd w q) (hl:p.n≤1048576) (hl' : q.n≤1048576) :
  Calls Tryz.prog 133 #[.agg #[p.vd,p.vb,p.vt,p.vu,p.vn],.agg #[q.vd,q.vb,q.vt,q.vu,q.vn]] w fun e w' => e=.returned (.bool (sameRep p.e q.e))∧Below w.heap.size w w' := by
 obtain ⟨pvd,pd,pvb,pb,pvt,pt,pvu,pu,pvn,pn⟩:=p
 obtain ⟨p0,p5,rfl⟩:∃ a c,pvd=.slice a pd.length c:=h.1.shape
 obtain ⟨p1,p6,rfl⟩:∃ a c,pvb=.slice a pb.length c:=h.2.1.shape
 obtain ⟨p2,p7,rfl⟩:∃ a c,pvt=.slice a pt.length c:=h.2.2.1.shape
 obtain ⟨p3,p8,rfl⟩:∃ a c,pvu=.slice a pu.length c:=h.2.2.2.1.shape
 obtain ⟨p4,p9,rfl⟩:∃ a c,pvn=.slice a pn.length c:=h.2.2.2.2.shape
 obtain ⟨qvd,qd,qvb,qb,qvt,qt,qvu,qu,qvn,qn⟩:=q
 obtain ⟨q0,q5,rfl⟩:∃ a c,qvd=.slice a qd.length c:=h'.1.shape
 obtain ⟨q1,q6,rfl⟩:∃ a c,qvb=.slice a qb.length c:=h'.2.1.shape
 obtain ⟨q2,q7,rfl⟩:∃ a c,qvt=.slice a qt.length c:=h'.2.2.1.shape
 obtain ⟨q3,q8,rfl⟩:∃ a c,qvu=.slice a qu.length c:=h'.2.2.2.1.shape
 obtain ⟨q4,q9,rfl⟩:∃ a c,qvn=.slice a qn.length c:=h'.2.2.2.2.shape
 dsimp only [RepQ.n] at hl hl'
 have c0:=fun w h h' => implSameTxns_any (.slice p0 pd.length p5) (.slice q0 qd.length q5) (pd.map TxnQ.e) (qd.map TxnQ.e) w (txnsAt_of' h) (txnsAt_of' h') (by rw [List.length_map,sumA_of'];omega) (by rw [List.length_map,sumA_of'];omega)
 have c1:=fun w h h' => implSameItems_any p1 q1 p6 q6 pb qb w h h' (by omega) (by omega)
 have c2:=fun w h h' => implSameTxns_any (.slice p2 pt.length p7) (.slice q2 qt.length q7) (pt.map TxnQ.e) (qt.map TxnQ.e) w (txnsAt_of' h) (txnsAt_of' h') (by rw [List.length_map,sumA_of'];omega) (by rw [List.length_map,sumA_of'];omega)
 have c3:=fun w h h' => equalUss_any (.slice p3 pu.length p8) (.slice q3 qu.length q8) pu qu w h h' (by omega) (by omega)
 have c4:=fun w h h' => implSameItems_any p4 q4 p9 q9 pn qn w h h' (by omega) (by omega)
 obtain ⟨r0,r1,r2,r3,r4⟩:txnK.At w (.slice p0 pd.length p5) pd∧itemK.At w (.slice p1 pb.length p6) pb∧txnK.At w (.slice p2 pt.length p7) pt∧ussK.At w (.slice p3 pu.length p8) pu∧itemK.At w (.slice p4 pn.length p9) pn:=h
 obtain ⟨s0,s1,s2,s3,s4⟩:txnK.At w (.slice q0 qd.length q5) qd∧itemK.At w (.slice q1 qb.length q6) qb∧txnK.At w (.slice q2 qt.length q7) qt∧ussK.At w (.slice q3 qu.length q8) qu∧itemK.At w (.slice q4 qn.length q9) qn:=h'
 replace r1:=(itemK_at r1).2
 replace r4:=(itemK_at r4).2
 replace s1:=(itemK_at s1).2
 replace s4:=(itemK_at s4).2
 have E:Hid (sameRep ⟨pd.map TxnQ.e,pb,pt.map TxnQ.e,pu.map USQ.e,pn⟩ ⟨qd.map TxnQ.e,qb,qt.map TxnQ.e,qu.map USQ.e,qn⟩=(sameTs (pd.map TxnQ.e) (qd.map TxnQ.e) && (sameIs pb qb && (sameTs (pt.map TxnQ.e) (qt.map TxnQ.e) && (sameUss (pu.map USQ.e) (qu.map USQ.e) && sameIs pn qn))))):=show _=_ from rfl
 dsimp only [RepQ.e]
 generalize sameTs (pd.map TxnQ.e) (qd.map TxnQ.e)=X0 at *
 generalize sameIs pb qb=X1 at *
 generalize sameTs (pt.map TxnQ.e) (qt.map TxnQ.e)=X2 at *
 generalize sameUss (pu.map USQ.e) (qu.map USQ.e)=X3 at *
 generalize sameIs pn qn=X4 at *
 generalize sameRep ⟨pd.map TxnQ.e,pb,pt.map TxnQ.e,pu.map USQ.e,pn⟩ ⟨qd.map TxnQ.e,qb,qt.map TxnQ.e,qu.map USQ.e,qn⟩=S at *
 have B:=(Blk.new w 56 #[.slice p0 pd.length p5,.slice p1 pb.length p6,.slice p2 pt.length p7,.slice p3 pu.length p8,.slice p4 pn.length p9]).below (w' := ((w.alloc (.cells #[.slice p0 pd.length p5,.slice p1 pb.length p6,.slice p2 pt.length p7,.slice p3 pu.length p8,.slice p4 pn.length p9] 56)).alloc (.cells #[.slice q0 qd.length q5,.slice q1 qb.length q6,.slice q2 qt.length q7,.slice q3 qu.length q8,.slice q4 qn.length q9] 56))) (by go_grown)
 have B' := Blk.new (w.alloc (.cells #[.slice p0 pd.length p5,.slice p1 pb.length p6,.slice p2 pt.length p7,.slice p3 pu.length p8,.slice p4 pn.length p9] 56)) 56 #[.slice q0 qd.length q5,.slice q1 qb.length q6,.slice q2 qt.length q7,.slice q3 qu.length q8,.slice q4 qn.length q9]
 have hB:Below w.heap.size w ((w.alloc (.cells #[.slice p0 pd.length p5,.slice p1 pb.length p6,.slice p2 pt.length p7,.slice p3 pu.length p8,.slice p4 pn.length p9] 56)).alloc (.cells #[.slice q0 qd.length q5,.slice q1 qb.length q6,.slice q2 qt.length q7,.slice q3 qu.length q8,.slice q4 qn.length q9] 56)):=by go_grown
 rw [World.size_alloc] at B'
 go_enter Tryz.func133,Tryz.ntmps133
 have f0:=B.cell 0 _ rfl
 have g0:=B'.cell 0 _ rfl
 go_wp2_with fail
 clear f0 g0
 generalize ((w.alloc (.cells #[.slice p0 pd.length p5,.slice p1 pb.length p6,.slice p2 pt.length p7,.slice p3 pu.length p8,.slice p4 pn.length p9] 56)).alloc (.cells #[.slice q0 qd.length q5,.slice q1 qb.length q6,.slice q2 qt.length q7,.slice q3 qu.length q8,.slice q4 qn.length q9] 56))=W at *
 refine (c0 W (r0.below hB) (s0.below hB)).mono ?_
 rintro e w0 ⟨rfl,hb⟩
 replace B:=B.below hb
 replace B' := B'.below hb
 replace hB:=hB.trans (hb.mono hB.size)
 clear hb
 cases X0 with
 | false=>
  go_wp2
  go_ret
  exact ⟨by rw [E.out];rfl,hB⟩
 | true=>
  have f1:=B.cell 1 _ rfl
  have g1:=B'.cell 1 _ rfl
  go_wp2_with fail
  clear f1 g1
  refine (c1 w0 (r1.below hB) (s1.below hB)).mono ?_
  rintro e w1 ⟨rfl,hb⟩
  replace B:=B.below hb
  replace B' := B'.below hb
  replace hB:=hB.trans (hb.mono hB.size)
  clear hb
  cases X1 with
  | false=>
   go_wp2
   go_ret
   exact ⟨by rw [E.out];rfl,hB⟩
  | true=>
   have f2:=B.cell 2 _ rfl
   have g2:=B'.cell 2 _ rfl
   go_wp2_with fail
   clear f2 g2
   refine (c2 w1 (r2.below hB) (s2.below hB)).mono ?_
   rintro e w2 ⟨rfl,hb⟩
   replace B:=B.below hb
   replace B' := B'.below hb
   replace hB:=hB.trans (hb.mono hB.size)
   clear hb
   cases X2 with
   | false=>
    go_wp2
    go_ret
    exact ⟨by rw [E.out];rfl,hB⟩
   | true=>
    have f3:=B.cell 3 _ rfl
    have g3:=B'.cell 3 _ rfl
    go_wp2_with fail
    clear f3 g3
    refine (c3 w2 (r3.below hB) (s3.below hB)).mono ?_
    rintro e w3 ⟨rfl,hb⟩
    replace B:=B.below hb
    replace B' := B'.below hb
    replace hB:=hB.trans (hb.mono hB.size)
    clear hb
    cases X3 with
    | false=>
     go_wp2
     go_ret
     exact ⟨by rw [E.out];rfl,hB⟩
    | true=>
     have f4:=B.cell 4 _ rfl
     have g4:=B'.cell 4 _ rfl
     go_wp2_with fail
     clear f4 g4
     refine (c4 w3 (r4.below hB) (s4.below hB)).mono ?_
     rintro e w4 ⟨rfl,hb⟩
     replace B:=B.below hb
     replace B' := B'.below hb
     replace hB:=hB.trans (hb.mono hB.size)
     clear hb
     go_wp2
     go_ret
     exact ⟨by rw [E.out];rfl,hB⟩

end Go.Proofs.YtjjoahhnkpjolaaGreatDoor
namespace Go.Proofs.YtjjoahhnkpjolaaGreatDoor
open Go.RowKit Go.Extern.Stop Go.Stop Go.Extern
set_option maxRecDepth 100000
/-- errors.As(nil, target). -/
theorem as_nil (t:Value) (w:World) :
  Calls Tryz.prog 135 #[.nilIface,t] w fun e w' => e=.returned (.bool false)∧w' = w:=by
 go_enter Tryz.func135,Tryz.ntmps135
 go_wp2
 go_ret
 exact ⟨rfl,rfl⟩

theorem as9_valueOf27 (t:Addr) (w:World):(ReflectliteValue.unpack (.iface 207 (.pointer (some t)))).run Tryz.prog w
  = .ok (.agg #[.pointer (some ⟨3,207,none⟩),.pointer (some ⟨w.heap.size,0,none⟩),.int .u64 150]) (w.alloc (.cells #[.pointer (some t)] 207)):=by kernel_rfl

theorem as9_type27 (a : Addr) (w : World) : (ReflectliteValue.methodAny (ReflectliteValue.valueError "reflectlite.Value.Type" 0) (fun t _ _ _ => ReflectliteType.toType t) #[.agg #[.pointer (some ⟨3, 207, none⟩), .pointer (some a), .int .u64 150]]).run Tryz.prog w
  = .ok (.iface 306 (.agg #[.pointer (some ⟨3,207,none⟩)])) w:=by kernel_rfl

theorem as9_methodKind (h : Value) (w : World) : (Go.method 265 306 (.agg #[h]) "Kind").run Tryz.prog w = .ok (294, h) w := by kernel_rfl

theorem as9_kind27 (w:World):((ReflectliteType.abiMethod fun t=>(fun a:Nat=>Value.int IntKind.u8 (a:Int)) <$> Rtype.kind t) #[.pointer (some ⟨3,207,none⟩)]).run Tryz.prog w=.ok (.int .u8 22) w:=by kernel_rfl

theorem as9_kind25 (w:World):((ReflectliteType.abiMethod fun t=>(fun a:Nat=>Value.int IntKind.u8 (a:Int)) <$> Rtype.kind t) #[.pointer (some ⟨3,202,none⟩)]).run Tryz.prog w=.ok (.int .u8 25) w:=by kernel_rfl

theorem as9_rlm (z:Sem Value) (f:TypeId→Addr→Nat→Nat→Sem Value) (v:Value) :
  ReflectliteValue.method z f #[v]=(do match ← ReflectliteValue.parts v with | none=>z | some (t,a,fl)=>f t a fl (fl % 32)):=rfl

theorem as9_parts27 (a:Addr) (w:World):(ReflectliteValue.parts (.agg #[.pointer (some ⟨3,207,none⟩),.pointer (some a),.int .u64 150])).run Tryz.prog w=.ok (some (207,a,150)) w:=by kernel_rfl

/-- (Value).IsNil at the Value of a **p.E that is not nil. -/
theorem as9_isNil27 (a p:Addr) (W:World) (ha:W.cell? a=some (.pointer (some p))) :
  (ReflectliteValue.method (ReflectliteValue.valueError "reflectlite.Value.IsNil" 0) ReflectliteValue.isNil #[.agg #[.pointer (some ⟨3, 207, none⟩), .pointer (some a), .int .u64 150]]).run Tryz.prog W = .ok (.bool false) W := by
 rw [as9_rlm]
 simp only [Sem.run_bind,as9_parts27,Result.andThen]
 simp [ReflectliteValue.isNil,loadVar,isAgg,underlying,Tryz.underlying207,ha,Result.andThen]

theorem as9_methodElem (h : Value) (w : World) : (Go.method 265 306 (.agg #[h]) "Elem").run Tryz.prog w = .ok (305, .agg #[h]) w := by kernel_rfl

theorem as9_methodImplements (h : Value) (w : World) : (Go.method 265 306 (.agg #[h]) "Implements").run Tryz.prog w = .ok (306, .agg #[h]) w := by kernel_rfl

theorem as9_methodAssignableTo (h : Value) (w : World) : (Go.method 265 306 (.agg #[h]) "AssignableTo").run Tryz.prog w = .ok (303, .agg #[h]) w := by kernel_rfl

theorem as9_elem27 (w:World):(ReflectliteType.method ReflectliteType.elem #[.agg #[.pointer (some ⟨3,207,none⟩)]]).run Tryz.prog w=.ok (.iface 306 (.agg #[.pointer (some ⟨3,202,none⟩)])) w:=by kernel_rfl

theorem as9_implements25 (w : World) : (ReflectliteType.relation "Implements" ReflectliteType.implements_ #[.agg #[.pointer (some ⟨3, 202, none⟩)], .iface 306 (.agg #[.pointer (some ⟨3, 151, none⟩)])]).run Tryz.prog w = .ok (.bool true) w := by kernel_rfl

theorem as9_typeOf25 (v:Value) (w:World):(ReflectliteType.typeOf #[.iface 202 v]).run Tryz.prog w=.ok (.iface 306 (.agg #[.pointer (some ⟨3,202,none⟩)])) w:=by kernel_rfl

theorem as9_assignable25 (w : World) : (ReflectliteType.relation "AssignableTo" ReflectliteType.assignableTo #[.agg #[.pointer (some ⟨3, 202, none⟩)], .iface 306 (.agg #[.pointer (some ⟨3, 202, none⟩)])]).run Tryz.prog w = .ok (.bool true) w := by kernel_rfl

theorem as9_valueOf25 (c:Int) (w:World):(ReflectliteValue.unpack (.iface 202 (.agg #[.int .i64 c]))).run Tryz.prog w
  = .ok (.agg #[.pointer (some ⟨3,202,none⟩),.pointer (some ⟨w.heap.size,0,none⟩),.int .u64 153]) (w.alloc (.cells #[.int .i64 c] 202)):=by kernel_rfl

theorem as9_elemOf27 (w:World):(Rtype.elem? 207).run Tryz.prog w=.ok (some 202) w:=by kernel_rfl

theorem as9_mk25 (p:Addr) (w:World):(ReflectliteValue.mk 202 p ReflectliteValue.flagAddr).run Tryz.prog w=.ok (.agg #[.pointer (some ⟨3,202,none⟩),.pointer (some p),.int .u64 409]) w:=by kernel_rfl

/-- (Value).Elem at the Value of a **p.E that is not nil: the Value of the *p.E variable that it points to, addressable. -/
theorem as9_elemV27 (a p:Addr) (W:World) (ha:W.cell? a=some (.pointer (some p))) :
  (ReflectliteValue.method (ReflectliteValue.valueError "reflectlite.Value.Elem" 0) ReflectliteValue.elem #[.agg #[.pointer (some ⟨3, 207, none⟩), .pointer (some a), .int .u64 150]]).run Tryz.prog W
   = .ok (.agg #[.pointer (some ⟨3,202,none⟩),.pointer (some p),.int .u64 409]) W:=by
 rw [as9_rlm]
 simp only [Sem.run_bind,as9_parts27,Result.andThen]
 simp [ReflectliteValue.elem,loadVar,isAgg,underlying,Tryz.underlying207,ha,Result.andThen,as9_elemOf27,as9_mk25]

theorem as9_rls (v x:Value):ReflectliteValue.set #[v,x]=(do
  let (some (dst,a,fl),some (src,b,_)):=(← ReflectliteValue.parts v,← ReflectliteValue.parts x)
   | unsupported (.noEntry "extern/(internal/reflectlite.Value).Set.zeroValue")
  if fl / ReflectliteValue.flagAddr % 2 == 0 then unsupported (.noEntry "extern/(internal/reflectlite.Value).Set.unaddressable")
  let val ← loadVar src b
  if ← Rtype.directlyAssignable dst src then storeVar dst a val
  else if ← Rtype.implements dst src then
   if (← Rtype.kind src) == 20 then
    match val with
    | .nilIface => unsupported (.noEntry "extern/reflectlite: a nil value of one interface type handed on as a value of another")
    | _=>storeVar dst a val
   else storeVar dst a (.iface src val)
  else panicString ("reflectlite.Set: value of type " ++ (← Rtype.spelt src) ++ " is not assignable to type " ++ (← Rtype.spelt dst))
  pure (.tuple #[])):=rfl

theorem as9_parts25a (a:Addr) (w:World):(ReflectliteValue.parts (.agg #[.pointer (some ⟨3,202,none⟩),.pointer (some a),.int .u64 409])).run Tryz.prog w=.ok (some (202,a,409)) w:=by kernel_rfl

theorem as9_parts25 (a:Addr) (w:World):(ReflectliteValue.parts (.agg #[.pointer (some ⟨3,202,none⟩),.pointer (some a),.int .u64 153])).run Tryz.prog w=.ok (some (202,a,153)) w:=by kernel_rfl

theorem as9_direct25 (w:World):(Rtype.directlyAssignable 202 202).run Tryz.prog w=.ok true w:=by kernel_rfl

theorem as9_size25 (w:World):(sizeOf 202).run Tryz.prog w=.ok 1 w:=by kernel_rfl

theorem as9_ld (b:Addr) (c:Int) (W:World) (hb:W.cell? b=some (.int .i64 c)):(loadVar 202 b).run Tryz.prog W=.ok (.agg #[.int .i64 c]) W:=by
 have h1:(loadCells b 1).run Tryz.prog W=.ok #[.int .i64 c] W:=run_loadCells_list (P:=Tryz.prog) (w:=W) b [.int .i64 c] (fun j v hj=>by
  match j,hj with
  | 0,hj=>simp at hj;subst hj;simpa [Addr.add] using hb)
 unfold loadVar
 simp only [Sem.run_bind]
 have h2:(isAgg 202).run Tryz.prog W=.ok true W:=by simp [isAgg,underlying,Tryz.underlying202,Result.andThen]
 rw [h2]
 simp [Result.andThen,as9_size25,h1]

theorem as9_sv (ta:Addr) (c:Int) (old:Value) (W:World) (ht:W.cell? ta=some old) (hf:W.frozen? ta=false):(storeVar 202 ta (.agg #[.int .i64 c])).run Tryz.prog W=.ok () (W.setCell ta (.int .i64 c)):=by
 unfold storeVar
 simp [as9_size25,Value.cells,storeCells,Result.andThen,Addr.add]
 rw [run_store Tryz.prog W ta _ _ (by rfl)]
 simp [ht,hf]

/-- (Value).Set: the misfit at 'ta' gets what the Value's own variable 'b' holds. -/
theorem as9_set25 (ta b:Addr) (c:Int) (old:Value) (W:World) (hb:W.cell? b=some (.int .i64 c)) (ht:W.cell? ta=some old) (hf:W.frozen? ta=false) :
  (ReflectliteValue.set #[.agg #[.pointer (some ⟨3,202,none⟩),.pointer (some ta),.int .u64 409],.agg #[.pointer (some ⟨3,202,none⟩),.pointer (some b),.int .u64 153]]).run Tryz.prog W
   = .ok (.tuple #[]) (W.setCell ta (.int .i64 c)):=by
 rw [as9_rls]
 simp only [Sem.run_bind,as9_parts25a,as9_parts25,Result.andThen]
 simp [ReflectliteValue.flagAddr,Result.andThen,as9_direct25,as9_ld b c W hb,as9_sv ta c old W ht hf]

set_option maxHeartbeats 4000000 in
theorem as_hit (c:Int) (t:Addr) (old:Value) (w:World) (hg:w.cell? ⟨1,0,none⟩=some (.iface 306 (.agg #[.pointer (some ⟨3,151,none⟩)]))) (ht0:w.cell? t=some old) (hf0:w.frozen? t=false) :
  Calls Tryz.prog 135 #[.iface 202 (.agg #[.int .i64 c]),.iface 207 (.pointer (some t))] w fun ev w' => ev=.returned (.bool true)∧w' = ((((w.alloc (.cells #[.pointer (some t)] 207)).alloc (.cells #[.pointer (some ⟨3,207,none⟩),.pointer (some ⟨w.heap.size,0,none⟩),.int .u64 150] 262)).alloc (.cells #[.pointer (some ⟨3,207,none⟩),.pointer (some ⟨w.heap.size,0,none⟩),.int .u64 150] 262)).alloc (.cells #[.int .i64 c] 202)).setCell t (.int .i64 c):=by
 have h6:=@run_callFunc_extern Tryz.prog 182 _ (fun args=>ReflectliteValue.unpack (args.getD 0 (.tuple #[]))) Tryz.func182 (by kernel_rfl) (by kernel_rfl) (by kernel_rfl) (by kernel_rfl)
 have h7 := @run_callFunc_extern Tryz.prog 183 _ (ReflectliteValue.methodAny (ReflectliteValue.valueError "reflectlite.Value.Type" 0) (fun t _ _ _ => ReflectliteType.toType t)) Tryz.func183 (by kernel_rfl) (by kernel_rfl) (by kernel_rfl) (by kernel_rfl)
 have h8 := @run_callFunc_extern Tryz.prog 184 _ (ReflectliteValue.method (ReflectliteValue.valueError "reflectlite.Value.IsNil" 0) ReflectliteValue.isNil) Tryz.func184 (by kernel_rfl) (by kernel_rfl) (by kernel_rfl) (by kernel_rfl)
 have h27:=@run_callFunc_extern Tryz.prog 294 _ (ReflectliteType.abiMethod fun t=>do pure (.int .u8 (← Rtype.kind t))) Tryz.func294 (by kernel_rfl) (by kernel_rfl) (by kernel_rfl) (by kernel_rfl)
 have h37:=@run_callFunc_extern Tryz.prog 305 _ (ReflectliteType.method ReflectliteType.elem) Tryz.func305 (by kernel_rfl) (by kernel_rfl) (by kernel_rfl) (by kernel_rfl)
 have h38 := @run_callFunc_extern Tryz.prog 306 _ (ReflectliteType.relation "Implements" ReflectliteType.implements_) Tryz.func306 (by kernel_rfl) (by kernel_rfl) (by kernel_rfl) (by kernel_rfl)
 have h10:=@run_callFunc_extern Tryz.prog 216 _ ReflectliteType.typeOf Tryz.func216 (by kernel_rfl) (by kernel_rfl) (by kernel_rfl) (by kernel_rfl)
 have h35 := @run_callFunc_extern Tryz.prog 303 _ (ReflectliteType.relation "AssignableTo" ReflectliteType.assignableTo) Tryz.func303 (by kernel_rfl) (by kernel_rfl) (by kernel_rfl) (by kernel_rfl)
 have h11 := @run_callFunc_extern Tryz.prog 217 _ (ReflectliteValue.method (ReflectliteValue.valueError "reflectlite.Value.Elem" 0) ReflectliteValue.elem) Tryz.func217 (by kernel_rfl) (by kernel_rfl) (by kernel_rfl) (by kernel_rfl)
 have h12:=@run_callFunc_extern Tryz.prog 218 _ ReflectliteValue.set Tryz.func218 (by kernel_rfl) (by kernel_rfl) (by kernel_rfl) (by kernel_rfl)
 have tO:=as9_typeOf25
 have mA:=as9_methodAssignableTo
 have a25:=as9_assignable25
 have v25:=as9_valueOf25
 have f6:=as9_valueOf27
 have f7:=as9_type27
 have mK:=as9_methodKind
 have mE:=as9_methodElem
 have mI:=as9_methodImplements
 have k27:=as9_kind27
 have k25:=as9_kind25
 have e27:=as9_elem27
 have i25:=as9_implements25
 have n8:=as9_isNil27 ⟨w.heap.size,0,none⟩ t ((w.alloc (.cells #[.pointer (some t)] 207)).alloc (.cells #[.pointer (some ⟨3,207,none⟩),.pointer (some ⟨w.heap.size,0,none⟩),.int .u64 150] 262)) (by simp)
 have hlt:1 < w.heap.size:=World.block_lt_of_cell? w _ hg
 have hg2:((w.alloc (.cells #[.pointer (some t)] 207)).alloc (.cells #[.pointer (some ⟨3,207,none⟩),.pointer (some ⟨w.heap.size,0,none⟩),.int .u64 150] 262)).cell? ⟨1,0,none⟩=some (.iface 306 (.agg #[.pointer (some ⟨3,151,none⟩)])):=by
  rw [World.cell?_alloc_lt _ _ ⟨1,0,none⟩ (by simp only [World.size_alloc];omega),World.cell?_alloc_lt _ _ ⟨1,0,none⟩ hlt];exact hg
 have htl:t.block < w.heap.size:=by
  rcases Nat.lt_or_ge t.block w.heap.size with h | h
  ·exact h
  ·simp [World.cell?,Array.getElem?_eq_none h] at ht0
 have el:=as9_elemV27 ⟨w.heap.size,0,none⟩ t (((w.alloc (.cells #[.pointer (some t)] 207)).alloc (.cells #[.pointer (some ⟨3,207,none⟩),.pointer (some ⟨w.heap.size,0,none⟩),.int .u64 150] 262)).alloc (.cells #[.pointer (some ⟨3,207,none⟩),.pointer (some ⟨w.heap.size,0,none⟩),.int .u64 150] 262)) (by rw [World.cell?_alloc_lt _ _ ⟨w.heap.size,0,none⟩ (by simp;omega)];simp)
 have st:=as9_set25 t ⟨w.heap.size + 1 + 1 + 1,0,none⟩ c old ((((w.alloc (.cells #[.pointer (some t)] 207)).alloc (.cells #[.pointer (some ⟨3,207,none⟩),.pointer (some ⟨w.heap.size,0,none⟩),.int .u64 150] 262)).alloc (.cells #[.pointer (some ⟨3,207,none⟩),.pointer (some ⟨w.heap.size,0,none⟩),.int .u64 150] 262)).alloc (.cells #[.int .i64 c] 202))
  (by rw [World.cell?_alloc_at _ _ _ _ (by simp)];rfl)
  (by rw [World.cell?_alloc_lt _ _ t (by simp;omega),World.cell?_alloc_lt _ _ t (by simp;omega),World.cell?_alloc_lt _ _ t (by simp;omega),World.cell?_alloc_lt _ _ t htl];exact ht0)
  (by rw [World.frozen?_alloc_old _ _ t (by simp;omega),World.frozen?_alloc_old _ _ t (by simp;omega),World.frozen?_alloc_old _ _ t (by simp;omega),World.frozen?_alloc_old _ _ t (Nat.ne_of_lt htl)];exact hf0)
 go_enter Tryz.func135,Tryz.ntmps135
 go_wp2
 refine wp_loop_rounds 1 ?_
 rw [rounds_succ]
 go_wp2
 go_ret
 exact ⟨rfl,rfl⟩

/-- errors.errorType, as the program's text lays it. -/
def ErrT (w:World):Prop:=w.cell? ⟨1,0,none⟩=some (.iface 306 (.agg #[.pointer (some ⟨3,151,none⟩)]))

theorem ErrT.below {w w' : World} (h:ErrT w) (hb:Below w.heap.size w w'):ErrT w' := by
 have hlt:1 < w.heap.size:=World.block_lt_of_cell? w _ h
 exact (hb.cell (p:=⟨1,0,none⟩) hlt).trans h

theorem codeOf_nil (w:World):Calls Tryz.prog 83 #[.nilIface] w fun e w' => e=.returned (.int .i64 0)∧Below w.heap.size w w' := by
 have hB:Below w.heap.size w (w.alloc (.cells #[.int .i64 0] 202)):=by go_grown
 go_enter Tryz.func83,Tryz.ntmps83
 go_wp2_with fail
 refine (as_nil _ _).mono ?_
 rintro e w1 ⟨rfl,rfl⟩
 go_wp2
 go_ret
 exact ⟨rfl,hB⟩

theorem codeOf_hit (c:Int) (w:World) (hg:ErrT w):Calls Tryz.prog 83 #[.iface 202 (.agg #[.int .i64 c])] w fun e w' => e=.returned (.int .i64 c)∧Below w.heap.size w w' := by
 have hB:Below w.heap.size w (w.alloc (.cells #[.int .i64 0] 202)):=by go_grown
 have B:=Blk.new w 202 #[.int .i64 0]
 have h0:=B.cell 0 _ rfl
 have hf:=B.frozen 0
 have hlt:=B.lt
 go_enter Tryz.func83,Tryz.ntmps83
 go_wp2_with fail
 have hg' := hg.below hB
 generalize w.alloc (.cells #[.int .i64 0] 202)=W at *
 generalize hgs:w.heap.size=g at *
 refine (as_hit c ⟨g,0,none⟩ (.int .i64 0) W hg' h0 hf).mono ?_
 rintro e w1 ⟨rfl,rfl⟩
 have hb2:Below W.heap.size W ((((W.alloc (.cells #[.pointer (some ⟨g,0,none⟩)] 207)).alloc (.cells #[.pointer (some ⟨3,207,none⟩),.pointer (some ⟨W.heap.size,0,none⟩),.int .u64 150] 262)).alloc (.cells #[.pointer (some ⟨3,207,none⟩),.pointer (some ⟨W.heap.size,0,none⟩),.int .u64 150] 262)).alloc (.cells #[.int .i64 c] 202)):=by go_grown
 have B2:=B.below hb2
 have hB2:=hB.trans (hb2.mono (by rw [← hgs];exact hB.size))
 generalize (((W.alloc (.cells #[.pointer (some ⟨g,0,none⟩)] 207)).alloc (.cells #[.pointer (some ⟨3,207,none⟩),.pointer (some ⟨W.heap.size,0,none⟩),.int .u64 150] 262)).alloc (.cells #[.pointer (some ⟨3,207,none⟩),.pointer (some ⟨W.heap.size,0,none⟩),.int .u64 150] 262)).alloc (.cells #[.int .i64 c] 202)=W2 at *
 have c3:(W2.setCell ⟨g,0,none⟩ (.int .i64 c)).cell? ⟨g,0,none⟩=some (.int .i64 c):=by
  have:W2.heap[g]? = some (.cells #[.int .i64 0] 202 (0,0)):=B2
  simp [World.cell?,World.setCell,Array.getElem?_modify,this]
 have hB3:Below g w (W2.setCell ⟨g,0,none⟩ (.int .i64 c)):=hB2.setCell (p:=⟨g,0,none⟩) (Nat.le_refl _) _
 generalize W2.setCell ⟨g,0,none⟩ (.int .i64 c)=W3 at *
 go_wp2
 go_ret
 exact ⟨rfl,by rw [hgs];exact hB3⟩

end Go.Proofs.YtjjoahhnkpjolaaGreatDoor
namespace Go.Proofs.YtjjoahhnkpjolaaGreatDoor
open Go.RowKit
open Go.BigFrame
set_option maxRecDepth 100000
def InstQ.setR (q:InstQ) (r n:Nat) (x:Int) (hr:r < q.rounds.length):InstQ:=⟨q.has,q.vb,q.batch,q.vr,q.rounds.set r ⟨q.rounds[r].vr,q.rounds[r].rep.set n x,q.rounds[r].vp,q.rounds[r].pro⟩,q.vd,q.dec⟩

end Go.Proofs.YtjjoahhnkpjolaaGreatDoor
namespace Go.Proofs.YtjjoahhnkpjolaaGreatDoor
open Go.RowKit
open Go.BigFrame
set_option maxRecDepth 100000
theorem cellB {w w' : World} {b o:Nat} {v:Value} (h:w.cell? ⟨b,o,none⟩=some v) (hb:Below w.heap.size w w'):w'.cell? ⟨b,o,none⟩=some v:=by
 have hlt:b < w.heap.size:=by
  rcases Nat.lt_or_ge b w.heap.size with h1 | h1
  ·exact h1
  ·exfalso
   have:w.heap[b]? = none:=Array.getElem?_eq_none h1
   simp [World.cell?,this] at h
 rw [hb.cell (p:=⟨b,o,none⟩) hlt]
 exact h

end Go.Proofs.YtjjoahhnkpjolaaGreatDoor
namespace Go.Proofs.YtjjoahhnkpjolaaGreatDoor
open Go.RowKit
open Go.BigFrame
set_option maxRecDepth 100000
/-- The variable openRow is as the program's text lays it. -/
def Opn (w:World):Prop:=∀ j,j < 3→w.cell? ⟨0,j,none⟩=some (.int .i64 3)

theorem Opn.below {w w' : World} (h:Opn w) (hb:Below w.heap.size w w'):Opn w' := fun j hj=>cellB (h j hj) hb

structure RulO (w:World):Prop where
 r:Rul w
 o:Opn w

theorem RulO.below {w w' : World} (h:RulO w) (hb:Below w.heap.size w w'):RulO w' := ⟨h.r.below hb,h.o.below hb⟩

theorem Opn.range {w:World} (h:Opn w):w.rangeAt 0 0 [.int .i64 3,.int .i64 3,.int .i64 3]:=fun j v hv=>by
 rw [Nat.zero_add]
 match j,hv with
 | 0,hv=>simp at hv;subst hv;exact h 0 (by omega)
 | 1,hv=>simp at hv;subst hv;exact h 1 (by omega)
 | 2,hv=>simp at hv;subst hv;exact h 2 (by omega)

end Go.Proofs.YtjjoahhnkpjolaaGreatDoor
namespace Go.Proofs.YtjjoahhnkpjolaaGreatDoor
open Go.RowKit
open Go.BigFrame
set_option maxRecDepth 100000
theorem allF_mem {ds:List TxnD} (h:allF ds=0):∀ d∈ds,d.F=0:=by
 induction ds with
 | nil=>intro d hd;simp at hd
 | cons x r ih=>
  intro d hd
  simp only [allF] at h
  by_cases hx:x.F=0
  ·rw [if_pos hx] at h
   rcases List.mem_cons.1 hd with rfl | hd
   ·exact hx
   ·exact ih h d hd
  ·rw [if_neg hx] at h
   exact absurd h hx

end Go.Proofs.YtjjoahhnkpjolaaGreatDoor
namespace Go.Proofs.YtjjoahhnkpjolaaGreatDoor
open Go.RowKit
open Go.BigFrame
set_option maxRecDepth 100000
def dfC (ds:List InstE) (n:Int):Int:=if ordF ds=0 then (if 0≤n∧n≤(decN ds:Int) then 0 else 3) else ordF ds

def dfT (ds:List InstE) (n:Int):List TxnD:=if dfC ds n=0 then defL ds n.toNat else []

theorem df_ways (ds:List InstE) (n:Int):(ordF ds≠0∧dfC ds n=ordF ds∧dfT ds n=[])∨(ordF ds=0∧¬ (0≤n∧n≤(decN ds:Int))∧dfC ds n=3∧dfT ds n=[])∨(ordF ds=0∧(0≤n∧n≤(decN ds:Int))∧dfC ds n=0∧dfT ds n=defL ds n.toNat):=by
 unfold dfT dfC
 by_cases h0:ordF ds=0
 ·by_cases h1:0≤n∧n≤(decN ds:Int)
  ·right;right
   refine ⟨h0,h1,?_,?_⟩
   ·rw [if_pos h0,if_pos h1]
   ·rw [if_pos h0,if_pos h1,if_pos rfl]
  ·right;left
   refine ⟨h0,h1,?_,?_⟩
   ·rw [if_pos h0,if_neg h1]
   ·rw [if_pos h0,if_neg h1,if_neg (by decide)]
 ·left
  simp [h0]

theorem bat4 {p:InstQ} (h:insF (InstQ.e p)=0):p.batch.length≤4:=by
 obtain ⟨h0,_⟩:=ins_zero h
 obtain ⟨_,_,_,hb0,hb1⟩:=shp_zero h0
 cases hh:(InstQ.e p).has with
 | false=>
  have:=hb0 hh
  have h2:p.batch.map TxnQ.e=[]:=this
  have:p.batch=[]:=by simpa using h2
  rw [this];simp
 | true=>
  have:=hb1 hh
  unfold batF at this
  by_cases hl:(InstQ.e p).batch.length < 1∨4 < (InstQ.e p).batch.length
  ·rw [if_pos hl] at this
   exact absurd this (by decide)
  ·have h2:(InstQ.e p).batch.length=p.batch.length:=by show (p.batch.map TxnQ.e).length=_;simp
   omega

end Go.Proofs.YtjjoahhnkpjolaaGreatDoor
namespace Go.Proofs.YtjjoahhnkpjolaaGreatDoor
open Go.RowKit
open Go.BigFrame
set_option maxRecDepth 100000
theorem rgtb {x:InstE} (h:insF x=0):x.has=false→x.batch=[]:=by
 obtain ⟨h0,_⟩:=ins_zero h
 exact (shp_zero h0).2.2.2.1

theorem batp {p:InstQ} (h:insF (InstQ.e p)=0) (hh:p.has=true):0 < p.batch.length:=by
 obtain ⟨h0,_⟩:=ins_zero h
 have:=(shp_zero h0).2.2.2.2 hh
 unfold batF at this
 by_cases hl:(InstQ.e p).batch.length < 1∨4 < (InstQ.e p).batch.length
 ·rw [if_pos hl] at this
  exact absurd this (by decide)
 ·have h2:(InstQ.e p).batch.length=p.batch.length:=by show (p.batch.map TxnQ.e).length=_;simp
  omega

theorem tak_yes {ds:List InstE} (k:Nat) (hk:k < ds.length) (h0:insF (ds.getD k instNo)=0) (h:((ds.getD k instNo).has && (ocV (ds.getD k instNo) == 1))=true):takF (ds.take (k + 1))=takF (ds.take k) ++ (ds.getD k instNo).batch:=by
 rw [takF_succ ds k hk]
 rw [Bool.and_eq_true,beq_iff_eq] at h
 have hv:=h.2
 unfold ocV at hv
 rw [if_pos h0] at hv
 by_cases h3:outV (ds.getD k instNo).dec=3
 ·rw [if_pos h3] at hv
  exact absurd hv (by decide)
 ·rw [if_neg h3] at hv
  rw [if_pos hv]

theorem tak_no {ds:List InstE} (k:Nat) (hk:k < ds.length) (h0:insF (ds.getD k instNo)=0) (h:((ds.getD k instNo).has && (ocV (ds.getD k instNo) == 1))=false):takF (ds.take (k + 1))=takF (ds.take k):=by
 rw [takF_succ ds k hk]
 rw [Bool.and_eq_false_iff] at h
 have hb0:=(rgtb h0)
 rcases h with h | h
 ·rw [hb0 h]
  simp
 ·have hv:¬ ocV (ds.getD k instNo)=1:=by simpa using h
  unfold ocV at hv
  rw [if_pos h0] at hv
  by_cases h3:outV (ds.getD k instNo).dec=3
  ·rw [if_neg (by rw [h3];decide)]
   simp
  ·rw [if_neg h3] at hv
   rw [if_neg hv]
   simp

set_option maxHeartbeats 8000000 in
theorem takenIn_any (v:Value) (ps:List InstQ) (w:World) (hG:Rul w) (h:instK.At w v ps) (hin:∀ p∈ps,insF (InstQ.e p)=0) (h4:ps.length≤4) (hl:(ps.length + nmL InstQ.n ps)≤1048576) :
  Calls Tryz.prog 88 #[v] w fun e w' => ∃ (v' : Value) (qs:List TxnQ),e=.returned v' ∧ qs.map TxnQ.e=takF (ps.map InstQ.e)∧qs.length≤16∧w'.ownsRow w.heap.size 158 4 v' qs.length (txnK.row qs)∧(∀ q∈qs,txnK.rd w q)∧Below w.heap.size w w' := by
 obtain ⟨a,cap,rfl⟩:=h.shape
 obtain ⟨i0,hi,hz0,hz1,hz2⟩:=info_parts infoTxn
 have hn1:w.ownsRow w.heap.size 158 4 (.slice none 0 0) ([]:List TxnQ).length (txnK.row []):=World.ownsRow_nil _ _ _ _
 have HE0:Hid (([]:List TxnQ).map TxnQ.e=takF ((ps.map InstQ.e).take 0)):=by show _=_;simp [takF]
 have HL0:Hid (([]:List TxnQ).length≤4 * 0):=by show _≤_;simp
 have HR0:Hid (∀ q∈([]:List TxnQ),txnK.rd w q):=fun q hq=>by simp at hq
 go_enter Tryz.func88,Tryz.ntmps88
 go_wp2
 go_loopw [3,8] (fun v j wr=>∃ (k:Nat) (qs:List TxnQ),k≤ps.length∧j=.int .i64 k∧Hid (qs.map TxnQ.e=takF ((ps.map InstQ.e).take k))∧Hid (qs.length≤4 * k)∧wr.ownsRow w.heap.size 158 4 v qs.length (txnK.row qs)∧Hid (∀ q∈qs,txnK.rd w q)∧Below w.heap.size w wr) (fun _ j _=>ps.length - (intOf j).toNat)
 case atStart=>exact ⟨0,[],Nat.zero_le _,rfl,HE0,HL0,hn1,HR0,Below.refl _ _⟩
 case round=>
  clear HE0 HL0 hn1 HR0
  obtain ⟨k,qs,hk,rfl,HE,HL,hO,HR,hb⟩:=hrel
  obtain ⟨sa,sc,rfl⟩:=own_shape hO
  by_cases hlt:k < ps.length
  ·have h0:=hin _ (List.getElem_mem hlt)
   have hat:=inst_at ps k hlt
   have HY:Hid ((ps[k].has && (ocV (InstQ.e ps[k]) == 1))=true→takF ((ps.map InstQ.e).take (k + 1))=qs.map TxnQ.e ++ ps[k].batch.map TxnQ.e):=fun hx=>by
    rw [HE.out]
    have:=tak_yes (ds:=ps.map InstQ.e) k (by simpa using hlt) (by rw [hat];exact h0) (by rw [hat];exact hx)
    rw [hat] at this
    exact this
   have HN:Hid ((ps[k].has && (ocV (InstQ.e ps[k]) == 1))=false→takF ((ps.map InstQ.e).take (k + 1))=qs.map TxnQ.e):=fun hx=>by
    rw [HE.out]
    exact tak_no (ds:=ps.map InstQ.e) k (by simpa using hlt) (by rw [hat];exact h0) (by rw [hat];exact hx)
   have hb4:=bat4 h0
   have HNE:Hid (ps[k].has=true→0 < ps[k].batch.length):=fun hx=>batp h0 hx
   have hn:InstQ.n ps[k]≤1048576:=by have:=nmI_le ps k hlt;omega
   have hoc0:=implOutcome_any ps[k]
   have hoc:=fun w hG h=>hoc0 w hG h hn
   obtain ⟨b,off,rfl,hbs,hc,hrd⟩:=h.cell (by decide) k hlt
   have hc' : ∀ j x,(instK.cells ps[k])[j]? = some x→w.cell? ⟨b,off + k * 4 + j,none⟩=some x:=hc
   have c0:=cellB (hc' 0 (.bool ps[k].has) rfl) hb
   have c1:=cellB (hc' 1 ps[k].vb rfl) hb
   have c2:=cellB (hc' 2 ps[k].vr rfl) hb
   have c3:=cellB (hc' 3 ps[k].vd rfl) hb
   rw [Nat.add_zero] at c0
   have hbs' : b < wr.heap.size:=Nat.lt_of_lt_of_le hbs hb.size
   clear hc hc' hoc0 h0 hat HE
   generalize ocC (InstQ.e ps[k])=OC at *
   generalize ocV (InstQ.e ps[k])=OV at *
   generalize ps[k]=p at *
   obtain ⟨has,vb,batch,vr,rounds,vd,dec⟩:=p
   have hT:txnK.At w vb batch:=hrd.1
   obtain ⟨ba,bk,rfl⟩:=hT.shape
   obtain ⟨va,vk,rfl⟩:∃ a c,vr=.slice a rounds.length c:=hrd.2.1.shape
   obtain ⟨da,dk,rfl⟩:∃ a c,vd=.slice a dec.length c:=hrd.2.2.shape
   dsimp only at c0 c1 c2 c3 hoc HY HN hb4 HNE
   have hbY:Below wr.heap.size wr (wr.alloc (.cells #[.bool has,.slice ba batch.length bk,.slice va rounds.length vk,.slice da dec.length dk] 89)):=by go_grown
   have Yb:=Blk.new wr 89 #[.bool has,.slice ba batch.length bk,.slice va rounds.length vk,.slice da dec.length dk]
   replace hO:=own_below hO hbY
   replace hb:=hb.trans (hbY.mono hb.size)
   have hf1:=fieldI1 OC OV
   have HQL:Hid (qs.length≤16):=show _≤_ by have:=HL.out;omega
   cases has with
   | false=>
    have HR2:Hid (qs.map TxnQ.e=takF ((ps.map InstQ.e).take (k + 1))):=show _=_ by rw [HN.out rfl]
    have HL2:Hid (qs.length≤4 * (k + 1)):=show _≤_ by have:=HL.out;omega
    clear HY HN HNE HL hoc Yb
    go_wp2_with fail
    generalize wr.alloc (.cells #[.bool false,.slice ba batch.length bk,.slice va rounds.length vk,.slice da dec.length dk] 89)=Y at *
    go_wp2
    go_roundw
    case rel=>exact ⟨k + 1,qs,by omega,by go_num,HR2,HL2,hO,HR,hb⟩
    case measure=>simp [intOf];omega
   | true=>
    have rdY:=instK.rd_below (w' := wr.alloc (.cells #[.bool true,.slice ba batch.length bk,.slice va rounds.length vk,.slice da dec.length dk] 89)) hrd hb
    go_wp2_with fail
    generalize wr.alloc (.cells #[.bool true,.slice ba batch.length bk,.slice va rounds.length vk,.slice da dec.length dk] 89)=Y at *
    clear c0 c1 c2 c3 hbY
    refine (hoc Y (hG.below hb) rdY).mono ?_
    rintro e w2 ⟨rfl,hb2⟩
    replace hO:=own_below hO hb2
    replace hb:=hb.trans (hb2.mono hb.size)
    replace Yb:=Yb.below hb2
    clear hb2 hoc rdY
    cases hv:(OV == 1) with
    | false=>
     have HR2:Hid (qs.map TxnQ.e=takF ((ps.map InstQ.e).take (k + 1))):=show _=_ by rw [HN.out (by rw [hv];rfl)]
     have HL2:Hid (qs.length≤4 * (k + 1)):=show _≤_ by have:=HL.out;omega
     clear HY HN HNE HL Yb
     go_wp2
     go_roundw
     case rel=>exact ⟨k + 1,qs,by omega,by go_num,HR2,HL2,hO,HR,hb⟩
     case measure=>simp [intOf];omega
    | true=>
     have HY2:=HY.out (by rw [hv];rfl)
     have hne:=HNE.out (by simp)
     have HR2:Hid ((qs ++ batch).map TxnQ.e=takF ((ps.map InstQ.e).take (k + 1))):=show _=_ by rw [HY2,List.map_append]
     have HL2:Hid ((qs ++ batch).length≤4 * (k + 1)):=show _≤_ by have:=HL.out;rw [List.length_append];omega
     have HRR:Hid (∀ q∈qs ++ batch,txnK.rd w q):=fun q hq=>by
      rcases List.mem_append.1 hq with hq | hq
      ·exact HR.out q hq
      ·obtain ⟨a9,c9,e9,hL9,hr9⟩:=hT
       exact hr9 q hq
     have hT2:=hT.below hb
     obtain ⟨bb,bo,hba⟩:∃ bb bo,ba=some ⟨bb,bo,none⟩:=by
      obtain ⟨b9,o9,e9,_⟩:=hT2.cell (by decide) 0 hne
      exact ⟨b9,o9,e9⟩
     subst hba
     have hsrc:∀ j u,(txnK.row batch)[j]? = some u→w2.cell? ((⟨bb,bo,none⟩:Addr).add j)=some u:=fun j u hu=>by
      obtain ⟨a9,c9,e9,hL9,hr9⟩:=hT2
      simp only [Value.slice.injEq] at e9
      obtain ⟨rfl,_,rfl⟩:=e9
      rcases hL9 with h9 | ⟨b9,o9,ea,_,hc9⟩
      ·rw [h9] at hu
       simp at hu
      ·simp only [Option.some.injEq,Addr.mk.injEq,and_true] at ea
       obtain ⟨rfl,rfl⟩:=ea
       rw [Addr.add_lit]
       exact hc9 j u hu
     have hone:∀ u∈txnK.row batch,u.oneCell' = true:=fun u hu=>by
      obtain ⟨q,hq,hu⟩:=List.mem_flatMap.1 hu
      have hva:∃ a c,q.va=.slice a q.acts.length c:=by
       obtain ⟨a9,c9,e9,hL9,hr9⟩:=hT
       have h9:actK.At w q.va q.acts:=hr9 q hq
       exact h9.shape
      obtain ⟨a9,c9,e9⟩:=hva
      have hu2:u∈[Value.int .i64 q.i,.int .i64 q.s,.int .i64 q.q,q.va]:=hu
      simp only [List.mem_cons,List.not_mem_nil,or_false] at hu2
      rcases hu2 with rfl | rfl | rfl | rfl
      ·rfl
      ·rfl
      ·rfl
      ·rw [e9];rfl
     have hrl:(txnK.row batch).length=batch.length * 4:=Kind.row_length batch
     have y1:=Yb.cell 1 _ rfl
     clear HY HN HNE HL HR HY2
     go_wp2_with (at_builtin;refine wpList_append_own_at _ rfl _ _ 52 rfl w.heap.size 158 i0 (.agg #[.int .i64 0,.int .i64 0,.int .i64 0,.slice none 0 0]) 4 48 Tryz.underlying52 hi hz0 hz1 hz2 rfl (by decide) _ qs.length (txnK.row qs) rfl hO ⟨bb,bo,none⟩ batch.length bk (txnK.row batch) rfl hrl hsrc hone ?c3 ?c4 ?c5 ?_)
     all_goals try (case c3=>have:=HQL.out;unfold maxLen;omega)
     all_goals try (case c4=>have:=HQL.out;omega)
     all_goals try (case c5=>exact hb.size)
     intro v' w5 hown hgrow hnil hat
     have hrow:txnK.row (qs ++ batch)=txnK.row qs ++ txnK.row batch:=by simp [Kind.row]
     rw [← hrow,← List.length_append] at hown
     have hb5:Below w.heap.size w w5:=hb.grown hgrow hb.size (fun j hj=>(hO.lt j hj).1)
     clear hnil hat hgrow hrow hO hsrc hone hrl y1 Yb hT2 hb
     go_wp2
     go_roundw
     case rel=>exact ⟨k + 1,_,by omega,by go_num,HR2,HL2,hown,HRR,hb5⟩
     case measure=>simp [intOf];omega
  ·have hkl:k=ps.length:=by omega
   subst hkl
   have hE:=HE.out
   rw [List.take_of_length_le (by simp)] at hE
   have hL:=HL.out
   clear HE
   go_wp2
   go_ret
   first | exact ⟨_,qs,rfl,hE,by omega,hO,HR.out,hb⟩ | exact ⟨_,rfl,qs,hE,by omega,hO,HR.out,hb⟩

end Go.Proofs.YtjjoahhnkpjolaaGreatDoor
namespace Go.Proofs.YtjjoahhnkpjolaaGreatDoor
open Go.RowKit Go.Maps
set_option maxRecDepth 100000
theorem laidP:laidOutB Tryz.prog=true:=by kernel_rfl

theorem rowNm:(213:TypeId) < Tryz.prog.types.size:=of_decide_eq_true (by kernel_rfl)

theorem wideNm:(match Tryz.prog.underlying 213 with | some (.array _ _) | some (.struct _)=>true | _=>false)=true:=by kernel_rfl

theorem lawNm:Keyed Tryz.prog 213:=Keyed.of_law (deep_law_laid laidP (m:=2) (by omega) rowNm (by kernel_rfl) wideNm)

theorem keyTNm:Tryz.prog.keyType 213=true:=by kernel_rfl

theorem szP:∃ m,Tryz.prog.types.size + 1=m + 2:=⟨_,rfl⟩

theorem key_nm (i s q:Int) (hi:(Lit.int .i64 i).wf=true) (hs:(Lit.int .i64 s).wf=true) (hq:(Lit.int .i64 q).wf=true):∃ l,keyOf Tryz.prog 213 (.agg #[.int .i64 i,.int .i64 s,.int .i64 q])=some l:=by
 obtain ⟨m,hm⟩:=szP
 have hc:Tryz.prog.cellsOf 213=3:=by kernel_rfl
 have hc1:Tryz.prog.cellsOf 2=1:=by kernel_rfl
 have hf:(Value.agg #[.int .i64 i,.int .i64 s,.int .i64 q]).formed Tryz.prog 213=true:=by
  simp [Value.formed,Tryz.underlying213,hc]
 unfold keyOf
 rw [Tryz.underlying213]
 simp only [keyTNm,hf,Bool.and_self,if_true,hm]
 simp [Program.keyLits,Tryz.underlying213,Tryz.underlying2,hc,hc1,Value.cells,hi,hs,hq]

end Go.Proofs.YtjjoahhnkpjolaaGreatDoor
namespace Go.Proofs.YtjjoahhnkpjolaaGreatDoor
open Go.RowKit Go.Maps
set_option maxRecDepth 100000
abbrev Nm:=Int × Int × Int

def nmV (x:Nm):Value:=.agg #[.int .i64 x.1,.int .i64 x.2.1,.int .i64 x.2.2]

def nmW (x:Nm):Prop:=(Lit.int .i64 x.1).wf=true∧(Lit.int .i64 x.2.1).wf=true∧(Lit.int .i64 x.2.2).wf=true

noncomputable def kyL (x:Nm):Lit:=(keyOf Tryz.prog 213 (nmV x)).getD (.bool false)

theorem kyL_key {x:Nm} (h:nmW x):keyOf Tryz.prog 213 (nmV x)=some (kyL x):=by
 obtain ⟨l,hl⟩:=key_nm x.1 x.2.1 x.2.2 h.1 h.2.1 h.2.2
 have e:keyOf Tryz.prog 213 (nmV x)=some l:=hl
 unfold kyL
 rw [e]
 rfl

theorem kyL_inj {x y:Nm} (hx:nmW x) (hy:nmW y) (h:kyL x=kyL y):x=y:=by
 have e1:=kyL_key hx
 have e2:=kyL_key hy
 rw [← h] at e2
 have e:=lawNm.inj e1 e2
 obtain ⟨a,b,c⟩:=x
 obtain ⟨a',b',c'⟩:=y
 simp [nmV] at e
 obtain ⟨rfl,rfl,rfl⟩:=e
 rfl

/-- The map counts the names of ns. -/
def Cnt {H:Type} (D:DataW H) (ns:List Nm):Prop:=IsMap D∧∀ x,nmW x→D.atKey (kyL x) (.lit (.int .i64 0))=.lit (.int .i64 (ns.count x))

theorem Cnt.none {H:Type}:Cnt (H:=H) (.map []) []:=⟨⟨[],rfl⟩,fun x _=>rfl⟩

theorem Cnt.put {H:Type} {D:DataW H} {ns:List Nm} (h:Cnt D ns) {x:Nm} (hx:nmW x):Cnt (D.put (kyL x) (.lit (.int .i64 ((ns.count x:Int) + 1)))) (ns ++ [x]):=by
 refine ⟨h.1.put _ _,fun y hy=>?_⟩
 by_cases e:y=x
 ·subst e
  rw [atKey_put_same h.1 (lawNm.key (kyL_key hx))]
  simp [List.count_append]
 ·rw [atKey_put_other (fun e1=>e (kyL_inj hy hx e1)),h.2 y hy]
  have:[x].count y=0:=List.count_eq_zero.2 (by simpa using e)
  simp [List.count_append,this]

def nmA (t:TxnD):Nm:=(t.id,0,0)

def nmB (t:TxnD):Nm:=(0,t.session,t.seq)

def nms (acc:List TxnD):List Nm:=acc.flatMap (fun t=>[nmA t,nmB t])

theorem nms_snoc (acc:List TxnD) (t:TxnD):nms (acc ++ [t])=nms acc ++ [nmA t] ++ [nmB t]:=by
 simp [nms]

theorem nms_len (acc:List TxnD):(nms acc).length=2 * acc.length:=by
 induction acc with
 | nil=>rfl
 | cons a r ih=>
  have:nms (a :: r)=nmA a :: nmB a :: nms r:=rfl
  rw [this]
  simp only [List.length_cons,ih]
  omega

theorem knw_nms {acc:List TxnD} {t:TxnD} (ha:∀ x∈acc,1≤x.id) (ht:1≤t.id):knw acc t=true↔0 < (nms acc).count (nmA t)∨0 < (nms acc).count (nmB t):=by
 rw [List.count_pos_iff,List.count_pos_iff]
 unfold knw nms stF
 rw [List.any_eq_true]
 constructor
 ·rintro ⟨x,hx,h⟩
  simp only [Bool.or_eq_true,Bool.and_eq_true,beq_iff_eq] at h
  rcases h with h | ⟨h1,h2⟩
  ·exact Or.inl (List.mem_flatMap.2 ⟨x,hx,by simp [nmA,h]⟩)
  ·exact Or.inr (List.mem_flatMap.2 ⟨x,hx,by simp [nmB,h1,h2]⟩)
 ·rintro (h | h)
  ·obtain ⟨x,hx,h⟩:=List.mem_flatMap.1 h
   have hx1:=ha x hx
   simp only [nmA,nmB,List.mem_cons,Prod.mk.injEq,List.not_mem_nil,or_false] at h
   rcases h with h | h
   ·exact ⟨x,hx,by simp [h.1]⟩
   ·omega
  ·obtain ⟨x,hx,h⟩:=List.mem_flatMap.1 h
   have hx1:=ha x hx
   simp only [nmA,nmB,List.mem_cons,Prod.mk.injEq,List.not_mem_nil,or_false] at h
   rcases h with h | h
   ·omega
   ·exact ⟨x,hx,by simp [h.2.1,h.2.2]⟩

end Go.Proofs.YtjjoahhnkpjolaaGreatDoor
namespace Go.Proofs.YtjjoahhnkpjolaaGreatDoor
open Go.Maps Go.WideShapes Go.MapKept Go.ChangeMaps Go.ChangeShapes Go.WideElems
set_option maxRecDepth 100000
theorem entry_own {H:Type} {P:Program} {w:World} {t k e:TypeId} {R:Value→Option (DataW H × List MemPlace)} {b n:Nat} {D:DataW H} (h:w.ownsMap P k R b n D) (L:Go.WideMaps.KeyLaw P k)
  (ht:P.underlying t=some (.map k e)) {z:Value} (hz:∀ u:World,(zeroValue e).run P u=.ok z u) {zd:DataW H} {zp:List MemPlace} (hzd:R z=some (zd,zp)) (hn:n < maxLen)
  {key:Value} {kl:Lit} (hkey:keyOf P k key=some kl) :
  ∃ (v0:Value) (st:Nat) (w1:World) (D1:DataW H),(Instr.mapEntry t (.map (some b)) key).run P w=.ok (.tuple #[v0,goInt st]) w1∧w.mapTurned w1 b ∧
   w1.ownsMap P k R b (n + 1) D1∧D1.atKey kl zd=D.atKey kl zd ∧
   ∀ (w2:World) (val:Value) (d:DataW H) (ps:List MemPlace),w2.heap[b]? = w1.heap[b]? → R val=some (d,ps) →
    ∃ w3,(Instr.entryStore t (.map (some b)) (goInt st) val).run P w2=.ok () w3∧w3.ownsMap P k R b (n + 1) (D.put kl d)∧w2.mapTurned w3 b:=by
 have K:Keyed P k:=Keyed.of_law L
 have h0:=h
 obtain ⟨es,clock,hb,F,hs,hD⟩:=h
 obtain ⟨v0,st,es1,clock1,hr,hv,hst⟩:=entry_then_store L ht hz hb F hkey
 have hsame:(setBlock w b (.map es1 clock1)).heap[b]? = some (.map es1 clock1):=heap_setBlock_same hb _
 have hmid:∃ D1,(setBlock w b (.map es1 clock1)).ownsMap P k R b (n + 1) D1∧D1.atKey kl zd=D.atKey kl zd:=by
  rcases K.find w hkey es.toList F.keys with ⟨h1,h2⟩ | ⟨j,e0,h1,h2,h3⟩
  ·obtain ⟨w',hrun,hown,_⟩:=h0.store K ht hn hkey hzd
   have e1:(Instr.mapEntry t (.map (some b)) key).run P w=.ok (.tuple #[z,goInt clock]) (setBlock w b (.map (es.push ⟨key,z,clock⟩) (clock + 1))):=by
    simp [Instr.mapEntry,run_underlying ht,MapKept.run_getObj_map hb,K.check w false hkey,h1,hz,MapKept.run_setObj_map _ hb,Result.andThen,setBlock]
   have e2:(Instr.mapUpdate t (.map (some b)) key z).run P w=.ok () (setBlock w b (.map (es.push ⟨key,z,clock⟩) (clock + 1))):=by
    simp [Instr.mapUpdate,run_underlying ht,MapKept.run_getObj_map hb,K.check w false hkey,h1,MapKept.run_setObj_map _ hb,Result.andThen,setBlock]
   rw [e1] at hr
   rw [e2] at hrun
   simp only [Result.ok.injEq,true_and] at hrun hr
   rw [← hr.2,hrun]
   refine ⟨_,hown,?_⟩
   rw [atKey_put_same h0.isMap (K.key hkey)]
   have hw0:(zeroValue e).run P w=.ok z w:=hz w
   rcases fit_look false K ht hw0 hb F hkey with ⟨_,_,hat⟩ | ⟨e0,y,hm0,hk0,_⟩
   ·rw [hD,hat zd]
   ·exact absurd hk0 (h2 e0 hm0)
  ·have hj:es[j]? = some e0:=by simpa using h2
   have hss:es.modify j (fun e=>{ e with key:=key })=es:=by
    apply Array.ext'
    rw [Array.toList_modify,modify_eq_set _ _ _ _ h2]
    have:({ e0 with key:=key }:MapEntry)=e0:=by rw [← h3]
    rw [this]
    exact set_self _ _ _ h2
   have e1:(Instr.mapEntry t (.map (some b)) key).run P w=.ok (.tuple #[e0.val,goInt e0.born]) (setBlock w b (.map es clock)):=by
    simp [Instr.mapEntry,run_underlying ht,MapKept.run_getObj_map hb,K.check w false hkey,h1,hj,h3,L.stays w hkey,hss,MapKept.run_setObj_map _ hb,Result.andThen,setBlock]
   rw [e1] at hr
   simp only [Result.ok.injEq] at hr
   rw [← hr.2]
   exact ⟨D,⟨es,clock,heap_setBlock_same hb _,F,by omega,hD⟩,rfl⟩
 obtain ⟨D1,hown1,hat1⟩:=hmid
 refine ⟨v0,st,_,D1,hr,⟨es,clock,es1,clock1,hb,rfl⟩,hown1,hat1,fun w2 val d ps h2 hval=>?_⟩
 have h2' := h2.trans hsame
 obtain ⟨es',clock',hrs,hru⟩:=hst w2 val h2'
 obtain ⟨w',hrun,hown,_⟩:=h0.store K ht hn hkey hval
 rw [hru] at hrun
 simp only [Result.ok.injEq,true_and] at hrun
 refine ⟨_,hrs,?_,⟨es1,clock1,es',clock',h2',rfl⟩⟩
 rw [← hrun] at hown
 obtain ⟨esx,cx,hbx,rest⟩:=hown
 have e3:(setBlock w b (.map es' clock')).heap[b]? = (setBlock w2 b (.map es' clock')).heap[b]? := by
  rw [heap_setBlock_same hb,heap_setBlock_same h2']
 exact ⟨esx,cx,e3 ▸ hbx,rest⟩

end Go.Proofs.YtjjoahhnkpjolaaGreatDoor
namespace Go.Proofs.YtjjoahhnkpjolaaGreatDoor
open Go.RowKit Go.Maps
set_option maxRecDepth 100000
/-- Block b is a map that counts the names of ns. -/
def Cts (w:World) (b:Nat) (ns:List Nm):Prop:=∃ D:DataW Unit,w.ownsMap Tryz.prog 213 (plainElem Tryz.prog 2) b ns.length D∧Cnt D ns

theorem keyLNm:Go.WideMaps.KeyLaw Tryz.prog 213:=deep_law_laid laidP (m:=2) (by omega) rowNm (by kernel_rfl) wideNm

theorem zero64 (u:World):(zeroValue 2).run Tryz.prog u=.ok (.int .i64 0) u:=by
 kernel_rfl

theorem Cts.made (w:World):Cts (w.alloc (.map #[] 0)) w.heap.size []:=⟨_,World.ownsMap_made w _ _ _,Cnt.none⟩

theorem Cts.lt {w:World} {b:Nat} {ns:List Nm} (h:Cts w b ns):b < w.heap.size:=by
 obtain ⟨D,h,_⟩:=h
 exact h.lt

theorem Cts.kept {w w' : World} {b:Nat} {ns:List Nm} {row:Option Nat} (h:Cts w b ns) (hg:w.grownBy w' row) (hne:some b≠row):Cts w' b ns:=by
 obtain ⟨D,h,hc⟩:=h
 exact ⟨D,h.kept hg hne,hc⟩

theorem Cts.look {w:World} {b:Nat} {ns:List Nm} (h:Cts w b ns) {x:Nm} (hx:nmW x):(Instr.lookup 211 (.map (some b)) (nmV x) false).run Tryz.prog w=.ok (.int .i64 (ns.count x)) w:=by
 obtain ⟨D,h,hc⟩:=h
 obtain ⟨c,hr,hat,_⟩:=h.lookup_int lawNm Tryz.underlying211 Tryz.underlying2 (zero64 w) (kyL_key hx)
 rw [hc.2 x hx] at hat
 simp only [DataW.lit.injEq,Lit.int.injEq,true_and] at hat
 rw [hr,hat]

theorem Cts.inc {w:World} {b:Nat} {ns:List Nm} (h:Cts w b ns) {x:Nm} (hx:nmW x) (hl:ns.length < 1000) :
  ∃ (v0:Value) (st:Nat) (w1 w3:World),(Instr.mapEntry 211 (.map (some b)) (nmV x)).run Tryz.prog w=.ok (.tuple #[v0,.int .i64 st]) w1 ∧
   (Instr.lookup 211 (.map (some b)) (nmV x) false).run Tryz.prog w1=.ok (.int .i64 (ns.count x)) w1 ∧
   (Instr.entryStore 211 (.map (some b)) (.int .i64 st) (.int .i64 ((ns.count x:Int) + 1))).run Tryz.prog w1=.ok () w3∧w.mapTurned w1 b∧w.mapTurned w3 b∧Cts w3 b (ns ++ [x]):=by
 obtain ⟨D,h,hc⟩:=h
 have hle:ns.count x≤ns.length:=List.count_le_length
 have w0:(Lit.int .i64 0).wf=true:=by decide
 have wc:(Lit.int .i64 ((ns.count x:Int) + 1)).wf=true:=WalkArith.wf_i64 (by omega)
 obtain ⟨v0,st,w1,D1,hr,ht1,ho1,hat1,hst⟩:=entry_own h keyLNm Tryz.underlying211 zero64 (plainElem_int Tryz.underlying2 w0) (by unfold maxLen;omega) (kyL_key hx)
 obtain ⟨w3,hr3,ho3,ht3⟩:=hst w1 _ _ _ rfl (plainElem_int Tryz.underlying2 wc)
 obtain ⟨c,hrl,hat,_⟩:=ho1.lookup_int lawNm Tryz.underlying211 Tryz.underlying2 (zero64 w1) (kyL_key hx)
 rw [hat1,hc.2 x hx] at hat
 simp only [DataW.lit.injEq,Lit.int.injEq,true_and] at hat
 refine ⟨v0,st,w1,w3,hr,by rw [hrl,hat],hr3,ht1,ht1.trans ht3,⟨_,?_,hc.put hx⟩⟩
 rw [List.length_append]
 exact ho3

end Go.Proofs.YtjjoahhnkpjolaaGreatDoor
