/- Texts joined,with what the laws reach alone. -/
import Derived.Test.YtgdedpgldhbfhaaGreatDoorQAAJ
set_option linter.unusedVariables false
set_option linter.unusedSimpArgs false
set_option maxRecDepth 100000
set_option maxHeartbeats 2000000
namespace Go.Proofs.YtgdedpgldhbfhaaGreatDoor
open Go.RowKit Go.BigFrame
theorem Kind.At.take'{P:Type}{K:Kind P}{w:World}{a:Option Addr}{n cap:Nat}{ps:List P}(h:K.At w (.slice a n cap) ps)(m:Nat)(hm:m≤ps.length):K.At w (.slice a m cap) (ps.take m):=by
 obtain⟨a',c,e,hl,hr⟩:=h;simp only[Value.slice.injEq]at e;obtain⟨rfl,_,rfl⟩:=e;refine⟨a,cap,by rw[List.length_take,Nat.min_eq_left hm],?_,fun p hp=>hr p (List.mem_of_mem_take hp)⟩;have er:K.row ps=K.row (ps.take m)++K.row (ps.drop m):=by
  unfold Kind.row;rw[←List.flatMap_append,List.take_append_drop]
 rcases hl with h0|⟨b,off,ha,hlt,hc⟩
 ·left;rw[er]at h0;exact(List.append_eq_nil_iff.1 h0).1
 ·right;refine⟨b,off,ha,hlt,fun j x hx=>hc j x ?_⟩;rw[er,List.getElem?_append_left (List.getElem?_eq_some_iff.1 hx).1];exact hx
def preT(xs ys:List TxnD):Bool:=decide (xs.length≤ys.length) && sameTs xs (ys.take xs.length)
theorem z7C(v v':Value)(xs ys:List TxnQ)(w:World)(h:txnK.At w v xs)(h':txnK.Own w v' ys)(hl:xs.length+nmL TxnQ.n xs≤1048576)(C:ys.length+nmL TxnQ.n ys≤1048576):
  Calls Tryz.prog 101 #[v,v',.func (.func 102) #[] #[]] w fun e w'=>e=.returned (.bool (preT (xs.map TxnQ.e) (ys.map TxnQ.e)))∧Below w.heap.size w w':=by
 obtain⟨a,cap,rfl⟩:=h.shape;obtain⟨a',c,rfl⟩:=h'.shape;obtain⟨hc,A⟩:=h'.cap';unfold preT;rw[List.length_map,List.length_map];by_cases d:xs.length≤ys.length
 ·have hd:decide (xs.length≤ys.length)=true:=decide_eq_true d;rw[hd,Bool.true_and];have hT:=h'.at.take' xs.length d;have hn:nmL TxnQ.n (ys.take xs.length)≤nmL TxnQ.n ys:=z3d TxnQ.n ys xs.length;have hq:=z3K (.slice a xs.length cap) (.slice a' xs.length c) (xs.map TxnQ.e) ((ys.take xs.length).map TxnQ.e) w (z0s h) (z0s hT) (by rw[List.length_map,z0O];omega) (by rw[List.length_map,z0O,List.length_take];omega);rw[List.map_take]at hq;generalize sameTs (xs.map TxnQ.e) ((ys.map TxnQ.e).take xs.length)=E at*;have y:(xs.length:Int)≤(ys.length:Int):=by omega
  have I:xs.length≤c:=by omega
  have z:(xs.length:Int)≤(c:Int):=by omega
  have D:(0:Int)≤(xs.length:Int):=by omega
  clear hT hn hd;go_enter Tryz.func101,Tryz.ntmps101
  go_wp2_with fail
  refine hq.mono ?_;rintro e w2 ⟨rfl,x⟩
  go_wp2
  go_ret;exact⟨rfl,x⟩
 ·have hd:decide (xs.length≤ys.length)=false:=decide_eq_false d;rw[hd,Bool.false_and];have y:¬(xs.length:Int)≤(ys.length:Int):=by omega
  clear hd;go_enter Tryz.func101,Tryz.ntmps101
  go_wp2
  go_ret;exact⟨rfl,Below.refl _ _⟩
theorem z2q(v v':Value)(xs ys:List TxnQ)(w:World)(h:txnK.At w v xs)(h':txnK.Own w v' ys)(hl:xs.length+nmL TxnQ.n xs≤1048576)(hl':ys.length+nmL TxnQ.n ys≤1048576):
  Calls Tryz.prog 70 #[v,v'] w fun e w'=>e=.returned (.bool (preT (xs.map TxnQ.e) (ys.map TxnQ.e)))∧Below w.heap.size w w':=by
 have hq:=z7C v v' xs ys w h h' hl hl';obtain⟨a,cap,rfl⟩:=h.shape;obtain⟨a',cap',rfl⟩:=h'.shape;generalize preT (xs.map TxnQ.e) (ys.map TxnQ.e)=E at*;go_enter Tryz.func70,Tryz.ntmps70
 go_wp2_with fail
 refine hq.mono ?_;rintro e w2 ⟨rfl,hb2⟩
 go_wp2
 go_ret;exact⟨rfl,hb2⟩
theorem z4H(v v':Value)(xs ys:List TxnQ)(w:World)(h:txnK.At w v xs)(h':txnK.Own w v' ys)(hl:xs.length+nmL TxnQ.n xs≤1048576)(C:ys.length+nmL TxnQ.n ys≤1048576):
  Calls Tryz.prog 39 #[v,v'] w fun e w'=>e=.returned (.bool (preT (xs.map TxnQ.e) (ys.map TxnQ.e)))∧Below w.heap.size w w':=by
 obtain⟨a,cap,rfl⟩:=h.shape;obtain⟨a',c,rfl⟩:=h'.shape;obtain⟨hc,A⟩:=h'.cap';unfold preT;rw[List.length_map,List.length_map];by_cases d:xs.length≤ys.length
 ·have hd:decide (xs.length≤ys.length)=true:=decide_eq_true d;rw[hd,Bool.true_and];have hT:=h'.at.take' xs.length d;have hn:nmL TxnQ.n (ys.take xs.length)≤nmL TxnQ.n ys:=z3d TxnQ.n ys xs.length;have hq:=z1i (.slice a xs.length cap) (.slice a' xs.length c) (xs.map TxnQ.e) ((ys.take xs.length).map TxnQ.e) w (z0s h) (z0s hT) (by rw[List.length_map,z0O];omega) (by rw[List.length_map,z0O,List.length_take];omega);rw[List.map_take]at hq;generalize sameTs (xs.map TxnQ.e) ((ys.map TxnQ.e).take xs.length)=E at*;have y:(xs.length:Int)≤(ys.length:Int):=by omega
  have I:xs.length≤c:=by omega
  have z:(xs.length:Int)≤(c:Int):=by omega
  have D:(0:Int)≤(xs.length:Int):=by omega
  clear hT hn hd;go_enter Tryz.func39,Tryz.ntmps39
  go_wp2_with fail
  refine hq.mono ?_;rintro e w2 ⟨rfl,x⟩
  go_wp2
  go_ret;exact⟨rfl,x⟩
 ·have hd:decide (xs.length≤ys.length)=false:=decide_eq_false d;rw[hd,Bool.false_and];have y:¬(xs.length:Int)≤(ys.length:Int):=by omega
  clear hd;go_enter Tryz.func39,Tryz.ntmps39
  go_wp2
  go_ret;exact⟨rfl,Below.refl _ _⟩
end Go.Proofs.YtgdedpgldhbfhaaGreatDoor
