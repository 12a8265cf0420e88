/- Texts joined,with what the laws reach alone. -/
import Derived.Test.YtljbililjlafcaaGreatDoorILAG
import Derived.Shelf.SlIterI.Nil
set_option linter.unusedVariables false
set_option linter.unusedSimpArgs false
set_option maxRecDepth 100000
set_option maxHeartbeats 16000000
namespace Go.Proofs.YtljbililjlafcaaGreatDoor
open Go.RowKit Go.BigFrame
def z06(f:Nat→Int):Nat→Int
 |0=>0
 |n+1=>if z06 f n=0 then f n else z06 f n
theorem z1u(f:Nat→Int):∀n,(∀j,j<n→f j=0)→z06 f n=0
 |0,_=>rfl
 |n+1,h=>by
  have:=z1u f n (fun j hj=>h j (by omega));simp only[z06,this,if_true];exact h n (by omega)
theorem z2X(f:Nat→Int)(k:Nat)(h:∀j,j<k→f j=0)(hne:f k≠0):∀n,k<n→z06 f n=f k
 |0,hk=>by omega
 |n+1,hk=>by
  by_cases e:k=n
  ·subst e;simp only[z06,z1u f k h,if_true]
  ·have:=z2X f k h hne n (by omega);simp only[z06,this,hne,if_false]
theorem z3H(f:Nat→Int):∀n,z06 f n=0→∀j,j<n→f j=0
 |0,_,j,hj=>by omega
 |n+1,h,j,hj=>by
  simp only[z06]at h;by_cases e:z06 f n=0
  ·rw[if_pos e]at h;by_cases ej:j=n
   ·subst ej;exact h
   ·exact z3H f n e j (by omega)
  ·rw[if_neg e]at h;exact absurd h e
def prevK(xs:List ItemD)(k:Nat):Int:=if k=0 then 0 else(xs.getD (k-1) z0c).key
def itF(xs:List ItemD)(k:Nat):Int:=
 if inW (xs.getD k z0c).key 1 20=false∨inW (xs.getD k z0c).val (-20000) 20000=false then 3
 else if(xs.getD k z0c).key≤prevK xs k then 1 else 0
def itemsF(xs:List ItemD):Int:=if 8<xs.length then 2 else z06 (itF xs) xs.length
theorem z52(xs:List ItemD)(k:Nat):
  (inW (xs.getD k z0c).key 1 20=false∧itF xs k=3)∨(inW (xs.getD k z0c).key 1 20=true∧inW (xs.getD k z0c).val (-20000) 20000=false∧itF xs k=3)∨
  (inW (xs.getD k z0c).key 1 20=true∧inW (xs.getD k z0c).val (-20000) 20000=true∧(xs.getD k z0c).key≤prevK xs k∧itF xs k=1)∨
  (inW (xs.getD k z0c).key 1 20=true∧inW (xs.getD k z0c).val (-20000) 20000=true∧¬(xs.getD k z0c).key≤prevK xs k∧itF xs k=0):=by
 unfold itF;generalize xs.getD k z0c=x;generalize prevK xs k=p
 cases h1:inW x.key 1 20<;>cases h2:inW x.val (-20000) 20000<;>by_cases h3:x.key≤p<;>simp[h3]
theorem z1p(n:Int)(w:World):
  Calls Tryz.prog 222 #[.int .i64 n] w fun e w'=>e=.returned (.bool (inW n (-20000) 20000))∧w'=w:=by
 have hc:=fun w=>z0E n (-20000) 20000 w
 generalize inW n (-20000) 20000=r at hc;go_enter Tryz.func222,Tryz.ntmps222
 go_wp2_with (go_at_call 64;refine(hc _).mono ?_;rintro e w' ⟨rfl,rfl⟩)
 go_ret;exact⟨rfl,rfl⟩
theorem z2Y(a:Option Addr)(cap:Nat)(zs:List ItemD)(w:World)(h:ItemRow w a zs)(hl:zs.length≤1048576):
  Calls Tryz.prog 200 #[.slice a zs.length cap] w fun e w'=>e=.returned (.int .i64 (itemsF zs))∧Below w.heap.size w w':=by
 by_cases h8:8<zs.length
 ·have E:itemsF zs=2:=if_pos h8;rw[E];go_enter Tryz.func200,Tryz.ntmps200
  go_wp2
  go_ret;exact⟨rfl,Below.refl _ _⟩
 have E:itemsF zs=z06 (itF zs) zs.length:=if_neg h8;rw[E];clear E;go_enter Tryz.func200,Tryz.ntmps200
 go_wp2
 go_loopw[3,11] (fun l j wr=>∃k:Nat,k≤zs.length∧j=.int .i64 k∧l=.int .i64 (prevK zs k)∧Below w.heap.size w wr∧Hid (∀j,j<k→itF zs j=0)) (fun _ j _=>zs.length-(intOf j).toNat)
 case atStart=>exact⟨0,Nat.zero_le _,rfl,rfl,Below.refl _ _,fun j hj=>absurd hj (Nat.not_lt_zero _)⟩
 case round=>
  obtain⟨k,hk,rfl,rfl,hb,HA⟩:=hrel;by_cases hlt:k<zs.length
  ·obtain⟨b,off,rfl,hbs,hc0,hc1⟩:=(h.below hb).at k hlt;have hsz:=hb.size;have HK:Hid (prevK zs (k+1)=(zs.getD k z0c).key):=if_neg (Nat.succ_ne_zero k);rcases z52 zs k with⟨h1,hF⟩|⟨h1,h2,hF⟩|⟨h1,h2,h3,hF⟩|⟨h1,h2,h3,hF⟩
   case inr.inr.inr=>
    have HB:Hid (∀j,j<k+1→itF zs j=0):=by
     intro j hj;by_cases hjk:j=k
     ·subst hjk;exact hF
     ·exact HA.out j (by omega)
    clear HA hF;generalize prevK zs k=p at h3;generalize zs.getD k z0c=z at hc0 hc1 h1 h2 h3 HK;obtain⟨z0,z1⟩:=z;dsimp only at hc0 hc1 h1 h2 h3 HK
    go_wp2_with (first|(go_at_call 64;refine(z0E _ _ _ _).mono ?_;rintro e w' ⟨rfl,rfl⟩)|(go_at_call 222;refine(z1p _ _).mono ?_;rintro e w' ⟨rfl,rfl⟩))
    go_roundw
    case rel=>exact⟨k+1,by omega,by go_num,by rw[HK.out],by go_grown,HB⟩
    case measure=>simp[intOf];omega
   all_goals
    have E:Hid (z06 (itF zs) zs.length=_):=z2X (itF zs) k HA.out (by rw[hF];decide) zs.length hlt;rw[hF]at E;clear HA hF HK;generalize prevK zs k=p at*;generalize zs.getD k z0c=z at*;obtain⟨z0,z1⟩:=z;dsimp only at*
    go_wp2_with (first|(go_at_call 64;refine(z0E _ _ _ _).mono ?_;rintro e w' ⟨rfl,rfl⟩)|(go_at_call 222;refine(z1p _ _).mono ?_;rintro e w' ⟨rfl,rfl⟩))
    go_ret;rw[E.out];exact⟨rfl,by go_grown⟩
  ·have hkl:k=zs.length:=by omega
   subst hkl;have E:Hid (z06 (itF zs) zs.length=0):=z1u _ _ HA.out;clear HA
   go_wp2
   go_ret;rw[E.out];exact⟨rfl,hb⟩
def OwnS(e size lo hi:Nat)(w:World)(v:Value)(n:Nat)(xs:List Value):Prop:=w.ownsRow lo e size v n xs∧∀g,v.ownBlock=some g→g<hi
theorem OwnS.of{e size lo n:Nat}{w:World}{v:Value}{xs:List Value}(o:w.ownsRow lo e size v n xs):OwnS e size lo w.heap.size w v n xs:=⟨o,fun g hg=>(o.lt g hg).2⟩
theorem OwnS.below{e size lo hi n:Nat}{w w':World}{v:Value}{xs:List Value}(o:OwnS e size lo hi w v n xs)(hb:Below w.heap.size w w'):OwnS e size lo hi w' v n xs:=⟨z0d o.1 hb,o.2⟩
theorem OwnS.only{e size lo hi n lo' hi':Nat}{w w':World}{v:Value}{xs:List Value}(o:OwnS e size lo hi w v n xs)(h:Only lo' hi' w w')(hh:hi'≤lo):OwnS e size lo hi w' v n xs:=⟨z1G o.1 h hh,o.2⟩
theorem OwnS.lies{e size lo hi n c:Nat}{w:World}{a:Option Addr}{xs:List Value}(o:OwnS e size lo hi w (.slice a n c) n xs):Lies w a xs:=Lies.own o.1
theorem OwnS.wide{e size lo hi n lo' hi':Nat}{w:World}{v:Value}{xs:List Value}(o:OwnS e size lo hi w v n xs)(h:lo'≤lo)(hh:hi≤hi'):OwnS e size lo' hi' w v n xs:=⟨z0p o.1 h,fun g hg=>Nat.lt_of_lt_of_le (o.2 g hg) hh⟩
theorem OwnS.grown{e size lo hi n:Nat}{w w':World}{v:Value}{xs:List Value}(o:OwnS e size lo hi w v n xs)(hg:w.grownBy w' v.ownBlock):Only lo hi w w':=z2L hg (fun g h=>⟨(o.1.lt g h).1,o.2 g h⟩)
theorem OwnS.beside{e size lo hi n:Nat}{w w':World}{v v':Value}{xs:List Value}(o:OwnS e size lo hi w v n xs)(hg:w.grownBy w' v'.ownBlock)(h:v.ownBlock=none∨v.ownBlock≠v'.ownBlock):OwnS e size lo hi w' v n xs:=⟨o.1.kept hg h,o.2⟩
theorem OwnTxns.only{lo hi lo' hi':Nat}{w w':World}{v:Value}{ds:List TxnD}(h:OwnTxns lo hi w v ds)(ho:Only lo' hi' w w')(hh:hi'≤lo):OwnTxns lo hi w' v ds:=by
 obtain⟨g,cap,ps,e,hg,hd,o,hp⟩:=h;exact⟨g,cap,ps,e,hg,hd,z1G o ho hh,fun p hm=>⟨z1G (hp p hm).1 ho hh,(hp p hm).2⟩⟩
section
open Go.Maps Go.Sort Go.Shelf
def z5v:Go.Shelf.Ren:=⟨fun|7=>225|10=>237|n=>n,fun|23=>274|26=>2|3=>2|28=>324|0=>0|27=>323|33=>227|4=>4|n=>n,fun|n=>n⟩
theorem q2u:Go.Proofs.SlLaysZI.n7 Tryz.prog z5v:={
 mixed:=by kernel_rfl,
 f7:=⟨Tryz.f225.name,by decide,Tryz.func225.trans (congrArg some (by kernel_rfl))⟩,
 f10:=⟨Tryz.f237.name,by decide,Tryz.func237.trans (congrArg some (by kernel_rfl))⟩,
 t0:=Tryz.underlying0,
 a0:=Tryz.isAgg0,
 z0:=Tryz.sizeOf0,
 v0:=Tryz.zeroValue0,
 t4:=Tryz.underlying4,
 a4:=Tryz.isAgg4,
 z4:=Tryz.sizeOf4,
 v4:=Tryz.zeroValue4,
 t23:=Tryz.underlying274,
 a23:=Tryz.isAgg274,
 z23:=Tryz.sizeOf274,
 v23:=Tryz.zeroValue274,
 t26:=Tryz.underlying2,
 a26:=Tryz.isAgg2,
 z26:=Tryz.sizeOf2,
 v26:=Tryz.zeroValue2,
 t27:=Tryz.underlying323,
 a27:=Tryz.isAgg323,
 z27:=Tryz.sizeOf323,
 v27:=Tryz.zeroValue323,
 t28:=Tryz.underlying324,
 a28:=Tryz.isAgg324,
 z28:=Tryz.sizeOf324,
 v28:=Tryz.zeroValue324,
 t33:=Tryz.underlying227,
 a33:=Tryz.isAgg227,
 z33:=Tryz.sizeOf227,
 v33:=Tryz.zeroValue227 }
def z3I:Go.Shelf.Ren:=⟨fun|6=>224|8=>236|9=>170|11=>240|13=>193|12=>192|23=>214|24=>215|14=>205|15=>206|16=>207|17=>208|18=>209|19=>210|20=>211|21=>212|22=>213|25=>227|26=>228|27=>229|28=>230|29=>231|30=>232|31=>238|n=>n,fun|26=>2|28=>324|24=>42|0=>0|3=>3|37=>207|48=>312|50=>297|4=>4|40=>305|39=>304|45=>309|5=>5|9=>9|51=>327|55=>331|57=>336|58=>337|33=>227|n=>n,fun|n=>n⟩
theorem q1X:Go.Proofs.SlLaysZI.n6 Tryz.prog z3I:={
 mixed:=by kernel_rfl,
 f6:=⟨Tryz.f224.name,by decide,Tryz.func224.trans (congrArg some (by kernel_rfl))⟩,
 f8:=⟨Tryz.f236.name,by decide,Tryz.func236.trans (congrArg some (by kernel_rfl))⟩,
 f11:=⟨Tryz.f240.name,by decide,Tryz.func240.trans (congrArg some (by kernel_rfl))⟩,
 t0:=Tryz.underlying0,
 a0:=Tryz.isAgg0,
 z0:=Tryz.sizeOf0,
 v0:=Tryz.zeroValue0,
 t24:=Tryz.underlying42,
 a24:=Tryz.isAgg42,
 z24:=Tryz.sizeOf42,
 v24:=Tryz.zeroValue42,
 t26:=Tryz.underlying2,
 a26:=Tryz.isAgg2,
 z26:=Tryz.sizeOf2,
 v26:=Tryz.zeroValue2,
 t28:=Tryz.underlying324,
 a28:=Tryz.isAgg324,
 z28:=Tryz.sizeOf324,
 v28:=Tryz.zeroValue324,
 i26:=by kernel_rfl }
end
structure KeepP (p:World→Prop) where
 val:World
 isP:p val
section
variable {P:Program} {ops:Array Oper} {Q:Exit→Act→World→Prop} {S:World→Prop} {st:Nat}
def z02(P:Program)(ops:Array Oper)(Q:Exit→Act→World→Prop)(S:World→Prop)(st:Nat):Nat→Array Bool→Act→World→Prop
 |0,listed,a,w=>Region.ready .any ops listed=[]∧Q .normal a w
 |fuel+1,listed,a,w=>
  (Region.ready .any ops listed=[]→Q .normal a w)∧
  ∀i∈Region.ready .any ops listed,wpOp P ops Q i (fun a' w'=>((listed.setIfInBounds i true).getD st true=true∨S w')∧z02 P ops Q S st fuel (listed.setIfInBounds i true) a' w') a w
theorem z5w:∀ (fuel:Nat) (listed:Array Bool) (a:Act) (w:World),z02 P ops Q S st fuel listed a w→wpAny P .any ops Q fuel listed a w
 |0,_,_,_,h=>h
 |fuel+1,_,_,_,h=>⟨h.1,fun i hi=>wpOp_mono (fun a' w' h'=>z5w fuel _ a' w' h'.2) (h.2 i hi)⟩
theorem z3J{i:Nat}{oi:Oper}{v:Value}(hi:ops[i]?=some oi)(J:∀ (j:Nat) (o:Oper) cs b,ops[j]?=some o→o.op≠.select cs b)
  (hQ:∀c a w,Q (.panic c) (a.put oi.dst v) w→Q (.panic c) a w) (N:i≠st) (Z:∀o,ops[st]?=some o→∃e∈o.after,Region.binds .any e=true∧e.on=i):
  ∀ (x:Nat) (d:Array Bool) (a:Act) (w:World),
   (∀j oj,ops[j]?=some oj→j≠i→d.getD j true=false→(∀e∈oj.after,Region.binds .any e=true→e.on≠i)→oi.apart ops oj=true)→
   i∈Region.ready .any ops d→YieldsIf P ops S oi v a→S w→d.getD st true=false→
   z02 P ops Q S st x (d.setIfInBounds i true) (a.put oi.dst v) w→z02 P ops Q S st (x+1) d a w:=by
 intro x;induction x with
 |zero=>
  intro d a w _ hr hy hS hl H;refine⟨fun h=>(by rw[h]at hr;cases hr),fun j hj=>?_⟩;by_cases y:j=i
  ·subst y;exact hy.wpOp hi hS ⟨Or.inr hS,H⟩
  ·have:=ready_mono hj y;rw[H.1]at this
   cases this
 |succ x ih=>
  intro d a w z hr hy hS hl H;refine⟨fun h=>(by rw[h]at hr;cases hr),fun j hj=>?_⟩;by_cases y:j=i
  ·subst y;exact hy.wpOp hi hS ⟨Or.inr hS,H⟩
  ·have h1:=H.2 j (ready_mono hj y);obtain⟨E,oj,C,M⟩:=mem_ready.1 hj;have I:∀e∈oj.after,Region.binds .any e=true→e.on≠i:=fun e he hb U=>by
    have h1:=M e he hb;have h0:=(mem_ready.1 hr).1;rw[U]at h1;rcases Nat.lt_or_ge i d.size with h'|h'
    ·simp[h']at h0 h1;rw[h0]at h1;cases h1
    ·simp[Array.getElem?_eq_none h']at h1
   have D:j≠st:=by
    intro e;subst e;obtain⟨e,he,hb,Y⟩:=Z oj C;exact I e he hb Y
   have h2:=wpOp_putIf C (z j oj C y E I) (fun cs b=>J i oi cs b hi) (fun cs b=>J j oj cs b C) hQ hy h1;have A:∀k ok,ops[k]?=some ok→k≠i→(d.setIfInBounds j true).getD k true=false→
     (∀e∈ok.after,Region.binds .any e=true→e.on≠i)→oi.apart ops ok=true:=fun k ok hk V T X=>by
    refine z k ok hk V ?_ X;by_cases O:j=k
    ·subst O;exact E
    ·rw[getD_set_ne true O]at T;exact T
   have W:(d.setIfInBounds j true).getD st true=false:=by rw[getD_set_ne true D];exact hl
   refine wpOp_mono (fun a' w' h3=>?_) h2;have L:S w':=by
    rcases h3.2.1 with h4|h4
    ·rw[getD_set_ne true D,getD_set_ne true N,hl]at h4
     cases h4
    ·exact h4
   refine⟨Or.inr L,ih (d.setIfInBounds j true) a' w' A (ready_mono hr (Ne.symm y)) h3.1 L W ?_⟩;rw[Array.setIfInBounds_comm _ _ y];exact h3.2.2
def PanTo(Q:Exit→Act→World→Prop)(R:List PanicEntry→World→Prop):Exit→Act→World→Prop
 | .panic c,a,w=>a.defers=[]∧R c w
 |e,a,w=>Q e a w
theorem z54(a:Act)(d:Option Tmp)(v:Value):(a.put d v).defers=a.defers:=by cases d<;>rfl
theorem PanTo.put{R:List PanicEntry→World→Prop}:∀c (a:Act) (d:Option Tmp) (v:Value) w,PanTo Q R (.panic c) (a.put d v) w→PanTo Q R (.panic c) a w:=fun c a d v w h=>⟨(z54 a d v)▸h.1,h.2⟩
variable {R:List PanicEntry→World→Prop}
theorem PanTo.imp(hR:∀c a w,a.defers=[]→R c w→Q (.panic c) a w):∀ (e:Exit) (a:Act) (w:World),PanTo Q R e a w→Q e a w:=fun e a w h=>by
 cases e<;>first|exact h|exact hR _ _ _ h.1 h.2
theorem z6Y{id:Nat}{a:Act}{w:World}(st:Nat)(hm:P.follows .mixedOrders=true)(hR:∀c a w,a.defers=[]→R c w→Q (.panic c) a w)
  (h:z02 P ops (PanTo Q R) S st ops.size (Array.replicate ops.size false) a w.drew):(Code.region id ops true).wp P Q a w:=
 Code.wp_mono (PanTo.imp hR) (wp_region_any hm (z5w _ _ _ _ h))
def q0D(ops:Array Oper)(st i:Nat):Bool:=match ops[st]? with
 |some o=>o.after.any (fun e=>Region.binds .any e && e.on==i)
 |none=>true
theorem z8v{i:Nat}(h:q0D ops st i=true):∀o,ops[st]?=some o→∃e∈o.after,Region.binds .any e=true∧e.on=i:=by
 intro o ho;unfold q0D at h;rw[ho]at h;obtain⟨k,hk,_,_,hb⟩:=Array.any_iff_exists.1 h;simp only[Bool.and_eq_true,beq_iff_eq]at hb;exact⟨o.after[k],Array.getElem_mem hk,hb⟩
def z6Z(ops:Array Oper)(st:Nat):List Nat→Array Bool→Bool
 |[],_=>true
 |i::r,l=>Region.free .any ops l i && (Region.ready .any ops l).contains i && (i !=st) && q0D ops st i && !(l.getD st true) && z6Z ops st r (l.setIfInBounds i true)
theorem z9g(hs:Region.noSelect ops=true):
  ∀ (z:List Nat) (os:List Oper) (l:Array Bool) (a:Act) (w:World) (y:Nat),z.map (ops[·]?)=os.map some→os.all (fun o=>z3A o.op)=true→z6Z ops st z l=true→S w→
   wpQuiet P ops S (fun a'=>z02 P ops (PanTo Q R) S st y (z3f z l) a' w) os a→z02 P ops (PanTo Q R) S st (y+z.length) l a w:=by
 intro z;induction z with
 |nil=>
  intro os l a w y d _ _ _ h
  cases os with
  |nil=>exact h
  |cons o os=>simp at d
 |cons i r ih=>
  intro os l a w y d A E hS h
  cases os with
  |nil=>simp at d
  |cons o os=>
   simp only[List.map_cons,List.cons.injEq]at d;simp only[List.all_cons,Bool.and_eq_true]at A;simp only[z6Z,Bool.and_eq_true,bne_iff_ne,ne_eq,Bool.not_eq_true']at E;obtain⟨⟨⟨⟨⟨hf,hr⟩,D⟩,I⟩,hl⟩,C⟩:=E;simp only[wpQuiet]at h;by_cases hw:Region.wanted o (yielded ops a.tmps)=true
   ·rw[if_pos hw]at h;obtain⟨v,hv,hk⟩:=h;refine z3J (i:=i) (oi:=o) (v:=v) d.1 (Region.noSelect_spec hs) (fun c a w h=>PanTo.put c a _ _ w h) D (z8v I) _ l a w (Region.free_spec d.1 hf) (by simpa using hr) (Or.inl ⟨hw,fun u hu=>?_⟩) hS hl (ih os _ _ w y d.2 A.2 C hS hk);have hq:=hv u hu;unfold Oper.quietAt at hq
    cases hrun:(execOp a.eval o).run P u with
    |ok n u'=>
     obtain⟨x,rfl⟩:=z4h A.1 hrun;rw[hrun]at hq;obtain⟨e1,e2⟩:=hq;rw[e1,e2]
    |halt x u'=>
     rw[hrun]at hq;exact hq.elim
   ·rw[if_neg hw]at h;have J:Region.wanted o (yielded ops a.tmps)=false:=by simpa using hw
    exact z3J (i:=i) (oi:=o) (v:=undef) d.1 (Region.noSelect_spec hs) (fun c a w h=>PanTo.put c a _ _ w h) D (z8v I) _ l a w (Region.free_spec d.1 hf) (by simpa using hr) (Or.inr ⟨J,rfl⟩) hS hl (ih os _ _ w y d.2 A.2 C hS h)
theorem segX(rs:List (Nat × Nat))(fuel:Nat){F:Nat}{l:Array Bool}{a:Act}{w:World}(hF:F=fuel+(z6s rs).length)(hs:Region.noSelect ops=true)(hm:(z6s rs).map (ops[·]?)=(z2A ops.toList rs).map some)
  (hp:(z2A ops.toList rs).all (fun o=>z3A o.op)=true) (hok:z6Z ops st (z6s rs) l=true) (hS:S w)
  (h:wpQuiet P ops S (fun a'=>z02 P ops (PanTo Q R) S st fuel (z3f (z6s rs) l) a' w) (z2A ops.toList rs) a):z02 P ops (PanTo Q R) S st F l a w:=by
 subst hF;exact z9g hs (z6s rs) _ l a w fuel hm hp hok hS h
theorem q4E(i:Nat)(d:Option Tmp)(f:Nat)(args:Array Value)(fuel:Nat){F:Nat}{l:Array Bool}{a:Act}{w:World}(hF:F=fuel+1)
  (hd:(ops[i]?).map (·.dst)=some d) (hr:Region.ready .any ops l=[i]) (hw:(ops[i]?).map (fun o=>Region.wanted o (yielded ops a.tmps))=some true)
  (hrun:(ops[i]?).map (fun o=>(execOp a.eval o).run P w)=some (.ok (.enter f args) w))
  (hdf:a.defers=[]) (hc:Calls P f args w (fun e w'=>(∃v,e=.returned v∧S w'∧z02 P ops (PanTo Q R) S st fuel (z3f [i] l) (a.put d v) w')∨∃c,e=.panicked c∧R c w')):z02 P ops (PanTo Q R) S st F l a w:=by
 subst hF
 cases ho:ops[i]? with
 |none=>rw[ho]at hd;simp at hd
 |some o=>
  rw[ho]at hd hw hrun;simp only[Option.map_some,Option.some.injEq]at hd hw hrun;subst hd;refine⟨fun h0=>(by rw[hr]at h0;cases h0),fun j hj=>?_⟩;rw[hr]at hj;simp only[List.mem_singleton]at hj;subst hj;unfold wpOp;simp only[ho,hw,if_true];refine .inl ?_;unfold Oper.wp;rw[hrun];simp only[Oper.upon];refine hc.mono fun e w' he=>?_
  rcases he with⟨v,rfl,h1,h2⟩|⟨c,rfl,h1⟩
  ·exact⟨Or.inr h1,h2⟩
  ·exact⟨hdf,h1⟩
def ThenX(Q:Exit→Act→World→Prop)(R:List PanicEntry→World→Prop)(K:Act→World→Prop):Exit→Act→World→Prop
 | .normal,a,w=>K a w
 |e,a,w=>PanTo Q R e a w
theorem ThenX.to{K:Act→World→Prop}{a:Act}{w:World}(h:K a w):ThenX Q R K .normal a w:=h
theorem oneX(i:Nat)(o:Oper)(fuel:Nat){F:Nat}{l:Array Bool}{a:Act}{w:World}(hF:F=fuel+1)(ho:ops[i]?=some o)(hr:Region.ready .any ops l=[i])
  (h:wpList P ops (ThenX Q R (fun a' w'=>((z3f [i] l).getD st true=true∨S w')∧z02 P ops (PanTo Q R) S st fuel (z3f [i] l) a' w')) [o] a w):z02 P ops (PanTo Q R) S st F l a w:=by
 subst hF;refine⟨fun h0=>(by rw[hr]at h0;cases h0),fun j hj=>?_⟩;rw[hr]at hj;simp only[List.mem_singleton]at hj;subst hj;unfold wpOp;simp only[ho];simp only[wpList]at h;split at h
 ·rename_i hw
  rw[if_pos hw];rcases h with h|⟨h1,h2⟩
  ·left;unfold Oper.wp at h⊢;revert h;generalize (execOp a.eval o).run P w=r;intro h;unfold Oper.upon at h⊢;split at h
   ·exact h
   ·exact h
   ·exact h
   ·refine Calls.mono h fun e w' he=>?_
    cases e<;>exact he
   ·exact h
   ·exact h
   ·exact h
  ·exact Or.inr ⟨h1,h2⟩
 ·rename_i hw
  rw[if_neg hw];exact h
theorem q33{F:Nat}{l:Array Bool}{a:Act}{w:World}(hr:Region.ready .any ops l=[])(h:Q .normal a w):z02 P ops (PanTo Q R) S st F l a w:=by
 cases F with
 |zero=>exact⟨hr,h⟩
 |succ F=>exact⟨fun _=>h,by rw[hr];simp⟩
theorem sgX(rs:List (Nat × Nat))(fuel:Nat){F:Nat}{l:Array Bool}{a:Act}{w:World}(h5:(F,Region.noSelect ops,(z6s rs).map (ops[·]?),(z2A ops.toList rs).all (fun o=>z3A o.op),z6Z ops st (z6s rs) l)=(fuel+(z6s rs).length,true,(z2A ops.toList rs).map some,true,true))(hS:S w)
  (h:wpQuiet P ops S (fun a'=>z02 P ops (PanTo Q R) S st fuel (z3f (z6s rs) l) a' w) (z2A ops.toList rs) a):z02 P ops (PanTo Q R) S st F l a w:=by
 simp only[Prod.mk.injEq]at h5;exact segX rs fuel h5.1 h5.2.1 h5.2.2.1 h5.2.2.2.1 h5.2.2.2.2 hS h
theorem clX(i:Nat)(d:Option Tmp)(f:Nat)(args:Array Value)(fuel:Nat){F:Nat}{l:Array Bool}{a:Act}{w:World}(h5:(F,(ops[i]?).map (·.dst),Region.ready .any ops l,(ops[i]?).map (fun o=>Region.wanted o (yielded ops a.tmps)),(ops[i]?).map (fun o=>(execOp a.eval o).run P w))=(fuel+1,some d,[i],some true,some (.ok (.enter f args) w)))
  (hdf:a.defers=[]) (hc:Calls P f args w (fun e w'=>(∃v,e=.returned v∧S w'∧z02 P ops (PanTo Q R) S st fuel (z3f [i] l) (a.put d v) w')∨∃c,e=.panicked c∧R c w')):z02 P ops (PanTo Q R) S st F l a w:=by
 simp only[Prod.mk.injEq]at h5;exact q4E i d f args fuel h5.1 h5.2.1 h5.2.2.1 h5.2.2.2.1 h5.2.2.2.2 hdf hc
theorem onX(i:Nat){o:Oper}(fuel:Nat){F:Nat}{l:Array Bool}{a:Act}{w:World}(ho:ops[i]?=some o)(h2:(F,Region.ready .any ops l)=(fuel+1,[i]))
  (h:wpList P ops (ThenX Q R (fun a' w'=>((z3f [i] l).getD st true=true∨S w')∧z02 P ops (PanTo Q R) S st fuel (z3f [i] l) a' w')) [o] a w):z02 P ops (PanTo Q R) S st F l a w:=by
 simp only[Prod.mk.injEq]at h2;exact oneX i o fuel h2.1 ho h2.2 h
end
def q4F(x:UndoD):Int:=
 if inW x.key 1 20=false∨inW x.val (-20000) 20000=false then 3 else if x.was=false∧x.val≠0 then 1 else 0
structure USP where
 d:List UndoD
 a:Option Addr
 cap:Nat
def USP.sl(p:USP):Value:=.slice p.a p.d.length p.cap
def z3l(ps:List USP):List Value:=ps.map USP.sl
def q0E:USP:=⟨[],none,0⟩
theorem z5c(ps:List USP):(z3l ps).length=ps.length:=by simp[z3l]
theorem z7Z(ps:List USP)(i:Nat)(h:i<ps.length):(z3l ps)[i]?=some (ps.getD i q0E).sl:=by simp[z3l,List.getD,h]
def UssAt(w:World)(v:Value)(ds:List (List UndoD)):Prop:=
 ∃a cap ps,v=.slice a ds.length cap∧ps.map USP.d=ds∧Lies w a (z3l ps)∧∀p∈ps,UndoRow w p.a p.d
theorem UssAt.below{w w':World}{v:Value}{ds:List (List UndoD)}(h:UssAt w v ds)(hb:Below w.heap.size w w'):UssAt w' v ds:=by
 obtain⟨a,cap,ps,e,hd,hL,hA⟩:=h;exact⟨a,cap,ps,e,hd,hL.below hb,fun p hp=>(hA p hp).below hb⟩
theorem UssAt.shape{w:World}{v:Value}{ds:List (List UndoD)}(h:UssAt w v ds):∃a cap,v=.slice a ds.length cap:=by
 obtain⟨a,cap,_,e,_⟩:=h;exact⟨a,cap,e⟩
theorem UssAt.at{w:World}{a:Option Addr}{n cap:Nat}{ds:List (List UndoD)}(h:UssAt w (.slice a n cap) ds)(i:Nat)(hi:i<ds.length):
  ∃b off aa cc,a=some ⟨b,off,none⟩∧b<w.heap.size∧w.cell? ⟨b,off+i,none⟩=some (.slice aa (ds.getD i []).length cc)∧UndoRow w aa (ds.getD i []):=by
 obtain⟨a',cap',ps,e,hd,hL,hA⟩:=h;simp only[Value.slice.injEq]at e;obtain⟨rfl,_,_⟩:=e;have hl:ps.length=ds.length:=by rw[←hd];simp
 have h1:=z7Z ps i (by omega);have hp:(ps.getD i q0E).d=ds.getD i []:=by
  rw[←hd];simp[List.getD,show i<ps.length by omega]
 have hm:ps.getD i q0E∈ps:=by simp[List.getD,show i<ps.length by omega]
 rcases hL with h|⟨b,off,ha,hlt,hc⟩
 ·have:=z5c ps;rw[h]at this;simp at this;omega
 ·have hAA:=hA _ hm;rw[hp]at hAA;refine⟨b,off,(ps.getD i q0E).a,(ps.getD i q0E).cap,ha,hlt,?_,hAA⟩;rw[hc _ _ h1];simp only[USP.sl,hp]
def OwnUss(lo hi:Nat)(w:World)(v:Value)(ds:List (List UndoD)):Prop:=
 ∃g cap ps,v=.slice (some ⟨g,0,none⟩) ds.length cap∧g<hi∧ps.map USP.d=ds∧w.ownsRow lo 190 1 (.slice (some ⟨g,0,none⟩) ds.length cap) ds.length (z3l ps)∧
  ∀p∈ps,w.ownsRow lo 223 3 p.sl p.d.length (z0n p.d)∧∀k,p.sl.ownBlock=some k→k<hi∧k≠g
theorem OwnUss.row{lo hi:Nat}{w:World}{v:Value}{ds:List (List UndoD)}(h:OwnUss lo hi w v ds):UssAt w v ds:=by
 obtain⟨g,cap,ps,e,_,hd,ho,hp⟩:=h;exact⟨_,cap,ps,e,hd,Lies.own ho,fun p hm=>Lies.own (hp p hm).1⟩
theorem OwnUss.below{lo hi:Nat}{w w':World}{v:Value}{ds:List (List UndoD)}(h:OwnUss lo hi w v ds)(hb:Below w.heap.size w w'):OwnUss lo hi w' v ds:=by
 obtain⟨g,cap,ps,e,hg,hd,ho,hp⟩:=h;exact⟨g,cap,ps,e,hg,hd,z0d ho hb,fun p hm=>⟨z0d (hp p hm).1 hb,(hp p hm).2⟩⟩
theorem OwnUss.only{lo hi lo' hi':Nat}{w w':World}{v:Value}{ds:List (List UndoD)}(h:OwnUss lo hi w v ds)(ho:Only lo' hi' w w')(hh:hi'≤lo):OwnUss lo hi w' v ds:=by
 obtain⟨g,cap,ps,e,hg,hd,o,hp⟩:=h;exact⟨g,cap,ps,e,hg,hd,z1G o ho hh,fun p hm=>⟨z1G (hp p hm).1 ho hh,(hp p hm).2⟩⟩
structure Apart3 (s1 s2 s3:Value):Prop where
 a12:s1.ownBlock=none∨s1.ownBlock≠s2.ownBlock
 a13:s1.ownBlock=none∨s1.ownBlock≠s3.ownBlock
 a23:s2.ownBlock=none∨s2.ownBlock≠s3.ownBlock
theorem z55{s t:Value}(h:s.ownBlock=none∨s.ownBlock≠t.ownBlock):t.ownBlock=none∨t.ownBlock≠s.ownBlock:=by
 rcases h with h|h
 ·cases ht:t.ownBlock with
  |none=>exact Or.inl rfl
  |some g=>right;rw[h];simp
 ·exact Or.inr (fun e=>h e.symm)
structure OwnA (lo hi:Nat) (w:World) (s1 s2 s3:Value) (cs vs:List Int) (ys:List ItemD):Prop where
 o1:OwnS 2 1 lo hi w s1 cs.length (cs.map (Value.int .i64))
 o2:OwnS 2 1 lo hi w s2 vs.length (vs.map (Value.int .i64))
 o3:OwnS 187 2 lo hi w s3 ys.length (z0h ys)
 ap:Apart3 s1 s2 s3
structure RowA (w:World) (a1 a2 a3:Option Addr) (cs vs:List Int) (ys:List ItemD):Prop where
 r1:Row .i64 w a1 cs
 r2:Row .i64 w a2 vs
 r3:ItemRow w a3 ys
theorem OwnA.below{lo hi:Nat}{w w':World}{s1 s2 s3:Value}{cs vs:List Int}{ys:List ItemD}(h:OwnA lo hi w s1 s2 s3 cs vs ys)(hb:Below w.heap.size w w'):OwnA lo hi w' s1 s2 s3 cs vs ys:=⟨h.o1.below hb,h.o2.below hb,h.o3.below hb,h.ap⟩
theorem OwnA.only{lo hi lo' hi':Nat}{w w':World}{s1 s2 s3:Value}{cs vs:List Int}{ys:List ItemD}(h:OwnA lo hi w s1 s2 s3 cs vs ys)(ho:Only lo' hi' w w')(hh:hi'≤lo):OwnA lo hi w' s1 s2 s3 cs vs ys:=⟨h.o1.only ho hh,h.o2.only ho hh,h.o3.only ho hh,h.ap⟩
theorem OwnA.row{lo hi c1 c2 c3:Nat}{w:World}{a1 a2 a3:Option Addr}{cs vs:List Int}{ys:List ItemD}(h:OwnA lo hi w (.slice a1 cs.length c1) (.slice a2 vs.length c2) (.slice a3 ys.length c3) cs vs ys):RowA w a1 a2 a3 cs vs ys:=⟨Row.own h.o1.1,Row.own h.o2.1,Lies.own h.o3.1⟩
theorem RowA.below{w w':World}{a1 a2 a3:Option Addr}{cs vs:List Int}{ys:List ItemD}(h:RowA w a1 a2 a3 cs vs ys)(hb:Below w.heap.size w w'):RowA w' a1 a2 a3 cs vs ys:=⟨h.r1.below hb,h.r2.below hb,h.r3.below hb⟩
structure MarkA (w:World) (a1 a2 a3:Option Addr) (n1 n2 n3:Nat):Prop where
 r1:Row .i64 w a1 (q3K .i64 1 n1)
 r2:Row .i64 w a2 (q3K .i64 (1+(n1:Int)) n2)
 r3:ItemRow w a3 (z6D (1+(n1:Int)+(n2:Int)) n3)
theorem MarkA.below{w w':World}{a1 a2 a3:Option Addr}{n1 n2 n3:Nat}(h:MarkA w a1 a2 a3 n1 n2 n3)(hb:Below w.heap.size w w'):MarkA w' a1 a2 a3 n1 n2 n3:=⟨h.r1.below hb,h.r2.below hb,h.r3.below hb⟩
structure OwnU (lo hi:Nat) (w:World) (s1 s2:Value) (us:List UndoD) (ys:List ItemD):Prop where
 o1:OwnS 223 3 lo hi w s1 us.length (z0n us)
 o2:OwnS 187 2 lo hi w s2 ys.length (z0h ys)
 ap:s1.ownBlock=none∨s1.ownBlock≠s2.ownBlock
structure RowU (w:World) (a1 a2:Option Addr) (us:List UndoD) (ys:List ItemD):Prop where
 r1:UndoRow w a1 us
 r2:ItemRow w a2 ys
theorem OwnU.below{lo hi:Nat}{w w':World}{s1 s2:Value}{us:List UndoD}{ys:List ItemD}(h:OwnU lo hi w s1 s2 us ys)(hb:Below w.heap.size w w'):OwnU lo hi w' s1 s2 us ys:=⟨h.o1.below hb,h.o2.below hb,h.ap⟩
theorem OwnU.only{lo hi lo' hi':Nat}{w w':World}{s1 s2:Value}{us:List UndoD}{ys:List ItemD}(h:OwnU lo hi w s1 s2 us ys)(ho:Only lo' hi' w w')(hh:hi'≤lo):OwnU lo hi w' s1 s2 us ys:=⟨h.o1.only ho hh,h.o2.only ho hh,h.ap⟩
theorem OwnU.row{lo hi c1 c2:Nat}{w:World}{a1 a2:Option Addr}{us:List UndoD}{ys:List ItemD}(h:OwnU lo hi w (.slice a1 us.length c1) (.slice a2 ys.length c2) us ys):RowU w a1 a2 us ys:=⟨Lies.own h.o1.1,Lies.own h.o2.1⟩
theorem RowU.below{w w':World}{a1 a2:Option Addr}{us:List UndoD}{ys:List ItemD}(h:RowU w a1 a2 us ys)(hb:Below w.heap.size w w'):RowU w' a1 a2 us ys:=⟨h.r1.below hb,h.r2.below hb⟩
structure MarkU (w:World) (a1 a2:Option Addr) (n1 n2:Nat):Prop where
 r1:UndoRow w a1 (z93 1 n1)
 r2:ItemRow w a2 (z6D (1+((n1*3:Nat):Int)) n2)
theorem MarkU.below{w w':World}{a1 a2:Option Addr}{n1 n2:Nat}(h:MarkU w a1 a2 n1 n2)(hb:Below w.heap.size w w'):MarkU w' a1 a2 n1 n2:=⟨h.r1.below hb,h.r2.below hb⟩
def z0K:InstE:=⟨false,[],[],[]⟩
def z1q:List InstE→Int
 |[]=>0
 |x::r=>if insF x=0 then(if 0<r.length∧outV x.dec=3 then 8 else z1q r)else insF x
def ordF(ds:List InstE):Int:=if ds.length<1∨4<ds.length then 2 else z1q ds
def q3g(ds:List InstE):InstE:=ds.getD (ds.length-1) z0K
def decN(ds:List InstE):Nat:=if outV (q3g ds).dec=3 then ds.length-1 else ds.length
theorem z70(ds:List InstE)(k:Nat)(hk:k<ds.length):ds.drop k=ds.getD k z0K::ds.drop (k+1):=by
 rw[List.drop_eq_getElem_cons hk];simp[List.getD,hk]
theorem z60(ds:List InstE)(k:Nat)(hk:k<ds.length)(h:insF (ds.getD k z0K)≠0):z1q (ds.drop k)=insF (ds.getD k z0K):=by
 rw[z70 ds k hk,z1q,if_neg h]
theorem z5x(ds:List InstE)(k:Nat)(hk:k+1<ds.length)(h:insF (ds.getD k z0K)=0)(h3:outV (ds.getD k z0K).dec=3):z1q (ds.drop k)=8:=by
 rw[z70 ds k (by omega),z1q,if_pos h,if_pos ⟨by simp;omega,h3⟩]
theorem z5y(ds:List InstE)(k:Nat)(hk:k<ds.length)(h:insF (ds.getD k z0K)=0)(h3:¬(k+1<ds.length∧outV (ds.getD k z0K).dec=3)):z1q (ds.drop k)=z1q (ds.drop (k+1)):=by
 rw[z70 ds k hk,z1q,if_pos h,if_neg];rintro⟨h1,h2⟩;exact h3 ⟨by simp at h1;omega,h2⟩
theorem z61(ds:List InstE)(k:Nat)(hk:ds.length≤k):z1q (ds.drop k)=0:=by
 rw[List.drop_of_length_le hk];rfl
theorem z4z:∀ (ds:List InstE),z1q ds=0↔∀k,k<ds.length→insF (ds.getD k z0K)=0∧(k+1<ds.length→outV (ds.getD k z0K).dec≠3)
 |[]=>by simp[z1q]
 |x::r=>by
  rw[z1q];constructor
  ·intro h k hk;by_cases h0:insF x=0
   ·rw[if_pos h0]at h;by_cases h1:0<r.length∧outV x.dec=3
    ·rw[if_pos h1]at h;exact absurd h (by decide)
    ·rw[if_neg h1]at h
     cases k with
     |zero=>exact⟨h0,fun hl h3=>h1 ⟨by simpa using hl,h3⟩⟩
     |succ k=>
      have:=(z4z r).1 h k (by simpa using hk);simp only[List.getD_cons_succ,List.length_cons];exact⟨this.1,fun hl=>this.2 (by omega)⟩
   ·rw[if_neg h0]at h;exact absurd h h0
  ·intro h;have h0:=h 0 (by simp);have e0:insF x=0:=h0.1;rw[if_pos e0,if_neg (fun e=>h0.2 (by simpa using e.1) e.2)];refine(z4z r).2 (fun k hk=>?_);have:=h (k+1) (by simpa using hk);simp only[List.getD_cons_succ,List.length_cons]at this;exact⟨this.1,fun hl=>this.2 (by omega)⟩
theorem z2b(ds:List InstE):ordF ds=0↔(1≤ds.length∧ds.length≤4)∧∀k,k<ds.length→insF (ds.getD k z0K)=0∧(k+1<ds.length→outV (ds.getD k z0K).dec≠3):=by
 unfold ordF;by_cases h:ds.length<1∨4<ds.length
 ·rw[if_pos h];constructor
  ·intro h;exact absurd h (by decide)
  ·rintro⟨h1,_⟩;omega
 ·rw[if_neg h,z4z];constructor
  ·intro h2;exact⟨by omega,h2⟩
  ·rintro⟨_,h2⟩;exact h2
theorem z2G{ds:List InstE}(h:ordF ds=0):∀x∈ds,insF x=0:=by
 intro x hx;obtain⟨k,hk,rfl⟩:=List.getElem_of_mem hx;have:=(((z2b ds).1 h).2 k hk).1;simpa[List.getD,hk]using this
theorem q0F(ds:List InstE):decN ds≤ds.length:=by
 unfold decN;split<;>omega
def stF(a b:TxnD):Bool:=(a.id==b.id)||((a.session==b.session) && (a.seq==b.seq))
def knw(acc:List TxnD)(t:TxnD):Bool:=acc.any (fun a=>stF a t)
def onc:List TxnD→List TxnD→List TxnD
 |acc,[]=>acc
 |acc,t::r=>onc (if knw acc t then acc else acc++[t]) r
def z3m(ds:List InstE):List TxnD:=ds.flatMap (fun x=>if outV x.dec=1 then x.batch else [])
def defL(ds:List InstE)(n:Nat):List TxnD:=onc [] (z3m (ds.take n))
theorem z1y:∀ (xs ys acc:List TxnD),onc acc (xs++ys)=onc (onc acc xs) ys
 |[],_,_=>rfl
 |t::r,ys,acc=>by
  simp only[List.cons_append,onc];exact z1y r ys _
theorem z71:∀ (xs acc:List TxnD),∀t∈onc acc xs,t∈acc∨t∈xs
 |[],acc,t,h=>Or.inl h
 |x::r,acc,t,h=>by
  simp only[onc]at h;rcases z71 r _ t h with h|h
  ·split at h
   ·exact Or.inl h
   ·rcases List.mem_append.1 h with h|h
    ·exact Or.inl h
    ·simp only[List.mem_singleton]at h;exact Or.inr (by rw[h];simp)
  ·exact Or.inr (List.mem_cons_of_mem _ h)
theorem z56(xs acc:List TxnD):(onc acc xs).length≤acc.length+xs.length:=by
 induction xs generalizing acc with
 |nil=>simp[onc]
 |cons t r ih=>
  simp only[onc,List.length_cons];have:=ih (if knw acc t then acc else acc++[t]);split at this
  ·rename_i h;rw[if_pos h];omega
  ·rename_i h;rw[if_neg h];simp only[List.length_append,List.length_singleton]at this;omega
theorem q3h(c v:Int)(w:World):(Instr.field 113 (.agg #[.int .i64 c,.int .i64 v]) 0).run Tryz.prog w=.ok (.int .i64 c) w:=by kernel_rfl
theorem q3i(c v:Int)(w:World):(Instr.field 113 (.agg #[.int .i64 c,.int .i64 v]) 1).run Tryz.prog w=.ok (.int .i64 v) w:=by kernel_rfl
theorem q34(x:InstE):(ocC x==0)=((insF x==0) && (outV x.dec !=3)):=by
 unfold ocC;by_cases h0:insF x=0
 ·rw[if_pos h0,h0];by_cases h3:outV x.dec=3
  ·rw[if_pos h3,h3];rfl
  ·rw[if_neg h3];have:(outV x.dec !=3)=true:=by simpa using h3
   rw[this];rfl
 ·rw[if_neg h0];have:(insF x==0)=false:=by simpa using h0
  rw[this];rfl
theorem z4A(ps:List InstQ)(k:Nat)(hk:k<ps.length):(ps.map InstQ.e).getD k z0K=InstQ.e ps[k]:=by simp[List.getD,hk]
theorem z5z(ps:List InstQ)(k:Nat)(hk:k<ps.length):InstQ.n ps[k]≤nmL InstQ.n ps:=z0W InstQ.n ps k hk
theorem z58{w:World}{a:Option Addr}{n cap:Nat}{ps:List InstQ}(h:instK.At w (.slice a n cap) ps)(k:Nat)(hk:k<ps.length):∃b off,a=some ⟨b,off,none⟩∧b<w.heap.size∧InstP w b (off+k*4) ps[k]:=by
 obtain⟨b,off,e,hb,hc,hrd⟩:=h.cell (by decide) k hk;have hc':∀j x,(instK.cells ps[k])[j]?=some x→w.cell? ⟨b,off+k*4+j,none⟩=some x:=hc;exact⟨b,off,e,hb,⟨hc' 0 (.bool ps[k].has) rfl,hc' 1 ps[k].vb rfl,hc' 2 ps[k].vr rfl,hc' 3 ps[k].vd rfl⟩,hrd⟩
theorem z2v(p:InstQ)(w:World)(hG:Rul w)(h:instK.rd w p)(hl:p.n≤1048576):
  Calls Tryz.prog 62 #[.agg #[.bool p.has,p.vb,p.vr,p.vd]] w fun e w'=>e=.returned (.bool (ocC p.e==0))∧Below w.heap.size w w':=by
 have y:=fun w hG h=>z2a p w hG h hl
 have z:=fun(w':World) hb=>instK.rd_below (w':=w') h hb
 generalize ocC p.e=D at*;generalize ocV p.e=E at*;obtain⟨has,vb,x,vr,d,vd,dec⟩:=p;obtain⟨ba,bk,rfl⟩:∃a c,vb=.slice a x.length c:=h.1.shape;obtain⟨va,vk,rfl⟩:∃a c,vr=.slice a d.length c:=h.2.1.shape;obtain⟨da,dk,rfl⟩:∃a c,vd=.slice a dec.length c:=h.2.2.shape;dsimp only at y z;have C:=q3h D E;have hB:Below w.heap.size w (w.alloc (.cells #[.bool has,.slice ba x.length bk,.slice va d.length vk,.slice da dec.length dk] 44)):=by go_grown
 go_enter Tryz.func62,Tryz.ntmps62
 go_wp2_with fail
 generalize w.alloc (.cells #[.bool has,.slice ba x.length bk,.slice va d.length vk,.slice da dec.length dk] 44)=W at*;refine(y W (hG.below hB) (z W hB)).mono ?_;rintro e w1 ⟨rfl,A⟩;replace hB:=hB.trans (A.mono hB.size)
 go_wp2
 go_ret;exact⟨rfl,hB⟩
theorem z1v(v:Value)(ps:List InstQ)(w:World)(hG:Rul w)(h:instK.At w v ps)(hl:(ps.length+nmL InstQ.n ps)≤1048576):
  Calls Tryz.prog 36 #[v] w fun e w'=>e=.returned (.int .i64 (ordF (ps.map InstQ.e)))∧Below w.heap.size w w':=by
 obtain⟨a,cap,rfl⟩:=h.shape;generalize hE:ordF (ps.map InstQ.e)=E;have HE:Hid (ordF (ps.map InstQ.e)=E):=hE;clear hE;by_cases z:ps.length<1∨4<ps.length
 ·have E1:Hid (E=2):=by
   have:=HE.out;unfold ordF at this;rw[if_pos (by simpa using z)]at this;exact this.symm
  clear HE;rcases z with z|z
  ·go_enter Tryz.func36,Tryz.ntmps36
   go_wp2
   go_ret;exact⟨by rw[E1.out];rfl,Below.refl _ _⟩
  ·have h1:¬ps.length<1:=by omega
   go_enter Tryz.func36,Tryz.ntmps36
   go_wp2
   go_ret;exact⟨by rw[E1.out];rfl,Below.refl _ _⟩
 ·have HG:Hid (E=z1q (ps.map InstQ.e)):=by
   have:=HE.out;unfold ordF at this;rw[if_neg (by simpa using z)]at this;exact this.symm
  have h1:¬ps.length<1:=by omega
  have h4:ps.length≤4:=by omega
  clear HE z;go_enter Tryz.func36,Tryz.ntmps36
  go_wp2
  go_loopw[16] (fun i wr=>∃k:Nat,k≤ps.length∧i=.int .i64 k∧Hid (E=z1q ((ps.map InstQ.e).drop k))∧Below w.heap.size w wr) (fun i _=>ps.length-(intOf i).toNat)
  case atStart=>exact⟨0,Nat.zero_le _,rfl,HG,Below.refl _ _⟩
  case round=>
   clear HG;obtain⟨k,hk,rfl,HG,hb⟩:=hrel;by_cases T:k<ps.length
   ·have J:=z4A ps k T;have D:Hid (insF (InstQ.e ps[k])≠0→E=insF (InstQ.e ps[k])):=fun hx=>by
     rw[HG.out,z60 _ k (by simpa using T) (by rw[J];exact hx),J]
    have I:Hid (k+1<ps.length→insF (InstQ.e ps[k])=0→outV (InstQ.e ps[k]).dec=3→E=8):=fun h1 h2 h3=>by
     rw[HG.out,z5x _ k (by simpa using h1) (by rw[J];exact h2) (by rw[J];exact h3)]
    have y:Hid (insF (InstQ.e ps[k])=0→¬(k+1<ps.length∧outV (InstQ.e ps[k]).dec=3)→E=z1q ((ps.map InstQ.e).drop (k+1))):=fun h2 h3=>by
     rw[HG.out,z5y _ k (by simpa using T) (by rw[J];exact h2) (by rw[J];simpa using h3)]
    have hn:InstQ.n ps[k]≤1048576:=by have:=z5z ps k T;omega
    have X:=z19 ps[k];have W:=z2v ps[k];have Y:=fun w hG h=>X w hG h hn
    have O:=fun w hG h=>W w hG h hn
    clear X W;have L:=q34 (InstQ.e ps[k]);clear J HG;obtain⟨b,ag,rfl,ai,hc,V⟩:=(h.below hb).cell (by decide) k T;have N:∀j x,(instK.cells ps[k])[j]?=some x→wr.cell? ⟨b,ag+k*4+j,none⟩=some x:=hc;have c0:=N 0 (.bool ps[k].has) rfl;have c1:=N 1 ps[k].vb rfl;have c2:=N 2 ps[k].vr rfl;have c3:=N 3 ps[k].vd rfl;rw[Nat.add_zero]at c0;clear hc N;have Z:=fun(w':World) hb=>instK.rd_below (w':=w') V hb
    generalize ocC (InstQ.e ps[k])=OC at*;generalize outV (InstQ.e ps[k]).dec=OV at*;generalize insF (InstQ.e ps[k])=C at*;generalize ps[k]=p at*;obtain⟨has,vb,A,vr,d,vd,dec⟩:=p;obtain⟨ba,bk,rfl⟩:∃a c,vb=.slice a A.length c:=V.1.shape;obtain⟨va,vk,rfl⟩:∃a c,vr=.slice a d.length c:=V.2.1.shape;obtain⟨da,dk,rfl⟩:∃a c,vd=.slice a dec.length c:=V.2.2.shape;dsimp only at c0 c1 c2 c3 Y O Z;have M:Below wr.heap.size wr (wr.alloc (.cells #[.bool has,.slice ba A.length bk,.slice va d.length vk,.slice da dec.length dk] 44)):=by go_grown
    have Bk:=Blk.new wr 44 #[.bool has,.slice ba A.length bk,.slice va d.length vk,.slice da dec.length dk];have aa:=Z _ M
    go_wp2_with fail
    generalize wr.alloc (.cells #[.bool has,.slice ba A.length bk,.slice va d.length vk,.slice da dec.length dk] 44)=W1 at*;refine(Y W1 (hG.below (hb.trans (M.mono hb.size))) aa).mono ?_;rintro e w2 ⟨rfl,U⟩;have ae:=instK.rd_below aa U;replace Bk:=Bk.below U;replace hb:=(hb.trans (M.mono hb.size)).trans (U.mono (hb.trans (M.mono hb.size)).size);clear M U aa Y c0 c1 c2 c3 Z;by_cases hC:C=0
    ·subst hC;by_cases ad:k+1<ps.length
     ·have af:(k:Int)<(ps.length:Int)-1:=by omega
      obtain⟨p0,p1,p2,p3⟩:=Bk.cel4
      go_wp2_with fail
      refine(O w2 (hG.below hb) ae).mono ?_;rintro e w3 ⟨rfl,ab⟩;replace hb:=hb.trans (ab.mono hb.size);clear ab O p0 p1 p2 p3 Bk ae;by_cases hO:OV=3
      ·have e1:(OC==0)=false:=by rw[L,hO];rfl
       have E1:Hid (E=8):=I.out ad (by simp) hO;clear L I y D
       go_wp2
       go_ret;exact⟨by rw[E1.out];rfl,hb⟩
      ·have e1:(OC==0)=true:=by
        rw[L];have:(OV !=3)=true:=by simpa using hO
        rw[this];rfl
       have E1:Hid (E=z1q ((ps.map InstQ.e).drop (k+1))):=y.out (by simp) (fun h=>hO h.2);clear L I y D
       go_wp2
       go_roundw
       case rel=>exact⟨k+1,by omega,by go_num,E1.out,hb⟩
       case measure=>simp[intOf];omega
     ·have af:¬(k:Int)<(ps.length:Int)-1:=by omega
      have E1:Hid (E=z1q ((ps.map InstQ.e).drop (k+1))):=y.out (by simp) (fun h=>ad h.1);clear L I y D O
      go_wp2
      go_roundw
      case rel=>exact⟨k+1,by omega,by go_num,E1.out,hb⟩
      case measure=>simp[intOf];omega
    ·have ah:(C !=0)=true:=by simpa using hC
     have E1:Hid (E=C):=D.out hC;clear L I y D O
     go_wp2
     go_ret;exact⟨by rw[E1.out];rfl,hb⟩
   ·have E1:Hid (E=0):=by rw[HG.out];exact z61 _ k (by simp;omega)
    clear HG
    go_wp2
    go_ret;exact⟨by rw[E1.out];rfl,hb⟩
theorem z4B(v:Value)(ps:List InstQ)(w:World)(h:instK.At w v ps)(hl:(ps.length+nmL InstQ.n ps)≤1048576):
  Calls Tryz.prog 27 #[v] w fun e w'=>e=.returned (.int .i64 (ordF (ps.map InstQ.e)))∧Below w.heap.size w w':=by
 obtain⟨a,cap,rfl⟩:=h.shape;generalize hE:ordF (ps.map InstQ.e)=E;have HE:Hid (ordF (ps.map InstQ.e)=E):=hE;clear hE;by_cases x:ps.length<1∨4<ps.length
 ·have E1:Hid (E=2):=by
   have:=HE.out;unfold ordF at this;rw[if_pos (by simpa using x)]at this;exact this.symm
  clear HE;rcases x with x|x
  ·go_enter Tryz.func27,Tryz.ntmps27
   go_wp2
   go_ret;exact⟨by rw[E1.out];rfl,Below.refl _ _⟩
  ·have h1:¬ps.length<1:=by omega
   go_enter Tryz.func27,Tryz.ntmps27
   go_wp2
   go_ret;exact⟨by rw[E1.out];rfl,Below.refl _ _⟩
 ·have HG:Hid (E=z1q (ps.map InstQ.e)):=by
   have:=HE.out;unfold ordF at this;rw[if_neg (by simpa using x)]at this;exact this.symm
  have h1:¬ps.length<1:=by omega
  have h4:ps.length≤4:=by omega
  clear HE x;go_enter Tryz.func27,Tryz.ntmps27
  go_wp2
  go_loopw[3] (fun i wr=>∃k:Nat,k≤ps.length∧i=.int .i64 k∧Hid (E=z1q ((ps.map InstQ.e).drop k))∧Below w.heap.size w wr) (fun i _=>ps.length-(intOf i).toNat)
  case atStart=>exact⟨0,Nat.zero_le _,rfl,HG,Below.refl _ _⟩
  case round=>
   clear HG;obtain⟨k,hk,rfl,HG,hb⟩:=hrel;by_cases A:k<ps.length
   ·have z:=z4A ps k A;have y:Hid (insF (InstQ.e ps[k])≠0→E=insF (InstQ.e ps[k])):=fun hx=>by
     rw[HG.out,z60 _ k (by simpa using A) (by rw[z];exact hx),z]
    have d:Hid (k+1<ps.length→insF (InstQ.e ps[k])=0→outV (InstQ.e ps[k]).dec=3→E=8):=fun h1 h2 h3=>by
     rw[HG.out,z5x _ k (by simpa using h1) (by rw[z];exact h2) (by rw[z];exact h3)]
    have c:Hid (insF (InstQ.e ps[k])=0→¬(k+1<ps.length∧outV (InstQ.e ps[k]).dec=3)→E=z1q ((ps.map InstQ.e).drop (k+1))):=fun h2 h3=>by
     rw[HG.out,z5y _ k (by simpa using A) (by rw[z];exact h2) (by rw[z];simpa using h3)]
    obtain⟨b,T,rfl,X,hP⟩:=z58 (h.below hb) k A;have hn:InstQ.n ps[k]≤1048576:=by have:=z5z ps k A;omega
    have J:=z7W b (T+k*4) ps[k];have I:=z1L b (T+k*4) ps[k];have M:=fun w hP=>J w hP hn
    have D:=fun w hP=>I w hP hn
    clear J I;have O:outV (InstQ.e ps[k]).dec=outV ps[k].dec:=rfl;rw[O]at d c;clear z HG O;generalize outV ps[k].dec=OV at*;generalize insF (InstQ.e ps[k])=C at*;generalize ps[k]=p at*
    go_wp2_with fail
    refine(M wr hP).mono ?_;rintro e w2 ⟨rfl,L⟩;replace hP:=hP.below L;replace hb:=hb.trans (L.mono hb.size);clear L M;by_cases hC:C=0
    ·subst hC;by_cases N:k+1<ps.length
     ·have V:(k:Int)<(ps.length:Int)-1:=by omega
      go_wp2_with fail
      refine(D w2 hP).mono ?_;rintro e w3 ⟨rfl,hw⟩;replace hw:=hw.symm;subst hw;clear D hP;by_cases hO:OV=3
      ·have E1:Hid (E=8):=d.out N (by simp) hO;have U:(OV==3)=true:=by simpa using hO
       clear d c y hO
       go_wp2
       go_ret;exact⟨by rw[E1.out];rfl,hb⟩
      ·have U:(OV==3)=false:=by simpa using hO
       have E1:Hid (E=z1q ((ps.map InstQ.e).drop (k+1))):=c.out (by simp) (fun h=>hO h.2);clear d c y hO
       go_wp2
       go_roundw
       case rel=>exact⟨k+1,by omega,by go_num,E1.out,hb⟩
       case measure=>simp[intOf];omega
     ·have V:¬(k:Int)<(ps.length:Int)-1:=by omega
      have E1:Hid (E=z1q ((ps.map InstQ.e).drop (k+1))):=c.out (by simp) (fun h=>N h.1);clear d c y D
      go_wp2
      go_roundw
      case rel=>exact⟨k+1,by omega,by go_num,E1.out,hb⟩
      case measure=>simp[intOf];omega
    ·have W:(C !=0)=true:=by simpa using hC
     have E1:Hid (E=C):=y.out hC;clear d c y D
     go_wp2
     go_ret;exact⟨by rw[E1.out];rfl,hb⟩
   ·have E1:Hid (E=0):=by rw[HG.out];exact z61 _ k (by simp;omega)
    clear HG
    go_wp2
    go_ret;exact⟨by rw[E1.out];rfl,hb⟩
def diV(ds:List InstE):Int:=if ordF ds=0 then(decN ds:Int)else 0
theorem z59(ps:List InstQ)(hlt:ps.length-1<ps.length):q3g (ps.map InstQ.e)=InstQ.e ps[ps.length-1]:=by
 unfold q3g;rw[List.length_map];exact z4A ps _ hlt
theorem z1a(v:Value)(ps:List InstQ)(w:World)(hG:Rul w)(h:instK.At w v ps)(hl:(ps.length+nmL InstQ.n ps)≤1048576):
  Calls Tryz.prog 63 #[v] w fun e w'=>e=.returned (.agg #[.int .i64 (ordF (ps.map InstQ.e)),.int .i64 (diV (ps.map InstQ.e))])∧Below w.heap.size w w':=by
 have Y:=fun w hG h=>z1v v ps w hG h hl
 have HO:Hid (ordF (ps.map InstQ.e)=0→1≤ps.length∧ps.length≤4∧∀q∈ps,insF (InstQ.e q)=0):=fun h0=>by
  have:=((z2b _).1 h0).1;rw[List.length_map]at this;exact⟨this.1,this.2,fun q hq=>z2G h0 _ (List.mem_map.2 ⟨q,hq,rfl⟩)⟩
 have HV:Hid ((ordF (ps.map InstQ.e)=0→diV (ps.map InstQ.e)=(decN (ps.map InstQ.e):Int))∧(ordF (ps.map InstQ.e)≠0→diV (ps.map InstQ.e)=0)):=⟨fun h0=>if_pos h0,fun h0=>if_neg h0⟩
 obtain⟨a,cap,rfl⟩:=h.shape;generalize ordF (ps.map InstQ.e)=C at*;generalize diV (ps.map InstQ.e)=V at*;have hB:Below w.heap.size w (w.alloc (.cells #[.int .i64 0,.int .i64 0] 113)):=by go_grown
 have Rb:=Blk.new w 113 #[.int .i64 0,.int .i64 0];go_enter Tryz.func63,Tryz.ntmps63
 go_wp2_with fail
 generalize w.alloc (.cells #[.int .i64 0,.int .i64 0] 113)=W at*;refine(Y W (hG.below hB) (h.below hB)).mono ?_;rintro e w1 ⟨rfl,hb⟩;replace hB:=hB.trans (hb.mono hB.size);replace Rb:=Rb.below hb;clear hb Y;by_cases hC:C=0
 ·obtain⟨h1,h4,X⟩:=HO.out hC;have hv:=HV.out.1 hC;subst hC;have y:ps.length-1<ps.length:=by omega
  have M:=X _ (List.getElem_mem y);have z:=q34 (InstQ.e ps[ps.length-1]);have D:Hid (outV (InstQ.e ps[ps.length-1]).dec=3→V=(ps.length:Int)-1):=fun h3=>by
   rw[hv];unfold decN;rw[z59 ps y,if_pos h3,List.length_map];omega
  have E:Hid (outV (InstQ.e ps[ps.length-1]).dec≠3→V=(ps.length:Int)):=fun h3=>by
   rw[hv];unfold decN;rw[z59 ps y,if_neg h3,List.length_map]
  rw[M]at z;have hn:InstQ.n ps[ps.length-1]≤1048576:=by have:=z5z ps _ y;omega
  have L:=z2v ps[ps.length-1];have T:=fun w hG h=>L w hG h hn
  clear L X M hv HV HO hn;obtain⟨b,aa,rfl,ad,hc,I⟩:=(h.below hB).cell (by decide) (ps.length-1) y;have d:∀j x,(instK.cells ps[ps.length-1])[j]?=some x→w1.cell? ⟨b,aa+(ps.length-1)*4+j,none⟩=some x:=hc;have c0:=d 0 (.bool ps[ps.length-1].has) rfl;have c1:=d 1 ps[ps.length-1].vb rfl;have c2:=d 2 ps[ps.length-1].vr rfl;have c3:=d 3 ps[ps.length-1].vd rfl;rw[Nat.add_zero]at c0;clear hc d;have U:((ps.length:Int)-1).toNat=ps.length-1:=by omega
  generalize ocC (InstQ.e ps[ps.length-1])=OC at*;generalize outV (InstQ.e ps[ps.length-1]).dec=OV at*;generalize ps[ps.length-1]=p at*;generalize hm:ps.length-1=m at*;have Z:(ps.length:Int)-1=(m:Int):=by omega
  have A:ps.length=m+1:=by omega
  rw[Z]at D;rw[A]at h4 E⊢;rw[A]at*;clear hm U Z A;obtain⟨has,vb,N,vr,J,vd,dec⟩:=p;obtain⟨ba,bk,rfl⟩:∃a c,vb=.slice a N.length c:=I.1.shape;obtain⟨va,vk,rfl⟩:∃a c,vr=.slice a J.length c:=I.2.1.shape;obtain⟨da,dk,rfl⟩:∃a c,vd=.slice a dec.length c:=I.2.2.shape;dsimp only at c0 c1 c2 c3 T;obtain⟨q0,q1⟩:=Rb.cel2;obtain⟨f0,f1⟩:=Rb.frz2;clear q0 q1 f0 f1
  go_wp2_with fail
  refine(T w1 (hG.below hB) I).mono ?_;rintro e w3 ⟨rfl,O⟩;replace hB:=hB.trans (O.mono hB.size);replace Rb:=Rb.below O;obtain⟨q0,q1⟩:=Rb.cel2;obtain⟨f0,f1⟩:=Rb.frz2;clear O T c0 c1 c2 c3;by_cases hO:OV=3
  ·have e1:(OC==0)=false:=by rw[z,hO];rfl
   have E1:Hid (V=(m:Int)):=D.out hO;clear z D E
   go_wp2
   exact bodyPost_ret (v:=.agg #[.int .i64 0,.int .i64 m]) (by simp[results,Tryz.results63,go_sem,q0,q1]) rfl ⟨by rw[E1.out],(hB.setCell (p:=⟨w.heap.size,0,none⟩) (Nat.le_refl _) _).setCell (p:=⟨w.heap.size,1,none⟩) (Nat.le_refl _) _⟩
  ·have e1:(OC==0)=true:=by
    rw[z];have:(OV !=3)=true:=by simpa using hO
    rw[this];rfl
   have E1:Hid (V=(m:Int)+1):=by have:=E.out hO;exact this.trans (by omega)
   clear z D E
   go_wp2
   exact bodyPost_ret (v:=.agg #[.int .i64 0,.int .i64 ((m:Int)+1)]) (by simp[results,Tryz.results63,go_sem,q0,q1]) rfl ⟨by rw[E1.out],(hB.setCell (p:=⟨w.heap.size,0,none⟩) (Nat.le_refl _) _).setCell (p:=⟨w.heap.size,1,none⟩) (Nat.le_refl _) _⟩
 ·have E1:Hid (V=0):=HV.out.2 hC;have ab:(C !=0)=true:=by simpa using hC
  obtain⟨q0,q1⟩:=Rb.cel2;obtain⟨f0,f1⟩:=Rb.frz2;clear HV HO
  go_wp2
  exact bodyPost_ret (v:=.agg #[.int .i64 C,.int .i64 0]) (by simp[results,Tryz.results63,go_sem,q0,q1]) rfl ⟨by rw[E1.out],(hB.setCell (p:=⟨w.heap.size,0,none⟩) (Nat.le_refl _) _).setCell (p:=⟨w.heap.size,1,none⟩) (Nat.le_refl _) _⟩
theorem z6a(v:Value)(ps:List InstQ)(w:World)(h:instK.At w v ps)(hl:(ps.length+nmL InstQ.n ps)≤1048576)(h1:1≤ps.length)(h4:ps.length≤4):
  Calls Tryz.prog 15 #[v] w fun e w'=>e=.returned (.int .i64 (decN (ps.map InstQ.e)))∧Below w.heap.size w w':=by
 obtain⟨a,cap,rfl⟩:=h.shape;have c:ps.length-1<ps.length:=by omega
 obtain⟨V,hv⟩:∃V:Int,(decN (ps.map InstQ.e):Int)=V:=⟨_,rfl⟩
 have d:Hid (outV ps[ps.length-1].dec=3→V=(ps.length:Int)-1):=fun h3=>by
  rw[←hv];unfold decN;rw[z59 ps c,if_pos (show outV (InstQ.e ps[ps.length-1]).dec=3 from h3),List.length_map];omega
 have x:Hid (outV ps[ps.length-1].dec≠3→V=(ps.length:Int)):=fun h3=>by
  rw[←hv];unfold decN;rw[z59 ps c,if_neg (show¬outV (InstQ.e ps[ps.length-1]).dec=3 from h3),List.length_map]
 rw[hv];have hn:InstQ.n ps[ps.length-1]≤1048576:=by have:=z5z ps _ c;omega
 obtain⟨b,D,rfl,E,hP⟩:=z58 h (ps.length-1) c;have y:=z1L b (D+(ps.length-1)*4) ps[ps.length-1];have A:=y w hP hn;clear y hn hv h;generalize outV ps[ps.length-1].dec=OV at*;generalize ps[ps.length-1]=p at*;generalize hm:ps.length-1=m at*;have C:(ps.length:Int)-1=(m:Int):=by omega
 have z:ps.length=m+1:=by omega
 rw[C]at d;rw[z]at h4 x⊢;clear hm C z hl h1 c;go_enter Tryz.func15,Tryz.ntmps15
 go_wp2_with fail
 refine A.mono ?_;rintro e w3 ⟨rfl,hw⟩;replace hw:=hw.symm;subst hw;clear A hP;by_cases hO:OV=3
 ·have e1:(OV==3)=true:=by simpa using hO
  have E1:Hid (V=(m:Int)):=d.out hO;clear d x hO
  go_wp2
  go_ret;exact⟨by rw[E1.out];rfl,Below.refl _ _⟩
 ·have e1:(OV==3)=false:=by simpa using hO
  have E1:Hid (V=(m:Int)+1):=by have:=x.out hO;exact this.trans (by omega)
  clear d x hO
  go_wp2
  go_ret;exact⟨by rw[E1.out];rfl,Below.refl _ _⟩
theorem z2Z(v:Value)(ps:List TxnQ)(w:World)(h:txnK.At w v ps)(av:∀p∈ps,0<p.acts.length)(hl:ps.length+nmL TxnQ.n ps≤1048576):
  Calls Tryz.prog 84 #[v] w fun e w'=>∃v' qs,e=.returned v'∧qs.map TxnQ.e=ps.map TxnQ.e∧txnK.Own w' v' qs∧(txnK.fp v' qs).Nodup∧(∀k∈txnK.fp v' qs,w.heap.size≤k)∧Below w.heap.size w w':=by
 obtain⟨a,cap,rfl⟩:=h.shape;obtain⟨i0,hi,az,aA,aB⟩:=info_parts z09;have ho:=World.ownsRow_lit (e:=82) (size:=4) w #[] 0 (Nat.le_refl _) (by decide) rfl;have ag:txnK.Own (w.alloc (.cells #[] 82)) (.slice (some ⟨w.heap.size,0,none⟩) 0 0) ([]:List TxnQ):=⟨(z0y ho).1,fun p hp=>by simp at hp⟩
 have ai:Below w.heap.size w (w.alloc (.cells #[] 82)):=by go_grown
 have W:Hid ((txnK.fp (.slice (some ⟨w.heap.size,0,none⟩) 0 0) ([]:List TxnQ)).Nodup∧∀k∈txnK.fp (.slice (some ⟨w.heap.size,0,none⟩) 0 0) ([]:List TxnQ),w.heap.size≤k):=by
  refine⟨?_,?_⟩
  ·simp[Kind.fp,blk,Value.ownBlock]
  ·simp[Kind.fp,blk,Value.ownBlock]
 clear ho;go_enter Tryz.func84,Tryz.ntmps84
 go_wp2
 go_loopw[3,4] (fun v j wr=>∃ (k:Nat) (qs:List TxnQ),k≤ps.length∧j=.int .i64 k∧Hid (qs.map TxnQ.e=(ps.take k).map TxnQ.e)∧txnK.Own wr v qs∧Hid ((txnK.fp v qs).Nodup∧∀k∈txnK.fp v qs,w.heap.size≤k)∧Below w.heap.size w wr) (fun _ j _=>ps.length-(intOf j).toNat)
 case atStart=>exact⟨0,[],Nat.zero_le _,rfl,(rfl:_=_),ag,W,ai⟩
 case round=>
  clear W ag ai;obtain⟨k,qs,hk,rfl,HE,hO,HN,hb⟩:=hrel;obtain⟨sa,sc,rfl⟩:=hO.shape;have Y:Hid (qs.length=k):=by
   have:=congrArg List.length HE.out;rw[List.length_map,List.length_map,List.length_take]at this;show qs.length=k;omega
  by_cases L:k<ps.length
  ·obtain⟨b,aC,rfl,aE,hc,d⟩:=(h.below hb).cell (by decide) k L;have A:∀j x,(txnK.cells ps[k])[j]?=some x→wr.cell? ⟨b,aC+k*4+j,none⟩=some x:=hc;have c0:=A 0 (.int .i64 ps[k].i) rfl;have c1:=A 1 (.int .i64 ps[k].s) rfl;have c2:=A 2 (.int .i64 ps[k].q) rfl;have c3:=A 3 (ps[k].va) rfl;have U:=z0W TxnQ.n ps k L;have D:=av _ (List.getElem_mem L);have X:Hid (∀p':TxnQ,p'.e=TxnQ.e ps[k]→(qs++[p']).map TxnQ.e=(ps.take (k+1)).map TxnQ.e):=fun p' aw=>by
    rw[List.take_succ_eq_append_getElem L,List.map_append,List.map_append,HE.out,List.map_singleton,List.map_singleton,aw]
   clear hc A;generalize ps[k]=p at*;obtain⟨i,s,q,va,c⟩:=p;replace d:actK.At wr va c:=d;replace U:c.length≤nmL TxnQ.n ps:=U;obtain⟨aa,ac,rfl⟩:=d.shape;dsimp only at c0 c1 c2 c3 D;obtain⟨ab,ao,aq⟩:∃ab ao,aa=some ⟨ab,ao,none⟩:=by
    rcases(z0O d).2 with h0|⟨ab,ao,e,_⟩
    ·have:=z0r c;rw[h0]at this;simp at this;omega
    ·exact⟨ab,ao,e⟩
   subst aq;have ae:=z5t i s q ab ao ac c _ (z0O d).2 D (by omega);rw[Nat.add_zero]at c0;clear HE
   go_wp2_with fail
   clear c0 c1 c2 c3;have aD:w.heap.size≤wr.heap.size:=hb.size;refine ae.mono ?_;rintro e w2 ⟨a2,c2,rfl,ak,I⟩;have V:=hO.lt;replace hO:=hO.below I;replace hb:=hb.trans (I.mono hb.size);obtain⟨o2,af⟩:=z0y ak;have hP:txnK.own w2 ⟨i,s,q,.slice a2 c.length c2,c⟩:=⟨o2,fun _ _=>trivial⟩
   have y:∀x∈txnK.foot ⟨i,s,q,.slice a2 c.length c2,c⟩,wr.heap.size≤x:=fun x hx=>af x (by rw[←z05 (.slice a2 c.length c2) c];exact hx)
   have ad:(txnK.foot ⟨i,s,q,.slice a2 c.length c2,c⟩).Nodup:=by
    show(actK.fp _ _).Nodup;rw[z05];exact z0w _
   have z:Below w2.heap.size w2 (w2.alloc (.cells #[.int .i64 i,.int .i64 s,.int .i64 q,.slice a2 c.length c2] 82)):=by go_grown
   have O:=hO.below z;have Z:=txnK.own_out (F:=[]) hP (Out.of_below z) (fun _ _=>by simp);have J:=hb.trans (z.mono hb.size);clear ae ak hO hP af;have E:=O.1
   go_wp2_with (at_builtin;refine wpList_append_own_at _ rfl _ _ 40 rfl 0 82 i0 (.agg #[.int .i64 0,.int .i64 0,.int .i64 0,.slice none 0 0]) 4 48 Tryz.underlying40 hi az aA aB rfl (by decide) _ qs.length (txnK.row qs) rfl E ⟨w2.heap.size,0,none⟩ 1 1 [.int .i64 i,.int .i64 s,.int .i64 q,.slice a2 c.length c2] rfl rfl ?c1 ?c2 ?c3 ?c4 ?c5 ?_)
   all_goals try(case c1=>intro j u hj;match j,hj with|0,hj=>simp at hj;subst hj;simp[Addr.add]|1,hj=>simp at hj;subst hj;simp[Addr.add]|2,hj=>simp at hj;subst hj;simp[Addr.add]|3,hj=>simp at hj;subst hj;simp[Addr.add])
   all_goals try(case c2=>intro u hu;simp at hu;rcases hu with rfl|rfl|rfl|rfl<;>rfl)
   all_goals try(case c3=>have:=Y.out;unfold maxLen;omega)
   all_goals try(case c4=>have:=Y.out;omega)
   all_goals try(case c5=>first|omega|simp)
   intro v' w5 N C aj T;clear aj E;rw[show w2.heap.size+1=(w2.alloc (.cells #[.int .i64 i,.int .i64 s,.int .i64 q,.slice a2 c.length c2] 82)).heap.size from(World.size_alloc _ _).symm]at T;generalize ax:w2.alloc (.cells #[.int .i64 i,.int .i64 s,.int .i64 q,.slice a2 c.length c2] 82)=WA at*;clear ax;have aF:wr.heap.size≤WA.heap.size:=by have:=I.size;have:=z.size;omega
   obtain⟨ap,ah,M,al⟩:=O.snoc HN.out.1 HN.out.2 Z ad (fun x hx ay=>by have:=V x ay;have:=y x hx;omega) (fun x hx=>by have:=y x hx;omega) J.size N C T;have ar:Below w.heap.size w w5:=Out.keep J al J.size (fun x hx=>HN.out.2 x (by simp only[Kind.fp,List.mem_append];exact Or.inl hx));have am:Hid ((qs++[(⟨i,s,q,.slice a2 c.length c2,c⟩:TxnQ)]).map TxnQ.e=(ps.take (k+1)).map TxnQ.e):=X.out _ rfl;have an:Hid ((txnK.fp v' (qs++[(⟨i,s,q,.slice a2 c.length c2,c⟩:TxnQ)])).Nodup∧∀k∈txnK.fp v' (qs++[(⟨i,s,q,.slice a2 c.length c2,c⟩:TxnQ)]),w.heap.size≤k):=⟨ah,M⟩
   clear X HN V y ad Z O J N C T al ah M d hb z I U D
   go_wp2
   go_roundw
   case rel=>exact⟨k+1,_,by omega,by go_num,am,ap,an,ar⟩
   case measure=>simp[intOf];omega
  ·have au:k=ps.length:=by omega
   subst au;have hE:=HE.out;rw[List.take_length]at hE;clear HE
   go_wp2
   go_ret;exact⟨_,qs,rfl,hE,hO,HN.out.1,HN.out.2,hb⟩
theorem q35{q p:InstQ}(h:q.e=p.e):q.n=p.n:=by
 simp only[InstQ.e,InstE.mk.injEq]at h;obtain⟨_,h1,h2,h3⟩:=h;have t1:q.batch.length=p.batch.length:=by simpa using congrArg List.length h1
 have t2:nmL TxnQ.n q.batch=nmL TxnQ.n p.batch:=by
  have:=congrArg (fun l=>nmL (fun d:TxnD=>d.acts.length) l) h1;simp only[nmL,List.map_map]at this;exact this
 have t3:q.rounds.length=p.rounds.length:=by simpa using congrArg List.length h2
 have t4:nmL RoundQ.n q.rounds=nmL RoundQ.n p.rounds:=by
  have:=congrArg (fun l=>nmL (fun d:RoundE=>d.rep.length+d.pro.length) l) h2;simp only[nmL,List.map_map]at this;exact this
 unfold InstQ.n;rw[t1,t2,t3,t4,h3]
theorem q1Y(i s q:Int):txnF i s q []≠0:=by
 unfold txnF;split<;>simp
theorem q3j{bt:List TxnQ}(h:batF (bt.map TxnQ.e)=0):∀p∈bt,0<p.acts.length:=by
 intro p hp;have ha:allF (bt.map TxnQ.e)=0:=by
  unfold batF at h;split at h
  ·omega
  ·split at h
   ·assumption
   ·exact h
 have hz:∀ (ds:List TxnD),allF ds=0→∀d∈ds,d.F=0:=by
  intro ds;induction ds with
  |nil=>intro _ d hd;simp at hd
  |cons x r ih=>
   intro h d hd;simp only[allF]at h;by_cases hx:x.F=0
   ·rw[if_pos hx]at h;rcases List.mem_cons.1 hd with rfl|hd
    ·exact hx
    ·exact ih h d hd
   ·rw[if_neg hx]at h;exact absurd h hx
 have hf:=hz _ ha p.e (List.mem_map.2 ⟨p,hp,rfl⟩);show 0<p.acts.length;have hf':txnF p.i p.s p.q p.acts=0:=hf;rcases Nat.eq_zero_or_pos p.acts.length with h0|h0
 ·exfalso
  have:p.acts=[]:=List.eq_nil_of_length_eq_zero h0;rw[this]at hf';exact q1Y _ _ _ hf'
 ·exact h0
theorem q3k{p:InstQ}(h:insF p.e=0):(∀t∈p.batch,0<t.acts.length)∧(∀r∈p.rounds,0<r.rep.length∧0<r.pro.length)∧0<p.dec.length:=by
 obtain⟨h1,h2,h3,_,h5⟩:=q0x h;obtain⟨h6,_⟩:=z1K h;obtain⟨_,_,_,h7,h8⟩:=z1c h6;refine⟨?_,fun r hr=>?_,by have:p.dec.length=3:=h3;omega⟩
 ·cases hh:p.has with
  |true=>exact q3j (h8 hh)
  |false=>
   have:p.batch.map TxnQ.e=[]:=h7 hh;intro t ht;have:p.batch=[]:=List.map_eq_nil_iff.1 this;rw[this]at ht;simp at ht
 ·have:=h1 (RoundQ.e r) (List.mem_map.2 ⟨r,hr,rfl⟩);have h9:r.rep.length=3∧r.pro.length=3:=this;omega
def z3K:TxnD:=⟨0,0,0,[]⟩
theorem z6b(xs:List TxnQ)(k:Nat)(hk:k<xs.length):(xs.map TxnQ.e).getD k z3K=TxnQ.e xs[k]:=by simp[List.getD,hk]
theorem q0G{acc:List TxnD}{t:TxnD}(k:Nat)(hk:k<acc.length)(h:stF (acc.getD k z3K) t=true):knw acc t=true:=by
 unfold knw;rw[List.any_eq_true];exact⟨acc[k],List.getElem_mem hk,by simpa[List.getD,hk]using h⟩
theorem q2v{acc:List TxnD}{t:TxnD}(h:∀j,j<acc.length→stF (acc.getD j z3K) t=false):knw acc t=false:=by
 cases hc:knw acc t with
 |false=>rfl
 |true=>
  unfold knw at hc;rw[List.any_eq_true]at hc;obtain⟨x,hx,hs⟩:=hc;obtain⟨j,hj,rfl⟩:=List.getElem_of_mem hx;have:=h j hj;have e:acc.getD j z3K=acc[j]:=by simp[List.getD,hj]
  rw[e,hs]at this;exact absurd this (by decide)
theorem z4C(v:Value)(acc:List TxnQ)(b o:Nat)(x:TxnD)(va:Value)(w:World)(h:txnK.At w v acc)(hB:Box4 w b o (.int .i64 x.id) (.int .i64 x.session) (.int .i64 x.seq) va)(hl:acc.length≤1048576):
  Calls Tryz.prog 33 #[v,.pointer (some ⟨b,o,none⟩)] w fun e w'=>e=.returned (.bool (knw (acc.map TxnQ.e) x))∧Below w.heap.size w w':=by
 obtain⟨a,cap,rfl⟩:=h.shape;obtain⟨d0,d1,d2,d3⟩:=hB;generalize hE:knw (acc.map TxnQ.e) x=E;have HE:Hid (knw (acc.map TxnQ.e) x=E):=hE;clear hE;obtain⟨xi,xs,xq,xa⟩:=x;dsimp only at d0 d1 d2 d3;go_enter Tryz.func33,Tryz.ntmps33
 go_wp2
 go_loopw[5] (fun j wr=>∃k m:Nat,k≤acc.length∧j=.int .i64 k∧wr=w.drewN m∧Hid (∀j,j<k→stF ((acc.map TxnQ.e).getD j z3K) ⟨xi,xs,xq,xa⟩=false)) (fun j _=>acc.length-(intOf j).toNat)
 case atStart=>exact⟨0,0,Nat.zero_le _,rfl,rfl,fun j hj=>absurd hj (Nat.not_lt_zero _)⟩
 case round=>
  obtain⟨k,m,hk,rfl,rfl,HA⟩:=hrel;by_cases d:k<acc.length
  ·obtain⟨b',D,rfl,J,hc,C⟩:=h.cell (by decide) k d;have c:∀j x,(txnK.cells acc[k])[j]?=some x→w.cell? ⟨b',D+k*4+j,none⟩=some x:=hc;have c0:=c 0 (.int .i64 acc[k].i) rfl;have c1:=c 1 (.int .i64 acc[k].s) rfl;have c2:=c 2 (.int .i64 acc[k].q) rfl;rw[Nat.add_zero]at c0;have HY:Hid (stF (TxnQ.e acc[k]) ⟨xi,xs,xq,xa⟩=true→E=true):=fun hx=>by rw[←HE.out];exact q0G k (by simpa using d) (by rw[z6b acc k d];exact hx)
   have HN:Hid (stF (TxnQ.e acc[k]) ⟨xi,xs,xq,xa⟩=false→∀j,j<k+1→stF ((acc.map TxnQ.e).getD j z3K) ⟨xi,xs,xq,xa⟩=false):=fun hx j hj=>by
    by_cases A:j=k
    ·subst A;rw[z6b acc j d];exact hx
    ·exact HA.out j (by omega)
   clear HA hc c C;generalize acc[k]=p at*;obtain⟨i,s,q,L,I⟩:=p;dsimp only[TxnQ.e,stF]at c0 c1 c2 HY HN;have z:(k:Int)<(acc.length:Int):=by omega
   cases h1:(i==xi)
   ·cases h2:(s==xs)
    ·have HR:=HN.out (by rw[h1,h2];rfl);have y:Hid _:=HR;clear HY HN HR
     go_wp2
     go_quiet (fail)
     go_wp2
     go_roundw
     case rel=>exact⟨k+1,_,by omega,by go_num,rfl,y.out⟩
     case measure=>simp[intOf];omega
    ·cases h3:(q==xq)
     ·have HR:=HN.out (by rw[h1,h2,h3];rfl);have y:Hid _:=HR;clear HY HN HR
      go_wp2
      go_quiet (fail)
      go_wp2
      go_roundw
      case rel=>exact⟨k+1,_,by omega,by go_num,rfl,y.out⟩
      case measure=>simp[intOf];omega
     ·have E1:Hid (E=true):=HY.out (by rw[h1,h2,h3];rfl);clear HY HN
      go_wp2
      go_quiet (fail)
      go_wp2
      go_ret;rw[E1.out];exact⟨rfl,⟨rfl,rfl,rfl,Nat.le_refl _,fun _ _=>rfl⟩⟩
   ·have E1:Hid (E=true):=HY.out (by rw[h1];rfl);clear HY HN
    go_wp2
    go_quiet (fail)
    go_wp2
    go_ret;rw[E1.out];exact⟨rfl,⟨rfl,rfl,rfl,Nat.le_refl _,fun _ _=>rfl⟩⟩
  ·have E1:Hid (E=false):=by rw[←HE.out];exact q2v (fun j hj=>HA.out j (by simp at hj;omega))
   have z:¬(k:Int)<(acc.length:Int):=by omega
   clear HA HE
   go_wp2
   go_ret;rw[E1.out];exact⟨rfl,⟨rfl,rfl,rfl,Nat.le_refl _,fun _ _=>rfl⟩⟩
theorem z4D(ds:List InstE)(k:Nat)(hk:k<ds.length):z3m (ds.take (k+1))=z3m (ds.take k)++(if outV (ds.getD k z0K).dec=1 then(ds.getD k z0K).batch else []):=by
 rw[List.take_succ_eq_append_getElem hk];unfold z3m;rw[List.flatMap_append];have e:ds.getD k z0K=ds[k]:=by simp[List.getD,hk]
 simp only[List.flatMap_cons,List.flatMap_nil,List.append_nil,e]
theorem z8w(xs acc:List TxnD)(t:TxnD):onc acc (xs++[t])=if knw (onc acc xs) t then onc acc xs else onc acc xs++[t]:=by
 rw[z1y];simp only[onc]
theorem z5d(v:Value)(ps:List InstQ)(n:Nat)(w:World)(h:instK.At w v ps)(aL:(∀p∈ps,(∀t∈p.batch,0<t.acts.length)∧(∀r∈p.rounds,0<r.rep.length∧0<r.pro.length)∧0<p.dec.length))(aH:∀p∈ps,p.batch.length≤4)(hn:n≤ps.length)(h4:ps.length≤4)(hl:(ps.length+nmL InstQ.n ps)≤1048576):
  Calls Tryz.prog 14 #[v,.int .i64 n] w fun e w'=>∃v' qs,e=.returned v'∧qs.map TxnQ.e=defL (ps.map InstQ.e) n∧txnK.Own w' v' qs∧(txnK.fp v' qs).Nodup∧(∀k∈txnK.fp v' qs,w.heap.size≤k)∧Below w.heap.size w w':=by
 obtain⟨a,cap,rfl⟩:=h.shape;obtain⟨i0,hi,bl,bm,bn⟩:=info_parts z09;have ho:=World.ownsRow_lit (e:=82) (size:=4) w #[] 0 (Nat.le_refl _) (by decide) rfl;have aN:txnK.Own (w.alloc (.cells #[] 82)) (.slice (some ⟨w.heap.size,0,none⟩) 0 0) ([]:List TxnQ):=⟨(z0y ho).1,fun p hp=>by simp at hp⟩
 have aF:Below w.heap.size w (w.alloc (.cells #[] 82)):=by go_grown
 have aw:Hid ((txnK.fp (.slice (some ⟨w.heap.size,0,none⟩) 0 0) ([]:List TxnQ)).Nodup∧∀k∈txnK.fp (.slice (some ⟨w.heap.size,0,none⟩) 0 0) ([]:List TxnQ),w.heap.size≤k):=by
  refine⟨?_,?_⟩
  ·simp[Kind.fp,blk,Value.ownBlock]
  ·simp[Kind.fp,blk,Value.ownBlock]
 clear ho;have ar:Hid (([]:List TxnQ).map TxnQ.e=defL (ps.map InstQ.e) 0):=by show _=_;simp[defL,z3m,onc]
 have au:Hid (([]:List TxnQ).length≤4*0):=by show _≤_;simp
 go_enter Tryz.func14,Tryz.ntmps14
 go_wp2
 go_loopw[5,6] (fun v j wr=>∃ (k:Nat) (qs:List TxnQ),k≤n∧j=.int .i64 k∧Hid (qs.map TxnQ.e=defL (ps.map InstQ.e) k)∧Hid (qs.length≤4*k)∧txnK.Own wr v qs∧Hid ((txnK.fp v qs).Nodup∧∀k∈txnK.fp v qs,w.heap.size≤k)∧Below w.heap.size w wr) (fun _ j _=>n-(intOf j).toNat)
 case atStart=>exact⟨0,[],Nat.zero_le _,rfl,ar,au,aN,aw,aF⟩
 case round=>
  clear aw aN aF ar au;obtain⟨k,qs,hk,rfl,HE,HL,hO,HN,hb⟩:=hrel;obtain⟨sa,sc,rfl⟩:=hO.shape;by_cases bx:k<n
  ·have z:k<ps.length:=by omega
   have HT:=z4D (ps.map InstQ.e) k (by simpa using z);rw[z4A ps k z]at HT;have aj:Hid (outV ps[k].dec≠1→defL (ps.map InstQ.e) (k+1)=defL (ps.map InstQ.e) k):=fun hx=>by
    unfold defL;rw[HT,if_neg (show¬outV (InstQ.e ps[k]).dec=1 from hx),List.append_nil]
   have ay:Hid (outV ps[k].dec=1→∀m,onc (defL (ps.map InstQ.e) k) ((ps[k].batch.map TxnQ.e).take m)=onc [] (z3m ((ps.map InstQ.e).take k)++(ps[k].batch.map TxnQ.e).take m)):=fun _ m=>by
    rw[z1y];rfl
   have ak:Hid (outV ps[k].dec=1→defL (ps.map InstQ.e) (k+1)=onc (defL (ps.map InstQ.e) k) (ps[k].batch.map TxnQ.e)):=fun hx=>by
    unfold defL;rw[HT,if_pos (show outV (InstQ.e ps[k]).dec=1 from hx),z1y];rfl
   clear HT;obtain⟨b,bp,rfl,bb,hP⟩:=z58 h k z;have aQ:InstQ.n ps[k]≤1048576:=by have:=z5z ps k z;omega
   have aJ:=z1L b (bp+k*4) ps[k] wr (hP.below hb) aQ;have bq:b<wr.heap.size:=Nat.lt_of_lt_of_le bb hb.size;have U:=aL _ (List.getElem_mem z);have aG:=aH _ (List.getElem_mem z);generalize outV ps[k].dec=OV at*;have aM:(k:Int)<(n:Int):=by omega
   have bd:(k:Int)<(ps.length:Int):=by omega
   go_wp2_with fail
   refine aJ.mono ?_;rintro e w' ⟨rfl,hw⟩;replace hw:=hw.symm;subst hw;clear aJ;by_cases I:OV=1
   case neg=>
    have e1:(OV !=1)=true:=by simpa using I
    have HR:Hid (qs.map TxnQ.e=defL (ps.map InstQ.e) (k+1)):=show _=_ by rw[aj.out I];exact HE.out
    have A:Hid (qs.length≤4*(k+1)):=show _≤_ by have:=HL.out;omega
    clear aj ay ak HE HL I
    go_wp2
    go_roundw
    case rel=>exact⟨k+1,qs,by omega,by go_num,HR,A,hO,HN,hb⟩
    case measure=>simp[intOf];omega
   case pos=>
    have e1:(OV !=1)=false:=by simp[I]
    have HI:Hid (qs.map TxnQ.e=onc (defL (ps.map InstQ.e) k) ((ps[k].batch.map TxnQ.e).take 0)):=show _=_ by rw[List.take_zero];exact HE.out
    have y:Hid (qs.length≤4*k+0):=HL.out;have al:Hid (defL (ps.map InstQ.e) (k+1)=onc (defL (ps.map InstQ.e) k) (ps[k].batch.map TxnQ.e)):=ak.out I;clear aj ay ak HE HL I;generalize ps[k]=p at*;obtain⟨has,vb,d,vr,aT,vd,dec⟩:=p;have hT:txnK.At w vb d:=hP.batch;have cc:=(hP.below hb).box.c1;dsimp only at cc;obtain⟨ba,bk,rfl⟩:=hT.shape;dsimp only at HI al U aG;have bf:=U.1;have bw:nmL TxnQ.n d≤1048576:=by
     have h9:=aQ;dsimp only[InstQ.n]at h9;omega
    generalize defL (ps.map InstQ.e) k=acc at*
    go_wp2
    clear cc;go_loopw[5,7] (fun v j wx=>∃ (m:Nat) (qs:List TxnQ),m≤d.length∧j=.int .i64 m∧Hid (qs.map TxnQ.e=onc acc ((d.map TxnQ.e).take m))∧Hid (qs.length≤4*k+m)∧txnK.Own wx v qs∧Hid ((txnK.fp v qs).Nodup∧∀k∈txnK.fp v qs,w.heap.size≤k)∧Below w.heap.size w wx) (fun _ j _=>d.length-(intOf j).toNat)
    case atStart=>exact⟨0,qs,Nat.zero_le _,rfl,HI,y,hO,HN,hb⟩
    case round=>
     clear HI y hO HN hb;obtain⟨m,qs,hm,rfl,HI,y,hO,HN,hb⟩:=hrel;obtain⟨sa,sc,rfl⟩:=hO.shape;have aZ:=hP.below hb;have aA:=aZ.box.c1;dsimp only at aA;by_cases E:m<d.length
     ·have bc:(m:Int)<(d.length:Int):=by omega
      have bv:d.length≤4:=aG;obtain⟨b2,o2,rfl,br,hc,L⟩:=(hT.below hb).cell (by decide) m E;have O:∀j x,(txnK.cells d[m])[j]?=some x→wr.cell? ⟨b2,o2+m*4+j,none⟩=some x:=hc;have t0:=O 0 (.int .i64 d[m].i) rfl;have t1:=O 1 (.int .i64 d[m].s) rfl;have t2:=O 2 (.int .i64 d[m].q) rfl;have t3:=O 3 (d[m].va) rfl;rw[Nat.add_zero]at t0;have aq:=z0W TxnQ.n d m E;have V:=bf _ (List.getElem_mem E);have HS:(d.map TxnQ.e).take (m+1)=(d.map TxnQ.e).take m++[TxnQ.e d[m]]:=by
       rw[List.take_succ_eq_append_getElem (by simpa using E),List.getElem_map]
      have ag:Hid (knw (qs.map TxnQ.e) (TxnQ.e d[m])=true→qs.map TxnQ.e=onc acc ((d.map TxnQ.e).take (m+1))):=fun hx=>by
       rw[HS,z8w,←HI.out,if_pos hx]
      have ah:Hid (knw (qs.map TxnQ.e) (TxnQ.e d[m])=false→∀p':TxnQ,p'.e=TxnQ.e d[m]→(qs++[p']).map TxnQ.e=onc acc ((d.map TxnQ.e).take (m+1))):=fun hx p' bg=>by
       rw[HS,z8w,←HI.out,if_neg (by rw[hx];decide),List.map_append,List.map_singleton,bg]
      clear hc O HS;generalize d[m]=p at*;obtain⟨i,s,q,va,c⟩:=p;replace L:actK.At wr va c:=L;replace aq:c.length≤nmL TxnQ.n d:=aq;obtain⟨aa,ac,rfl⟩:=L.shape;dsimp only at t0 t1 t2 t3 V;obtain⟨ab,ao,a7⟩:∃ab ao,aa=some ⟨ab,ao,none⟩:=by
       rcases(z0O L).2 with h0|⟨ab,ao,e,_⟩
       ·have:=z0r c;rw[h0]at this;simp at this;omega
       ·exact⟨ab,ao,e⟩
      subst a7;have aI:=z5t i s q ab ao ac c _ (z0O L).2 V (by omega)
      go_wp2_with fail
      clear t0 t1 t2 t3 aA;have av:Hid (∀x∈txnK.fp (.slice sa qs.length sc) qs,x<wr.heap.size):=hO.lt;have az:Hid (w.heap.size≤wr.heap.size):=hb.size;refine aI.mono ?_;rintro e w2 ⟨a2,c2,rfl,aR,X⟩;replace hO:=hO.below X;replace hb:=hb.trans (X.mono hb.size);have bs:=X.size;obtain⟨bo,aK⟩:=z0y aR;have C:txnK.own w2 (⟨i,s,q,.slice a2 c.length c2,c⟩:TxnQ):=⟨bo,fun _ _=>trivial⟩
      have M:∀x∈txnK.foot (⟨i,s,q,.slice a2 c.length c2,c⟩:TxnQ),wr.heap.size≤x:=fun x hx=>aK x (by rw[←z05 (.slice a2 c.length c2) c];exact hx)
      have aE:(txnK.foot (⟨i,s,q,.slice a2 c.length c2,c⟩:TxnQ)).Nodup:=by
       show(actK.fp _ _).Nodup;rw[z05];exact z0w _
      have a1:=txnK.own_lt C;have N:Below w2.heap.size w2 (w2.alloc (.cells #[.int .i64 i,.int .i64 s,.int .i64 q,.slice a2 c.length c2] 82)):=by go_grown
      have Tb:=Blk.new w2 82 #[.int .i64 i,.int .i64 s,.int .i64 q,.slice a2 c.length c2];replace hO:=hO.below N;replace C:=txnK.own_out (F:=[]) C (Out.of_below N) (fun _ _=>by simp);replace hb:=hb.trans (N.mono hb.size);have Z:=fun w h hB=>z4C (.slice sa qs.length sc) qs w2.heap.size 0 (TxnQ.e (⟨i,s,q,.slice a2 c.length c2,c⟩:TxnQ)) (.slice a2 c.length c2) w h hB (by have:=y.out;omega)
      have aB:Box4 (w2.alloc (.cells #[.int .i64 i,.int .i64 s,.int .i64 q,.slice a2 c.length c2] 82)) w2.heap.size 0 (.int .i64 i) (.int .i64 s) (.int .i64 q) (.slice a2 c.length c2):=⟨Tb.cell 0 _ rfl,Tb.cell 1 _ rfl,Tb.cell 2 _ rfl,Tb.cell 3 _ rfl⟩
      have ap:=Z _ hO.at aB;have aC:TxnQ.e (⟨i,s,q,.slice a2 c.length c2,c⟩:TxnQ)=TxnQ.e ⟨i,s,q,.slice (some ⟨ab,ao,none⟩) c.length ac,c⟩:=rfl;rw[aC]at ap;clear aI aR aK Z aC aB;generalize knw (qs.map TxnQ.e) (TxnQ.e ⟨i,s,q,.slice (some ⟨ab,ao,none⟩) c.length ac,c⟩)=KN at*
      go_wp2_with fail
      generalize bh:w2.alloc (.cells #[.int .i64 i,.int .i64 s,.int .i64 q,.slice a2 c.length c2] 82)=WA at*;clear bh;refine ap.mono ?_;rintro e w3 ⟨rfl,J⟩;replace hO:=hO.below J;replace C:=txnK.own_out (F:=[]) C (Out.of_below J) (fun _ _=>by simp);replace hb:=hb.trans (J.mono hb.size);replace Tb:=Tb.below J;have bt:=J.size;have bu:=N.size;clear J ap
      cases KN with
      |true=>
       have HR:=ag.out rfl;have aX:Hid _:=HR;have A:Hid (qs.length≤4*k+(m+1)):=show _≤_ by have:=y.out;omega
       clear ag ah HR HI y Tb C
       go_wp2
       go_roundw
       case rel=>exact⟨m+1,qs,by omega,by go_num,aX,A,hO,HN,hb⟩
       case measure=>simp[intOf];omega
      |false=>
       have ax:=ah.out rfl;have ad:Hid _:=ax;have ai:Hid (qs.length≤20):=show _≤_ by have:=y.out;omega
       have A:Hid (qs.length+1≤4*k+(m+1)):=show _≤_ by have:=y.out;omega
       obtain⟨u0,u1,u2,u3⟩:=Tb.cel4;have D:Below w3.heap.size w3 (w3.alloc (.cells #[.int .i64 i,.int .i64 s,.int .i64 q,.slice a2 c.length c2] 82)):=by go_grown
       have am:=hO.below D;have aD:=txnK.own_out (F:=[]) C (Out.of_below D) (fun _ _=>by simp);have Y:=hb.trans (D.mono hb.size);have a6:wr.heap.size≤(w3.alloc (.cells #[.int .i64 i,.int .i64 s,.int .i64 q,.slice a2 c.length c2] 82)).heap.size:=by have:=D.size;omega
       clear hO C ag ah ax;have W:=am.1
       go_wp2_with (at_builtin;refine wpList_append_own_at _ rfl _ _ 40 rfl 0 82 i0 (.agg #[.int .i64 0,.int .i64 0,.int .i64 0,.slice none 0 0]) 4 48 Tryz.underlying40 hi bl bm bn rfl (by decide) _ qs.length (txnK.row qs) rfl W ⟨w3.heap.size,0,none⟩ 1 1 [.int .i64 i,.int .i64 s,.int .i64 q,.slice a2 c.length c2] rfl rfl ?c1 ?c2 ?c3 ?c4 ?c5 ?_)
       all_goals try(case c1=>intro j u hj;match j,hj with|0,hj=>simp at hj;subst hj;simp[Addr.add]|1,hj=>simp at hj;subst hj;simp[Addr.add]|2,hj=>simp at hj;subst hj;simp[Addr.add]|3,hj=>simp at hj;subst hj;simp[Addr.add])
       all_goals try(case c2=>intro u hu;simp at hu;rcases hu with rfl|rfl|rfl|rfl<;>rfl)
       all_goals try(case c3=>have:=ai.out;unfold maxLen;omega)
       all_goals try(case c4=>have:=ai.out;omega)
       all_goals try(case c5=>first|omega|simp)
       intro v' w5 af T aP an;clear aP W u0 u1 u2 u3 Tb;rw[show w3.heap.size+1=(w3.alloc (.cells #[.int .i64 i,.int .i64 s,.int .i64 q,.slice a2 c.length c2] 82)).heap.size from(World.size_alloc _ _).symm]at an;generalize bi:w3.alloc (.cells #[.int .i64 i,.int .i64 s,.int .i64 q,.slice a2 c.length c2] 82)=WB at*;clear bi;obtain⟨aY,aO,ae,aS⟩:=am.snoc (p:=(⟨i,s,q,.slice a2 c.length c2,c⟩:TxnQ)) HN.out.1 HN.out.2 aD aE (fun x hx bj=>by have:=av.out x bj;have:=M x hx;omega) (fun x hx=>by have:=M x hx;have:=az.out;omega) Y.size af T an;have a8:Below w.heap.size w w5:=Out.keep Y aS Y.size (fun x hx=>HN.out.2 x (by simp only[Kind.fp,List.mem_append];exact Or.inl hx));have aU:Hid ((qs++[(⟨i,s,q,.slice a2 c.length c2,c⟩:TxnQ)]).map TxnQ.e=onc acc ((d.map TxnQ.e).take (m+1))):=ad.out _ rfl;have aW:Hid ((txnK.fp v' (qs++[(⟨i,s,q,.slice a2 c.length c2,c⟩:TxnQ)])).Nodup∧∀k∈txnK.fp v' (qs++[(⟨i,s,q,.slice a2 c.length c2,c⟩:TxnQ)]),w.heap.size≤k):=⟨aO,ae⟩
       have aV:Hid ((qs++[(⟨i,s,q,.slice a2 c.length c2,c⟩:TxnQ)]).length≤4*k+(m+1)):=show _≤_ by rw[List.length_append];exact A.out
       clear ad HN av az aD am Y af T an aS aO ae L hb N D aq V a6 M aE a1 HI y ai A X
       go_wp2
       go_roundw
       case rel=>exact⟨m+1,_,by omega,by go_num,aU,aV,aY,aW,a8⟩
       case measure=>simp[intOf];omega
     ·have be:m=d.length:=by omega
      subst be;have HR:Hid (qs.map TxnQ.e=defL (ps.map InstQ.e) (k+1)):=show _=_ by
       have h8:=HI.out;rw[List.take_of_length_le (by simp)]at h8;rw[al.out];exact h8
      have A:Hid (qs.length≤4*(k+1)):=show _≤_ by have:=y.out;omega
      clear HI y al
      go_wp2
      go_roundw
      case rel=>exact⟨k+1,qs,by omega,by go_num,HR,A,hO,HN,hb⟩
      case measure=>simp[intOf];omega
  ·have Z:k=n:=by omega
   subst Z;have aM:¬(k:Int)<(k:Int):=by omega
   go_wp2
   go_ret;first|exact⟨_,qs,rfl,HE.out,hO,HN.out.1,HN.out.2,hb⟩|exact⟨_,rfl,qs,HE.out,hO,HN.out.1,HN.out.2,hb⟩
theorem z3n(i s q:Int)(a:Option Addr)(n c:Nat)(i' s' q':Int)(a':Option Addr)(n' c':Nat)(xs ys:List ActD)(w:World):
  Calls Tryz.prog 221 #[.agg #[.int .i64 i,.int .i64 s,.int .i64 q,.slice a n c],.agg #[.int .i64 i',.int .i64 s',.int .i64 q',.slice a' n' c']] w fun e w'=>e=.returned (.bool (stF ⟨i,s,q,xs⟩ ⟨i',s',q',ys⟩))∧Below w.heap.size w w':=by
 unfold stF;dsimp only
 cases h1:(i==i')
 ·cases h2:(s==s')
  ·go_enter Tryz.func221,Tryz.ntmps221
   go_wp2
   go_ret;exact⟨rfl,by go_grown⟩
  ·cases h3:(q==q')
   ·go_enter Tryz.func221,Tryz.ntmps221
    go_wp2
    go_ret;exact⟨rfl,by go_grown⟩
   ·go_enter Tryz.func221,Tryz.ntmps221
    go_wp2
    go_ret;exact⟨rfl,by go_grown⟩
 ·go_enter Tryz.func221,Tryz.ntmps221
  go_wp2
  go_ret;exact⟨rfl,by go_grown⟩
theorem z9h(i s q:Int)(a:Option Addr)(n c:Nat)(xs:List ActD)(x:TxnD)(bx:Nat)(a':Option Addr)(n' c':Nat)(w:World)(hX:Blk w bx 82 #[.int .i64 x.id,.int .i64 x.session,.int .i64 x.seq,.slice a' n' c']):
  Calls Tryz.prog 220 #[.agg #[.int .i64 i,.int .i64 s,.int .i64 q,.slice a n c],.pointer (some ⟨bx,0,none⟩)] w fun e w'=>e=.returned (.bool (stF ⟨i,s,q,xs⟩ x))∧Below w.heap.size w w':=by
 obtain⟨xi,xs',xq,xa⟩:=x;have hB:Below w.heap.size w (w.alloc (.cells #[.int .i64 i,.int .i64 s,.int .i64 q,.slice a n c] 82)):=by go_grown
 have hX':=hX.below hB;have hq:=fun w=>z3n i s q a n c xi xs' xq a' n' c' xs xa w
 have x0:=hX'.cell 0 _ rfl;have x1:=hX'.cell 1 _ rfl;have x2:=hX'.cell 2 _ rfl;have x3:=hX'.cell 3 _ rfl;generalize stF ⟨i,s,q,xs⟩ ⟨xi,xs',xq,xa⟩=E at*;go_enter Tryz.func220,Tryz.ntmps220
 go_wp2_with fail
 refine(hq _).mono ?_;rintro e w2 ⟨rfl,hb2⟩;replace hB:=hB.trans (hb2.mono hB.size)
 go_wp2
 go_ret;exact⟨rfl,hB⟩
theorem z5e(v:Value)(ps:List TxnQ)(x:TxnD)(bx:Nat)(a':Option Addr)(n' c':Nat)(w:World)(h:txnK.At w v ps)(hX:Blk w bx 82 #[.int .i64 x.id,.int .i64 x.session,.int .i64 x.seq,.slice a' n' c'])(hl:ps.length≤1048576):
  Calls Tryz.prog 235 #[v,.func (.func 220) #[] #[.pointer (some ⟨bx,0,none⟩)]] w fun e w'=>∃r:Int,e=.returned (.int .i64 r)∧(knw (ps.map TxnQ.e) x=true→0≤r)∧(knw (ps.map TxnQ.e) x=false→r<0)∧Below w.heap.size w w':=by
 obtain⟨a,cap,rfl⟩:=h.shape;generalize hE:knw (ps.map TxnQ.e) x=E;have HE:Hid (knw (ps.map TxnQ.e) x=E):=hE;clear hE;go_enter Tryz.func235,Tryz.ntmps235
 go_wp2
 go_loopw[8] (fun j wr=>∃k:Nat,k≤ps.length∧j=.int .i64 k∧Below w.heap.size w wr∧Hid (∀j,j<k→stF ((ps.map TxnQ.e).getD j z3K) x=false)) (fun j _=>ps.length-(intOf j).toNat)
 case atStart=>exact⟨0,Nat.zero_le _,rfl,Below.refl _ _,fun j hj=>absurd hj (Nat.not_lt_zero _)⟩
 case round=>
  obtain⟨k,hk,rfl,hb,HA⟩:=hrel;by_cases y:k<ps.length
  ·obtain⟨b',L,rfl,I,hc,z⟩:=(h.below hb).cell (by decide) k y;have d:∀j x,(txnK.cells ps[k])[j]?=some x→wr.cell? ⟨b',L+k*4+j,none⟩=some x:=hc;have c0:=d 0 (.int .i64 ps[k].i) rfl;have c1:=d 1 (.int .i64 ps[k].s) rfl;have c2:=d 2 (.int .i64 ps[k].q) rfl;have c3:=d 3 (ps[k].va) rfl;rw[Nat.add_zero]at c0;have HY:Hid (stF (TxnQ.e ps[k]) x=true→E=true):=fun hx=>by rw[←HE.out];exact q0G k (by simpa using y) (by rw[z6b ps k y];exact hx)
   have HN:Hid (stF (TxnQ.e ps[k]) x=false→∀j,j<k+1→stF ((ps.map TxnQ.e).getD j z3K) x=false):=fun hx j hj=>by
    by_cases J:j=k
    ·subst J;rw[z6b ps j y];exact hx
    ·exact HA.out j (by omega)
   clear HA hc d;generalize ps[k]=p at*;obtain⟨i,s,q,M,c⟩:=p;replace z:actK.At wr M c:=z;obtain⟨aa,ac,rfl⟩:=z.shape;dsimp only[TxnQ.e]at c0 c1 c2 c3 HY HN;have hq:=z9h i s q aa c.length ac c x bx a' n' c' wr (hX.below hb);generalize stF ⟨i,s,q,c⟩ x=S at*;have C:(k:Int)<(ps.length:Int):=by omega
   go_wp2_with fail
   refine hq.mono ?_;rintro e w2 ⟨rfl,A⟩;replace hb:=hb.trans (A.mono hb.size);clear hq c0 c1 c2 c3 A z I
   cases S with
   |true=>
    have E1:Hid (E=true):=HY.out rfl;clear HY HN
    go_wp2
    go_ret;refine⟨_,rfl,fun _=>by omega,fun h0=>?_,hb⟩;rw[E1.out]at h0;exact absurd h0 (by decide)
   |false=>
    have D:Hid _:=HN.out rfl;clear HY HN
    go_wp2
    go_roundw
    case rel=>exact⟨k+1,by omega,by go_num,hb,D.out⟩
    case measure=>simp[intOf];omega
  ·have E1:Hid (E=false):=by rw[←HE.out];exact q2v (fun j hj=>HA.out j (by simp at hj;omega))
   have C:¬(k:Int)<(ps.length:Int):=by omega
   clear HA HE
   go_wp2
   go_ret;refine⟨_,rfl,fun h0=>?_,fun _=>by omega,hb⟩;rw[E1.out]at h0;exact absurd h0 (by decide)
theorem z3o(v:Value)(ps:List TxnQ)(x:TxnD)(bx:Nat)(a':Option Addr)(n' c':Nat)(w:World)(h:txnK.At w v ps)(hX:Blk w bx 82 #[.int .i64 x.id,.int .i64 x.session,.int .i64 x.seq,.slice a' n' c'])(hl:ps.length≤1048576):
  Calls Tryz.prog 219 #[v,.func (.func 220) #[] #[.pointer (some ⟨bx,0,none⟩)]] w fun e w'=>e=.returned (.bool (knw (ps.map TxnQ.e) x))∧Below w.heap.size w w':=by
 have hq:=z5e v ps x bx a' n' c' w h hX hl;obtain⟨a,cap,rfl⟩:=h.shape;generalize knw (ps.map TxnQ.e) x=E at*;go_enter Tryz.func219,Tryz.ntmps219
 go_wp2_with fail
 refine hq.mono ?_;rintro e w2 ⟨r,rfl,h1,h2,hb⟩
 cases E with
 |true=>
  have h0:0≤r:=h1 rfl;clear h1 h2
  go_wp2
  go_ret;exact⟨by simp[h0],hb⟩
 |false=>
  have h0:¬0≤r:=by have:=h2 rfl;omega
  clear h1 h2
  go_wp2
  go_ret;exact⟨by simp[h0],hb⟩
theorem z5f(v:Value)(ps:List TxnQ)(x:TxnD)(a':Option Addr)(n' c':Nat)(w:World)(h:txnK.At w v ps)(hl:ps.length≤1048576):
  Calls Tryz.prog 199 #[v,.agg #[.int .i64 x.id,.int .i64 x.session,.int .i64 x.seq,.slice a' n' c']] w fun e w'=>e=.returned (.bool (knw (ps.map TxnQ.e) x))∧Below w.heap.size w w':=by
 have hB:Below w.heap.size w (w.alloc (.cells #[.int .i64 x.id,.int .i64 x.session,.int .i64 x.seq,.slice a' n' c'] 82)):=by go_grown
 have hq:=z3o v ps x w.heap.size a' n' c' _ (h.below hB) (Blk.new w 82 #[.int .i64 x.id,.int .i64 x.session,.int .i64 x.seq,.slice a' n' c']) hl;have hmf:∀ (fn:Fn) (first cap:Array Value) (w:World),(Instr.makeFunc fn first cap).run Tryz.prog w=.ok (.func fn first cap) w:=fun _ _ _ _=>rfl
 obtain⟨a,cap,rfl⟩:=h.shape;generalize knw (ps.map TxnQ.e) x=E at*;obtain⟨xi,xs,xq,xa⟩:=x;dsimp only at hB hq⊢;go_enter Tryz.func199,Tryz.ntmps199
 go_wp2_with fail
 refine hq.mono ?_;rintro e w2 ⟨rfl,hb2⟩;replace hB:=hB.trans (hb2.mono hB.size);clear hmf
 go_wp2
 go_ret;exact⟨rfl,hB⟩
end Go.Proofs.YtljbililjlafcaaGreatDoor
