/- Texts joined,with what the laws reach alone. -/
import Derived.Test.YtlkpdgjnhkjpjaaGreatDoorSCAS
set_option linter.unusedVariables false
set_option linter.unusedSimpArgs false
set_option maxRecDepth 100000
set_option maxHeartbeats 4000000
namespace Go.Proofs.YtlkpdgjnhkjpjaaGreatDoor
open Go.RowKit Go.BigFrame
theorem z7i(z:Array Value)(n:Nat):(Builtin.zeroCells z n).toList.length=n*z.size:=by simp[Builtin.zeroCells]
section
variable {P:Type} {K:Kind P} {w:World} {ps:List P}
theorem z8p{g cap:Nat}(h:K.Own w (.slice (some ⟨g,0,none⟩) ps.length cap) ps)(hnd:(K.fp (.slice (some ⟨g,0,none⟩) ps.length cap) ps).Nodup)(m:Nat)(hm:m<ps.length)(t e:TypeId)(z:Value)(zc:List Value)(ht:Tryz.prog.underlying t=some (.slice e))(hv:∀w,(zeroValue e).run Tryz.prog w=.ok z w)(hz:z.cells=zc.toArray)(hs:zc.length=K.size)(h1:∀n,∀v∈(Builtin.zeroCells z.cells n).toList,v.oneCell'=true)(c:Nat):
  ∃W,(∀ty,(Builtin.clear_ #[t] ty #[.slice (some ⟨g,0+m*K.size,none⟩) (ps.length-m) c]).run Tryz.prog w=.ok (.tuple #[]) W)∧K.Own W (.slice (some ⟨g,0,none⟩) m cap) (ps.take m)∧Out [g] w W:=by
 have hlen:(Builtin.zeroCells z.cells (ps.length-m)).toList.length=(ps.length-m)*K.size:=by rw[z7i,hz,List.size_toArray,hs]
 have hin:∀j,j<(ps.length-m)*K.size→m*K.size+j<ps.length*K.size:=fun j hj=>by
  have e:ps.length*K.size=m*K.size+(ps.length-m)*K.size:=by rw[←Nat.add_mul];congr 1;omega
  omega
 refine⟨_,fun ty=>z9o t e ty z zc ht hv hz g (0+m*K.size) (ps.length-m) c (by omega) (h1 _) (fun j hj=>?_) (fun j hj=>?_),?_,Out.setCells _ _ _ _⟩
 ·rw[hlen]at hj;rw[Nat.zero_add,h.1.cellAt _ (hin j hj)];rw[List.getElem?_eq_getElem (by rw[Kind.row_length];exact hin j hj)];rfl
 ·exact h.1.frozenAt _
 ·have h2:=h.takeO m (by omega);refine Kind.Own.fars (fun p hp hg=>?_) _ _ _ h2 (by rw[List.length_take];have:=Nat.mul_le_mul_right K.size (show min m ps.length≤m by omega);omega);simp only[Kind.fp,blk,Value.ownBlock,Option.toList,List.cons_append,List.nil_append,List.nodup_cons]at hnd;exact hnd.1 (List.mem_flatMap.2 ⟨p,List.mem_of_mem_take hp,hg⟩)
end
theorem z9T(a:Option Addr)(cap:Nat)(ps:List TxnQ)(m:Nat)(w:World)(h:txnK.Own w (.slice a ps.length cap) ps)(x:(txnK.fp (.slice a ps.length cap) ps).Nodup)(hm:m≤ps.length)(hl:ps.length≤1048576):
  Calls Tryz.prog 118 #[.slice a ps.length cap,.int .i64 (m:Int)] w fun e w'=>e=.returned (.slice a m cap)∧txnK.Own w' (.slice a m cap) (ps.take m)∧Out (blk (.slice a ps.length cap)) w w':=by
 obtain⟨M,N⟩:=h.capK;have hv:∀w,(zeroValue 39).run Tryz.prog w=.ok (.agg #[.int .i64 0,.int .i64 0,.int .i64 0,.slice none 0 0]) w:=fun w=>by kernel_rfl
 have y:∀u:World,(Instr.slice 25 (.slice a ps.length cap) (some (.int .i64 (m:Int))) none none).run Tryz.prog u=.ok (.slice (if cap=m then a else a.map (·.add (m*txnK.size))) (ps.length-m) (cap-m)) u:=fun u=>by
  rw[run_slice_l u 25 a ps.length cap (by kernel_rfl) .i64 (m:Int) (by omega) (by omega)];rfl
 by_cases C:m<ps.length
 ·obtain⟨g,rfl⟩:=h.blkOf (by omega);have A:¬cap=m:=by omega
  obtain ⟨W,d,hO,hU⟩:=z8p h x m C 25 39 (.agg #[.int .i64 0,.int .i64 0,.int .i64 0,.slice none 0 0]) [.int .i64 0,.int .i64 0,.int .i64 0,.slice none 0 0] Tryz.underlying25 hv rfl rfl (fun n v hv=>by
   simp only[Builtin.zeroCells,Array.toList_map,List.mem_map]at hv;obtain⟨i,_,rfl⟩:=hv;have:i % 4=0∨i % 4=1∨i % 4=2∨i % 4=3:=by omega
   rcases this with e | e | e | e <;> simp [Value.cells,e,Value.oneCell']) (cap - m)
  rw[if_neg A]at y;have e:(some (⟨g,0,none⟩:Addr)).map (·.add (m*txnK.size))=some ⟨g,0+m*txnK.size,none⟩:=by
   simp[Addr.add];exact fun h=>h.symm
  rw[e]at y;generalize some (⟨g,0+m*txnK.size,none⟩:Addr)=ra at*;have I:(m:Int)≤(cap:Int):=by omega
  clear e h x hv;go_enter Tryz.func118,Tryz.ntmps118
  go_wp2
  go_ret;exact⟨rfl,hO,hU⟩
 ·have J:m=ps.length:=by omega
  have hO:=h.takeO m hm;have z:ps.length-m=0:=by omega
  rw[z]at y;have d:∀ra c ty (u:World),(Builtin.clear_ #[25] ty #[.slice ra 0 c]).run Tryz.prog u=.ok (.tuple #[]) u:=fun ra c ty u=>by
   cases ra<;>simp[Builtin.clear_,run_underlying Tryz.underlying25]
  have L:=d (if cap=m then a else a.map (·.add (m*txnK.size))) (cap-m);generalize (if cap=m then a else a.map (·.add (m*txnK.size)))=ra at*;have I:(m:Int)≤(cap:Int):=by omega
  clear h x hv J d z;go_enter Tryz.func118,Tryz.ntmps118
  go_wp2
  go_ret;exact⟨rfl,hO,Out.refl _ _⟩
theorem q3j(a:Option Addr)(cap:Nat)(ps:List USQ)(m:Nat)(w:World)(h:ussK.Own w (.slice a ps.length cap) ps)(x:(ussK.fp (.slice a ps.length cap) ps).Nodup)(hm:m≤ps.length)(hl:ps.length≤1048576):
  Calls Tryz.prog 119 #[.slice a ps.length cap,.int .i64 (m:Int)] w fun e w'=>e=.returned (.slice a m cap)∧ussK.Own w' (.slice a m cap) (ps.take m)∧Out (blk (.slice a ps.length cap)) w w':=by
 obtain⟨M,N⟩:=h.capK;have hv:∀w,(zeroValue 160).run Tryz.prog w=.ok (.slice none 0 0) w:=fun w=>by kernel_rfl
 have y:∀u:World,(Instr.slice 27 (.slice a ps.length cap) (some (.int .i64 (m:Int))) none none).run Tryz.prog u=.ok (.slice (if cap=m then a else a.map (·.add (m*ussK.size))) (ps.length-m) (cap-m)) u:=fun u=>by
  rw[run_slice_l u 27 a ps.length cap (by kernel_rfl) .i64 (m:Int) (by omega) (by omega)];rfl
 by_cases C:m<ps.length
 ·obtain⟨g,rfl⟩:=h.blkOf (by omega);have A:¬cap=m:=by omega
  obtain ⟨W,d,hO,hU⟩:=z8p h x m C 27 160 (.slice none 0 0) [.slice none 0 0] Tryz.underlying27 hv rfl rfl (fun n v hv=>by
   simp only[Builtin.zeroCells,Array.toList_map,List.mem_map]at hv;obtain⟨i,_,rfl⟩:=hv;simp [Value.cells,Nat.mod_one,Value.oneCell']) (cap - m)
  rw[if_neg A]at y;have e:(some (⟨g,0,none⟩:Addr)).map (·.add (m*ussK.size))=some ⟨g,0+m*ussK.size,none⟩:=by
   simp[Addr.add];exact fun h=>h.symm
  rw[e]at y;generalize some (⟨g,0+m*ussK.size,none⟩:Addr)=ra at*;have I:(m:Int)≤(cap:Int):=by omega
  clear e h x hv;go_enter Tryz.func119,Tryz.ntmps119
  go_wp2
  go_ret;exact⟨rfl,hO,hU⟩
 ·have J:m=ps.length:=by omega
  have hO:=h.takeO m hm;have z:ps.length-m=0:=by omega
  rw[z]at y;have d:∀ra c ty (u:World),(Builtin.clear_ #[27] ty #[.slice ra 0 c]).run Tryz.prog u=.ok (.tuple #[]) u:=fun ra c ty u=>by
   cases ra<;>simp[Builtin.clear_,run_underlying Tryz.underlying27]
  have L:=d (if cap=m then a else a.map (·.add (m*ussK.size))) (cap-m);generalize (if cap=m then a else a.map (·.add (m*ussK.size)))=ra at*;have I:(m:Int)≤(cap:Int):=by omega
  clear h x hv J d z;go_enter Tryz.func119,Tryz.ntmps119
  go_wp2
  go_ret;exact⟨rfl,hO,Out.refl _ _⟩
section
variable {P:Program} {ops:Array Oper} {Q:Exit→Act→World→Prop} {S:World→Prop} {st:Nat}
theorem z4z{l:Array Bool}{p:Nat}(h:l.getD p true=false)(h':l.getD p false=true):False:=by
 rcases Nat.lt_or_ge p l.size with hp|hp
 ·simp[hp]at h h';rw[h]at h'
  cases h'
 ·simp[Array.getElem?_eq_none hp]at h'
theorem z2B{i:Nat}{oi:Oper}{v:Value}(ch:List Nat)(hi:ops[i]?=some oi)(O:∀ (j:Nat) (o:Oper) cs b,ops[j]?=some o→o.op≠.select cs b)
  (hQ:∀c a w,Q (.panic c) (a.put oi.dst v) w→Q (.panic c) a w) (W:i∉ch) (U:st∈ch) (aa:∀c∈ch,∀o,ops[c]?=some o→∃e∈o.after,Region.binds .any e=true∧e.on∈i::ch):
  ∀ (x:Nat) (d:Array Bool) (a:Act) (w:World),
   (∀j oj,ops[j]?=some oj→j≠i→d.getD j true=false→(∀e∈oj.after,Region.binds .any e=true→e.on≠i)→oi.apart ops oj=true)→
   i∈Region.ready .any ops d→YieldsIf P ops S oi v a→S w→(∀c∈ch,d.getD c true=false)→
   z0J P ops Q S st x (d.setIfInBounds i true) (a.put oi.dst v) w→z0J P ops Q S st (x+1) d a w:=by
 have T:i≠st:=fun e=>W (e▸U)
 intro x;induction x with
 |zero=>
  intro d a w _ hr hy hS hl H;refine⟨fun h=>(by rw[h]at hr;cases hr),fun j hj=>?_⟩;by_cases y:j=i
  ·subst y;exact hy.wpOp hi hS ⟨Or.inr hS,H⟩
  ·have:=ready_mono hj y;rw[H.1]at this
   cases this
 |succ x ih=>
  intro d a w z hr hy hS hl H;refine⟨fun h=>(by rw[h]at hr;cases hr),fun j hj=>?_⟩;by_cases y:j=i
  ·subst y;exact hy.wpOp hi hS ⟨Or.inr hS,H⟩
  ·have h1:=H.2 j (ready_mono hj y);obtain⟨M,oj,I,J⟩:=mem_ready.1 hj;have N:∀e∈oj.after,Region.binds .any e=true→e.on≠i:=fun e he hb ab=>by
    have h1:=J e he hb;rw[ab]at h1;exact z4z (mem_ready.1 hr).1 h1
   have L:j∉ch:=by
    intro ad;obtain⟨e,he,hb,A⟩:=aa j ad oj I;have h1:=J e he hb;rcases List.mem_cons.1 A with A|A
    ·exact N e he hb A
    ·exact z4z (hl _ A) h1
   have Y:j≠st:=fun e=>L (e▸U)
   have h2:=wpOp_putIf I (z j oj I y M N) (fun cs b=>O i oi cs b hi) (fun cs b=>O j oj cs b I) hQ hy h1;have C:∀k ok,ops[k]?=some ok→k≠i→(d.setIfInBounds j true).getD k true=false→
     (∀e∈ok.after,Region.binds .any e=true→e.on≠i)→oi.apart ops ok=true:=fun k ok hk ae Z ag=>by
    refine z k ok hk ae ?_ ag;by_cases X:j=k
    ·subst X;exact M
    ·rw[getD_set_ne true X]at Z;exact Z
   have af:∀c∈ch,(d.setIfInBounds j true).getD c true=false:=fun c hc=>by
    rw[getD_set_ne true (show j≠c from fun e=>L (by rw[e];exact hc))];exact hl c hc
   refine wpOp_mono (fun a' w' h3=>?_) h2;have V:S w':=by
    rcases h3.2.1 with h4|h4
    ·rw[getD_set_ne true Y,getD_set_ne true T,hl st U]at h4
     cases h4
    ·exact h4
   refine⟨Or.inr V,ih (d.setIfInBounds j true) a' w' C (ready_mono hr (Ne.symm y)) h3.1 V af ?_⟩;rw[Array.setIfInBounds_comm _ _ y];exact h3.2.2
def q3R(ops:Array Oper)(ch:List Nat)(i:Nat):Bool:=ch.all fun c=>match ops[c]? with
 |some o=>o.after.any (fun e=>Region.binds .any e && (i::ch).contains e.on)
 |none=>true
theorem z5w{ch:List Nat}{i:Nat}(h:q3R ops ch i=true):∀c∈ch,∀o,ops[c]?=some o→∃e∈o.after,Region.binds .any e=true∧e.on∈i::ch:=by
 intro c hc o ho;have h1:=List.all_eq_true.1 h c hc;rw[ho]at h1;obtain⟨k,hk,_,_,hb⟩:=Array.any_iff_exists.1 h1;simp only[Bool.and_eq_true]at hb;exact⟨o.after[k],Array.getElem_mem hk,hb.1,by simpa using hb.2⟩
def z6t(ops:Array Oper)(st:Nat)(ch:Nat→List Nat):List Nat→Array Bool→Bool
 |[],_=>true
 |i::r,l=>Region.free .any ops l i && (Region.ready .any ops l).contains i && !(ch i).contains i && (ch i).contains st && q3R ops (ch i) i && (ch i).all (fun c=>!(l.getD c true)) && z6t ops st ch r (l.setIfInBounds i true)
variable {R:List PanicEntry→World→Prop}
theorem q0K(ch:Nat→List Nat)(hs:Region.noSelect ops=true):
  ∀ (z:List Nat) (os:List Oper) (l:Array Bool) (a:Act) (w:World) (y:Nat),z.map (ops[·]?)=os.map some→os.all (fun o=>z2Z o.op)=true→z6t ops st ch z l=true→S w→
   wpQuiet P ops S (fun a'=>z0J P ops (PanTo Q R) S st y (z3o z l) a' w) os a→z0J P ops (PanTo Q R) S st (y+z.length) l a w:=by
 intro z;induction z with
 |nil=>
  intro os l a w y d _ _ _ h
  cases os with
  |nil=>exact h
  |cons o os=>simp at d
 |cons i r ih=>
  intro os l a w y d A M hS h
  cases os with
  |nil=>simp at d
  |cons o os=>
   simp only[List.map_cons,List.cons.injEq]at d;simp only[List.all_cons,Bool.and_eq_true]at A;simp only[z6t,Bool.and_eq_true,Bool.not_eq_true']at M;obtain⟨⟨⟨⟨⟨⟨hf,hr⟩,O⟩,T⟩,N⟩,hl⟩,I⟩:=M;have L:∀c∈ch i,l.getD c true=false:=fun c hc=>by simpa using List.all_eq_true.1 hl c hc
   have C:i∉ch i:=fun h=>by
    have:=List.contains_iff_mem.2 h;rw[O]at this
    cases this
   have J:st∈ch i:=List.contains_iff_mem.1 T;simp only[wpQuiet]at h;by_cases hw:Region.wanted o (yielded ops a.tmps)=true
   ·rw[if_pos hw]at h;obtain⟨v,hv,hk⟩:=h;refine z2B (i:=i) (oi:=o) (v:=v) (ch i) d.1 (Region.noSelect_spec hs) (fun c a w h=>PanTo.put c a _ _ w h) C J (z5w N) _ l a w (Region.free_spec d.1 hf) (by simpa using hr) (Or.inl ⟨hw,fun u hu=>?_⟩) hS L (ih os _ _ w y d.2 A.2 I hS hk);have hq:=hv u hu;unfold Oper.quietAt at hq
    cases hrun:(execOp a.eval o).run P u with
    |ok n u'=>
     obtain⟨x,rfl⟩:=z3g A.1 hrun;rw[hrun]at hq;obtain⟨e1,e2⟩:=hq;rw[e1,e2]
    |halt x u'=>
     rw[hrun]at hq;exact hq.elim
   ·rw[if_neg hw]at h;have U:Region.wanted o (yielded ops a.tmps)=false:=by simpa using hw
    exact z2B (i:=i) (oi:=o) (v:=undef) (ch i) d.1 (Region.noSelect_spec hs) (fun c a w h=>PanTo.put c a _ _ w h) C J (z5w N) _ l a w (Region.free_spec d.1 hf) (by simpa using hr) (Or.inr ⟨U,rfl⟩) hS L (ih os _ _ w y d.2 A.2 I hS h)
theorem q6d(ch:Nat→List Nat)(rs:List (Nat × Nat))(fuel:Nat){F:Nat}{l:Array Bool}{a:Act}{w:World}(hF:F=fuel+(z43 rs).length)(hs:Region.noSelect ops=true)(hm:(z43 rs).map (ops[·]?)=(z2l ops.toList rs).map some)
  (hp:(z2l ops.toList rs).all (fun o=>z2Z o.op)=true) (hok:z6t ops st ch (z43 rs) l=true) (hS:S w)
  (h:wpQuiet P ops S (fun a'=>z0J P ops (PanTo Q R) S st fuel (z3o (z43 rs) l) a' w) (z2l ops.toList rs) a):z0J P ops (PanTo Q R) S st F l a w:=by
 subst hF;exact q0K ch hs (z43 rs) _ l a w fuel hm hp hok hS h
theorem q5C(ch:Nat→List Nat)(i:Nat)(d:Option Tmp)(v:Value)(fuel:Nat){F:Nat}{l:Array Bool}{a:Act}{w:World}(hF:F=fuel+1)(hs:Region.noSelect ops=true)(hd:(ops[i]?).map (·.dst)=some d)(hok:z6t ops st ch [i] l=true)
  (hw:(ops[i]?).map (fun o=>Region.wanted o (yielded ops a.tmps))=some true) (hrun:∀u,S u→(ops[i]?).map (fun o=>(execOp a.eval o).run P u)=some (.ok (.value v) u)) (hS:S w)
  (h:z0J P ops (PanTo Q R) S st fuel (z3o [i] l) (a.put d v) w):z0J P ops (PanTo Q R) S st F l a w:=by
 subst hF
 cases ho:ops[i]? with
 |none=>rw[ho]at hd;simp at hd
 |some o=>
  rw[ho]at hd hw hrun;simp only[Option.map_some,Option.some.injEq]at hd hw hrun;subst hd;simp only[z6t,Bool.and_eq_true,Bool.not_eq_true']at hok;obtain⟨⟨⟨⟨⟨⟨hf,hr⟩,hne⟩,hsc⟩,hwt⟩,hl⟩,_⟩:=hok;have hl':∀c∈ch i,l.getD c true=false:=fun c hc=>by simpa using List.all_eq_true.1 hl c hc
  have hne':i∉ch i:=fun h=>by
   have:=List.contains_iff_mem.2 h;rw[hne]at this
   cases this
  exact z2B (i:=i) (oi:=o) (v:=v) (ch i) ho (Region.noSelect_spec hs) (fun c a w h=>PanTo.put c a _ _ w h) hne' (List.contains_iff_mem.1 hsc) (z5w hwt) _ l a w (Region.free_spec ho hf) (by simpa using hr) (Or.inl ⟨hw,hrun⟩) hS hl' h
end
def z2C(c:Int)(p:USQ):USQ:=⟨p.va,z1R (c) p.us⟩
def nmUs(p:USQ):Nat:=p.us.length*3
theorem z8q(c:Int)(p:USQ):ussK.foot (z2C c p)=ussK.foot p:=by
 simp only[z2C,show∀p:USQ,ussK.foot p=undoK.fp p.va p.us from fun _=>rfl,z6h]
theorem q15(v:Value)(ps:List USQ)(c:Int)(w:World)(h:ussK.Own w v ps)(aj:(ussK.fp v ps).Nodup)(hl:(ps.length+nmL USQ.n ps)≤1048576)(h0:0≤c)(h1:c+(nmL nmUs ps:Int)≤1099511627776):
  Calls Tryz.prog 144 #[v,.int .i64 c] w fun e w'=>e=.returned (.int .i64 (c+(nmL nmUs ps:Int)))∧ussK.Own w' v (mkL z2C nmUs c ps)∧Out (ussK.fp v ps) w w':=by
 obtain⟨a,cap,rfl⟩:=h.shape;have L:∀k,k≤ps.length→ussK.fp (.slice a ps.length cap) (half z2C nmUs c ps k)=ussK.fp (.slice a ps.length cap) ps:=fun k hk=>z6F z8q _ c ps k
 have HF:Hid (∀k,k≤ps.length→ussK.fp (.slice a ps.length cap) (half z2C nmUs c ps k)=ussK.fp (.slice a ps.length cap) ps):=L;have HA:Hid (ussK.Own w (.slice a ps.length cap) (half z2C nmUs c ps 0)):=by rw[z3u];exact h
 clear L h;go_enter Tryz.func144,Tryz.ntmps144
 go_wp2
 go_loopw[1,5] (fun j i wr=>∃k:Nat,k≤ps.length∧j=.int .i64 (c+(nmL nmUs (ps.take k):Int))∧i=.int .i64 k∧Hid (ussK.Own wr (.slice a ps.length cap) (half z2C nmUs c ps k))∧Hid (Out (ussK.fp (.slice a ps.length cap) ps) w wr)) (fun _ i _=>ps.length-(intOf i).toNat)
 case atStart=>exact⟨0,Nat.zero_le _,by simp[nmL],rfl,HA,Out.refl _ _⟩
 case round=>
  clear HA;obtain⟨k,hk,rfl,rfl,HO,HU⟩:=hrel;by_cases C:k<ps.length
  ·have ar:(half z2C nmUs c ps k).length=ps.length:=z1C _ _ _ _ _ hk;have hO:=HO.out;obtain⟨g,rfl⟩:=hO.blkOf (by omega);have M:(ussK.fp (.slice (some ⟨g,0,none⟩) ps.length cap) (half z2C nmUs c ps k)).Nodup:=by rw[HF.out k hk];exact aj
   have O:Hid (∀x∈ussK.foot ps[k],x∈ussK.fp (.slice (some ⟨g,0,none⟩) ps.length cap) ps):=fun x hx=>by
    simp only[Kind.fp,List.mem_append,List.mem_flatMap];exact Or.inr ⟨_,List.getElem_mem C,hx⟩
   have af:Hid (∀x∈[g],x∈ussK.fp (.slice (some ⟨g,0,none⟩) ps.length cap) ps):=fun x hx=>by
    simp only[List.mem_singleton]at hx;subst hx;simp[Kind.fp,blk,Value.ownBlock]
   have Y:k<(half z2C nmUs c ps k).length:=by omega
   have A:=z4L z2C nmUs c ps k C;have z:ussK.Own wr (.slice (some ⟨g,0,none⟩) ps.length cap) ((half z2C nmUs c ps k).set k ps[k]):=by
    have e:(half z2C nmUs c ps k).set k ps[k]=half z2C nmUs c ps k:=by
     rw[←A,List.set_getElem_self]
    rw[e];exact hO
   have V:(ussK.fp (.slice (some ⟨g,0,none⟩) ps.length cap) ((half z2C nmUs c ps k).set k ps[k])).Nodup:=by
    have e:(half z2C nmUs c ps k).set k ps[k]=half z2C nmUs c ps k:=by
     rw[←A,List.set_getElem_self]
    rw[e];exact M
   clear A hO M;have N:=z4M z2C nmUs c ps k C;have am:=z1g nmUs ps k C;have ah:=z3t nmUs ps (k+1);have ao:=z1u USQ.n ps k C;have W:Hid ((nmL nmUs (ps.take (k+1)):Int)=(nmL nmUs (ps.take k):Int)+(nmUs ps[k]:Int)):=show _=_ by omega
   have an:(nmL nmUs (ps.take k):Int)+(nmUs ps[k]:Int)≤nmL nmUs ps:=by omega
   have J:Hid ((half z2C nmUs c ps k).set k (z2C (c+(nmL nmUs (ps.take k):Int)) ps[k])=half z2C nmUs c ps (k+1)):=N;clear N am ah HO;generalize half z2C nmUs c ps k=hs at*;generalize al:ps[k]=p at*;clear al;obtain⟨I,d⟩:=p;have T:k<hs.length:=Y;dsimp only[nmUs,USQ.n]at W an ao;generalize hy:(nmL nmUs (ps.take k):Int)=y at*;have au:0≤y:=by omega
   clear hy;obtain⟨c0,f0⟩:=z.cell' T 0 (I) rfl;rw[show k*ussK.size+0=k from by show k*1+0=k;omega]at c0 f0;have X:=z.elem' T;have U:undoK.Own wr I d:=X;have Z:=z8W I d (c+y) _ U (by omega) (by omega) (by omega);obtain⟨ap,aq,ab⟩:=U.shape;subst ab;clear X U
   go_wp2_with fail
   refine Z.mono ?_;rintro e ad ⟨rfl,ai,aa⟩;clear Z;obtain⟨ae,ak⟩:=z.turn' V T (⟨.slice ap d.length aq,z1R (c+y) d⟩:USQ) aa (fun x hx=>hx) rfl (by exact z6h _ _ _) (ai);have HU:Hid (Out (ussK.fp (.slice (some ⟨g,0,none⟩) ps.length cap) ps) w ad):=HU.out.trans (aa.mono (fun x hx=>O.out x (show x∈ussK.foot _ from(fun x hx=>hx) x hx)));have z:=ae;have V:=ak;have R:Hid (ussK.Own ad (.slice (some ⟨g,0,none⟩) ps.length cap) (half z2C nmUs c ps (k+1))):=by rw[←J.out];exact z
   clear z V J O af
   go_wp2
   go_roundw
   case rel=>exact⟨k+1,by omega,by rw[W.out];congr 1;omega,by go_num,R.out,HU.out⟩
   case measure=>simp[intOf];omega
  ·have ag:k=ps.length:=by omega
   subst ag;have hO:=HO.out;rw[z4K]at hO;rw[List.take_length];clear HF HO
   go_wp2
   go_ret;exact⟨rfl,hO,HU.out⟩
theorem q16(v:Value)(ps:List USQ)(c:Int)(w:World)(h:ussK.At w v (mkL z2C nmUs c ps))(hl:(ps.length+nmL USQ.n ps)≤1048576)(h0:0≤c)(h1:c+(nmL nmUs ps:Int)≤1099511627776):
  Calls Tryz.prog 199 #[v,.int .i64 c] w fun e w'=>e=.returned (.int .i64 (c+(nmL nmUs ps:Int)))∧Below w.heap.size w w':=by
 obtain⟨a,cap,rfl⟩:=h.shape;have C:=z1o z2C nmUs c ps;rw[C]at h⊢;have HM:Hid ((mkL z2C nmUs c ps).length=ps.length):=C;clear C;go_enter Tryz.func199,Tryz.ntmps199
 go_wp2
 go_loopw[1,5] (fun j i wr=>∃k:Nat,k≤ps.length∧j=.int .i64 (c+(nmL nmUs (ps.take k):Int))∧i=.int .i64 k∧Below w.heap.size w wr) (fun _ i _=>ps.length-(intOf i).toNat)
 case atStart=>exact⟨0,Nat.zero_le _,by simp[nmL],rfl,Below.refl _ _⟩
 case round=>
  obtain⟨k,hk,rfl,rfl,hb⟩:=hrel;by_cases A:k<ps.length
  ·have N:k<(mkL z2C nmUs c ps).length:=by have:=HM.out;omega
   obtain⟨b,aa,rfl,ab,hc,O⟩:=(h.below hb).cell (by decide) k N;rw[z8O z2C nmUs c ps k A]at hc O;have X:=z1g nmUs ps k A;have V:=z3t nmUs ps (k+1);have Z:=z1u USQ.n ps k A;have I:Hid ((nmL nmUs (ps.take (k+1)):Int)=(nmL nmUs (ps.take k):Int)+(nmUs ps[k]:Int)):=show _=_ by omega
   have Y:(nmL nmUs (ps.take k):Int)+(nmUs ps[k]:Int)≤nmL nmUs ps:=by omega
   clear X V h;generalize W:ps[k]=p at*;clear W;obtain⟨z,d⟩:=p;dsimp only[nmUs,USQ.n]at I Y Z;generalize hy:(nmL nmUs (ps.take k):Int)=y at*;have ad:0≤y:=by omega
   clear hy;have L:∀j x,(ussK.cells (z2C (c+y) (⟨z,d⟩:USQ)))[j]?=some x→wr.cell? ⟨b,aa+k+j,none⟩=some x:=fun j x hx=>by have:=hc j x hx;rwa [show k*ussK.size=k from Nat.mul_one k]at this
   clear hc;have c0:=L 0 (z) rfl;have r0:undoK.At wr z (z1R (c+y) d):=O;have M:=fun w h=>z8X z d (c+y) w h (by omega) (by omega) (by omega)
   obtain⟨af,ag,T⟩:=r0.shape;subst T;rw[Nat.add_zero]at c0;clear L;have ae:¬(c+y+((d.length*3:Nat):Int)<0):=by omega
   go_wp2_with fail
   refine(M wr r0).mono ?_;rintro e w0 ⟨rfl,J⟩;replace hb:=hb.trans (J.mono hb.size);clear J M c0
   go_wp2
   go_roundw
   case rel=>exact⟨k+1,by omega,by rw[I.out];congr 1;omega,by go_num,hb⟩
   case measure=>simp[intOf];omega
  ·have U:k=ps.length:=by omega
   subst U;rw[List.take_length]
   go_wp2
   go_ret;exact⟨rfl,hb⟩
def mkRep(c:Int):RepQ→RepQ
 |⟨vd,done,vb,base,vt,tent,vu,undos,vn,now⟩=>⟨vd,mkL z0N nmTxn (c) done,vb,mkItems (c+((nmL nmTxn done:Nat):Int)) base,vt,mkL z0N nmTxn (c+((nmL nmTxn done:Nat):Int)+((base.length*2:Nat):Int)) tent,vu,mkL z2C nmUs (c+((nmL nmTxn done:Nat):Int)+((base.length*2:Nat):Int)+((nmL nmTxn tent:Nat):Int)) undos,vn,mkItems (c+((nmL nmTxn done:Nat):Int)+((base.length*2:Nat):Int)+((nmL nmTxn tent:Nat):Int)+((nmL nmUs undos:Nat):Int)) now⟩
def nmRep:RepQ→Nat
 |⟨vd,done,vb,base,vt,tent,vu,undos,vn,now⟩=>nmL nmTxn done+base.length*2+nmL nmTxn tent+nmL nmUs undos+now.length*2
theorem z2R(ps:List TxnQ):nmL nmTxn ps≤3*(ps.length+nmL TxnQ.n ps):=by
 induction ps with
 |nil=>simp[nmL]
 |cons p r ih=>
  simp only[nmL,List.map_cons,List.sum_cons,List.length_cons]at ih⊢;simp only[nmTxn,TxnQ.n]at ih⊢;omega
theorem z7j(ps:List USQ):nmL nmUs ps≤3*(ps.length+nmL USQ.n ps):=by
 induction ps with
 |nil=>simp[nmL]
 |cons p r ih=>
  simp only[nmL,List.map_cons,List.sum_cons,List.length_cons]at ih⊢;simp only[nmUs,USQ.n]at ih⊢;omega
theorem z7k(p:RepQ)(c:Int)(w:World)(h:repK.own w p)(ad:(repK.foot p).Nodup)(hl:RepQ.n p≤1048576)(h0:0≤c)(h1:c≤1000000000):
  Calls Tryz.prog 88 #[.agg #[p.vd,p.vb,p.vt,p.vu,p.vn],.int .i64 c] w fun e w'=>e=.returned (.int .i64 (c+(nmRep p:Int)))∧repK.own w' (mkRep c p)∧Out (repK.foot p) w w':=by
 obtain⟨vd,done,vb,base,vt,y,vu,x,vn,z⟩:=p;obtain⟨o0,o1,o2,o3,o4⟩:txnK.Own w vd done∧itemK.Own w vb base∧txnK.Own w vt y∧ussK.Own w vu x∧itemK.Own w vn z:=h;obtain⟨n0,r0,x0⟩:=List.nodup_append.1 ad;obtain⟨n1,r1,x1⟩:=List.nodup_append.1 r0;obtain⟨n2,r2,x2⟩:=List.nodup_append.1 r1;obtain⟨n3,n4,x3⟩:=List.nodup_append.1 r2;have ae:∀k∈itemK.fp vb base,k∉txnK.fp vd done:=fun k hk A=>x0 k A k (List.mem_append_left _ hk) rfl
 have ai:∀k∈txnK.fp vd done,k∉itemK.fp vb base:=fun k A hk=>x0 k A k (List.mem_append_left _ hk) rfl
 have af:∀k∈txnK.fp vt y,k∉txnK.fp vd done:=fun k hk A=>x0 k A k (List.mem_append_right _ (List.mem_append_left _ hk)) rfl
 have am:∀k∈txnK.fp vd done,k∉txnK.fp vt y:=fun k A hk=>x0 k A k (List.mem_append_right _ (List.mem_append_left _ hk)) rfl
 have ag:∀k∈ussK.fp vu x,k∉txnK.fp vd done:=fun k hk A=>x0 k A k (List.mem_append_right _ (List.mem_append_right _ (List.mem_append_left _ hk))) rfl
 have aq:∀k∈txnK.fp vd done,k∉ussK.fp vu x:=fun k A hk=>x0 k A k (List.mem_append_right _ (List.mem_append_right _ (List.mem_append_left _ hk))) rfl
 have ah:∀k∈itemK.fp vn z,k∉txnK.fp vd done:=fun k hk A=>x0 k A k (List.mem_append_right _ (List.mem_append_right _ (List.mem_append_right _ hk))) rfl
 have aw:∀k∈txnK.fp vd done,k∉itemK.fp vn z:=fun k A hk=>x0 k A k (List.mem_append_right _ (List.mem_append_right _ (List.mem_append_right _ hk))) rfl
 have aj:∀k∈txnK.fp vt y,k∉itemK.fp vb base:=fun k hk A=>x1 k A k (List.mem_append_left _ hk) rfl
 have an:∀k∈itemK.fp vb base,k∉txnK.fp vt y:=fun k A hk=>x1 k A k (List.mem_append_left _ hk) rfl
 have ak:∀k∈ussK.fp vu x,k∉itemK.fp vb base:=fun k hk A=>x1 k A k (List.mem_append_right _ (List.mem_append_left _ hk)) rfl
 have ar:∀k∈itemK.fp vb base,k∉ussK.fp vu x:=fun k A hk=>x1 k A k (List.mem_append_right _ (List.mem_append_left _ hk)) rfl
 have al:∀k∈itemK.fp vn z,k∉itemK.fp vb base:=fun k hk A=>x1 k A k (List.mem_append_right _ (List.mem_append_right _ hk)) rfl
 have ax:∀k∈itemK.fp vb base,k∉itemK.fp vn z:=fun k A hk=>x1 k A k (List.mem_append_right _ (List.mem_append_right _ hk)) rfl
 have ao:∀k∈ussK.fp vu x,k∉txnK.fp vt y:=fun k hk A=>x2 k A k (List.mem_append_left _ hk) rfl
 have au:∀k∈txnK.fp vt y,k∉ussK.fp vu x:=fun k A hk=>x2 k A k (List.mem_append_left _ hk) rfl
 have ap:∀k∈itemK.fp vn z,k∉txnK.fp vt y:=fun k hk A=>x2 k A k (List.mem_append_right _ hk) rfl
 have ay:∀k∈txnK.fp vt y,k∉itemK.fp vn z:=fun k A hk=>x2 k A k (List.mem_append_right _ hk) rfl
 have av:∀k∈itemK.fp vn z,k∉ussK.fp vu x:=fun k hk A=>x3 k A k hk rfl
 have az:∀k∈ussK.fp vu x,k∉itemK.fp vn z:=fun k A hk=>x3 k A k hk rfl
 have n0:(txnK.fp vd done).Nodup:=n0;have n1:(itemK.fp vb base).Nodup:=n1;have n2:(txnK.fp vt y).Nodup:=n2;have n3:(ussK.fp vu x).Nodup:=n3;have n4:(itemK.fp vn z).Nodup:=n4;clear ad r0 r1 r2 x0 x1 x2 x3;dsimp only[RepQ.n]at hl;have t0:=z2R done;have t2:=z2R y;have t3:=z7j x;have M:Hid (∀ {w w':World},Out (txnK.fp vd done) w w'→Out (repK.foot ⟨vd,done,vb,base,vt,y,vu,x,vn,z⟩) w w'):=fun h=>h.mono (fun k hk=>(List.mem_append_left _ hk))
 have N:Hid (∀ {w w':World},Out (itemK.fp vb base) w w'→Out (repK.foot ⟨vd,done,vb,base,vt,y,vu,x,vn,z⟩) w w'):=fun h=>h.mono (fun k hk=>(List.mem_append_right _ (List.mem_append_left _ hk)))
 have O:Hid (∀ {w w':World},Out (txnK.fp vt y) w w'→Out (repK.foot ⟨vd,done,vb,base,vt,y,vu,x,vn,z⟩) w w'):=fun h=>h.mono (fun k hk=>(List.mem_append_right _ (List.mem_append_right _ (List.mem_append_left _ hk))))
 have T:Hid (∀ {w w':World},Out (ussK.fp vu x) w w'→Out (repK.foot ⟨vd,done,vb,base,vt,y,vu,x,vn,z⟩) w w'):=fun h=>h.mono (fun k hk=>(List.mem_append_right _ (List.mem_append_right _ (List.mem_append_right _ (List.mem_append_left _ hk)))))
 have U:Hid (∀ {w w':World},Out (itemK.fp vn z) w w'→Out (repK.foot ⟨vd,done,vb,base,vt,y,vu,x,vn,z⟩) w w'):=fun h=>h.mono (fun k hk=>(List.mem_append_right _ (List.mem_append_right _ (List.mem_append_right _ (List.mem_append_right _ hk)))))
 have X:=fun w h=>z3Z vd done (c) w h n0 (by omega) (by omega) (by omega)
 have Y:=fun w h=>z5e vb base (c+((nmL nmTxn done:Nat):Int)) w h (by omega) (by omega) (by omega)
 have Z:=fun w h=>z3Z vt y (c+((nmL nmTxn done:Nat):Int)+((base.length*2:Nat):Int)) w h n2 (by omega) (by omega) (by omega)
 have aa:=fun w h=>q15 vu x (c+((nmL nmTxn done:Nat):Int)+((base.length*2:Nat):Int)+((nmL nmTxn y:Nat):Int)) w h n3 (by omega) (by omega) (by omega)
 have ab:=fun w h=>z5e vn z (c+((nmL nmTxn done:Nat):Int)+((base.length*2:Nat):Int)+((nmL nmTxn y:Nat):Int)+((nmL nmUs x:Nat):Int)) w h (by omega) (by omega) (by omega)
 have e0:∀c,txnK.fp vd (mkL z0N nmTxn c done)=txnK.fp vd done:=fun c=>z7I z2K _ _ _
 have e1:∀c,itemK.fp vb (mkItems c base)=itemK.fp vb base:=fun c=>q0m c vb base
 have e2:∀c,txnK.fp vt (mkL z0N nmTxn c y)=txnK.fp vt y:=fun c=>z7I z2K _ _ _
 have e3:∀c,ussK.fp vu (mkL z2C nmUs c x)=ussK.fp vu x:=fun c=>z7I z8q _ _ _
 have HR:Hid (∀w',txnK.Own w' vd (mkL z0N nmTxn (c) done)→itemK.Own w' vb (mkItems (c+((nmL nmTxn done:Nat):Int)) base)→txnK.Own w' vt (mkL z0N nmTxn (c+((nmL nmTxn done:Nat):Int)+((base.length*2:Nat):Int)) y)→ussK.Own w' vu (mkL z2C nmUs (c+((nmL nmTxn done:Nat):Int)+((base.length*2:Nat):Int)+((nmL nmTxn y:Nat):Int)) x)→itemK.Own w' vn (mkItems (c+((nmL nmTxn done:Nat):Int)+((base.length*2:Nat):Int)+((nmL nmTxn y:Nat):Int)+((nmL nmUs x:Nat):Int)) z)→repK.own w' (mkRep c ⟨vd,done,vb,base,vt,y,vu,x,vn,z⟩)):=fun w' a b c d e=>⟨a,b,c,d,e⟩
 have HS:Hid ((c+((nmL nmTxn done:Nat):Int)+((base.length*2:Nat):Int)+((nmL nmTxn y:Nat):Int)+((nmL nmUs x:Nat):Int)+((z.length*2:Nat):Int):Int)=c+(nmRep ⟨vd,done,vb,base,vt,y,vu,x,vn,z⟩:Int)):=show _=_ by dsimp only[nmRep];omega
 obtain⟨a0,k0,rfl⟩:=o0.shape;obtain⟨a1,k1,rfl⟩:=o1.shape;obtain⟨a2,k2,rfl⟩:=o2.shape;obtain⟨a3,k3,rfl⟩:=o3.shape;obtain⟨a4,k4,rfl⟩:=o4.shape;have B:=Blk.new w 29 #[.slice a0 done.length k0,.slice a1 base.length k1,.slice a2 y.length k2,.slice a3 x.length k3,.slice a4 z.length k4];have hB:Below w.heap.size w (w.alloc (.cells #[.slice a0 done.length k0,.slice a1 base.length k1,.slice a2 y.length k2,.slice a3 x.length k3,.slice a4 z.length k4] 29)):=by go_grown
 have C:=o0.lt;have I:=o1.lt;have J:=o2.lt;have L:=o3.lt;have V:=o4.lt;have HB:Hid (w.heap.size∉txnK.fp (.slice a0 done.length k0) done∧w.heap.size∉itemK.fp (.slice a1 base.length k1) base∧w.heap.size∉txnK.fp (.slice a2 y.length k2) y∧w.heap.size∉ussK.fp (.slice a3 x.length k3) x):=⟨fun e=>Nat.lt_irrefl _ (C _ e),fun e=>Nat.lt_irrefl _ (I _ e),fun e=>Nat.lt_irrefl _ (J _ e),fun e=>Nat.lt_irrefl _ (L _ e)⟩
 clear C I J L V t0 t2 t3;replace o0:=o0.below hB;replace o1:=o1.below hB;replace o2:=o2.below hB;replace o3:=o3.below hB;replace o4:=o4.below hB;have HU:Hid (Out (repK.foot ⟨.slice a0 done.length k0,done,.slice a1 base.length k1,base,.slice a2 y.length k2,y,.slice a3 x.length k3,x,.slice a4 z.length k4,z⟩) w _):=Out.of_below hB;clear hB;generalize nmRep ⟨.slice a0 done.length k0,done,.slice a1 base.length k1,base,.slice a2 y.length k2,y,.slice a3 x.length k3,x,.slice a4 z.length k4,z⟩=NR at*;generalize mkRep c ⟨.slice a0 done.length k0,done,.slice a1 base.length k1,base,.slice a2 y.length k2,y,.slice a3 x.length k3,x,.slice a4 z.length k4,z⟩=MR at*;generalize ((nmL nmTxn done:Nat):Int)=C0 at*;generalize ((base.length*2:Nat):Int)=C1 at*;generalize ((nmL nmTxn y:Nat):Int)=C2 at*;generalize ((nmL nmUs x:Nat):Int)=C3 at*;generalize ((z.length*2:Nat):Int)=C4 at*;have p0:=B.cell 0 _ rfl;go_enter Tryz.func88,Tryz.ntmps88
 go_wp2_with fail
 generalize w.alloc (.cells #[.slice a0 done.length k0,.slice a1 base.length k1,.slice a2 y.length k2,.slice a3 x.length k3,.slice a4 z.length k4] 29)=W at*;clear p0;refine(X W o0).mono ?_;rintro e w1 ⟨rfl,O0,u0⟩;replace o1:=o1.out u0 ae;replace o2:=o2.out u0 af;replace o3:=o3.out u0 ag;replace o4:=o4.out u0 ah;replace B:Blk w1 _ _ _:=(u0.block _ B.lt HB.out.1).trans B;have HV:Hid (Out (repK.foot ⟨.slice a0 done.length k0,done,.slice a1 base.length k1,base,.slice a2 y.length k2,y,.slice a3 x.length k3,x,.slice a4 z.length k4,z⟩) w w1):=HU.out.trans (M.out u0);clear HU;have HU:=HV;clear HV X o0 u0;have q:=B.cell 1 _ rfl
 go_wp2_with fail
 clear q;refine(Y w1 o1).mono ?_;rintro e w2 ⟨rfl,O1,u1⟩;replace O0:=O0.out u1 (by rw[e0];exact ai);replace o2:=o2.out u1 aj;replace o3:=o3.out u1 ak;replace o4:=o4.out u1 al;replace B:Blk w2 _ _ _:=(u1.block _ B.lt HB.out.2.1).trans B;have HV:Hid (Out (repK.foot ⟨.slice a0 done.length k0,done,.slice a1 base.length k1,base,.slice a2 y.length k2,y,.slice a3 x.length k3,x,.slice a4 z.length k4,z⟩) w w2):=HU.out.trans (N.out u1);clear HU;have HU:=HV;clear HV Y o1 u1;have q:=B.cell 2 _ rfl
 go_wp2_with fail
 clear q;refine(Z w2 o2).mono ?_;rintro e w3 ⟨rfl,O2,u2⟩;replace O0:=O0.out u2 (by rw[e0];exact am);replace O1:=O1.out u2 (by rw[e1];exact an);replace o3:=o3.out u2 ao;replace o4:=o4.out u2 ap;replace B:Blk w3 _ _ _:=(u2.block _ B.lt HB.out.2.2.1).trans B;have HV:Hid (Out (repK.foot ⟨.slice a0 done.length k0,done,.slice a1 base.length k1,base,.slice a2 y.length k2,y,.slice a3 x.length k3,x,.slice a4 z.length k4,z⟩) w w3):=HU.out.trans (O.out u2);clear HU;have HU:=HV;clear HV Z o2 u2;have q:=B.cell 3 _ rfl
 go_wp2_with fail
 clear q;refine(aa w3 o3).mono ?_;rintro e w4 ⟨rfl,O3,u3⟩;replace O0:=O0.out u3 (by rw[e0];exact aq);replace O1:=O1.out u3 (by rw[e1];exact ar);replace O2:=O2.out u3 (by rw[e2];exact au);replace o4:=o4.out u3 av;replace B:Blk w4 _ _ _:=(u3.block _ B.lt HB.out.2.2.2).trans B;have HV:Hid (Out (repK.foot ⟨.slice a0 done.length k0,done,.slice a1 base.length k1,base,.slice a2 y.length k2,y,.slice a3 x.length k3,x,.slice a4 z.length k4,z⟩) w w4):=HU.out.trans (T.out u3);clear HU;have HU:=HV;clear HV aa o3 u3;have q:=B.cell 4 _ rfl
 go_wp2_with fail
 clear q;refine(ab w4 o4).mono ?_;rintro e w5 ⟨rfl,O4,u4⟩;replace O0:=O0.out u4 (by rw[e0];exact aw);replace O1:=O1.out u4 (by rw[e1];exact ax);replace O2:=O2.out u4 (by rw[e2];exact ay);replace O3:=O3.out u4 (by rw[e3];exact az);have HV:Hid (Out (repK.foot ⟨.slice a0 done.length k0,done,.slice a1 base.length k1,base,.slice a2 y.length k2,y,.slice a3 x.length k3,x,.slice a4 z.length k4,z⟩) w w5):=HU.out.trans (U.out u4);clear HU;have HU:=HV;clear HV ab o4 u4;have R:=HR.out w5 O0 O1 O2 O3 O4;clear B O0 O1 O2 O3 O4 HB HR M N O T U e0 e1 e2 e3
 go_wp2
 go_ret;exact⟨by rw[HS.out];rfl,R,HU.out⟩
theorem z7l(p:RepQ)(c:Int)(w:World)(h:repK.rd w (mkRep c p))(hl:RepQ.n p≤1048576)(h0:0≤c)(h1:c≤1000000000):
  Calls Tryz.prog 145 #[.agg #[p.vd,p.vb,p.vt,p.vu,p.vn],.int .i64 c] w fun e w'=>e=.returned (.int .i64 (c+(nmRep p:Int)))∧Below w.heap.size w w':=by
 obtain⟨vd,done,vb,base,vt,d,vu,x,vn,y⟩:=p;obtain⟨o0,o1,o2,o3,o4⟩:txnK.At w vd (mkL z0N nmTxn (c) done)∧itemK.At w vb (mkItems (c+((nmL nmTxn done:Nat):Int)) base)∧txnK.At w vt (mkL z0N nmTxn (c+((nmL nmTxn done:Nat):Int)+((base.length*2:Nat):Int)) d)∧ussK.At w vu (mkL z2C nmUs (c+((nmL nmTxn done:Nat):Int)+((base.length*2:Nat):Int)+((nmL nmTxn d:Nat):Int)) x)∧itemK.At w vn (mkItems (c+((nmL nmTxn done:Nat):Int)+((base.length*2:Nat):Int)+((nmL nmTxn d:Nat):Int)+((nmL nmUs x:Nat):Int)) y):=h;dsimp only[RepQ.n]at hl;have t0:=z2R done;have t2:=z2R d;have t3:=z7j x;have z:=fun w h=>z6q vd done (c) w h (by omega) (by omega) (by omega)
 have A:=fun w h=>z5f vb base (c+((nmL nmTxn done:Nat):Int)) w h (by omega) (by omega) (by omega)
 have C:=fun w h=>z6q vt d (c+((nmL nmTxn done:Nat):Int)+((base.length*2:Nat):Int)) w h (by omega) (by omega) (by omega)
 have I:=fun w h=>q16 vu x (c+((nmL nmTxn done:Nat):Int)+((base.length*2:Nat):Int)+((nmL nmTxn d:Nat):Int)) w h (by omega) (by omega) (by omega)
 have J:=fun w h=>z5f vn y (c+((nmL nmTxn done:Nat):Int)+((base.length*2:Nat):Int)+((nmL nmTxn d:Nat):Int)+((nmL nmUs x:Nat):Int)) w h (by omega) (by omega) (by omega)
 have HS:Hid ((c+((nmL nmTxn done:Nat):Int)+((base.length*2:Nat):Int)+((nmL nmTxn d:Nat):Int)+((nmL nmUs x:Nat):Int)+((y.length*2:Nat):Int):Int)=c+(nmRep ⟨vd,done,vb,base,vt,d,vu,x,vn,y⟩:Int)):=show _=_ by dsimp only[nmRep];omega
 have g1:¬c+((nmL nmTxn done:Nat):Int)<0:=by omega
 have g2:¬c+((nmL nmTxn done:Nat):Int)+((base.length*2:Nat):Int)<0:=by omega
 have g3:¬c+((nmL nmTxn done:Nat):Int)+((base.length*2:Nat):Int)+((nmL nmTxn d:Nat):Int)<0:=by omega
 have g4:¬c+((nmL nmTxn done:Nat):Int)+((base.length*2:Nat):Int)+((nmL nmTxn d:Nat):Int)+((nmL nmUs x:Nat):Int)<0:=by omega
 have g5:¬c+((nmL nmTxn done:Nat):Int)+((base.length*2:Nat):Int)+((nmL nmTxn d:Nat):Int)+((nmL nmUs x:Nat):Int)+((y.length*2:Nat):Int)<0:=by omega
 obtain⟨a0,k0,rfl⟩:=o0.shape;obtain⟨a1,k1,rfl⟩:=o1.shape;obtain⟨a2,k2,rfl⟩:=o2.shape;obtain⟨a3,k3,rfl⟩:=o3.shape;obtain⟨a4,k4,rfl⟩:=o4.shape;generalize L:(mkL z0N nmTxn (c) done).length=L0 at*;generalize M:(mkItems (c+((nmL nmTxn done:Nat):Int)) base).length=L1 at*;generalize N:(mkL z0N nmTxn (c+((nmL nmTxn done:Nat):Int)+((base.length*2:Nat):Int)) d).length=L2 at*;generalize O:(mkL z2C nmUs (c+((nmL nmTxn done:Nat):Int)+((base.length*2:Nat):Int)+((nmL nmTxn d:Nat):Int)) x).length=L3 at*;generalize T:(mkItems (c+((nmL nmTxn done:Nat):Int)+((base.length*2:Nat):Int)+((nmL nmTxn d:Nat):Int)+((nmL nmUs x:Nat):Int)) y).length=L4 at*;generalize mkL z0N nmTxn (c) done=M0 at*;generalize mkItems (c+((nmL nmTxn done:Nat):Int)) base=M1 at*;generalize mkL z0N nmTxn (c+((nmL nmTxn done:Nat):Int)+((base.length*2:Nat):Int)) d=M2 at*;generalize mkL z2C nmUs (c+((nmL nmTxn done:Nat):Int)+((base.length*2:Nat):Int)+((nmL nmTxn d:Nat):Int)) x=M3 at*;generalize mkItems (c+((nmL nmTxn done:Nat):Int)+((base.length*2:Nat):Int)+((nmL nmTxn d:Nat):Int)+((nmL nmUs x:Nat):Int)) y=M4 at*;clear L M N O T t0 t2 t3;generalize ((nmL nmTxn done:Nat):Int)=C0 at*;generalize ((base.length*2:Nat):Int)=C1 at*;generalize ((nmL nmTxn d:Nat):Int)=C2 at*;generalize ((nmL nmUs x:Nat):Int)=C3 at*;generalize ((y.length*2:Nat):Int)=C4 at*;generalize nmRep _=NR at*;have B:=Blk.new w 29 #[.slice a0 L0 k0,.slice a1 L1 k1,.slice a2 L2 k2,.slice a3 L3 k3,.slice a4 L4 k4];have hB:Below w.heap.size w (w.alloc (.cells #[.slice a0 L0 k0,.slice a1 L1 k1,.slice a2 L2 k2,.slice a3 L3 k3,.slice a4 L4 k4] 29)):=by go_grown
 have p0:=B.cell 0 _ rfl;go_enter Tryz.func145,Tryz.ntmps145
 go_wp2_with fail
 generalize w.alloc (.cells #[.slice a0 L0 k0,.slice a1 L1 k1,.slice a2 L2 k2,.slice a3 L3 k3,.slice a4 L4 k4] 29)=W at*;clear p0;refine(z W (o0.below hB)).mono ?_;rintro e w1 ⟨rfl,hb⟩;replace B:=B.below hb;replace hB:=hB.trans (hb.mono hB.size);clear z hb;have q:=B.cell 1 _ rfl
 go_wp2_with fail
 clear q;refine(A w1 (o1.below hB)).mono ?_;rintro e w2 ⟨rfl,hb⟩;replace B:=B.below hb;replace hB:=hB.trans (hb.mono hB.size);clear A hb;have q:=B.cell 2 _ rfl
 go_wp2_with fail
 clear q;refine(C w2 (o2.below hB)).mono ?_;rintro e w3 ⟨rfl,hb⟩;replace B:=B.below hb;replace hB:=hB.trans (hb.mono hB.size);clear C hb;have q:=B.cell 3 _ rfl
 go_wp2_with fail
 clear q;refine(I w3 (o3.below hB)).mono ?_;rintro e w4 ⟨rfl,hb⟩;replace B:=B.below hb;replace hB:=hB.trans (hb.mono hB.size);clear I hb;have q:=B.cell 4 _ rfl
 go_wp2_with fail
 clear q;refine(J w4 (o4.below hB)).mono ?_;rintro e w5 ⟨rfl,hb⟩;replace B:=B.below hb;replace hB:=hB.trans (hb.mono hB.size);clear J hb;clear B
 go_wp2
 go_ret;exact⟨by rw[HS.out];rfl,hB⟩
theorem z8r{p:RepQ}{c:Int}{w:World}(h:repK.rd w (mkRep c p)):(∃a l k,p.vd=.slice a l k)∧(∃a l k,p.vb=.slice a l k)∧(∃a l k,p.vt=.slice a l k)∧(∃a l k,p.vu=.slice a l k)∧(∃a l k,p.vn=.slice a l k):=by
 obtain⟨vd,done,vb,base,vt,tent,vu,undos,vn,now⟩:=p;obtain⟨h0,h1,h2,h3,h4⟩:=h;obtain⟨a0,k0,e0⟩:=h0.shape;obtain⟨a1,k1,e1⟩:=h1.shape;obtain⟨a2,k2,e2⟩:=h2.shape;obtain⟨a3,k3,e3⟩:=h3.shape;obtain⟨a4,k4,e4⟩:=h4.shape;exact⟨⟨_,_,_,e0⟩,⟨_,_,_,e1⟩,⟨_,_,_,e2⟩,⟨_,_,_,e3⟩,⟨_,_,_,e4⟩⟩
theorem q53{ps qs:List USQ}(h:ps.map USQ.e=qs.map USQ.e):ps.length+nmL USQ.n ps=qs.length+nmL USQ.n qs:=by
 have e:∀l:List USQ,nmL USQ.n l=nmL List.length (l.map USQ.e):=fun l=>by simp only[nmL,List.map_map];rfl
 have hl:ps.length=qs.length:=by simpa using congrArg List.length h
 rw[e,e,h,hl]
theorem q5D{ps qs:List TxnQ}(h:ps.map TxnQ.e=qs.map TxnQ.e):ps.length+nmL TxnQ.n ps=qs.length+nmL TxnQ.n qs:=by
 have e:∀l:List TxnQ,nmL TxnQ.n l=nmL TxnD.n (l.map TxnQ.e):=fun l=>by simp only[nmL,List.map_map];rfl
 have hl:ps.length=qs.length:=by simpa using congrArg List.length h
 rw[e,e,h,hl]
theorem q4K{p q:RepQ}(h:p.e=q.e):p.n=q.n:=by
 simp only[RepQ.e,RepE.mk.injEq]at h;obtain⟨h0,h1,h2,h3,h4⟩:=h;simp only[RepQ.n];have a0:=q5D h0;have a2:=q5D h2;have a3:=q53 h3;rw[h1,h4];omega
end Go.Proofs.YtlkpdgjnhkjpjaaGreatDoor
