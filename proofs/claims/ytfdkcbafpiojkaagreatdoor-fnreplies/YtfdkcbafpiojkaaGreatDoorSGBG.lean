/- Texts joined, with what the laws reach alone. -/
import Derived.Test.YtfdkcbafpiojkaaGreatDoorSGAY
import Derived.Test.YtfdkcbafpiojkaaGreatDoorSGBF
set_option linter.unusedVariables false
set_option linter.unusedSimpArgs false
namespace Go.Proofs.YtfdkcbafpiojkaaGreatDoor
open Go.RowKit Go.Maps
set_option maxRecDepth 100000
theorem allCd_length:∀ (ds:List TxnD) (xs:List ItemD),(allCd xs ds).length=ds.length
 | [],_=>rfl
 | t :: r,xs=>by simp [allCd,allCd_length r]

theorem allVl_length:∀ (ds:List TxnD) (xs:List ItemD),(allVl xs ds).length=ds.length
 | [],_=>rfl
 | t :: r,xs=>by simp [allVl,allVl_length r]

end Go.Proofs.YtfdkcbafpiojkaaGreatDoor
namespace Go.Proofs.YtfdkcbafpiojkaaGreatDoor
open Go.RowKit
open Go.BigFrame
set_option maxRecDepth 100000
/-- Is one of them known? -/
def frK (d fs:List TxnD):Bool:=fs.any (fun t=>knw d t)

theorem frK_yes {d fs:List TxnD} {t:TxnD} (h:t∈fs) (hk:knw d t=true):frK d fs=true:=List.any_eq_true.2 ⟨t,h,hk⟩

theorem frK_no {d fs:List TxnD} (h:∀ j,j < fs.length→knw d (fs.getD j txnNo')=false):frK d fs=false:=by
 unfold frK
 rw [List.any_eq_false]
 intro t ht
 obtain ⟨j,hj,rfl⟩:=List.mem_iff_getElem.1 ht
 have:=h j hj
 simpa [List.getD,hj] using this

def dlC (r:RepE) (fs:List TxnD):Int:=if repF r=0 then (if lstF fs=0 then (if frK r.done fs=true then 6 else if 16 < r.done.length + fs.length then 7 else 0) else lstF fs) else repF r

def dlA (r:RepE) (fs:List TxnD):Int:=if dlC r fs=0 then plB r.tent fs else 0

def dlE (r:RepE) (fs:List TxnD):RepE:=if dlC r fs=0 then mkR (r.done ++ fs) (plK r.tent fs) else ⟨[],[],[],[],[]⟩

theorem dlC_ways (r:RepE) (fs:List TxnD):(repF r≠0∧dlC r fs=repF r)∨(repF r=0∧lstF fs≠0∧dlC r fs=lstF fs)∨(repF r=0∧lstF fs=0∧frK r.done fs=true∧dlC r fs=6) ∨
  (repF r=0∧lstF fs=0∧frK r.done fs=false∧16 < r.done.length + fs.length∧dlC r fs=7)∨(repF r=0∧lstF fs=0∧frK r.done fs=false∧¬ 16 < r.done.length + fs.length∧dlC r fs=0):=by
 unfold dlC
 by_cases h0:repF r=0
 ·by_cases h1:lstF fs=0
  ·cases h2:frK r.done fs <;> by_cases h4:16 < r.done.length + fs.length <;> simp [h0,h1,h2,h4]
  ·simp [h0,h1]
 ·simp [h0]

theorem witL_sub9 {ds es:List TxnD} {t:TxnD} (h:t∈witL ds es):t∈ds:=by
 unfold witL at h
 exact (List.mem_filter.1 h).1

theorem plK_sub9 {ds fs:List TxnD} {t:TxnD} (h:t∈plK ds fs):t∈ds:=by
 unfold plK at h
 split at h
 ·split at h
  ·exact List.mem_of_mem_drop h
  ·exact List.mem_of_mem_drop (witL_sub9 h)
 ·cases h

theorem plK_len9 (ds fs:List TxnD):(plK ds fs).length≤ds.length:=by
 unfold plK
 split
 ·split
  ·simp
  ·refine Nat.le_trans (show (witL _ _).length≤(ds.drop (comN ds fs)).length from by unfold witL;exact List.length_filter_le _ _) (by simp)
 ·simp

theorem lst_right9 {a b:List TxnD} (h:lstF (a ++ b)=0):lstF b=0:=by
 have h' := (lst_iff _).1 h
 refine (lst_iff _).2 ⟨by have:=h'.1;simp at this;omega,fun t ht=>h'.2.1 t (List.mem_append_right _ ht),(List.pairwise_append.1 h'.2.2).2.1⟩

theorem dlC_zero {r:RepE} {fs:List TxnD} (h:dlC r fs=0):repF r=0∧lstF fs=0∧frK r.done fs=false∧r.done.length + fs.length≤16∧bthF r.tent fs=0∧(∀ t∈r.done ++ fs,t.F=0)∧(∀ t∈plK r.tent fs,t.F=0)∧(plK r.tent fs).length≤8:=by
 rcases dlC_ways r fs with ⟨a,b⟩ | ⟨_,a,b⟩ | ⟨_,_,_,b⟩ | ⟨_,_,_,_,b⟩ | ⟨a,b,c,d,_⟩
 ·exact absurd (b.symm.trans h) a
 ·exact absurd (b.symm.trans h) a
 ·rw [b] at h;exact absurd h (by decide)
 ·rw [b] at h;exact absurd h (by decide)
 ·have hz:=rep_zero a
  have ha:=((lst_iff _).1 hz.2.1).2.1
  have hb:=((lst_iff _).1 b).2.1
  refine ⟨a,b,c,by omega,?_,fun t ht=>?_,fun t ht=>ha t (List.mem_append_right _ (plK_sub9 ht)),Nat.le_trans (plK_len9 _ _) hz.1.2⟩
  ·unfold bthF
   rw [if_pos (lst_right9 hz.2.1)]
   exact b
  ·rcases List.mem_append.1 ht with ht | ht
   ·exact ha t (List.mem_append_left _ ht)
   ·exact hb t ht

set_option maxHeartbeats 1000000 in
theorem freshOne_any (i s q:Int) (a:Option Addr) (n c:Nat) (xs:List ActD) (vd uv1 uv2 uv3 uv4:Value) (qd:List TxnQ) (bx:Nat) (w:World) (hX:Blk w bx 32 #[vd,uv1,uv2,uv3,uv4]) (hD:txnK.At w vd qd) (hqd:qd.length≤1048576) :
  Calls Tryz.prog 140 #[.agg #[.int .i64 i,.int .i64 s,.int .i64 q,.slice a n c],.pointer (some ⟨bx,0,none⟩)] w fun e w' => e=.returned (.bool (knw (qd.map TxnQ.e) ⟨i,s,q,xs⟩))∧Below w.heap.size w w' := by
 have hB:Below w.heap.size w (w.alloc (.cells #[.int .i64 i,.int .i64 s,.int .i64 q,.slice a n c] 49)):=by go_grown
 have hX' := hX.below hB
 have hq:=implHasTxn_any vd qd ⟨i,s,q,xs⟩ a n c _ (hD.below hB) hqd
 dsimp only at hq
 obtain ⟨da,dk,rfl⟩:=hD.shape
 have x0:=hX'.cell 0 _ rfl
 generalize knw (qd.map TxnQ.e) ⟨i,s,q,xs⟩=E at *
 go_enter Tryz.func140,Tryz.ntmps140
 go_wp2_with fail
 refine hq.mono ?_
 rintro e w2 ⟨rfl,hb2⟩
 replace hB:=hB.trans (hb2.mono hB.size)
 go_wp2
 go_ret
 exact ⟨rfl,hB⟩

set_option maxHeartbeats 2000000 in
theorem indexFuncF_any (v:Value) (ps:List TxnQ) (vd uv1 uv2 uv3 uv4:Value) (qd:List TxnQ) (bx:Nat) (w:World) (h:txnK.At w v ps) (hX:Blk w bx 32 #[vd,uv1,uv2,uv3,uv4]) (hD:txnK.At w vd qd) (hqd:qd.length≤1048576) (hl:ps.length≤1048576) :
  Calls Tryz.prog 179 #[v,.func (.func 140) #[] #[.pointer (some ⟨bx,0,none⟩)]] w fun e w' => ∃ r:Int,e=.returned (.int .i64 r)∧(frK (qd.map TxnQ.e) (ps.map TxnQ.e)=true→0≤r)∧(frK (qd.map TxnQ.e) (ps.map TxnQ.e)=false→r < 0)∧Below w.heap.size w w' := by
 obtain ⟨a,cap,rfl⟩:=h.shape
 generalize hE:frK (qd.map TxnQ.e) (ps.map TxnQ.e)=E
 have HE:Hid (frK (qd.map TxnQ.e) (ps.map TxnQ.e)=E):=hE
 clear hE
 go_enter Tryz.func179,Tryz.ntmps179
 go_wp2
 go_loopw [8] (fun j wr=>∃ k:Nat,k≤ps.length∧j=.int .i64 k∧Below w.heap.size w wr∧Hid (∀ j,j < k→knw (qd.map TxnQ.e) ((ps.map TxnQ.e).getD j txnNo')=false)) (fun j _=>ps.length - (intOf j).toNat)
 case atStart=>exact ⟨0,Nat.zero_le _,rfl,Below.refl _ _,fun j hj=>absurd hj (Nat.not_lt_zero _)⟩
 case round=>
  obtain ⟨k,hk,rfl,hb,HA⟩:=hrel
  by_cases hlt:k < ps.length
  ·obtain ⟨b',off,rfl,hbs,hc,hrd⟩:=(h.below hb).cell (by decide) k hlt
   have hc' : ∀ j x,(txnK.cells ps[k])[j]? = some x→wr.cell? ⟨b',off + k * 4 + j,none⟩=some x:=hc
   have c0:=hc' 0 (.int .i64 ps[k].i) rfl
   have c1:=hc' 1 (.int .i64 ps[k].s) rfl
   have c2:=hc' 2 (.int .i64 ps[k].q) rfl
   have c3:=hc' 3 (ps[k].va) rfl
   rw [Nat.add_zero] at c0
   have HY:Hid (knw (qd.map TxnQ.e) (TxnQ.e ps[k])=true→E=true):=fun hx=>by rw [← HE.out];exact frK_yes (t:=TxnQ.e ps[k]) (List.mem_map.2 ⟨ps[k],List.getElem_mem hlt,rfl⟩) hx
   have HN:Hid (knw (qd.map TxnQ.e) (TxnQ.e ps[k])=false→∀ j,j < k + 1→knw (qd.map TxnQ.e) ((ps.map TxnQ.e).getD j txnNo')=false):=fun hx j hj=>by
    by_cases hjm:j=k
    ·subst hjm
     rw [txn_get ps j hlt]
     exact hx
    ·exact HA.out j (by omega)
   clear HA hc hc'
   generalize ps[k]=p at *
   obtain ⟨i,s,q,va',acts⟩:=p
   replace hrd:actK.At wr va' acts:=hrd
   obtain ⟨aa,ac,rfl⟩:=hrd.shape
   dsimp only [TxnQ.e] at c0 c1 c2 c3 HY HN
   have hq:=freshOne_any i s q aa acts.length ac acts vd uv1 uv2 uv3 uv4 qd bx wr (hX.below hb) (hD.below hb) hqd
   generalize knw (qd.map TxnQ.e) ⟨i,s,q,acts⟩=S at *
   have hlti:(k:Int) < (ps.length:Int):=by omega
   go_wp2_with fail
   refine hq.mono ?_
   rintro e w2 ⟨rfl,hb2⟩
   replace hb:=hb.trans (hb2.mono hb.size)
   clear hq c0 c1 c2 c3 hb2 hrd hbs
   cases S with
   | true=>
    have E1:Hid (E=true):=HY.out rfl
    clear HY HN
    go_wp2
    go_ret
    refine ⟨_,rfl,fun _=>by omega,fun h0=>?_,hb⟩
    rw [E1.out] at h0
    exact absurd h0 (by decide)
   | false=>
    have HR' : Hid _:=HN.out rfl
    clear HY HN
    go_wp2
    go_roundw
    case rel=>exact ⟨k + 1,by omega,by go_num,hb,HR'.out⟩
    case measure=>simp [intOf];omega
  ·have E1:Hid (E=false):=by rw [← HE.out];exact frK_no (fun j hj=>HA.out j (by simp at hj;omega))
   have hlti:¬ (k:Int) < (ps.length:Int):=by omega
   clear HA HE
   go_wp2
   go_ret
   refine ⟨_,rfl,fun h0=>?_,fun _=>by omega,hb⟩
   rw [E1.out] at h0
   exact absurd h0 (by decide)

set_option maxHeartbeats 1000000 in
theorem containsFuncF_any (v:Value) (ps:List TxnQ) (vd uv1 uv2 uv3 uv4:Value) (qd:List TxnQ) (bx:Nat) (w:World) (h:txnK.At w v ps) (hX:Blk w bx 32 #[vd,uv1,uv2,uv3,uv4]) (hD:txnK.At w vd qd) (hqd:qd.length≤1048576) (hl:ps.length≤1048576) :
  Calls Tryz.prog 139 #[v,.func (.func 140) #[] #[.pointer (some ⟨bx,0,none⟩)]] w fun e w' => e=.returned (.bool (frK (qd.map TxnQ.e) (ps.map TxnQ.e)))∧Below w.heap.size w w' := by
 have hq:=indexFuncF_any v ps vd uv1 uv2 uv3 uv4 qd bx w h hX hD hqd hl
 obtain ⟨a,cap,rfl⟩:=h.shape
 generalize frK (qd.map TxnQ.e) (ps.map TxnQ.e)=E at *
 go_enter Tryz.func139,Tryz.ntmps139
 go_wp2_with fail
 refine hq.mono ?_
 rintro e w2 ⟨r,rfl,h1,h2,hb⟩
 cases E with
 | true=>
  have h0:0≤r:=h1 rfl
  clear h1 h2
  go_wp2
  go_ret
  exact ⟨by simp [h0],hb⟩
 | false=>
  have h0:¬ 0≤r:=by have:=h2 rfl;omega
  clear h1 h2
  go_wp2
  go_ret
  exact ⟨by simp [h0],hb⟩

set_option maxRecDepth 100000 in
set_option maxHeartbeats 8000000 in
theorem checkFresh_any (p:RepQ) (vf:Value) (fs:List TxnQ) (w:World) (h:repK.rd w p) (nd:NiceV p.vd) (nt:NiceV p.vt) (hl:p.n≤1048576) (hT:txnK.At w vf fs) (hl' : fs.length + nmL TxnQ.n fs≤1048576) :
  Calls Tryz.prog 74 #[.agg #[p.vd,p.vb,p.vt,p.vu,p.vn],vf] w fun e w' => e=.returned (misC (dlC p.e (fs.map TxnQ.e)))∧Below w.heap.size w w' := by
 have hck:=fun w h=>checked_any p w h nd nt hl
 have hr:=fun (w' : World) hb=>repK.rd_below (w' := w') h hb
 have hW0:=dlC_ways p.e (fs.map TxnQ.e)
 have hlf:=fun w h=>implListFault_any vf fs w h hl'
 have hpd:p.done.length≤1048576:=by dsimp only [RepQ.n] at hl;omega
 have hcf:=fun bx w' hA hX hD=>containsFuncF_any vf fs p.vd p.vb p.vt p.vu p.vn p.done bx w' hA hX hD hpd (by omega)
 have hfd:frK p.e.done (fs.map TxnQ.e)=frK (p.done.map TxnQ.e) (fs.map TxnQ.e):=rfl
 rw [hfd] at hW0
 have hdl:p.e.done.length=p.done.length:=by simp [RepQ.e]
 rw [hdl,List.length_map] at hW0
 have hfl:(fs.length:Int)≤1048576:=by omega
 have hpl:(p.done.length:Int)≤1048576:=by omega
 have hck' : ∀ w,repK.rd w p→Calls Tryz.prog 80 #[.agg #[p.vd,p.vb,p.vt,p.vu,p.vn]] w fun e w' => ∃ (a0 a1 a2 a3:Option Addr) (l0 c0 l1 c1 l2 c2 l3 c3:Nat),e=.returned (.tuple #[.agg #[.slice a0 l0 c0,.slice a1 l1 c1,.slice a2 l2 c2,.slice a3 l3 c3],misC (repF p.e)])∧Below w.heap.size w w' := fun w h=>(hck w h).mono fun e w' hp=>by
  obtain ⟨a0,a1,a2,a3,l0,c0,l1,c1,l2,c2,l3,c3,he,_,hb⟩:=hp
  exact ⟨a0,a1,a2,a3,l0,c0,l1,c1,l2,c2,l3,c3,he,hb⟩
 have hmf:∀ (fn:Fn) (first cap:Array Value) (w:World),(Instr.makeFunc fn first cap).run Tryz.prog w=.ok (.func fn first cap) w:=fun _ _ _ _=>rfl
 obtain ⟨fa,fk,rfl⟩:=hT.shape
 clear hck hl hl' hfd hdl
 generalize dlC p.e (fs.map TxnQ.e)=C at *
 generalize lstF (fs.map TxnQ.e)=LF at *
 generalize frK (p.done.map TxnQ.e) (fs.map TxnQ.e)=FK at *
 generalize repF p.e=RF at *
 obtain ⟨pvd,pd,pvb,pb,pvt,pt,pvu,pu,pvn,pn⟩:=p
 obtain ⟨p0,p5,rfl⟩:∃ a c,pvd=.slice a pd.length c:=h.1.shape
 obtain ⟨p1,p6,rfl⟩:∃ a c,pvb=.slice a pb.length c:=h.2.1.shape
 obtain ⟨p2,p7,rfl⟩:∃ a c,pvt=.slice a pt.length c:=h.2.2.1.shape
 obtain ⟨p3,p8,rfl⟩:∃ a c,pvu=.slice a pu.length c:=h.2.2.2.1.shape
 obtain ⟨p4,p9,rfl⟩:∃ a c,pvn=.slice a pn.length c:=h.2.2.2.2.shape
 dsimp only at hr hW0 hcf hpl hck' hpd
 have hb0:Below w.heap.size w (w.alloc (.cells #[.slice p0 pd.length p5,.slice p1 pb.length p6,.slice p2 pt.length p7,.slice p3 pu.length p8,.slice p4 pn.length p9] 32)):=by go_grown
 have BA:=Blk.new w 32 #[.slice p0 pd.length p5,.slice p1 pb.length p6,.slice p2 pt.length p7,.slice p3 pu.length p8,.slice p4 pn.length p9]
 go_enter Tryz.func74,Tryz.ntmps74
 go_wp2_with fail
 generalize w.alloc (.cells #[.slice p0 pd.length p5,.slice p1 pb.length p6,.slice p2 pt.length p7,.slice p3 pu.length p8,.slice p4 pn.length p9] 32)=W at *
 refine (hck' W (hr W hb0)).mono ?_
 rintro e w1 ⟨a0,a1,a2,a3,l0,c0,l1,c1,l2,c2,l3,c3,rfl,hb⟩
 replace BA:=BA.below hb
 replace hb0:=below_from hb0 hb
 clear hb hck'
 have hbx:Below w1.heap.size w1 (w1.alloc (.cells #[.slice a0 l0 c0,.slice a1 l1 c1,.slice a2 l2 c2,.slice a3 l3 c3] 103)):=by go_grown
 have BA1:=BA.below hbx
 have hb1:=below_from hb0 hbx
 clear hbx BA
 have e1:=neq_err
 have e2:=neq_nil
 rcases hW0 with ⟨h0,hC⟩ | ⟨h0,h1,hC⟩ | ⟨h0,h1,h2,hC⟩ | ⟨h0,h1,h2,h4,hC⟩ | ⟨h0,h1,h2,h4,hC⟩
 ·have HC:Hid (C=RF):=hC
  clear hC
  rw [show misC RF=.iface 195 (.agg #[.int .i64 RF]) from if_neg h0]
  go_wp2
  go_ret
  exact ⟨by rw [HC.out,show misC RF=.iface 195 (.agg #[.int .i64 RF]) from if_neg h0];rfl,hb1⟩
 all_goals
  rw [show misC RF=.nilIface from if_pos h0]
  have HC:Hid (C=_):=hC
  clear hC
  go_wp2_with fail
  generalize w1.alloc (.cells #[.slice a0 l0 c0,.slice a1 l1 c1,.slice a2 l2 c2,.slice a3 l3 c3] 103)=W1 at *
  refine (hlf W1 (hT.below hb1)).mono ?_
  rintro e w2 ⟨rfl,hb⟩
  replace BA1:=BA1.below hb
  replace hb1:=below_from hb1 hb
  clear hb hlf
 ·have h1' : (LF != 0)=true:=by simpa using h1
  go_wp2
  go_ret
  exact ⟨by rw [HC.out,show misC LF=.iface 195 (.agg #[.int .i64 LF]) from if_neg h1];rfl,hb1⟩
 all_goals
  subst h1
  go_wp2_with fail
  refine (hcf _ w2 (hT.below hb1) BA1 (hr w2 hb1).1).mono ?_
  rintro e w3 ⟨rfl,hb⟩
  replace BA1:=BA1.below hb
  replace hb1:=below_from hb1 hb
  clear hb hcf
 ·go_wp2
  go_ret
  exact ⟨by rw [HC.out];rfl,hb1⟩
 ·have e8:(16:Int) < (pd.length:Int) + (fs.length:Int):=by omega
  have d0:=BA1.cell 0 _ rfl
  go_wp2
  go_ret
  exact ⟨by rw [HC.out];rfl,hb1⟩
 ·have e8:¬ (16:Int) < (pd.length:Int) + (fs.length:Int):=by omega
  have d0:=BA1.cell 0 _ rfl
  go_wp2
  go_ret
  exact ⟨by rw [HC.out];rfl,hb1⟩

end Go.Proofs.YtfdkcbafpiojkaaGreatDoor
namespace Go.Proofs.YtfdkcbafpiojkaaGreatDoor
set_option maxRecDepth 100000
theorem allI_app (D E:List TxnD) (xs:List ItemD):allI xs (D ++ E)=allI (allI xs D) E:=by
 induction D generalizing xs with
 | nil=>rfl
 | cons t r ih=>exact ih (nextI xs t)

end Go.Proofs.YtfdkcbafpiojkaaGreatDoor
