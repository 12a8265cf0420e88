/- Texts joined, with what the laws reach alone. -/
import Derived.Test.YtnnenkoeklabpaaGreatDoorAGAC
import Derived.Laws.Rows
import Derived.Laws.Tables
import Derived.Deep.MidRow
set_option linter.unusedVariables false
set_option linter.unusedSimpArgs false
namespace Go.Proofs.YtnnenkoeklabpaaGreatDoor
open Go.RowKit
open Go.BigFrame
set_option maxRecDepth 100000
abbrev iv (n:Int):Value:=.int .i64 n

/-- Each row has three votes. -/
def Wel (rs:List RoundE):Prop:=∀ r∈rs,r.rep.length=3∧r.pro.length=3

def rowC (r:RoundE):List Value:=(r.rep ++ r.pro).map iv

def rowsV (rs:List RoundE):List Value:=rs.flatMap rowC

def rndC (rs:List RoundE):List Value:=iv rs.length :: (rowsV rs ++ List.replicate (24 - 6 * rs.length) (iv 0))

def brdC (has:Bool) (vb:Value) (rs:List RoundE) (dec:List Int):List Value:=rndC rs ++ ([.bool has,vb] ++ dec.map iv)

theorem rowC_length {r:RoundE} (h:r.rep.length=3∧r.pro.length=3):(rowC r).length=6:=by simp [rowC,h.1,h.2]

theorem rowsV_length {rs:List RoundE} (h:Wel rs):(rowsV rs).length=rs.length * 6:=by
 induction rs with
 | nil=>rfl
 | cons r t ih=>
  have h1:=ih (fun x hx=>h x (List.mem_cons_of_mem _ hx))
  have h2:=rowC_length (h r (by simp))
  simp only [rowsV,List.flatMap_cons,List.length_append,List.length_cons] at h1 ⊢
  omega

theorem rndC_length {rs:List RoundE} (h:Wel rs) (h4:rs.length≤4):(rndC rs).length=25:=by
 have:=rowsV_length h
 simp only [rndC,List.length_cons,List.length_append,List.length_replicate]
 omega

theorem brdC_length {has:Bool} {vb:Value} {rs:List RoundE} {dec:List Int} (h:Wel rs) (h4:rs.length≤4) (hd:dec.length=3):(brdC has vb rs dec).length=30:=by
 have:=rndC_length h h4
 simp only [brdC,List.length_append,List.length_cons,List.length_nil,List.length_map]
 omega

theorem rowsV_get {rs:List RoundE} (h:Wel rs) (r:Nat) (hr:r < rs.length) (j:Nat) (hj:j < 6):(rowsV rs)[r * 6 + j]? = (rowC (rs.getD r rnd0))[j]? := by
 induction rs generalizing r with
 | nil=>simp at hr
 | cons q t ih=>
  have hq:=rowC_length (h q (by simp))
  simp only [rowsV,List.flatMap_cons]
  cases r with
  | zero=>
   rw [List.getElem?_append_left (by omega)]
   simp
  | succ r=>
   rw [List.getElem?_append_right (by omega),hq,show (r + 1) * 6 + j - 6=r * 6 + j by omega]
   have:=ih (fun x hx=>h x (List.mem_cons_of_mem _ hx)) r (by simpa using hr)
   simpa [rowsV] using this

theorem wel_at {rs:List RoundE} (h:Wel rs) (r:Nat) (hr:r < rs.length):(rs.getD r rnd0).rep.length=3∧(rs.getD r rnd0).pro.length=3:=by
 have e:rs.getD r rnd0=rs[r]:=by simp [List.getD,hr]
 rw [e]
 exact h _ (List.getElem_mem hr)

theorem rowC_rep {q:RoundE} (h:q.rep.length=3∧q.pro.length=3) (n:Nat) (hn:n < 3):(rowC q)[n]? = some (iv (q.rep.getD n 0)):=by
 unfold rowC
 rw [List.getElem?_map,List.getElem?_append_left (by omega),List.getElem?_eq_getElem (by omega)]
 simp [List.getD,show n < q.rep.length by omega]

theorem rowC_pro {q:RoundE} (h:q.rep.length=3∧q.pro.length=3) (n:Nat) (hn:n < 3):(rowC q)[3 + n]? = some (iv (q.pro.getD n 0)):=by
 unfold rowC
 rw [List.getElem?_map,List.getElem?_append_right (by omega),h.1,show 3 + n - 3=n by omega,List.getElem?_eq_getElem (by omega)]
 simp [List.getD,show n < q.pro.length by omega]

theorem rnd_cnt (rs:List RoundE):(rndC rs)[0]? = some (iv rs.length):=rfl

theorem rnd_in {rs:List RoundE} (h:Wel rs) (r:Nat) (hr:r < rs.length) (j:Nat) (hj:j < 6):(rndC rs)[1 + r * 6 + j]? = (rowC (rs.getD r rnd0))[j]? := by
 have hl:=rowsV_length h
 unfold rndC
 rw [show 1 + r * 6 + j=(r * 6 + j) + 1 by omega,List.getElem?_cons_succ,List.getElem?_append_left (by omega),rowsV_get h r hr j hj]

theorem rnd_rep {rs:List RoundE} (h:Wel rs) (r:Nat) (hr:r < rs.length) (n:Nat) (hn:n < 3):(rndC rs)[1 + r * 6 + n]? = some (iv (repA rs r n)):=by
 rw [rnd_in h r hr n (by omega),rowC_rep (wel_at h r hr) n hn];rfl

theorem rnd_pro {rs:List RoundE} (h:Wel rs) (r:Nat) (hr:r < rs.length) (n:Nat) (hn:n < 3):(rndC rs)[1 + r * 6 + 3 + n]? = some (iv (proA rs r n)):=by
 rw [show 1 + r * 6 + 3 + n=1 + r * 6 + (3 + n) by omega,rnd_in h r hr (3 + n) (by omega),rowC_pro (wel_at h r hr) n hn];rfl

theorem brd_rnd {has:Bool} {vb:Value} {rs:List RoundE} {dec:List Int} (h:Wel rs) (h4:rs.length≤4) (j:Nat) (hj:j < 25):(brdC has vb rs dec)[j]? = (rndC rs)[j]? := by
 have:=rndC_length h h4
 unfold brdC
 rw [List.getElem?_append_left (by omega)]

theorem brd_has {has:Bool} {vb:Value} {rs:List RoundE} {dec:List Int} (h:Wel rs) (h4:rs.length≤4):(brdC has vb rs dec)[25]? = some (.bool has):=by
 have:=rndC_length h h4
 unfold brdC
 rw [List.getElem?_append_right (by omega),this];rfl

theorem brd_dec {has:Bool} {vb:Value} {rs:List RoundE} {dec:List Int} (h:Wel rs) (h4:rs.length≤4) (hd:dec.length=3) (n:Nat) (hn:n < 3):(brdC has vb rs dec)[27 + n]? = some (iv (dec.getD n 0)):=by
 have:=rndC_length h h4
 unfold brdC
 rw [List.getElem?_append_right (by omega),this,show 27 + n - 25=n + 2 by omega]
 simp [List.getD,show n < dec.length by omega]

end Go.Proofs.YtnnenkoeklabpaaGreatDoor
namespace Go.Proofs.YtnnenkoeklabpaaGreatDoor
open Go.RowKit
open Go.BigFrame
set_option maxRecDepth 100000
theorem sz_rounds:(Tryz.prog.info? 44).map (·.size)=some 25:=by kernel_rfl

theorem sz_board:(Tryz.prog.info? 46).map (·.size)=some 30:=by kernel_rfl

theorem sz_row:(Tryz.prog.info? 39).map (·.size)=some 3:=by kernel_rfl

theorem sz_rows:(Tryz.prog.info? 41).map (·.size)=some 6:=by kernel_rfl

/-- Cells that lie in a block from o on. -/
theorem rng {w:World} {b o:Nat} {t:TypeId} {cs:Array Value} (hB:Blk w b t cs) (L:List Value) (h:∀ j v,L[j]? = some v→cs[o + j]? = some v):w.rangeAt b o L:=fun j v hv=>hB.cell (o + j) v (h j v hv)

theorem ld_at {w:World} {b o:Nat} (L:List Value) (ty:TypeId) (d:TypeDesc) (hr:w.rangeAt b o L) (hlt:b < w.heap.size) (hu:Tryz.prog.underlying ty=some d) (hd:d.isRow=true) (hi:(Tryz.prog.info? ty).map (·.size)=some L.length) :
  ∀ u:Lat w,(Instr.loadAt ty (.pointer (some ⟨b,o,none⟩))).run Tryz.prog u.val=.ok (.agg L.toArray) u.val:=fun u=>by
 refine run_loadAt_mid u.val b o ty L d (fun j v hv=>?_) hu hd hi
 rw [u.isBelow.cell (p:=⟨b,o + j,none⟩) hlt]
 exact hr j v hv

section
variable {ops:Array Oper} {rest:List Oper} {op:Oper} {a:Act} {w:World} {Q:Exit→Act→World→Prop}
/-- A load of many cells, its guard holds. -/
theorem ld_g (hw:Region.wanted op (yielded ops a.tmps)=true) (ty:TypeId) (x:Operand) (ho:op.op=.load ty x)
  (b o:Nat) (hx:a.eval x=.pointer (some ⟨b,o,none⟩)) (cs:List Value) (d:TypeDesc) (hc:w.rangeAt b o cs)
  (hu:Tryz.prog.underlying ty=some d) (hd:d.isRow=true) (hi:(Tryz.prog.info? ty).map (·.size)=some cs.length)
  (h:wpList Tryz.prog ops Q rest (a.put op.dst (.agg cs.toArray)) w):wpList Tryz.prog ops Q (op :: rest) a w:=by
 simp only [wpList]
 rw [if_pos hw]
 exact Or.inl (wp_load_mid ty x ho b o hx cs d hc hu hd hi h)

/-- A store of many cells, its guard holds. -/
theorem st_g (hw:Region.wanted op (yielded ops a.tmps)=true) (ty:TypeId) (x y:Operand) (ho:op.op=.store ty x y)
  (b o:Nat) (cells:Array Value) (hx:a.eval x=.pointer (some ⟨b,o,none⟩)) (hy:a.eval y=.agg cells)
  (ht:w.there b o cells.size) (hi:(Tryz.prog.info? ty).map (·.size)=some cells.size) (h1:cells.all (·.oneCell')=true)
  (h:wpList Tryz.prog ops Q rest (a.put op.dst undef) (w.setCells b o cells.toList)):wpList Tryz.prog ops Q (op :: rest) a w:=by
 simp only [wpList]
 rw [if_pos hw]
 exact Or.inl (wp_store_mid ty x y ho b o cells hx hy ht hi h1 h)

end
set_option maxHeartbeats 1000000 in
theorem hasProp_any (rs:List RoundE) (r n:Nat) (w:World) (h:Wel rs) (h4:rs.length≤4) (hr:r < rs.length) (hn:n < 3) :
  Calls Tryz.prog 60 #[.agg (rndC rs).toArray,.int .i64 (r:Int),.int .i64 (n:Int)] w fun e w' => e=.returned (.bool (proA rs r n != 3))∧Below w.heap.size w w' := by
 have hp:=rnd_pro h r hr n hn
 have hl:=rndC_length h h4
 generalize proA rs r n=P at *
 generalize rndC rs=cs at *
 have hr4:(r:Int) < 4:=by omega
 have hn3:(n:Int) < 3:=by omega
 go_enter Tryz.func60,Tryz.ntmps60
 go_wp2
 go_ret
 exact ⟨rfl,by go_grown⟩

set_option maxHeartbeats 1000000 in
theorem hasReport_any (rs:List RoundE) (r n:Nat) (w:World) (h:Wel rs) (h4:rs.length≤4) (hn:n < 3) :
  Calls Tryz.prog 63 #[.agg (rndC rs).toArray,.int .i64 (r:Int),.int .i64 (n:Int)] w fun e w' => e=.returned (.bool (decide (r < rs.length) && (repA rs r n != 3)))∧Below w.heap.size w w' := by
 have hc:=rnd_cnt rs
 have hn3:(n:Int) < 3:=by omega
 by_cases hr:r < rs.length
 ·have hp:=rnd_rep h r hr n hn
  have hr4:(r:Int) < 4:=by omega
  have hd:decide (r < rs.length)=true:=decide_eq_true hr
  rw [hd,Bool.true_and]
  generalize repA rs r n=P at *
  generalize rs.length=c at *
  generalize rndC rs=cs at *
  clear hd
  go_enter Tryz.func63,Tryz.ntmps63
  go_wp2
  go_ret
  exact ⟨rfl,by go_grown⟩
 ·have hd:decide (r < rs.length)=false:=decide_eq_false hr
  rw [hd,Bool.false_and]
  generalize rs.length=c at *
  generalize rndC rs=cs at *
  clear hd
  go_enter Tryz.func63,Tryz.ntmps63
  go_wp2
  go_ret
  exact ⟨rfl,by go_grown⟩

theorem infoI6:(Tryz.prog.info? 2).map (fun i=>(i.zero,i.size,i.bytes))=some (some (.int .i64 0),1,8):=by kernel_rfl

set_option maxHeartbeats 1000000 in
theorem cloneI_any (b off cap:Nat) (zs:List Int) (w:World) (h:Row .i64 w (some ⟨b,off,none⟩) zs) (h0:0 < zs.length) (hl:zs.length≤1048576) :
  Calls Tryz.prog 83 #[.slice (some ⟨b,off,none⟩) zs.length cap] w fun e w' => ∃ a c,e=.returned (.slice a zs.length c) ∧
   w'.ownsRow w.heap.size 2 1 (.slice a zs.length c) zs.length (zs.map iv)∧Below w.heap.size w w' := by
 obtain ⟨i0,hi,hz0,hz1,hz2⟩:=info_parts infoI6
 have hs:=lies_src (Lies.below (lies_of_row h) (w' := w.alloc (.cells #[] 2)) (by go_grown))
 have hcl:(zs.map iv).length=zs.length * 1:=by simp
 have ho:=World.ownsRow_lit (e:=2) (size:=1) w #[] 0 (Nat.le_refl _) (by decide) rfl
 have HS:Hid (∀ j u,(zs.map iv)[j]? = some u→_):=hs
 clear hs
 have hnil:∀ w,(binOp .eql 26 (.slice (some ⟨b,off,none⟩) zs.length cap) (.slice none 0 0)).run Tryz.prog w=.ok (.bool false) w:=fun w=>by first | rfl | kernel_rfl | (simp only [binOp];simp [Op.equal,Op.maxDepth,Op.equalIn,run_underlying Tryz.underlying26])
 go_enter Tryz.func83,Tryz.ntmps83
 go_wp2_with (at_builtin;refine wpList_append_own _ rfl _ _ 26 rfl w.heap.size 2 i0 (.int .i64 0) 1 8 Tryz.underlying26 hi hz0 hz1 hz2 rfl (by decide) _ 0 [] rfl ho ⟨b,off,none⟩ zs.length cap (zs.map iv) rfl hcl HS.out ?c2 ?c3 ?c4 ?c5 ?_)
 all_goals try (case c2=>first | (intro u hu;obtain ⟨z,_,rfl⟩:=List.mem_map.1 hu;rfl) | (intro u hu;rfl))
 all_goals try (case c3=>unfold maxLen;omega)
 all_goals try (case c4=>omega)
 all_goals try (case c5=>simp)
 intro v' w2 hown hgrow _
 obtain ⟨a2,c2,rfl⟩:=own_shape hown
 have hb2:Below w.heap.size w w2:=((Below.refl _ _).alloc (Nat.le_refl _) _).grown hgrow (by simp) (fun k hk=>by simp [Value.ownBlock] at hk;omega)
 try simp only [Nat.zero_add] at hown
 clear hgrow HS ho
 go_wp2
 go_ret
 exact ⟨a2,c2,rfl,by simpa using hown,hb2⟩

/-- A row of votes as a list of its own. -/
theorem list_own {w' : World} {base n c:Nat} {a:Option Addr} {zs:List Int} (hn:n=zs.length) (h:w'.ownsRow base 2 1 (.slice a n c) n (zs.map iv)):intK.Own w' (.slice a n c) zs∧(∀ k∈intK.fp (.slice a n c) zs,base≤k):=by
 subst hn
 obtain ⟨o,hk⟩:=own_zero h
 refine ⟨⟨by rw [intK_row];exact o,fun _ _=>trivial⟩,?_⟩
 rw [intK_fp]
 exact hk

set_option maxHeartbeats 1000000 in
theorem list_any (zs:List Int) (w:World) (h3:zs.length=3) :
  Calls Tryz.prog 62 #[.agg (zs.map iv).toArray] w fun e w' => ∃ a c,e=.returned (.slice a 3 c)∧intK.Own w' (.slice a 3 c) zs∧(∀ k∈intK.fp (.slice a 3 c) zs,w.heap.size≤k)∧Row .i64 w' a zs∧Below w.heap.size w w' := by
 have hB:Below w.heap.size w (w.alloc (.cells (zs.map iv).toArray 39)):=by go_grown
 have hR:Row .i64 (w.alloc (.cells (zs.map iv).toArray 39)) (some ⟨w.heap.size,0,none⟩) zs:=by
  intro i hi
  refine ⟨_,_,rfl,by simp,?_⟩
  have:=(Blk.new w 39 (zs.map iv).toArray).cell i (iv (zs.getD i 0)) (by simp [List.getD,hi])
  rw [Nat.zero_add]
  exact this
 have hcl:=cloneI_any w.heap.size 0 3 zs _ hR (by omega) (by omega)
 rw [h3] at hcl
 go_enter Tryz.func62,Tryz.ntmps62
 go_wp2_with fail
 refine hcl.mono ?_
 rintro e w2 ⟨a,c,rfl,ho,hb⟩
 obtain ⟨O,G⟩:=list_own h3.symm ho
 have hRR:=Row.own ho
 have G2:Hid (∀ k∈intK.fp (.slice a 3 c) zs,w.heap.size≤k):=fun k hk=>Nat.le_trans (by simp) (G k hk)
 replace hB:=hB.trans (hb.mono hB.size)
 clear hcl ho hb G
 go_wp2
 go_ret
 exact ⟨a,c,rfl,O,G2.out,hRR,hB⟩

end Go.Proofs.YtnnenkoeklabpaaGreatDoor
namespace Go.Proofs.YtnnenkoeklabpaaGreatDoor
open Go.RowKit
open Go.BigFrame
set_option maxRecDepth 100000
section
variable {has:Bool} {vb:Value} {rs:List RoundE} {dec:List Int} {w:World} {b:Nat} {t:TypeId}
/-- The parts of a block that holds a board. -/
theorem brd_rounds (h:Wel rs) (h4:rs.length≤4) (hB:Blk w b t (brdC has vb rs dec).toArray):w.rangeAt b 0 (rndC rs):=rng hB _ (fun j v hv=>by
 have hj:=(List.getElem?_eq_some_iff.1 hv).1
 rw [rndC_length h h4] at hj
 rw [Nat.zero_add,List.getElem?_toArray,brd_rnd h h4 j hj]
 exact hv)

theorem row_get {zs:List Int} (hl:zs.length=3) {j:Nat} {v:Value} (hv:(zs.map iv)[j]? = some v):j < 3∧v=iv (zs.getD j 0):=by
 have hj:j < zs.length:=by have:=(List.getElem?_eq_some_iff.1 hv).1;simpa using this
 refine ⟨by omega,?_⟩
 rw [List.getElem?_map,List.getElem?_eq_getElem hj] at hv
 simp only [Option.map_some,Option.some.injEq] at hv
 rw [← hv]
 simp [List.getD,hj]

theorem rnd_prow (h:Wel rs) (r:Nat) (hr:r < rs.length):∀ j v,((rs.getD r rnd0).pro.map iv)[j]? = some v→(rndC rs)[1 + r * 6 + 3 + j]? = some v:=by
 intro j v hv
 obtain ⟨hj,rfl⟩:=row_get (wel_at h r hr).2 hv
 exact rnd_pro h r hr j hj

theorem rnd_rrow (h:Wel rs) (r:Nat) (hr:r < rs.length):∀ j v,((rs.getD r rnd0).rep.map iv)[j]? = some v→(rndC rs)[1 + r * 6 + j]? = some v:=by
 intro j v hv
 obtain ⟨hj,rfl⟩:=row_get (wel_at h r hr).1 hv
 exact rnd_rep h r hr j hj

theorem brd_prow (h:Wel rs) (h4:rs.length≤4) (r:Nat) (hr:r < rs.length) (hB:Blk w b t (brdC has vb rs dec).toArray):w.rangeAt b (1 + r * 6 + 3) ((rs.getD r rnd0).pro.map iv):=rng hB _ (fun j v hv=>by
 have h1:=rnd_prow h r hr j v hv
 have hj:=(List.getElem?_eq_some_iff.1 h1).1
 rw [rndC_length h h4] at hj
 rw [List.getElem?_toArray,brd_rnd h h4 _ hj]
 exact h1)

end
set_option maxHeartbeats 2000000 in
theorem isReportRight_any (has:Bool) (vb:Value) (rs:List RoundE) (dec:List Int) (r n:Nat) (w:World) (hG:Rul w) (h:Wel rs) (h4:rs.length≤4) (hd:dec.length=3) (hr:r < rs.length) (hn:n < 3) :
  Calls Tryz.prog 40 #[.agg (brdC has vb rs dec).toArray,.int .i64 (r:Int),.int .i64 (n:Int)] w fun e w' => e=.returned (.bool (repI has rs r n))∧Below w.heap.size w w' := by
 have hB:=Blk.new w 46 (brdC has vb rs dec).toArray
 have hb0:Below w.heap.size w (w.alloc (.cells (brdC has vb rs dec).toArray 46)):=by go_grown
 have c1:(brdC has vb rs dec)[1 + r * 6 + n]? = some (iv (repA rs r n)):=by
  have h1:=rnd_rep h r hr n hn
  rw [brd_rnd h h4 _ (by omega)]
  exact h1
 have c2:=brd_has (has:=has) (vb:=vb) (dec:=dec) h h4
 generalize hE:repI has rs r n=E
 have HE:Hid (E=if repA rs r n=1∧has=false then false else if repA rs r n=3∨r=0 then true else befR rs r n):=hE.symm
 clear hE
 have hr4:(r:Int) < 4:=by omega
 have hn3:(n:Int) < 3:=by omega
 by_cases h1:repA rs r n=1
 ·cases has with
  | false=>
   have E2:Hid (E=false):=by rw [HE.out,if_pos ⟨h1,rfl⟩];rfl
   rw [h1] at c1
   clear HE hB h1
   generalize brdC false vb rs dec=cs at *
   go_enter Tryz.func40,Tryz.ntmps40
   go_wp2
   go_ret
   exact ⟨by rw [E2.out];rfl,hb0⟩
  | true=>
   have HE2:Hid (E=if repA rs r n=3∨r=0 then true else befR rs r n):=by
    have:=HE.out
    rw [if_neg (by simp)] at this
    exact this
   rw [h1] at c1
   obtain ⟨R,hRR⟩:∃ R:Int,R=1:=⟨1,rfl⟩
   have HRR:Hid (R=repA rs r n):=hRR.trans h1.symm
   have hR3:(R == 3)=false:=by rw [hRR];rfl
   have hR1:(R == 1)=true:=by rw [hRR];rfl
   rw [← hRR] at c1
   have hRn:¬ R=3:=by omega
   clear HE h1 hRR
   by_cases hr0:r=0
   ·have E2:Hid (E=true):=by rw [HE2.out,if_pos (Or.inr hr0)];rfl
    subst hr0
    simp only [Nat.zero_mul,Nat.add_zero,Nat.zero_add] at c1
    clear HE2 HRR
    generalize brdC true vb rs dec=cs at *
    go_enter Tryz.func40,Tryz.ntmps40
    go_wp2
    go_ret
    exact ⟨by rw [E2.out];rfl,hb0⟩
   ·obtain ⟨s,rfl⟩:∃ s,r=s + 1:=⟨r - 1,by omega⟩
    have HS:Hid (E=((proA rs s n != 3) && mayR (rs.getD s rnd0).pro R)):=by rw [HE2.out,if_neg (by rw [← HRR.out];omega),HRR.out];exact (rfl:_=_)
    have hs:s < rs.length:=by omega
    have hpr:=fun w=>hasProp_any rs s n w h h4 hs hn
    have hrg:=brd_rounds h h4 hB
    have hsz1:(Tryz.prog.info? 44).map (·.size)=some (rndC rs).length:=by rw [rndC_length h h4];exact sz_rounds
    have hwl:=wel_at h s hs
    have hls:=list_any (rs.getD s rnd0).pro
    have hlt:=hB.lt
    have hr0' : ¬ ((s:Int) + 1=0):=by omega
    have hrg2:=brd_prow h h4 s hs hB
    have hsz2:(Tryz.prog.info? 39).map (·.size)=some ((rs.getD s rnd0).pro.map iv).length:=by rw [List.length_map,hwl.2];exact sz_row
    have hq3:=hwl.2
    clear HE2 HRR
    generalize (rs.getD s rnd0).pro=qp at *
    generalize proA rs s n=A at *
    generalize rndC rs=ds at *
    go_enter Tryz.func40,Tryz.ntmps40
    generalize brdC true vb rs dec=cs at *
    go_wp2_with (refine ld_g (by kernel_rfl) 44 _ rfl _ _ rfl ds _ hrg Tryz.underlying44 rfl hsz1 ?_)
    clear hrg hsz1
    generalize w.alloc (.cells cs.toArray 46)=W at *
    refine (hpr W).mono ?_
    rintro e w1 ⟨rfl,hb1⟩
    have hB1:=hb0.trans (hb1.mono hb0.size)
    clear hpr
    by_cases hA:A=3
    ·have E2:Hid (E=false):=by rw [HS.out,hA];rfl
     have hA' : (A != 3)=false:=by simp [hA]
     rw [hA']
     clear HS hls hrg2 hsz2 hA
     go_wp2
     go_ret
     exact ⟨by rw [E2.out];rfl,hB1⟩
    ·have hA' : (A != 3)=true:=by simpa using hA
     rw [hA'] at HS
     rw [hA']
     have hlt1:=hlt
     have hrg3:w1.rangeAt w.heap.size (1 + s * 6 + 3) (qp.map iv):=fun j v hv=>by rw [hb1.cell (p:=⟨w.heap.size,1 + s * 6 + 3 + j,none⟩) hlt];exact hrg2 j v hv
     clear hrg2 hA
     go_wp2_with (refine ld_g (by kernel_rfl) 39 _ rfl _ _ rfl (qp.map iv) _ hrg3 Tryz.underlying39 rfl hsz2 ?_)
     clear hrg3 hsz2
     refine (hls w1 hq3).mono ?_
     rintro e w2 ⟨la,lc,rfl,lO,lG,lR,hb2⟩
     have hB2:=hB1.trans (hb2.mono hB1.size)
     have hmr:=implMayR_any la lc qp R w2 (hG.below hB2) lR (by omega)
     rw [hq3] at hmr
     generalize mayR qp R=Y at *
     clear hls lO lG hb2
     go_wp2_with fail
     refine hmr.mono ?_
     rintro e w3 ⟨rfl,hb3⟩
     have hB3:=hB2.trans (hb3.mono hB2.size)
     clear hmr hb3
     have E2:Hid (E=Y):=by rw [HS.out];exact (rfl:_=_)
     clear HS
     go_wp2
     go_ret
     exact ⟨by rw [E2.out];rfl,hB3⟩
 ·have HE2:Hid (E=if repA rs r n=3∨r=0 then true else befR rs r n):=by
   have:=HE.out
   rw [if_neg (fun e=>h1 e.1)] at this
   exact this
  generalize hRR:repA rs r n=R at c1 h1
  have HRR:Hid (R=repA rs r n):=hRR.symm
  have hR1:(R == 1)=false:=by simpa using h1
  clear HE h1 hRR
  by_cases hRn:R=3
  ·have E2:Hid (E=true):=by rw [HE2.out,if_pos (Or.inl (by rw [← HRR.out];exact hRn))];rfl
   have hR3:(R == 3)=true:=by simp [hRn]
   clear HE2 HRR hRn
   generalize brdC has vb rs dec=cs at *
   go_enter Tryz.func40,Tryz.ntmps40
   go_wp2
   go_ret
   exact ⟨by rw [E2.out];rfl,hb0⟩
  ·have hR3:(R == 3)=false:=by simpa using hRn
   by_cases hr0:r=0
   ·have E2:Hid (E=true):=by rw [HE2.out,if_pos (Or.inr hr0)];rfl
    subst hr0
    simp only [Nat.zero_mul,Nat.add_zero,Nat.zero_add] at c1
    clear HE2 HRR
    generalize brdC has vb rs dec=cs at *
    go_enter Tryz.func40,Tryz.ntmps40
    go_wp2
    go_ret
    exact ⟨by rw [E2.out];rfl,hb0⟩
   ·obtain ⟨s,rfl⟩:∃ s,r=s + 1:=⟨r - 1,by omega⟩
    have HS:Hid (E=((proA rs s n != 3) && mayR (rs.getD s rnd0).pro R)):=by rw [HE2.out,if_neg (by rw [← HRR.out];omega),HRR.out];exact (rfl:_=_)
    have hs:s < rs.length:=by omega
    have hpr:=fun w=>hasProp_any rs s n w h h4 hs hn
    have hrg:=brd_rounds h h4 hB
    have hsz1:(Tryz.prog.info? 44).map (·.size)=some (rndC rs).length:=by rw [rndC_length h h4];exact sz_rounds
    have hwl:=wel_at h s hs
    have hls:=list_any (rs.getD s rnd0).pro
    have hlt:=hB.lt
    have hr0' : ¬ ((s:Int) + 1=0):=by omega
    have hrg2:=brd_prow h h4 s hs hB
    have hsz2:(Tryz.prog.info? 39).map (·.size)=some ((rs.getD s rnd0).pro.map iv).length:=by rw [List.length_map,hwl.2];exact sz_row
    have hq3:=hwl.2
    clear HE2 HRR
    generalize (rs.getD s rnd0).pro=qp at *
    generalize proA rs s n=A at *
    generalize rndC rs=ds at *
    go_enter Tryz.func40,Tryz.ntmps40
    generalize brdC has vb rs dec=cs at *
    go_wp2_with (refine ld_g (by kernel_rfl) 44 _ rfl _ _ rfl ds _ hrg Tryz.underlying44 rfl hsz1 ?_)
    clear hrg hsz1
    generalize w.alloc (.cells cs.toArray 46)=W at *
    refine (hpr W).mono ?_
    rintro e w1 ⟨rfl,hb1⟩
    have hB1:=hb0.trans (hb1.mono hb0.size)
    clear hpr
    by_cases hA:A=3
    ·have E2:Hid (E=false):=by rw [HS.out,hA];rfl
     have hA' : (A != 3)=false:=by simp [hA]
     rw [hA']
     clear HS hls hrg2 hsz2 hA
     go_wp2
     go_ret
     exact ⟨by rw [E2.out];rfl,hB1⟩
    ·have hA' : (A != 3)=true:=by simpa using hA
     rw [hA'] at HS
     rw [hA']
     have hlt1:=hlt
     have hrg3:w1.rangeAt w.heap.size (1 + s * 6 + 3) (qp.map iv):=fun j v hv=>by rw [hb1.cell (p:=⟨w.heap.size,1 + s * 6 + 3 + j,none⟩) hlt];exact hrg2 j v hv
     clear hrg2 hA
     go_wp2_with (refine ld_g (by kernel_rfl) 39 _ rfl _ _ rfl (qp.map iv) _ hrg3 Tryz.underlying39 rfl hsz2 ?_)
     clear hrg3 hsz2
     refine (hls w1 hq3).mono ?_
     rintro e w2 ⟨la,lc,rfl,lO,lG,lR,hb2⟩
     have hB2:=hB1.trans (hb2.mono hB1.size)
     have hmr:=implMayR_any la lc qp R w2 (hG.below hB2) lR (by omega)
     rw [hq3] at hmr
     generalize mayR qp R=Y at *
     clear hls lO lG hb2
     go_wp2_with fail
     refine hmr.mono ?_
     rintro e w3 ⟨rfl,hb3⟩
     have hB3:=hB2.trans (hb3.mono hB2.size)
     clear hmr hb3
     have E2:Hid (E=Y):=by rw [HS.out];exact (rfl:_=_)
     clear HS
     go_wp2
     go_ret
     exact ⟨by rw [E2.out];rfl,hB3⟩

end Go.Proofs.YtnnenkoeklabpaaGreatDoor
namespace Go.Proofs.YtnnenkoeklabpaaGreatDoor
open Go.RowKit
open Go.BigFrame
set_option maxRecDepth 100000
set_option maxHeartbeats 4000000 in
theorem isPropRight_any (rs:List RoundE) (r n:Nat) (w:World) (hG:Rul w) (h:Wel rs) (h4:rs.length≤4) (hr:r < rs.length) (hn:n < 3) :
  Calls Tryz.prog 41 #[.agg (rndC rs).toArray,.int .i64 (r:Int),.int .i64 (n:Int)] w fun e w' => e=.returned (.bool (proR rs r n))∧Below w.heap.size w w' := by
 have B:=Blk.new w 44 (rndC rs).toArray
 have hb0:Below w.heap.size w (w.alloc (.cells (rndC rs).toArray 44)):=by go_grown
 have hwl:=wel_at h r hr
 have hq3:=hwl.1
 have hpr:=fun w=>hasProp_any rs r n w h h4 hr hn
 have hrp:=fun w=>hasReport_any rs r n w h h4 hn
 rw [decide_eq_true hr] at hrp
 simp only [Bool.true_and] at hrp
 have hls:=list_any (rs.getD r rnd0).rep
 have hMP:=fun la lc w hG hR=>implMayP_any la lc (rs.getD r rnd0).rep (proA rs r n) w hG hR (by omega)
 rw [hq3] at hMP
 have hlt:=B.lt
 have ld1:=ld_at (rndC rs) 44 _ (rng B (rndC rs) (o:=0) (fun j v hv=>by rw [Nat.zero_add,List.getElem?_toArray];exact hv)) hlt Tryz.underlying44 rfl (by rw [rndC_length h h4];exact sz_rounds)
 have ld2:=ld_at ((rs.getD r rnd0).rep.map iv) 39 _ (rng B _ (o:=1 + r * 6) (fun j v hv=>by rw [List.getElem?_toArray];exact rnd_rrow h r hr j v hv)) hlt Tryz.underlying39 rfl (by rw [List.length_map,hq3];exact sz_row)
 have cp:=lat_cell (B.cell (1 + r * 6 + 3 + n) (iv (proA rs r n)) (by rw [List.getElem?_toArray];exact rnd_pro h r hr n hn))
 have HE:Hid (proR rs r n=((proA rs r n == 3) || ((repA rs r n != 3) && mayP (rs.getD r rnd0).rep (proA rs r n)))):=(rfl:_=_)
 generalize proR rs r n=E at HE ⊢
 generalize (rs.getD r rnd0).rep=qr at *
 generalize proA rs r n=P at *
 generalize repA rs r n=R at *
 generalize rndC rs=ds at *
 have hr4:(r:Int) < 4:=by omega
 have hn3:(n:Int) < 3:=by omega
 go_enter Tryz.func41,Tryz.ntmps41
 go_wp2_with fail
 generalize w.alloc (.cells ds.toArray 44)=W at *
 have hW:Below W.heap.size W W.drew:=(Below.refl _ _).drew
 have hne:Nonempty (Lat W):=⟨⟨W,Below.refl _ _⟩⟩
 by_cases hP:P=3
 ·have E2:Hid (E=true):=by rw [HE.out,hP];rfl
  have hP' : (P != 3)=false:=by simp [hP]
  rw [hP'] at hpr
  clear HE hP
  refine text_begin (S:=fun w' => ∃ u:Lat W,w' = u.val) (by kernel_rfl) ?_
  refine sgr [(1,2)] 26 (by kernel_rfl) ⟨⟨_,hW⟩,rfl⟩ ?_
  simp only [pkE]
  repeat go_big_quiet_step (fail)
  refine wpQuiet_nil ?_
  refine qta 0 (some 7) (.agg ds.toArray) 25 (by kernel_rfl) (fun u hu=>?_) ⟨⟨_,hW⟩,rfl⟩ ?_
  ·obtain ⟨u,rfl⟩:=hu
   show some (((Instr.loadAt 44 (.pointer (some ⟨w.heap.size,0,none⟩))) >>= fun x=>pure (Next.value x):Sem Next).run Tryz.prog u.val)=_
   rw [Sem.run_bind,ld1 u]
   rfl
  simp only [Act.put,pjE]
  refine cla 3 (some 10) 60 #[.agg ds.toArray,.int .i64 (r:Int),.int .i64 (n:Int)] 24 (by kernel_rfl) ?_
  refine (hpr _).mono ?_
  rintro e w9 ⟨rfl,hb9⟩
  replace hW:=hW.trans (hb9.mono hW.size)
  clear hb9
  refine ⟨_,rfl,⟨⟨_,hW⟩,rfl⟩,?_⟩
  simp only [Act.put,pjE]
  refine sgr [(4,2),(7,2)] 20 (by kernel_rfl) ⟨⟨_,hW⟩,rfl⟩ ?_
  simp only [pkE]
  repeat go_big_quiet_step (fail)
  refine wpQuiet_nil ?_
  refine ska 6 (some 13) 19 (by kernel_rfl) ⟨⟨_,hW⟩,rfl⟩ ?_
  simp only [Act.put,pjE]
  refine ska 9 (some 16) 18 (by kernel_rfl) ⟨⟨_,hW⟩,rfl⟩ ?_
  simp only [Act.put,pjE]
  refine sgr [(10,5),(17,7)] 6 (by kernel_rfl) ⟨⟨_,hW⟩,rfl⟩ ?_
  simp only [pkE]
  repeat go_big_quiet_step (fail)
  refine wpQuiet_nil ?_
  refine ska 15 (some 22) 5 (by kernel_rfl) ⟨⟨_,hW⟩,rfl⟩ ?_
  simp only [Act.put,pjE]
  refine ska 16 (some 23) 4 (by kernel_rfl) ⟨⟨_,hW⟩,rfl⟩ ?_
  simp only [Act.put,pjE]
  refine ska 24 (some 31) 3 (by kernel_rfl) ⟨⟨_,hW⟩,rfl⟩ ?_
  simp only [Act.put,pjE]
  refine sgr [(25,3)] 0 (by kernel_rfl) ⟨⟨_,hW⟩,rfl⟩ ?_
  simp only [pkE]
  repeat go_big_quiet_step (fail)
  refine wpQuiet_nil ?_
  refine text_end (by kernel_rfl) ?_
  replace hb0:=hb0.trans (hW.mono hb0.size)
  clear ld1 ld2 cp hW hne hpr hrp hls hMP
  go_wp2
  go_ret
  exact ⟨by rw [E2.out];rfl,hb0⟩
 ·have hP' : (P != 3)=true:=by simpa using hP
  have hP2:(P == 3)=false:=by simpa using hP
  rw [hP'] at hpr
  rw [hP2] at HE
  clear hP hP'
  by_cases hR:R=3
  ·have E2:Hid (E=false):=by rw [HE.out,hR];rfl
   have hR' : (R != 3)=false:=by simp [hR]
   rw [hR'] at hrp
   clear HE hR
   refine text_begin (S:=fun w' => ∃ u:Lat W,w' = u.val) (by kernel_rfl) ?_
   refine sgr [(1,2)] 26 (by kernel_rfl) ⟨⟨_,hW⟩,rfl⟩ ?_
   simp only [pkE]
   repeat go_big_quiet_step (fail)
   refine wpQuiet_nil ?_
   refine qta 0 (some 7) (.agg ds.toArray) 25 (by kernel_rfl) (fun u hu=>?_) ⟨⟨_,hW⟩,rfl⟩ ?_
   ·obtain ⟨u,rfl⟩:=hu
    show some (((Instr.loadAt 44 (.pointer (some ⟨w.heap.size,0,none⟩))) >>= fun x=>pure (Next.value x):Sem Next).run Tryz.prog u.val)=_
    rw [Sem.run_bind,ld1 u]
    rfl
   simp only [Act.put,pjE]
   refine cla 3 (some 10) 60 #[.agg ds.toArray,.int .i64 (r:Int),.int .i64 (n:Int)] 24 (by kernel_rfl) ?_
   refine (hpr _).mono ?_
   rintro e w9 ⟨rfl,hb9⟩
   replace hW:=hW.trans (hb9.mono hW.size)
   clear hb9
   refine ⟨_,rfl,⟨⟨_,hW⟩,rfl⟩,?_⟩
   simp only [Act.put,pjE]
   refine sgr [(4,2),(7,2)] 20 (by kernel_rfl) ⟨⟨_,hW⟩,rfl⟩ ?_
   simp only [pkE]
   repeat go_big_quiet_step (fail)
   refine wpQuiet_nil ?_
   refine qta 6 (some 13) (.agg ds.toArray) 19 (by kernel_rfl) (fun u hu=>?_) ⟨⟨_,hW⟩,rfl⟩ ?_
   ·obtain ⟨u,rfl⟩:=hu
    show some (((Instr.loadAt 44 (.pointer (some ⟨w.heap.size,0,none⟩))) >>= fun x=>pure (Next.value x):Sem Next).run Tryz.prog u.val)=_
    rw [Sem.run_bind,ld1 u]
    rfl
   simp only [Act.put,pjE]
   refine cla 9 (some 16) 63 #[.agg ds.toArray,.int .i64 (r:Int),.int .i64 (n:Int)] 18 (by kernel_rfl) ?_
   refine (hrp _).mono ?_
   rintro e w9 ⟨rfl,hb9⟩
   replace hW:=hW.trans (hb9.mono hW.size)
   clear hb9
   refine ⟨_,rfl,⟨⟨_,hW⟩,rfl⟩,?_⟩
   simp only [Act.put,pjE]
   refine sgr [(10,5),(17,7)] 6 (by kernel_rfl) ⟨⟨_,hW⟩,rfl⟩ ?_
   simp only [pkE]
   repeat go_big_quiet_step (fail)
   refine wpQuiet_nil ?_
   refine ska 15 (some 22) 5 (by kernel_rfl) ⟨⟨_,hW⟩,rfl⟩ ?_
   simp only [Act.put,pjE]
   refine ska 16 (some 23) 4 (by kernel_rfl) ⟨⟨_,hW⟩,rfl⟩ ?_
   simp only [Act.put,pjE]
   refine ska 24 (some 31) 3 (by kernel_rfl) ⟨⟨_,hW⟩,rfl⟩ ?_
   simp only [Act.put,pjE]
   refine sgr [(25,3)] 0 (by kernel_rfl) ⟨⟨_,hW⟩,rfl⟩ ?_
   simp only [pkE]
   repeat go_big_quiet_step (fail)
   refine wpQuiet_nil ?_
   refine text_end (by kernel_rfl) ?_
   replace hb0:=hb0.trans (hW.mono hb0.size)
   clear ld1 ld2 cp hW hne hpr hrp hls hMP
   go_wp2
   go_ret
   exact ⟨by rw [E2.out];rfl,hb0⟩
  ·have hR' : (R != 3)=true:=by simpa using hR
   rw [hR'] at hrp HE
   clear hR
   have E2:Hid (E=mayP qr P):=by rw [HE.out];exact (rfl:_=_)
   generalize mayP qr P=X at *
   clear HE
   refine text_begin (S:=fun w' => ∃ u:Lat W,w' = u.val) (by kernel_rfl) ?_
   refine sgr [(1,2)] 26 (by kernel_rfl) ⟨⟨_,hW⟩,rfl⟩ ?_
   simp only [pkE]
   repeat go_big_quiet_step (fail)
   refine wpQuiet_nil ?_
   refine qta 0 (some 7) (.agg ds.toArray) 25 (by kernel_rfl) (fun u hu=>?_) ⟨⟨_,hW⟩,rfl⟩ ?_
   ·obtain ⟨u,rfl⟩:=hu
    show some (((Instr.loadAt 44 (.pointer (some ⟨w.heap.size,0,none⟩))) >>= fun x=>pure (Next.value x):Sem Next).run Tryz.prog u.val)=_
    rw [Sem.run_bind,ld1 u]
    rfl
   simp only [Act.put,pjE]
   refine cla 3 (some 10) 60 #[.agg ds.toArray,.int .i64 (r:Int),.int .i64 (n:Int)] 24 (by kernel_rfl) ?_
   refine (hpr _).mono ?_
   rintro e w9 ⟨rfl,hb9⟩
   replace hW:=hW.trans (hb9.mono hW.size)
   clear hb9
   refine ⟨_,rfl,⟨⟨_,hW⟩,rfl⟩,?_⟩
   simp only [Act.put,pjE]
   refine sgr [(4,2),(7,2)] 20 (by kernel_rfl) ⟨⟨_,hW⟩,rfl⟩ ?_
   simp only [pkE]
   repeat go_big_quiet_step (fail)
   refine wpQuiet_nil ?_
   refine qta 6 (some 13) (.agg ds.toArray) 19 (by kernel_rfl) (fun u hu=>?_) ⟨⟨_,hW⟩,rfl⟩ ?_
   ·obtain ⟨u,rfl⟩:=hu
    show some (((Instr.loadAt 44 (.pointer (some ⟨w.heap.size,0,none⟩))) >>= fun x=>pure (Next.value x):Sem Next).run Tryz.prog u.val)=_
    rw [Sem.run_bind,ld1 u]
    rfl
   simp only [Act.put,pjE]
   refine cla 9 (some 16) 63 #[.agg ds.toArray,.int .i64 (r:Int),.int .i64 (n:Int)] 18 (by kernel_rfl) ?_
   refine (hrp _).mono ?_
   rintro e w9 ⟨rfl,hb9⟩
   replace hW:=hW.trans (hb9.mono hW.size)
   clear hb9
   refine ⟨_,rfl,⟨⟨_,hW⟩,rfl⟩,?_⟩
   simp only [Act.put,pjE]
   refine sgr [(10,5),(17,7)] 6 (by kernel_rfl) ⟨⟨_,hW⟩,rfl⟩ ?_
   simp only [pkE]
   repeat go_big_quiet_step (fail)
   refine wpQuiet_nil ?_
   refine qta 15 (some 22) (.agg (qr.map iv).toArray) 5 (by kernel_rfl) (fun u hu=>?_) ⟨⟨_,hW⟩,rfl⟩ ?_
   ·obtain ⟨u,rfl⟩:=hu
    show some (((Instr.loadAt 39 (.pointer (some ⟨w.heap.size,1 + r * 6,none⟩))) >>= fun x=>pure (Next.value x):Sem Next).run Tryz.prog u.val)=_
    rw [Sem.run_bind,ld2 u]
    rfl
   simp only [Act.put,pjE]
   refine cla 16 (some 23) 62 #[.agg (qr.map iv).toArray] 4 (by kernel_rfl) ?_
   refine (hls _ hq3).mono ?_
   rintro e w9 ⟨la,lc,rfl,lO,lG,lR,hb9⟩
   replace hW:=hW.trans (hb9.mono hW.size)
   have hmp:=hMP la lc _ (hG.below (hb0.trans (hW.mono hb0.size))) lR
   clear lO lG lR
   clear hb9
   refine ⟨_,rfl,⟨⟨_,hW⟩,rfl⟩,?_⟩
   simp only [Act.put,pjE]
   refine cla 24 (some 31) 64 #[.slice la 3 lc,.int .i64 P] 3 (by kernel_rfl) ?_
   refine (hmp).mono ?_
   rintro e w9 ⟨rfl,hb9⟩
   replace hW:=hW.trans (hb9.mono hW.size)
   clear hb9
   refine ⟨_,rfl,⟨⟨_,hW⟩,rfl⟩,?_⟩
   simp only [Act.put,pjE]
   refine sgr [(25,3)] 0 (by kernel_rfl) ⟨⟨_,hW⟩,rfl⟩ ?_
   simp only [pkE]
   repeat go_big_quiet_step (fail)
   refine wpQuiet_nil ?_
   refine text_end (by kernel_rfl) ?_
   replace hb0:=hb0.trans (hW.mono hb0.size)
   clear ld1 ld2 cp hW hne hpr hrp hls hMP hmp
   go_wp2
   go_ret
   exact ⟨by rw [E2.out];rfl,hb0⟩

end Go.Proofs.YtnnenkoeklabpaaGreatDoor
namespace Go.Proofs.YtnnenkoeklabpaaGreatDoor
open Go.RowKit
open Go.BigFrame
set_option maxRecDepth 100000
theorem pro_no {rs:List RoundE} {r n:Nat} (h:proA rs r n≠3) (h2:repA rs r n=3∨mayP (rs.getD r rnd0).rep (proA rs r n)=false):proR rs r n=false:=by
 unfold proR
 rw [Bool.or_eq_false_iff]
 refine ⟨by simpa using h,?_⟩
 rcases h2 with h2 | h2
 ·rw [h2];rfl
 ·rw [h2];simp

theorem pro_yes {rs:List RoundE} {r n:Nat} (h:proA rs r n=3∨(repA rs r n≠3∧mayP (rs.getD r rnd0).rep (proA rs r n)=true)):proR rs r n=true:=by
 unfold proR
 rw [Bool.or_eq_true]
 rcases h with h | ⟨h1,h2⟩
 ·left;simpa using h
 ·right;rw [h2];simpa using h1

theorem say_no {has:Bool} {rs:List RoundE} {r n:Nat} (h:proR rs r n=false):sayM has rs r n=false:=by
 unfold sayM
 rw [h];rfl

theorem say_open {has:Bool} {rs:List RoundE} {r n:Nat} (h:proR rs r n=true) (h2:r=0∨repA rs r n=3):sayM has rs r n=true:=by
 unfold sayM
 rw [h,if_pos h2];rfl

theorem say_bef {has:Bool} {rs:List RoundE} {r n:Nat} (h:proR rs r n=true) (h2:¬ (r=0∨repA rs r n=3)):sayM has rs r n=(befR rs r n && (has || (repA rs r n == 0) || decide (0 < cnt 7 (rs.getD (r - 1) rnd0).pro 1))):=by
 unfold sayM
 rw [h,if_neg h2];rfl

theorem vf_row {w:World} {v:Value} {zs:List Int} {m:Int} (h:intK.At w v zs) (hv:vf zs m=0) (n:Nat) (hn:n < 3):∃ a c b off,v=.slice a 3 c∧a=some ⟨b,off,none⟩∧w.cell? ⟨b,off + n,none⟩=some (.int .i64 (zs.getD n 0))∧Row .i64 w a zs:=by
 have hl:=vf_len hv
 obtain ⟨a,c,e⟩:=h.shape
 subst e
 have hR:=(intK_at h).2
 obtain ⟨b,off,ha,_,hc⟩:=hR n (by omega)
 exact ⟨a,c,b,off,by rw [hl],ha,hc,hR⟩

set_option maxHeartbeats 4000000 in
theorem l6Said_any (b o:Nat) (p:InstQ) (r n:Nat) (w:World) (hP:InstP w b o p) (hr:r < p.rounds.length) (h4:p.rounds.length≤4) (hn:n < 3) (hF:rndsF (p.rounds.map RoundQ.e)=0) :
  Calls Tryz.prog 33 #[.pointer (some ⟨b,o,none⟩),.int .i64 (r:Int),.int .i64 (n:Int)] w fun e w' => e=.returned (.bool (sayM p.has (p.rounds.map RoundQ.e) r n))∧Below w.heap.size w w' := by
 have hB:Below w.heap.size w w:=Below.refl _ _
 obtain ⟨has,vb,batch,vr,rounds,vd,dec⟩:=p
 dsimp only at hr h4 hF ⊢
 have HE:Hid (sayM has (rounds.map RoundQ.e) r n=sayM has (rounds.map RoundQ.e) r n):=(rfl:_=_)
 generalize hE:sayM has (rounds.map RoundQ.e) r n=E at HE ⊢
 replace HE:Hid (E=sayM has (rounds.map RoundQ.e) r n):=hE.symm
 clear hE
 obtain ⟨ra0,rk0,rfl⟩:∃ a c,vr=.slice a rounds.length c:=hP.rounds.shape
 obtain ⟨hv1,hv2⟩:=rndsF_at hF r (by rw [List.length_map];exact hr)
 have hat:=rnd_at rounds r hr
 rw [hat] at hv1 hv2
 have hv1:vf rounds[r].rep 1=0:=hv1
 have hv2:vf rounds[r].pro 2=0:=hv2
 generalize hrs:rounds.map RoundQ.e=rs at *
 have HQ:Hid (proA rs r n=rounds[r].pro.getD n 0∧repA rs r n=rounds[r].rep.getD n 0∧(rs.getD r rnd0).rep=rounds[r].rep):=by
  refine ⟨?_,?_,?_⟩
  ·show (rs.getD r rnd0).pro.getD n 0=_
   rw [hat];rfl
  ·show (rs.getD r rnd0).rep.getD n 0=_
   rw [hat];rfl
  ·rw [hat];rfl
 obtain ⟨rb,ro,hra,hbs,hc,hrd⟩:=hP.rounds.cell (by decide) r hr
 have hra' : ra0=some ⟨rb,ro,none⟩:=hra
 have hc' : ∀ j x,(roundK.cells rounds[r])[j]? = some x→w.cell? ⟨rb,ro + r * 2 + j,none⟩=some x:=hc
 have r0:=hc' 0 (rounds[r].vr) rfl
 have r1:=hc' 1 (rounds[r].vp) rfl
 obtain ⟨hA1,hA2⟩:intK.At w rounds[r].vr rounds[r].rep∧intK.At w rounds[r].vp rounds[r].pro:=hrd
 clear hc hc' hat hra
 generalize rounds[r].vr=qv at *
 generalize rounds[r].rep=qr at *
 generalize rounds[r].vp=qw at *
 generalize rounds[r].pro=qp at *
 obtain ⟨xa,xc,xb,xo,rfl,hxa,xcell,xRow⟩:=vf_row hA1 hv1 n hn
 obtain ⟨ya,yc,yb,yo,rfl,hya,ycell,yRow⟩:=vf_row hA2 hv2 n hn
 have hmp:=fun w h=>specMayP_any xa xc qr (qp.getD n 0) w h (by have:=vf_len hv1;omega)
 rw [vf_len hv1] at hmp
 subst hxa hya
 obtain ⟨c0,c1,c2,c3⟩:=hP.box
 dsimp only at c0 c1 c2 c3
 clear hA1 hA2
 generalize hPP:qp.getD n 0=PP at *
 generalize hRR:qr.getD n 0=RR at *
 have HRR:Hid (RR=repA rs r n):=HQ.out.2.1.symm
 have hnn:(n:Int) < 3:=by omega
 rw [Nat.add_zero] at r0
 subst hra'
 go_enter Tryz.func33,Tryz.ntmps33
 by_cases hP3:PP=3
 ·have HPR:Hid (proR rs r n=true):=pro_yes (Or.inl (by rw [HQ.out.1];exact hP3))
  have hP3' : (PP != 3)=false:=by simp [hP3]
  clear HQ hmp yRow
  by_cases hr0:r=0
  ·have E2:Hid (E=true):=by rw [HE.out];exact say_open HPR.out (Or.inl hr0)
   subst hr0
   try simp only [Nat.zero_mul,Nat.add_zero] at r0 r1
   clear HE HPR
   go_wp2
   go_ret
   exact ⟨by rw [E2.out];rfl,hB⟩
  ·obtain ⟨s,rfl⟩:∃ s,r=s + 1:=⟨r - 1,by omega⟩
   have hr0' : (((s + 1:Nat):Int) == 0)=false:=by simp;omega
   by_cases hR3:repA rs (s + 1) n=3
   ·have E2:Hid (E=true):=by rw [HE.out];exact say_open HPR.out (Or.inr hR3)
    have hR3' : (RR == 3)=true:=by rw [HRR.out,hR3];rfl
    clear HE HPR
    go_wp2
    go_ret
    exact ⟨by rw [E2.out];rfl,hB⟩
   ·have HS:Hid (E=(befR rs (s + 1) n && (has || (repA rs (s + 1) n == 0) || decide (0 < cnt 7 (rs.getD s rnd0).pro 1)))):=by
     rw [HE.out];exact say_bef HPR.out (by omega)
    have hR3' : (RR == 3)=false:=by rw [HRR.out];simpa using hR3
    have HBF:Hid (befR rs (s + 1) n=((proA rs s n != 3) && mayR (rs.getD s rnd0).pro (repA rs (s + 1) n))):=(rfl:_=_)
    clear HE HPR
    obtain ⟨c0,c1,c2,c3⟩:=hP.box
    dsimp only at c0 c1 c2 c3
    have hs:s < rounds.length:=by omega
    obtain ⟨sb,so,hsa,hsbs,hsc,hsrd⟩:=hP.rounds.cell (by decide) s hs
    simp only [Option.some.injEq,Addr.mk.injEq,and_true] at hsa
    obtain ⟨rfl,rfl⟩:=hsa
    have hsc' : ∀ j x,(roundK.cells rounds[s])[j]? = some x→w.cell? ⟨rb,ro + s * 2 + j,none⟩=some x:=hsc
    have s1:=hsc' 1 (rounds[s].vp) rfl
    have hvs:=(rndsF_at hF s (by rw [← hrs,List.length_map];exact hs)).2
    rw [← hrs,rnd_at rounds s hs] at hvs
    have hvs:vf rounds[s].pro 2=0:=hvs
    have HA:Hid (proA rs s n=rounds[s].pro.getD n 0∧(rs.getD s rnd0).pro=rounds[s].pro):=by
     have:rs.getD s rnd0=RoundQ.e rounds[s]:=by rw [← hrs];exact rnd_at rounds s hs
     refine ⟨?_,?_⟩
     ·show (rs.getD s rnd0).pro.getD n 0=_
      rw [this];rfl
     ·rw [this];rfl
    have hprd:intK.At w rounds[s].vp rounds[s].pro:=hsrd.2
    clear hsc hsc' hsrd
    generalize rounds[s].vp=qw at *
    generalize rounds[s].pro=qp at *
    obtain ⟨pa,pc,pb,po,rfl,hpa,pcell,pRow⟩:=vf_row hprd hvs n hn
    have hmr:=fun w h=>specMayR_any pa pc qp RR w h (by have:=vf_len hvs;omega)
    have hct:=fun w h=>l5Count_any pa pc qp 7 1 w h (vf_len hvs) rfl
    rw [vf_len hvs] at hmr
    have HS2:Hid (E=(((qp.getD n 0 != 3) && mayR qp RR) && (has || (RR == 0) || decide (0 < cnt 7 qp 1)))):=by
     rw [HS.out,HBF.out,HA.out.1,HA.out.2,← HRR.out]
     exact (rfl:_=_)
    subst hpa
    clear HS HBF HA hprd hvs
    generalize qp.getD n 0=AA at *
    by_cases hA:AA=3
    ·have E2:Hid (E=false):=by rw [HS2.out,hA];rfl
     have hA' : (AA == 3)=true:=by simp [hA]
     clear HS2 hmr hct hA
     go_wp2
     go_ret
     exact ⟨by rw [E2.out];rfl,hB⟩
    ·have hA' : (AA == 3)=false:=by simpa using hA
     have hA2:(AA != 3)=true:=by simpa using hA
     rw [hA2] at HS2
     clear hA hA2
     have hmr1:=hmr w pRow
     generalize mayR qp RR=Y at *
     go_wp2_with fail
     refine hmr1.mono ?_
     rintro e w5 ⟨rfl,hb5⟩
     have hP5:=hP.below hb5
     replace hB:=hB.trans (hb5.mono hB.size)
     have pRow5:=pRow.below hb5
     clear hmr hmr1 c0 c1 c2 c3 s1 pcell
     obtain ⟨c0,c1,c2,c3⟩:=hP5.box
     dsimp only at c0 c1 c2 c3
     cases Y with
     | false=>
      have E2:Hid (E=false):=by rw [HS2.out];rfl
      clear HS2 hct
      go_wp2
      go_ret
      exact ⟨by rw [E2.out];rfl,hB⟩
     | true=>
      cases has with
      | true=>
       have E2:Hid (E=true):=by rw [HS2.out];rfl
       clear HS2 hct
       go_wp2
       go_ret
       exact ⟨by rw [E2.out];rfl,hB⟩
      | false=>
       by_cases hz:RR=0
       ·have E2:Hid (E=true):=by rw [HS2.out,hz];rfl
        have hz' : (RR == 0)=true:=by simp [hz]
        clear HS2 hct hz
        go_wp2
        go_ret
        exact ⟨by rw [E2.out];rfl,hB⟩
       ·have hz' : (RR == 0)=false:=by simpa using hz
        rw [hz'] at HS2
        have hct1:=hct w5 pRow5
        generalize cnt 7 qp 1=CC at *
        clear hz hct
        go_wp2_with fail
        refine hct1.mono ?_
        rintro e w6 ⟨rfl,hb6⟩
        replace hB:=hB.trans (hb6.mono hB.size)
        clear hct1 hb6 c0 c1 c2 c3
        have E2:Hid (E=decide (0 < CC)):=show _=_ by rw [HS2.out];simp
        clear HS2
        go_wp2
        go_ret
        exact ⟨by rw [E2.out];rfl,hB⟩
 ·have hP3' : (PP != 3)=true:=by simpa using hP3
  by_cases hR3:RR=3
  ·have E2:Hid (E=false):=by rw [HE.out];exact say_no (pro_no (by rw [HQ.out.1];exact hP3) (Or.inl (by rw [← HRR.out];exact hR3)))
   have hR3' : (RR == 3)=true:=by simp [hR3]
   clear HE HQ hmp hR3 hP3
   go_wp2
   go_ret
   exact ⟨by rw [E2.out];rfl,hB⟩
  ·have hR3' : (RR == 3)=false:=by simpa using hR3
   have HX:Hid (mayP qr PP=false→E=false):=fun hx=>by rw [HE.out];exact say_no (pro_no (by rw [HQ.out.1];exact hP3) (Or.inr (by rw [HQ.out.2.2,HQ.out.1];exact hx)))
   have HY:Hid (mayP qr PP=true→proR rs r n=true):=fun hx=>pro_yes (Or.inr ⟨by rw [← HRR.out];exact hR3,by rw [HQ.out.2.2,HQ.out.1];exact hx⟩)
   have hmp1:=hmp w xRow
   generalize mayP qr PP=X at *
   clear hR3 hP3 HQ hmp
   go_wp2_with fail
   refine hmp1.mono ?_
   rintro e w1 ⟨rfl,hb1⟩
   replace hP:=hP.below hb1
   replace hB:=hB.trans (hb1.mono hB.size)
   clear hmp1 c0 c1 c2 c3 r0 r1 xcell ycell yRow xRow
   cases X with
   | false=>
    have E2:Hid (E=false):=HX.out rfl
    clear HX HY HE
    go_wp2
    go_ret
    exact ⟨by rw [E2.out];rfl,hB⟩
   | true=>
    have HPR:Hid (proR rs r n=true):=HY.out rfl
    clear HX HY hR3' hP3'
    by_cases hr0:r=0
    ·have E2:Hid (E=true):=by rw [HE.out];exact say_open HPR.out (Or.inl hr0)
     subst hr0
     try simp only [Nat.zero_mul,Nat.add_zero] at r0 r1
     clear HE HPR
     go_wp2
     go_ret
     exact ⟨by rw [E2.out];rfl,hB⟩
    ·obtain ⟨s,rfl⟩:∃ s,r=s + 1:=⟨r - 1,by omega⟩
     have hr0' : (((s + 1:Nat):Int) == 0)=false:=by simp;omega
     by_cases hR3:repA rs (s + 1) n=3
     ·have E2:Hid (E=true):=by rw [HE.out];exact say_open HPR.out (Or.inr hR3)
      have hR3' : (RR == 3)=true:=by rw [HRR.out,hR3];rfl
      clear HE HPR
      go_wp2
      go_ret
      exact ⟨by rw [E2.out];rfl,hB⟩
     ·have HS:Hid (E=(befR rs (s + 1) n && (has || (repA rs (s + 1) n == 0) || decide (0 < cnt 7 (rs.getD s rnd0).pro 1)))):=by
       rw [HE.out];exact say_bef HPR.out (by omega)
      have hR3' : (RR == 3)=false:=by rw [HRR.out];simpa using hR3
      have HBF:Hid (befR rs (s + 1) n=((proA rs s n != 3) && mayR (rs.getD s rnd0).pro (repA rs (s + 1) n))):=(rfl:_=_)
      clear HE HPR
      obtain ⟨c0,c1,c2,c3⟩:=hP.box
      dsimp only at c0 c1 c2 c3
      have hs:s < rounds.length:=by omega
      obtain ⟨sb,so,hsa,hsbs,hsc,hsrd⟩:=hP.rounds.cell (by decide) s hs
      simp only [Option.some.injEq,Addr.mk.injEq,and_true] at hsa
      obtain ⟨rfl,rfl⟩:=hsa
      have hsc' : ∀ j x,(roundK.cells rounds[s])[j]? = some x→w1.cell? ⟨rb,ro + s * 2 + j,none⟩=some x:=hsc
      have s1:=hsc' 1 (rounds[s].vp) rfl
      have hvs:=(rndsF_at hF s (by rw [← hrs,List.length_map];exact hs)).2
      rw [← hrs,rnd_at rounds s hs] at hvs
      have hvs:vf rounds[s].pro 2=0:=hvs
      have HA:Hid (proA rs s n=rounds[s].pro.getD n 0∧(rs.getD s rnd0).pro=rounds[s].pro):=by
       have:rs.getD s rnd0=RoundQ.e rounds[s]:=by rw [← hrs];exact rnd_at rounds s hs
       refine ⟨?_,?_⟩
       ·show (rs.getD s rnd0).pro.getD n 0=_
        rw [this];rfl
       ·rw [this];rfl
      have hprd:intK.At w1 rounds[s].vp rounds[s].pro:=hsrd.2
      clear hsc hsc' hsrd
      generalize rounds[s].vp=qw at *
      generalize rounds[s].pro=qp at *
      obtain ⟨pa,pc,pb,po,rfl,hpa,pcell,pRow⟩:=vf_row hprd hvs n hn
      have hmr:=fun w h=>specMayR_any pa pc qp RR w h (by have:=vf_len hvs;omega)
      have hct:=fun w h=>l5Count_any pa pc qp 7 1 w h (vf_len hvs) rfl
      rw [vf_len hvs] at hmr
      have HS2:Hid (E=(((qp.getD n 0 != 3) && mayR qp RR) && (has || (RR == 0) || decide (0 < cnt 7 qp 1)))):=by
       rw [HS.out,HBF.out,HA.out.1,HA.out.2,← HRR.out]
       exact (rfl:_=_)
      subst hpa
      clear HS HBF HA hprd hvs
      generalize qp.getD n 0=AA at *
      by_cases hA:AA=3
      ·have E2:Hid (E=false):=by rw [HS2.out,hA];rfl
       have hA' : (AA == 3)=true:=by simp [hA]
       clear HS2 hmr hct hA
       go_wp2
       go_ret
       exact ⟨by rw [E2.out];rfl,hB⟩
      ·have hA' : (AA == 3)=false:=by simpa using hA
       have hA2:(AA != 3)=true:=by simpa using hA
       rw [hA2] at HS2
       clear hA hA2
       have hmr1:=hmr w1 pRow
       generalize mayR qp RR=Y at *
       go_wp2_with fail
       refine hmr1.mono ?_
       rintro e w5 ⟨rfl,hb5⟩
       have hP5:=hP.below hb5
       replace hB:=hB.trans (hb5.mono hB.size)
       have pRow5:=pRow.below hb5
       clear hmr hmr1 c0 c1 c2 c3 s1 pcell
       obtain ⟨c0,c1,c2,c3⟩:=hP5.box
       dsimp only at c0 c1 c2 c3
       cases Y with
       | false=>
        have E2:Hid (E=false):=by rw [HS2.out];rfl
        clear HS2 hct
        go_wp2
        go_ret
        exact ⟨by rw [E2.out];rfl,hB⟩
       | true=>
        cases has with
        | true=>
         have E2:Hid (E=true):=by rw [HS2.out];rfl
         clear HS2 hct
         go_wp2
         go_ret
         exact ⟨by rw [E2.out];rfl,hB⟩
        | false=>
         by_cases hz:RR=0
         ·have E2:Hid (E=true):=by rw [HS2.out,hz];rfl
          have hz' : (RR == 0)=true:=by simp [hz]
          clear HS2 hct hz
          go_wp2
          go_ret
          exact ⟨by rw [E2.out];rfl,hB⟩
         ·have hz' : (RR == 0)=false:=by simpa using hz
          rw [hz'] at HS2
          have hct1:=hct w5 pRow5
          generalize cnt 7 qp 1=CC at *
          clear hz hct
          go_wp2_with fail
          refine hct1.mono ?_
          rintro e w6 ⟨rfl,hb6⟩
          replace hB:=hB.trans (hb6.mono hB.size)
          clear hct1 hb6 c0 c1 c2 c3
          have E2:Hid (E=decide (0 < CC)):=show _=_ by rw [HS2.out];simp
          clear HS2
          go_wp2
          go_ret
          exact ⟨by rw [E2.out];rfl,hB⟩

end Go.Proofs.YtnnenkoeklabpaaGreatDoor
namespace Go.Proofs.YtnnenkoeklabpaaGreatDoor
open Go.RowKit
open Go.BigFrame
set_option maxRecDepth 100000
theorem agr_at {rs:List RoundE} {v:Int} {k:Nat} (hk:k < rs.length) (h:2≤cnt 7 (rs.getD k rnd0).pro v):agr rs v=true:=by
 unfold agr
 rw [List.any_eq_true]
 refine ⟨rs[k],List.getElem_mem hk,?_⟩
 have e:rs.getD k rnd0=rs[k]:=by simp [List.getD,hk]
 rw [e] at h
 simpa using h

theorem agr_none {rs:List RoundE} {v:Int} (h:∀ k,k < rs.length→cnt 7 (rs.getD k rnd0).pro v < 2):agr rs v=false:=by
 unfold agr
 rw [List.any_eq_false]
 intro x hx
 obtain ⟨k,hk,rfl⟩:=List.getElem_of_mem hx
 have e:rs.getD k rnd0=rs[k]:=by simp [List.getD,hk]
 have:=h k hk
 rw [e] at this
 simpa using this

set_option maxHeartbeats 4000000 in
theorem l6Ended_any (b o:Nat) (p:InstQ) (n:Nat) (w:World) (hP:InstP w b o p) (h4:p.rounds.length≤4) (hn:n < 3) (hF:rndsF (p.rounds.map RoundQ.e)=0) (hD:vf p.dec 1=0) :
  Calls Tryz.prog 34 #[.pointer (some ⟨b,o,none⟩),.int .i64 (n:Int)] w fun e w' => e=.returned (.bool (endR (p.rounds.map RoundQ.e) (p.dec.getD n 0)))∧Below w.heap.size w w' := by
 obtain ⟨has,vb,batch,vr,rounds,vd,dec⟩:=p
 dsimp only at h4 hF hD ⊢
 have hdec:intK.At w vd dec:=hP.dec
 obtain ⟨da,dc,db,dof,rfl,hda,dcell,dRow⟩:=vf_row hdec hD n hn
 subst hda
 generalize hE:endR (rounds.map RoundQ.e) (dec.getD n 0)=E
 have HE:Hid (E=((dec.getD n 0 == 3) || agr (rounds.map RoundQ.e) (dec.getD n 0))):=hE.symm
 clear hE hdec dRow
 generalize dec.getD n 0=v at *
 obtain ⟨ra,rk,rfl⟩:∃ a c,vr=.slice a rounds.length c:=hP.rounds.shape
 obtain ⟨c0,c1,c2,c3⟩:=hP.box
 dsimp only at c0 c1 c2 c3
 have hnn:(n:Int) < 3:=by omega
 by_cases hv:v=3
 ·have E2:Hid (E=true):=by rw [HE.out,hv];rfl
  have hv' : (v == 3)=true:=by simp [hv]
  clear HE hv
  go_enter Tryz.func34,Tryz.ntmps34
  go_wp2
  go_ret
  exact ⟨by rw [E2.out];rfl,Below.refl _ _⟩
 ·have hv' : (v == 3)=false:=by simpa using hv
  have HE2:Hid (E=agr (rounds.map RoundQ.e) v):=by rw [HE.out,hv'];exact (rfl:_=_)
  clear HE hv
  go_enter Tryz.func34,Tryz.ntmps34
  go_wp2
  clear c0 c1 c2 c3 dcell
  go_loopw [6] (fun j wr=>∃ k:Nat,k≤rounds.length∧j=.int .i64 k∧Hid (∀ j,j < k→cnt 7 ((rounds.map RoundQ.e).getD j rnd0).pro v < 2)∧Below w.heap.size w wr) (fun j _=>rounds.length - (intOf j).toNat)
  case atStart=>exact ⟨0,Nat.zero_le _,rfl,fun j hj=>absurd hj (Nat.not_lt_zero _),Below.refl _ _⟩
  case round=>
   obtain ⟨k,hk,rfl,HA,hb⟩:=hrel
   have hPr:=hP.below hb
   obtain ⟨c0,c1,c2,c3⟩:=hPr.box
   dsimp only at c0 c1 c2 c3
   by_cases hlt:k < rounds.length
   ·obtain ⟨rb,ro,rfl,hbs,hc,hrd⟩:=hPr.rounds.cell (by decide) k hlt
    have hc' : ∀ j x,(roundK.cells rounds[k])[j]? = some x→wr.cell? ⟨rb,ro + k * 2 + j,none⟩=some x:=hc
    have r1:=hc' 1 (rounds[k].vp) rfl
    have hv2:=(rndsF_at hF k (by rw [List.length_map];exact hlt)).2
    have HY:Hid (2≤cnt 7 rounds[k].pro v→E=true):=fun h=>by
     rw [HE2.out]
     exact agr_at (k:=k) (by rw [List.length_map];exact hlt) (by rw [rnd_at rounds k hlt];exact h)
    have HN:Hid (cnt 7 rounds[k].pro v < 2→∀ j,j < k + 1→cnt 7 ((rounds.map RoundQ.e).getD j rnd0).pro v < 2):=by
     intro h j hj
     by_cases hjk:j=k
     ·subst hjk
      rw [rnd_at rounds j hlt]
      exact h
     ·exact HA.out j (by omega)
    rw [rnd_at rounds k hlt] at hv2
    have hv2:vf rounds[k].pro 2=0:=hv2
    have hA2:intK.At wr rounds[k].vp rounds[k].pro:=hrd.2
    clear hc hc' hrd HA
    generalize rounds[k].vp=qw at *
    generalize rounds[k].pro=qp at *
    obtain ⟨pa,pc,pb,po,rfl,hpa,pcell,pRow⟩:=vf_row hA2 hv2 0 (by omega)
    subst hpa
    have hct:=l5Count_any (some ⟨pb,po,none⟩) pc qp 7 v wr pRow (vf_len hv2) rfl
    generalize cnt 7 qp v=C at *
    clear hA2 hv2 pcell pRow
    go_wp2_with fail
    refine hct.mono ?_
    rintro e w2 ⟨rfl,hb2⟩
    replace hb:=hb.trans (hb2.mono hb.size)
    clear hct c0 c1 c2 c3 r1 hb2 hPr
    by_cases hC:2≤C
    ·have E2:Hid (E=true):=HY.out hC
     clear HY HN HE2
     go_wp2
     go_ret
     exact ⟨by rw [E2.out];rfl,hb⟩
    ·have R:=HN.out (by omega)
     have HR:Hid _:=R
     clear HY HN R
     go_wp2
     go_roundw
     case rel=>exact ⟨k + 1,by omega,by go_num,HR.out,hb⟩
     case measure=>simp [intOf];omega
   ·have hkl:k=rounds.length:=by omega
    subst hkl
    have E2:Hid (E=false):=by rw [HE2.out];exact agr_none (by simpa using HA.out)
    clear HA HE2
    go_wp2
    go_ret
    exact ⟨by rw [E2.out];rfl,hb⟩

theorem shp_zero {x:InstE} (h:shpF x=0):(1≤x.rounds.length∧x.rounds.length≤4)∧rndsF x.rounds=0∧vf x.dec 1=0∧(x.has=false→x.batch=[])∧(x.has=true→batF x.batch=0):=by
 unfold shpF at h
 by_cases h1:x.has=false∧0 < x.batch.length
 ·rw [if_pos h1] at h
  simp at h
 rw [if_neg h1] at h
 by_cases h2:x.has=true∧batF x.batch≠0
 ·rw [if_pos h2] at h
  exact absurd h h2.2
 rw [if_neg h2] at h
 by_cases h3:x.rounds.length < 1∨4 < x.rounds.length
 ·rw [if_pos h3] at h
  simp at h
 rw [if_neg h3] at h
 by_cases h4:rndsF x.rounds=0
 ·rw [if_pos h4] at h
  refine ⟨by omega,h4,h,fun hh=>?_,fun hh=>?_⟩
  ·cases hb:x.batch with
   | nil=>rfl
   | cons _ _=>exact absurd ⟨hh,by rw [hb];simp⟩ h1
  ·by_cases hb:batF x.batch=0
   ·exact hb
   ·exact absurd ⟨hh,hb⟩ h2
 ·rw [if_neg h4] at h
  exact absurd h h4

theorem allM_no {has:Bool} {rs:List RoundE} {r n:Nat} (hr:r < rs.length) (hn:n < 3) (h:sayM has rs r n=false):(List.range rs.length).all (allM has rs)=false:=by
 rw [List.all_eq_false]
 refine ⟨r,List.mem_range.2 hr,?_⟩
 intro e
 rw [(allM_iff has rs r).1 e n hn] at h
 exact absurd h (by decide)

theorem endA_iff (rs:List RoundE) (dec:List Int):endA rs dec=true↔∀ n,n < 3→endR rs (dec.getD n 0)=true:=by
 unfold endA
 simp only [Bool.and_eq_true]
 constructor
 ·rintro ⟨⟨h0,h1⟩,h2⟩ n hn
  have:n=0∨n=1∨n=2:=by omega
  rcases this with rfl | rfl | rfl
  ·exact h0
  ·exact h1
  ·exact h2
 ·intro h
  exact ⟨⟨h 0 (by omega),h 1 (by omega)⟩,h 2 (by omega)⟩

theorem insF_M {x:InstE} (h:shpF x=0):insF x=if rgtM x then 0 else 10:=by
 obtain ⟨h1,h2,h3,_⟩:=shp_zero h
 unfold insF
 rw [if_pos h,rgt_same h2 (by omega)]

set_option maxHeartbeats 4000000 in
theorem l6Fault_any (b o:Nat) (p:InstQ) (w:World) (hP:InstP w b o p) (hl:p.n≤1048576) :
  Calls Tryz.prog 18 #[.pointer (some ⟨b,o,none⟩)] w fun e w' => e=.returned (.int .i64 (insF p.e))∧Below w.heap.size w w' := by
 have hsh:=l6Shape_any b o p w hP hl
 generalize hE:insF p.e=E
 have HE0:Hid (E=insF p.e):=hE.symm
 clear hE
 go_enter Tryz.func18,Tryz.ntmps18
 go_wp2_with fail
 refine hsh.mono ?_
 rintro e w1 ⟨rfl,hb1⟩
 replace hP:=hP.below hb1
 clear hsh
 by_cases h0:shpF p.e=0
 ·obtain ⟨⟨h1,h4⟩,hF,hD,_,_⟩:=shp_zero h0
  have HE:Hid (E=if rgtM p.e then 0 else 10):=HE0.out.trans (insF_M h0)
  rw [h0]
  clear h0
  obtain ⟨has,vb,batch,vr,rounds,vd,dec⟩:=p
  replace hF:rndsF (rounds.map RoundQ.e)=0:=hF
  replace hD:vf dec 1=0:=hD
  replace h1:1≤(rounds.map RoundQ.e).length:=h1
  replace h4:(rounds.map RoundQ.e).length≤4:=h4
  rw [List.length_map] at h1 h4
  have HE2:Hid (E=if (has || !decide (0 < cnt 7 ((rounds.map RoundQ.e).getD 0 rnd0).rep 1)) && (List.range (rounds.map RoundQ.e).length).all (allM has (rounds.map RoundQ.e)) && endA (rounds.map RoundQ.e) dec then 0 else 10):=HE.out
  clear HE HE0
  have hsaid:=fun r n w hP hr hn=>l6Said_any b o ⟨has,vb,batch,vr,rounds,vd,dec⟩ r n w hP hr h4 hn hF
  have hend:=fun n w hP hn=>l6Ended_any b o ⟨has,vb,batch,vr,rounds,vd,dec⟩ n w hP h4 hn hF hD
  dsimp only at hsaid hend
  obtain ⟨ra,rk,rfl⟩:∃ a c,vr=.slice a rounds.length c:=hP.rounds.shape
  obtain ⟨rb,ro,rfl,hbs,hc,hrd⟩:=hP.rounds.cell (by decide) 0 (show 0 < rounds.length by omega)
  have hc' : ∀ j x,(roundK.cells rounds[0])[j]? = some x→w1.cell? ⟨rb,ro + 0 * 2 + j,none⟩=some x:=hc
  have r0:=hc' 0 (rounds[0].vr) rfl
  have hv1:=(rndsF_at hF 0 (by rw [List.length_map];omega)).1
  rw [rnd_at rounds 0 (by omega)] at hv1 HE2
  have hv1:vf rounds[0].rep 1=0:=hv1
  have HE3:Hid (E=if (has || !decide (0 < cnt 7 rounds[0].rep 1)) && (List.range (rounds.map RoundQ.e).length).all (allM has (rounds.map RoundQ.e)) && endA (rounds.map RoundQ.e) dec then 0 else 10):=HE2.out
  clear HE2
  have hA1:intK.At w1 rounds[0].vr rounds[0].rep:=hrd.1
  clear hc hc' hrd
  generalize rounds[0].vr=qv at *
  generalize rounds[0].rep=qr at *
  obtain ⟨xa,xc,xb,xo,rfl,hxa,xcell,xRow⟩:=vf_row hA1 hv1 0 (by omega)
  subst hxa
  have hct:=l5Count_any (some ⟨xb,xo,none⟩) xc qr 7 1 w1 xRow (vf_len hv1) rfl
  clear xcell xRow hA1 hv1
  generalize cnt 7 qr 1=C at *
  obtain ⟨c0,c1,c2,c3⟩:=hP.box
  dsimp only at c0 c1 c2 c3
  simp only [Nat.zero_mul,Nat.add_zero] at r0
  have h1' : (0:Int) < rounds.length:=by omega
  generalize hrs:rounds.map RoundQ.e=rs at *
  have hrl:rs.length=rounds.length:=by rw [← hrs,List.length_map]
  rw [hrl] at HE3
  have HRL:Hid (rs.length=rounds.length):=hrl
  clear hrl
  cases has with
  | true=>
   have HE4:Hid (E=if (List.range rounds.length).all (allM true rs) && endA rs dec then 0 else 10):=by rw [HE3.out,Bool.true_or,Bool.true_and];exact (rfl:_=_)
   have hB:=hb1
   clear HE3 hct
   go_wp2
   clear c0 c1 c2 c3 r0
   go_loopw [4] (fun j wr=>∃ k:Nat,k≤rounds.length∧j=.int .i64 k∧Hid (∀ j,j < k→allM true rs j=true)∧Below w1.heap.size w1 wr) (fun j _=>rounds.length - (intOf j).toNat)
   case atStart=>exact ⟨0,Nat.zero_le _,rfl,fun j hj=>absurd hj (Nat.not_lt_zero _),Below.refl _ _⟩
   case round=>
    obtain ⟨k,hk,rfl,HA,hb⟩:=hrel
    have hPr:=hP.below hb
    obtain ⟨c0,c1,c2,c3⟩:=hPr.box
    dsimp only at c0 c1 c2 c3
    by_cases hlt:k < rounds.length
    ·go_wp2
     clear c0 c1 c2 c3
     go_loopw [5] (fun j wx=>∃ m:Nat,m≤3∧j=.int .i64 m∧Hid (∀ j,j < m→sayM true rs k j=true)∧Below w1.heap.size w1 wx) (fun j _=>3 - (intOf j).toNat)
     case atStart=>exact ⟨0,Nat.zero_le _,rfl,fun j hj=>absurd hj (Nat.not_lt_zero _),hb⟩
     case round=>
      obtain ⟨m,hm,rfl,HB,hbx⟩:=hrel
      by_cases hm3:m < 3
      ·have hs:=hsaid k m _ (hP.below hbx) hlt hm3
       have HY:Hid (sayM true rs k m=false→E=10):=fun h=>by rw [HE4.out,← HRL.out,allM_no (by rw [HRL.out];exact hlt) hm3 h];rfl
       have HN:Hid (sayM true rs k m=true→∀ j,j < m + 1→sayM true rs k j=true):=fun h j hj=>by
        by_cases hjm:j=m
        ·subst hjm;exact h
        ·exact HB.out j (by omega)
       clear HB
       generalize sayM true rs k m=X at *
       have hm3' : (m:Int) < 3:=by omega
       go_wp2_with fail
       refine hs.mono ?_
       rintro e w5 ⟨rfl,hb5⟩
       replace hbx:=hbx.trans (hb5.mono hbx.size)
       clear hs hb5
       cases X with
       | false=>
        have E2:Hid (E=10):=HY.out rfl
        clear HY HN HE4
        go_wp2
        go_ret
        exact ⟨by rw [E2.out];rfl,hB.trans (hbx.mono hB.size)⟩
       | true=>
        have R:=HN.out rfl
        have HR:Hid _:=R
        clear HY HN R
        go_wp2
        go_roundw
        case rel=>exact ⟨m + 1,by omega,by go_num,HR.out,hbx⟩
        case measure=>simp [intOf];omega
      ·have hme:m=3:=by omega
       subst hme
       have HR:Hid (∀ j,j < k + 1→allM true rs j=true):=fun j hj=>by
        by_cases hjk:j=k
        ·subst hjk;exact (allM_iff true rs j).2 HB.out
        ·exact HA.out j (by omega)
       clear HA HB
       go_wp2
       go_roundw
       case rel=>exact ⟨k + 1,by omega,by go_num,HR.out,hbx⟩
       case measure=>simp [intOf];omega
    ·have hkl:k=rounds.length:=by omega
     subst hkl
     have HE5:Hid (E=if endA rs dec then 0 else 10):=by
      have e:(List.range rounds.length).all (allM true rs)=true:=by
       rw [List.all_eq_true]
       intro x hx
       exact HA.out x (List.mem_range.1 hx)
      rw [HE4.out,e]
      exact (rfl:_=_)
     clear HA HE4
     go_wp2
     clear c0 c1 c2 c3
     go_loopw [6] (fun j wx=>∃ m:Nat,m≤3∧j=.int .i64 m∧Hid (∀ j,j < m→endR rs (dec.getD j 0)=true)∧Below w1.heap.size w1 wx) (fun j _=>3 - (intOf j).toNat)
     case atStart=>exact ⟨0,Nat.zero_le _,rfl,fun j hj=>absurd hj (Nat.not_lt_zero _),hb⟩
     case round=>
      obtain ⟨m,hm,rfl,HB,hbx⟩:=hrel
      by_cases hm3:m < 3
      ·have hs:=hend m _ (hP.below hbx) hm3
       have HY:Hid (endR rs (dec.getD m 0)=false→E=10):=fun h=>by
        have:endA rs dec=false:=by
         cases he:endA rs dec with
         | false=>rfl
         | true=>
          rw [(endA_iff rs dec).1 he m hm3] at h
          exact absurd h (by decide)
        rw [HE5.out,this];rfl
       have HN:Hid (endR rs (dec.getD m 0)=true→∀ j,j < m + 1→endR rs (dec.getD j 0)=true):=fun h j hj=>by
        by_cases hjm:j=m
        ·subst hjm;exact h
        ·exact HB.out j (by omega)
       clear HB
       generalize endR rs (dec.getD m 0)=X at *
       have hm3' : (m:Int) < 3:=by omega
       go_wp2_with fail
       refine hs.mono ?_
       rintro e w5 ⟨rfl,hb5⟩
       replace hbx:=hbx.trans (hb5.mono hbx.size)
       clear hs hb5
       cases X with
       | false=>
        have E2:Hid (E=10):=HY.out rfl
        clear HY HN HE5
        go_wp2
        go_ret
        exact ⟨by rw [E2.out];rfl,hB.trans (hbx.mono hB.size)⟩
       | true=>
        have R:=HN.out rfl
        have HR:Hid _:=R
        clear HY HN R
        go_wp2
        go_roundw
        case rel=>exact ⟨m + 1,by omega,by go_num,HR.out,hbx⟩
        case measure=>simp [intOf];omega
      ·have hme:m=3:=by omega
       subst hme
       have E2:Hid (E=0):=by rw [HE5.out,(endA_iff rs dec).2 HB.out];rfl
       clear HB HE5
       go_wp2
       go_ret
       exact ⟨by rw [E2.out];rfl,hB.trans (hbx.mono hB.size)⟩
  | false=>
   go_wp2_with fail
   refine hct.mono ?_
   rintro e w2 ⟨rfl,hb2⟩
   replace hP:=hP.below hb2
   have hB:=hb1.trans (hb2.mono hb1.size)
   clear hct c0 c1 c2 c3 r0
   by_cases hC:0 < C
   ·have E2:Hid (E=10):=show _=_ by rw [HE3.out];simp [hC]
    clear HE3
    go_wp2
    go_ret
    exact ⟨by rw [E2.out];rfl,hB⟩
   ·have HE4:Hid (E=if (List.range rounds.length).all (allM false rs) && endA rs dec then 0 else 10):=show _=_ by rw [HE3.out];simp [hC]
    clear HE3
    go_wp2
    go_loopw [4] (fun j wr=>∃ k:Nat,k≤rounds.length∧j=.int .i64 k∧Hid (∀ j,j < k→allM false rs j=true)∧Below w2.heap.size w2 wr) (fun j _=>rounds.length - (intOf j).toNat)
    case atStart=>exact ⟨0,Nat.zero_le _,rfl,fun j hj=>absurd hj (Nat.not_lt_zero _),Below.refl _ _⟩
    case round=>
     obtain ⟨k,hk,rfl,HA,hb⟩:=hrel
     have hPr:=hP.below hb
     obtain ⟨c0,c1,c2,c3⟩:=hPr.box
     dsimp only at c0 c1 c2 c3
     by_cases hlt:k < rounds.length
     ·go_wp2
      clear c0 c1 c2 c3
      go_loopw [5] (fun j wx=>∃ m:Nat,m≤3∧j=.int .i64 m∧Hid (∀ j,j < m→sayM false rs k j=true)∧Below w2.heap.size w2 wx) (fun j _=>3 - (intOf j).toNat)
      case atStart=>exact ⟨0,Nat.zero_le _,rfl,fun j hj=>absurd hj (Nat.not_lt_zero _),hb⟩
      case round=>
       obtain ⟨m,hm,rfl,HB,hbx⟩:=hrel
       by_cases hm3:m < 3
       ·have hs:=hsaid k m _ (hP.below hbx) hlt hm3
        have HY:Hid (sayM false rs k m=false→E=10):=fun h=>by rw [HE4.out,← HRL.out,allM_no (by rw [HRL.out];exact hlt) hm3 h];rfl
        have HN:Hid (sayM false rs k m=true→∀ j,j < m + 1→sayM false rs k j=true):=fun h j hj=>by
         by_cases hjm:j=m
         ·subst hjm;exact h
         ·exact HB.out j (by omega)
        clear HB
        generalize sayM false rs k m=X at *
        have hm3' : (m:Int) < 3:=by omega
        go_wp2_with fail
        refine hs.mono ?_
        rintro e w5 ⟨rfl,hb5⟩
        replace hbx:=hbx.trans (hb5.mono hbx.size)
        clear hs hb5
        cases X with
        | false=>
         have E2:Hid (E=10):=HY.out rfl
         clear HY HN HE4
         go_wp2
         go_ret
         exact ⟨by rw [E2.out];rfl,hB.trans (hbx.mono hB.size)⟩
        | true=>
         have R:=HN.out rfl
         have HR:Hid _:=R
         clear HY HN R
         go_wp2
         go_roundw
         case rel=>exact ⟨m + 1,by omega,by go_num,HR.out,hbx⟩
         case measure=>simp [intOf];omega
       ·have hme:m=3:=by omega
        subst hme
        have HR:Hid (∀ j,j < k + 1→allM false rs j=true):=fun j hj=>by
         by_cases hjk:j=k
         ·subst hjk;exact (allM_iff false rs j).2 HB.out
         ·exact HA.out j (by omega)
        clear HA HB
        go_wp2
        go_roundw
        case rel=>exact ⟨k + 1,by omega,by go_num,HR.out,hbx⟩
        case measure=>simp [intOf];omega
     ·have hkl:k=rounds.length:=by omega
      subst hkl
      have HE5:Hid (E=if endA rs dec then 0 else 10):=by
       have e:(List.range rounds.length).all (allM false rs)=true:=by
        rw [List.all_eq_true]
        intro x hx
        exact HA.out x (List.mem_range.1 hx)
       rw [HE4.out,e]
       exact (rfl:_=_)
      clear HA HE4
      go_wp2
      clear c0 c1 c2 c3
      go_loopw [6] (fun j wx=>∃ m:Nat,m≤3∧j=.int .i64 m∧Hid (∀ j,j < m→endR rs (dec.getD j 0)=true)∧Below w2.heap.size w2 wx) (fun j _=>3 - (intOf j).toNat)
      case atStart=>exact ⟨0,Nat.zero_le _,rfl,fun j hj=>absurd hj (Nat.not_lt_zero _),hb⟩
      case round=>
       obtain ⟨m,hm,rfl,HB,hbx⟩:=hrel
       by_cases hm3:m < 3
       ·have hs:=hend m _ (hP.below hbx) hm3
        have HY:Hid (endR rs (dec.getD m 0)=false→E=10):=fun h=>by
         have:endA rs dec=false:=by
          cases he:endA rs dec with
          | false=>rfl
          | true=>
           rw [(endA_iff rs dec).1 he m hm3] at h
           exact absurd h (by decide)
         rw [HE5.out,this];rfl
        have HN:Hid (endR rs (dec.getD m 0)=true→∀ j,j < m + 1→endR rs (dec.getD j 0)=true):=fun h j hj=>by
         by_cases hjm:j=m
         ·subst hjm;exact h
         ·exact HB.out j (by omega)
        clear HB
        generalize endR rs (dec.getD m 0)=X at *
        have hm3' : (m:Int) < 3:=by omega
        go_wp2_with fail
        refine hs.mono ?_
        rintro e w5 ⟨rfl,hb5⟩
        replace hbx:=hbx.trans (hb5.mono hbx.size)
        clear hs hb5
        cases X with
        | false=>
         have E2:Hid (E=10):=HY.out rfl
         clear HY HN HE5
         go_wp2
         go_ret
         exact ⟨by rw [E2.out];rfl,hB.trans (hbx.mono hB.size)⟩
        | true=>
         have R:=HN.out rfl
         have HR:Hid _:=R
         clear HY HN R
         go_wp2
         go_roundw
         case rel=>exact ⟨m + 1,by omega,by go_num,HR.out,hbx⟩
         case measure=>simp [intOf];omega
       ·have hme:m=3:=by omega
        subst hme
        have E2:Hid (E=0):=by rw [HE5.out,(endA_iff rs dec).2 HB.out];rfl
        clear HB HE5
        go_wp2
        go_ret
        exact ⟨by rw [E2.out];rfl,hB.trans (hbx.mono hB.size)⟩
 ·have E2:Hid (E=shpF p.e):=HE0.out.trans (if_neg h0)
  have h0' : (shpF p.e != 0)=true:=by simpa using h0
  clear HE0
  generalize shpF p.e=r at *
  clear h0
  go_wp2
  go_ret
  exact ⟨by rw [E2.out];rfl,hb1⟩

end Go.Proofs.YtnnenkoeklabpaaGreatDoor
namespace Go.Proofs.YtnnenkoeklabpaaGreatDoor
open Go.RowKit
open Go.BigFrame
set_option maxRecDepth 100000
section
variable {ops:Array Oper} {rest:List Oper} {op:Oper} {a:Act} {w:World} {Q:Exit→Act→World→Prop}
/-- A whole block is written over. -/
theorem st_row (hw:Region.wanted op (yielded ops a.tmps)=true) (ty:TypeId) (x y:Operand) (ho:op.op=.store ty x y)
  (g:Nat) (cells:Array Value) (hx:a.eval x=.pointer (some ⟨g,0,none⟩)) (hy:a.eval y=.agg cells)
  (t:TypeId) (old:Array Value) (hg:w.heap[g]? = some (.cells old t (0,0))) (hi:(Tryz.prog.info? ty).map (·.size)=some cells.size)
  (hold:old.size=cells.size) (h1:cells.all (·.oneCell')=true)
  (h:wpList Tryz.prog ops Q rest (a.put op.dst undef) (w.setRow g cells)):wpList Tryz.prog ops Q (op :: rest) a w:=by
 simp only [wpList]
 rw [if_pos hw]
 exact Or.inl (wp_store_row ty x y ho g cells hx hy t old hg hi hold h1 h)

end
theorem Blk.row {w:World} {b:Nat} {t:TypeId} {old:Array Value} (h:Blk w b t old) (cs:Array Value):Blk (w.setRow b cs) b t cs:=setRow_heap w b old cs t _ h

theorem below_row {B:Nat} {a w:World} (h:Below B a w) {g:Nat} (hg:B≤g) (cs:Array Value):Below B a (w.setRow g cs):=
 ⟨h.os,h.tape,h.output,by rw [setRow_size];exact h.size,fun k hk=>(setRow_other w g k cs (by omega)).trans (h.block k hk)⟩

theorem one_iv (zs:List Int):(zs.map iv).toArray.all (·.oneCell')=true:=all_oneCell_toArray (fun v hv=>by obtain ⟨z,_,rfl⟩:=List.mem_map.1 hv;rfl)

theorem rowC_pros {q:RoundE} (h:q.rep.length=3∧q.pro.length=3):∀ j v,(q.pro.map iv)[j]? = some v→(rowC q)[3 + j]? = some v:=by
 intro j v hv
 obtain ⟨hj,rfl⟩:=row_get h.2 hv
 exact rowC_pro h j hj

set_option maxHeartbeats 4000000 in
theorem isAgreed_any (rs:List RoundE) (v:Int) (w:World) (h:Wel rs) (h4:rs.length≤4) :
  Calls Tryz.prog 42 #[.agg (rndC rs).toArray,.int .i64 v] w fun e w' => e=.returned (.bool (agr rs v))∧Below w.heap.size w w' := by
 have B:=Blk.new w 44 (rndC rs).toArray
 have hb0:Below w.heap.size w (w.alloc (.cells (rndC rs).toArray 44)):=by go_grown
 have hc:=rnd_cnt rs
 have hl4:(rs.length:Int)≤4:=by omega
 generalize hE:agr rs v=E
 have HE:Hid (E=agr rs v):=hE.symm
 clear hE
 have HRG:Hid (∀ r,r < rs.length→∀ j v,(rowC (rs.getD r rnd0))[j]? = some v→(rndC rs)[1 + r * 6 + j]? = some v):=fun r hr j v hv=>by
  have hj:=(List.getElem?_eq_some_iff.1 hv).1
  rw [rowC_length (wel_at h r hr)] at hj
  rw [rnd_in h r hr j hj]
  exact hv
 generalize rndC rs=ds at *
 go_enter Tryz.func42,Tryz.ntmps42
 go_wp2
 clear hc
 generalize w.alloc (.cells ds.toArray 44)=W at *
 go_loopw [12] (fun j wr=>∃ k:Nat,k≤rs.length∧j=.int .i64 k∧Hid (∀ j,j < k→cnt 7 (rs.getD j rnd0).pro v < 2)∧Below W.heap.size W wr) (fun j _=>rs.length - (intOf j).toNat)
 case atStart=>exact ⟨0,Nat.zero_le _,rfl,fun j hj=>absurd hj (Nat.not_lt_zero _),Below.refl _ _⟩
 case round=>
  obtain ⟨k,hk,rfl,HA,hb⟩:=hrel
  by_cases hlt:k < rs.length
  ·have hwl:=wel_at h k hlt
   have HY:Hid (2≤cnt 7 (rs.getD k rnd0).pro v→E=true):=fun hx=>by rw [HE.out];exact agr_at hlt hx
   have HN:Hid (cnt 7 (rs.getD k rnd0).pro v < 2→∀ j,j < k + 1→cnt 7 (rs.getD j rnd0).pro v < 2):=fun hx j hj=>by
    by_cases hjk:j=k
    ·subst hjk;exact hx
    ·exact HA.out j (by omega)
   have hrg1:=rng (B.below hb) (rowC (rs.getD k rnd0)) (o:=1 + k * 6) (fun j v hv=>by rw [List.getElem?_toArray];exact HRG.out k hlt j v hv)
   clear HA
   generalize rs.getD k rnd0=q at *
   have hsz6:(Tryz.prog.info? 41).map (·.size)=some (rowC q).length:=by rw [rowC_length hwl];exact sz_rows
   have hsz6' : (Tryz.prog.info? 41).map (·.size)=some (rowC q).toArray.size:=hsz6
   have hBn:=Blk.new wr 41 #[.int .i64 0,.int .i64 0,.int .i64 0,.int .i64 0,.int .i64 0,.int .i64 0]
   have hB3:=hBn.row (rowC q).toArray
   have hb3:Below W.heap.size W ((wr.alloc (.cells #[.int .i64 0,.int .i64 0,.int .i64 0,.int .i64 0,.int .i64 0,.int .i64 0] 41)).setRow wr.heap.size (rowC q).toArray):=below_row (hb.alloc hb.size _) hb.size _
   have hrg3:=rng hB3 (q.pro.map iv) (o:=3) (fun j v hv=>by rw [List.getElem?_toArray];exact rowC_pros hwl j v hv)
   have hsz3:(Tryz.prog.info? 39).map (·.size)=some (q.pro.map iv).length:=by rw [List.length_map,hwl.2];exact sz_row
   have hold:(#[.int .i64 0,.int .i64 0,.int .i64 0,.int .i64 0,.int .i64 0,.int .i64 0]:Array Value).size=(rowC q).toArray.size:=(show 6=(rowC q).length by rw [rowC_length hwl])
   have hone:(rowC q).toArray.all (·.oneCell')=true:=one_iv _
   have hls:=list_any q.pro
   go_wp2_with (first | (refine ld_g (by kernel_rfl) 41 _ rfl _ _ rfl (rowC q) _ hrg1 Tryz.underlying41 rfl hsz6 ?_) | (refine st_row (by kernel_rfl) 41 _ _ rfl _ (rowC q).toArray rfl rfl 41 _ hBn hsz6' hold hone ?_) | (refine ld_g (by kernel_rfl) 39 _ rfl _ _ rfl (q.pro.map iv) _ hrg3 Tryz.underlying39 rfl hsz3 ?_))
   clear hrg1 hrg3 hsz6 hsz6' hsz3 hold hone hBn hB3
   generalize (wr.alloc (.cells #[.int .i64 0,.int .i64 0,.int .i64 0,.int .i64 0,.int .i64 0,.int .i64 0] 41)).setRow wr.heap.size (rowC q).toArray=W3 at *
   refine (hls W3 hwl.2).mono ?_
   rintro e w4 ⟨la,lc,rfl,lO,lG,lR,hb4⟩
   replace hb3:=hb3.trans (hb4.mono hb3.size)
   have hvo:=votersOf_any la lc q.pro v w4 lR hwl.2
   have hin:=vot_in q.pro v
   have hno:=nodesIn_any (vot q.pro v) w4 hin
   rw [pop_vot] at hno
   generalize vot q.pro v=m at *
   generalize cnt 7 q.pro v=C at *
   clear hls lO lG lR hb4 hb hin
   go_wp2_with fail
   refine hvo.mono ?_
   rintro e w' ⟨rfl,hw⟩
   replace hw:=hw.symm
   subst hw
   go_wp2_with fail
   refine hno.mono ?_
   rintro e w' ⟨rfl,hw⟩
   replace hw:=hw.symm
   subst hw
   clear hvo hno
   by_cases hC:2≤C
   ·have E2:Hid (E=true):=HY.out hC
    clear HY HN HE HRG
    go_wp2
    go_ret
    exact ⟨by rw [E2.out];rfl,hb0.trans (hb3.mono hb0.size)⟩
   ·have R:=HN.out (by omega)
    have HR:Hid _:=R
    clear HY HN R
    go_wp2
    go_roundw
    case rel=>exact ⟨k + 1,by omega,by go_num,HR.out,hb3⟩
    case measure=>simp [intOf];omega
  ·have hkl:k=rs.length:=by omega
   subst hkl
   have E2:Hid (E=false):=by rw [HE.out];exact agr_none HA.out
   clear HA HE
   go_wp2
   go_ret
   exact ⟨by rw [E2.out];rfl,hb0.trans (hb.mono hb0.size)⟩

end Go.Proofs.YtnnenkoeklabpaaGreatDoor
namespace Go.Proofs.YtnnenkoeklabpaaGreatDoor
open Go.RowKit
open Go.BigFrame
set_option maxRecDepth 100000
theorem allI_no {has:Bool} {rs:List RoundE} {r n:Nat} (hr:r < rs.length) (hn:n < 3) (h:repI has rs r n=false∨proR rs r n=false):(List.range rs.length).all (allI has rs)=false:=by
 rw [List.all_eq_false]
 refine ⟨r,List.mem_range.2 hr,?_⟩
 intro e
 have:=(allI_iff has rs r).1 e n hn
 rcases h with h | h
 ·rw [this.1] at h;exact absurd h (by decide)
 ·rw [this.2] at h;exact absurd h (by decide)

theorem endA_no {rs:List RoundE} {dec:List Int} {n:Nat} (hn:n < 3) (h:endR rs (dec.getD n 0)=false):endA rs dec=false:=by
 cases he:endA rs dec with
 | false=>rfl
 | true=>
  rw [(endA_iff rs dec).1 he n hn] at h
  exact absurd h (by decide)

theorem rng_below {w w' : World} {b o:Nat} {L:List Value} (h:w.rangeAt b o L) (hb:Below w.heap.size w w'):w'.rangeAt b o L:=fun j v hv=>by
 have h1:=h j v hv
 rw [hb.cell (p:=⟨b,o + j,none⟩) (World.block_lt_of_cell? w _ h1)]
 exact h1

theorem idx0 (x y z:Int) (w:World):(Instr.index 39 (.agg #[.int .i64 x,.int .i64 y,.int .i64 z]) (.int .i64 0)).run Tryz.prog w=.ok (.int .i64 x) w:=by kernel_rfl

theorem idx1 (x y z:Int) (w:World):(Instr.index 39 (.agg #[.int .i64 x,.int .i64 y,.int .i64 z]) (.int .i64 1)).run Tryz.prog w=.ok (.int .i64 y) w:=by kernel_rfl

theorem idx2 (x y z:Int) (w:World):(Instr.index 39 (.agg #[.int .i64 x,.int .i64 y,.int .i64 z]) (.int .i64 2)).run Tryz.prog w=.ok (.int .i64 z) w:=by kernel_rfl

theorem idx_any {zs:List Int} (h3:zs.length=3) (m:Nat) (hm:m < 3) (w:World):(Instr.index 39 (.agg (zs.map iv).toArray) (.int .i64 (m:Int))).run Tryz.prog w=.ok (.int .i64 (zs.getD m 0)) w:=by
 obtain ⟨x,y,z,rfl⟩:=three h3
 have:m=0∨m=1∨m=2:=by omega
 rcases this with rfl | rfl | rfl
 ·exact idx0 x y z w
 ·exact idx1 x y z w
 ·exact idx2 x y z w

set_option maxHeartbeats 4000000 in
theorem isRight_any (has:Bool) (vb:Value) (rs:List RoundE) (dec:List Int) (w:World) (hG:Rul w) (h:Wel rs) (h4:rs.length≤4) (hd:dec.length=3) :
  Calls Tryz.prog 28 #[.agg (brdC has vb rs dec).toArray] w fun e w' => e=.returned (.bool ((List.range rs.length).all (allI has rs) && endA rs dec))∧Below w.heap.size w w' := by
 have B:=Blk.new w 46 (brdC has vb rs dec).toArray
 have hb0:Below w.heap.size w (w.alloc (.cells (brdC has vb rs dec).toArray 46)):=by go_grown
 have hc:(brdC has vb rs dec)[0]? = some (iv rs.length):=by rw [brd_rnd h h4 0 (by omega)];rfl
 have hrgB:=rng B (brdC has vb rs dec) (o:=0) (fun j v hv=>by rw [Nat.zero_add,List.getElem?_toArray];exact hv)
 have hrgR:=brd_rounds h h4 B
 have hrgD:=rng B (dec.map iv) (o:=27) (fun j v hv=>by
  obtain ⟨hj,rfl⟩:=row_get hd hv
  rw [List.getElem?_toArray]
  exact brd_dec h h4 hd j hj)
 have hszB:(Tryz.prog.info? 46).map (·.size)=some (brdC has vb rs dec).length:=by rw [brdC_length h h4 hd];exact sz_board
 have hszR:(Tryz.prog.info? 44).map (·.size)=some (rndC rs).length:=by rw [rndC_length h h4];exact sz_rounds
 have hszD:(Tryz.prog.info? 39).map (·.size)=some (dec.map iv).length:=by rw [List.length_map,hd];exact sz_row
 have hrr:=fun r n w hG hr hn=>isReportRight_any has vb rs dec r n w hG h h4 hd hr hn
 have hpr:=fun r n w hG hr hn=>isPropRight_any rs r n w hG h h4 hr hn
 have hag:=fun v w=>isAgreed_any rs v w h h4
 generalize hE:((List.range rs.length).all (allI has rs) && endA rs dec)=E
 have HE:Hid (E=((List.range rs.length).all (allI has rs) && endA rs dec)):=hE.symm
 clear hE h B
 generalize brdC has vb rs dec=cs at *
 generalize rndC rs=ds at *
 go_enter Tryz.func28,Tryz.ntmps28
 go_wp2
 clear hc
 generalize w.alloc (.cells cs.toArray 46)=W at *
 replace hG:=hG.below hb0
 go_loopw [10] (fun j wr=>∃ k:Nat,k≤rs.length∧j=.int .i64 k∧Hid (∀ j,j < k→allI has rs j=true)∧Below W.heap.size W wr) (fun j _=>rs.length - (intOf j).toNat)
 case atStart=>exact ⟨0,Nat.zero_le _,rfl,fun j hj=>absurd hj (Nat.not_lt_zero _),Below.refl _ _⟩
 case round=>
  obtain ⟨k,hk,rfl,HA,hb⟩:=hrel
  by_cases hlt:k < rs.length
  ·go_wp2
   go_loopw [13] (fun j wx=>∃ m:Nat,m≤3∧j=.int .i64 m∧Hid (∀ j,j < m→repI has rs k j=true∧proR rs k j=true)∧Below W.heap.size W wx) (fun j _=>3 - (intOf j).toNat)
   case atStart=>exact ⟨0,Nat.zero_le _,rfl,fun j hj=>absurd hj (Nat.not_lt_zero _),hb⟩
   case round=>
    obtain ⟨m,hm,rfl,HB,hbx⟩:=hrel
    by_cases hm3:m < 3
    ·have hm3' : (m:Int) < 3:=by omega
     have HX:Hid (repI has rs k m=false→E=false):=fun hx=>by rw [HE.out,allI_no hlt hm3 (Or.inl hx)];rfl
     have HY:Hid (proR rs k m=false→E=false):=fun hx=>by rw [HE.out,allI_no hlt hm3 (Or.inr hx)];rfl
     have HN:Hid (repI has rs k m=true→proR rs k m=true→∀ j,j < m + 1→repI has rs k j=true∧proR rs k j=true):=fun h1 h2 j hj=>by
      by_cases hjm:j=m
      ·subst hjm;exact ⟨h1,h2⟩
      ·exact HB.out j (by omega)
     have h1:=hrr k m _ (hG.below hbx) hlt hm3
     have h2:=fun w hG=>hpr k m w hG hlt hm3
     have hr1:=rng_below hrgB hbx
     clear HB
     generalize repI has rs k m=X at *
     generalize proR rs k m=Y at *
     go_wp2_with (refine ld_g (by kernel_rfl) 46 _ rfl _ _ rfl cs _ hr1 Tryz.underlying46 rfl hszB ?_)
     clear hr1
     refine h1.mono ?_
     rintro e w5 ⟨rfl,hb5⟩
     replace hbx:=hbx.trans (hb5.mono hbx.size)
     clear h1 hb5
     cases X with
     | false=>
      have E2:Hid (E=false):=HX.out rfl
      clear HX HY HN HE HA
      go_wp2
      go_ret
      exact ⟨by rw [E2.out];rfl,hb0.trans (hbx.mono hb0.size)⟩
     | true=>
      have hr2:=rng_below hrgR hbx
      have h3:=h2 w5 (hG.below hbx)
      go_wp2_with (refine ld_g (by kernel_rfl) 44 _ rfl _ _ rfl ds _ hr2 Tryz.underlying44 rfl hszR ?_)
      clear hr2 h2
      refine h3.mono ?_
      rintro e w6 ⟨rfl,hb6⟩
      replace hbx:=hbx.trans (hb6.mono hbx.size)
      clear h3 hb6
      cases Y with
      | false=>
       have E2:Hid (E=false):=HY.out rfl
       clear HX HY HN HE HA
       go_wp2
       go_ret
       exact ⟨by rw [E2.out];rfl,hb0.trans (hbx.mono hb0.size)⟩
      | true=>
       have R:=HN.out (by first | rfl | trivial) (by first | rfl | trivial)
       have HR:Hid _:=R
       clear HX HY HN R
       go_wp2
       go_roundw
       case rel=>exact ⟨m + 1,by omega,by go_num,HR.out,hbx⟩
       case measure=>simp [intOf];omega
    ·have hme:m=3:=by omega
     subst hme
     have HR:Hid (∀ j,j < k + 1→allI has rs j=true):=fun j hj=>by
      by_cases hjk:j=k
      ·subst hjk;exact (allI_iff has rs j).2 HB.out
      ·exact HA.out j (by omega)
     clear HA HB
     go_wp2
     go_roundw
     case rel=>exact ⟨k + 1,by omega,by go_num,HR.out,hbx⟩
     case measure=>simp [intOf];omega
  ·have hkl:k=rs.length:=by omega
   subst hkl
   have HE5:Hid (E=endA rs dec):=show _=_ by
    have e:(List.range rs.length).all (allI has rs)=true:=by
     rw [List.all_eq_true]
     intro x hx
     exact HA.out x (List.mem_range.1 hx)
    rw [HE.out,e,Bool.true_and]
   clear HA HE hrr hpr
   have hr1:=rng_below hrgD hb
   go_wp2_with (refine ld_g (by kernel_rfl) 39 _ rfl _ _ rfl (dec.map iv) _ hr1 Tryz.underlying39 rfl hszD ?_)
   clear hr1
   go_loopw [33] (fun j wx=>∃ m:Nat,m≤3∧j=.int .i64 m∧Hid (∀ j,j < m→endR rs (dec.getD j 0)=true)∧Below W.heap.size W wx) (fun j _=>3 - (intOf j).toNat)
   case atStart=>exact ⟨0,Nat.zero_le _,rfl,fun j hj=>absurd hj (Nat.not_lt_zero _),hb⟩
   case round=>
    obtain ⟨m,hm,rfl,HB,hbx⟩:=hrel
    by_cases hm3:m < 3
    ·have hm3' : (m:Int) < 3:=by omega
     have HY:Hid (endR rs (dec.getD m 0)=false→E=false):=fun hx=>by rw [HE5.out,endA_no hm3 hx]
     have HN:Hid (endR rs (dec.getD m 0)=true→∀ j,j < m + 1→endR rs (dec.getD j 0)=true):=fun hx j hj=>by
      by_cases hjm:j=m
      ·subst hjm;exact hx
      ·exact HB.out j (by omega)
     have HV:Hid (endR rs (dec.getD m 0)=((dec.getD m 0 == 3) || agr rs (dec.getD m 0))):=(rfl:_=_)
     have hix:=fun w=>idx_any hd m hm3 w
     have h1:=hag (dec.getD m 0)
     have hr2:=rng_below hrgR hbx
     clear HB
     generalize dec.getD m 0=v at *
     by_cases hv:v=3
     ·have hv' : (v != 3)=false:=by simp [hv]
      have R:=HN.out (by rw [HV.out,hv];rfl)
      have HR:Hid _:=R
      clear HY HN HV R hv
      go_wp2
      go_roundw
      case rel=>exact ⟨m + 1,by omega,by go_num,HR.out,hbx⟩
      case measure=>simp [intOf];omega
     ·have hv' : (v != 3)=true:=by simpa using hv
      have hv2:(v == 3)=false:=by simpa using hv
      rw [hv2,Bool.false_or] at HV
      rw [HV.out] at HY HN
      generalize agr rs v=X at *
      clear HV hv hv2
      have h3:=h1 wr
      go_wp2_with (refine ld_g (by kernel_rfl) 44 _ rfl _ _ rfl ds _ hr2 Tryz.underlying44 rfl hszR ?_)
      clear hr2 h1
      refine h3.mono ?_
      rintro e w6 ⟨rfl,hb6⟩
      replace hbx:=hbx.trans (hb6.mono hbx.size)
      clear h3 hb6
      cases X with
      | false=>
       have E2:Hid (E=false):=HY.out rfl
       clear HY HN HE5
       go_wp2
       go_ret
       exact ⟨by rw [E2.out];rfl,hb0.trans (hbx.mono hb0.size)⟩
      | true=>
       have R:=HN.out (by first | rfl | trivial)
       have HR:Hid _:=R
       clear HY HN R
       go_wp2
       go_roundw
       case rel=>exact ⟨m + 1,by omega,by go_num,HR.out,hbx⟩
       case measure=>simp [intOf];omega
    ·have hme:m=3:=by omega
     subst hme
     have E2:Hid (E=true):=by rw [HE5.out,(endA_iff rs dec).2 HB.out];rfl
     clear HB HE5
     go_wp2
     go_ret
     exact ⟨by rw [E2.out];rfl,hb0.trans (hbx.mono hb0.size)⟩

end Go.Proofs.YtnnenkoeklabpaaGreatDoor
namespace Go.Proofs.YtnnenkoeklabpaaGreatDoor
open Go.RowKit
open Go.BigFrame
set_option maxRecDepth 100000
theorem run_copyR (w:World) (ty g:Nat) (cur:Array Value) (b off sc:Nat) (zs:List Int) (hz:zs.length=3) (hg:w.heap[g]? = some (.cells cur 39 (0,0))) (hc:cur.size=3) (hr:Row .i64 w (some ⟨b,off,none⟩) zs) :
  (Builtin.copy_ #[26,26] ty #[.slice (some ⟨g,0,none⟩) 3 3,.slice (some ⟨b,off,none⟩) 3 sc]).run Tryz.prog w=.ok (goInt 3) (w.setRow g (zs.map iv).toArray):=by
 obtain ⟨i0,hi,hz0,hz1,hz2⟩:=info_parts infoI6
 have hlen:(zs.map iv).length=3:=by simp [hz]
 have hl:=run_loadCells_list (P:=Tryz.prog) w ⟨b,off,none⟩ (zs.map iv) (lies_src (lies_of_row hr))
 have hst:=run_storeCells_at Tryz.prog g 0 39 (zs.map iv) 0 cur w hg (by omega) (fun v hv=>by obtain ⟨z,_,rfl⟩:=List.mem_map.1 hv;rfl)
 have e:cur.toList.drop (zs.map iv).length=[]:=List.drop_of_length_le (by simp;omega)
 simp only [Nat.zero_add,Nat.add_zero,List.take_zero,List.nil_append,e,List.append_nil] at hst
 rw [hlen] at hl
 simp [Builtin.copy_,run_underlying Tryz.underlying26,Builtin.lenOf,Builtin.firstCells,sizeOf,typeInfo,hi,hz1,hl,hst]

set_option maxHeartbeats 1000000 in
theorem rowOf_any (b off cap:Nat) (zs:List Int) (w:World) (h:Row .i64 w (some ⟨b,off,none⟩) zs) (h3:zs.length=3) :
  Calls Tryz.prog 26 #[.slice (some ⟨b,off,none⟩) 3 cap] w fun e w' => e=.returned (.agg (zs.map iv).toArray)∧Below w.heap.size w w' := by
 have hb0:Below w.heap.size w ((w.alloc (.cells #[.int .i64 0,.int .i64 0,.int .i64 0] 39)).alloc (.cells #[.int .i64 0,.int .i64 0,.int .i64 0] 39)):=by go_grown
 have C:=(Blk.new w 39 #[.int .i64 0,.int .i64 0,.int .i64 0]).below (w' := (w.alloc (.cells #[.int .i64 0,.int .i64 0,.int .i64 0] 39)).alloc (.cells #[.int .i64 0,.int .i64 0,.int .i64 0] 39)) (by go_grown)
 have D:=Blk.new (w.alloc (.cells #[.int .i64 0,.int .i64 0,.int .i64 0] 39)) 39 #[.int .i64 0,.int .i64 0,.int .i64 0]
 simp only [World.size_alloc] at D
 have hcp0:=fun ty=>run_copyR _ ty (w.heap.size + 1) _ b off cap zs h3 D rfl (h.below hb0)
 obtain ⟨x,y,z,rfl⟩:=three h3
 obtain ⟨W2,hcp,D2,C2,hb2⟩:∃ W2,(∀ ty,(Builtin.copy_ #[26,26] ty #[.slice (some ⟨w.heap.size + 1,0,none⟩) 3 3,.slice (some ⟨b,off,none⟩) 3 cap]).run Tryz.prog ((w.alloc (.cells #[.int .i64 0,.int .i64 0,.int .i64 0] 39)).alloc (.cells #[.int .i64 0,.int .i64 0,.int .i64 0] 39))=.ok (goInt 3) W2)∧Blk W2 (w.heap.size + 1) 39 #[.int .i64 x,.int .i64 y,.int .i64 z]∧Blk W2 w.heap.size 39 #[.int .i64 0,.int .i64 0,.int .i64 0]∧Below w.heap.size w W2:=
  ⟨_,hcp0,D.row _,(setRow_other _ _ _ _ (by omega)).trans C,below_row hb0 (g:=w.heap.size + 1) (by omega) _⟩
 obtain ⟨p0,p1,p2⟩:=D2.cel3
 obtain ⟨q0,q1,q2⟩:=C2.cel3
 obtain ⟨f0,f1,f2⟩:=C2.frz3
 clear C D D2 C2 hb0 h hcp0
 go_enter Tryz.func26,Tryz.ntmps26
 go_wp2
 exact bodyPost_ret (v:=.agg #[.int .i64 x,.int .i64 y,.int .i64 z]) (by simp [results,Tryz.results26,go_sem,q0,q1,q2]) rfl ⟨rfl,((hb2.setCell (p:=⟨w.heap.size,0,none⟩) (Nat.le_refl _) _).setCell (p:=⟨w.heap.size,1,none⟩) (Nat.le_refl _) _).setCell (p:=⟨w.heap.size,2,none⟩) (Nat.le_refl _) _⟩

end Go.Proofs.YtnnenkoeklabpaaGreatDoor
namespace Go.Proofs.YtnnenkoeklabpaaGreatDoor
open Go.RowKit
open Go.BigFrame
set_option maxRecDepth 100000
theorem blk_setCells (b:Nat) (t:TypeId):∀ (vs:List Value) (o:Nat) (w:World) (cs:List Value),Blk w b t cs.toArray→Blk (w.setCells b o vs) b t (setFrom cs o vs).toArray
 | [],_,_,_,h=>h
 | v :: r,o,w,cs,h=>by
  have h1:=h.set o v
  rw [List.setIfInBounds_toArray] at h1
  exact blk_setCells b t r (o + 1) _ _ h1

theorem out_setCells (b:Nat):∀ (vs:List Value) (o:Nat) (w:World),Out [b] w (w.setCells b o vs)
 | [],_,w=>Out.refl _ w
 | v :: r,o,w=>(Out.setCell w b o v).trans (out_setCells b r (o + 1) _)

theorem setFrom_mid (A B C Y:List Value) (h:B.length=Y.length):setFrom (A ++ (B ++ C)) A.length Y=A ++ (Y ++ C):=by
 apply List.ext_getElem?
 intro j
 by_cases hj:j < (A ++ (B ++ C)).length
 ·rw [setFrom_get _ _ _ _ hj]
  simp only [List.length_append] at hj
  by_cases h1:A.length≤j∧j < A.length + Y.length
  ·rw [if_pos h1,List.getElem?_append_right h1.1,List.getElem?_append_left (by omega)]
  ·rw [if_neg h1]
   by_cases h2:j < A.length
   ·rw [List.getElem?_append_left h2,List.getElem?_append_left h2]
   ·rw [List.getElem?_append_right (by omega),List.getElem?_append_right (by omega),List.getElem?_append_right (by omega),List.getElem?_append_right (by omega),h]
 ·rw [List.getElem?_eq_none (by rw [setFrom_length];omega),List.getElem?_eq_none (by simp only [List.length_append] at hj ⊢;omega)]

theorem rowsV_snoc (rs:List RoundE) (q:RoundE):rowsV (rs ++ [q])=rowsV rs ++ rowC q:=by simp [rowsV]

/-- A round behind the last one, in cells. -/
theorem rnd_snoc {rs:List RoundE} {q:RoundE} (tail:List Value) (h:Wel rs) (hq:q.rep.length=3∧q.pro.length=3) (h4:rs.length < 4) :
  (setFrom (rndC rs ++ tail) (1 + rs.length * 6) (rowC q)).set 0 (iv ((rs.length:Int) + 1))=rndC (rs ++ [q]) ++ tail:=by
 have hl:=rowsV_length h
 have hq6:=rowC_length hq
 have e1:rndC rs ++ tail=(iv rs.length :: rowsV rs) ++ (List.replicate 6 (iv 0) ++ (List.replicate (18 - 6 * rs.length) (iv 0) ++ tail)):=by
  unfold rndC
  rw [show 24 - 6 * rs.length=6 + (18 - 6 * rs.length) by omega,← List.replicate_append_replicate]
  simp [List.append_assoc]
 have e2:(iv rs.length :: rowsV rs).length=1 + rs.length * 6:=by simp only [List.length_cons,hl];omega
 rw [e1,← e2,setFrom_mid _ _ _ _ (by rw [List.length_replicate,hq6])]
 unfold rndC
 rw [rowsV_snoc,List.length_append,List.length_singleton,show 24 - 6 * (rs.length + 1)=18 - 6 * rs.length by omega]
 simp [List.append_assoc]

/-- The worlds in which the count and the box are as they were. -/
structure LatR (b g:Nat) (w:World) where
 val:World
 cnt:val.cell? ⟨b,0,none⟩=w.cell? ⟨b,0,none⟩
 box:val.heap[g]? = w.heap[g]?

set_option maxHeartbeats 4000000 in
theorem addRound_any (b:Nat) (t:TypeId) (rs:List RoundE) (tail:List Value) (q:RoundE) (w:World) (hB:Blk w b t (rndC rs ++ tail).toArray) (h:Wel rs) (hq:q.rep.length=3∧q.pro.length=3) (h4:rs.length < 4) :
  Calls Tryz.prog 27 #[.pointer (some ⟨b,0,none⟩),.agg (rowC q).toArray] w fun e w' => e=.returned (.tuple #[])∧Blk w' b t (rndC (rs ++ [q]) ++ tail).toArray∧Out [b] w w' := by
 have hblt:=hB.lt
 have hb0:Below w.heap.size w (w.alloc (.cells (rowC q).toArray 41)):=by go_grown
 have G:=Blk.new w 41 (rowC q).toArray
 replace hB:=hB.below hb0
 have hcell:(w.alloc (.cells (rowC q).toArray 41)).cell? ⟨b,0,none⟩=some (iv rs.length):=hB.cell 0 _ rfl
 have hone:(rowC q).toArray.all (·.oneCell')=true:=one_iv _
 have hsz6:(Tryz.prog.info? 41).map (·.size)=some (rowC q).length:=by rw [rowC_length hq];exact sz_rows
 have hlen:=rndC_length h (by omega)
 have hthere:∀ W' : World,W'.heap[b]? = (w.alloc (.cells (rowC q).toArray 41)).heap[b]? → W'.there b (1 + rs.length * 6) (rowC q).toArray.size:=by
  intro W' hW' j hj
  rw [List.size_toArray,rowC_length hq] at hj
  have hBB:Blk W' b t (rndC rs ++ tail).toArray:=hW'.trans hB
  have hlt:1 + rs.length * 6 + j < (rndC rs ++ tail).length:=by simp only [List.length_append];omega
  have hx:=List.getElem?_eq_getElem hlt
  exact ⟨by rw [hBB.cell _ _ (by rw [List.getElem?_toArray];exact hx)];rfl,hBB.frozen _⟩
 have hres:=rnd_snoc tail h hq h4
 have HRES:Hid ((setFrom (rndC rs ++ tail) (1 + rs.length * 6) (rowC q)).set 0 (iv ((rs.length:Int) + 1))=rndC (rs ++ [q]) ++ tail):=hres
 clear hres
 generalize rndC (rs ++ [q]) ++ tail=es at *
 generalize rndC rs ++ tail=cs at *
 have hc4:(rs.length:Int) < 4:=by omega
 generalize rs.length=c at *
 go_enter Tryz.func27,Tryz.ntmps27
 go_wp2_with fail
 generalize w.alloc (.cells (rowC q).toArray 41)=W at *
 have hk0:W.drew.cell? ⟨b,0,none⟩=W.cell? ⟨b,0,none⟩:=rfl
 have hkb:W.drew.heap[w.heap.size]? = W.heap[w.heap.size]? := rfl
 have hne:Nonempty (LatR b w.heap.size W):=⟨⟨W,rfl,rfl⟩⟩
 have k0:∀ u:LatR b w.heap.size W,u.val.cell? ⟨b,0,none⟩=some (iv c):=fun u=>u.cnt.trans hcell
 have ld1:∀ u:LatR b w.heap.size W,(Instr.loadAt 41 (.pointer (some ⟨w.heap.size,0,none⟩))).run Tryz.prog u.val=.ok (.agg (rowC q).toArray) u.val:=fun u=>by
  have hG:Blk u.val w.heap.size 41 (rowC q).toArray:=u.box.trans G
  exact run_loadAt_mid u.val w.heap.size 0 41 (rowC q) _ (rng hG _ (fun j v hv=>by rw [Nat.zero_add,List.getElem?_toArray];exact hv)) Tryz.underlying41 rfl hsz6
 refine text_begin (S:=fun w' => ∃ u:LatR b w.heap.size W,w' = u.val) (by kernel_rfl) ?_
 refine sgr [(0,2)] 8 (by kernel_rfl) ⟨⟨_,hk0,hkb⟩,rfl⟩ ?_
 simp only [pkE]
 repeat go_big_quiet_step (fail)
 refine wpQuiet_nil ?_
 refine qta 2 (some 6) (.pointer (some ⟨b,0,none⟩)) 7 (by kernel_rfl) (fun u _=>by kernel_rfl) ⟨⟨_,hk0,hkb⟩,rfl⟩ ?_
 simp only [Act.put,pjE]
 refine sgr [(3,2)] 5 (by kernel_rfl) ⟨⟨_,hk0,hkb⟩,rfl⟩ ?_
 simp only [pkE]
 repeat go_big_quiet_step (fail)
 refine wpQuiet_nil ?_
 refine qta 5 (some 9) (.agg (rowC q).toArray) 4 (by kernel_rfl) (fun u hu=>?_) ⟨⟨_,hk0,hkb⟩,rfl⟩ ?_
 ·obtain ⟨u,rfl⟩:=hu
  show some (((Instr.loadAt 41 (.pointer (some ⟨w.heap.size,0,none⟩))) >>= fun x=>pure (Next.value x):Sem Next).run Tryz.prog u.val)=_
  rw [Sem.run_bind,ld1 u]
  rfl
 simp only [Act.put,pjE]
 refine qta 6 (some 10) (.pointer (some ⟨b,0,none⟩)) 3 (by kernel_rfl) (fun u _=>by kernel_rfl) ⟨⟨_,hk0,hkb⟩,rfl⟩ ?_
 simp only [Act.put,pjE]
 refine sgr [(7,2)] 1 (by kernel_rfl) ⟨⟨_,hk0,hkb⟩,rfl⟩ ?_
 simp only [pkE]
 repeat go_big_quiet_step (fail)
 refine wpQuiet_nil ?_
 refine ona 9 0 rfl (by kernel_rfl) ?_
 refine st_g (by kernel_rfl) 41 _ _ rfl b (1 + c * 6) (rowC q).toArray rfl rfl (hthere _ rfl) hsz6 hone ?_
 have D:Blk (W.drew.setCells b (1 + c * 6) (rowC q)) b t (setFrom cs (1 + c * 6) (rowC q)).toArray:=blk_setCells b t (rowC q) (1 + c * 6) W.drew cs hB
 have U:Out [b] w (W.drew.setCells b (1 + c * 6) (rowC q)):=(Out.of_below hb0).trans ((Out.of_below ((Below.refl _ _).drew)).trans (out_setCells b (rowC q) (1 + c * 6) W.drew))
 have hgb:w.heap.size≠b:=by omega
 have hkb2:(W.drew.setCells b (1 + c * 6) (rowC q)).heap[w.heap.size]? = W.heap[w.heap.size]? := ((out_setCells b (rowC q) (1 + c * 6) W.drew).block _ G.lt (by simp only [List.mem_singleton];exact hgb))
 have hk2:(W.drew.setCells b (1 + c * 6) (rowC q)).cell? ⟨b,0,none⟩=W.cell? ⟨b,0,none⟩:=World.cell?_setCells_out b (rowC q) (1 + c * 6) W.drew ⟨b,0,none⟩ (fun _ _=>Or.inl (by show 0 < 1 + c * 6;omega))
 refine ThenGo.to ⟨⟨⟨_,hk2,hkb2⟩,rfl⟩,?_⟩
 refine text_end (by kernel_rfl) ?_
 have hcell2:=hk2.trans hcell
 have hfr:=D.frozen 0
 have F:=D.set 0 (iv ((c:Int) + 1))
 rw [List.setIfInBounds_toArray,HRES.out] at F
 have U2:=U.set (b:=b) (j:=0) (u:=iv ((c:Int) + 1)) (by simp)
 have HF:Hid (Blk _ b t es.toArray∧Out [b] w _):=And.intro F U2
 clear F U2 D U hk2 hkb2 hkb hk0 k0 ld1 hne hthere HRES
 generalize W.drew.setCells b (1 + c * 6) (rowC q)=X at *
 go_wp2
 go_end0
 exact ⟨rfl,HF.out⟩

end Go.Proofs.YtnnenkoeklabpaaGreatDoor
namespace Go.Proofs.YtnnenkoeklabpaaGreatDoor
open Go.RowKit
set_option maxRecDepth 100000
def putAll:Act→List (Option Tmp)→List Value→Act
 | a,d :: ds,v :: vs=>putAll (a.put d v) ds vs
 | a,_,_=>a

section
variable {P:Program} {ops:Array Oper} {Q:Exit→Act→World→Prop}
theorem region_vals {id:Nat} {a:Act} {w:World} (ds:List (Option Tmp)) (R:List Value→World→Prop)
  (hreg:(Code.region id ops true).wp P (fun e a' w' => e=.normal∧∃ vs,R vs w' ∧ a' = putAll a ds vs) a w) (himp:∀ vs w',R vs w' → Q .normal (putAll a ds vs) w'):(Code.region id ops true).wp P Q a w:=by
 refine Code.wp_mono ?_ hreg
 rintro e a' w' ⟨rfl,vs,hR,rfl⟩
 exact himp vs w' hR

end
/-- The worlds that came out of w, of whose blocks those of F alone may have turned. -/
structure LatO (F:List Nat) (w:World) where
 val:World
 isOut:Out F w val

theorem lato_cell {F:List Nat} {w:World} {b o:Nat} {v:Value} (h:w.cell? ⟨b,o,none⟩=some v) (hF:b ∉ F):∀ u:LatO F w,u.val.cell? ⟨b,o,none⟩=some v:=fun u=>by
 have hb:=World.block_lt_of_cell? w _ h
 have e:=u.isOut.block b hb hF
 unfold World.cell? at h ⊢
 simp only at h ⊢
 rw [e]
 exact h

end Go.Proofs.YtnnenkoeklabpaaGreatDoor
