/- Texts joined, with what the laws reach alone. -/
import Derived.Test.YtjjoahhnkpjolaaGreatDoorCFAV
import Derived.Laws.AppendOwnNone
import Derived.Lib.AppendZeros
set_option linter.unusedVariables false
set_option linter.unusedSimpArgs false
namespace Go.Proofs.YtjjoahhnkpjolaaGreatDoor
open Go.RowKit Go.Maps
open Go.BigFrame
set_option maxRecDepth 100000
theorem layC_len {xs:List ItemD} (g:Good xs) (hl:xs.length≤8) (k v:Int) (hv:inW v (-20000) 20000=true) :
  (8 < (setI xs ⟨k,v⟩).length∧layC xs k v=7)∨(¬ 8 < (setI xs ⟨k,v⟩).length∧layC xs k v=0):=by
 rw [setI_length g]
 dsimp only
 rcases layC_ways xs k v with ⟨h1,_⟩ | ⟨_,h2,e⟩ | ⟨_,h2,h3,e⟩ | ⟨_,h2,h3,e⟩
 ·rw [hv] at h1;simp at h1
 ·right;rw [h2];exact ⟨by simp;omega,e⟩
 ·left;rw [h2];exact ⟨by simp;omega,e⟩
 ·right;rw [h2];exact ⟨by simp;omega,e⟩

/-- The slice's block, if there is one, is a block of items. -/
def ItB (w:World) (a:Option Addr):Prop:=∀ x off,a=some ⟨x,off,none⟩→∃ cs,w.heap[x]? = some (.cells cs 173 (0,0))

theorem own_itb {w:World} {base n c:Nat} {a:Option Addr} {xs:List Value} (h:w.ownsRow base 173 2 (.slice a n c) n xs):ItB w a:=by
 intro x off e
 subst e
 rcases h.2 with ⟨hv,_⟩ | ⟨g,cap,cur,hv,_,hh,_⟩
 ·simp at hv
 ·simp only [Value.slice.injEq,Option.some.injEq,Addr.mk.injEq,and_true] at hv
  obtain ⟨⟨rfl,rfl⟩,_⟩:=hv
  exact ⟨_,hh⟩

/-- What an act comes to in the model. -/
def ActPost (w:World) (a:Option Addr) (xs:List ItemD) (z:ActD) (e:Ending) (w' : World):Prop:=
 ∃ b n c,e=.returned (.tuple #[.slice b n c,.int .i64 (actC xs z)])∧(actC xs z=0→n=(actN xs z).length∧ItemRow w' b (actN xs z)∧Nice b n c∧(b=a∨ItB w' b))∧Below w.heap.size w w'

set_option maxRecDepth 100000 in
set_option maxHeartbeats 4000000 in
theorem l3Act_any (a:Option Addr) (cap:Nat) (xs:List ItemD) (pb po:Nat) (k y v:Int) (w:World) (h:ItemRow w a xs) (hN:Nice a xs.length cap) (hl:xs.length≤8) (g:Good xs) (ha:actF ⟨k,y,v⟩=0)
  (p0:w.cell? ⟨pb,po,none⟩=some (.int .i64 k)) (p1:w.cell? ⟨pb,po + 1,none⟩=some (.int .i64 y)) (p2:w.cell? ⟨pb,po + 2,none⟩=some (.int .i64 v)) :
  Calls Tryz.prog 225 #[.slice a xs.length cap,.pointer (some ⟨pb,po,none⟩)] w (ActPost w a xs ⟨k,y,v⟩):=by
 obtain ⟨hk,hy,hv⟩:=actF_zero ha
 dsimp only at hk hy hv
 have hgv:=g.valI y
 have hat:=fun w h=>l3At_any a cap xs y w h (by omega)
 have hval:=fun w h=>l3Value_any a cap xs y w h (by omega)
 have hset:=fun x1 w h=>l3Set_any a cap xs y x1 w h (by omega)
 have hdrop:=fun w h=>l3Drop_any a cap xs y w h (by omega)
 have hin:=fun v w=>l1InW_any v (-20000) 20000 w
 have hsr:∀ x1,setR ⟨y,x1⟩ false xs=setI xs ⟨y,x1⟩:=fun x1=>setR_false ⟨y,x1⟩ g.rise
 simp only [hsr] at hset
 rcases (show k=1∨k=2∨k=3∨k=4 by omega) with rfl | rfl | rfl | rfl
 ·have e1:actC xs ⟨1,y,v⟩=layC xs y v:=by simp [actC]
  have e2:actN xs ⟨1,y,v⟩=setI xs ⟨y,v⟩:=by simp [actN]
  unfold ActPost
  rw [e1,e2]
  clear e1 e2
  have hiw:inW v (-20000) 20000=true:=by simp [inW];omega
  replace hset:=hset v
  go_enter Tryz.func225,Tryz.ntmps225
  go_wp2_with fail
  refine (hat _ h).mono ?_
  rintro e w' ⟨r,rfl,hr,hw⟩
  replace hw:=hw.symm
  subst hw
  clear hr
  rcases layC_len g hl y v hiw with ⟨h8,e⟩ | ⟨h8,e⟩
  ·have E:Hid (layC xs y v=7):=e
   clear e hat hval hdrop
   generalize setI xs ⟨y,v⟩=N at hset h8
   go_wp2_with fail
   refine (hset _ h).mono ?_
   rintro e w' ⟨b,c,rfl,ho,hb⟩
   clear hset
   go_wp2
   refine bodyPost_ret (v:=.tuple #[.slice none 0 0,.int .i64 7]) (by simp [results,Tryz.results225,go_sem]) rfl ?_
   rw [E.out]
   exact ⟨_,_,_,rfl,fun h=>by simp at h,hb⟩
  ·have E:Hid (layC xs y v=0):=e
   clear e hat hval hdrop
   generalize hNe:setI xs ⟨y,v⟩=N at hset h8
   have HN:Hid (setI xs ⟨y,v⟩=N):=hNe
   clear hNe
   go_wp2_with fail
   refine (hset _ h).mono ?_
   rintro e w' ⟨b,c,rfl,ho,hb⟩
   have hrow:ItemRow w' b N:=Lies.own ho
   have hnc:Nice b N.length c∧(b=a∨ItB w' b):=⟨nice_own ho,Or.inr (own_itb ho)⟩
   clear hset ho
   go_wp2
   refine bodyPost_ret (v:=.tuple #[.slice b N.length c,.int .i64 0]) (by simp [results,Tryz.results225,go_sem]) rfl ?_
   rw [E.out,HN.out]
   exact ⟨_,_,_,rfl,fun _=>⟨rfl,hrow,hnc⟩,hb⟩
 ·have e1:actC xs ⟨2,y,v⟩=layC xs y (valI xs y + v):=by simp [actC]
  have e2:actN xs ⟨2,y,v⟩=setI xs ⟨y,(valI xs y + v)⟩:=by simp [actN]
  unfold ActPost
  rw [e1,e2]
  clear e1 e2
  replace hset:=hset (valI xs y + v)
  go_enter Tryz.func225,Tryz.ntmps225
  go_wp2_with fail
  refine (hat _ h).mono ?_
  rintro e w' ⟨r,rfl,hr,hw⟩
  replace hw:=hw.symm
  subst hw
  clear hr hat
  replace hin:=hin (valI xs y + v)
  cases hiw:inW (valI xs y + v) (-20000) 20000
  ·have E:Hid (layC xs y (valI xs y + v)=3):=if_pos hiw
   rw [hiw] at hin
   clear hset hdrop
   generalize hce:valI xs y=cv at hval hgv hin
   have HC:Hid (valI xs y=cv):=hce
   clear hce hiw
   have e3:Hid (v + cv=cv + v):=Int.add_comm v cv
   go_wp2_with fail
   refine (hval _ h).mono ?_
   rintro e w' ⟨rfl,hw⟩
   replace hw:=hw.symm
   subst hw
   rw [Int.add_comm cv v] at hin
   go_wp2_with fail
   refine (hin _).mono ?_
   rintro e w' ⟨rfl,hw⟩
   replace hw:=hw.symm
   subst hw
   go_wp2
   refine bodyPost_ret (v:=.tuple #[.slice none 0 0,.int .i64 3]) (by simp [results,Tryz.results225,go_sem]) rfl ?_
   rw [E.out]
   exact ⟨_,_,_,rfl,fun h=>by simp at h,Below.refl _ _⟩
  ·rw [hiw] at hin
   rcases layC_len g hl y (valI xs y + v) hiw with ⟨h8,e⟩ | ⟨h8,e⟩
   ·have E:Hid (layC xs y (valI xs y + v)=7):=e
    clear e hdrop hiw
    generalize setI xs ⟨y,valI xs y + v⟩=N at hset h8
    have EE:Hid (layC xs y (valI xs y + v)=7):=E
    clear E
    generalize hcv:valI xs y=cv at hval hgv hin hset
    clear hcv
    rw [Int.add_comm cv v] at hin hset
    go_wp2_with fail
    refine (hval _ h).mono ?_
    rintro e w' ⟨rfl,hw⟩
    replace hw:=hw.symm
    subst hw
    go_wp2_with fail
    refine (hin _).mono ?_
    rintro e w' ⟨rfl,hw⟩
    replace hw:=hw.symm
    subst hw
    go_wp2_with fail
    refine (hset _ h).mono ?_
    rintro e w' ⟨b,c,rfl,ho,hb⟩
    clear hset
    go_wp2
    refine bodyPost_ret (v:=.tuple #[.slice none 0 0,.int .i64 7]) (by simp [results,Tryz.results225,go_sem]) rfl ?_
    rw [EE.out]
    exact ⟨_,_,_,rfl,fun h=>by simp at h,hb⟩
   ·have E:Hid (layC xs y (valI xs y + v)=0):=e
    clear e hdrop hiw
    generalize hNe:setI xs ⟨y,valI xs y + v⟩=N at hset h8
    have HN:Hid (setI xs ⟨y,valI xs y + v⟩=N):=hNe
    clear hNe
    generalize hcv:valI xs y=cv at hval hgv hin hset
    clear hcv
    rw [Int.add_comm cv v] at hin hset
    go_wp2_with fail
    refine (hval _ h).mono ?_
    rintro e w' ⟨rfl,hw⟩
    replace hw:=hw.symm
    subst hw
    go_wp2_with fail
    refine (hin _).mono ?_
    rintro e w' ⟨rfl,hw⟩
    replace hw:=hw.symm
    subst hw
    go_wp2_with fail
    refine (hset _ h).mono ?_
    rintro e w' ⟨b,c,rfl,ho,hb⟩
    have hrow:ItemRow w' b N:=Lies.own ho
    have hnc:Nice b N.length c∧(b=a∨ItB w' b):=⟨nice_own ho,Or.inr (own_itb ho)⟩
    clear hset ho
    go_wp2
    refine bodyPost_ret (v:=.tuple #[.slice b N.length c,.int .i64 0]) (by simp [results,Tryz.results225,go_sem]) rfl ?_
    rw [E.out,HN.out]
    exact ⟨_,_,_,rfl,fun _=>⟨rfl,hrow,hnc⟩,hb⟩
 ·go_enter Tryz.func225,Tryz.ntmps225
  go_wp2_with fail
  refine (hat _ h).mono ?_
  rintro e w' ⟨r,rfl,hr,hw⟩
  replace hw:=hw.symm
  subst hw
  rcases hr with ⟨rfl,hh,_⟩ | ⟨j,rfl,hj,hh,_⟩
  ·have E:Hid (actC xs ⟨3,y,v⟩=4):=by simp [Hid,actC,hh]
   clear hat hval hset hdrop
   go_wp2
   refine bodyPost_ret (v:=.tuple #[.slice none 0 0,.int .i64 4]) (by simp [results,Tryz.results225,go_sem]) rfl ?_
   unfold ActPost
   rw [E.out]
   exact ⟨_,_,_,rfl,fun h=>by simp at h,Below.refl _ _⟩
  ·have E:Hid (actC xs ⟨3,y,v⟩=0):=by simp [Hid,actC,hh]
   have E2:Hid (actN xs ⟨3,y,v⟩=delI xs y):=by simp [Hid,actN]
   clear hat hval hset
   generalize hNe:delI xs y=N at hdrop
   have HN:Hid (delI xs y=N):=hNe
   clear hNe
   go_wp2_with fail
   refine (hdrop _ h).mono ?_
   rintro e w' ⟨b,c,rfl,ho,hb⟩
   have hrow:ItemRow w' b N:=Lies.own ho
   have hnc:Nice b N.length c∧(b=a∨ItB w' b):=⟨nice_own ho,Or.inr (own_itb ho)⟩
   clear hdrop ho
   go_wp2
   refine bodyPost_ret (v:=.tuple #[.slice b N.length c,.int .i64 0]) (by simp [results,Tryz.results225,go_sem]) rfl ?_
   unfold ActPost
   rw [E.out,E2.out,HN.out]
   exact ⟨_,_,_,rfl,fun _=>⟨rfl,hrow,hnc⟩,hb⟩
 ·go_enter Tryz.func225,Tryz.ntmps225
  go_wp2_with fail
  refine (hat _ h).mono ?_
  rintro e w' ⟨r,rfl,hr,hw⟩
  replace hw:=hw.symm
  subst hw
  rcases hr with ⟨rfl,hh,_⟩ | ⟨j,rfl,hj,hh,hvj⟩
  ·have E:Hid (actC xs ⟨4,y,v⟩=9):=by simp [Hid,actC,hh]
   clear hat hval hset hdrop
   have hW:Below w.heap.size w w.drew:=(Below.refl _ _).drew
   have hne:Nonempty (Lat w):=⟨⟨w,Below.refl _ _⟩⟩
   go_wp2_with fail
   refine text_begin (S:=fun w' => ∃ u:Lat w,w' = u.val) (by kernel_rfl) ?_
   refine sgr [(0,14)] 0 (by kernel_rfl) ⟨⟨_,hW⟩,rfl⟩ ?_
   simp only [pkE]
   repeat go_big_quiet_step (fail)
   refine wpQuiet_nil ?_
   refine text_end (by kernel_rfl) ?_
   clear hne 
   go_wp2
   refine bodyPost_ret (v:=.tuple #[.slice none 0 0,.int .i64 9]) (by simp [results,Tryz.results225,go_sem]) rfl ?_
   unfold ActPost
   rw [E.out]
   exact ⟨_,_,_,rfl,fun h=>by simp at h,hW⟩
  ·obtain ⟨b,off,rfl,hbs,hc0,hc1⟩:=h.at j hj
   have E2:Hid (actN xs ⟨4,y,v⟩=xs):=by simp [Hid,actN]
   rw [← hvj] at hc1
   have hjd:decide ((j:Int) < 0)=false:=decide_eq_false (by omega)
   clear hat hval hset hdrop hc0 hvj
   by_cases hc:valI xs y=v
   ·have E:Hid (actC xs ⟨4,y,v⟩=0):=by simp [Hid,actC,hh,hc]
    have hne' : (v != v)=false:=by simp
    rw [hc] at hc1
    clear hc hgv
    have d0:=lat_cell hc1
    have d1:=lat_cell p2
    have hW:Below w.heap.size w w.drew:=(Below.refl _ _).drew
    have hne:Nonempty (Lat w):=⟨⟨w,Below.refl _ _⟩⟩
    go_wp2_with fail
    refine text_begin (S:=fun w' => ∃ u:Lat w,w' = u.val) (by kernel_rfl) ?_
    refine sgr [(0,14)] 0 (by kernel_rfl) ⟨⟨_,hW⟩,rfl⟩ ?_
    simp only [pkE]
    repeat go_big_quiet_step (fail)
    refine wpQuiet_nil ?_
    refine text_end (by kernel_rfl) ?_
    clear hne d0 d1
    go_wp2
    refine bodyPost_ret (v:=.tuple #[.slice (some ⟨b,off,none⟩) xs.length cap,.int .i64 0]) (by simp [results,Tryz.results225,go_sem]) rfl ?_
    unfold ActPost
    rw [E.out,E2.out]
    exact ⟨_,_,_,rfl,fun _=>⟨rfl,h.below hW,hN,Or.inl rfl⟩,hW⟩
   ·have E:Hid (actC xs ⟨4,y,v⟩=9):=by simp [Hid,actC,hh,hc]
    have hne' : (valI xs y != v)=true:=by simpa using hc
    clear hc
    generalize valI xs y=cv at hc1 hne' hgv
    have d0:=lat_cell hc1
    have d1:=lat_cell p2
    have hW:Below w.heap.size w w.drew:=(Below.refl _ _).drew
    have hne:Nonempty (Lat w):=⟨⟨w,Below.refl _ _⟩⟩
    go_wp2_with fail
    refine text_begin (S:=fun w' => ∃ u:Lat w,w' = u.val) (by kernel_rfl) ?_
    refine sgr [(0,14)] 0 (by kernel_rfl) ⟨⟨_,hW⟩,rfl⟩ ?_
    simp only [pkE]
    repeat go_big_quiet_step (fail)
    refine wpQuiet_nil ?_
    refine text_end (by kernel_rfl) ?_
    clear hne d0 d1
    go_wp2
    refine bodyPost_ret (v:=.tuple #[.slice none 0 0,.int .i64 9]) (by simp [results,Tryz.results225,go_sem]) rfl ?_
    unfold ActPost
    rw [E.out]
    exact ⟨_,_,_,rfl,fun h=>by simp at h,hW⟩

end Go.Proofs.YtjjoahhnkpjolaaGreatDoor
namespace Go.Proofs.YtjjoahhnkpjolaaGreatDoor
open Go.RowKit Go.Maps
open Go.BigFrame
set_option maxRecDepth 100000
theorem items_oneCell (zs:List ItemD):∀ u∈itemCells zs,u.oneCell' = true:=by
 intro u hu
 simp only [itemCells,List.mem_flatMap,ItemD.cells,List.mem_cons,List.not_mem_nil,or_false] at hu
 obtain ⟨z,_,rfl | rfl⟩:=hu <;> rfl

theorem lies_srcI {w:World} {ad:Addr} {xs:List Value} (h:Lies w (some ad) xs):∀ j u,xs[j]? = some u→w.cell? (ad.add j)=some u:=by
 intro j u hj
 rcases h with rfl | ⟨b',off',e,_,hc⟩
 ·simp at hj
 ·simp only [Option.some.injEq] at e
  subst e
  rw [Addr.add_lit]
  exact hc j u hj

section
variable {ops:Array Oper} {rest:List Oper} {o:Oper} {a:Act} {Q:Exit→Act→World→Prop}
/-- All of a list of items behind an empty one of the call's own. -/
theorem wpList_copy_items (w:World) (hgd:o.guard=none) (s x:Operand) (ho:o.op=.call { callee:=.builtin .append,args:=#[s,x],argTypes:=#[53,53] }) (base g:Nat)
  (hs:a.eval s=.slice (some ⟨g,0,none⟩) 0 0) (hown:w.ownsRow base 173 2 (.slice (some ⟨g,0,none⟩) 0 0) 0 []) (sa:Option Addr) (zs:List ItemD) (sc:Nat) (hx:a.eval x=.slice sa zs.length sc) (hr:ItemRow w sa zs) (hN:Nice sa zs.length sc) (hl:zs.length≤1048576) (hbase:base≤w.heap.size)
  (h:∀ a' c' w',w'.ownsRow base 173 2 (.slice a' zs.length c') zs.length (itemCells zs)→Below base w w' → wpList Tryz.prog ops Q rest (a.put o.dst (.slice a' zs.length c')) w'):wpList Tryz.prog ops Q (o :: rest) a w:=by
 obtain ⟨i0,hi,hz0,hz1,hz2⟩:=info_parts infoItem
 rcases hN with ⟨ad,rfl⟩ | ⟨rfl,hn,rfl⟩
 ·refine wpList_append_own w hgd s x 53 ho base 173 i0 (.agg #[.int .i64 0,.int .i64 0]) 2 16 Tryz.underlying53 hi hz0 hz1 hz2 rfl (by decide) _ 0 [] hs hown ad zs.length sc (itemCells zs) hx (itemCells_length zs) (lies_srcI hr) (items_oneCell zs) (by unfold maxLen;omega) (by omega) hbase ?_
  intro v' w' hown' hgrow _
  simp only [Nat.zero_add,List.nil_append] at hown'
  obtain ⟨a',c',rfl⟩:=own_shape hown'
  exact h a' c' w' hown' ((Below.refl _ _).grown hgrow hbase (fun k hk=>(hown.lt k hk).1))
 ·have hz:zs=[]:=List.eq_nil_of_length_eq_zero hn
  subst hz
  refine wpList_append_own_none hgd s x 53 ho base 173 i0 2 Tryz.underlying53 hi _ 0 [] hs hown hx ?_
  exact h _ _ w hown (Below.refl _ _)

end
theorem latB_cellI {B:Nat} {w:World} {a:Addr} {v:Value} (h:w.cell? a=some v) (hlt:a.block < B):∀ u:LatB B w,u.val.cell? a=some v:=fun u=>by
 rw [u.isBelow.cell hlt];exact h

def runR (xs:List ItemD) (zs:List ActD):List ItemD:=if (runA xs zs).1=0 then (runA xs zs).2 else []

def runV (xs:List ItemD) (zs:List ActD):Int:=if (runA xs zs).1=0 then valI (runA xs zs).2 (lastK zs) else 0

set_option maxRecDepth 100000 in
set_option maxHeartbeats 4000000 in
theorem l3Exec_any (a:Option Addr) (cap:Nat) (xs:List ItemD) (tb tof:Nat) (i s q:Int) (ta:Option Addr) (tc:Nat) (zs:List ActD) (w:World) (h:ItemRow w a xs) (hN:Nice a xs.length cap) (hB:Box4 w tb tof (.int .i64 i) (.int .i64 s) (.int .i64 q) (.slice ta zs.length tc)) (ht:ActRow w ta zs) (h8:xs.length≤8) (g:Good xs) (h2:txnF i s q zs=0) :
  Calls Tryz.prog 196 #[.slice a xs.length cap,.pointer (some ⟨tb,tof,none⟩)] w fun e w' => ∃ b c,e=.returned (.agg #[.int .i64 (runA xs zs).1,.int .i64 (runV xs zs),.slice b (runR xs zs).length c]) ∧
   w'.ownsRow w.heap.size 173 2 (.slice b (runR xs zs).length c) (runR xs zs).length (itemCells (runR xs zs))∧Below w.heap.size w w' := by
 obtain ⟨⟨hz1,hz4⟩,hact⟩:=acts_of_F h2
 have HA:Hid (∀ a∈zs,actF a=0):=hact
 clear h2 hact
 have hb0:Below w.heap.size w (w.alloc (.cells #[.int .i64 0,.int .i64 0,.slice none 0 0] 282)):=by go_grown
 have B0:=Blk.new w 282 #[.int .i64 0,.int .i64 0,.slice none 0 0]
 have hbE:Below w.heap.size w ((w.alloc (.cells #[.int .i64 0,.int .i64 0,.slice none 0 0] 282)).alloc (.cells #[] 173)):=by go_grown
 have B0E:=B0.below (w' := (w.alloc (.cells #[.int .i64 0,.int .i64 0,.slice none 0 0] 282)).alloc (.cells #[] 173)) (by go_grown)
 have hoE:=World.ownsRow_lit (size:=2) (e:=173) (w.alloc (.cells #[.int .i64 0,.int .i64 0,.slice none 0 0] 282)) #[] 0 (Nat.le_refl _) (by decide) rfl
 rw [World.size_alloc] at hoE
 have hsE:w.heap.size + 1≤((w.alloc (.cells #[.int .i64 0,.int .i64 0,.slice none 0 0] 282)).alloc (.cells #[] 173)).heap.size:=by simp
 have hcp:∀ (ops:Array Oper) (rest:List Oper) (o:Oper) (act:Act) (Q:Exit→Act→World→Prop) (hgd:o.guard=none) (sx x:Operand) (ho:o.op=.call { callee:=.builtin .append,args:=#[sx,x],argTypes:=#[53,53] }) (hs:act.eval sx=.slice (some ⟨w.heap.size + 1,0,none⟩) 0 0) (hx:act.eval x=.slice a xs.length cap)
   (hh:∀ a' c' w',w'.ownsRow (w.heap.size + 1) 173 2 (.slice a' xs.length c') xs.length (itemCells xs)→Below (w.heap.size + 1) ((w.alloc (.cells #[.int .i64 0,.int .i64 0,.slice none 0 0] 282)).alloc (.cells #[] 173)) w' → wpList Tryz.prog ops Q rest (act.put o.dst (.slice a' xs.length c')) w'),wpList Tryz.prog ops Q (o :: rest) act ((w.alloc (.cells #[.int .i64 0,.int .i64 0,.slice none 0 0] 282)).alloc (.cells #[] 173)):=
  fun ops rest o act Q hgd sx x ho hs hx hh=>wpList_copy_items _ hgd sx x ho (w.heap.size + 1) (w.heap.size + 1) hs hoE a xs cap hx (h.below hbE) hN (by omega) (by simp) hh
 go_enter Tryz.func196,Tryz.ntmps196
 go_wp2_with (at_builtin;refine hcp _ _ _ _ _ rfl _ _ rfl rfl rfl ?_)
 intro a1 c1 w2 hown hbc
 have hb2:Below w.heap.size w w2:=hbE.trans (hbc.mono (by omega))
 replace B0:Blk w2 _ _ _:=(hbc.block _ (by omega)).trans B0E
 have hs0:w.heap.size < w2.heap.size:=B0.lt
 have hN1:=nice_own hown
 have hR1:ItemRow w2 a1 xs:=Lies.own hown
 obtain ⟨b0,b1,b2,b3⟩:=hB
 have htl:tb < w.heap.size:=World.block_lt_of_cell? w ⟨tb,tof,none⟩ b0
 have c3:w2.cell? ⟨tb,tof + 3,none⟩=_:=(hb2.cell (p:=⟨tb,tof + 3,none⟩) htl).trans b3
 have ht2:=ht.below hb2
 have hrow:∀ k,k < zs.length→∃ b off,ta=some ⟨b,off,none⟩∧b < w.heap.size:=fun k hk=>by
  obtain ⟨b,off,e,hbs,_⟩:=ht.at k hk
  exact ⟨b,off,e,hbs⟩
 have hsz2:=hb2.size
 clear hcp hoE B0E hbE hsE hb0 h hN hown hbc b0 b1 b2 b3 ht
 go_wp2
 go_loopw [5,6] (fun v j wr=>∃ (k:Nat) (cur:List ItemD) (b:Option Addr) (c:Nat),k≤zs.length∧j=.int .i64 k∧v=.slice b cur.length c∧ItemRow wr b cur∧Nice b cur.length c∧cur.length≤8∧Hid (Good cur∧runA cur (zs.drop k)=runA xs zs)∧Below w2.heap.size w2 wr) (fun _ j _=>zs.length - (intOf j).toNat)
 case atStart=>exact ⟨0,xs,a1,c1,Nat.zero_le _,rfl,rfl,hR1,hN1,h8,⟨g,by simp⟩,Below.refl _ _⟩
 case round=>
  clear hR1 hN1
  obtain ⟨k,cur,nb,nc,hk,rfl,rfl,hR,hNn,hc8,HG,hb⟩:=hrel
  have hszr:=hb.size
  have d3:wr.cell? ⟨tb,tof + 3,none⟩=_:=(hb.cell (p:=⟨tb,tof + 3,none⟩) (by dsimp only;omega)).trans c3
  by_cases hlt:k < zs.length
  ·obtain ⟨b,off,rfl,hbs,hc0,hc1,hc2⟩:=(ht2.below hb).at k hlt
   have haz:=HA.out (zs.getD k actNo) (by simp [List.getD,hlt])
   have hdo:=l3Act_any nb nc cur b (off + k * 3) (zs.getD k actNo).kind (zs.getD k actNo).key (zs.getD k actNo).val wr hR hNn hc8 HG.out.1 haz hc0 hc1 hc2
   change Calls _ _ _ _ (ActPost wr nb cur (zs.getD k actNo)) at hdo
   unfold ActPost at hdo
   have HD:Hid (runA cur (zs.getD k actNo :: zs.drop (k + 1))=runA xs zs):=by
    have:=HG.out.2
    rw [drop_act hlt] at this
    exact this
   by_cases hF:actC cur (zs.getD k actNo)=0
   ·obtain ⟨hn8,hng⟩:=act_good hc8 HG.out.1 haz hF
    have HR2:Hid (Good (actN cur (zs.getD k actNo))∧runA (actN cur (zs.getD k actNo)) (zs.drop (k + 1))=runA xs zs):=⟨hng,by
     have:=HD.out
     rw [runA_cons,if_pos hF] at this
     exact this⟩
    rw [hF] at hdo
    clear HD hng HG haz hF hc0 hc1 hc2 hR
    generalize actN cur (zs.getD k actNo)=nx at hdo HR2 hn8
    go_wp2_with fail
    refine hdo.mono ?_
    rintro e w5 ⟨b5,n5,c5,rfl,hN5,hb5⟩
    obtain ⟨rfl,hR5,hNc5,_⟩:=hN5 (by first | trivial | rfl)
    have hbn:=hb.trans (hb5.mono hszr)
    clear hdo hb hb5 d3 hN5
    go_wp2
    go_roundw
    case rel=>exact ⟨k + 1,nx,b5,c5,by omega,by go_num,rfl,hR5,hNc5,hn8,HR2,hbn⟩
    case measure=>simp [intOf];omega
   ·have HC:Hid (runA xs zs=(actC cur (zs.getD k actNo),[])):=by
     have:=HD.out
     rw [runA_cons,if_neg hF] at this
     exact this.symm
    have HE:Hid ((runA xs zs).1=actC cur (zs.getD k actNo)∧runR xs zs=[]∧runV xs zs=0):=by
     have hh:=HC.out
     refine ⟨by rw [hh],?_,?_⟩
     ·unfold runR;rw [hh];exact if_neg hF
     ·unfold runV;rw [hh];exact if_neg hF
    have hne:(actC cur (zs.getD k actNo) != 0)=true:=by simpa using hF
    clear HD HG haz hF HC hc0 hc1 hc2 hR
    generalize actC cur (zs.getD k actNo)=r at hdo HE hne
    go_wp2_with fail
    refine hdo.mono ?_
    rintro e w5 ⟨b5,n5,c5,rfl,_,hb5⟩
    have hbn:=hb.trans (hb5.mono hszr)
    replace B0:=B0.below hbn
    obtain ⟨p0,p1,p2⟩:=B0.cel3
    obtain ⟨f0,f1,f2⟩:=B0.frz3
    have hlt5:=B0.lt
    clear hdo hb hb5 d3 B0
    go_wp2
    refine bodyPost_ret (v:=.agg #[.int .i64 r,.int .i64 0,.slice none 0 0]) (by simp [results,Tryz.results196,go_sem,p0,p1,p2]) rfl ?_
    rw [HE.out.1,HE.out.2.1,HE.out.2.2]
    refine ⟨_,_,rfl,World.ownsRow_nil _ _ _ _,?_⟩
    repeat' (refine Below.setCell ?_ (by dsimp only;omega) _)
    exact hb2.trans (hbn.mono hsz2)
  ·have hkl:k=zs.length:=by omega
   have HC:Hid (runA xs zs=(0,cur)):=by
    have:=HG.out.2
    rw [hkl,List.drop_length] at this
    exact this.symm
   subst hkl
   obtain ⟨n,hn⟩:∃ n,zs.length=n + 1:=⟨zs.length - 1,by omega⟩
   obtain ⟨b,off,rfl,hbs⟩:=hrow n (by omega)
   obtain ⟨b',off',e,_,hc0,hc1,hc2⟩:=(ht2.below hb).at n (by omega)
   simp only [Option.some.injEq,Addr.mk.injEq,and_true] at e
   obtain ⟨rfl,rfl⟩:=e
   have HL:Hid (lastK zs=(zs.getD n actNo).key):=by
    show _=_
    unfold lastK
    rw [hn,Nat.add_sub_cancel]
   generalize (zs.getD n actNo).key=kk at hc1 HL
   have hvl:=fun w h=>l3Value_any nb nc cur kk w h (by omega)
   have HE:Hid ((runA xs zs).1=0∧runR xs zs=cur∧runV xs zs=valI cur kk):=by
    have hh:=HC.out
    refine ⟨by rw [hh],?_,?_⟩
    ·unfold runR;rw [hh];exact if_pos rfl
    ·unfold runV;rw [hh,HL.out];exact if_pos rfl
   generalize valI cur kk=vv at hvl HE
   replace B0:=B0.below hb
   have hbr:Below w.heap.size w wr:=hb2.trans (hb.mono hsz2)
   have hs0r:=B0.lt
   have hne:Nonempty (LatB w.heap.size wr):=⟨⟨wr,Below.refl _ _⟩⟩
   have hsub:(zs.length:Int) - 1=(n:Int):=by omega
   have hnl:n < zs.length:=by omega
   clear hn
   have k0:=latB_cellI hc1 hbs
   have k1:=latB_cellI d3 htl
   have hW:Below w.heap.size wr wr.drew:=(Below.refl _ _).drew
   have hWE:Below w.heap.size wr (wr.drew.alloc (.cells #[] 173)):=hW.alloc (by show w.heap.size≤wr.heap.size;omega) _
   have hbA:Below wr.heap.size wr (wr.drew.alloc (.cells #[] 173)):=((Below.refl _ _).drew).alloc (Nat.le_refl _) _
   clear hc0 hc2 hc1 HC HG HL c3
   go_wp2_with fail
   clear d3
   refine text_begin (S:=fun w' => ∃ u:LatB w.heap.size wr,w' = u.val) (by kernel_rfl) ?_
   refine sgr [(0,9)] 11 (by kernel_rfl) ⟨⟨_,hW⟩,rfl⟩ ?_
   simp only [pkE]
   repeat go_big_quiet_step (fail)
   refine wpQuiet_nil ?_
   refine qta 9 (some 46) (.int .i64 zs.length) 10 (by kernel_rfl) (fun u _=>by kernel_rfl) ⟨⟨_,hW⟩,rfl⟩ ?_
   simp only [Act.put,pgE,pjE]
   refine sgr [(10,4),(16,1)] 5 (by kernel_rfl) ⟨⟨_,hW⟩,rfl⟩ ?_
   simp only [pkE]
   repeat go_big_quiet_step (fail)
   refine wpQuiet_nil ?_
   clear k0 k1 hsub
   refine twa 14 15 4 (by kernel_rfl) ?_ ?_
   ·refine opc 14 (some 51) 226 #[.slice nb cur.length nc,.int .i64 kk] (by kernel_rfl) ?_
    refine (hvl _ (hR.below ((Below.refl _ _).drew))).mono ?_
    rintro e w' ⟨rfl,hw⟩
    subst hw
    refine ⟨_,rfl,⟨⟨_,hW⟩,rfl⟩,?_⟩
    simp only [Act.put,pgE,pjE]
    refine ona 15 3 rfl (by kernel_rfl) ?_
    go_wp2
    refine ThenGo.to ⟨⟨⟨_,hWE⟩,rfl⟩,?_⟩
    have hoF:=World.ownsRow_lit (size:=2) (e:=173) wr.drew #[] 0 (Nat.le_refl _) (by decide) rfl
    change (wr.drew.alloc (.cells #[] 173)).ownsRow wr.heap.size _ _ (.slice (some ⟨wr.heap.size,0,none⟩) 0 0) 0 [] at hoF
    refine ona 17 2 rfl (by kernel_rfl) ?_
    refine wpList_copy_items _ rfl _ _ rfl wr.heap.size wr.heap.size rfl hoF nb cur nc rfl (hR.below hbA) hNn (by omega) (by simp) ?_
    intro a7 c7 w7 hown hb7
    have hB7:Below wr.heap.size wr w7:=hbA.trans hb7
    have hW7:Below w.heap.size wr w7:=hB7.mono (by omega)
    clear hoF
    go_wp2
    refine ThenGo.to ⟨⟨⟨_,hW7⟩,rfl⟩,?_⟩
    simp only [Act.put,pgE,pjE]
    refine sgr [(18,1)] 1 (by kernel_rfl) ⟨⟨_,hW7⟩,rfl⟩ ?_
    simp only [pkE]
    repeat go_big_quiet_step (fail)
    refine wpQuiet_nil ?_
    refine ona 19 0 rfl (by kernel_rfl) ?_
    replace B0:=B0.below hB7
    obtain ⟨p0,p1,p2⟩:=B0.cel3
    obtain ⟨f0,f1,f2⟩:=B0.frz3
    have hl7:=B0.lt
    have hbf:Below w.heap.size w w7:=hbr.trans hW7
    have hW9:=((hW7.setCell (p:=⟨w.heap.size,0,none⟩) (Nat.le_refl _) (.int .i64 0)).setCell (p:=⟨w.heap.size,1,none⟩) (Nat.le_refl _) (.int .i64 vv)).setCell (p:=⟨w.heap.size,2,none⟩) (Nat.le_refl _) (.slice a7 cur.length c7)
    clear B0 hne
    go_wp2
    refine ThenGo.to ⟨⟨⟨_,hW9⟩,rfl⟩,?_⟩
    refine text_end (by kernel_rfl) ?_
    go_wp2
    refine bodyPost_ret (v:=.agg #[.int .i64 0,.int .i64 vv,.slice a7 cur.length c7]) (by simp [results,Tryz.results196,go_sem,p0,p1,p2]) rfl ?_
    rw [HE.out.1,HE.out.2.1,HE.out.2.2]
    refine ⟨_,_,rfl,?_,?_⟩
    ·refine own_base (base:=wr.heap.size) ?_ (by omega)
     repeat' (refine ownsRow_setCell_below ?_ (by dsimp only;omega) _)
     exact hown
    ·repeat' (refine Below.setCell ?_ (by dsimp only;omega) _)
     exact hbf
   ·refine op_one 15 _ rfl ?_
    go_wp2
    refine ThenGo.to ⟨⟨⟨_,hWE⟩,rfl⟩,?_⟩
    refine cla 14 (some 51) 226 #[.slice nb cur.length nc,.int .i64 kk] 3 (by kernel_rfl) ?_
    refine (hvl _ (hR.below hbA)).mono ?_
    rintro e w' ⟨rfl,hw⟩
    subst hw
    refine ⟨_,rfl,⟨⟨_,hWE⟩,rfl⟩,?_⟩
    simp only [Act.put,pgE,pjE]
    have hoF:=World.ownsRow_lit (size:=2) (e:=173) wr.drew #[] 0 (Nat.le_refl _) (by decide) rfl
    change (wr.drew.alloc (.cells #[] 173)).ownsRow wr.heap.size _ _ (.slice (some ⟨wr.heap.size,0,none⟩) 0 0) 0 [] at hoF
    refine ona 17 2 rfl (by kernel_rfl) ?_
    refine wpList_copy_items _ rfl _ _ rfl wr.heap.size wr.heap.size rfl hoF nb cur nc rfl (hR.below hbA) hNn (by omega) (by simp) ?_
    intro a7 c7 w7 hown hb7
    have hB7:Below wr.heap.size wr w7:=hbA.trans hb7
    have hW7:Below w.heap.size wr w7:=hB7.mono (by omega)
    clear hoF
    go_wp2
    refine ThenGo.to ⟨⟨⟨_,hW7⟩,rfl⟩,?_⟩
    simp only [Act.put,pgE,pjE]
    refine sgr [(18,1)] 1 (by kernel_rfl) ⟨⟨_,hW7⟩,rfl⟩ ?_
    simp only [pkE]
    repeat go_big_quiet_step (fail)
    refine wpQuiet_nil ?_
    refine ona 19 0 rfl (by kernel_rfl) ?_
    replace B0:=B0.below hB7
    obtain ⟨p0,p1,p2⟩:=B0.cel3
    obtain ⟨f0,f1,f2⟩:=B0.frz3
    have hl7:=B0.lt
    have hbf:Below w.heap.size w w7:=hbr.trans hW7
    have hW9:=((hW7.setCell (p:=⟨w.heap.size,0,none⟩) (Nat.le_refl _) (.int .i64 0)).setCell (p:=⟨w.heap.size,1,none⟩) (Nat.le_refl _) (.int .i64 vv)).setCell (p:=⟨w.heap.size,2,none⟩) (Nat.le_refl _) (.slice a7 cur.length c7)
    clear B0 hne
    go_wp2
    refine ThenGo.to ⟨⟨⟨_,hW9⟩,rfl⟩,?_⟩
    refine text_end (by kernel_rfl) ?_
    go_wp2
    refine bodyPost_ret (v:=.agg #[.int .i64 0,.int .i64 vv,.slice a7 cur.length c7]) (by simp [results,Tryz.results196,go_sem,p0,p1,p2]) rfl ?_
    rw [HE.out.1,HE.out.2.1,HE.out.2.2]
    refine ⟨_,_,rfl,?_,?_⟩
    ·refine own_base (base:=wr.heap.size) ?_ (by omega)
     repeat' (refine ownsRow_setCell_below ?_ (by dsimp only;omega) _)
     exact hown
    ·repeat' (refine Below.setCell ?_ (by dsimp only;omega) _)
     exact hbf

end Go.Proofs.YtjjoahhnkpjolaaGreatDoor
namespace Go.Proofs.YtjjoahhnkpjolaaGreatDoor
open Go.RowKit
open Go.BigFrame
set_option maxRecDepth 100000
section
variable {ops:Array Oper} {rest:List Oper} {o:Oper} {a:Act} {Q:Exit→Act→World→Prop}
/-- All of a list behind a list that the call owns. -/
theorem wpList_app_k {P:Type} {K:Kind P} (w:World) (hgd:o.guard=none) (s x:Operand) (t:TypeId) (ho:o.op=.call { callee:=.builtin .append,args:=#[s,x],argTypes:=#[t,t] })
  (i0:TypeInfo) (z:Value) (by_:Nat) (ht:Tryz.prog.underlying t=some (.slice K.ty)) (hi:Tryz.prog.info? K.ty=some i0) (hz0:i0.zero=some z) (hz1:i0.size=K.size) (hz2:i0.bytes=by_) (hzs:z.cells.size=K.size) (hsz:0 < K.size)
  (B:Nat) (v:Value) (rs:List P) (hs:a.eval s=v) (hown:w.ownsRow B K.ty K.size v rs.length (K.row rs)) (sa:Option Addr) (xs:List P) (sc:Nat) (hx:a.eval x=.slice sa xs.length sc) (hr:Lies w sa (K.row xs)) (h1:∀ u∈K.row xs,u.oneCell' = true) (hN:Nice sa xs.length sc)
  (hm:rs.length + xs.length≤maxLen) (hb:(rs.length + xs.length) * by_≤140737488355328) (hB:B≤w.heap.size)
  (h:∀ v' w',w'.ownsRow B K.ty K.size v' (rs ++ xs).length (K.row (rs ++ xs))→w.grownBy w' v.ownBlock→wpList Tryz.prog ops Q rest (a.put o.dst v') w'):wpList Tryz.prog ops Q (o :: rest) a w:=by
 have e:K.row (rs ++ xs)=K.row rs ++ K.row xs:=by simp [Kind.row]
 rw [e,List.length_append] at h
 rcases hN with ⟨ad,rfl⟩ | ⟨rfl,hn,rfl⟩
 ·exact wpList_append_own w hgd s x t ho B K.ty i0 z K.size by_ ht hi hz0 hz1 hz2 hzs hsz v rs.length (K.row rs) hs hown ad xs.length sc (K.row xs) hx (Kind.row_length xs) (lies_srcI hr) h1 hm hb hB (fun v' w' h2 h3 _=>h v' w' h2 h3)
 ·have hz:xs=[]:=List.eq_nil_of_length_eq_zero hn
  subst hz
  refine wpList_append_own_none hgd s x t ho B K.ty i0 K.size ht hi v rs.length (K.row rs) hs hown hx ?_
  exact h _ _ (by simpa [Kind.row] using hown) (World.grownBy.refl _ _)

end
/-- A slice as Go makes them: it points somewhere, or it is nil. -/
def NiceV (v:Value):Prop:=∀ a n c,v=.slice a n c→Nice a n c

theorem Kind.Own.niceV {P:Type} {K:Kind P} {w:World} {v:Value} {ps:List P} (h:K.Own w v ps):NiceV v:=by
 intro a n c e
 rcases h.1.2 with ⟨h1,_⟩ | ⟨g,cap,cur,h1,_⟩
 ·rw [h1] at e
  simp only [Value.slice.injEq] at e
  obtain ⟨rfl,rfl,rfl⟩:=e
  exact Or.inr ⟨rfl,rfl,rfl⟩
 ·rw [h1] at e
  simp only [Value.slice.injEq] at e
  obtain ⟨rfl,_,_⟩:=e
  exact Or.inl ⟨_,rfl⟩

theorem txns_one {w:World} {ps:List TxnQ} (h:∀ p∈ps,txnK.rd w p):∀ u∈txnK.row ps,u.oneCell' = true:=by
 intro u hu
 obtain ⟨p,hp,hu⟩:=List.mem_flatMap.1 hu
 have hr:actK.At w p.va p.acts:=h p hp
 obtain ⟨a,c,e⟩:=hr.shape
 have hu:u∈[Value.int .i64 p.i,.int .i64 p.s,.int .i64 p.q,p.va]:=hu
 rw [e] at hu
 simp only [List.mem_cons,List.not_mem_nil,or_false] at hu
 rcases hu with rfl | rfl | rfl | rfl <;> rfl

set_option maxRecDepth 100000 in
set_option maxHeartbeats 2000000 in
theorem grow9_any (n:Nat) (w:World) (hn:n≤1000) :
  Calls Tryz.prog 173 #[.slice none 0 0,.int .i64 n] w fun e w' => ∃ v,e=.returned v∧w'.ownsRow w.heap.size 158 4 v 0 []∧Below w.heap.size w w' := by
 obtain ⟨i0,hi,hz0,hz1,hz2⟩:=info_parts infoTxn
 by_cases h0:n=0
 ·subst h0
  go_enter Tryz.func173,Tryz.ntmps173
  go_wp2
  go_ret
  exact ⟨_,rfl,World.ownsRow_nil _ _ _ _,Below.refl _ _⟩
 ·have hap:=Lib.run_append_nil_zeros (P:=Tryz.prog) w 52 3 52 158 i0 (.agg #[.int .i64 0,.int .i64 0,.int .i64 0,.slice none 0 0]) .i64 .i64 Tryz.underlying52 Tryz.underlying3 hi hz0 n (by omega) (by rw [hz1];decide) (by omega) (by rw [hz2];omega)
  have hge:=grownCap_ge w n 0 158
  have hle:=grownCap_le_maxLen w n 0 158 (by unfold maxLen;omega)
  generalize grownCap w n 0 158=cp at *
  have hsz:(Builtin.zeroCells (Value.agg #[.int .i64 0,.int .i64 0,.int .i64 0,.slice none 0 0]).cells n ++ Builtin.zeroCells (Value.agg #[.int .i64 0,.int .i64 0,.int .i64 0,.slice none 0 0]).cells (cp - n)).size=cp * 4:=by
   rw [Array.size_append,size_zeroCells,size_zeroCells]
   show n * 4 + (cp - n) * 4=cp * 4
   omega
  have ho:=World.ownsRow_made (base:=w.heap.size) (e:=158) (size:=4) w.drew _ cp (by simp) hle hsz
  have hB:Below w.heap.size w (w.drew.alloc (.cells (Builtin.zeroCells (Value.agg #[.int .i64 0,.int .i64 0,.int .i64 0,.slice none 0 0]).cells n ++ Builtin.zeroCells (Value.agg #[.int .i64 0,.int .i64 0,.int .i64 0,.slice none 0 0]).cells (cp - n)) 158)):=by go_grown
  generalize (Builtin.zeroCells (Value.agg #[.int .i64 0,.int .i64 0,.int .i64 0,.slice none 0 0]).cells n ++ Builtin.zeroCells (Value.agg #[.int .i64 0,.int .i64 0,.int .i64 0,.slice none 0 0]).cells (cp - n))=cz at *
  have hni:(0:Int) < (n:Int):=by omega
  have hcpi:(0:Int)≤(cp:Int):=by omega
  go_enter Tryz.func173,Tryz.ntmps173
  go_wp2_with (at_builtin;refine Lib.wpList_append_run _ rfl _ _ _ _ rfl _ _ rfl rfl _ _ hap ?_)
  go_wp2
  go_ret
  exact ⟨_,rfl,ho,hB⟩

set_option maxRecDepth 100000 in
set_option maxHeartbeats 4000000 in
theorem concat9_any (b cp:Nat) (v1 v2:Value) (ps qs:List TxnQ) (w:World) (hb:b < w.heap.size) (k0:w.cell? ⟨b,0,none⟩=some v1) (k1:w.cell? ⟨b,1,none⟩=some v2) (h1:txnK.At w v1 ps) (h2:txnK.At w v2 qs) (n1:NiceV v1) (n2:NiceV v2) (hl:ps.length + qs.length≤1000) :
  Calls Tryz.prog 131 #[.slice (some ⟨b,0,none⟩) 2 cp] w fun e w' => ∃ v,e=.returned v∧w'.ownsRow w.heap.size 158 4 v (ps ++ qs).length (txnK.row (ps ++ qs))∧Below w.heap.size w w' := by
 obtain ⟨i0,hi,hz0,hz1,hz2⟩:=info_parts infoTxn
 obtain ⟨a1,c1,rfl⟩:=h1.shape
 obtain ⟨a2,c2,rfl⟩:=h2.shape
 have m1:=n1 _ _ _ rfl
 have m2:=n2 _ _ _ rfl
 clear n1 n2
 have hp1:(ps.length:Int)≤1000:=by omega
 have hq1:(qs.length:Int)≤1000:=by omega
 have hsum:((ps.length + qs.length:Nat):Int)=(ps.length:Int) + (qs.length:Int):=by omega
 go_enter Tryz.func131,Tryz.ntmps131
 go_wp2
 go_loopw [3,11] (fun s i wr=>∃ k:Nat,k≤2∧i=.int .i64 k∧s=.int .i64 (if k=0 then 0 else if k=1 then (ps.length:Int) else (ps.length:Int) + (qs.length:Int))∧wr=w) (fun _ i _=>2 - (intOf i).toNat)
 case atStart=>exact ⟨0,by omega,rfl,rfl,rfl⟩
 case round=>
  obtain ⟨k,hk,rfl,rfl,rfl⟩:=hrel
  obtain rfl | rfl | rfl:k=0∨k=1∨k=2:=by omega
  ·go_wp2
   go_roundw
   case rel=>exact ⟨1,by omega,by go_num,by first | rfl | (congr 1;simp) | simp,by trivial⟩
   case measure=>simp [intOf]
  ·go_wp2
   go_roundw
   case rel=>exact ⟨2,by omega,by go_num,by first | rfl | (congr 1;simp) | simp,by trivial⟩
   case measure=>simp [intOf]
  ·obtain ⟨U,rfl⟩:∃ U,U=wr:=⟨_,rfl⟩
   have hg:=grow9_any (ps.length + qs.length) U (by omega)
   rw [hsum] at hg
   simp only [show ¬ (2=0) by decide,show ¬ (2=1) by decide,if_false]
   go_wp2_with fail
   refine hg.mono ?_
   rintro e w2 ⟨v,rfl,ho,hB⟩
   obtain ⟨sa,sc,rfl⟩:=own_shape ho
   clear hg
   go_wp2
   go_loopw [6,27] (fun s i wx=>∃ (k:Nat) (rs:List TxnQ),k≤2∧i=.int .i64 k∧Hid (rs=if k=0 then [] else if k=1 then ps else ps ++ qs)∧wx.ownsRow U.heap.size 158 4 s rs.length (txnK.row rs)∧Below U.heap.size U wx) (fun _ i _=>2 - (intOf i).toNat)
   case atStart=>exact ⟨0,[],by omega,rfl,(rfl:_=_),ho,hB⟩
   case round=>
    clear ho hB
    obtain ⟨k,rs,hk,rfl,HR,ho,hB⟩:=hrel
    obtain ⟨sa,sc,rfl⟩:=own_shape ho
    have g1:=(h1.below hB)
    have g2:=(h2.below hB)
    obtain ⟨_,_,e1,l1,r1⟩:=g1
    obtain ⟨_,_,e2,l2,r2⟩:=g2
    simp only [Value.slice.injEq,true_and] at e1 e2
    obtain ⟨rfl,rfl⟩:=e1
    obtain ⟨rfl,rfl⟩:=e2
    have o1:=txns_one r1
    have o2:=txns_one r2
    have d0:=(hB.cell (p:=⟨b,0,none⟩) hb).trans k0
    have d1:=(hB.cell (p:=⟨b,1,none⟩) hb).trans k1
    have hlow:=hB.size
    obtain rfl | rfl | rfl:k=0∨k=1∨k=2:=by omega
    ·have hrs:rs=[]:=HR.out
     subst hrs
     have x1:([]:List TxnQ).length + ps.length≤maxLen:=by unfold maxLen;rw [List.length_nil];omega
     have x2:(([]:List TxnQ).length + ps.length) * 48≤140737488355328:=by rw [List.length_nil];omega
     go_wp2_with (at_builtin;refine wpList_app_k (K:=txnK) _ rfl _ _ 52 rfl i0 (.agg #[.int .i64 0,.int .i64 0,.int .i64 0,.slice none 0 0]) 48 Tryz.underlying52 hi hz0 hz1 hz2 rfl (by decide) U.heap.size _ [] rfl ho _ ps _ rfl l1 o1 m1 x1 x2 hlow ?_)
     intro v' w5 hown hgrow
     have hB5:Below U.heap.size U w5:=hB.grown hgrow (by omega) (fun k hk=>(ho.lt k hk).1)
     obtain ⟨sa5,sc5,rfl⟩:=own_shape hown
     clear d0 d1 l1 l2 o1 o2 r1 r2 ho hgrow hB HR
     try simp only [List.nil_append] at hown ⊢
     go_wp2
     go_roundw
     case rel=>exact ⟨1,ps,by omega,by go_num,(rfl:_=_),(by first | exact hown | (rw [List.length_append];exact hown) | simpa using hown),hB5⟩
     case measure=>simp [intOf]
    ·have hrs:rs=ps:=HR.out
     subst hrs
     have x1:rs.length + qs.length≤maxLen:=by unfold maxLen;omega
     have x2:(rs.length + qs.length) * 48≤140737488355328:=by omega
     go_wp2_with (at_builtin;refine wpList_app_k (K:=txnK) _ rfl _ _ 52 rfl i0 (.agg #[.int .i64 0,.int .i64 0,.int .i64 0,.slice none 0 0]) 48 Tryz.underlying52 hi hz0 hz1 hz2 rfl (by decide) U.heap.size _ rs rfl ho _ qs _ rfl l2 o2 m2 x1 x2 hlow ?_)
     intro v' w5 hown hgrow
     have hB5:Below U.heap.size U w5:=hB.grown hgrow (by omega) (fun k hk=>(ho.lt k hk).1)
     obtain ⟨sa5,sc5,rfl⟩:=own_shape hown
     clear d0 d1 l1 l2 o1 o2 r1 r2 ho hgrow hB HR
     go_wp2
     go_roundw
     case rel=>exact ⟨2,rs ++ qs,by omega,by go_num,(rfl:_=_),(by first | exact hown | (rw [List.length_append];exact hown) | simpa using hown),hB5⟩
     case measure=>simp [intOf]
    ·have hrs:rs=ps ++ qs:=HR.out
     subst hrs
     clear d0 d1 l1 l2 o1 o2 r1 r2 HR
     go_wp2
     go_ret
     exact ⟨_,rfl,ho,hB⟩

end Go.Proofs.YtjjoahhnkpjolaaGreatDoor
