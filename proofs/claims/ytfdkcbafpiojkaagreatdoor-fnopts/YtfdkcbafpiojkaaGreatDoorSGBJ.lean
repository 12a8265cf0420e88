/- Texts joined, with what the laws reach alone. -/
import Derived.Test.YtfdkcbafpiojkaaGreatDoorSGBI
import Derived.Test.YtfdkcbafpiojkaaGreatDoorSGAX
set_option linter.unusedVariables false
set_option linter.unusedSimpArgs false
namespace Go.Proofs.YtfdkcbafpiojkaaGreatDoor
open Go.RowKit
set_option maxRecDepth 100000
def bk1 (xs:List ItemD) (u:UndoD):List ItemD:=if u.was=true then setI xs ⟨u.key,u.val⟩ else delI xs u.key

/-- Undone, from the last one on. -/
def bkA (xs:List ItemD):List UndoD→List ItemD
 | []=>xs
 | u :: r=>bk1 (bkA xs r) u

def tbC (xs:List ItemD) (us:List UndoD):Int:=if itemsF xs≠0 then itemsF xs else if undoF us≠0 then undoF us else if 8 < (bkA xs us).length then 7 else 0

def tbI (xs:List ItemD) (us:List UndoD):List ItemD:=if tbC xs us=0 then bkA xs us else []

def taR (xs:List ItemD):List (List UndoD)→Int × List ItemD
 | []=>(0,xs)
 | u :: r=>if (taR xs r).1=0 then (tbC (taR xs r).2 u,tbI (taR xs r).2 u) else ((taR xs r).1,[])

def taC (xs:List ItemD) (uss:List (List UndoD)):Int:=if 20 < uss.length then 2 else if itemsF xs≠0 then itemsF xs else (taR xs uss).1

def taI (xs:List ItemD) (uss:List (List UndoD)):List ItemD:=if taC xs uss=0 then (taR xs uss).2 else []

theorem unF1_zero {x:UndoD} (h:unF1 x=0):(1≤x.key∧x.key≤20)∧(-20000≤x.val∧x.val≤20000):=by
 rcases unF_ways x with ⟨_,e⟩ | ⟨_,_,e⟩ | ⟨_,_,_,_,e⟩ | ⟨h1,h2,_,_,_⟩ | ⟨h1,h2,_,_⟩
 ·rw [h] at e;simp at e
 ·rw [h] at e;simp at e
 ·rw [h] at e;simp at e
 ·simp [inW] at h1 h2
  exact ⟨by simpa using h1,by simpa using h2⟩
 ·simp [inW] at h1 h2
  exact ⟨by simpa using h1,by simpa using h2⟩

theorem undoF_parts {us:List UndoD} (h:undoF us=0):us.length≤4∧∀ u∈us,unF1 u=0:=by
 have h4:¬ 4 < us.length:=by
  intro h4
  simp [undoF,h4] at h
 have hz:=firstNZ_zero (unF us) us.length (by simpa [undoF,h4] using h)
 refine ⟨by omega,?_⟩
 intro u hu
 obtain ⟨j,hj,rfl⟩:=List.mem_iff_getElem.1 hu
 have:=hz j hj
 simpa [unF,List.getD,hj] using this

theorem undoF_of {us:List UndoD} (hl:us.length≤4) (h:∀ u∈us,unF1 u=0):undoF us=0:=by
 unfold undoF
 rw [if_neg (by omega)]
 refine firstNZ_none _ _ ?_
 intro j hj
 have e:us.getD j undoNo=us[j]:=by simp [List.getD,hj]
 unfold unF
 rw [e]
 exact h _ (List.getElem_mem hj)

theorem bk1_good {xs:List ItemD} {u:UndoD} (g:Good xs) (h:unF1 u=0):Good (bk1 xs u)∧(bk1 xs u).length≤xs.length + 1:=by
 obtain ⟨hk,hv⟩:=unF1_zero h
 unfold bk1
 split
 ·refine ⟨g.set hk hv,?_⟩
  rw [setI_length g]
  split <;> omega
 ·exact ⟨g.del _,Nat.le_succ_of_le (delI_length _ _)⟩

theorem bkA_good {xs:List ItemD} (g:Good xs):∀ {us:List UndoD},(∀ u∈us,unF1 u=0)→Good (bkA xs us)∧(bkA xs us).length≤xs.length + us.length
 | [],_=>⟨g,by simp [bkA]⟩
 | u :: r,h=>by
  obtain ⟨g1,h1⟩:=bkA_good g (us:=r) (fun x hx=>h x (by simp [hx]))
  obtain ⟨g2,h2⟩:=bk1_good g1 (h u (by simp))
  refine ⟨g2,?_⟩
  simp only [bkA,List.length_cons]
  omega

theorem tb_ways (xs:List ItemD) (us:List UndoD) :
  (itemsF xs≠0∧tbC xs us=itemsF xs∧tbI xs us=[])∨(itemsF xs=0∧undoF us≠0∧tbC xs us=undoF us∧tbI xs us=[]) ∨
  (itemsF xs=0∧undoF us=0∧8 < (bkA xs us).length∧tbC xs us=7∧tbI xs us=[]) ∨
  (itemsF xs=0∧undoF us=0∧¬ 8 < (bkA xs us).length∧tbC xs us=0∧tbI xs us=bkA xs us):=by
 unfold tbI tbC
 by_cases h1:itemsF xs=0
 ·by_cases h2:undoF us=0
  ·by_cases h3:8 < (bkA xs us).length <;> simp [h1,h2,h3]
  ·simp [h1,h2]
 ·simp [h1]

theorem tbI_le (xs:List ItemD) (us:List UndoD):(tbI xs us).length≤8:=by
 rcases tb_ways xs us with ⟨_,_,e⟩ | ⟨_,_,_,e⟩ | ⟨_,_,_,_,e⟩ | ⟨_,_,h,_,e⟩ <;> rw [e]
 ·simp
 ·simp
 ·simp
 ·omega

theorem delI_insI {x:ItemD}:∀ {l:List ItemD},delI (insI x l) x.key=delI l x.key
 | []=>by simp [insI,delI]
 | y :: r=>by
  have ih:=delI_insI (x:=x) (l:=r)
  unfold delI at ih ⊢
  simp only [insI]
  split
  ·simp
  ·simp only [List.filter_cons,ih]

theorem delI_delI (xs:List ItemD) (k:Int):delI (delI xs k) k=delI xs k:=by
 unfold delI
 rw [List.filter_filter]
 simp

theorem delI_setI (xs:List ItemD) (x:ItemD):delI (setI xs x) x.key=delI xs x.key:=by
 unfold setI
 rw [delI_insI,delI_delI]

theorem delI_has {xs:List ItemD} {k:Int} (h:hasI xs k=false):delI xs k=xs:=
 delI_none (fun y hy e=>by rw [hasI_mem.2 ⟨y,hy,e⟩] at h;simp at h)

theorem insI_back {k:Int}:∀ {xs:List ItemD},xs.Pairwise (fun a b=>a.key < b.key)→hasI xs k=true→insI ⟨k,valI xs k⟩ (delI xs k)=xs
 | [],_,h=>by simp [hasI] at h
 | y :: r,hp,h=>by
  rw [List.pairwise_cons] at hp
  by_cases e:y.key=k
  ·have e1:delI (y :: r) k=r:=by
    have:delI (y :: r) k=delI r k:=by simp [delI,e]
    rw [this]
    exact delI_none (fun z hz=>by have:=hp.1 z hz;omega)
   have e2:valI (y :: r) k=y.val:=by simp [valI,e]
   rw [e1,e2,insI_low (fun z hz=>by have:=hp.1 z hz;dsimp only;omega)]
   obtain ⟨y0,y1⟩:=y
   dsimp only at e
   subst e
   rfl
  ·have h' : hasI r k=true:=by simpa [hasI,e] using h
   obtain ⟨z,hz,hzk⟩:=hasI_mem.1 h'
   have hlt:=hp.1 z hz
   have e1:delI (y :: r) k=y :: delI r k:=by simp [delI,e]
   have e2:valI (y :: r) k=valI r k:=by simp [valI,e]
   rw [e1,e2]
   simp only [insI]
   rw [if_neg (by omega),insI_back hp.2 h']

theorem bk1_act {xs:List ItemD} {a:ActD} (g:Good xs) (ha:actF a=0) (h:actC xs a=0) (hk:a.kind≠4):bk1 (actN xs a) (unA xs a)=xs:=by
 obtain ⟨⟨hk1,hk2⟩,_,_⟩:=actF_zero ha
 have put:∀ v:Int,bk1 (setI xs ⟨a.key,v⟩) (unA xs a)=xs:=by
  intro v
  have hd:=delI_setI xs ⟨a.key,v⟩
  dsimp only at hd
  unfold bk1 unA
  dsimp only
  split
  ·rename_i hh
   unfold setI at hd ⊢
   dsimp only at hd ⊢
   rw [hd]
   exact insI_back g.rise hh
  ·rename_i hh
   rw [hd]
   exact delI_has (by simpa using hh)
 unfold actN
 split
 ·exact put _
 ·split
  ·exact put _
  ·split
   ·rename_i n1 n2 e3
    unfold actC at h
    rw [if_neg n1,if_neg n2,if_pos e3] at h
    have hh:hasI xs a.key=true:=by
     by_cases hh:hasI xs a.key=true
     ·exact hh
     ·rw [if_neg hh] at h;simp at h
    unfold bk1 unA
    dsimp only
    rw [if_pos hh]
    unfold setI
    dsimp only
    rw [delI_delI]
    exact insI_back g.rise hh
   ·omega

/-- What was done is taken back without a trace. -/
theorem bkA_unR:∀ {zs:List ActD} {xs:List ItemD},xs.length≤8→Good xs→(∀ a∈zs,actF a=0)→(runA xs zs).1=0→bkA (runA xs zs).2 (unR xs zs)=xs
 | [],xs,_,_,_,_=>rfl
 | a :: r,xs,hl,g,ha,h=>by
  simp only [runA,unR] at h ⊢
  by_cases e:actC xs a=0
  ·rw [if_pos e] at h ⊢
   obtain ⟨h1,h2⟩:=act_good hl g (ha a (by simp)) e
   have ih:=bkA_unR h1 h2 (fun b hb=>ha b (by simp [hb])) h
   by_cases h4:a.kind=4
   ·rw [if_pos h4,List.nil_append,ih]
    simp [actN,h4]
   ·rw [if_neg h4,List.singleton_append]
    simp only [bkA]
    rw [ih]
    exact bk1_act g (ha a (by simp)) e h4
  ·rw [if_neg e] at h
   exact absurd h e

end Go.Proofs.YtfdkcbafpiojkaaGreatDoor
namespace Go.Proofs.YtfdkcbafpiojkaaGreatDoor
open Go.RowKit Go.Maps Go.Sort Go.Shelf
set_option maxRecDepth 100000
theorem bkA_foldl (xs:List ItemD):∀ us:List UndoD,bkA xs us=us.reverse.foldl bk1 xs
 | []=>rfl
 | u :: r=>by simp [bkA,bkA_foldl xs r]

set_option maxRecDepth 100000 in
set_option maxHeartbeats 1000000 in
theorem undo_d (b:Nat) (xs:List ItemD) (k:Int) (t:Bool) (v:Int) (u:FrameMode) (w:World) (h:ShelfAt w b xs) (hl:xs.length≤100) (hu:unF1 ⟨k,t,v⟩=0) :
  CallsD Tryz.prog 182 #[.map (some b),.agg #[.int .i64 k,.bool t,.int .i64 v]] u w fun e u' w' => u' = u∧(e=.returned (.tuple #[])∧ShelfAt w' b (bk1 xs ⟨k,t,v⟩)∧Only b (b + 1) w w'):=by
 obtain ⟨hk,hv⟩:=unF1_zero hu
 dsimp only at hk hv
 have h0:ShelfAt (w.alloc (.cells #[.int .i64 k,.bool t,.int .i64 v] 185)) b xs:=h.below (by go_grown)
 have hkey:=keyI64 (k:=k) (by omega)
 have hval:=plainElem_int (H:=Unit) Tryz.underlying2 (wf64 (v:=v) (by omega))
 cases t
 ·have e2:bk1 xs ⟨k,false,v⟩=delI xs k:=by simp [bk1]
  rw [e2]
  go_enter_d Tryz.func182,Tryz.ntmps182
  go_wp2_with (at_delete;refine wpList_delete_own _ rfl _ _ 143 2 rfl 2 lawI64 Tryz.underlying143 _ b xs.length _ rfl h0 _ _ rfl hkey ?_;intro w1 hown1 hturn1)
  go_end0
  rw [shelf_del] at hown1
  exact ⟨rfl,tighten hown1,only_of_alloc hturn1.grown⟩
 ·have e2:bk1 xs ⟨k,true,v⟩=setI xs ⟨k,v⟩:=by simp [bk1]
  rw [e2]
  go_enter_d Tryz.func182,Tryz.ntmps182
  go_wp2_with (at_mapUpdate;refine wpList_mapUpdate_own _ rfl _ _ _ 143 rfl 2 2 lawI64 Tryz.underlying143 _ b xs.length _ rfl h0 (by unfold maxLen;omega) _ _ _ rfl rfl hkey _ [] hval ?_;intro w1 hown1 hgrow1)
  go_end0
  rw [shelf_put] at hown1
  exact ⟨rfl,tighten hown1,only_of_alloc hgrow1⟩

def unDef (b:Nat) (u:UndoD):Deferred:={ target:=.fn (.func 182) #[],args:=#[.map (some b),.agg #[.int .i64 u.key,.bool u.was,.int .i64 u.val]] }

theorem leaves_undo {fn:Func} {tmps:Array Value} {R:Ending→World→Prop} (b:Nat) (hR:∀ w,(results fn tmps).run Tryz.prog w=.ok (.tuple #[]) w) :
  ∀ (ds:List UndoD) (xs:List ItemD) (w:World),ShelfAt w b xs→Good xs→xs.length + ds.length≤100→(∀ u∈ds,unF1 u=0) →
   (∀ w',ShelfAt w' b (ds.foldl bk1 xs)→Only b (b + 1) w w' → R (.returned (.tuple #[])) w')→Leaves Tryz.prog fn tmps R (ds.map (unDef b)) .returning w
 | [],xs,w,h,g,hl,hu,hK=>⟨_,hR w,hK w h (Only.refl _ _ _)⟩
 | ⟨k,t,v⟩ :: ds,xs,w,h,g,hl,hu,hK=>by
  have hu1:=hu ⟨k,t,v⟩ (by simp)
  obtain ⟨g1,l1⟩:=bk1_good g hu1
  rw [List.length_cons] at hl
  rw [List.map_cons]
  refine leaves_cons (f:=182) (args:=#[.map (some b),.agg #[.int .i64 k,.bool t,.int .i64 v]]) (by simp) (by simp [go_sem]) ?_
  refine (undo_d b xs k t v .returning w h (by omega) hu1).mono ?_
  rintro e u' w' ⟨rfl,rfl,h1,ho1⟩
  refine leaves_undo b hR ds _ w' h1 g1 (by omega) (fun u hm=>hu u (by simp [hm])) ?_
  intro w2 h2 ho2
  exact hK w2 h2 (ho1.trans ho2)

set_option maxRecDepth 100000 in
set_option maxHeartbeats 2000000 in
theorem undoAll_any (b:Nat) (xs:List ItemD) (a:Option Addr) (cap:Nat) (us:List UndoD) (w:World) (h:ShelfAt w b xs) (g:Good xs) (hl:xs.length≤8) (ha:UndoRow w a us) (hu:undoF us=0) :
  Calls Tryz.prog 150 #[.map (some b),.slice a us.length cap] w fun e w' => e=.returned (.tuple #[])∧ShelfAt w' b (bkA xs us)∧Only b (b + 1) w w' := by
 obtain ⟨hu4,hu1⟩:=undoF_parts hu
 go_enter_defers Tryz.func150,Tryz.ntmps150
 go_wp2
 refine wp_loop (fun a' w' => ∃ (k:Nat) (u5 u9 u10 u11 u12 u13 u14:Value),k≤us.length∧Below w.heap.size w w' ∧
   a' = { tmps:=#[Value.map (some b),Value.slice a us.length cap,undef,undef,undef,u5,Value.slice a us.length cap,Value.int IntKind.i64 us.length,Value.int IntKind.i64 k,u9,u10,u11,u12,u13,u14],defers:=(us.take k).reverse.map (unDef b) })
  (fun a' _=>us.length - (intOf (a'.tmps.getD 8 undef)).toNat) ⟨0,undef,undef,undef,undef,undef,undef,undef,Nat.zero_le _,Below.refl _ _,by simp⟩ ?_
 rintro a' wr ⟨k,u5,u9,u10,u11,u12,u13,u14,hk,hb,rfl⟩
 by_cases hlt:k < us.length
 ·obtain ⟨bb,off,rfl,hbs,hc0,hc1,hc2⟩:=(ha.below hb).at k hlt
  have hsz:=hb.size
  have HS:Hid ((us.take (k + 1)).reverse.map (unDef b)=unDef b (us.getD k undoNo) :: (us.take k).reverse.map (unDef b)):=by
   have e:us.getD k undoNo=us[k]:=by simp [List.getD,hlt]
   show _=_
   rw [List.take_succ_eq_append_getElem hlt,e,List.reverse_append,List.map_append]
   rfl
  generalize us.getD k undoNo=z at hc0 hc1 hc2 HS
  obtain ⟨z0,z1,z2⟩:=z
  dsimp only at hc0 hc1 hc2
  generalize (us.take k).reverse.map (unDef b)=DS at HS
  go_wp2
  refine ⟨⟨k + 1,.pointer (some ⟨wr.heap.size,0,none⟩),.bool true,.pointer (some ⟨bb,off + k * 3,none⟩),.agg #[.int .i64 z0,.bool z1,.int .i64 z2],.map (some b),.agg #[.int .i64 z0,.bool z1,.int .i64 z2],.int .i64 ((k:Int) + 1),by omega,by go_grown,?_⟩,?_⟩
  ·rw [HS.out,show ((k + 1:Nat):Int)=(k:Int) + 1 by omega]
   rfl
  ·simp [intOf]
   omega
 ·have hkl:k=us.length:=by omega
  subst hkl
  rw [List.take_length]
  go_wp2
  refine leaves_undo b (fun w=>results_none rfl _ _ _) us.reverse xs wr (h.below hb) g (by rw [List.length_reverse];omega) (fun u hm=>hu1 u (List.mem_reverse.1 hm)) ?_
  intro w' h1 ho
  exact ⟨rfl,by rw [bkA_foldl];exact h1,(Only.of_below hb).trans ho⟩

end Go.Proofs.YtfdkcbafpiojkaaGreatDoor
namespace Go.Proofs.YtfdkcbafpiojkaaGreatDoor
open Go.RowKit Go.Maps Go.Sort Go.Shelf
set_option maxRecDepth 100000
theorem blk_under {w w' : World} {lo hi b:Nat} {t:TypeId} {cs:Array Value} (h:Blk w b t cs) (ho:Only lo hi w w') (hb:b < lo):Blk w' b t cs:=(ho.block b h.lt (Or.inl hb)).trans h

set_option maxRecDepth 100000 in
set_option maxHeartbeats 2000000 in
theorem implTakeBack_any (a:Option Addr) (cap:Nat) (xs:List ItemD) (ua:Option Addr) (uc:Nat) (us:List UndoD) (w:World) (h:ItemRow w a xs) (hu:UndoRow w ua us) (hl:xs.length≤1048576) (hl2:us.length≤1048576) :
  Calls Tryz.prog 85 #[.slice a xs.length cap,.slice ua us.length uc] w fun e w' => ∃ b c,e=.returned (.agg #[.int .i64 (tbC xs us),.int .i64 0,.slice b (tbI xs us).length c]) ∧
   w'.ownsRow w.heap.size 134 2 (.slice b (tbI xs us).length c) (tbI xs us).length (itemCells (tbI xs us))∧Below w.heap.size w w' := by
 have hF:=fun w h=>implItemsFault_any a cap xs w h hl
 have hU:=fun w h=>implUndoFault_any ua uc us w h hl2
 have hb0:Below w.heap.size w (w.alloc (.cells #[.int .i64 0,.int .i64 0,.slice none 0 0] 68)):=by go_grown
 have B0:=Blk.new w 68 #[.int .i64 0,.int .i64 0,.slice none 0 0]
 rcases tb_ways xs us with ⟨h0,e1,e2⟩ | ⟨h0,h1,e1,e2⟩ | ⟨h0,h1,h2,e1,e2⟩ | ⟨h0,h1,h2,e1,e2⟩ <;> rw [e1,e2] <;> clear e1 e2
 case inl=>
  have hne:(itemsF xs != 0)=true:=by simpa using h0
  clear h0
  generalize itemsF xs=r at hF hne
  go_enter Tryz.func85,Tryz.ntmps85
  go_wp2_with fail
  generalize w.alloc (.cells #[.int .i64 0,.int .i64 0,.slice none 0 0] 68)=W0 at hb0 B0
  refine (hF _ (h.below hb0)).mono ?_
  rintro e w1 ⟨rfl,hb⟩
  replace B0:=B0.below hb
  replace hb0:=hb0.trans (hb.mono hb0.size)
  clear hb
  have p0:=B0.cell 0 _ rfl
  have p1:=B0.cell 1 _ rfl
  have p2:=B0.cell 2 _ rfl
  have f0:=B0.frozen 0
  have f1:=B0.frozen 1
  have f2:=B0.frozen 2
  have hlt:=B0.lt
  clear B0
  go_wp2
  refine bodyPost_ret (v:=.agg #[.int .i64 r,.int .i64 0,.slice none 0 0]) (by simp [results,Tryz.results85,go_sem,p0,p1,p2]) rfl ⟨_,_,rfl,World.ownsRow_nil _ _ _ _,?_⟩
  repeat' (refine Below.setCell ?_ (by dsimp only;omega) _)
  exact hb0
 case inr.inl=>
  have hne:(undoF us != 0)=true:=by simpa using h1
  rw [h0] at hF
  clear h0 h1
  generalize undoF us=r at hU hne
  go_enter Tryz.func85,Tryz.ntmps85
  go_wp2_with fail
  generalize w.alloc (.cells #[.int .i64 0,.int .i64 0,.slice none 0 0] 68)=W0 at hb0 B0
  refine (hF _ (h.below hb0)).mono ?_
  rintro e w1 ⟨rfl,hb⟩
  replace B0:=B0.below hb
  replace hb0:=hb0.trans (hb.mono hb0.size)
  clear hb
  go_wp2_with fail
  refine (hU _ (hu.below hb0)).mono ?_
  rintro e w2 ⟨rfl,hb⟩
  replace B0:=B0.below hb
  replace hb0:=hb0.trans (hb.mono hb0.size)
  clear hb
  have p0:=B0.cell 0 _ rfl
  have p1:=B0.cell 1 _ rfl
  have p2:=B0.cell 2 _ rfl
  have f0:=B0.frozen 0
  have f1:=B0.frozen 1
  have f2:=B0.frozen 2
  have hlt:=B0.lt
  clear B0
  go_wp2
  refine bodyPost_ret (v:=.agg #[.int .i64 r,.int .i64 0,.slice none 0 0]) (by simp [results,Tryz.results85,go_sem,p0,p1,p2]) rfl ⟨_,_,rfl,World.ownsRow_nil _ _ _ _,?_⟩
  repeat' (refine Below.setCell ?_ (by dsimp only;omega) _)
  exact hb0
 case inr.inr.inl=>
  obtain ⟨h8,g⟩:=good_of_F h0
  obtain ⟨hu4,hu1⟩:=undoF_parts h1
  obtain ⟨gB,lB⟩:=bkA_good g hu1
  have hsh:=fun w h=>shelfOf_any a cap xs w h h8 g
  have hun:=fun b w hs ha=>undoAll_any b xs ua uc us w hs g h8 ha h1
  rw [h0] at hF
  rw [h1] at hU
  clear h0 h1 hu1
  generalize bkA xs us=zs at gB lB hun h2 ⊢
  go_enter Tryz.func85,Tryz.ntmps85
  go_wp2_with fail
  generalize w.alloc (.cells #[.int .i64 0,.int .i64 0,.slice none 0 0] 68)=W0 at hb0 B0
  refine (hF _ (h.below hb0)).mono ?_
  rintro e w1 ⟨rfl,hb⟩
  replace B0:=B0.below hb
  replace hb0:=hb0.trans (hb.mono hb0.size)
  clear hb
  go_wp2_with fail
  refine (hU _ (hu.below hb0)).mono ?_
  rintro e w2 ⟨rfl,hb⟩
  replace B0:=B0.below hb
  replace hb0:=hb0.trans (hb.mono hb0.size)
  clear hb
  go_wp2_with fail
  refine (hsh _ (h.below hb0)).mono ?_
  rintro e w3 ⟨rfl,hS,hb⟩
  have hlt0:=B0.lt
  have hge:=hb0.size
  replace B0:=B0.below hb
  replace hb0:=hb0.trans (hb.mono hb0.size)
  have hsz3:=hb.size
  clear hb
  generalize w2.heap.size=bm at hS hlt0 hge hsz3 ⊢
  go_wp2_with fail
  refine (hun _ _ hS (hu.below hb0)).mono ?_
  rintro e w4 ⟨rfl,hS4,ho⟩
  replace B0:=blk_under B0 ho hlt0
  replace hb0:=below_only hb0 ho (by omega) (by omega)
  clear ho hS
  have hlen:∀ ty,(Builtin.len_ #[143] ty #[.map (some bm)]).run Tryz.prog w4=.ok (.int .i64 zs.length) w4:=fun ty=>by
   have:=World.ownsMap.len hS4 Tryz.underlying143 ty
   rw [shelf_size] at this
   exact this
  have p0:=B0.cell 0 _ rfl
  have p1:=B0.cell 1 _ rfl
  have p2:=B0.cell 2 _ rfl
  have f0:=B0.frozen 0
  have f1:=B0.frozen 1
  have f2:=B0.frozen 2
  have hlt:=B0.lt
  clear B0
  go_wp2
  refine bodyPost_ret (v:=.agg #[.int .i64 7,.int .i64 0,.slice none 0 0]) (by simp [results,Tryz.results85,go_sem,p0,p1,p2]) rfl ⟨_,_,rfl,World.ownsRow_nil _ _ _ _,?_⟩
  repeat' (refine Below.setCell ?_ (by dsimp only;omega) _)
  exact hb0
 case inr.inr.inr=>
  obtain ⟨h8,g⟩:=good_of_F h0
  obtain ⟨hu4,hu1⟩:=undoF_parts h1
  obtain ⟨gB,lB⟩:=bkA_good g hu1
  have hsh:=fun w h=>shelfOf_any a cap xs w h h8 g
  have hun:=fun b w hs ha=>undoAll_any b xs ua uc us w hs g h8 ha h1
  rw [h0] at hF
  rw [h1] at hU
  clear h0 h1 hu1
  generalize bkA xs us=zs at gB lB hun h2 ⊢
  go_enter Tryz.func85,Tryz.ntmps85
  go_wp2_with fail
  generalize w.alloc (.cells #[.int .i64 0,.int .i64 0,.slice none 0 0] 68)=W0 at hb0 B0
  refine (hF _ (h.below hb0)).mono ?_
  rintro e w1 ⟨rfl,hb⟩
  replace B0:=B0.below hb
  replace hb0:=hb0.trans (hb.mono hb0.size)
  clear hb
  go_wp2_with fail
  refine (hU _ (hu.below hb0)).mono ?_
  rintro e w2 ⟨rfl,hb⟩
  replace B0:=B0.below hb
  replace hb0:=hb0.trans (hb.mono hb0.size)
  clear hb
  go_wp2_with fail
  refine (hsh _ (h.below hb0)).mono ?_
  rintro e w3 ⟨rfl,hS,hb⟩
  have hlt0:=B0.lt
  have hge:=hb0.size
  replace B0:=B0.below hb
  replace hb0:=hb0.trans (hb.mono hb0.size)
  have hsz3:=hb.size
  clear hb
  generalize w2.heap.size=bm at hS hlt0 hge hsz3 ⊢
  go_wp2_with fail
  refine (hun _ _ hS (hu.below hb0)).mono ?_
  rintro e w4 ⟨rfl,hS4,ho⟩
  replace B0:=blk_under B0 ho hlt0
  replace hb0:=below_only hb0 ho (by omega) (by omega)
  clear ho hS
  have hlen:∀ ty,(Builtin.len_ #[143] ty #[.map (some bm)]).run Tryz.prog w4=.ok (.int .i64 zs.length) w4:=fun ty=>by
   have:=World.ownsMap.len hS4 Tryz.underlying143 ty
   rw [shelf_size] at this
   exact this
  go_wp2_with fail
  refine (items_any bm zs _ hS4 (by omega) gB).mono ?_
  rintro e w5 ⟨ra,rc,rfl,o5,hb⟩
  have hge5:=hb0.size
  have hlt5:=B0.lt
  replace B0:=B0.below hb
  replace hb0:=hb0.trans (hb.mono hb0.size)
  have hnb:∀ k,(Value.slice ra zs.length rc).ownBlock=some k→k≠w.heap.size:=fun k hk=>by have:=(o5.lt k hk).1;omega
  have o6:=own_base o5 hge5
  clear o5
  have p0:=B0.cell 0 _ rfl
  have p1:=B0.cell 1 _ rfl
  have p2:=B0.cell 2 _ rfl
  have f0:=B0.frozen 0
  have f1:=B0.frozen 1
  have f2:=B0.frozen 2
  have hlt:=B0.lt
  clear B0
  go_wp2
  refine bodyPost_ret (v:=.agg #[.int .i64 0,.int .i64 0,.slice ra zs.length rc]) (by simp [results,Tryz.results85,go_sem,p0,p1,p2]) rfl ⟨_,_,rfl,?_,?_⟩
  ·exact own_set_other (own_set_other (own_set_other o6 hnb) hnb) hnb
  ·repeat' (refine Below.setCell ?_ (by dsimp only;omega) _)
   exact hb0

end Go.Proofs.YtfdkcbafpiojkaaGreatDoor
namespace Go.Proofs.YtfdkcbafpiojkaaGreatDoor
open Go.RowKit
open Go.BigFrame
set_option maxRecDepth 100000
theorem specReplicaFault_any (p:RepQ) (w:World) (h:repK.own w p) (hl:p.n≤1048576) :
  Calls Tryz.prog 35 #[.agg #[p.vd,p.vb,p.vt,p.vu,p.vn]] w fun e w' => e=.returned (.int .i64 (repF p.e))∧Below w.heap.size w w' := by
 have hf:=fun b w hB h=>l9Fault_any b p w hB h hl
 have hr:=fun (w' : World) (hb:Below w.heap.size w w')=>repK.own_out (F:=[]) (w' := w') h (Out.of_below hb) (fun _ _=>by simp)
 generalize repF p.e=c at *
 obtain ⟨pvd,pd,pvb,pb,pvt,pt,pvu,pu,pvn,pn⟩:=p
 obtain ⟨p0,p5,rfl⟩:∃ a c,pvd=.slice a pd.length c:=h.1.shape
 obtain ⟨p1,p6,rfl⟩:∃ a c,pvb=.slice a pb.length c:=h.2.1.shape
 obtain ⟨p2,p7,rfl⟩:∃ a c,pvt=.slice a pt.length c:=h.2.2.1.shape
 obtain ⟨p3,p8,rfl⟩:∃ a c,pvu=.slice a pu.length c:=h.2.2.2.1.shape
 obtain ⟨p4,p9,rfl⟩:∃ a c,pvn=.slice a pn.length c:=h.2.2.2.2.shape
 dsimp only at hf hr
 have hb0:Below w.heap.size w (w.alloc (.cells #[.slice p0 pd.length p5,.slice p1 pb.length p6,.slice p2 pt.length p7,.slice p3 pu.length p8,.slice p4 pn.length p9] 32)):=by go_grown
 have B:=Blk.new w 32 #[.slice p0 pd.length p5,.slice p1 pb.length p6,.slice p2 pt.length p7,.slice p3 pu.length p8,.slice p4 pn.length p9]
 go_enter Tryz.func35,Tryz.ntmps35
 go_wp2_with fail
 refine (hf _ _ B (hr _ hb0)).mono ?_
 rintro e w2 ⟨rfl,hb⟩
 replace hb0:=hb0.trans (hb.mono hb0.size)
 go_wp2
 go_ret
 exact ⟨rfl,hb0⟩

end Go.Proofs.YtfdkcbafpiojkaaGreatDoor
