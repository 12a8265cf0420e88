/- Texts joined, with what the law reaches alone. -/
import Derived.Test.YtfdkcbafpiojkaaGreatDoorSXAE
import Derived.Test.YtfdkcbafpiojkaaGreatDoorSXAB
set_option linter.unusedVariables false
set_option linter.unusedSimpArgs false
namespace Go.Proofs.YtfdkcbafpiojkaaGreatDoor
open Go.RowKit Go.Maps Go.Sort Go.Shelf
set_option maxRecDepth 100000
theorem sorts3 (m:Nat):AnyZI.SortsIn Tryz.prog shSorted_ren Fence.wide m:=
 ⟨fun blk off cap ss W hH hblk hsz=>callsIn_wide.2 (AnyM.slices_Sort_int shSort blk off cap ss W hH hblk hsz),fun p cap W=>callsIn_wide.2 (AnyM.slices_Sort_int_none shSort p cap W)⟩

theorem keys3 (mb:Option Nat) (W:World):Calls Tryz.prog 154 #[.map mb] W fun e w' => e=.returned (.func (.func 185) #[] #[.pointer (some ⟨W.heap.size,0,none⟩)])∧w' = W.alloc (.cells #[.map mb] 143):=
 (callsIn_wide (n:=5)).1 (AnyZI.keys_in shKeys Fence.wide 5 trivial rfl mb W)

theorem sort_rise {xs:List ItemD} (g:Good xs) {ss:List Int} (h:ss.Perm (xs.map ItemD.key)):ss.mergeSort (fun x y=>decide (x≤y))=xs.map ItemD.key:=by
 have tr:∀ a b c:Int,leI a b=true→leI b c=true→leI a c=true:=fun a b c h1 h2=>by simp only [leI,decide_eq_true_eq] at *;exact Int.le_trans h1 h2
 have to:∀ a b:Int,(leI a b || leI b a)=true:=fun a b=>by simp only [leI,Bool.or_eq_true,decide_eq_true_eq];exact Int.le_total a b
 refine List.Perm.eq_of_pairwise (le:=fun a b=>leI a b=true) (fun a b _ _ h1 h2=>?_) (List.pairwise_mergeSort tr to ss) ?_ ((List.mergeSort_perm ss leI).trans h)
 ·simp only [leI,decide_eq_true_eq] at h1 h2
  omega
 ·rw [List.pairwise_map]
  exact g.rise.imp (fun h=>by simp only [leI,decide_eq_true_eq];omega)

set_option maxHeartbeats 1000000 in
theorem sorted3 (b:Nat) (xs:List ItemD) (w:World) (h:ShelfAt w b xs) (hl:xs.length≤8) (g:Good xs) :
  Calls Tryz.prog 153 #[.func (.func 185) #[] #[.pointer (some ⟨w.heap.size,0,none⟩)]] (w.alloc (.cells #[.map (some b)] 143)) fun e w' => ∃ a c,e=.returned (.slice a xs.length c) ∧
   w'.ownsRow (w.heap.size + 1) 2 1 (.slice a xs.length c) xs.length ((xs.map ItemD.key).map (Value.int .i64))∧Below w.heap.size w w' := by
 have hbl:=h.lt
 have hseq:SeqGives Fence.wide 2 Tryz.prog 185 #[.pointer (some ⟨w.heap.size,0,none⟩)] encZ (fun ss=>ss.Perm (intKeys (shelfD xs))) (Maps.size (shelfD xs)) (w.alloc (.cells #[.map (some b)] 143)):=
  AnyZI.keys_gives (ρ:=shKeys_ren) { shKeys with } Fence.wide _ trivial rfl (by omega) w.heap.size b xs.length (shelfD xs) _ (by simp) (by simp) (by
   obtain ⟨es,clock,hb,Ft,hs,hD⟩:=h
   exact ⟨es,clock,(Below.heap_alloc _ _ b hbl).trans hb,Ft,hs,hD⟩)
 have hz:=shelf_size xs
 have cS:=AnyZI.sorted_in shSorted Fence.wide 5 trivial trivial trivial trivial rfl (by omega) (sorts3 _) (enters_of Tryz.func184 (by kernel_rfl) rfl) 185 #[.pointer (some ⟨w.heap.size,0,none⟩)] trivial (enters_of Tryz.func185 (by kernel_rfl) rfl) _ _ (by rw [hz];unfold maxLen;omega) (by rw [hz];omega) _ hseq
 change CallsIn _ _ Tryz.prog 153 _ _ _ at cS
 refine ((callsIn_wide (n:=5)).1 cS).mono ?_
 rintro e w' ⟨v,ss,rfl,hS,hrow,hnil,hb⟩
 rw [shelf_keys] at hS
 rw [sort_rise g hS] at hrow
 have hlen:ss.length=xs.length:=by simpa using hS.length_eq
 rw [hlen] at hrow
 obtain ⟨a,c,rfl⟩:=own_shape hrow
 refine ⟨a,c,rfl,?_,?_⟩
 ·rw [World.size_alloc] at hrow
  exact hrow
 ·exact ((Below.refl _ w).alloc (Nat.le_refl _) _).trans (hb.mono (by simp))

theorem valI_at {xs:List ItemD} (g:Good xs) {k:Nat} (hk:k < xs.length):valI xs (xs.getD k itemNo).key=(xs.getD k itemNo).val:=by
 have e:xs.getD k itemNo=xs[k]:=by simp [List.getD,hk]
 have hf:xs.find? (fun x=>x.key == (xs.getD k itemNo).key)=some (xs.getD k itemNo):=by
  rw [List.find?_eq_some_iff_getElem]
  refine ⟨by simp,k,hk,e.symm,?_⟩
  intro j hj
  have:=(List.pairwise_iff_getElem.1 g.rise) j k (by omega) hk hj
  rw [e]
  simp
  omega
 unfold valI
 rw [hf]

set_option maxRecDepth 100000 in
set_option maxHeartbeats 1000000 in
theorem items_any (b:Nat) (xs:List ItemD) (w:World) (h:ShelfAt w b xs) (hl:xs.length≤8) (g:Good xs) :
  Calls Tryz.prog 89 #[.map (some b)] w fun e w' => ∃ a c,e=.returned (.slice a xs.length c) ∧
   w'.ownsRow w.heap.size 134 2 (.slice a xs.length c) xs.length (itemCells xs)∧Below w.heap.size w w' := by
 obtain ⟨i0,hi,hz0,hz1,hz2⟩:=info_parts infoItem
 have cS:=sorted3 b xs w h hl g
 go_enter Tryz.func89,Tryz.ntmps89
 go_wp2_with (first | (go_at_call 154;refine (keys3 _ _).mono ?_;rintro e w' ⟨rfl,rfl⟩) | (go_at_call 153;refine cS.mono ?_;rintro e w1 ⟨ka,kc,rfl,hko,hb1⟩))
 clear cS
 have hR:Row .i64 w1 ka (xs.map ItemD.key):=Row.own (zs:=xs.map ItemD.key) (by simpa using hko)
 have h1:=h.below hb1
 clear hko
 go_loopw [3,10] (fun v i wr=>∃ k:Nat,k≤xs.length∧i=.int .i64 k∧wr.ownsRow w1.heap.size 134 2 v k (itemCells (xs.take k))∧Below w1.heap.size w1 wr) (fun _ i _=>xs.length - (intOf i).toNat)
 case atStart=>exact ⟨0,Nat.zero_le _,rfl,World.ownsRow_nil _ _ _ _,Below.refl _ _⟩
 case round=>
  obtain ⟨k,hk,rfl,ho,hb⟩:=hrel
  obtain ⟨a1,c1,rfl⟩:=own_shape ho
  have hsz:=hb.size
  by_cases hlt:k < xs.length
  ·obtain ⟨bb,off,rfl,hbs,hc⟩:=(hR.below hb) k (by simpa using hlt)
   have ek:(xs.map ItemD.key).getD k 0=(xs.getD k itemNo).key:=by simp [List.getD,hlt]
   rw [ek] at hc
   have hsh:=h1.below hb
   have HS:Hid (xs.take (k + 1)=xs.take k ++ [xs.getD k itemNo]):=by
    have e:xs.getD k itemNo=xs[k]:=by simp [List.getD,hlt]
    show _=_
    rw [List.take_succ_eq_append_getElem hlt,e]
   have hgk:=g.key _ (getD_mem hlt)
   have hva:=valI_at g hlt
   have hlook:∀ (ops:Array Oper) (rest:List Oper) (o:Oper) (a:Act) (Q:Exit→Act→World→Prop) (hg:o.guard=none) (m x:Operand) (hop:o.op=Op.lookup 143 m x false) (hm:a.eval m=.map (some b)) (hx:a.eval x=.int .i64 (xs.getD k itemNo).key) (hK:wpList Tryz.prog ops Q rest (a.put o.dst (.int .i64 (xs.getD k itemNo).val)) wr),wpList Tryz.prog ops Q (o :: rest) a wr:=
    fun ops rest o a Q hg m x hop hm hx hK=>wpList_shelf_at wr hg m x hop b xs hm hsh _ hx (by omega) (by rw [hva];exact hK)
   clear hva hsh
   generalize xs.getD k itemNo=z at hc HS hgk hlook
   obtain ⟨z0,z1⟩:=z
   dsimp only at hc hgk hlook
   have hW2:Below w1.heap.size wr (wr.alloc (.cells #[.int .i64 z0,.int .i64 z1] 134)):=(Below.refl _ _).alloc (by omega) _
   have ho2:=ho.alloc (.cells #[.int .i64 z0,.int .i64 z1] 134)
   go_wp2_with (first | (at_lookup;refine hlook _ _ _ _ _ rfl _ _ rfl rfl rfl ?_) | (at_builtin;refine wpList_append_own _ rfl _ _ 29 rfl w1.heap.size 134 i0 (.agg #[.int .i64 0,.int .i64 0]) 2 16 Tryz.underlying29 hi hz0 hz1 hz2 rfl (by decide) _ k (itemCells (xs.take k)) rfl ho2 ⟨wr.heap.size,0,none⟩ 1 1 [.int .i64 z0,.int .i64 z1] rfl rfl ?c1 ?c2 ?c3 ?c4 ?c5 ?_))
   all_goals try
    (case c1=>intro j u hj;match j,hj with | 0,hj=>simp at hj;subst hj;simp [Addr.add] | 1,hj=>simp at hj;subst hj;simp [Addr.add])
   all_goals try (case c2=>first | rfl | (intro u hu;simp at hu;rcases hu with rfl | rfl <;> rfl))
   all_goals try (case c3=>unfold maxLen;omega)
   all_goals try (case c4=>omega)
   all_goals try (case c5=>first | omega | (simp;omega))
   intro v' w3 hown hgrow _
   obtain ⟨a2,c2,rfl⟩:=own_shape hown
   have hW3:Below w1.heap.size wr w3:=hW2.grown hgrow (by simp;omega) (fun j hj=>(ho.lt j hj).1)
   have R:Hid (w3.ownsRow w1.heap.size 134 2 (.slice a2 (k + 1) c2) (k + 1) (itemCells (xs.take (k + 1)))∧Below w1.heap.size w1 w3):=⟨by rw [HS.out];simpa [itemCells,ItemD.cells] using hown,hb.trans hW3⟩
   clear hW2 hgrow ho2 ho hown hW3
   go_wp2
   go_roundw
   case rel=>exact ⟨k + 1,by omega,by go_num,R.out.1,R.out.2⟩
   case measure=>simp [intOf];omega
  ·have hkl:k=xs.length:=by omega
   subst hkl
   rw [List.take_length] at ho
   go_wp2
   go_ret
   exact ⟨_,_,rfl,own_base ho hb1.size,below_from hb1 hb⟩

end Go.Proofs.YtfdkcbafpiojkaaGreatDoor
namespace Go.Proofs.YtfdkcbafpiojkaaGreatDoor
open Go.RowKit
set_option maxRecDepth 100000
section
variable {P:Program} {ops:Array Oper} {Q:Exit→Act→World→Prop} {S:World→Prop}
theorem quiet_at (i:Nat) (d:Option Tmp) (v:Value) (fuel:Nat) {F:Nat} {l:Array Bool} {a:Act} {w:World} (hF:F=fuel + 1) (hs:Region.noSelect ops=true)
  (hd:(ops[i]?).map (·.dst)=some d) (hok:okSeg ops [i] l=true) (hw:(ops[i]?).map (fun o=>Region.wanted o (yielded ops a.tmps))=some true)
  (hrun:∀ u,S u→(ops[i]?).map (fun o=>(execOp a.eval o).run P u)=some (.ok (.value v) u)) (hS:S w)
  (h:wpAnyH P .any ops (NoPanic Q) S fuel (upTo [i] l) (a.put d v) w):wpAnyH P .any ops (NoPanic Q) S F l a w:=by
 subst hF
 cases ho:ops[i]? with
 | none=>rw [ho] at hd;simp at hd
 | some o=>
  rw [ho] at hd hw hrun
  simp only [Option.map_some,Option.some.injEq] at hd hw hrun
  subst hd
  simp only [okSeg,Bool.and_eq_true,Bool.and_true] at hok
  exact wpAnyH_take (i:=i) (oi:=o) (v:=v) ho hs hok.1 hok.2 (fun c a w=>noPanic_put c a _ _ w) (Or.inl ⟨hw,fun u hu=>hrun u hu⟩) hS h

/-- One operation, walked as a list of one. -/
theorem op_one {K:Act→World→Prop} (i:Nat) (o:Oper) {a:Act} {w:World} (ho:ops[i]? = some o) (h:wpList P ops (ThenGo Q K) [o] a w):wpOp P ops (NoPanic Q) i K a w:=by
 unfold wpOp
 simp only [ho]
 simp only [wpList] at h
 split at h
 ·rename_i hw
  rw [if_pos hw]
  rcases h with h | ⟨h1,h2⟩
  ·left
   unfold Oper.wp at h ⊢
   revert h
   generalize (execOp a.eval o).run P w=r
   intro h
   unfold Oper.upon at h ⊢
   split at h
   ·exact h
   ·exact h
   ·exact h
   ·refine Calls.mono h fun e w' he=>?_
    cases e <;> exact he
   ·exact h
   ·exact h
   ·exact h
  ·exact Or.inr ⟨h1,h2⟩
 ·rename_i hw
  rw [if_neg hw]
  exact h

/-- One call, by its contract. -/
theorem op_call {K:Act→World→Prop} (i:Nat) (d:Option Tmp) (f:Nat) (args:Array Value) {a:Act} {w:World}
  (hd:(ops[i]?).map (·.dst)=some d) (hw:(ops[i]?).map (fun o=>Region.wanted o (yielded ops a.tmps))=some true)
  (hrun:(ops[i]?).map (fun o=>(execOp a.eval o).run P w)=some (.ok (.enter f args) w))
  (hc:Calls P f args w (fun e w' => ∃ v,e=.returned v∧K (a.put d v) w')):wpOp P ops (NoPanic Q) i K a w:=by
 cases ho:ops[i]? with
 | none=>rw [ho] at hd;simp at hd
 | some o=>
  rw [ho] at hd hw hrun
  simp only [Option.map_some,Option.some.injEq] at hd hw hrun
  subst hd
  unfold wpOp
  simp only [ho,hw,if_true]
  refine .inl ?_
  unfold Oper.wp
  rw [hrun]
  simp only [Oper.upon]
  refine hc.mono fun e w' he=>?_
  obtain ⟨v,rfl,h1⟩:=he
  exact h1

/-- Two may come up: each of them first. -/
theorem two_at (i j:Nat) (fuel:Nat) {F:Nat} {l:Array Bool} {a:Act} {w:World} (hF:F=fuel + 1) (hr:Region.ready .any ops l=[i,j])
  (hi:wpOp P ops (NoPanic Q) i (fun a' w' => S w' ∧ wpAnyH P .any ops (NoPanic Q) S fuel (upTo [i] l) a' w') a w)
  (hj:wpOp P ops (NoPanic Q) j (fun a' w' => S w' ∧ wpAnyH P .any ops (NoPanic Q) S fuel (upTo [j] l) a' w') a w):wpAnyH P .any ops (NoPanic Q) S F l a w:=by
 subst hF
 refine wpAnyH_all hr (by simp) (fun k hk=>?_)
 simp only [List.mem_cons,List.not_mem_nil,or_false] at hk
 rcases hk with rfl | rfl
 ·exact hi
 ·exact hj

end
end Go.Proofs.YtfdkcbafpiojkaaGreatDoor
namespace Go.Proofs.YtfdkcbafpiojkaaGreatDoor
open Go.RowKit
set_option maxRecDepth 100000
end Go.Proofs.YtfdkcbafpiojkaaGreatDoor
namespace Go.Proofs.YtfdkcbafpiojkaaGreatDoor
open Go.RowKit Go.Maps
open Go.BigFrame
set_option maxRecDepth 100000
end Go.Proofs.YtfdkcbafpiojkaaGreatDoor
namespace Go.Proofs.YtfdkcbafpiojkaaGreatDoor
open Go.RowKit Go.Maps
open Go.BigFrame
set_option maxRecDepth 100000
/-- A slice that is nil, or lies somewhere. -/
def Nice (a:Option Addr) (n cap:Nat):Prop:=(∃ ad,a=some ad)∨(a=none∧n=0∧cap=0)

theorem nice_own {w:World} {base e size n c:Nat} {a:Option Addr} {xs:List Value} (h:w.ownsRow base e size (.slice a n c) n xs):Nice a n c:=by
 rcases h.2 with ⟨he,hn⟩ | ⟨g,cap,cur,he,_⟩
 ·simp only [Value.slice.injEq] at he
  obtain ⟨rfl,rfl,rfl⟩:=he
  exact Or.inr ⟨rfl,rfl,rfl⟩
 ·simp only [Value.slice.injEq] at he
  obtain ⟨rfl,_⟩:=he
  exact Or.inl ⟨_,rfl⟩

theorem hasI_none {xs:List ItemD} {k:Int} (h:∀ j,j < xs.length→((xs.getD j itemNo).key == k)=false):hasI xs k=false∧valI xs k=0:=by
 have hn:∀ x∈xs,(x.key == k)=false:=by
  intro x hx
  obtain ⟨j,hj,rfl⟩:=List.mem_iff_getElem.1 hx
  simpa [List.getD,hj] using h j hj
 constructor
 ·unfold hasI
  rw [List.any_eq_false]
  intro x hx
  simp [hn x hx]
 ·unfold valI
  have:xs.find? (fun x=>x.key == k)=none:=by
   rw [List.find?_eq_none]
   intro x hx
   simp [hn x hx]
  rw [this]

theorem hasI_first {xs:List ItemD} {k:Int} {j:Nat} (hj:j < xs.length) (h0:∀ i,i < j→((xs.getD i itemNo).key == k)=false) (h1:((xs.getD j itemNo).key == k)=true):hasI xs k=true∧valI xs k=(xs.getD j itemNo).val:=by
 have e:xs.getD j itemNo=xs[j]:=by simp [List.getD,hj]
 constructor
 ·unfold hasI
  rw [List.any_eq_true]
  exact ⟨_,getD_mem hj,h1⟩
 ·unfold valI
  have:xs.find? (fun x=>x.key == k)=some (xs.getD j itemNo):=by
   rw [List.find?_eq_some_iff_getElem]
   refine ⟨h1,j,hj,e.symm,?_⟩
   intro i hi
   have:=h0 i hi
   simp [List.getD,show i < xs.length by omega] at this
   simpa using this
  rw [this]

set_option maxHeartbeats 1000000 in
theorem l3At_any (a:Option Addr) (cap:Nat) (xs:List ItemD) (k:Int) (w:World) (h:ItemRow w a xs) (hl:xs.length≤1048576) :
  Calls Tryz.prog 190 #[.slice a xs.length cap,.int .i64 k] w fun e w' => ∃ r:Int,e=.returned (.int .i64 r)∧((r=-1∧hasI xs k=false∧valI xs k=0)∨∃ j:Nat,r=j∧j < xs.length∧hasI xs k=true∧valI xs k=(xs.getD j itemNo).val)∧w' = w:=by
 go_enter Tryz.func190,Tryz.ntmps190
 go_wp2
 go_loop [5] (fun i=>∃ j:Nat,j≤xs.length∧i=.int .i64 j∧Hid (∀ i,i < j→((xs.getD i itemNo).key == k)=false)) (fun i=>xs.length - (intOf i).toNat)
 case atStart=>exact ⟨0,Nat.zero_le _,rfl,fun j hj=>absurd hj (Nat.not_lt_zero _)⟩
 case round=>
  obtain ⟨j,hj,rfl,HA⟩:=hrel
  by_cases hlt:j < xs.length
  ·obtain ⟨b,off,rfl,hbs,hc0,hc1⟩:=h.at j hlt
   clear hc1
   cases he:((xs.getD j itemNo).key == k)
   ·have HB:Hid (∀ i,i < j + 1→((xs.getD i itemNo).key == k)=false):=by
     intro i hi
     by_cases hij:i=j
     ·subst hij;exact he
     ·exact HA.out i (by omega)
    clear HA
    generalize (xs.getD j itemNo).key=z at hc0 he
    go_wp2
    go_round
    case rel=>exact ⟨j + 1,by omega,by go_num,HB⟩
    case measure=>simp [intOf];omega
   ·have E:Hid (hasI xs k=true∧valI xs k=(xs.getD j itemNo).val):=hasI_first hlt HA.out he
    clear HA
    generalize (xs.getD j itemNo).key=z at hc0 he
    go_wp2
    go_ret
    exact ⟨_,rfl,Or.inr ⟨j,rfl,hlt,E.out.1,E.out.2⟩,rfl⟩
  ·have hjl:j=xs.length:=by omega
   subst hjl
   have E:Hid (hasI xs k=false∧valI xs k=0):=hasI_none HA.out
   clear HA
   go_wp2
   go_ret
   exact ⟨_,rfl,Or.inl ⟨rfl,E.out.1,E.out.2⟩,rfl⟩

set_option maxHeartbeats 1000000 in
theorem l3Value_any (a:Option Addr) (cap:Nat) (xs:List ItemD) (k:Int) (w:World) (h:ItemRow w a xs) (hl:xs.length≤1048576) :
  Calls Tryz.prog 171 #[.slice a xs.length cap,.int .i64 k] w fun e w' => e=.returned (.int .i64 (valI xs k))∧w' = w:=by
 have hc:=fun w h=>l3At_any a cap xs k w h hl
 go_enter Tryz.func171,Tryz.ntmps171
 go_wp2_with fail
 refine (hc _ h).mono ?_
 rintro e w' ⟨r,rfl,⟨rfl,_,ev⟩ | ⟨j,rfl,hj,_,ev⟩,hw⟩
 ·replace hw:=hw.symm
  subst hw
  go_wp2
  go_ret
  rw [ev]
  exact ⟨rfl,rfl⟩
 ·replace hw:=hw.symm
  subst hw
  obtain ⟨b,off,rfl,hbs,hc0,hc1⟩:=h.at j hj
  have E:Hid (valI xs k=(xs.getD j itemNo).val):=ev
  clear hc0 ev hc
  generalize (xs.getD j itemNo).val=z at hc1 E
  go_wp2
  go_ret
  rw [E.out]
  exact ⟨rfl,rfl⟩

end Go.Proofs.YtfdkcbafpiojkaaGreatDoor
namespace Go.Proofs.YtfdkcbafpiojkaaGreatDoor
open Go.RowKit Go.Maps
open Go.BigFrame
set_option maxRecDepth 100000
theorem delI_take_succ (xs:List ItemD) (q:Int) (k:Nat) (hk:k < xs.length):delI (xs.take (k + 1)) q=delI (xs.take k) q ++ (if ((xs.getD k itemNo).key == q)=true then [] else [xs.getD k itemNo]):=by
 have e:xs.getD k itemNo=xs[k]:=by simp [List.getD,hk]
 unfold delI
 rw [List.take_succ_eq_append_getElem hk,List.filter_append,e]
 congr 1
 cases hp:(xs[k].key == q) <;> simp [hp]

theorem drop_item {zs:List ItemD} {k:Nat} (h:k < zs.length):zs.drop k=zs.getD k itemNo :: zs.drop (k + 1):=by
 have e:zs.getD k itemNo=zs[k]:=by simp [List.getD,h]
 rw [List.drop_eq_getElem_cons h,e]

theorem itemCells_snoc' (xs:List ItemD) (z:ItemD):itemCells (xs ++ [z])=itemCells xs ++ [.int .i64 z.key,.int .i64 z.val]:=by simp [itemCells,ItemD.cells]

set_option maxRecDepth 100000 in
set_option maxHeartbeats 2000000 in
theorem l3Drop_any (a:Option Addr) (cap:Nat) (xs:List ItemD) (q:Int) (w:World) (h:ItemRow w a xs) (hl:xs.length≤100) :
  Calls Tryz.prog 191 #[.slice a xs.length cap,.int .i64 q] w fun e w' => ∃ b c,e=.returned (.slice b (delI xs q).length c) ∧
   w'.ownsRow w.heap.size 134 2 (.slice b (delI xs q).length c) (delI xs q).length (itemCells (delI xs q))∧Below w.heap.size w w' := by
 obtain ⟨i0,hi,hz0,hz1,hz2⟩:=info_parts infoItem
 go_enter Tryz.func191,Tryz.ntmps191
 go_wp2
 go_loopw [5,6] (fun v j wr=>∃ k:Nat,k≤xs.length∧j=.int .i64 k∧wr.ownsRow w.heap.size 134 2 v (delI (xs.take k) q).length (itemCells (delI (xs.take k) q))∧Below w.heap.size w wr) (fun _ j _=>xs.length - (intOf j).toNat)
 case atStart=>exact ⟨0,Nat.zero_le _,rfl,by rw [List.take_zero];exact World.ownsRow_lit w #[] 0 (Nat.le_refl _) (by decide) rfl,by go_grown⟩
 case round=>
  obtain ⟨k,hk,rfl,ho,hb⟩:=hrel
  obtain ⟨a1,c1,rfl⟩:=own_shape ho
  have hsz:=hb.size
  by_cases hlt:k < xs.length
  ·obtain ⟨b,off,rfl,hbs,hc0,hc1⟩:=h.at k hlt
   have hs:=delI_take_succ xs q k hlt
   have hdl:(delI (xs.take k) q).length≤100:=by have:=delI_length (xs.take k) q;simp at this;omega
   generalize delI (xs.take k) q=F at ho hs hdl
   cases he:((xs.getD k itemNo).key == q)
   ·have HS:Hid (delI (xs.take (k + 1)) q=F ++ [xs.getD k itemNo]):=by
     show _=_
     rw [hs,he]
     simp
    have hne:((xs.getD k itemNo).key != q)=true:=by unfold bne;rw [he];rfl
    clear hs
    generalize xs.getD k itemNo=z at hc0 hc1 he HS hne
    obtain ⟨z0,z1⟩:=z
    dsimp only at hc0 hc1 he hne
    have d0:=(hb.cell (p:=⟨b,off + k * 2,none⟩) hbs).trans hc0
    have d1:=(hb.cell (p:=⟨b,off + k * 2 + 1,none⟩) hbs).trans hc1
    have hW2:Below w.heap.size wr (wr.alloc (.cells #[.int .i64 z0,.int .i64 z1] 134)):=(Below.refl _ _).alloc (by omega) _
    have ho2:=ho.alloc (.cells #[.int .i64 z0,.int .i64 z1] 134)
    go_wp2_with (at_builtin;refine wpList_append_own _ rfl _ _ 29 rfl w.heap.size 134 i0 (.agg #[.int .i64 0,.int .i64 0]) 2 16 Tryz.underlying29 hi hz0 hz1 hz2 rfl (by decide) _ F.length (itemCells F) rfl ho2 ⟨wr.heap.size,0,none⟩ 1 1 [.int .i64 z0,.int .i64 z1] rfl rfl ?c1 ?c2 ?c3 ?c4 ?c5 ?_)
    all_goals try (case c1=>intro j u hj;match j,hj with | 0,hj=>simp at hj;subst hj;simp [Addr.add] | 1,hj=>simp at hj;subst hj;simp [Addr.add])
    all_goals try (case c2=>first | rfl | (intro u hu;simp at hu;rcases hu with rfl | rfl <;> rfl))
    all_goals try (case c3=>unfold maxLen;omega)
    all_goals try (case c4=>omega)
    all_goals try (case c5=>first | omega | (simp;omega))
    intro v' w3 hown hgrow _
    obtain ⟨a2,c2,rfl⟩:=own_shape hown
    have hW3:Below w.heap.size wr w3:=hW2.grown hgrow (by simp;omega) (fun j hj=>(ho.lt j hj).1)
    replace hb:=hb.trans hW3
    have hszn:=Nat.le_trans hsz hW3.size
    replace hsz:=hszn
    replace ho:=hown
    clear hW2 hgrow ho2 hown hW3 hszn d0 d1
    have R:Hid (_∧_):=⟨ho,hb⟩
    clear ho hb
    go_wp2
    go_roundw
    case rel=>
     refine ⟨k + 1,by omega,by go_num,?_,R.out.2⟩
     rw [HS.out,itemCells_snoc']
     simpa using R.out.1
    case measure=>simp [intOf];omega
   ·have HS:Hid (delI (xs.take (k + 1)) q=F):=by
     show _=_
     rw [hs,he]
     simp
    have hne:((xs.getD k itemNo).key != q)=false:=by unfold bne;rw [he];rfl
    clear hs
    have d0:=(hb.cell (p:=⟨b,off + k * 2,none⟩) hbs).trans hc0
    generalize (xs.getD k itemNo).key=z0 at d0 he hne
    have R:Hid (_∧_):=⟨ho,hb⟩
    clear ho hb hc0 hc1
    go_wp2
    go_roundw
    case rel=>exact ⟨k + 1,by omega,by go_num,by rw [HS.out];exact R.out.1,R.out.2⟩
    case measure=>simp [intOf];omega
  ·have hkl:k=xs.length:=by omega
   subst hkl
   rw [List.take_length] at ho
   go_wp2
   go_ret
   simp only [List.take_length]
   exact ⟨_,_,rfl,ho,hb⟩

theorem setR_step (x y:ItemD) (r:List ItemD) (d:Bool):setR x d (y :: r)=(if !d && decide (x.key≤y.key) then [x] else []) ++ ((if y.key == x.key then [] else [y]) ++ setR x (d || decide (x.key≤y.key)) r):=rfl

set_option maxRecDepth 100000 in
set_option maxHeartbeats 4000000 in
theorem l3Set_any (a:Option Addr) (cap:Nat) (xs:List ItemD) (x0 x1:Int) (w:World) (h:ItemRow w a xs) (hl:xs.length≤100) :
  Calls Tryz.prog 192 #[.slice a xs.length cap,.agg #[.int .i64 x0,.int .i64 x1]] w fun e w' => ∃ b c,e=.returned (.slice b (setR ⟨x0,x1⟩ false xs).length c) ∧
   w'.ownsRow w.heap.size 134 2 (.slice b (setR ⟨x0,x1⟩ false xs).length c) (setR ⟨x0,x1⟩ false xs).length (itemCells (setR ⟨x0,x1⟩ false xs))∧Below w.heap.size w w' := by
 obtain ⟨i0,hi,hz0,hz1,hz2⟩:=info_parts infoItem
 have hb0:Below w.heap.size w (w.alloc (.cells #[.int .i64 x0,.int .i64 x1] 134)):=by go_grown
 have hx0:(w.alloc (.cells #[.int .i64 x0,.int .i64 x1] 134)).cell? ⟨w.heap.size,0,none⟩=some (.int .i64 x0):=by simp
 have hx1:(w.alloc (.cells #[.int .i64 x0,.int .i64 x1] 134)).cell? ⟨w.heap.size,1,none⟩=some (.int .i64 x1):=by simp
 have hxl:w.heap.size < w.heap.size + 1:=Nat.lt_succ_self _
 have hbE:Below (w.heap.size + 1) (w.alloc (.cells #[.int .i64 x0,.int .i64 x1] 134)) ((w.alloc (.cells #[.int .i64 x0,.int .i64 x1] 134)).alloc (.cells #[] 134)):=(Below.refl _ _).alloc (by simp) _
 have hoE:((w.alloc (.cells #[.int .i64 x0,.int .i64 x1] 134)).alloc (.cells #[] 134)).ownsRow (w.heap.size + 1) 134 2 (.slice (some ⟨w.heap.size + 1,0,none⟩) 0 0) 0 []:=by
  have:=World.ownsRow_lit (size:=2) (e:=134) (w.alloc (.cells #[.int .i64 x0,.int .i64 x1] 134)) #[] 0 (Nat.le_refl _) (by decide) rfl
  rw [World.size_alloc] at this
  exact this
 have hsE:w.heap.size + 1≤((w.alloc (.cells #[.int .i64 x0,.int .i64 x1] 134)).alloc (.cells #[] 134)).heap.size:=by simp
 go_enter Tryz.func192,Tryz.ntmps192
 go_wp2
 generalize (w.alloc (.cells #[.int .i64 x0,.int .i64 x1] 134)).alloc (.cells #[] 134)=WE at hbE hoE hsE
 generalize w.alloc (.cells #[.int .i64 x0,.int .i64 x1] 134)=W0 at hb0 hx0 hx1 hbE
 have hold:∀ b,b < w.heap.size→b < w.heap.size + 1:=fun b hb=>by omega
 have hsW0:=hb0.size
 go_loopw [5,6,7] (fun v dv j wr=>∃ (k:Nat) (d:Bool) (L:List ItemD),k≤xs.length∧j=.int .i64 k∧dv=.bool d∧L.length≤2 * k∧wr.ownsRow (w.heap.size + 1) 134 2 v L.length (itemCells L)∧Below (w.heap.size + 1) W0 wr∧w.heap.size + 1≤wr.heap.size∧Hid (L ++ setR ⟨x0,x1⟩ d (xs.drop k)=setR ⟨x0,x1⟩ false xs)) (fun _ _ j _=>xs.length - (intOf j).toNat)
 case atStart=>exact ⟨0,false,[],Nat.zero_le _,rfl,rfl,by simp,hoE,hbE,hsE,by show _=_;simp⟩
 case round=>
  clear hoE hbE hsE
  obtain ⟨k,d,L,hk,rfl,rfl,hLl,ho,hb,hsz,HI⟩:=hrel
  obtain ⟨a1,c1,rfl⟩:=own_shape ho
  by_cases hlt:k < xs.length
  ·obtain ⟨b,off,rfl,hbs0,hc0,hc1⟩:=h.at k hlt
   replace hc0:W0.cell? _=_:=(hb0.cell (p:=⟨b,off + k * 2,none⟩) hbs0).trans hc0
   replace hc1:W0.cell? _=_:=(hb0.cell (p:=⟨b,off + k * 2 + 1,none⟩) hbs0).trans hc1
   have hbs:=hold b hbs0
   have hst:=HI.out
   rw [drop_item hlt,setR_step] at hst
   generalize xs.getD k itemNo=z at hc0 hc1 hst
   obtain ⟨z0,z1⟩:=z
   dsimp only at hc0 hc1 hst
   clear HI
   cases hE:(z0 == x0)
   ·have hne:(z0 != x0)=true:=by simp [bne,hE]
    cases d
    ·by_cases hle:x0≤z0
     ·have hG:decide (x0≤z0)=true:=by simp [hle]
      have HS:Hid ((L ++ [⟨x0,x1⟩] ++ [⟨z0,z1⟩]) ++ setR ⟨x0,x1⟩ true (xs.drop (k + 1))=setR ⟨x0,x1⟩ false xs):=by
       show _=_
       rw [← hst]
       simp only [Bool.not_true,Bool.not_false,Bool.false_and,Bool.true_and,Bool.true_or,Bool.false_or,hE,hG,if_true,if_false,Bool.false_eq_true,List.nil_append,List.append_assoc,List.cons_append]
      clear hst
      have d0:=lat_cell ((hb.cell (p:=⟨b,off + k * 2,none⟩) hbs).trans hc0)
      have d1:=lat_cell ((hb.cell (p:=⟨w.heap.size,0,none⟩) hxl).trans hx0)
      have hW:Below wr.heap.size wr wr.drew:=(Below.refl _ _).drew
      have hne:Nonempty (Lat wr):=⟨⟨wr,Below.refl _ _⟩⟩
      go_wp2_with fail
      refine text_begin (S:=fun w' => ∃ u:Lat wr,w' = u.val) (by kernel_rfl) ?_
      refine seg_range [(0,12)] 0 (by kernel_rfl) (by kernel_rfl) (by kernel_rfl) (by kernel_rfl) (by kernel_rfl) ⟨⟨_,hW⟩,rfl⟩ ?_
      simp only [pickR,List.toList_toArray,List.flatMap_cons,List.flatMap_nil,List.drop_succ_cons,List.drop_zero,List.take_succ_cons,List.take_zero,List.cons_append,List.nil_append,List.append_nil]
      repeat go_big_quiet_step (fail)
      refine wpQuiet_nil ?_
      refine text_end (by kernel_rfl) ?_
      replace ho:=own_below ho hW
      replace hb:=hb.trans (hW.mono hsz)
      have hszn:=Nat.le_trans hsz hW.size
      replace hsz:=hszn
      clear hW hne hszn d0 d1
      generalize wr.drew=u1 at ho hb hsz
      have d0:=(hb.cell (p:=⟨w.heap.size,0,none⟩) hxl).trans hx0
      have d1:=(hb.cell (p:=⟨w.heap.size,1,none⟩) hxl).trans hx1
      have hW2:Below (w.heap.size + 1) u1 (u1.alloc (.cells #[.int .i64 x0,.int .i64 x1] 134)):=(Below.refl _ _).alloc (by omega) _
      have ho2:=ho.alloc (.cells #[.int .i64 x0,.int .i64 x1] 134)
      go_wp2_with (at_builtin;refine wpList_append_own _ rfl _ _ 29 rfl (w.heap.size + 1) 134 i0 (.agg #[.int .i64 0,.int .i64 0]) 2 16 Tryz.underlying29 hi hz0 hz1 hz2 rfl (by decide) _ L.length (itemCells L) rfl ho2 ⟨u1.heap.size,0,none⟩ 1 1 [.int .i64 x0,.int .i64 x1] rfl rfl ?c1 ?c2 ?c3 ?c4 ?c5 ?_)
      all_goals try (case c1=>intro j u hj;match j,hj with | 0,hj=>simp at hj;subst hj;simp [Addr.add] | 1,hj=>simp at hj;subst hj;simp [Addr.add])
      all_goals try (case c2=>first | rfl | (intro u hu;simp at hu;rcases hu with rfl | rfl <;> rfl))
      all_goals try (case c3=>unfold maxLen;omega)
      all_goals try (case c4=>omega)
      all_goals try (case c5=>first | omega | (simp;omega))
      intro v' u2 hown hgrow _
      obtain ⟨a2,c2,rfl⟩:=own_shape hown
      have hW3:Below (w.heap.size + 1) u1 u2:=hW2.grown hgrow (by simp;omega) (fun j hj=>(ho.lt j hj).1)
      replace hb:=hb.trans hW3
      have hszn:=Nat.le_trans hsz hW3.size
      replace hsz:=hszn
      replace ho:=hown
      clear hW2 hgrow ho2 hown hW3 hszn d0 d1
      replace ho:u2.ownsRow (w.heap.size + 1) 134 2 (.slice a2 (L.length + 1) c2) (L.length + 1) (itemCells (L ++ [⟨x0,x1⟩])):=by rw [itemCells_snoc'];simpa using ho
      generalize hL2:L ++ [(⟨x0,x1⟩:ItemD)]=L2 at ho HS
      have HL2:Hid (L2.length=L.length + 1):=by
       show _=_
       rw [← hL2]
       simp
      clear hL2
      have d0:=lat_cell ((hb.cell (p:=⟨b,off + k * 2,none⟩) hbs).trans hc0)
      have d1:=lat_cell ((hb.cell (p:=⟨w.heap.size,0,none⟩) hxl).trans hx0)
      have hW:Below u2.heap.size u2 u2.drew:=(Below.refl _ _).drew
      have hne:Nonempty (Lat u2):=⟨⟨u2,Below.refl _ _⟩⟩
      go_wp2_with fail
      refine text_begin (S:=fun w' => ∃ u:Lat u2,w' = u.val) (by kernel_rfl) ?_
      refine seg_range [(0,8)] 0 (by kernel_rfl) (by kernel_rfl) (by kernel_rfl) (by kernel_rfl) (by kernel_rfl) ⟨⟨_,hW⟩,rfl⟩ ?_
      simp only [pickR,List.toList_toArray,List.flatMap_cons,List.flatMap_nil,List.drop_succ_cons,List.drop_zero,List.take_succ_cons,List.take_zero,List.cons_append,List.nil_append,List.append_nil]
      repeat go_big_quiet_step (fail)
      refine wpQuiet_nil ?_
      refine text_end (by kernel_rfl) ?_
      replace ho:=own_below ho hW
      replace hb:=hb.trans (hW.mono hsz)
      have hszn:=Nat.le_trans hsz hW.size
      replace hsz:=hszn
      clear hW hne hszn d0 d1
      generalize u2.drew=u3 at ho hb hsz
      have d0:=(hb.cell (p:=⟨b,off + k * 2,none⟩) hbs).trans hc0
      have d1:=(hb.cell (p:=⟨b,off + k * 2 + 1,none⟩) hbs).trans hc1
      have hW2:Below (w.heap.size + 1) u3 (u3.alloc (.cells #[.int .i64 z0,.int .i64 z1] 134)):=(Below.refl _ _).alloc (by omega) _
      have ho2:=ho.alloc (.cells #[.int .i64 z0,.int .i64 z1] 134)
      go_wp2_with (at_builtin;refine wpList_append_own _ rfl _ _ 29 rfl (w.heap.size + 1) 134 i0 (.agg #[.int .i64 0,.int .i64 0]) 2 16 Tryz.underlying29 hi hz0 hz1 hz2 rfl (by decide) _ (L.length + 1) (itemCells L2) rfl ho2 ⟨u3.heap.size,0,none⟩ 1 1 [.int .i64 z0,.int .i64 z1] rfl rfl ?c1 ?c2 ?c3 ?c4 ?c5 ?_)
      all_goals try (case c1=>intro j u hj;match j,hj with | 0,hj=>simp at hj;subst hj;simp [Addr.add] | 1,hj=>simp at hj;subst hj;simp [Addr.add])
      all_goals try (case c2=>first | rfl | (intro u hu;simp at hu;rcases hu with rfl | rfl <;> rfl))
      all_goals try (case c3=>unfold maxLen;omega)
      all_goals try (case c4=>omega)
      all_goals try (case c5=>first | omega | (simp;omega))
      intro v' u4 hown hgrow _
      obtain ⟨a4,c4,rfl⟩:=own_shape hown
      have hW3:Below (w.heap.size + 1) u3 u4:=hW2.grown hgrow (by simp;omega) (fun j hj=>(ho.lt j hj).1)
      replace hb:=hb.trans hW3
      have hszn:=Nat.le_trans hsz hW3.size
      replace hsz:=hszn
      replace ho:=hown
      clear hW2 hgrow ho2 hown hW3 hszn d0 d1
      have R:Hid (_∧_∧_):=⟨ho,hb,hsz⟩
      clear ho hb hsz
      go_wp2
      go_roundw
      case rel=>
       refine ⟨k + 1,true,L2 ++ [⟨z0,z1⟩],by omega,by go_num,rfl,by have:=HL2.out;first | (simp;omega) | omega,?_,R.out.2.1,R.out.2.2,HS⟩
       have:=R.out.1
       rw [itemCells_snoc']
       simpa [HL2.out] using this
      case measure=>simp [intOf];omega
     ·have hG:decide (x0≤z0)=false:=by simp [hle]
      have HS:Hid ((L ++ [⟨z0,z1⟩]) ++ setR ⟨x0,x1⟩ false (xs.drop (k + 1))=setR ⟨x0,x1⟩ false xs):=by
       show _=_
       rw [← hst]
       simp only [Bool.not_true,Bool.not_false,Bool.false_and,Bool.true_and,Bool.true_or,Bool.false_or,hE,hG,if_true,if_false,Bool.false_eq_true,List.nil_append,List.append_assoc,List.cons_append]
      clear hst
      have d0:=lat_cell ((hb.cell (p:=⟨b,off + k * 2,none⟩) hbs).trans hc0)
      have d1:=lat_cell ((hb.cell (p:=⟨w.heap.size,0,none⟩) hxl).trans hx0)
      have hW:Below wr.heap.size wr wr.drew:=(Below.refl _ _).drew
      have hne:Nonempty (Lat wr):=⟨⟨wr,Below.refl _ _⟩⟩
      go_wp2_with fail
      refine text_begin (S:=fun w' => ∃ u:Lat wr,w' = u.val) (by kernel_rfl) ?_
      refine seg_range [(0,12)] 0 (by kernel_rfl) (by kernel_rfl) (by kernel_rfl) (by kernel_rfl) (by kernel_rfl) ⟨⟨_,hW⟩,rfl⟩ ?_
      simp only [pickR,List.toList_toArray,List.flatMap_cons,List.flatMap_nil,List.drop_succ_cons,List.drop_zero,List.take_succ_cons,List.take_zero,List.cons_append,List.nil_append,List.append_nil]
      repeat go_big_quiet_step (fail)
      refine wpQuiet_nil ?_
      refine text_end (by kernel_rfl) ?_
      replace ho:=own_below ho hW
      replace hb:=hb.trans (hW.mono hsz)
      have hszn:=Nat.le_trans hsz hW.size
      replace hsz:=hszn
      clear hW hne hszn d0 d1
      generalize wr.drew=u1 at ho hb hsz
      have d0:=lat_cell ((hb.cell (p:=⟨b,off + k * 2,none⟩) hbs).trans hc0)
      have d1:=lat_cell ((hb.cell (p:=⟨w.heap.size,0,none⟩) hxl).trans hx0)
      have hW:Below u1.heap.size u1 u1.drew:=(Below.refl _ _).drew
      have hne:Nonempty (Lat u1):=⟨⟨u1,Below.refl _ _⟩⟩
      go_wp2_with fail
      refine text_begin (S:=fun w' => ∃ u:Lat u1,w' = u.val) (by kernel_rfl) ?_
      refine seg_range [(0,8)] 0 (by kernel_rfl) (by kernel_rfl) (by kernel_rfl) (by kernel_rfl) (by kernel_rfl) ⟨⟨_,hW⟩,rfl⟩ ?_
      simp only [pickR,List.toList_toArray,List.flatMap_cons,List.flatMap_nil,List.drop_succ_cons,List.drop_zero,List.take_succ_cons,List.take_zero,List.cons_append,List.nil_append,List.append_nil]
      repeat go_big_quiet_step (fail)
      refine wpQuiet_nil ?_
      refine text_end (by kernel_rfl) ?_
      replace ho:=own_below ho hW
      replace hb:=hb.trans (hW.mono hsz)
      have hszn:=Nat.le_trans hsz hW.size
      replace hsz:=hszn
      clear hW hne hszn d0 d1
      generalize u1.drew=u3 at ho hb hsz
      have d0:=(hb.cell (p:=⟨b,off + k * 2,none⟩) hbs).trans hc0
      have d1:=(hb.cell (p:=⟨b,off + k * 2 + 1,none⟩) hbs).trans hc1
      have hW2:Below (w.heap.size + 1) u3 (u3.alloc (.cells #[.int .i64 z0,.int .i64 z1] 134)):=(Below.refl _ _).alloc (by omega) _
      have ho2:=ho.alloc (.cells #[.int .i64 z0,.int .i64 z1] 134)
      go_wp2_with (at_builtin;refine wpList_append_own _ rfl _ _ 29 rfl (w.heap.size + 1) 134 i0 (.agg #[.int .i64 0,.int .i64 0]) 2 16 Tryz.underlying29 hi hz0 hz1 hz2 rfl (by decide) _ L.length (itemCells L) rfl ho2 ⟨u3.heap.size,0,none⟩ 1 1 [.int .i64 z0,.int .i64 z1] rfl rfl ?c1 ?c2 ?c3 ?c4 ?c5 ?_)
      all_goals try (case c1=>intro j u hj;match j,hj with | 0,hj=>simp at hj;subst hj;simp [Addr.add] | 1,hj=>simp at hj;subst hj;simp [Addr.add])
      all_goals try (case c2=>first | rfl | (intro u hu;simp at hu;rcases hu with rfl | rfl <;> rfl))
      all_goals try (case c3=>unfold maxLen;omega)
      all_goals try (case c4=>omega)
      all_goals try (case c5=>first | omega | (simp;omega))
      intro v' u4 hown hgrow _
      obtain ⟨a4,c4,rfl⟩:=own_shape hown
      have hW3:Below (w.heap.size + 1) u3 u4:=hW2.grown hgrow (by simp;omega) (fun j hj=>(ho.lt j hj).1)
      replace hb:=hb.trans hW3
      have hszn:=Nat.le_trans hsz hW3.size
      replace hsz:=hszn
      replace ho:=hown
      clear hW2 hgrow ho2 hown hW3 hszn d0 d1
      have R:Hid (_∧_∧_):=⟨ho,hb,hsz⟩
      clear ho hb hsz
      go_wp2
      go_roundw
      case rel=>
       refine ⟨k + 1,false,L ++ [⟨z0,z1⟩],by omega,by go_num,rfl,by first | (simp;omega) | omega,?_,R.out.2.1,R.out.2.2,HS⟩
       have:=R.out.1
       rw [itemCells_snoc']
       simpa using this
      case measure=>simp [intOf];omega
    ·have HS:Hid ((L ++ [⟨z0,z1⟩]) ++ setR ⟨x0,x1⟩ true (xs.drop (k + 1))=setR ⟨x0,x1⟩ false xs):=by
      show _=_
      rw [← hst]
      simp only [Bool.not_true,Bool.not_false,Bool.false_and,Bool.true_and,Bool.true_or,Bool.false_or,hE,if_true,if_false,Bool.false_eq_true,List.nil_append,List.append_assoc,List.cons_append]
     clear hst
     have hW:Below wr.heap.size wr wr.drew:=(Below.refl _ _).drew
     have hne:Nonempty (Lat wr):=⟨⟨wr,Below.refl _ _⟩⟩
     go_wp2_with fail
     refine text_begin (S:=fun w' => ∃ u:Lat wr,w' = u.val) (by kernel_rfl) ?_
     refine seg_range [(0,12)] 0 (by kernel_rfl) (by kernel_rfl) (by kernel_rfl) (by kernel_rfl) (by kernel_rfl) ⟨⟨_,hW⟩,rfl⟩ ?_
     simp only [pickR,List.toList_toArray,List.flatMap_cons,List.flatMap_nil,List.drop_succ_cons,List.drop_zero,List.take_succ_cons,List.take_zero,List.cons_append,List.nil_append,List.append_nil]
     repeat go_big_quiet_step (fail)
     refine wpQuiet_nil ?_
     refine text_end (by kernel_rfl) ?_
     replace ho:=own_below ho hW
     replace hb:=hb.trans (hW.mono hsz)
     have hszn:=Nat.le_trans hsz hW.size
     replace hsz:=hszn
     clear hW hne hszn 
     generalize wr.drew=u1 at ho hb hsz
     have d0:=lat_cell ((hb.cell (p:=⟨b,off + k * 2,none⟩) hbs).trans hc0)
     have d1:=lat_cell ((hb.cell (p:=⟨w.heap.size,0,none⟩) hxl).trans hx0)
     have hW:Below u1.heap.size u1 u1.drew:=(Below.refl _ _).drew
     have hne:Nonempty (Lat u1):=⟨⟨u1,Below.refl _ _⟩⟩
     go_wp2_with fail
     refine text_begin (S:=fun w' => ∃ u:Lat u1,w' = u.val) (by kernel_rfl) ?_
     refine seg_range [(0,8)] 0 (by kernel_rfl) (by kernel_rfl) (by kernel_rfl) (by kernel_rfl) (by kernel_rfl) ⟨⟨_,hW⟩,rfl⟩ ?_
     simp only [pickR,List.toList_toArray,List.flatMap_cons,List.flatMap_nil,List.drop_succ_cons,List.drop_zero,List.take_succ_cons,List.take_zero,List.cons_append,List.nil_append,List.append_nil]
     repeat go_big_quiet_step (fail)
     refine wpQuiet_nil ?_
     refine text_end (by kernel_rfl) ?_
     replace ho:=own_below ho hW
     replace hb:=hb.trans (hW.mono hsz)
     have hszn:=Nat.le_trans hsz hW.size
     replace hsz:=hszn
     clear hW hne hszn d0 d1
     generalize u1.drew=u3 at ho hb hsz
     have d0:=(hb.cell (p:=⟨b,off + k * 2,none⟩) hbs).trans hc0
     have d1:=(hb.cell (p:=⟨b,off + k * 2 + 1,none⟩) hbs).trans hc1
     have hW2:Below (w.heap.size + 1) u3 (u3.alloc (.cells #[.int .i64 z0,.int .i64 z1] 134)):=(Below.refl _ _).alloc (by omega) _
     have ho2:=ho.alloc (.cells #[.int .i64 z0,.int .i64 z1] 134)
     go_wp2_with (at_builtin;refine wpList_append_own _ rfl _ _ 29 rfl (w.heap.size + 1) 134 i0 (.agg #[.int .i64 0,.int .i64 0]) 2 16 Tryz.underlying29 hi hz0 hz1 hz2 rfl (by decide) _ L.length (itemCells L) rfl ho2 ⟨u3.heap.size,0,none⟩ 1 1 [.int .i64 z0,.int .i64 z1] rfl rfl ?c1 ?c2 ?c3 ?c4 ?c5 ?_)
     all_goals try (case c1=>intro j u hj;match j,hj with | 0,hj=>simp at hj;subst hj;simp [Addr.add] | 1,hj=>simp at hj;subst hj;simp [Addr.add])
     all_goals try (case c2=>first | rfl | (intro u hu;simp at hu;rcases hu with rfl | rfl <;> rfl))
     all_goals try (case c3=>unfold maxLen;omega)
     all_goals try (case c4=>omega)
     all_goals try (case c5=>first | omega | (simp;omega))
     intro v' u4 hown hgrow _
     obtain ⟨a4,c4,rfl⟩:=own_shape hown
     have hW3:Below (w.heap.size + 1) u3 u4:=hW2.grown hgrow (by simp;omega) (fun j hj=>(ho.lt j hj).1)
     replace hb:=hb.trans hW3
     have hszn:=Nat.le_trans hsz hW3.size
     replace hsz:=hszn
     replace ho:=hown
     clear hW2 hgrow ho2 hown hW3 hszn d0 d1
     have R:Hid (_∧_∧_):=⟨ho,hb,hsz⟩
     clear ho hb hsz
     go_wp2
     go_roundw
     case rel=>
      refine ⟨k + 1,true,L ++ [⟨z0,z1⟩],by omega,by go_num,rfl,by first | (simp;omega) | omega,?_,R.out.2.1,R.out.2.2,HS⟩
      have:=R.out.1
      rw [itemCells_snoc']
      simpa using this
     case measure=>simp [intOf];omega
   ·have hne:(z0 != x0)=false:=by simp [bne,hE]
    cases d
    ·have hle:x0≤z0:=by simp at hE;omega
     have hG:decide (x0≤z0)=true:=by simp [hle]
     have HS:Hid ((L ++ [⟨x0,x1⟩]) ++ setR ⟨x0,x1⟩ true (xs.drop (k + 1))=setR ⟨x0,x1⟩ false xs):=by
      show _=_
      rw [← hst]
      simp only [Bool.not_true,Bool.not_false,Bool.false_and,Bool.true_and,Bool.true_or,Bool.false_or,hE,hG,if_true,if_false,Bool.false_eq_true,List.nil_append,List.append_assoc,List.cons_append]
     clear hst
     have d0:=lat_cell ((hb.cell (p:=⟨b,off + k * 2,none⟩) hbs).trans hc0)
     have d1:=lat_cell ((hb.cell (p:=⟨w.heap.size,0,none⟩) hxl).trans hx0)
     have hW:Below wr.heap.size wr wr.drew:=(Below.refl _ _).drew
     have hne:Nonempty (Lat wr):=⟨⟨wr,Below.refl _ _⟩⟩
     go_wp2_with fail
     refine text_begin (S:=fun w' => ∃ u:Lat wr,w' = u.val) (by kernel_rfl) ?_
     refine seg_range [(0,12)] 0 (by kernel_rfl) (by kernel_rfl) (by kernel_rfl) (by kernel_rfl) (by kernel_rfl) ⟨⟨_,hW⟩,rfl⟩ ?_
     simp only [pickR,List.toList_toArray,List.flatMap_cons,List.flatMap_nil,List.drop_succ_cons,List.drop_zero,List.take_succ_cons,List.take_zero,List.cons_append,List.nil_append,List.append_nil]
     repeat go_big_quiet_step (fail)
     refine wpQuiet_nil ?_
     refine text_end (by kernel_rfl) ?_
     replace ho:=own_below ho hW
     replace hb:=hb.trans (hW.mono hsz)
     have hszn:=Nat.le_trans hsz hW.size
     replace hsz:=hszn
     clear hW hne hszn d0 d1
     generalize wr.drew=u1 at ho hb hsz
     have d0:=(hb.cell (p:=⟨w.heap.size,0,none⟩) hxl).trans hx0
     have d1:=(hb.cell (p:=⟨w.heap.size,1,none⟩) hxl).trans hx1
     have hW2:Below (w.heap.size + 1) u1 (u1.alloc (.cells #[.int .i64 x0,.int .i64 x1] 134)):=(Below.refl _ _).alloc (by omega) _
     have ho2:=ho.alloc (.cells #[.int .i64 x0,.int .i64 x1] 134)
     go_wp2_with (at_builtin;refine wpList_append_own _ rfl _ _ 29 rfl (w.heap.size + 1) 134 i0 (.agg #[.int .i64 0,.int .i64 0]) 2 16 Tryz.underlying29 hi hz0 hz1 hz2 rfl (by decide) _ L.length (itemCells L) rfl ho2 ⟨u1.heap.size,0,none⟩ 1 1 [.int .i64 x0,.int .i64 x1] rfl rfl ?c1 ?c2 ?c3 ?c4 ?c5 ?_)
     all_goals try (case c1=>intro j u hj;match j,hj with | 0,hj=>simp at hj;subst hj;simp [Addr.add] | 1,hj=>simp at hj;subst hj;simp [Addr.add])
     all_goals try (case c2=>first | rfl | (intro u hu;simp at hu;rcases hu with rfl | rfl <;> rfl))
     all_goals try (case c3=>unfold maxLen;omega)
     all_goals try (case c4=>omega)
     all_goals try (case c5=>first | omega | (simp;omega))
     intro v' u2 hown hgrow _
     obtain ⟨a2,c2,rfl⟩:=own_shape hown
     have hW3:Below (w.heap.size + 1) u1 u2:=hW2.grown hgrow (by simp;omega) (fun j hj=>(ho.lt j hj).1)
     replace hb:=hb.trans hW3
     have hszn:=Nat.le_trans hsz hW3.size
     replace hsz:=hszn
     replace ho:=hown
     clear hW2 hgrow ho2 hown hW3 hszn d0 d1
     replace ho:u2.ownsRow (w.heap.size + 1) 134 2 (.slice a2 (L.length + 1) c2) (L.length + 1) (itemCells (L ++ [⟨x0,x1⟩])):=by rw [itemCells_snoc'];simpa using ho
     generalize hL2:L ++ [(⟨x0,x1⟩:ItemD)]=L2 at ho HS
     have HL2:Hid (L2.length=L.length + 1):=by
      show _=_
      rw [← hL2]
      simp
     clear hL2
     have d0:=lat_cell ((hb.cell (p:=⟨b,off + k * 2,none⟩) hbs).trans hc0)
     have d1:=lat_cell ((hb.cell (p:=⟨w.heap.size,0,none⟩) hxl).trans hx0)
     have hW:Below u2.heap.size u2 u2.drew:=(Below.refl _ _).drew
     have hne:Nonempty (Lat u2):=⟨⟨u2,Below.refl _ _⟩⟩
     go_wp2_with fail
     refine text_begin (S:=fun w' => ∃ u:Lat u2,w' = u.val) (by kernel_rfl) ?_
     refine seg_range [(0,8)] 0 (by kernel_rfl) (by kernel_rfl) (by kernel_rfl) (by kernel_rfl) (by kernel_rfl) ⟨⟨_,hW⟩,rfl⟩ ?_
     simp only [pickR,List.toList_toArray,List.flatMap_cons,List.flatMap_nil,List.drop_succ_cons,List.drop_zero,List.take_succ_cons,List.take_zero,List.cons_append,List.nil_append,List.append_nil]
     repeat go_big_quiet_step (fail)
     refine wpQuiet_nil ?_
     refine text_end (by kernel_rfl) ?_
     replace ho:=own_below ho hW
     replace hb:=hb.trans (hW.mono hsz)
     have hszn:=Nat.le_trans hsz hW.size
     replace hsz:=hszn
     clear hW hne hszn d0 d1
     generalize u2.drew=u3 at ho hb hsz
     have R:Hid (_∧_∧_):=⟨ho,hb,hsz⟩
     clear ho hb hsz
     go_wp2
     go_roundw
     case rel=>
      refine ⟨k + 1,true,L2,by omega,by go_num,rfl,by have:=HL2.out;first | (simp;omega) | omega,?_,R.out.2.1,R.out.2.2,HS⟩
      have:=R.out.1
      skip
      simpa [HL2.out] using this
     case measure=>simp [intOf];omega
    ·have HS:Hid ((L) ++ setR ⟨x0,x1⟩ true (xs.drop (k + 1))=setR ⟨x0,x1⟩ false xs):=by
      show _=_
      rw [← hst]
      simp only [Bool.not_true,Bool.not_false,Bool.false_and,Bool.true_and,Bool.true_or,Bool.false_or,hE,if_true,if_false,Bool.false_eq_true,List.nil_append,List.append_assoc,List.cons_append]
     clear hst
     have hW:Below wr.heap.size wr wr.drew:=(Below.refl _ _).drew
     have hne:Nonempty (Lat wr):=⟨⟨wr,Below.refl _ _⟩⟩
     go_wp2_with fail
     refine text_begin (S:=fun w' => ∃ u:Lat wr,w' = u.val) (by kernel_rfl) ?_
     refine seg_range [(0,12)] 0 (by kernel_rfl) (by kernel_rfl) (by kernel_rfl) (by kernel_rfl) (by kernel_rfl) ⟨⟨_,hW⟩,rfl⟩ ?_
     simp only [pickR,List.toList_toArray,List.flatMap_cons,List.flatMap_nil,List.drop_succ_cons,List.drop_zero,List.take_succ_cons,List.take_zero,List.cons_append,List.nil_append,List.append_nil]
     repeat go_big_quiet_step (fail)
     refine wpQuiet_nil ?_
     refine text_end (by kernel_rfl) ?_
     replace ho:=own_below ho hW
     replace hb:=hb.trans (hW.mono hsz)
     have hszn:=Nat.le_trans hsz hW.size
     replace hsz:=hszn
     clear hW hne hszn 
     generalize wr.drew=u1 at ho hb hsz
     have d0:=lat_cell ((hb.cell (p:=⟨b,off + k * 2,none⟩) hbs).trans hc0)
     have d1:=lat_cell ((hb.cell (p:=⟨w.heap.size,0,none⟩) hxl).trans hx0)
     have hW:Below u1.heap.size u1 u1.drew:=(Below.refl _ _).drew
     have hne:Nonempty (Lat u1):=⟨⟨u1,Below.refl _ _⟩⟩
     go_wp2_with fail
     refine text_begin (S:=fun w' => ∃ u:Lat u1,w' = u.val) (by kernel_rfl) ?_
     refine seg_range [(0,8)] 0 (by kernel_rfl) (by kernel_rfl) (by kernel_rfl) (by kernel_rfl) (by kernel_rfl) ⟨⟨_,hW⟩,rfl⟩ ?_
     simp only [pickR,List.toList_toArray,List.flatMap_cons,List.flatMap_nil,List.drop_succ_cons,List.drop_zero,List.take_succ_cons,List.take_zero,List.cons_append,List.nil_append,List.append_nil]
     repeat go_big_quiet_step (fail)
     refine wpQuiet_nil ?_
     refine text_end (by kernel_rfl) ?_
     replace ho:=own_below ho hW
     replace hb:=hb.trans (hW.mono hsz)
     have hszn:=Nat.le_trans hsz hW.size
     replace hsz:=hszn
     clear hW hne hszn d0 d1
     generalize u1.drew=u3 at ho hb hsz
     have R:Hid (_∧_∧_):=⟨ho,hb,hsz⟩
     clear ho hb hsz
     go_wp2
     go_roundw
     case rel=>
      refine ⟨k + 1,true,L,by omega,by go_num,rfl,by first | (simp;omega) | omega,?_,R.out.2.1,R.out.2.2,HS⟩
      have:=R.out.1
      skip
      simpa using this
     case measure=>simp [intOf];omega
  ·have hkl:k=xs.length:=by omega
   subst hkl
   have HT:Hid (L ++ setR ⟨x0,x1⟩ d []=setR ⟨x0,x1⟩ false xs):=by
    have:=HI.out
    rw [List.drop_length] at this
    exact this
   clear HI
   cases d
   ·have HT2:Hid (setR ⟨x0,x1⟩ false xs=L ++ [⟨x0,x1⟩]):=HT.out.symm
    clear HT
    have d0:=(hb.cell (p:=⟨w.heap.size,0,none⟩) hxl).trans hx0
    have d1:=(hb.cell (p:=⟨w.heap.size,1,none⟩) hxl).trans hx1
    have hW2:Below (w.heap.size + 1) wr (wr.alloc (.cells #[.int .i64 x0,.int .i64 x1] 134)):=(Below.refl _ _).alloc (by omega) _
    have ho2:=ho.alloc (.cells #[.int .i64 x0,.int .i64 x1] 134)
    go_wp2_with (at_builtin;refine wpList_append_own _ rfl _ _ 29 rfl (w.heap.size + 1) 134 i0 (.agg #[.int .i64 0,.int .i64 0]) 2 16 Tryz.underlying29 hi hz0 hz1 hz2 rfl (by decide) _ L.length (itemCells L) rfl ho2 ⟨wr.heap.size,0,none⟩ 1 1 [.int .i64 x0,.int .i64 x1] rfl rfl ?c1 ?c2 ?c3 ?c4 ?c5 ?_)
    all_goals try (case c1=>intro j u hj;match j,hj with | 0,hj=>simp at hj;subst hj;simp [Addr.add] | 1,hj=>simp at hj;subst hj;simp [Addr.add])
    all_goals try (case c2=>first | rfl | (intro u hu;simp at hu;rcases hu with rfl | rfl <;> rfl))
    all_goals try (case c3=>unfold maxLen;omega)
    all_goals try (case c4=>omega)
    all_goals try (case c5=>first | omega | (simp;omega))
    intro v' u1 hown hgrow _
    obtain ⟨a2,c2,rfl⟩:=own_shape hown
    have hW3:Below (w.heap.size + 1) wr u1:=hW2.grown hgrow (by simp;omega) (fun j hj=>(ho.lt j hj).1)
    replace hb:=hb.trans hW3
    have hszn:=Nat.le_trans hsz hW3.size
    replace hsz:=hszn
    replace ho:=hown
    clear hW2 hgrow ho2 hown hW3 hszn d0 d1
    go_wp2
    go_ret
    rw [HT2.out]
    refine ⟨a2,c2,by simp,?_,hb0.trans (hb.mono (by omega))⟩
    rw [itemCells_snoc']
    simpa using own_base ho (by omega)
   ·have HT2:Hid (setR ⟨x0,x1⟩ false xs=L):=by
     have:=HT.out
     simp [setR] at this
     exact this.symm
    clear HT
    go_wp2
    go_ret
    rw [HT2.out]
    exact ⟨_,_,rfl,own_base ho (by omega),hb0.trans (hb.mono (by omega))⟩

end Go.Proofs.YtfdkcbafpiojkaaGreatDoor
