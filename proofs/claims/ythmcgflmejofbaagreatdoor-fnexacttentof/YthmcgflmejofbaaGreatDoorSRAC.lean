/- Texts joined, with what the law reaches alone. -/
import Derived.Test.YthmcgflmejofbaaGreatDoorSRAB
import Derived.Test.YthmcgflmejofbaaGreatDoorProg
import Derived.Test.YthmcgflmejofbaaGreatDoorSRAA
set_option linter.unusedVariables false
set_option linter.unusedSimpArgs false
namespace Go.Proofs.YthmcgflmejofbaaGreatDoor
open Go.RowKit
set_option maxRecDepth 100000
/-- The ways through a transaction's first tests. -/
theorem txnF_ways (i s q:Int) (zs:List ActD) :
  (inW i 1 200=false∧txnF i s q zs=3)∨(inW i 1 200=true∧inW s 1 9=false∧txnF i s q zs=3)∨(inW i 1 200=true∧inW s 1 9=true∧inW q 1 99=false∧txnF i s q zs=3) ∨
  (inW i 1 200=true∧inW s 1 9=true∧inW q 1 99=true∧((zs.length < 1∧txnF i s q zs=2)∨(4 < zs.length∧txnF i s q zs=2)∨(¬ zs.length < 1∧¬ 4 < zs.length∧txnF i s q zs=actsF zs))):=by
 unfold txnF
 cases h1:inW i 1 200 <;> cases h2:inW s 1 9 <;> cases h3:inW q 1 99 <;> simp only [Bool.false_eq_true,Bool.true_eq_false,reduceCtorEq,if_true,if_false,false_or,or_false,true_or,or_true,false_and,true_and,and_true,and_false]
 by_cases h4:zs.length < 1 <;> by_cases h5:4 < zs.length <;> simp only [h4,h5,if_true,if_false,or_true,true_or,or_false,false_or,not_true_eq_false,not_false_eq_true,false_and,true_and,and_self]

set_option maxHeartbeats 400000 in
theorem txnFault_any (i s q:Int) (a:Option Addr) (cap:Nat) (zs:List ActD) (w:World) (h:ActRow w a zs) (hl:zs.length≤1048576) :
    Calls Tryz.prog 74 #[.agg #[.int .i64 i,.int .i64 s,.int .i64 q,.slice a zs.length cap]] w fun e w' => e=.returned (.int .i64 (txnF i s q zs))∧Below w.heap.size w w' := by
  rcases txnF_ways i s q zs with ⟨h1,h⟩ | ⟨h1,h2,h⟩ | ⟨h1,h2,h3,h⟩ | ⟨h1,h2,h3,⟨h4,h⟩ | ⟨h4,h⟩ | ⟨h4,h5,hf⟩⟩
  all_goals try
    (rw [h];clear h
     go_enter Tryz.func74,Tryz.ntmps74
     go_wp2_with (go_at_call 136;refine (isWithin_any _ _ _ _).mono ?_;rintro e w' ⟨rfl,rfl⟩)
     go_ret
     exact ⟨rfl,by go_grown⟩)
  rw [hf]
  clear hf
  go_enter Tryz.func74,Tryz.ntmps74
  go_wp2_with (go_at_call 136;refine (isWithin_any _ _ _ _).mono ?_;rintro e w' ⟨rfl,rfl⟩)
  go_loopw [35] (fun j wr=>∃ k:Nat,k≤zs.length∧j=.int .i64 k∧Below w.heap.size w wr∧Hid (∀ j,j < k→actF (zs.getD j actNo)=0)) (fun j _=>zs.length - (intOf j).toNat)
  case atStart=>exact ⟨0,Nat.zero_le _,rfl,by go_grown,fun j hj=>absurd hj (Nat.not_lt_zero _)⟩
  case round=>
    obtain ⟨k,hk,rfl,hb,HA⟩:=hrel
    by_cases hlt:k < zs.length
    · obtain ⟨b,off,rfl,hbs,hc0,hc1,hc2⟩:=(h.below hb).at k hlt
      have hsz:=hb.size
      by_cases hF:actF (zs.getD k actNo)=0
      · have HB:Hid (∀ j,j < k + 1→actF (zs.getD j actNo)=0):=by
          intro j hj
          by_cases hjk:j=k
          · subst hjk;exact hF
          · exact HA.out j (by omega)
        have hcall:=actFault_any (zs.getD k actNo).kind (zs.getD k actNo).key (zs.getD k actNo).val
        rw [show actF ⟨(zs.getD k actNo).kind,(zs.getD k actNo).key,(zs.getD k actNo).val⟩=0 from hF] at hcall
        clear HA hF
        generalize zs.getD k actNo=z at hc0 hc1 hc2 hcall
        go_wp2_with (go_at_call 141;refine (hcall _).mono ?_;rintro e w' ⟨rfl,hb2⟩)
        go_roundw
        case rel=>exact ⟨k + 1,by omega,by go_num,below_from (by go_grown) hb2,HB⟩
        case measure=>simp [intOf];omega
      · have E:Hid (actsF zs=actF (zs.getD k actNo)):=actsF_first zs k HA.out hlt hF
        have hcall:=actFault_any (zs.getD k actNo).kind (zs.getD k actNo).key (zs.getD k actNo).val
        have hne:(actF (zs.getD k actNo) != 0)=true:=by simpa using hF
        change ∀ w,Calls _ _ _ w fun e w' => e=.returned (.int .i64 (actF (zs.getD k actNo)))∧_ at hcall
        clear HA hF
        generalize actF (zs.getD k actNo)=r at hcall E hne
        generalize zs.getD k actNo=z at hc0 hc1 hc2 hcall
        go_wp2_with (go_at_call 141;refine (hcall _).mono ?_;rintro e w' ⟨rfl,hb2⟩)
        go_ret
        rw [E.out]
        exact ⟨rfl,below_from (by go_grown) hb2⟩
    · have hkl:k=zs.length:=by omega
      subst hkl
      have E:Hid (actsF zs=0):=actsF_none zs HA.out
      clear HA
      go_wp2
      go_ret
      rw [E.out]
      exact ⟨rfl,hb⟩

/-- A transaction in a box of four cells. -/
structure Box4 (w:World) (b o:Nat) (x0 x1 x2 x3:Value):Prop where
 c0:w.cell? ⟨b,o,none⟩=some x0
 c1:w.cell? ⟨b,o + 1,none⟩=some x1
 c2:w.cell? ⟨b,o + 2,none⟩=some x2
 c3:w.cell? ⟨b,o + 3,none⟩=some x3

theorem Box4.below {w w' : World} {b o:Nat} {x0 x1 x2 x3:Value} (h:Box4 w b o x0 x1 x2 x3) (hb:Below w.heap.size w w'):Box4 w' b o x0 x1 x2 x3:=by
 have hlt:b < w.heap.size:=World.block_lt_of_cell? w ⟨b,o,none⟩ h.c0
 exact ⟨by rw [hb.cell (p:=⟨b,o,none⟩) hlt];exact h.c0,by rw [hb.cell (p:=⟨b,o + 1,none⟩) hlt];exact h.c1,by rw [hb.cell (p:=⟨b,o + 2,none⟩) hlt];exact h.c2,by rw [hb.cell (p:=⟨b,o + 3,none⟩) hlt];exact h.c3⟩

set_option maxHeartbeats 400000 in
theorem l2Fault_any (b o:Nat) (i s q:Int) (a:Option Addr) (cap:Nat) (zs:List ActD) (w:World) (hB:Box4 w b o (.int .i64 i) (.int .i64 s) (.int .i64 q) (.slice a zs.length cap)) (h:ActRow w a zs) (hl:zs.length≤1048576) :
    Calls Tryz.prog 132 #[.pointer (some ⟨b,o,none⟩)] w fun e w' => e=.returned (.int .i64 (txnF i s q zs))∧w' = w:=by
  obtain ⟨b0,b1,b2,b3⟩:=hB
  rcases txnF_ways i s q zs with ⟨h1,h⟩ | ⟨h1,h2,h⟩ | ⟨h1,h2,h3,h⟩ | ⟨h1,h2,h3,⟨h4,h⟩ | ⟨h4,h⟩ | ⟨h4,h5,hf⟩⟩
  all_goals try
    (rw [h];clear h
     go_enter Tryz.func132,Tryz.ntmps132
     go_wp2_with (go_at_call 176;refine (l1InW_any _ _ _ _).mono ?_;rintro e w' ⟨rfl,rfl⟩)
     go_ret
     exact ⟨rfl,rfl⟩)
  rw [hf]
  clear hf
  go_enter Tryz.func132,Tryz.ntmps132
  go_wp2_with (go_at_call 176;refine (l1InW_any _ _ _ _).mono ?_;rintro e w' ⟨rfl,rfl⟩)
  clear b0 b1 b2
  go_loop [3] (fun j=>∃ k:Nat,k≤zs.length∧j=.int .i64 k∧Hid (∀ j,j < k→actF (zs.getD j actNo)=0)) (fun j=>zs.length - (intOf j).toNat)
  case atStart=>exact ⟨0,Nat.zero_le _,rfl,fun j hj=>absurd hj (Nat.not_lt_zero _)⟩
  case round=>
    obtain ⟨k,hk,rfl,HA⟩:=hrel
    by_cases hlt:k < zs.length
    · obtain ⟨b',off,rfl,hbs,hc0,hc1,hc2⟩:=h.at k hlt
      by_cases hF:actF (zs.getD k actNo)=0
      · have HB:Hid (∀ j,j < k + 1→actF (zs.getD j actNo)=0):=by
          intro j hj
          by_cases hjk:j=k
          · subst hjk;exact hF
          · exact HA.out j (by omega)
        have hcall:=l2Act_any b' (off + k * 3) (zs.getD k actNo).kind (zs.getD k actNo).key (zs.getD k actNo).val _ hc0 hc1 hc2
        rw [show actF ⟨(zs.getD k actNo).kind,(zs.getD k actNo).key,(zs.getD k actNo).val⟩=0 from hF] at hcall
        clear HA hF hc0 hc1 hc2
        go_wp2_with (go_at_call 177;refine hcall.mono ?_;rintro e w' ⟨rfl,rfl⟩)
        go_round
        case rel=>exact ⟨k + 1,by omega,by go_num,HB⟩
        case measure=>simp [intOf];omega
      · have E:Hid (actsF zs=actF (zs.getD k actNo)):=actsF_first zs k HA.out hlt hF
        have hcall:=l2Act_any b' (off + k * 3) (zs.getD k actNo).kind (zs.getD k actNo).key (zs.getD k actNo).val _ hc0 hc1 hc2
        have hne:(actF (zs.getD k actNo) != 0)=true:=by simpa using hF
        change Calls _ _ _ _ fun e w' => e=.returned (.int .i64 (actF (zs.getD k actNo)))∧_ at hcall
        clear HA hF hc0 hc1 hc2
        generalize actF (zs.getD k actNo)=r at hcall E hne
        go_wp2_with (go_at_call 177;refine hcall.mono ?_;rintro e w' ⟨rfl,rfl⟩)
        go_ret
        rw [E.out]
        exact ⟨rfl,rfl⟩
    · have hkl:k=zs.length:=by omega
      subst hkl
      have E:Hid (actsF zs=0):=actsF_none zs HA.out
      clear HA
      go_wp2
      go_ret
      rw [E.out]
      exact ⟨rfl,rfl⟩

theorem Box4.zero {w:World} {b:Nat} {x0 x1 x2 x3:Value} (h:Box4 w b 0 x0 x1 x2 x3):w.cell? ⟨b,0,none⟩=some x0∧w.cell? ⟨b,1,none⟩=some x1∧w.cell? ⟨b,2,none⟩=some x2∧w.cell? ⟨b,3,none⟩=some x3:=
 ⟨h.c0,by simpa using h.c1,by simpa using h.c2,by simpa using h.c3⟩

theorem Box4.lat {w:World} {b:Nat} {x0 x1 x2 x3:Value} (h:Box4 w b 0 x0 x1 x2 x3):(∀ u:Lat w,u.val.cell? ⟨b,0,none⟩=some x0)∧(∀ u:Lat w,u.val.cell? ⟨b,1,none⟩=some x1)∧(∀ u:Lat w,u.val.cell? ⟨b,2,none⟩=some x2)∧(∀ u:Lat w,u.val.cell? ⟨b,3,none⟩=some x3):=
 ⟨lat_cell h.zero.1,lat_cell h.zero.2.1,lat_cell h.zero.2.2.1,lat_cell h.zero.2.2.2⟩

end Go.Proofs.YthmcgflmejofbaaGreatDoor
namespace Go.Proofs.YthmcgflmejofbaaGreatDoor
open Go.RowKit
set_option maxRecDepth 100000
end Go.Proofs.YthmcgflmejofbaaGreatDoor
namespace Go.Proofs.YthmcgflmejofbaaGreatDoor
open Go.RowKit
set_option maxRecDepth 100000
end Go.Proofs.YthmcgflmejofbaaGreatDoor
namespace Go.Proofs.YthmcgflmejofbaaGreatDoor
open Go.RowKit
set_option maxRecDepth 100000
/-- Block b holds just these cells. -/
def Blk (w:World) (b:Nat) (t:TypeId) (cs:Array Value):Prop:=w.heap[b]? = some (.cells cs t (0,0))

theorem Blk.lt {w:World} {b:Nat} {t:TypeId} {cs:Array Value} (h:Blk w b t cs):b < w.heap.size:=(Array.getElem?_eq_some_iff.1 h).1

theorem Blk.new (w:World) (t:TypeId) (cs:Array Value):Blk (w.alloc (.cells cs t)) w.heap.size t cs:=by
 show (w.heap.push _)[w.heap.size]? = _
 simp

theorem Blk.below {w w' : World} {b:Nat} {t:TypeId} {cs:Array Value} (h:Blk w b t cs) (hb:Below w.heap.size w w'):Blk w' b t cs:=(hb.block b h.lt).trans h

theorem Blk.grown {w w' : World} {b:Nat} {t:TypeId} {cs:Array Value} {row:Option Nat} (h:Blk w b t cs) (hg:w.grownBy w' row) (hne:some b≠row):Blk w' b t cs:=(hg.block b h.lt hne).trans h

theorem Blk.cell {w:World} {b:Nat} {t:TypeId} {cs:Array Value} (h:Blk w b t cs) (j:Nat) (x:Value) (hx:cs[j]? = some x):w.cell? ⟨b,j,none⟩=some x:=by
 unfold Blk at h
 simp [World.cell?,h,hx]

theorem Blk.frozen {w:World} {b:Nat} {t:TypeId} {cs:Array Value} (h:Blk w b t cs) (j:Nat):w.frozen? ⟨b,j,none⟩=false:=by
 unfold Blk at h
 simp [World.frozen?,h]

theorem Blk.lat {w:World} {b:Nat} {t:TypeId} {cs:Array Value} (h:Blk w b t cs) (j:Nat) (x:Value) (hx:cs[j]? = some x):∀ u:Lat w,u.val.cell? ⟨b,j,none⟩=some x:=lat_cell (h.cell j x hx)

/-- Only blocks from lo up to hi have turned, of those that were there. -/
structure Only (lo hi:Nat) (w w' : World):Prop where
 os:w'.os=w.os
 tape:w'.tape=w.tape
 output:w'.output=w.output
 size:w.heap.size≤w'.heap.size
 block:∀ k,k < w.heap.size→(k < lo∨hi≤k)→w'.heap[k]? = w.heap[k]?

theorem only_of_grown {w w' : World} {row:Option Nat} {lo hi:Nat} (hg:w.grownBy w' row) (h:∀ g,row=some g→lo≤g∧g < hi):Only lo hi w w' :=
 ⟨hg.os,hg.tape,hg.output,hg.size,fun k hk hc=>hg.block k hk (fun e=>by have:=h k e.symm;omega)⟩

theorem Only.refl (lo hi:Nat) (w:World):Only lo hi w w:=⟨rfl,rfl,rfl,Nat.le_refl _,fun _ _ _=>rfl⟩

theorem Only.trans {lo hi:Nat} {a b c:World} (h:Only lo hi a b) (k:Only lo hi b c):Only lo hi a c:=
 ⟨k.os.trans h.os,k.tape.trans h.tape,k.output.trans h.output,Nat.le_trans h.size k.size,fun i hi hc=>(k.block i (Nat.lt_of_lt_of_le hi h.size) hc).trans (h.block i hi hc)⟩

theorem Only.of_below {lo hi:Nat} {w w' : World} (h:Below w.heap.size w w'):Only lo hi w w' := ⟨h.os,h.tape,h.output,h.size,fun k hk _=>h.block k hk⟩

theorem below_only {B lo hi:Nat} {a w w' : World} (h:Below B a w) (ho:Only lo hi w w') (hB:B≤lo) (hs:B≤w.heap.size):Below B a w' :=
 ⟨ho.os.trans h.os,ho.tape.trans h.tape,ho.output.trans h.output,Nat.le_trans h.size ho.size,fun k hk=>(ho.block k (by omega) (Or.inl (by omega))).trans (h.block k hk)⟩

theorem own_only {w w' : World} {lo hi base e size n:Nat} {v:Value} {xs:List Value} (h:w.ownsRow base e size v n xs) (ho:Only lo hi w w') (hb:hi≤base):w'.ownsRow base e size v n xs:=by
 refine ⟨h.1,?_⟩
 rcases h.2 with h2 | ⟨g,cap,cur,hv,hg,hh,r⟩
 ·exact Or.inl h2
 ·exact Or.inr ⟨g,cap,cur,hv,hg,by rw [ho.block g (Array.getElem?_eq_some_iff.1 hh).1 (Or.inr (by omega))];exact hh,r⟩

theorem own_apart3 {w w' : World} {base base' e e' n n' s s' : Nat} {v v' : Value} {xs xs' : List Value} (h:w.ownsRow base e s v n xs) (h' : w'.ownsRow base' e' s' v' n' xs') (hb:w.heap.size≤base'):v.ownBlock=none∨v.ownBlock≠v'.ownBlock:=by
 cases hv:v.ownBlock with
 | none=>exact Or.inl rfl
 | some g=>
  right
  intro e
  have h1:=(h.lt g hv).2
  have h2:=(h'.lt g e.symm).1
  omega

theorem own_apart3' {w w' : World} {base base' e e' n n' s s' : Nat} {v v' : Value} {xs xs' : List Value} (h:w.ownsRow base e s v n xs) (h' : w'.ownsRow base' e' s' v' n' xs') (hb:w.heap.size≤base'):v'.ownBlock=none∨v'.ownBlock≠v.ownBlock:=by
 rcases own_apart3 h h' hb with e | e
 ·cases hv:v'.ownBlock with
  | none=>exact Or.inl rfl
  | some g=>right;rw [e];simp
 ·exact Or.inr (fun k=>e k.symm)

theorem own_not3 {w:World} {base e n b s:Nat} {v:Value} {xs:List Value} (h:w.ownsRow base e s v n xs) (hb:b < base∨w.heap.size≤b):some b≠v.ownBlock:=by
 intro e
 have h1:=h.lt b e.symm
 omega

end Go.Proofs.YthmcgflmejofbaaGreatDoor
namespace Go.Proofs.YthmcgflmejofbaaGreatDoor
open Go.RowKit
open Go.BigFrame
set_option maxRecDepth 100000
structure TxnD where
 id:Int
 session:Int
 seq:Int
 acts:List ActD

def txnNo:TxnD:=⟨0,0,0,[]⟩

/-- A transaction, and where its acts lie. -/
structure TxnP where
 d:TxnD
 a:Option Addr
 cap:Nat

def TxnP.sl (p:TxnP):Value:=.slice p.a p.d.acts.length p.cap

def TxnP.cells (p:TxnP):List Value:=[.int .i64 p.d.id,.int .i64 p.d.session,.int .i64 p.d.seq,p.sl]

def txnCells (ps:List TxnP):List Value:=ps.flatMap TxnP.cells

def txnPNo:TxnP:=⟨txnNo,none,0⟩

theorem txnCells_length (ps:List TxnP):(txnCells ps).length=ps.length * 4:=by
 induction ps with
 | nil=>rfl
 | cons x xs ih=>simp only [txnCells,List.flatMap_cons,List.length_append,List.length_cons] at ih ⊢;rw [ih];simp [TxnP.cells];omega

theorem txnCells_get (ps:List TxnP):∀ (i:Nat),i < ps.length→(txnCells ps)[i * 4]? = some (.int .i64 (ps.getD i txnPNo).d.id)∧(txnCells ps)[i * 4 + 1]? = some (.int .i64 (ps.getD i txnPNo).d.session)∧(txnCells ps)[i * 4 + 2]? = some (.int .i64 (ps.getD i txnPNo).d.seq)∧(txnCells ps)[i * 4 + 3]? = some (ps.getD i txnPNo).sl:=by
 induction ps with
 | nil=>intro i h;simp at h
 | cons x xs ih=>
  intro i h
  cases i with
  | zero=>simp [txnCells,TxnP.cells]
  | succ i=>
   have e:txnCells (x :: xs)=x.cells ++ txnCells xs:=rfl
   have hl:x.cells.length=4:=rfl
   obtain ⟨h1,h2,h3,h4⟩:=ih i (by simpa using h)
   rw [e,List.getElem?_append_right (by omega),List.getElem?_append_right (by omega),List.getElem?_append_right (by omega),List.getElem?_append_right (by omega),hl,show (i + 1) * 4 - 4=i * 4 by omega,show (i + 1) * 4 + 1 - 4=i * 4 + 1 by omega,show (i + 1) * 4 + 2 - 4=i * 4 + 2 by omega,show (i + 1) * 4 + 3 - 4=i * 4 + 3 by omega]
   simpa [List.getD] using ⟨h1,h2,h3,h4⟩

/-- v is a slice that reads as these transactions. -/
def TxnsAt (w:World) (v:Value) (ds:List TxnD):Prop:=
 ∃ a cap ps,v=.slice a ds.length cap∧ps.map TxnP.d=ds∧Lies w a (txnCells ps)∧∀ p∈ps,ActRow w p.a p.d.acts

theorem TxnsAt.below {w w' : World} {v:Value} {ds:List TxnD} (h:TxnsAt w v ds) (hb:Below w.heap.size w w'):TxnsAt w' v ds:=by
 obtain ⟨a,cap,ps,e,hd,hL,hA⟩:=h
 exact ⟨a,cap,ps,e,hd,hL.below hb,fun p hp=>(hA p hp).below hb⟩

theorem TxnsAt.shape {w:World} {v:Value} {ds:List TxnD} (h:TxnsAt w v ds):∃ a cap,v=.slice a ds.length cap:=by
 obtain ⟨a,cap,_,e,_⟩:=h
 exact ⟨a,cap,e⟩

theorem TxnsAt.at {w:World} {a:Option Addr} {n cap:Nat} {ds:List TxnD} (h:TxnsAt w (.slice a n cap) ds) (i:Nat) (hi:i < ds.length) :
  ∃ b off aa cc,a=some ⟨b,off,none⟩∧b < w.heap.size∧w.cell? ⟨b,off + i * 4,none⟩=some (.int .i64 (ds.getD i txnNo).id)∧w.cell? ⟨b,off + i * 4 + 1,none⟩=some (.int .i64 (ds.getD i txnNo).session)∧w.cell? ⟨b,off + i * 4 + 2,none⟩=some (.int .i64 (ds.getD i txnNo).seq) ∧
   w.cell? ⟨b,off + i * 4 + 3,none⟩=some (.slice aa (ds.getD i txnNo).acts.length cc)∧ActRow w aa (ds.getD i txnNo).acts:=by
 obtain ⟨a',cap',ps,e,hd,hL,hA⟩:=h
 simp only [Value.slice.injEq] at e
 obtain ⟨rfl,_,_⟩:=e
 have hl:ps.length=ds.length:=by rw [← hd];simp
 obtain ⟨h1,h2,h3,h4⟩:=txnCells_get ps i (by omega)
 have hp:(ps.getD i txnPNo).d=ds.getD i txnNo:=by
  rw [← hd]
  simp [List.getD,show i < ps.length by omega]
 have hm:ps.getD i txnPNo∈ps:=by simp [List.getD,show i < ps.length by omega]
 rcases hL with h | ⟨b,off,ha,hlt,hc⟩
 ·have:=txnCells_length ps
  rw [h] at this
  simp at this
  omega
 ·have hAA:=hA _ hm
  rw [hp] at hAA h1 h2 h3
  refine ⟨b,off,(ps.getD i txnPNo).a,(ps.getD i txnPNo).cap,ha,hlt,hc _ _ h1,by rw [Nat.add_assoc];exact hc _ _ h2,by rw [Nat.add_assoc];exact hc _ _ h3,?_,hAA⟩
  rw [Nat.add_assoc,hc _ _ h4]
  simp only [TxnP.sl,hp]

/-- v is a slice of transactions, all of whose memory lies in blocks from lo up to hi, and is its own. -/
def OwnTxns (lo hi:Nat) (w:World) (v:Value) (ds:List TxnD):Prop:=
 ∃ g cap ps,v=.slice (some ⟨g,0,none⟩) ds.length cap∧g < hi∧ps.map TxnP.d=ds∧w.ownsRow lo 31 4 (.slice (some ⟨g,0,none⟩) ds.length cap) ds.length (txnCells ps) ∧
  ∀ p∈ps,w.ownsRow lo 135 3 p.sl p.d.acts.length (actCells p.d.acts)∧∀ k,p.sl.ownBlock=some k→k < hi∧k≠g

-- 31

theorem OwnTxns.row {lo hi:Nat} {w:World} {v:Value} {ds:List TxnD} (h:OwnTxns lo hi w v ds):TxnsAt w v ds:=by
 obtain ⟨g,cap,ps,e,_,hd,ho,hp⟩:=h
 exact ⟨_,cap,ps,e,hd,Lies.own ho,fun p hm=>Lies.own (hp p hm).1⟩

-- 31

theorem OwnTxns.below {lo hi:Nat} {w w' : World} {v:Value} {ds:List TxnD} (h:OwnTxns lo hi w v ds) (hb:Below w.heap.size w w'):OwnTxns lo hi w' v ds:=by
 obtain ⟨g,cap,ps,e,hg,hd,ho,hp⟩:=h
 exact ⟨g,cap,ps,e,hg,hd,own_below ho hb,fun p hm=>⟨own_below (hp p hm).1 hb,(hp p hm).2⟩⟩

def sumA (ds:List TxnD):Nat:=(ds.map (fun d=>d.acts.length)).sum

theorem mem_le_sumA {ds:List TxnD} {d:TxnD} (h:d∈ds):d.acts.length≤sumA ds:=by
 induction ds with
 | nil=>simp at h
 | cons x r ih=>
  simp only [sumA,List.map_cons,List.sum_cons] at ih ⊢
  rcases List.mem_cons.1 h with rfl | h
  ·omega
  ·have:=ih h;omega

theorem infoTxn:(Tryz.prog.info? 31).map (fun i=>(i.zero,i.size,i.bytes))=some (some (.agg #[.int .i64 0,.int .i64 0,.int .i64 0,.slice none 0 0]),4,48):=by kernel_rfl

theorem own_set_other {w:World} {base e n s g j:Nat} {v u:Value} {xs:List Value} (h:w.ownsRow base e s v n xs) (hne:∀ k,v.ownBlock=some k→k≠g):(w.setCell ⟨g,j,none⟩ u).ownsRow base e s v n xs:=by
 refine ⟨h.1,?_⟩
 rcases h.2 with h2 | ⟨g',cap,cur,hv,hg,hh,r⟩
 ·exact Or.inl h2
 ·exact Or.inr ⟨g',cap,cur,hv,hg,by rw [Below.heap_setCell _ _ _ _ (by have:=hne g' (by rw [hv];rfl);omega)];exact hh,r⟩

end Go.Proofs.YthmcgflmejofbaaGreatDoor
namespace Go.Proofs.YthmcgflmejofbaaGreatDoor
open Go.RowKit
set_option maxRecDepth 100000
/-- Acts. -/
def actK:Kind ActD where
 ty:=135
 size:=3
 cells:=ActD.cells
 own _ _:=True
 rd _ _:=True
 foot _:=[]
 len _:=rfl
 own_rd _:=trivial
 own_out _ _ _:=trivial
 own_lt _ k hk:=by simp at hk
 rd_below _ _:=trivial

/-- A transaction where it lies. -/
structure TxnQ where
 i:Int
 s:Int
 q:Int
 va:Value
 acts:List ActD

def txnK:Kind TxnQ where
 ty:=31
 size:=4
 cells p:=[.int .i64 p.i,.int .i64 p.s,.int .i64 p.q,p.va]
 own w p:=actK.Own w p.va p.acts
 rd w p:=actK.At w p.va p.acts
 foot p:=actK.fp p.va p.acts
 len _:=rfl
 own_rd h:=h.at
 own_out h ho hd:=h.out ho hd
 own_lt h:=h.lt
 rd_below h hb:=h.below hb

/-- What a transaction tells, without where it lies. -/
def TxnQ.e (p:TxnQ):TxnD:=⟨p.i,p.s,p.q,p.acts⟩

/-- How much there is. -/
def TxnD.n (d:TxnD):Nat:=d.acts.length

end Go.Proofs.YthmcgflmejofbaaGreatDoor
