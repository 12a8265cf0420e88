/- Texts joined,with what the laws reach alone. -/
import Derived.Test.YtciofogeiohleaaGreatDoorDEAK
set_option linter.unusedVariables false
set_option linter.unusedSimpArgs false
set_option maxRecDepth 100000
set_option maxHeartbeats 8000000
namespace Go.Proofs.YtciofogeiohleaaGreatDoor
open Go.RowKit Go.BigFrame
section
open Go.Maps
theorem z18(B b T:Nat)(n:Int)(w:World)(hS:Src B w b T)(hT:T≤1099511627776)(hn:n≤1099511627776):
  Calls Tryz.prog 46 #[.pointer (some ⟨b,0,none⟩),.int .i64 n] w fun e w'=>∃t:Bool,e=.returned (.bool t)∧Src B w' b (T+1)∧w.grownBy w' (some b):=by
 go_enter Tryz.func46,Tryz.ntmps46
 go_wp2_with fail
 refine(z0t B b T n w hS hT hn).mono ?_;rintro e w1 ⟨r,rfl,hr,hS1,hg⟩
 go_wp2
 go_ret;exact⟨_,rfl,hS1,hg⟩
theorem z86:(madeCells #[Value.int .i64 0,.bool false,.int .i64 0] (5*3)).toList=z0p (List.replicate 5 z0j):=by kernel_rfl
theorem z6K(B b T:Nat)(w:World)(hS:Src B w b T)(hT:T≤1000000):
  Calls Tryz.prog 127 #[.pointer (some ⟨b,0,none⟩)] w fun e w'=>∃ (a:Option Addr) (k:Nat) (us:List UndoD),e=.returned (.slice a us.length k)∧us.length≤5∧
   w'.ownsRow w.heap.size 208 3 (.slice a us.length k) us.length (z0p us)∧Src B w' b (T+13)∧w.grownBy w' (some b):=by
 obtain⟨i0,hi,aa,ab,ad⟩:=info_parts z3o;have Y:=hS.lt;have ao:(w.alloc (.cells #[] 208)).ownsRow w.heap.size 208 3 (.slice (some ⟨w.heap.size,0,none⟩) 0 0) 0 []:=World.ownsRow_lit w #[] 0 (Nat.le_refl _) (by decide) rfl;have ai:Src B (w.alloc (.cells #[] 208)) b T:=hS.below (by go_grown);have al:w.grownBy (w.alloc (.cells #[] 208)) (some b):=World.grownBy_alloc w _ _;go_enter Tryz.func127,Tryz.ntmps127
 go_wp2_with fail
 refine(z0t B b T 4 _ ai (by omega) (by omega)).mono ?_;rintro e w1 ⟨r,rfl,hr,aj,ah⟩;obtain⟨j0,rfl⟩:=Int.eq_ofNat_of_zero_le hr.1;have aD:j0≤3:=by have:=hr.2.1 (by omega);omega
 have ap:=ao.kept ah (Or.inr (by simp[Value.ownBlock];omega));have am:=al.trans ah;clear hr ah al ai ao
 go_wp2
 go_loopw[3,4] (fun v c wr=>∃ (j q:Nat) (us:List UndoD),c=.int .i64 j∧j+q≤3∧us.length≤q∧wr.ownsRow w.heap.size 208 3 v us.length (z0p us)∧Src B wr b (T+1+3*q)∧w.grownBy wr (some b)) (fun _ c _=>(intOf c).toNat)
 case atStart=>exact⟨j0,0,[],rfl,by omega,by simp,ap,aj,am⟩
 case round=>
  clear ap aj am;obtain⟨j,q,us,rfl,aE,aG,ho,y,hg⟩:=hrel;have aF:=hg.size;obtain⟨a1,c1,rfl⟩:=z0b ho;have A:some b≠Value.ownBlock (.slice a1 us.length c1):=z0N ho (Or.inl Y.2);by_cases ay:0<j
  ·go_wp2_with fail
   refine(z0t B b (T+1+3*q) 5 wr y (by omega) (by omega)).mono ?_;rintro e w2 ⟨r1,rfl,N,D,L⟩;have aA:=N.1;have aB:=N.2.1 (by omega);replace ho:=ho.kept L (Or.inr (fun e=>A e.symm));replace hg:=hg.trans L;clear N L y
   go_wp2_with fail
   refine(z18 B b (T+1+3*q+1) 2 w2 D (by omega) (by omega)).mono ?_;rintro e w3 ⟨t,rfl,C,M⟩;replace ho:=ho.kept M (Or.inr (fun e=>A e.symm));replace hg:=hg.trans M;clear M D;have ae:=C.lt;have O:Below w3.heap.size w3 (w3.alloc (.cells #[.int .i64 (1+r1),.bool t,.int .i64 0] 208)):=by go_grown
   have Bu:=Blk.new w3 208 #[.int .i64 (1+r1),.bool t,.int .i64 0];have aw:∀k,(Value.slice a1 us.length c1).ownBlock=some k→k≠w3.heap.size:=fun k hk=>by have:=(ho.lt k hk).2;omega
   replace ho:=z0a ho O;have y:=C.below O;have ar:w.heap.size≤w3.heap.size:=hg.size;replace hg:=z0M hg (O.mono ar);clear C
   cases t
   ·have X:(w3.alloc (.cells #[.int .i64 (1+r1),.bool false,.int .i64 0] 208)).heap.size=w3.heap.size+1:=by simp
    have I:=ho.alloc (.cells #[.int .i64 (1+r1),.bool false,.int .i64 0] 208);have z:∀ (j:Nat) (x:Value),[Value.int .i64 (1+r1),.bool false,.int .i64 0][j]?=some x→((w3.alloc (.cells #[.int .i64 (1+r1),.bool false,.int .i64 0] 208)).alloc (.cells #[.int .i64 (1+r1),.bool false,.int .i64 0] 208)).cell? ((⟨w3.heap.size+1,0,none⟩:Addr).add j)=some x:=by
     intro j x hj;have e:=(Blk.new (w3.alloc (.cells #[.int .i64 (1+r1),.bool false,.int .i64 0] 208)) 208 #[.int .i64 (1+r1),.bool false,.int .i64 0]).cell j x (by simpa using hj);rw[X]at e;rw[Addr.add_lit,Nat.zero_add];exact e
    have J:w.heap.size≤(w3.alloc (.cells #[.int .i64 (1+r1),.bool false,.int .i64 0] 208)).heap.size:=hg.size
    go_wp2_with (at_builtin;refine wpList_append_own _ rfl _ _ 137 rfl w.heap.size 208 i0 (.agg #[.int .i64 0,.bool false,.int .i64 0]) 3 24 Tryz.underlying137 hi aa ab ad rfl (by decide) _ us.length (z0p us) rfl I ⟨w3.heap.size+1,0,none⟩ 1 1 [.int .i64 (1+r1),.bool false,.int .i64 0] rfl rfl z ?c2 ?c3 ?c4 ?c5 ?_)
    all_goals try(case c2=>first|rfl|exact⟨rfl,rfl,rfl⟩|(intro u hu;simp at hu;rcases hu with rfl|rfl|rfl<;>rfl))
    all_goals try(case c3=>unfold maxLen;omega)
    all_goals try(case c4=>omega)
    all_goals try(case c5=>first|omega|(simp;omega))
    intro v' w6 h d _;obtain⟨a2,c2,rfl⟩:=z0b h;have W:=z0N ho (b:=b) (Or.inl Y.2);have hW:Below w.heap.size (w3.alloc (.cells #[.int .i64 (1+r1),.bool false,.int .i64 0] 208)) w6:=((Below.refl w.heap.size (w3.alloc (.cells #[.int .i64 (1+r1),.bool false,.int .i64 0] 208))).alloc J (.cells #[.int .i64 (1+r1),.bool false,.int .i64 0] 208)).grown d (by simp;omega) (fun j hj=>(ho.lt j hj).1);have U:=(y.below (w':=(w3.alloc (.cells #[.int .i64 (1+r1),.bool false,.int .i64 0] 208)).alloc (.cells #[.int .i64 (1+r1),.bool false,.int .i64 0] 208)) (by go_grown)).grown d W (fun k hk=>by have:=(ho.lt k hk).1;omega);have R:Hid (w6.ownsRow w.heap.size 208 3 (.slice a2 (us.length+1) c2) (us.length+1) (z0p (us++[⟨(1+r1),false,0⟩]))∧w.grownBy w6 (some b)):=⟨by rw[z0W];simpa using h,z0M hg hW⟩
    clear d I ho h hW z;clear O Bu
    go_wp2
    go_roundw
    case rel=>exact⟨j-1,q+1,us++[⟨1+r1,false,0⟩],by go_num,by omega,by simp;omega,by simpa using R.out.1,U.mono (by omega),R.out.2⟩
    case measure=>simp[intOf];omega
   ·go_wp2_with fail
    generalize w3.alloc (.cells #[.int .i64 (1+r1),.bool true,.int .i64 0] 208)=wX at ho y hg Bu O;generalize w3.heap.size=u at*;refine(z0t B b (T+1+3*q+1+1) 9 wX y (by omega) (by omega)).mono ?_;rintro e w4 ⟨r3,rfl,ax,ak,E⟩;replace ho:=ho.kept E (Or.inr (fun e=>A e.symm));replace hg:=hg.trans E;have aH:=Bu.lt;replace Bu:=Bu.grown E (by simp;omega);clear ax E y;have aC:=Bu.lt;obtain⟨q0,q1,q2⟩:=Bu.cel3;have f2:=Bu.frozen 2;replace ho:=z0g (j:=2) (u:=.int .i64 r3) ho aw;have y:Src B (w4.setCell ⟨u,2,none⟩ (.int .i64 r3)) b (T+1+3*q+1+1+1):=ak.kept (by simp[World.setCell]) (Below.heap_setCell _ _ _ _ (by dsimp only;omega)) (fun k hk=>Below.heap_setCell _ _ _ _ (by dsimp only;omega));replace hg:=z0M hg ((Below.refl w.heap.size w4).setCell (p:=⟨u,2,none⟩) ar (.int .i64 r3));have X:(w4.setCell ⟨u,2,none⟩ (.int .i64 r3)).heap.size=w4.heap.size:=by simp[World.setCell]
    clear Bu ak O;have I:=ho.alloc (.cells #[.int .i64 (1+r1),.bool true,.int .i64 r3] 208);have z:∀ (j:Nat) (x:Value),[Value.int .i64 (1+r1),.bool true,.int .i64 r3][j]?=some x→((w4.setCell ⟨u,2,none⟩ (.int .i64 r3)).alloc (.cells #[.int .i64 (1+r1),.bool true,.int .i64 r3] 208)).cell? ((⟨w4.heap.size,0,none⟩:Addr).add j)=some x:=by
     intro j x hj;have e:=(Blk.new (w4.setCell ⟨u,2,none⟩ (.int .i64 r3)) 208 #[.int .i64 (1+r1),.bool true,.int .i64 r3]).cell j x (by simpa using hj);rw[X]at e;rw[Addr.add_lit,Nat.zero_add];exact e
    have J:w.heap.size≤(w4.setCell ⟨u,2,none⟩ (.int .i64 r3)).heap.size:=hg.size
    go_wp2_with (at_builtin;refine wpList_append_own _ rfl _ _ 137 rfl w.heap.size 208 i0 (.agg #[.int .i64 0,.bool false,.int .i64 0]) 3 24 Tryz.underlying137 hi aa ab ad rfl (by decide) _ us.length (z0p us) rfl I ⟨w4.heap.size,0,none⟩ 1 1 [.int .i64 (1+r1),.bool true,.int .i64 r3] rfl rfl z ?c2 ?c3 ?c4 ?c5 ?_)
    all_goals try(case c2=>first|rfl|exact⟨rfl,rfl,rfl⟩|(intro u hu;simp at hu;rcases hu with rfl|rfl|rfl<;>rfl))
    all_goals try(case c3=>unfold maxLen;omega)
    all_goals try(case c4=>omega)
    all_goals try(case c5=>first|omega|(simp;omega))
    intro v' w6 h d _;obtain⟨a2,c2,rfl⟩:=z0b h;have W:=z0N ho (b:=b) (Or.inl Y.2);have hW:Below w.heap.size (w4.setCell ⟨u,2,none⟩ (.int .i64 r3)) w6:=((Below.refl w.heap.size (w4.setCell ⟨u,2,none⟩ (.int .i64 r3))).alloc J (.cells #[.int .i64 (1+r1),.bool true,.int .i64 r3] 208)).grown d (by simp;omega) (fun j hj=>(ho.lt j hj).1);have U:=(y.below (w':=(w4.setCell ⟨u,2,none⟩ (.int .i64 r3)).alloc (.cells #[.int .i64 (1+r1),.bool true,.int .i64 r3] 208)) (by go_grown)).grown d W (fun k hk=>by have:=(ho.lt k hk).1;omega);have R:Hid (w6.ownsRow w.heap.size 208 3 (.slice a2 (us.length+1) c2) (us.length+1) (z0p (us++[⟨(1+r1),true,r3⟩]))∧w.grownBy w6 (some b)):=⟨by rw[z0W];simpa using h,z0M hg hW⟩
    clear d I ho h hW z
    go_wp2
    go_roundw
    case rel=>exact⟨j-1,q+1,us++[⟨1+r1,true,r3⟩],by go_num,by omega,by simp;omega,by simpa using R.out.1,U.mono (by omega),R.out.2⟩
    case measure=>simp[intOf];omega
  ·go_wp2_with fail
   refine(z0t B b (T+1+3*q) 12 wr y (by omega) (by omega)).mono ?_;rintro e w2 ⟨r,rfl,hr,D,L⟩;replace ho:=ho.kept L (Or.inr (fun e=>A e.symm));replace hg:=hg.trans L;have an:=D.lt;have af:=hg.size;clear hr L y;by_cases Z:r=0
   ·subst Z;replace ho:=ho.alloc (.cells #[.int .i64 0,.int .i64 20,.int .i64 21] 2);replace hg:=hg.trans (World.grownBy_alloc w2 (.cells #[.int .i64 0,.int .i64 20,.int .i64 21] 2) (some b))
    go_wp2_with fail
    refine(z0U B b (T+1+3*q+1) w2.heap.size _ [0,20,21] _ (D.below (by go_grown)) (by omega) (World.ownsRow_lit w2 _ 3 (Nat.le_refl _) (by decide) rfl) (by simp) (by simp) (by simp[Value.ownBlock];omega)).mono ?_;rintro e w3 ⟨r3,rfl,V,C,M⟩;replace ho:=ho.kept M (Or.inr (fun e=>A e.symm));replace hg:=hg.trans M;have ae:=C.lt;clear V M D an;replace ho:=ho.alloc (.cells #[.int .i64 0,.int .i64 1] 2);replace hg:=hg.trans (World.grownBy_alloc w3 (.cells #[.int .i64 0,.int .i64 1] 2) (some b))
    go_wp2_with fail
    refine(z0U B b (T+1+3*q+1+1) w3.heap.size _ [0,1] _ (C.below (by go_grown)) (by omega) (World.ownsRow_lit w3 _ 2 (Nat.le_refl _) (by decide) rfl) (by simp) (by simp) (by simp[Value.ownBlock];omega)).mono ?_;rintro e w4 ⟨r4,rfl,V,y,E⟩;replace ho:=ho.kept E (Or.inr (fun e=>A e.symm));replace hg:=hg.trans E;clear V E C ae;have X:w4.heap.size=w4.heap.size:=rfl;have I:=ho.alloc (.cells #[.int .i64 r3,.bool false,.int .i64 r4] 208);have z:∀ (j:Nat) (x:Value),[Value.int .i64 r3,.bool false,.int .i64 r4][j]?=some x→(w4.alloc (.cells #[.int .i64 r3,.bool false,.int .i64 r4] 208)).cell? ((⟨w4.heap.size,0,none⟩:Addr).add j)=some x:=by
     intro j x hj;have e:=(Blk.new w4 208 #[.int .i64 r3,.bool false,.int .i64 r4]).cell j x (by simpa using hj);rw[X]at e;rw[Addr.add_lit,Nat.zero_add];exact e
    have J:w.heap.size≤w4.heap.size:=hg.size
    go_wp2_with (at_builtin;refine wpList_append_own _ rfl _ _ 137 rfl w.heap.size 208 i0 (.agg #[.int .i64 0,.bool false,.int .i64 0]) 3 24 Tryz.underlying137 hi aa ab ad rfl (by decide) _ us.length (z0p us) rfl I ⟨w4.heap.size,0,none⟩ 1 1 [.int .i64 r3,.bool false,.int .i64 r4] rfl rfl z ?c2 ?c3 ?c4 ?c5 ?_)
    all_goals try(case c2=>first|rfl|exact⟨rfl,rfl,rfl⟩|(intro u hu;simp at hu;rcases hu with rfl|rfl|rfl<;>rfl))
    all_goals try(case c3=>unfold maxLen;omega)
    all_goals try(case c4=>omega)
    all_goals try(case c5=>first|omega|(simp;omega))
    intro v' w6 h d _;obtain⟨a2,c2,rfl⟩:=z0b h;have W:=z0N ho (b:=b) (Or.inl Y.2);have hW:Below w.heap.size w4 w6:=((Below.refl w.heap.size w4).alloc J (.cells #[.int .i64 r3,.bool false,.int .i64 r4] 208)).grown d (by simp;omega) (fun j hj=>(ho.lt j hj).1);have U:=(y.below (w':=w4.alloc (.cells #[.int .i64 r3,.bool false,.int .i64 r4] 208)) (by go_grown)).grown d W (fun k hk=>by have:=(ho.lt k hk).1;omega);have R:Hid (w6.ownsRow w.heap.size 208 3 (.slice a2 (us.length+1) c2) (us.length+1) (z0p (us++[⟨r3,false,r4⟩]))∧w.grownBy w6 (some b)):=⟨by rw[z0W];simpa using h,z0M hg hW⟩
    clear d I ho h hW z
    go_wp2
    go_ret;exact⟨a2,c2,us++[⟨r3,false,r4⟩],by simp,by simp;omega,by simpa using R.out.1,U.mono (by omega),R.out.2⟩
   ·have aq:(r==0)=false:=by simpa using Z
    by_cases N:r=1
    ·subst N;have au:i0.bytes*5≤281474976710656:=by rw[ad];omega
     have av:5≤maxLen:=by unfold maxLen;omega
     clear Z aq
     go_wp2_with (at_make;refine wpList_make_full _ rfl _ _ 137 rfl w2.heap.size 208 i0 (.agg #[.int .i64 0,.bool false,.int .i64 0]) 3 Tryz.underlying137 hi aa ab _ _ _ _ 5 rfl rfl rfl rfl au av (Nat.le_refl _) ?_)
     intro w3 h d;have ag:Below w2.heap.size w2 w3:=(Below.refl _ _).grown d (Nat.le_refl _) (by simp);have R:Hid (w3.ownsRow w.heap.size 208 3 (.slice (some ⟨w2.heap.size,0,none⟩) 5 5) 5 (z0p (List.replicate 5 z0j))∧w.grownBy w3 (some b)):=⟨by rw[←z86];exact z0m h af,z0M hg (ag.mono af)⟩
     have C:=D.below ag;clear h d ag
     go_wp2
     go_ret;exact⟨_,_,List.replicate 5 z0j,rfl,by simp,R.out.1,C.mono (by omega),R.out.2⟩
    ·have az:(r==1)=false:=by simpa using N
     clear Z N
     go_wp2
     go_ret;exact⟨a1,c1,us,rfl,by omega,ho,D.mono (by omega),hg⟩
theorem rep_mem{q:RepQ}{k:Nat}:k∈repK.foot q↔k∈txnK.fp q.vd q.done∨k∈itemK.fp q.vb q.base∨k∈txnK.fp q.vt q.tent∨k∈ussK.fp q.vu q.undos∨k∈itemK.fp q.vn q.now:=by
 show k∈txnK.fp q.vd q.done++(itemK.fp q.vb q.base++(txnK.fp q.vt q.tent++(ussK.fp q.vu q.undos++itemK.fp q.vn q.now)))↔_;simp only[List.mem_append]
theorem nd5{A B C D E:List Nat}(h:(A++(B++(C++(D++E)))).Nodup):(C.Nodup∧(∀k∈A,k∉C)∧(∀k∈B,k∉C)∧(∀k∈D,k∉C)∧(∀k∈E,k∉C))∧(D.Nodup∧(∀k∈A,k∉D)∧(∀k∈B,k∉D)∧(∀k∈C,k∉D)∧(∀k∈E,k∉D)):=by
 obtain⟨_,h1,a1⟩:=List.nodup_append.1 h;obtain⟨_,h2,a2⟩:=List.nodup_append.1 h1;obtain⟨hC,h3,a3⟩:=List.nodup_append.1 h2;obtain⟨hD,_,a4⟩:=List.nodup_append.1 h3;refine⟨⟨hC,fun k hk hk'=>a1 k hk k ?_ rfl,fun k hk hk'=>a2 k hk k ?_ rfl,fun k hk hk'=>a3 k hk' k ?_ rfl,fun k hk hk'=>a3 k hk' k ?_ rfl⟩,hD,fun k hk hk'=>a1 k hk k ?_ rfl,fun k hk hk'=>a2 k hk k ?_ rfl,fun k hk hk'=>a3 k hk k ?_ rfl,fun k hk hk'=>a4 k hk' k hk rfl⟩<;>simp only[List.mem_append]<;>simp[hk,hk']
theorem z76(w:World):txnK.own w (⟨0,0,0,.slice none 0 0,[]⟩:TxnQ):=(Kind.own_nil (K:=actK) w).1
theorem z8N{w:World}{v:Value}{us:List UndoD}(h:undoK.Own w v us):ussK.own w (⟨v,us⟩:USQ):=h
theorem z7F{P:Type}{K:Kind P}{v v':Value}{ps:List P}{p:P}{N:Nat}(hat:v'.ownBlock=v.ownBlock∨v'.ownBlock=some N){k:Nat}(hk:k∈K.fp v' (ps++[p])):k∈K.fp v ps∨k∈K.foot p∨k=N:=by
 simp only[Kind.fp,List.mem_append,List.flatMap_append,List.flatMap_cons,List.flatMap_nil,List.append_nil]at hk⊢;rcases hk with hk|hk|hk
 ·unfold blk at hk⊢;rcases hat with h|h
  ·rw[h]at hk;exact Or.inl (Or.inl hk)
  ·rw[h]at hk;simp only[Option.toList,List.mem_singleton]at hk;exact Or.inr (Or.inr hk)
 ·exact Or.inl (Or.inr hk)
 ·exact Or.inr (Or.inl hk)
theorem z6L(B b T:Nat)(w:World)(hS:Src B w b T)(hT:T≤700000):
  Calls Tryz.prog 69 #[.pointer (some ⟨b,0,none⟩)] w fun e w'=>∃q:RepQ,e=.returned (.agg #[q.vd,q.vb,q.vt,q.vu,q.vn])∧q.n≤3000∧repK.own w' q∧(∀k∈repK.foot q,w.heap.size≤k)∧Src B w' b (T+400)∧w.grownBy w' (some b):=by
 have N:=hS.lt;have R0:=Blk.new w 57 #[.slice none 0 0,.slice none 0 0,.slice none 0 0,.slice none 0 0,.slice none 0 0];have hg:w.grownBy (w.alloc (.cells #[.slice none 0 0,.slice none 0 0,.slice none 0 0,.slice none 0 0,.slice none 0 0] 57)) (some b):=World.grownBy_alloc w _ _;have be:(w.alloc (.cells #[.slice none 0 0,.slice none 0 0,.slice none 0 0,.slice none 0 0,.slice none 0 0] 57)).heap.size=w.heap.size+1:=by simp
 replace hS:Src B (w.alloc (.cells #[.slice none 0 0,.slice none 0 0,.slice none 0 0,.slice none 0 0,.slice none 0 0] 57)) b T:=hS.below (by go_grown);go_enter Tryz.func69,Tryz.ntmps69
 go_wp2_with fail
 generalize w.alloc (.cells #[.slice none 0 0,.slice none 0 0,.slice none 0 0,.slice none 0 0,.slice none 0 0] 57)=W at*;refine(z6I B b T W hS (by omega)).mono ?_;rintro e w1 ⟨q,rfl,aM,oq,nq,gq,L,y⟩;replace hS:=L;replace R0:=R0.grown y (by simp only[ne_eq,Option.some.injEq];omega);replace hg:=hg.trans y;have aT:=y.size;have az:∀k∈repK.foot q,w.heap.size<k∧k≠w1.heap.size:=fun k hk=>⟨by have:=gq k hk;omega,by have:=repK.own_lt oq k hk;omega⟩
 have HN:Hid (q.n≤1000):=aM;clear L y gq aM;obtain⟨aX,qd,aW,qb,aZ,qt,a1,qu,aY,qn⟩:=q;obtain⟨s0,t0,rfl⟩:∃a c,aX=.slice a qd.length c:=oq.1.shape;obtain⟨s1,t1,rfl⟩:∃a c,aW=.slice a qb.length c:=oq.2.1.shape;obtain⟨s2,t2,rfl⟩:∃a c,aZ=.slice a qt.length c:=oq.2.2.1.shape;obtain⟨s3,t3,rfl⟩:∃a c,a1=.slice a qu.length c:=oq.2.2.2.1.shape;obtain⟨s4,t4,rfl⟩:∃a c,aY=.slice a qn.length c:=oq.2.2.2.2.shape;have Bx:=Blk.new w1 57 #[.slice s0 qd.length t0,.slice s1 qb.length t1,.slice s2 qt.length t2,.slice s3 qu.length t3,.slice s4 qn.length t4];have ap:Below w1.heap.size w1 (w1.alloc (.cells #[.slice s0 qd.length t0,.slice s1 qb.length t1,.slice s2 qt.length t2,.slice s3 qu.length t3,.slice s4 qn.length t4] 57)):=by go_grown
 have aN:w1.heap.size<(w1.alloc (.cells #[.slice s0 qd.length t0,.slice s1 qb.length t1,.slice s2 qt.length t2,.slice s3 qu.length t3,.slice s4 qn.length t4] 57)).heap.size:=by simp
 replace oq:=repK.own_out (F:=[]) oq (Out.of_below ap) (fun _ _=>by simp);replace R0:=R0.below ap;replace hS:=hS.below ap;replace hg:=z0e hg (ap.mono hg.size);clear ap
 go_wp2_with fail
 generalize w1.alloc (.cells #[.slice s0 qd.length t0,.slice s1 qb.length t1,.slice s2 qt.length t2,.slice s3 qu.length t3,.slice s4 qn.length t4] 57)=X0 at*;generalize aR:w1.heap.size=g at*;refine(z0t B b (T+300) 14 X0 hS (by omega) (by omega)).mono ?_;rintro e X ⟨r,rfl,hr,L,y⟩;replace hS:=L;replace oq:=repK.own_out oq (Out.of_grown y) (fun k hk x=>by simp only[Option.toList,List.mem_singleton]at x;have:=(az k hk).1;omega);replace R0:=R0.grown y (by simp only[ne_eq,Option.some.injEq];omega);replace Bx:=Bx.grown y (by simp only[ne_eq,Option.some.injEq];omega);replace hg:=hg.trans y;have aL:g<X.heap.size:=Nat.lt_of_lt_of_le aN y.size;have bd:w.heap.size<g:=by omega
 have d:=az;have bc:b≠g:=by omega
 clear L y hr az aR aT aN;by_cases ag:r=0
 ·subst ag
  go_wp2_with fail
  refine(z4z B b (T+301) X hS (by omega)).mono ?_;rintro e X1 ⟨a,c,xs,rfl,aV,ho,L,y⟩;have aE:=y.size;have C:=Bx.grown y (by simp only[ne_eq,Option.some.injEq];omega);have R1:=R0.grown y (by simp only[ne_eq,Option.some.injEq];omega);have z:=repK.own_out oq (Out.of_grown y) (fun k hk x=>by simp only[Option.toList,List.mem_singleton]at x;have:=(d k hk).1;omega);obtain⟨o0,Y⟩:=z0y ho;have oi:itemK.Own X1 (.slice a xs.length c) xs:=⟨by rw[z3y];exact o0,fun _ _=>trivial⟩
  have k1:=C.cell 1 _ rfl;have k2:=C.frozen 1;have oy:repK.own X1 (⟨.slice s0 qd.length t0,qd,.slice a xs.length c,xs,.slice s2 qt.length t2,qt,.slice s3 qu.length t3,qu,.slice s4 qn.length t4,qn⟩:RepQ):=⟨z.1,oi,z.2.2.1,z.2.2.2.1,z.2.2.2.2⟩
  have lz:∀k∈repK.foot (⟨.slice s0 qd.length t0,qd,.slice a xs.length c,xs,.slice s2 qt.length t2,qt,.slice s3 qu.length t3,qu,.slice s4 qn.length t4,qn⟩:RepQ),w.heap.size<k:=fun k hk=>by
   rcases rep_mem.1 hk with hk|hk|hk|hk|hk
   ·exact(d k (rep_mem.2 (Or.inl hk))).1
   ·rw[z0s]at hk;have:=Y k hk;omega
   ·exact(d k (rep_mem.2 (Or.inr (Or.inr (Or.inl hk))))).1
   ·exact(d k (rep_mem.2 (Or.inr (Or.inr (Or.inr (Or.inl hk)))))).1
   ·exact(d k (rep_mem.2 (Or.inr (Or.inr (Or.inr (Or.inr hk)))))).1
  have gy:∀k∈repK.foot (⟨.slice s0 qd.length t0,qd,.slice a xs.length c,xs,.slice s2 qt.length t2,qt,.slice s3 qu.length t3,qu,.slice s4 qn.length t4,qn⟩:RepQ),k≠g:=fun k hk=>by
   rcases rep_mem.1 hk with hk|hk|hk|hk|hk
   ·exact(d k (rep_mem.2 (Or.inl hk))).2
   ·rw[z0s]at hk;have:=Y k hk;omega
   ·exact(d k (rep_mem.2 (Or.inr (Or.inr (Or.inl hk))))).2
   ·exact(d k (rep_mem.2 (Or.inr (Or.inr (Or.inr (Or.inl hk)))))).2
   ·exact(d k (rep_mem.2 (Or.inr (Or.inr (Or.inr (Or.inr hk)))))).2
  have oz:=repK.own_out oy (Out.setCell X1 g 1 (.slice a xs.length c)) (fun k hk x=>by simp only[List.mem_singleton]at x;exact gy k hk x);have Bz:Blk (X1.setCell ⟨g,1,none⟩ (.slice a xs.length c)) g 57 #[.slice s0 qd.length t0,.slice a xs.length c,.slice s2 qt.length t2,.slice s3 qu.length t3,.slice s4 qn.length t4]:=by
   have:=C.set 1 (.slice a xs.length c);simpa using this
  have Rz:=R1.other (b':=g) (by omega) 1 (.slice a xs.length c);have sz:=L.low ((Below.refl w.heap.size X1).setCell (p:=⟨g,1,none⟩) (by show w.heap.size≤g;omega) (.slice a xs.length c)) N.2;have gz:=z0e (hg.trans y) ((Below.refl w.heap.size X1).setCell (p:=⟨g,1,none⟩) (by show w.heap.size≤g;omega) (.slice a xs.length c));have nz:RepQ.n (⟨.slice s0 qd.length t0,qd,.slice a xs.length c,xs,.slice s2 qt.length t2,qt,.slice s3 qu.length t3,qu,.slice s4 qn.length t4,qn⟩:RepQ)≤3000:=by have:=HN.out;dsimp only[RepQ.n]at this⊢;omega
  clear oy gy oi o0 Y ho z L y oq nq d hS hg Bx R0;have Rr:=Rz.row #[.slice s0 qd.length t0,.slice a xs.length c,.slice s2 qt.length t2,.slice s3 qu.length t3,.slice s4 qn.length t4];have D:=z0r (X1.setCell ⟨g,1,none⟩ (.slice a xs.length c)) w.heap.size #[.slice s0 qd.length t0,.slice a xs.length c,.slice s2 qt.length t2,.slice s3 qu.length t3,.slice s4 qn.length t4];have A:=z0o (g:=w.heap.size) (Below.refl w.heap.size (X1.setCell ⟨g,1,none⟩ (.slice a xs.length c))) (Nat.le_refl _) #[.slice s0 qd.length t0,.slice a xs.length c,.slice s2 qt.length t2,.slice s3 qu.length t3,.slice s4 qn.length t4];have HZ:Hid (repK.own ((X1.setCell ⟨g,1,none⟩ (.slice a xs.length c)).setRow w.heap.size #[.slice s0 qd.length t0,.slice a xs.length c,.slice s2 qt.length t2,.slice s3 qu.length t3,.slice s4 qn.length t4]) (⟨.slice s0 qd.length t0,qd,.slice a xs.length c,xs,.slice s2 qt.length t2,qt,.slice s3 qu.length t3,qu,.slice s4 qn.length t4,qn⟩:RepQ)∧Src B ((X1.setCell ⟨g,1,none⟩ (.slice a xs.length c)).setRow w.heap.size #[.slice s0 qd.length t0,.slice a xs.length c,.slice s2 qt.length t2,.slice s3 qu.length t3,.slice s4 qn.length t4]) b (T+400)∧w.grownBy ((X1.setCell ⟨g,1,none⟩ (.slice a xs.length c)).setRow w.heap.size #[.slice s0 qd.length t0,.slice a xs.length c,.slice s2 qt.length t2,.slice s3 qu.length t3,.slice s4 qn.length t4]) (some b)):=⟨repK.own_out oz D (fun k hk x=>by simp only[List.mem_singleton]at x;have:=lz k hk;omega),(sz.low A N.2).mono (by omega),z0e gz A⟩
  have HQ:Hid (RepQ.n (⟨.slice s0 qd.length t0,qd,.slice a xs.length c,xs,.slice s2 qt.length t2,qt,.slice s3 qu.length t3,qu,.slice s4 qn.length t4,qn⟩:RepQ)≤3000∧∀k∈repK.foot (⟨.slice s0 qd.length t0,qd,.slice a xs.length c,xs,.slice s2 qt.length t2,qt,.slice s3 qu.length t3,qu,.slice s4 qn.length t4,qn⟩:RepQ),w.heap.size≤k):=⟨nz,fun k hk=>by have:=lz k hk;omega⟩
  obtain⟨p0,p1,p2,p3,p4⟩:=Bz.cel5;clear oz lz sz gz nz D A
  go_wp2_with (first|(refine z0C (by kernel_rfl) 57 _ _ rfl _ #[.slice s0 qd.length t0,.slice a xs.length c,.slice s2 qt.length t2,.slice s3 qu.length t3,.slice s4 qn.length t4] rfl rfl 57 _ Rz z1l rfl (by simp[Value.oneCell']) ?_))
  obtain⟨q0,q1,q2,q3,q4⟩:=Rr.cel5;exact bodyPost_ret (v:=.agg #[.slice s0 qd.length t0,.slice a xs.length c,.slice s2 qt.length t2,.slice s3 qu.length t3,.slice s4 qn.length t4]) (by simp[results,Tryz.results69,go_sem,q0,q1,q2,q3,q4]) rfl ⟨(⟨.slice s0 qd.length t0,qd,.slice a xs.length c,xs,.slice s2 qt.length t2,qt,.slice s3 qu.length t3,qu,.slice s4 qn.length t4,qn⟩:RepQ),rfl,HQ.out.1,HZ.out.1,HQ.out.2,HZ.out.2.1,HZ.out.2.2⟩
 by_cases ah:r=1
 ·subst ah;clear ag
  go_wp2_with fail
  refine(z4z B b (T+301) X hS (by omega)).mono ?_;rintro e X1 ⟨a,c,xs,rfl,aV,ho,L,y⟩;have aE:=y.size;have C:=Bx.grown y (by simp only[ne_eq,Option.some.injEq];omega);have R1:=R0.grown y (by simp only[ne_eq,Option.some.injEq];omega);have z:=repK.own_out oq (Out.of_grown y) (fun k hk x=>by simp only[Option.toList,List.mem_singleton]at x;have:=(d k hk).1;omega);obtain⟨o0,Y⟩:=z0y ho;have oi:itemK.Own X1 (.slice a xs.length c) xs:=⟨by rw[z3y];exact o0,fun _ _=>trivial⟩
  have k1:=C.cell 4 _ rfl;have k2:=C.frozen 4;have oy:repK.own X1 (⟨.slice s0 qd.length t0,qd,.slice s1 qb.length t1,qb,.slice s2 qt.length t2,qt,.slice s3 qu.length t3,qu,.slice a xs.length c,xs⟩:RepQ):=⟨z.1,z.2.1,z.2.2.1,z.2.2.2.1,oi⟩
  have lz:∀k∈repK.foot (⟨.slice s0 qd.length t0,qd,.slice s1 qb.length t1,qb,.slice s2 qt.length t2,qt,.slice s3 qu.length t3,qu,.slice a xs.length c,xs⟩:RepQ),w.heap.size<k:=fun k hk=>by
   rcases rep_mem.1 hk with hk|hk|hk|hk|hk
   ·exact(d k (rep_mem.2 (Or.inl hk))).1
   ·exact(d k (rep_mem.2 (Or.inr (Or.inl hk)))).1
   ·exact(d k (rep_mem.2 (Or.inr (Or.inr (Or.inl hk))))).1
   ·exact(d k (rep_mem.2 (Or.inr (Or.inr (Or.inr (Or.inl hk)))))).1
   ·rw[z0s]at hk;have:=Y k hk;omega
  have gy:∀k∈repK.foot (⟨.slice s0 qd.length t0,qd,.slice s1 qb.length t1,qb,.slice s2 qt.length t2,qt,.slice s3 qu.length t3,qu,.slice a xs.length c,xs⟩:RepQ),k≠g:=fun k hk=>by
   rcases rep_mem.1 hk with hk|hk|hk|hk|hk
   ·exact(d k (rep_mem.2 (Or.inl hk))).2
   ·exact(d k (rep_mem.2 (Or.inr (Or.inl hk)))).2
   ·exact(d k (rep_mem.2 (Or.inr (Or.inr (Or.inl hk))))).2
   ·exact(d k (rep_mem.2 (Or.inr (Or.inr (Or.inr (Or.inl hk)))))).2
   ·rw[z0s]at hk;have:=Y k hk;omega
  have oz:=repK.own_out oy (Out.setCell X1 g 4 (.slice a xs.length c)) (fun k hk x=>by simp only[List.mem_singleton]at x;exact gy k hk x);have Bz:Blk (X1.setCell ⟨g,4,none⟩ (.slice a xs.length c)) g 57 #[.slice s0 qd.length t0,.slice s1 qb.length t1,.slice s2 qt.length t2,.slice s3 qu.length t3,.slice a xs.length c]:=by
   have:=C.set 4 (.slice a xs.length c);simpa using this
  have Rz:=R1.other (b':=g) (by omega) 4 (.slice a xs.length c);have sz:=L.low ((Below.refl w.heap.size X1).setCell (p:=⟨g,4,none⟩) (by show w.heap.size≤g;omega) (.slice a xs.length c)) N.2;have gz:=z0e (hg.trans y) ((Below.refl w.heap.size X1).setCell (p:=⟨g,4,none⟩) (by show w.heap.size≤g;omega) (.slice a xs.length c));have nz:RepQ.n (⟨.slice s0 qd.length t0,qd,.slice s1 qb.length t1,qb,.slice s2 qt.length t2,qt,.slice s3 qu.length t3,qu,.slice a xs.length c,xs⟩:RepQ)≤3000:=by have:=HN.out;dsimp only[RepQ.n]at this⊢;omega
  clear oy gy oi o0 Y ho z L y oq nq d hS hg Bx R0;have Rr:=Rz.row #[.slice s0 qd.length t0,.slice s1 qb.length t1,.slice s2 qt.length t2,.slice s3 qu.length t3,.slice a xs.length c];have D:=z0r (X1.setCell ⟨g,4,none⟩ (.slice a xs.length c)) w.heap.size #[.slice s0 qd.length t0,.slice s1 qb.length t1,.slice s2 qt.length t2,.slice s3 qu.length t3,.slice a xs.length c];have A:=z0o (g:=w.heap.size) (Below.refl w.heap.size (X1.setCell ⟨g,4,none⟩ (.slice a xs.length c))) (Nat.le_refl _) #[.slice s0 qd.length t0,.slice s1 qb.length t1,.slice s2 qt.length t2,.slice s3 qu.length t3,.slice a xs.length c];have HZ:Hid (repK.own ((X1.setCell ⟨g,4,none⟩ (.slice a xs.length c)).setRow w.heap.size #[.slice s0 qd.length t0,.slice s1 qb.length t1,.slice s2 qt.length t2,.slice s3 qu.length t3,.slice a xs.length c]) (⟨.slice s0 qd.length t0,qd,.slice s1 qb.length t1,qb,.slice s2 qt.length t2,qt,.slice s3 qu.length t3,qu,.slice a xs.length c,xs⟩:RepQ)∧Src B ((X1.setCell ⟨g,4,none⟩ (.slice a xs.length c)).setRow w.heap.size #[.slice s0 qd.length t0,.slice s1 qb.length t1,.slice s2 qt.length t2,.slice s3 qu.length t3,.slice a xs.length c]) b (T+400)∧w.grownBy ((X1.setCell ⟨g,4,none⟩ (.slice a xs.length c)).setRow w.heap.size #[.slice s0 qd.length t0,.slice s1 qb.length t1,.slice s2 qt.length t2,.slice s3 qu.length t3,.slice a xs.length c]) (some b)):=⟨repK.own_out oz D (fun k hk x=>by simp only[List.mem_singleton]at x;have:=lz k hk;omega),(sz.low A N.2).mono (by omega),z0e gz A⟩
  have HQ:Hid (RepQ.n (⟨.slice s0 qd.length t0,qd,.slice s1 qb.length t1,qb,.slice s2 qt.length t2,qt,.slice s3 qu.length t3,qu,.slice a xs.length c,xs⟩:RepQ)≤3000∧∀k∈repK.foot (⟨.slice s0 qd.length t0,qd,.slice s1 qb.length t1,qb,.slice s2 qt.length t2,qt,.slice s3 qu.length t3,qu,.slice a xs.length c,xs⟩:RepQ),w.heap.size≤k):=⟨nz,fun k hk=>by have:=lz k hk;omega⟩
  obtain⟨p0,p1,p2,p3,p4⟩:=Bz.cel5;clear oz lz sz gz nz D A
  go_wp2_with (first|(refine z0C (by kernel_rfl) 57 _ _ rfl _ #[.slice s0 qd.length t0,.slice s1 qb.length t1,.slice s2 qt.length t2,.slice s3 qu.length t3,.slice a xs.length c] rfl rfl 57 _ Rz z1l rfl (by simp[Value.oneCell']) ?_))
  obtain⟨q0,q1,q2,q3,q4⟩:=Rr.cel5;exact bodyPost_ret (v:=.agg #[.slice s0 qd.length t0,.slice s1 qb.length t1,.slice s2 qt.length t2,.slice s3 qu.length t3,.slice a xs.length c]) (by simp[results,Tryz.results69,go_sem,q0,q1,q2,q3,q4]) rfl ⟨(⟨.slice s0 qd.length t0,qd,.slice s1 qb.length t1,qb,.slice s2 qt.length t2,qt,.slice s3 qu.length t3,qu,.slice a xs.length c,xs⟩:RepQ),rfl,HQ.out.1,HZ.out.1,HQ.out.2,HZ.out.2.1,HZ.out.2.2⟩
 by_cases au:r=2
 ·subst au;clear ag ah;obtain⟨i0,hi,aw,ax,ay⟩:=info_parts z6Z;have ND:=nd5 nq;have ad:Blk X g 57 #[.slice s0 qd.length t0,.slice s1 qb.length t1,.slice s2 qt.length t2,.slice s3 qu.length t3,.slice s4 qn.length t4]:=Bx;generalize hP:(fun u:World=>Blk u g 57 #[.slice s0 qd.length t0,.slice s1 qb.length t1,.slice s2 qt.length t2,.slice s3 qu.length t3,.slice s4 qn.length t4])=PP;have am:PP X:=by subst hP;exact ad
  have cc:∀u:KeepP PP,u.val.cell? ⟨g,3,none⟩=some (.slice s3 qu.length t3):=fun u=>by have:=u.isP;subst hP;exact this.cell 3 _ rfl
  have aH:Nonempty (KeepP PP):=⟨⟨X,am⟩⟩
  go_wp2_with fail
  refine z1S (S:=fun w'=>∃u:KeepP PP,w'=u.val) (R:=fun _ _=>False) 7 (by kernel_rfl) (fun _ _ _ _ h=>h.elim) ?_;have an:PP X.drew:=by subst hP;exact ad
  refine sgX [(0,3)] 5 (by kernel_rfl) ⟨⟨X.drew,an⟩,rfl⟩ ?_;simp only[pkE];repeat go_big_quiet_step (fail)
  refine wpQuiet_nil ?_;have M:Below X.heap.size X X.drew:=(Below.refl _ _).drew;replace oq:=repK.own_out (F:=[]) oq (Out.of_below M) (fun _ _=>by simp);replace hS:=hS.below M;replace hg:=z0e hg (M.mono hg.size);replace R0:=R0.below M;replace Bx:=Bx.below M;have aP:X.heap.size≤X.drew.heap.size:=M.size;clear M an cc aH am ad;generalize X.drew=Xd at*;refine clX 3 (some 23) 127 #[.pointer (some ⟨b,0,none⟩)] 4 (by kernel_rfl) rfl ?_;refine(z6K B b (T+301) Xd hS (by omega)).mono ?_;rintro e X1 ⟨a,c,us,rfl,aU,ho,L,y⟩;have aE:=y.size;have C:=Bx.grown y (by simp only[ne_eq,Option.some.injEq];omega);have R1:=R0.grown y (by simp only[ne_eq,Option.some.injEq];omega);have aF:=oq.2.2.2.1.lt;have z:=repK.own_out oq (Out.of_grown y) (fun k hk x=>by simp only[Option.toList,List.mem_singleton]at x;have:=(d k hk).1;omega);obtain⟨o0,Y⟩:=z0y ho;have oe:ussK.own X1 (⟨.slice a us.length c,us⟩:USQ):=z8N ⟨by rw[z6Q];exact o0,fun _ _=>trivial⟩;have fe:∀k∈ussK.foot (⟨.slice a us.length c,us⟩:USQ),Xd.heap.size≤k:=fun k hk=>by
   replace hk:k∈undoK.fp (.slice a us.length c) us:=hk;rw[z0S]at hk;exact Y k hk
  have ne:(ussK.foot (⟨.slice a us.length c,us⟩:USQ)).Nodup:=by
   show(undoK.fp (.slice a us.length c) us).Nodup;rw[z0S];exact z0D _
  have aD:∀k∈ussK.foot (⟨.slice a us.length c,us⟩:USQ),k∉ussK.fp (.slice s3 qu.length t3) qu:=fun k hk x=>by
   have h1:=aF k x;have h2:=fe k hk;omega
  replace hg:=hg.trans y;replace hS:=L;refine Or.inl ⟨_,rfl,⟨⟨X1,by subst hP;exact C⟩,rfl⟩,?_⟩;simp only[Act.put,pjE];refine onX 4 3 rfl (by kernel_rfl) ?_;have E:Below X1.heap.size X1 (X1.alloc (.cells #[.slice a us.length c] 137)):=by go_grown
  have ab:=z.2.2.2.1.below E;have al:=ussK.own_out (F:=[]) oe (Out.of_below E) (fun _ _=>by simp);have aA:=repK.own_out (F:=[]) z (Out.of_below E) (fun _ _=>by simp);have ai:=C.below E;have RA:=R1.below E;replace hS:=hS.below E;replace hg:=z0e hg (E.mono hg.size)
  go_wp2
  refine ThenX.to ⟨Or.inr ⟨⟨_,by subst hP;exact ai⟩,rfl⟩,?_⟩;have Z:=ab.1;refine onX 5 2 rfl (by kernel_rfl) ?_;have aj:Hid (qu.length≤1000):=by have:=HN.out;dsimp only[RepQ.n]at this;show _≤_;omega
  refine wpList_append_own_at _ rfl _ _ 55 rfl 0 137 i0 (.slice none 0 0) 1 24 Tryz.underlying55 hi aw ax ay rfl (by decide) _ qu.length (ussK.row qu) rfl Z ⟨X1.heap.size,0,none⟩ 1 1 [.slice a us.length c] rfl rfl ?c1 ?c2 ?c3 ?c4 ?c5 ?_
  case c1=>intro j u hj;match j,hj with|0,hj=>simp at hj;subst hj;simp[Addr.add]
  case c2=>intro u hu;simp at hu;subst hu;rfl
  case c3=>have:=aj.out;unfold maxLen;omega
  case c4=>have:=aj.out;omega
  case c5=>first|omega|simp
  intro v' X5 O I ar ae;clear ar Z;have ao:w.heap.size≤(X1.alloc (.cells #[.slice a us.length c] 137)).heap.size:=hg.size;have aO:X1.heap.size≤(X1.alloc (.cells #[.slice a us.length c] 137)).heap.size:=E.size;generalize aJ:X1.alloc (.cells #[.slice a us.length c] 137)=WA at*;clear aJ;obtain⟨aa,aG,aq,J⟩:=ab.snoc (B:=w.heap.size) ND.2.1 (fun k hk=>by have:=(d k (rep_mem.2 (Or.inr (Or.inr (Or.inr (Or.inl hk)))))).1;omega) al ne aD (fun k hk=>by have:=fe k hk;omega) ao O I ae;obtain⟨a5,k5,av⟩:=aa.shape;rw[List.length_append,List.length_singleton]at av;subst av;have bl:∀k∈blk (.slice s3 qu.length t3),k∈ussK.fp (.slice s3 qu.length t3) qu:=fun k hk=>by simp only[Kind.fp,List.mem_append];exact Or.inl hk
  have aC:g∉blk (.slice s3 qu.length t3):=fun hk=>by have hk:=bl _ hk;exact(d g (rep_mem.2 (Or.inr (Or.inr (Or.inr (Or.inl hk)))))).2 rfl
  have aK:w.heap.size∉blk (.slice s3 qu.length t3):=fun hk=>by have hk:=bl _ hk;have:=(d _ (rep_mem.2 (Or.inr (Or.inr (Or.inr (Or.inl hk)))))).1;omega
  have ak:Below w.heap.size WA X5:=Out.keep (Below.refl _ _) J ao (fun k hk=>by have hk:=bl _ hk;have:=(d _ (rep_mem.2 (Or.inr (Or.inr (Or.inr (Or.inl hk)))))).1;omega);replace hS:=hS.low ak N.2;replace hg:=z0e hg ak;have U:=ai.outs8 J aC;have R5:=RA.outs8 J aK;replace z:=aA;have oy:repK.own X5 (⟨.slice s0 qd.length t0,qd,.slice s1 qb.length t1,qb,.slice s2 qt.length t2,qt,.slice a5 (qu.length+1) k5,qu++[(⟨.slice a us.length c,us⟩:USQ)],.slice s4 qn.length t4,qn⟩:RepQ):=⟨z.1.out J (fun k hk x=>ND.2.2.1 k hk (bl k x)),z.2.1.out J (fun k hk x=>ND.2.2.2.1 k hk (bl k x)),z.2.2.1.out J (fun k hk x=>ND.2.2.2.2.1 k hk (bl k x)),aa,z.2.2.2.2.out J (fun k hk x=>ND.2.2.2.2.2 k hk (bl k x))⟩
  have V:∀k∈ussK.fp (.slice a5 (qu.length+1) k5) (qu++[(⟨.slice a us.length c,us⟩:USQ)]),w.heap.size<k∧k≠g:=fun k hk=>by
   have hm:=z7F ae hk;rcases hm with hk|hk|rfl
   ·exact d k (rep_mem.2 (Or.inr (Or.inr (Or.inr (Or.inl hk)))))
   ·have:=fe k hk;omega
   ·have:=aL;omega
  have lz:∀k∈repK.foot (⟨.slice s0 qd.length t0,qd,.slice s1 qb.length t1,qb,.slice s2 qt.length t2,qt,.slice a5 (qu.length+1) k5,qu++[(⟨.slice a us.length c,us⟩:USQ)],.slice s4 qn.length t4,qn⟩:RepQ),w.heap.size<k:=fun k hk=>by
   rcases rep_mem.1 hk with hk|hk|hk|hk|hk
   ·exact(d k (rep_mem.2 (Or.inl hk))).1
   ·exact(d k (rep_mem.2 (Or.inr (Or.inl hk)))).1
   ·exact(d k (rep_mem.2 (Or.inr (Or.inr (Or.inl hk))))).1
   ·exact(V k hk).1
   ·exact(d k (rep_mem.2 (Or.inr (Or.inr (Or.inr (Or.inr hk)))))).1
  have gy:∀k∈repK.foot (⟨.slice s0 qd.length t0,qd,.slice s1 qb.length t1,qb,.slice s2 qt.length t2,qt,.slice a5 (qu.length+1) k5,qu++[(⟨.slice a us.length c,us⟩:USQ)],.slice s4 qn.length t4,qn⟩:RepQ),k≠g:=fun k hk=>by
   rcases rep_mem.1 hk with hk|hk|hk|hk|hk
   ·exact(d k (rep_mem.2 (Or.inl hk))).2
   ·exact(d k (rep_mem.2 (Or.inr (Or.inl hk)))).2
   ·exact(d k (rep_mem.2 (Or.inr (Or.inr (Or.inl hk))))).2
   ·exact(V k hk).2
   ·exact(d k (rep_mem.2 (Or.inr (Or.inr (Or.inr (Or.inr hk)))))).2
  go_wp2
  refine ThenX.to ⟨Or.inr ⟨⟨_,by subst hP;exact U⟩,rfl⟩,?_⟩;refine onX 6 1 rfl (by kernel_rfl) ?_
  go_wp2
  refine ThenX.to ⟨Or.inr ⟨⟨_,by subst hP;exact U⟩,rfl⟩,?_⟩;refine onX 7 0 rfl (by kernel_rfl) ?_;have k1:=U.cell 3 _ rfl;have k2:=U.frozen 3;have oz:=repK.own_out oy (Out.setCell X5 g 3 (.slice a5 (qu.length+1) k5)) (fun k hk x=>by simp only[List.mem_singleton]at x;exact gy k hk x);have Bz:Blk (X5.setCell ⟨g,3,none⟩ (.slice a5 (qu.length+1) k5)) g 57 #[.slice s0 qd.length t0,.slice s1 qb.length t1,.slice s2 qt.length t2,.slice a5 (qu.length+1) k5,.slice s4 qn.length t4]:=by
   have:=U.set 3 (.slice a5 (qu.length+1) k5);simpa using this
  have Rz:=R5.other (b':=g) (by omega) 3 (.slice a5 (qu.length+1) k5);have sz:=hS.low ((Below.refl w.heap.size X5).setCell (p:=⟨g,3,none⟩) (by show w.heap.size≤g;omega) (.slice a5 (qu.length+1) k5)) N.2;have gz:=z0e hg ((Below.refl w.heap.size X5).setCell (p:=⟨g,3,none⟩) (by show w.heap.size≤g;omega) (.slice a5 (qu.length+1) k5));have nz:RepQ.n (⟨.slice s0 qd.length t0,qd,.slice s1 qb.length t1,qb,.slice s2 qt.length t2,qt,.slice a5 (qu.length+1) k5,qu++[(⟨.slice a us.length c,us⟩:USQ)],.slice s4 qn.length t4,qn⟩:RepQ)≤3000:=by
   have:=HN.out;dsimp only[RepQ.n]at this⊢;have e1:nmL USQ.n (qu++[(⟨.slice a us.length c,us⟩:USQ)])=nmL USQ.n qu+us.length:=by simp[nmL,USQ.n]
   rw[e1,List.length_append,List.length_singleton];omega
  clear oy gy V aa aG aq J aA ab al O I ae;generalize qu++[(⟨.slice a us.length c,us⟩:USQ)]=ls at*
  go_wp2
  clear k1 k2;refine ThenX.to ⟨Or.inl (by kernel_rfl),?_⟩;refine z6X (by kernel_rfl) ?_;have Rr:=Rz.row #[.slice s0 qd.length t0,.slice s1 qb.length t1,.slice s2 qt.length t2,.slice a5 (qu.length+1) k5,.slice s4 qn.length t4];have D:=z0r (X5.setCell ⟨g,3,none⟩ (.slice a5 (qu.length+1) k5)) w.heap.size #[.slice s0 qd.length t0,.slice s1 qb.length t1,.slice s2 qt.length t2,.slice a5 (qu.length+1) k5,.slice s4 qn.length t4];have A:=z0o (g:=w.heap.size) (Below.refl w.heap.size (X5.setCell ⟨g,3,none⟩ (.slice a5 (qu.length+1) k5))) (Nat.le_refl _) #[.slice s0 qd.length t0,.slice s1 qb.length t1,.slice s2 qt.length t2,.slice a5 (qu.length+1) k5,.slice s4 qn.length t4];have HZ:Hid (repK.own ((X5.setCell ⟨g,3,none⟩ (.slice a5 (qu.length+1) k5)).setRow w.heap.size #[.slice s0 qd.length t0,.slice s1 qb.length t1,.slice s2 qt.length t2,.slice a5 (qu.length+1) k5,.slice s4 qn.length t4]) (⟨.slice s0 qd.length t0,qd,.slice s1 qb.length t1,qb,.slice s2 qt.length t2,qt,.slice a5 (qu.length+1) k5,ls,.slice s4 qn.length t4,qn⟩:RepQ)∧Src B ((X5.setCell ⟨g,3,none⟩ (.slice a5 (qu.length+1) k5)).setRow w.heap.size #[.slice s0 qd.length t0,.slice s1 qb.length t1,.slice s2 qt.length t2,.slice a5 (qu.length+1) k5,.slice s4 qn.length t4]) b (T+400)∧w.grownBy ((X5.setCell ⟨g,3,none⟩ (.slice a5 (qu.length+1) k5)).setRow w.heap.size #[.slice s0 qd.length t0,.slice s1 qb.length t1,.slice s2 qt.length t2,.slice a5 (qu.length+1) k5,.slice s4 qn.length t4]) (some b)):=⟨repK.own_out oz D (fun k hk x=>by simp only[List.mem_singleton]at x;have:=lz k hk;omega),(sz.low A N.2).mono (by omega),z0e gz A⟩
  have HQ:Hid (RepQ.n (⟨.slice s0 qd.length t0,qd,.slice s1 qb.length t1,qb,.slice s2 qt.length t2,qt,.slice a5 (qu.length+1) k5,ls,.slice s4 qn.length t4,qn⟩:RepQ)≤3000∧∀k∈repK.foot (⟨.slice s0 qd.length t0,qd,.slice s1 qb.length t1,qb,.slice s2 qt.length t2,qt,.slice a5 (qu.length+1) k5,ls,.slice s4 qn.length t4,qn⟩:RepQ),w.heap.size≤k):=⟨nz,fun k hk=>by have:=lz k hk;omega⟩
  obtain⟨p0,p1,p2,p3,p4⟩:=Bz.cel5;clear oz lz sz gz nz D A
  go_wp2_with (first|(refine z0C (by kernel_rfl) 57 _ _ rfl _ #[.slice s0 qd.length t0,.slice s1 qb.length t1,.slice s2 qt.length t2,.slice a5 (qu.length+1) k5,.slice s4 qn.length t4] rfl rfl 57 _ Rz z1l rfl (by simp[Value.oneCell']) ?_))
  obtain⟨q0,q1,q2,q3,q4⟩:=Rr.cel5;exact bodyPost_ret (v:=.agg #[.slice s0 qd.length t0,.slice s1 qb.length t1,.slice s2 qt.length t2,.slice a5 (qu.length+1) k5,.slice s4 qn.length t4]) (by simp[results,Tryz.results69,go_sem,q0,q1,q2,q3,q4]) rfl ⟨(⟨.slice s0 qd.length t0,qd,.slice s1 qb.length t1,qb,.slice s2 qt.length t2,qt,.slice a5 (qu.length+1) k5,ls,.slice s4 qn.length t4,qn⟩:RepQ),rfl,HQ.out.1,HZ.out.1,HQ.out.2,HZ.out.2.1,HZ.out.2.2⟩
 by_cases aB:r=3
 ·subst aB;clear ag ah au;obtain⟨i0,hi,aw,ax,ay⟩:=info_parts z0O;have ND:=nd5 nq;have ad:Blk X g 57 #[.slice s0 qd.length t0,.slice s1 qb.length t1,.slice s2 qt.length t2,.slice s3 qu.length t3,.slice s4 qn.length t4]:=Bx;generalize hP:(fun u:World=>Blk u g 57 #[.slice s0 qd.length t0,.slice s1 qb.length t1,.slice s2 qt.length t2,.slice s3 qu.length t3,.slice s4 qn.length t4])=PP;have am:PP X:=by subst hP;exact ad
  have cc:∀u:KeepP PP,u.val.cell? ⟨g,2,none⟩=some (.slice s2 qt.length t2):=fun u=>by have:=u.isP;subst hP;exact this.cell 2 _ rfl
  have aH:Nonempty (KeepP PP):=⟨⟨X,am⟩⟩
  go_wp2_with fail
  refine z1S (S:=fun w'=>∃u:KeepP PP,w'=u.val) (R:=fun _ _=>False) 7 (by kernel_rfl) (fun _ _ _ _ h=>h.elim) ?_;have an:PP X.drew:=by subst hP;exact ad
  refine sgX [(0,3)] 5 (by kernel_rfl) ⟨⟨X.drew,an⟩,rfl⟩ ?_;simp only[pkE];repeat go_big_quiet_step (fail)
  refine wpQuiet_nil ?_;have M:Below X.heap.size X X.drew:=(Below.refl _ _).drew;replace oq:=repK.own_out (F:=[]) oq (Out.of_below M) (fun _ _=>by simp);replace hS:=hS.below M;replace hg:=z0e hg (M.mono hg.size);replace R0:=R0.below M;replace Bx:=Bx.below M;have aP:X.heap.size≤X.drew.heap.size:=M.size;clear M an cc aH am ad;generalize X.drew=Xd at*;refine clX 3 (some 32) 107 #[.pointer (some ⟨b,0,none⟩)] 4 (by kernel_rfl) rfl ?_;refine(z4r B b (T+301) Xd hS (by omega)).mono ?_;rintro e X1 ⟨i,s,q9,a,c,xs,rfl,aU,ho,L,y⟩;have aE:=y.size;have C:=Bx.grown y (by simp only[ne_eq,Option.some.injEq];omega);have R1:=R0.grown y (by simp only[ne_eq,Option.some.injEq];omega);have aF:=oq.2.2.1.lt;have z:=repK.own_out oq (Out.of_grown y) (fun k hk x=>by simp only[Option.toList,List.mem_singleton]at x;have:=(d k hk).1;omega);obtain⟨o0,Y⟩:=z0y ho;have oe:txnK.own X1 (⟨i,s,q9,.slice a xs.length c,xs⟩:TxnQ):=⟨o0,fun _ _=>trivial⟩
  have fe:∀k∈txnK.foot (⟨i,s,q9,.slice a xs.length c,xs⟩:TxnQ),Xd.heap.size≤k:=fun k hk=>Y k (by rw[←z0Y (.slice a xs.length c) xs];exact hk)
  have ne:(txnK.foot (⟨i,s,q9,.slice a xs.length c,xs⟩:TxnQ)).Nodup:=by
   show(actK.fp _ _).Nodup;rw[z0Y];exact z0D _
  have aD:∀k∈txnK.foot (⟨i,s,q9,.slice a xs.length c,xs⟩:TxnQ),k∉txnK.fp (.slice s2 qt.length t2) qt:=fun k hk x=>by
   have h1:=aF k x;have h2:=fe k hk;omega
  replace hg:=hg.trans y;replace hS:=L;refine Or.inl ⟨_,rfl,⟨⟨X1,by subst hP;exact C⟩,rfl⟩,?_⟩;simp only[Act.put,pjE];refine onX 4 3 rfl (by kernel_rfl) ?_;have E:Below X1.heap.size X1 (X1.alloc (.cells #[.int .i64 i,.int .i64 s,.int .i64 q9,.slice a xs.length c] 44)):=by go_grown
  have ab:=z.2.2.1.below E;have al:=txnK.own_out (F:=[]) oe (Out.of_below E) (fun _ _=>by simp);have aA:=repK.own_out (F:=[]) z (Out.of_below E) (fun _ _=>by simp);have ai:=C.below E;have RA:=R1.below E;replace hS:=hS.below E;replace hg:=z0e hg (E.mono hg.size)
  go_wp2
  refine ThenX.to ⟨Or.inr ⟨⟨_,by subst hP;exact ai⟩,rfl⟩,?_⟩;have Z:=ab.1;refine onX 5 2 rfl (by kernel_rfl) ?_;have aj:Hid (qt.length≤1000):=by have:=HN.out;dsimp only[RepQ.n]at this;show _≤_;omega
  refine wpList_append_own_at _ rfl _ _ 27 rfl 0 44 i0 (.agg #[.int .i64 0,.int .i64 0,.int .i64 0,.slice none 0 0]) 4 48 Tryz.underlying27 hi aw ax ay rfl (by decide) _ qt.length (txnK.row qt) rfl Z ⟨X1.heap.size,0,none⟩ 1 1 [.int .i64 i,.int .i64 s,.int .i64 q9,.slice a xs.length c] rfl rfl ?c1 ?c2 ?c3 ?c4 ?c5 ?_
  case c1=>intro j u hj;match j,hj with|0,hj=>simp at hj;subst hj;simp[Addr.add]|1,hj=>simp at hj;subst hj;simp[Addr.add]|2,hj=>simp at hj;subst hj;simp[Addr.add]|3,hj=>simp at hj;subst hj;simp[Addr.add]
  case c2=>intro u hu;simp at hu;rcases hu with rfl|rfl|rfl|rfl<;>rfl
  case c3=>have:=aj.out;unfold maxLen;omega
  case c4=>have:=aj.out;omega
  case c5=>first|omega|simp
  intro v' X5 O I ar ae;clear ar Z;have ao:w.heap.size≤(X1.alloc (.cells #[.int .i64 i,.int .i64 s,.int .i64 q9,.slice a xs.length c] 44)).heap.size:=hg.size;have aO:X1.heap.size≤(X1.alloc (.cells #[.int .i64 i,.int .i64 s,.int .i64 q9,.slice a xs.length c] 44)).heap.size:=E.size;generalize aJ:X1.alloc (.cells #[.int .i64 i,.int .i64 s,.int .i64 q9,.slice a xs.length c] 44)=WA at*;clear aJ;obtain⟨aa,aG,aq,J⟩:=ab.snoc (B:=w.heap.size) ND.1.1 (fun k hk=>by have:=(d k (rep_mem.2 (Or.inr (Or.inr (Or.inl hk))))).1;omega) al ne aD (fun k hk=>by have:=fe k hk;omega) ao O I ae;obtain⟨a5,k5,av⟩:=aa.shape;rw[List.length_append,List.length_singleton]at av;subst av;have bl:∀k∈blk (.slice s2 qt.length t2),k∈txnK.fp (.slice s2 qt.length t2) qt:=fun k hk=>by simp only[Kind.fp,List.mem_append];exact Or.inl hk
  have aC:g∉blk (.slice s2 qt.length t2):=fun hk=>by have hk:=bl _ hk;exact(d g (rep_mem.2 (Or.inr (Or.inr (Or.inl hk))))).2 rfl
  have aK:w.heap.size∉blk (.slice s2 qt.length t2):=fun hk=>by have hk:=bl _ hk;have:=(d _ (rep_mem.2 (Or.inr (Or.inr (Or.inl hk))))).1;omega
  have ak:Below w.heap.size WA X5:=Out.keep (Below.refl _ _) J ao (fun k hk=>by have hk:=bl _ hk;have:=(d _ (rep_mem.2 (Or.inr (Or.inr (Or.inl hk))))).1;omega);replace hS:=hS.low ak N.2;replace hg:=z0e hg ak;have U:=ai.outs8 J aC;have R5:=RA.outs8 J aK;replace z:=aA;have oy:repK.own X5 (⟨.slice s0 qd.length t0,qd,.slice s1 qb.length t1,qb,.slice a5 (qt.length+1) k5,qt++[(⟨i,s,q9,.slice a xs.length c,xs⟩:TxnQ)],.slice s3 qu.length t3,qu,.slice s4 qn.length t4,qn⟩:RepQ):=⟨z.1.out J (fun k hk x=>ND.1.2.1 k hk (bl k x)),z.2.1.out J (fun k hk x=>ND.1.2.2.1 k hk (bl k x)),aa,z.2.2.2.1.out J (fun k hk x=>ND.1.2.2.2.1 k hk (bl k x)),z.2.2.2.2.out J (fun k hk x=>ND.1.2.2.2.2 k hk (bl k x))⟩
  have V:∀k∈txnK.fp (.slice a5 (qt.length+1) k5) (qt++[(⟨i,s,q9,.slice a xs.length c,xs⟩:TxnQ)]),w.heap.size<k∧k≠g:=fun k hk=>by
   have hm:=z7F ae hk;rcases hm with hk|hk|rfl
   ·exact d k (rep_mem.2 (Or.inr (Or.inr (Or.inl hk))))
   ·have:=fe k hk;omega
   ·have:=aL;omega
  have lz:∀k∈repK.foot (⟨.slice s0 qd.length t0,qd,.slice s1 qb.length t1,qb,.slice a5 (qt.length+1) k5,qt++[(⟨i,s,q9,.slice a xs.length c,xs⟩:TxnQ)],.slice s3 qu.length t3,qu,.slice s4 qn.length t4,qn⟩:RepQ),w.heap.size<k:=fun k hk=>by
   rcases rep_mem.1 hk with hk|hk|hk|hk|hk
   ·exact(d k (rep_mem.2 (Or.inl hk))).1
   ·exact(d k (rep_mem.2 (Or.inr (Or.inl hk)))).1
   ·exact(V k hk).1
   ·exact(d k (rep_mem.2 (Or.inr (Or.inr (Or.inr (Or.inl hk)))))).1
   ·exact(d k (rep_mem.2 (Or.inr (Or.inr (Or.inr (Or.inr hk)))))).1
  have gy:∀k∈repK.foot (⟨.slice s0 qd.length t0,qd,.slice s1 qb.length t1,qb,.slice a5 (qt.length+1) k5,qt++[(⟨i,s,q9,.slice a xs.length c,xs⟩:TxnQ)],.slice s3 qu.length t3,qu,.slice s4 qn.length t4,qn⟩:RepQ),k≠g:=fun k hk=>by
   rcases rep_mem.1 hk with hk|hk|hk|hk|hk
   ·exact(d k (rep_mem.2 (Or.inl hk))).2
   ·exact(d k (rep_mem.2 (Or.inr (Or.inl hk)))).2
   ·exact(V k hk).2
   ·exact(d k (rep_mem.2 (Or.inr (Or.inr (Or.inr (Or.inl hk)))))).2
   ·exact(d k (rep_mem.2 (Or.inr (Or.inr (Or.inr (Or.inr hk)))))).2
  go_wp2
  refine ThenX.to ⟨Or.inr ⟨⟨_,by subst hP;exact U⟩,rfl⟩,?_⟩;refine onX 6 1 rfl (by kernel_rfl) ?_
  go_wp2
  refine ThenX.to ⟨Or.inr ⟨⟨_,by subst hP;exact U⟩,rfl⟩,?_⟩;refine onX 7 0 rfl (by kernel_rfl) ?_;have k1:=U.cell 2 _ rfl;have k2:=U.frozen 2;have oz:=repK.own_out oy (Out.setCell X5 g 2 (.slice a5 (qt.length+1) k5)) (fun k hk x=>by simp only[List.mem_singleton]at x;exact gy k hk x);have Bz:Blk (X5.setCell ⟨g,2,none⟩ (.slice a5 (qt.length+1) k5)) g 57 #[.slice s0 qd.length t0,.slice s1 qb.length t1,.slice a5 (qt.length+1) k5,.slice s3 qu.length t3,.slice s4 qn.length t4]:=by
   have:=U.set 2 (.slice a5 (qt.length+1) k5);simpa using this
  have Rz:=R5.other (b':=g) (by omega) 2 (.slice a5 (qt.length+1) k5);have sz:=hS.low ((Below.refl w.heap.size X5).setCell (p:=⟨g,2,none⟩) (by show w.heap.size≤g;omega) (.slice a5 (qt.length+1) k5)) N.2;have gz:=z0e hg ((Below.refl w.heap.size X5).setCell (p:=⟨g,2,none⟩) (by show w.heap.size≤g;omega) (.slice a5 (qt.length+1) k5));have nz:RepQ.n (⟨.slice s0 qd.length t0,qd,.slice s1 qb.length t1,qb,.slice a5 (qt.length+1) k5,qt++[(⟨i,s,q9,.slice a xs.length c,xs⟩:TxnQ)],.slice s3 qu.length t3,qu,.slice s4 qn.length t4,qn⟩:RepQ)≤3000:=by
   have:=HN.out;dsimp only[RepQ.n]at this⊢;have e1:nmL TxnQ.n (qt++[(⟨i,s,q9,.slice a xs.length c,xs⟩:TxnQ)])=nmL TxnQ.n qt+xs.length:=by simp[nmL,TxnQ.n]
   rw[e1,List.length_append,List.length_singleton];omega
  clear oy gy V aa aG aq J aA ab al O I ae;generalize qt++[(⟨i,s,q9,.slice a xs.length c,xs⟩:TxnQ)]=ls at*
  go_wp2
  clear k1 k2;refine ThenX.to ⟨Or.inl (by kernel_rfl),?_⟩;refine z6X (by kernel_rfl) ?_;have Rr:=Rz.row #[.slice s0 qd.length t0,.slice s1 qb.length t1,.slice a5 (qt.length+1) k5,.slice s3 qu.length t3,.slice s4 qn.length t4];have D:=z0r (X5.setCell ⟨g,2,none⟩ (.slice a5 (qt.length+1) k5)) w.heap.size #[.slice s0 qd.length t0,.slice s1 qb.length t1,.slice a5 (qt.length+1) k5,.slice s3 qu.length t3,.slice s4 qn.length t4];have A:=z0o (g:=w.heap.size) (Below.refl w.heap.size (X5.setCell ⟨g,2,none⟩ (.slice a5 (qt.length+1) k5))) (Nat.le_refl _) #[.slice s0 qd.length t0,.slice s1 qb.length t1,.slice a5 (qt.length+1) k5,.slice s3 qu.length t3,.slice s4 qn.length t4];have HZ:Hid (repK.own ((X5.setCell ⟨g,2,none⟩ (.slice a5 (qt.length+1) k5)).setRow w.heap.size #[.slice s0 qd.length t0,.slice s1 qb.length t1,.slice a5 (qt.length+1) k5,.slice s3 qu.length t3,.slice s4 qn.length t4]) (⟨.slice s0 qd.length t0,qd,.slice s1 qb.length t1,qb,.slice a5 (qt.length+1) k5,ls,.slice s3 qu.length t3,qu,.slice s4 qn.length t4,qn⟩:RepQ)∧Src B ((X5.setCell ⟨g,2,none⟩ (.slice a5 (qt.length+1) k5)).setRow w.heap.size #[.slice s0 qd.length t0,.slice s1 qb.length t1,.slice a5 (qt.length+1) k5,.slice s3 qu.length t3,.slice s4 qn.length t4]) b (T+400)∧w.grownBy ((X5.setCell ⟨g,2,none⟩ (.slice a5 (qt.length+1) k5)).setRow w.heap.size #[.slice s0 qd.length t0,.slice s1 qb.length t1,.slice a5 (qt.length+1) k5,.slice s3 qu.length t3,.slice s4 qn.length t4]) (some b)):=⟨repK.own_out oz D (fun k hk x=>by simp only[List.mem_singleton]at x;have:=lz k hk;omega),(sz.low A N.2).mono (by omega),z0e gz A⟩
  have HQ:Hid (RepQ.n (⟨.slice s0 qd.length t0,qd,.slice s1 qb.length t1,qb,.slice a5 (qt.length+1) k5,ls,.slice s3 qu.length t3,qu,.slice s4 qn.length t4,qn⟩:RepQ)≤3000∧∀k∈repK.foot (⟨.slice s0 qd.length t0,qd,.slice s1 qb.length t1,qb,.slice a5 (qt.length+1) k5,ls,.slice s3 qu.length t3,qu,.slice s4 qn.length t4,qn⟩:RepQ),w.heap.size≤k):=⟨nz,fun k hk=>by have:=lz k hk;omega⟩
  obtain⟨p0,p1,p2,p3,p4⟩:=Bz.cel5;clear oz lz sz gz nz D A
  go_wp2_with (first|(refine z0C (by kernel_rfl) 57 _ _ rfl _ #[.slice s0 qd.length t0,.slice s1 qb.length t1,.slice a5 (qt.length+1) k5,.slice s3 qu.length t3,.slice s4 qn.length t4] rfl rfl 57 _ Rz z1l rfl (by simp[Value.oneCell']) ?_))
  obtain⟨q0,q1,q2,q3,q4⟩:=Rr.cel5;exact bodyPost_ret (v:=.agg #[.slice s0 qd.length t0,.slice s1 qb.length t1,.slice a5 (qt.length+1) k5,.slice s3 qu.length t3,.slice s4 qn.length t4]) (by simp[results,Tryz.results69,go_sem,q0,q1,q2,q3,q4]) rfl ⟨(⟨.slice s0 qd.length t0,qd,.slice s1 qb.length t1,qb,.slice a5 (qt.length+1) k5,ls,.slice s3 qu.length t3,qu,.slice s4 qn.length t4,qn⟩:RepQ),rfl,HQ.out.1,HZ.out.1,HQ.out.2,HZ.out.2.1,HZ.out.2.2⟩
 by_cases aI:r=4
 ·subst aI;clear ag ah au aB;obtain⟨i0,hi,aw,ax,ay⟩:=info_parts z0O;have aQ:i0.bytes*17≤281474976710656:=by rw[ay];omega
  have aS:17≤maxLen:=by unfold maxLen;omega
  go_wp2_with (at_make;refine wpList_make_full _ rfl _ _ 27 rfl X.heap.size 44 i0 (.agg #[.int .i64 0,.int .i64 0,.int .i64 0,.slice none 0 0]) 4 Tryz.underlying27 hi aw ax _ _ _ _ 17 rfl rfl rfl rfl aQ aS (Nat.le_refl _) ?_)
  intro X1 O I;have af:Below X.heap.size X X1:=(Below.refl _ _).grown I (Nat.le_refl _) (by simp);obtain⟨o0,_⟩:=z0y O;have oN:txnK.Own X1 (.slice (some ⟨X.heap.size,0,none⟩) 17 17) (List.replicate 17 (⟨0,0,0,.slice none 0 0,[]⟩:TxnQ)):=by
   refine⟨?_,fun p hp=>by rw[List.eq_of_mem_replicate hp];exact z76 _⟩;rw[←z7J (K:=txnK) _ _ (by decide),List.length_replicate];exact o0
  have fN:∀k∈txnK.fp (.slice (some ⟨X.heap.size,0,none⟩) 17 17) (List.replicate 17 (⟨0,0,0,.slice none 0 0,[]⟩:TxnQ)),k=X.heap.size:=fun k hk=>by
   have e:txnK.fp (.slice (some ⟨X.heap.size,0,none⟩) 17 17) (List.replicate 17 (⟨0,0,0,.slice none 0 0,[]⟩:TxnQ))=[X.heap.size]:=z8T (K:=txnK) (by rfl);rw[e]at hk;simpa using hk
  have z:=repK.own_out (F:=[]) oq (Out.of_below af) (fun _ _=>by simp);have bb:=af.size;have C:=Bx.below af;have R1:=R0.below af;have k1:=C.cell 0 _ rfl;have k2:=C.frozen 0;have oy:repK.own X1 (⟨.slice (some ⟨X.heap.size,0,none⟩) 17 17,List.replicate 17 (⟨0,0,0,.slice none 0 0,[]⟩:TxnQ),.slice s1 qb.length t1,qb,.slice s2 qt.length t2,qt,.slice s3 qu.length t3,qu,.slice s4 qn.length t4,qn⟩:RepQ):=⟨oN,z.2⟩
  have lz:∀k∈repK.foot (⟨.slice (some ⟨X.heap.size,0,none⟩) 17 17,List.replicate 17 (⟨0,0,0,.slice none 0 0,[]⟩:TxnQ),.slice s1 qb.length t1,qb,.slice s2 qt.length t2,qt,.slice s3 qu.length t3,qu,.slice s4 qn.length t4,qn⟩:RepQ),w.heap.size<k:=fun k hk=>by
   rcases rep_mem.1 hk with hk|hk|hk|hk|hk
   ·have:=fN k hk;omega
   ·exact(d k (rep_mem.2 (Or.inr (Or.inl hk)))).1
   ·exact(d k (rep_mem.2 (Or.inr (Or.inr (Or.inl hk))))).1
   ·exact(d k (rep_mem.2 (Or.inr (Or.inr (Or.inr (Or.inl hk)))))).1
   ·exact(d k (rep_mem.2 (Or.inr (Or.inr (Or.inr (Or.inr hk)))))).1
  have gy:∀k∈repK.foot (⟨.slice (some ⟨X.heap.size,0,none⟩) 17 17,List.replicate 17 (⟨0,0,0,.slice none 0 0,[]⟩:TxnQ),.slice s1 qb.length t1,qb,.slice s2 qt.length t2,qt,.slice s3 qu.length t3,qu,.slice s4 qn.length t4,qn⟩:RepQ),k≠g:=fun k hk=>by
   rcases rep_mem.1 hk with hk|hk|hk|hk|hk
   ·have:=fN k hk;omega
   ·exact(d k (rep_mem.2 (Or.inr (Or.inl hk)))).2
   ·exact(d k (rep_mem.2 (Or.inr (Or.inr (Or.inl hk))))).2
   ·exact(d k (rep_mem.2 (Or.inr (Or.inr (Or.inr (Or.inl hk)))))).2
   ·exact(d k (rep_mem.2 (Or.inr (Or.inr (Or.inr (Or.inr hk)))))).2
  have oz:=repK.own_out oy (Out.setCell X1 g 0 (.slice (some ⟨X.heap.size,0,none⟩) 17 17)) (fun k hk x=>by simp only[List.mem_singleton]at x;exact gy k hk x);have Bz:Blk (X1.setCell ⟨g,0,none⟩ (.slice (some ⟨X.heap.size,0,none⟩) 17 17)) g 57 #[.slice (some ⟨X.heap.size,0,none⟩) 17 17,.slice s1 qb.length t1,.slice s2 qt.length t2,.slice s3 qu.length t3,.slice s4 qn.length t4]:=by
   have:=C.set 0 (.slice (some ⟨X.heap.size,0,none⟩) 17 17);simpa using this
  have Rz:=R1.other (b':=g) (by omega) 0 (.slice (some ⟨X.heap.size,0,none⟩) 17 17);have sz:=(hS.below af).low ((Below.refl w.heap.size X1).setCell (p:=⟨g,0,none⟩) (by show w.heap.size≤g;omega) (.slice (some ⟨X.heap.size,0,none⟩) 17 17)) N.2;have gz:=z0e (z0e hg (af.mono hg.size)) ((Below.refl w.heap.size X1).setCell (p:=⟨g,0,none⟩) (by show w.heap.size≤g;omega) (.slice (some ⟨X.heap.size,0,none⟩) 17 17));have nz:RepQ.n (⟨.slice (some ⟨X.heap.size,0,none⟩) 17 17,List.replicate 17 (⟨0,0,0,.slice none 0 0,[]⟩:TxnQ),.slice s1 qb.length t1,qb,.slice s2 qt.length t2,qt,.slice s3 qu.length t3,qu,.slice s4 qn.length t4,qn⟩:RepQ)≤3000:=by
   have:=HN.out;dsimp only[RepQ.n]at this⊢;have e1:nmL TxnQ.n (List.replicate 17 (⟨0,0,0,.slice none 0 0,[]⟩:TxnQ))=0:=by rfl
   rw[e1,List.length_replicate];omega
  clear oy gy oN fN o0 O I af z oq nq d hS hg Bx R0;have Rr:=Rz.row #[.slice (some ⟨X.heap.size,0,none⟩) 17 17,.slice s1 qb.length t1,.slice s2 qt.length t2,.slice s3 qu.length t3,.slice s4 qn.length t4];have D:=z0r (X1.setCell ⟨g,0,none⟩ (.slice (some ⟨X.heap.size,0,none⟩) 17 17)) w.heap.size #[.slice (some ⟨X.heap.size,0,none⟩) 17 17,.slice s1 qb.length t1,.slice s2 qt.length t2,.slice s3 qu.length t3,.slice s4 qn.length t4];have A:=z0o (g:=w.heap.size) (Below.refl w.heap.size (X1.setCell ⟨g,0,none⟩ (.slice (some ⟨X.heap.size,0,none⟩) 17 17))) (Nat.le_refl _) #[.slice (some ⟨X.heap.size,0,none⟩) 17 17,.slice s1 qb.length t1,.slice s2 qt.length t2,.slice s3 qu.length t3,.slice s4 qn.length t4];have HZ:Hid (repK.own ((X1.setCell ⟨g,0,none⟩ (.slice (some ⟨X.heap.size,0,none⟩) 17 17)).setRow w.heap.size #[.slice (some ⟨X.heap.size,0,none⟩) 17 17,.slice s1 qb.length t1,.slice s2 qt.length t2,.slice s3 qu.length t3,.slice s4 qn.length t4]) (⟨.slice (some ⟨X.heap.size,0,none⟩) 17 17,List.replicate 17 (⟨0,0,0,.slice none 0 0,[]⟩:TxnQ),.slice s1 qb.length t1,qb,.slice s2 qt.length t2,qt,.slice s3 qu.length t3,qu,.slice s4 qn.length t4,qn⟩:RepQ)∧Src B ((X1.setCell ⟨g,0,none⟩ (.slice (some ⟨X.heap.size,0,none⟩) 17 17)).setRow w.heap.size #[.slice (some ⟨X.heap.size,0,none⟩) 17 17,.slice s1 qb.length t1,.slice s2 qt.length t2,.slice s3 qu.length t3,.slice s4 qn.length t4]) b (T+400)∧w.grownBy ((X1.setCell ⟨g,0,none⟩ (.slice (some ⟨X.heap.size,0,none⟩) 17 17)).setRow w.heap.size #[.slice (some ⟨X.heap.size,0,none⟩) 17 17,.slice s1 qb.length t1,.slice s2 qt.length t2,.slice s3 qu.length t3,.slice s4 qn.length t4]) (some b)):=⟨repK.own_out oz D (fun k hk x=>by simp only[List.mem_singleton]at x;have:=lz k hk;omega),(sz.low A N.2).mono (by omega),z0e gz A⟩
  have HQ:Hid (RepQ.n (⟨.slice (some ⟨X.heap.size,0,none⟩) 17 17,List.replicate 17 (⟨0,0,0,.slice none 0 0,[]⟩:TxnQ),.slice s1 qb.length t1,qb,.slice s2 qt.length t2,qt,.slice s3 qu.length t3,qu,.slice s4 qn.length t4,qn⟩:RepQ)≤3000∧∀k∈repK.foot (⟨.slice (some ⟨X.heap.size,0,none⟩) 17 17,List.replicate 17 (⟨0,0,0,.slice none 0 0,[]⟩:TxnQ),.slice s1 qb.length t1,qb,.slice s2 qt.length t2,qt,.slice s3 qu.length t3,qu,.slice s4 qn.length t4,qn⟩:RepQ),w.heap.size≤k):=⟨nz,fun k hk=>by have:=lz k hk;omega⟩
  obtain⟨p0,p1,p2,p3,p4⟩:=Bz.cel5;clear oz lz sz gz nz D A
  go_wp2_with (first|(refine z0C (by kernel_rfl) 57 _ _ rfl _ #[.slice (some ⟨X.heap.size,0,none⟩) 17 17,.slice s1 qb.length t1,.slice s2 qt.length t2,.slice s3 qu.length t3,.slice s4 qn.length t4] rfl rfl 57 _ Rz z1l rfl (by simp[Value.oneCell']) ?_))
  obtain⟨q0,q1,q2,q3,q4⟩:=Rr.cel5;exact bodyPost_ret (v:=.agg #[.slice (some ⟨X.heap.size,0,none⟩) 17 17,.slice s1 qb.length t1,.slice s2 qt.length t2,.slice s3 qu.length t3,.slice s4 qn.length t4]) (by simp[results,Tryz.results69,go_sem,q0,q1,q2,q3,q4]) rfl ⟨(⟨.slice (some ⟨X.heap.size,0,none⟩) 17 17,List.replicate 17 (⟨0,0,0,.slice none 0 0,[]⟩:TxnQ),.slice s1 qb.length t1,qb,.slice s2 qt.length t2,qt,.slice s3 qu.length t3,qu,.slice s4 qn.length t4,qn⟩:RepQ),rfl,HQ.out.1,HZ.out.1,HQ.out.2,HZ.out.2.1,HZ.out.2.2⟩
 have a2:(r==0)=false:=by simpa using ag
 have a6:(r==1)=false:=by simpa using ah
 have a7:(r==2)=false:=by simpa using au
 have a8:(r==3)=false:=by simpa using aB
 have ba:(r==4)=false:=by simpa using aI
 clear ag ah au aB aI;have oz:=oq;have Bz:=Bx;have Rz:=R0;have sz:=hS;have gz:=hg;have lz:∀k∈repK.foot (⟨.slice s0 qd.length t0,qd,.slice s1 qb.length t1,qb,.slice s2 qt.length t2,qt,.slice s3 qu.length t3,qu,.slice s4 qn.length t4,qn⟩:RepQ),w.heap.size<k:=fun k hk=>(d k hk).1
 have nz:RepQ.n (⟨.slice s0 qd.length t0,qd,.slice s1 qb.length t1,qb,.slice s2 qt.length t2,qt,.slice s3 qu.length t3,qu,.slice s4 qn.length t4,qn⟩:RepQ)≤3000:=by have:=HN.out;omega
 clear oq Bx R0 hS hg nq d;have Rr:=Rz.row #[.slice s0 qd.length t0,.slice s1 qb.length t1,.slice s2 qt.length t2,.slice s3 qu.length t3,.slice s4 qn.length t4];have D:=z0r (X) w.heap.size #[.slice s0 qd.length t0,.slice s1 qb.length t1,.slice s2 qt.length t2,.slice s3 qu.length t3,.slice s4 qn.length t4];have A:=z0o (g:=w.heap.size) (Below.refl w.heap.size (X)) (Nat.le_refl _) #[.slice s0 qd.length t0,.slice s1 qb.length t1,.slice s2 qt.length t2,.slice s3 qu.length t3,.slice s4 qn.length t4];have HZ:Hid (repK.own ((X).setRow w.heap.size #[.slice s0 qd.length t0,.slice s1 qb.length t1,.slice s2 qt.length t2,.slice s3 qu.length t3,.slice s4 qn.length t4]) (⟨.slice s0 qd.length t0,qd,.slice s1 qb.length t1,qb,.slice s2 qt.length t2,qt,.slice s3 qu.length t3,qu,.slice s4 qn.length t4,qn⟩:RepQ)∧Src B ((X).setRow w.heap.size #[.slice s0 qd.length t0,.slice s1 qb.length t1,.slice s2 qt.length t2,.slice s3 qu.length t3,.slice s4 qn.length t4]) b (T+400)∧w.grownBy ((X).setRow w.heap.size #[.slice s0 qd.length t0,.slice s1 qb.length t1,.slice s2 qt.length t2,.slice s3 qu.length t3,.slice s4 qn.length t4]) (some b)):=⟨repK.own_out oz D (fun k hk x=>by simp only[List.mem_singleton]at x;have:=lz k hk;omega),(sz.low A N.2).mono (by omega),z0e gz A⟩
 have HQ:Hid (RepQ.n (⟨.slice s0 qd.length t0,qd,.slice s1 qb.length t1,qb,.slice s2 qt.length t2,qt,.slice s3 qu.length t3,qu,.slice s4 qn.length t4,qn⟩:RepQ)≤3000∧∀k∈repK.foot (⟨.slice s0 qd.length t0,qd,.slice s1 qb.length t1,qb,.slice s2 qt.length t2,qt,.slice s3 qu.length t3,qu,.slice s4 qn.length t4,qn⟩:RepQ),w.heap.size≤k):=⟨nz,fun k hk=>by have:=lz k hk;omega⟩
 obtain⟨p0,p1,p2,p3,p4⟩:=Bz.cel5;clear oz lz sz gz nz D A
 go_wp2_with (first|(refine z0C (by kernel_rfl) 57 _ _ rfl _ #[.slice s0 qd.length t0,.slice s1 qb.length t1,.slice s2 qt.length t2,.slice s3 qu.length t3,.slice s4 qn.length t4] rfl rfl 57 _ Rz z1l rfl (by simp[Value.oneCell']) ?_))
 obtain⟨q0,q1,q2,q3,q4⟩:=Rr.cel5;exact bodyPost_ret (v:=.agg #[.slice s0 qd.length t0,.slice s1 qb.length t1,.slice s2 qt.length t2,.slice s3 qu.length t3,.slice s4 qn.length t4]) (by simp[results,Tryz.results69,go_sem,q0,q1,q2,q3,q4]) rfl ⟨(⟨.slice s0 qd.length t0,qd,.slice s1 qb.length t1,qb,.slice s2 qt.length t2,qt,.slice s3 qu.length t3,qu,.slice s4 qn.length t4,qn⟩:RepQ),rfl,HQ.out.1,HZ.out.1,HQ.out.2,HZ.out.2.1,HZ.out.2.2⟩
theorem TxnRow.ownK9{base:Nat}{w:World}{v:Value}{ps:List TxnP}(h:TxnRow base w v ps):txnK.Own w v (ps.map TxnP.qk):=by
 refine⟨?_,fun q hq=>?_⟩
 ·rw[List.length_map,z8e];exact z0m h.1 (Nat.zero_le _)
 ·obtain⟨p,hp,rfl⟩:=List.mem_map.1 hq;exact⟨z0m (h.2.1 p hp).1 (Nat.zero_le _),fun _ _=>trivial⟩
theorem TxnRow.lowfp9{base:Nat}{w:World}{v:Value}{ps:List TxnP}(h:TxnRow base w v ps):∀k∈txnK.fp v (ps.map TxnP.qk),base≤k:=by
 have key:∀ (e s n:Nat) (u:Value) (xs:List Value),w.ownsRow base e s u n xs→∀k∈blk u,base≤k:=by
  intro e s n u xs hu k hk;unfold blk at hk
  cases hb:u.ownBlock with
  |none=>rw[hb]at hk;simp at hk
  |some x=>
   rw[hb]at hk;simp at hk;rw[hk];exact(hu.lt x hb).1
 intro k hk;rcases List.mem_append.1 hk with hk|hk
 ·exact key _ _ _ _ _ h.1 k hk
 ·obtain⟨q,hq,hk⟩:=List.mem_flatMap.1 hk;obtain⟨p,hp,rfl⟩:=List.mem_map.1 hq;have hk2:k∈actK.fp p.sl p.d.acts:=hk;rw[z0Y]at hk2;exact key _ _ _ _ _ (h.2.1 p hp).1 k hk2
theorem z47{qs:List TxnQ}(h:∀q∈qs,q.acts.length≤5):nmL TxnQ.n qs≤5*qs.length:=by
 induction qs with
 |nil=>simp[nmL]
 |cons q r ih=>
  have h1:=ih (fun x hx=>h x (List.mem_cons_of_mem _ hx));have h2:TxnQ.n q≤5:=h q (List.mem_cons_self ..);simp only[nmL,List.map_cons,List.sum_cons,List.length_cons]at h1⊢;omega
theorem z77{P:Type}{nm:P→Nat}(qs:List P)(m:Nat):nmL nm (qs.take m)≤nmL nm qs:=by
 induction qs generalizing m with
 |nil=>simp[nmL]
 |cons q r ih=>
  cases m with
  |zero=>simp[nmL]
  |succ m=>
   have:=ih m;simp only[nmL,List.take_succ_cons,List.map_cons,List.sum_cons]at this⊢;omega
theorem z7G{d:TxnD}(h:d.F=0):0<d.acts.length:=by
 unfold TxnD.F txnF at h
 cases hd:d.acts with
 |nil=>rw[hd]at h;revert h;simp;split<;>simp
 |cons x r=>simp
theorem z87{ps qs:List TxnQ}{gs:List TxnD}(h:qs.map TxnQ.e=z2Q (ps.map TxnQ.e) gs):qs.length+nmL TxnQ.n qs≤ps.length+nmL TxnQ.n ps:=by
 have e1:∀l:List TxnQ,l.length+nmL TxnQ.n l=(l.map TxnQ.e).length+nmL TxnD.n (l.map TxnQ.e):=fun l=>by
  rw[List.length_map]
  congr 1
  simp only[nmL,List.map_map];rfl
 rw[e1 qs,e1 ps,h];generalize ps.map TxnQ.e=ds;induction ds with
 |nil=>simp[z2Q,nmL]
 |cons d r ih=>
  simp only[z2Q,List.filter_cons,nmL,List.map_cons,List.sum_cons,List.length_cons]at ih⊢;split
  ·simp only[List.map_cons,List.sum_cons,List.length_cons];omega
  ·omega
theorem z34(a0:Option Addr)(N:Nat)(zs:List Int)(w:World)(h:Row .u8 w a0 zs)(hu:∀i,0≤zs.getD i 0∧zs.getD i 0≤255)(hl:zs.length≤1048576):
  Calls Tryz.prog 27 #[.slice a0 zs.length N] w fun e w'=>∃ (q:RepQ) (v:Value) (fs:List TxnQ),e=.returned (.tuple #[.agg #[q.vd,q.vb,q.vt,q.vu,q.vn],v])∧q.n≤3000∧repK.own w' q∧txnK.Own w' v fs∧fs.length+nmL TxnQ.n fs≤3000∧Below w.heap.size w w':=by
 have hB:Below w.heap.size w (w.alloc (.cells #[.slice none 0 0,.slice none 0 0,.slice none 0 0,.slice none 0 0,.slice none 0 0] 57)):=by go_grown
 have R0:=(Blk.new w 57 #[.slice none 0 0,.slice none 0 0,.slice none 0 0,.slice none 0 0,.slice none 0 0])
 have aC:w.heap.size+0<(w.alloc (.cells #[.slice none 0 0,.slice none 0 0,.slice none 0 0,.slice none 0 0,.slice none 0 0] 57)).heap.size:=by simp only[World.size_alloc];omega
 have O:=h.below hB;go_enter Tryz.func27,Tryz.ntmps27
 go_wp2_with fail
 generalize (w.alloc (.cells #[.slice none 0 0,.slice none 0 0,.slice none 0 0,.slice none 0 0,.slice none 0 0] 57))=W at*;refine(z6w W.heap.size a0 N zs W (Nat.le_refl _) hl hu O).mono ?_;rintro e w1 ⟨rfl,hS,Y⟩;replace R0:=R0.below Y;replace hB:=hB.trans (Y.mono hB.size);generalize ay:W.heap.size=b at*;have aA:=hS.lt;clear Y O
 go_wp2_with fail
 refine(z6L b b 0 w1 hS (by omega)).mono ?_;rintro e w2 ⟨q,rfl,ai,oq,gq,z,d⟩;replace hS:=z;replace R0:=R0.grown d (by simp only[ne_eq,Option.some.injEq];omega);replace hB:=hB.grown d hB.size (fun k hk=>by simp at hk;omega);have C:∀k∈repK.foot q,b<k∧k<w2.heap.size:=fun k hk=>⟨by have:=gq k hk;omega,repK.own_lt oq k hk⟩
 have HN:Hid (q.n≤3000):=ai;have aD:b<w2.heap.size:=by have:=d.size;omega
 clear z d gq ai;obtain⟨ar,qd,aq,qb,av,qt,aw,qu,au,qn⟩:=q;obtain⟨s0,t0,rfl⟩:∃a c,ar=.slice a qd.length c:=oq.1.shape;obtain⟨s1,t1,rfl⟩:∃a c,aq=.slice a qb.length c:=oq.2.1.shape;obtain⟨s2,t2,rfl⟩:∃a c,av=.slice a qt.length c:=oq.2.2.1.shape;obtain⟨s3,t3,rfl⟩:∃a c,aw=.slice a qu.length c:=oq.2.2.2.1.shape;obtain⟨s4,t4,rfl⟩:∃a c,au=.slice a qn.length c:=oq.2.2.2.2.shape;have Bx:=Blk.new w2 57 #[.slice s0 qd.length t0,.slice s1 qb.length t1,.slice s2 qt.length t2,.slice s3 qu.length t3,.slice s4 qn.length t4];have M:Below w2.heap.size w2 (w2.alloc (.cells #[.slice s0 qd.length t0,.slice s1 qb.length t1,.slice s2 qt.length t2,.slice s3 qu.length t3,.slice s4 qn.length t4] 57)):=by go_grown
 replace oq:=repK.own_out (F:=[]) oq (Out.of_below M) (fun _ _=>by simp);replace R0:=R0.below M;replace hS:=hS.below M;have ao:w.heap.size≤w2.heap.size:=hB.size;replace hB:=hB.trans (M.mono ao);clear M
 go_wp2_with fail
 generalize w2.alloc (.cells #[.slice s0 qd.length t0,.slice s1 qb.length t1,.slice s2 qt.length t2,.slice s3 qu.length t3,.slice s4 qn.length t4] 57)=X at*;generalize az:w2.heap.size=g at*;have p2:=z0F (F:=[b]) (Bx.cell 2 _ rfl) (by simp only[List.mem_cons,List.not_mem_nil,or_false];omega);have aa:Nonempty (KeepP (Out [b] X)):=⟨⟨X,Out.refl _ _⟩⟩
 have aB:(qt.length:Int)≤3000:=by have:=HN.out;dsimp only[RepQ.n]at this;omega
 have A:Below X.heap.size X X.drew:=(Below.refl _ _).drew;have hO:Out [b] X X.drew:=Out.of_below A;refine z0h (S:=fun w'=>∃u:KeepP (Out [b] X),w'=u.val) (by kernel_rfl) ?_;refine sgr [(0,5)] 6 (by kernel_rfl) ⟨⟨_,hO⟩,rfl⟩ ?_;simp only[pkE];repeat go_big_quiet_step (fail)
 refine wpQuiet_nil ?_;clear p2;refine qta 5 (some 16) (.int .i64 qt.length) 5 (by kernel_rfl) (fun u _=>by kernel_rfl) ⟨⟨_,hO⟩,rfl⟩ ?_;simp only[Act.put,pjE];refine sgr [(6,1)] 4 (by kernel_rfl) ⟨⟨_,hO⟩,rfl⟩ ?_;simp only[pkE];repeat go_big_quiet_step (fail)
 refine wpQuiet_nil ?_;replace R0:=R0.below A;replace Bx:=Bx.below A;replace oq:=repK.own_out (F:=[]) oq (Out.of_below A) (fun _ _=>by simp);replace hB:=hB.trans (A.mono hB.size);replace hS:=hS.below A;clear A;generalize X.drew=Y0 at*;refine cla 7 (some 18) 37 #[.pointer (some ⟨b,0,none⟩),.int .i64 ((qt.length:Int)+1)] 3 (by kernel_rfl) ?_;refine(z0t b b (0+400) ((qt.length:Int)+1) Y0 hS (by omega) (by omega)).mono ?_;rintro e Y1 ⟨r,rfl,hr,z,d⟩;have J:Out [b] Y0 Y1:=Out.of_grown d;replace hO:=hO.trans J;replace R0:=R0.grown d (by simp only[ne_eq,Option.some.injEq];omega);replace Bx:=Bx.grown d (by simp only[ne_eq,Option.some.injEq];omega);replace oq:=repK.own_out oq (Out.of_grown d) (fun k hk y=>by simp only[Option.toList,List.mem_singleton]at y;have:=C k hk;omega);replace hB:=hB.grown d hB.size (fun k hk=>by simp at hk;omega);replace hS:=z;obtain⟨m,rfl⟩:=Int.eq_ofNat_of_zero_le hr.1;have hm:m≤qt.length:=by have:=hr.2.1 (by omega);omega
 clear J z d hr;refine⟨_,rfl,⟨⟨_,hO⟩,rfl⟩,?_⟩;simp only[Act.put,pjE];obtain⟨al,am⟩:qt.length≤t2∧t2≤maxLen:=oq.2.2.1.capOk;have ae:(0:Int)≤(m:Int):=by omega
 have af:(m:Int)≤(t2:Int):=by omega
 have T:∀u:World,(Instr.sliceAt 27 (.slice s2 qt.length t2) none (some (.int .i64 (m:Int))) none).run Tryz.prog u=.ok (.slice s2 m t2) u:=fun u=>by
  rw[run_sliceAt_slice u 27 _ _ _ _ (by kernel_rfl),run_slice_h u 27 s2 qt.length t2 (by kernel_rfl) .i64 (m:Int) ae af,hsz4 u];simp only[Result.andThen,sliced,Int.toNat_natCast,Nat.sub_zero,Nat.zero_mul]
  cases s2 with
  |none=>simp
  |some x=>simp[Addr.add]
 refine qta 8 (some 19) (.slice s2 m t2) 2 (by kernel_rfl) (fun u hu=>?_) ⟨⟨_,hO⟩,rfl⟩ ?_
 ·refine Eq.trans (b:=some (((Instr.sliceAt 27 (.slice s2 qt.length t2) none (some (.int .i64 (m:Int))) none)>>=fun x=>pure (Next.value x):Sem Next).run Tryz.prog u)) (by kernel_rfl) ?_;rw[Sem.run_bind,T u];rfl
 simp only[Act.put,pjE];have ad:=oq.2.2.1.at.takeK m hm;have ah:∀p∈qt.take m,z2h p:=fun p hp=>z2D (oq.2.2.1.2 p (List.mem_of_mem_take hp))
 have ag:(qt.take m).length+nmL TxnQ.n (qt.take m)≤3000:=by
  have h1:=z77 (nm:=TxnQ.n) qt m;have:=HN.out;dsimp only[RepQ.n]at this;rw[List.length_take,Nat.min_eq_left hm];omega
 clear T ae af al am;refine cla 9 (some 20) 45 #[.slice s2 m t2] 1 (by kernel_rfl) ?_;refine(z0X (.slice s2 m t2) (qt.take m) Y1 ad ah (by omega)).mono ?_;rintro e Y2 ⟨vf,fs,rfl,ef,of,_,lf,hb⟩;have nf:fs.length+nmL TxnQ.n fs≤3000:=by rw[z7y ef];exact ag
 have aE:b<Y1.heap.size:=hS.lt.2;replace lf:∀k∈txnK.fp vf fs,b<k:=fun k hk=>by have:=lf k hk;omega
 replace hO:=hO.trans (Out.of_below hb);replace R0:=R0.below hb;replace Bx:=Bx.below hb;replace oq:=repK.own_out (F:=[]) oq (Out.of_below hb) (fun _ _=>by simp);replace hB:=hB.trans (hb.mono hB.size);replace hS:=hS.below hb;clear hb ef ad ah ag;obtain⟨fa,fk,rfl⟩:=of.shape;refine⟨_,rfl,⟨⟨_,hO⟩,rfl⟩,?_⟩;simp only[Act.put,pjE];refine sgr [(10,1)] 0 (by kernel_rfl) ⟨⟨_,hO⟩,rfl⟩ ?_;simp only[pkE];repeat go_big_quiet_step (fail)
 refine wpQuiet_nil ?_;refine z0k (by kernel_rfl) ?_;clear aa hO
 go_wp2_with fail
 refine(z18 b b (0+400+1) 2 Y2 hS (by omega) (by omega)).mono ?_;rintro e Y3 ⟨ax,rfl,z,d⟩;replace R0:=R0.grown d (by simp only[ne_eq,Option.some.injEq];omega);replace Bx:=Bx.grown d (by simp only[ne_eq,Option.some.injEq];omega);replace oq:=repK.own_out oq (Out.of_grown d) (fun k hk y=>by simp only[Option.toList,List.mem_singleton]at y;have:=C k hk;omega);replace hB:=hB.grown d hB.size (fun k hk=>by simp at hk;omega);replace of:=of.out (Out.of_grown d) (fun k hk y=>by simp only[Option.toList,List.mem_singleton]at y;have:=lf k hk;omega);replace hS:=z;clear z d
 cases ax with
 |false=>
  go_wp2_with fail
  refine(z18 b b (0+400+1+1) 8 Y3 hS (by omega) (by omega)).mono ?_;rintro e Y7 ⟨t8,rfl,z,d⟩;replace R0:=R0.grown d (by simp only[ne_eq,Option.some.injEq];omega);replace Bx:=Bx.grown d (by simp only[ne_eq,Option.some.injEq];omega);replace oq:=repK.own_out oq (Out.of_grown d) (fun k hk y=>by simp only[Option.toList,List.mem_singleton]at y;have:=C k hk;omega);replace hB:=hB.grown d hB.size (fun k hk=>by simp at hk;omega);replace of:=of.out (Out.of_grown d) (fun k hk y=>by simp only[Option.toList,List.mem_singleton]at y;have:=lf k hk;omega);replace hS:=z;clear z d
  cases t8 with
  |false=>
   have Rr:=R0.row #[.slice s0 qd.length t0,.slice s1 qb.length t1,.slice s2 qt.length t2,.slice s3 qu.length t3,.slice s4 qn.length t4];have oz:=repK.own_out oq (z0r Y7 w.heap.size #[.slice s0 qd.length t0,.slice s1 qb.length t1,.slice s2 qt.length t2,.slice s3 qu.length t3,.slice s4 qn.length t4]) (fun k hk y=>by simp only[List.mem_singleton]at y;have:=C k hk;omega);have E:=of.out (z0r Y7 w.heap.size #[.slice s0 qd.length t0,.slice s1 qb.length t1,.slice s2 qt.length t2,.slice s3 qu.length t3,.slice s4 qn.length t4]) (fun k hk y=>by simp only[List.mem_singleton]at y;have:=lf k hk;omega);have D:=z0o (g:=w.heap.size) hB (Nat.le_refl _) #[.slice s0 qd.length t0,.slice s1 qb.length t1,.slice s2 qt.length t2,.slice s3 qu.length t3,.slice s4 qn.length t4];have HZ:Hid (repK.own (Y7.setRow w.heap.size #[.slice s0 qd.length t0,.slice s1 qb.length t1,.slice s2 qt.length t2,.slice s3 qu.length t3,.slice s4 qn.length t4]) (⟨.slice s0 qd.length t0,qd,.slice s1 qb.length t1,qb,.slice s2 qt.length t2,qt,.slice s3 qu.length t3,qu,.slice s4 qn.length t4,qn⟩:RepQ)∧txnK.Own (Y7.setRow w.heap.size #[.slice s0 qd.length t0,.slice s1 qb.length t1,.slice s2 qt.length t2,.slice s3 qu.length t3,.slice s4 qn.length t4]) (.slice fa fs.length fk) fs∧Below w.heap.size w (Y7.setRow w.heap.size #[.slice s0 qd.length t0,.slice s1 qb.length t1,.slice s2 qt.length t2,.slice s3 qu.length t3,.slice s4 qn.length t4])):=⟨oz,E,D⟩
   have HF:Hid (fs.length+nmL TxnQ.n fs≤3000):=nf;obtain⟨p0,p1,p2,p3,p4⟩:=Bx.cel5;clear oz E D oq of hS hB C lf nf
   go_wp2_with (first|(refine z0C (by kernel_rfl) 57 _ _ rfl _ #[.slice s0 qd.length t0,.slice s1 qb.length t1,.slice s2 qt.length t2,.slice s3 qu.length t3,.slice s4 qn.length t4] rfl rfl 57 _ R0 z1l rfl (by simp[Value.oneCell']) ?_))
   obtain⟨q0,q1,q2,q3,q4⟩:=Rr.cel5;exact bodyPost_ret (v:=.tuple #[.agg #[.slice s0 qd.length t0,.slice s1 qb.length t1,.slice s2 qt.length t2,.slice s3 qu.length t3,.slice s4 qn.length t4],.slice fa fs.length fk]) (by simp[results,Tryz.results27,go_sem,q0,q1,q2,q3,q4]) rfl ⟨(⟨.slice s0 qd.length t0,qd,.slice s1 qb.length t1,qb,.slice s2 qt.length t2,qt,.slice s3 qu.length t3,qu,.slice s4 qn.length t4,qn⟩:RepQ),_,fs,rfl,HN.out,HZ.out.1,HZ.out.2.1,HF.out,HZ.out.2.2⟩
  |true=>
   clear of lf nf
   go_wp2_with fail
   refine(z4s b b (0+400+1+1+1) Y7 hS (by omega)).mono ?_;rintro e Y8 ⟨v8,p8,rfl,Z,L,I,z,d⟩;have ap:b<Y7.heap.size:=hS.lt.2;replace R0:=R0.grown d (by simp only[ne_eq,Option.some.injEq];omega);replace Bx:=Bx.grown d (by simp only[ne_eq,Option.some.injEq];omega);replace oq:=repK.own_out oq (Out.of_grown d) (fun k hk y=>by simp only[Option.toList,List.mem_singleton]at y;have:=C k hk;omega);replace hB:=hB.grown d hB.size (fun k hk=>by simp at hk;omega);replace hS:=z;clear z d;have of:=I.ownK9;have lf:∀k∈txnK.fp v8 (p8.map TxnP.qk),b<k:=fun k hk=>by have:=I.lowfp9 k hk;omega
   have nf:(p8.map TxnP.qk).length+nmL TxnQ.n (p8.map TxnP.qk)≤3000:=by
    have h1:=z47 (qs:=p8.map TxnP.qk) (fun q hq=>by obtain⟨p,hp,rfl⟩:=List.mem_map.1 hq;exact L p hp);rw[List.length_map]at h1⊢;omega
   clear I L Z;generalize p8.map TxnP.qk=fs at*;obtain⟨fa,fk,rfl⟩:=of.shape;have Rr:=R0.row #[.slice s0 qd.length t0,.slice s1 qb.length t1,.slice s2 qt.length t2,.slice s3 qu.length t3,.slice s4 qn.length t4];have oz:=repK.own_out oq (z0r Y8 w.heap.size #[.slice s0 qd.length t0,.slice s1 qb.length t1,.slice s2 qt.length t2,.slice s3 qu.length t3,.slice s4 qn.length t4]) (fun k hk y=>by simp only[List.mem_singleton]at y;have:=C k hk;omega);have E:=of.out (z0r Y8 w.heap.size #[.slice s0 qd.length t0,.slice s1 qb.length t1,.slice s2 qt.length t2,.slice s3 qu.length t3,.slice s4 qn.length t4]) (fun k hk y=>by simp only[List.mem_singleton]at y;have:=lf k hk;omega);have D:=z0o (g:=w.heap.size) hB (Nat.le_refl _) #[.slice s0 qd.length t0,.slice s1 qb.length t1,.slice s2 qt.length t2,.slice s3 qu.length t3,.slice s4 qn.length t4];have HZ:Hid (repK.own (Y8.setRow w.heap.size #[.slice s0 qd.length t0,.slice s1 qb.length t1,.slice s2 qt.length t2,.slice s3 qu.length t3,.slice s4 qn.length t4]) (⟨.slice s0 qd.length t0,qd,.slice s1 qb.length t1,qb,.slice s2 qt.length t2,qt,.slice s3 qu.length t3,qu,.slice s4 qn.length t4,qn⟩:RepQ)∧txnK.Own (Y8.setRow w.heap.size #[.slice s0 qd.length t0,.slice s1 qb.length t1,.slice s2 qt.length t2,.slice s3 qu.length t3,.slice s4 qn.length t4]) (.slice fa fs.length fk) fs∧Below w.heap.size w (Y8.setRow w.heap.size #[.slice s0 qd.length t0,.slice s1 qb.length t1,.slice s2 qt.length t2,.slice s3 qu.length t3,.slice s4 qn.length t4])):=⟨oz,E,D⟩
   have HF:Hid (fs.length+nmL TxnQ.n fs≤3000):=nf;obtain⟨p0,p1,p2,p3,p4⟩:=Bx.cel5;clear oz E D oq of hS hB C lf nf
   go_wp2_with (first|(refine z0C (by kernel_rfl) 57 _ _ rfl _ #[.slice s0 qd.length t0,.slice s1 qb.length t1,.slice s2 qt.length t2,.slice s3 qu.length t3,.slice s4 qn.length t4] rfl rfl 57 _ R0 z1l rfl (by simp[Value.oneCell']) ?_))
   obtain⟨q0,q1,q2,q3,q4⟩:=Rr.cel5;exact bodyPost_ret (v:=.tuple #[.agg #[.slice s0 qd.length t0,.slice s1 qb.length t1,.slice s2 qt.length t2,.slice s3 qu.length t3,.slice s4 qn.length t4],.slice fa fs.length fk]) (by simp[results,Tryz.results27,go_sem,q0,q1,q2,q3,q4]) rfl ⟨(⟨.slice s0 qd.length t0,qd,.slice s1 qb.length t1,qb,.slice s2 qt.length t2,qt,.slice s3 qu.length t3,qu,.slice s4 qn.length t4,qn⟩:RepQ),_,fs,rfl,HN.out,HZ.out.1,HZ.out.2.1,HF.out,HZ.out.2.2⟩
 |true=>
  clear of lf nf;have p0:=z0F (F:=[b]) (Bx.cell 0 _ rfl) (by simp only[List.mem_cons,List.not_mem_nil,or_false];omega);have aa:Nonempty (KeepP (Out [b] Y3)):=⟨⟨Y3,Out.refl _ _⟩⟩
  go_wp2_with fail
  have A:Below Y3.heap.size Y3 Y3.drew:=(Below.refl _ _).drew;have hO:Out [b] Y3 Y3.drew:=Out.of_below A;refine z0h (S:=fun w'=>∃u:KeepP (Out [b] Y3),w'=u.val) (by kernel_rfl) ?_;refine sgr [(0,1),(2,2)] 3 (by kernel_rfl) ⟨⟨_,hO⟩,rfl⟩ ?_;simp only[pkE];repeat go_big_quiet_step (fail)
  refine wpQuiet_nil ?_;clear p0;replace R0:=R0.below A;replace Bx:=Bx.below A;replace oq:=repK.own_out (F:=[]) oq (Out.of_below A) (fun _ _=>by simp);replace hB:=hB.trans (A.mono hB.size);replace hS:=hS.below A;clear A;generalize Y3.drew=Y4 at*;refine cla 1 (some 24) 71 #[.pointer (some ⟨b,0,none⟩),.int .i64 4] 2 (by kernel_rfl) ?_;refine(z31 4 (by omega) (by omega) b b (0+400+1+1) Y4 hS (by omega)).mono ?_;rintro e Y5 ⟨v5,p5,rfl,an,V,U,z,d⟩;have J:Out [b] Y4 Y5:=Out.of_grown d;replace hO:=hO.trans J;replace R0:=R0.grown d (by simp only[ne_eq,Option.some.injEq];omega);replace Bx:=Bx.grown d (by simp only[ne_eq,Option.some.injEq];omega);replace oq:=repK.own_out oq (Out.of_grown d) (fun k hk y=>by simp only[Option.toList,List.mem_singleton]at y;have:=C k hk;omega);replace hB:=hB.grown d hB.size (fun k hk=>by simp at hk;omega);replace hS:=z;clear J z d;obtain⟨a5,k5,rfl⟩:=z0b U.1;have ab:∀q∈p5.map TxnP.qk,0<q.acts.length:=fun q hq=>by
   obtain⟨p,hp,rfl⟩:=List.mem_map.1 hq;exact z7G (V p hp).2
  have ak:(p5.map TxnP.qk).length+nmL TxnQ.n (p5.map TxnP.qk)≤100:=by
   have h1:=z47 (qs:=p5.map TxnP.qk) (fun q hq=>by obtain⟨p,hp,rfl⟩:=List.mem_map.1 hq;exact(V p hp).1);rw[List.length_map]at h1⊢;omega
  have aj:=z2x (.slice a5 p5.length k5) (.slice s0 qd.length t0) (p5.map TxnP.qk) qd Y5 U.atK oq.1.at ab (by rw[List.length_map];omega) (by omega) (by have:=HN.out;dsimp only[RepQ.n]at this;omega);refine⟨_,rfl,⟨⟨_,hO⟩,rfl⟩,?_⟩;simp only[Act.put,pjE];refine cla 4 (some 27) 70 #[.slice a5 p5.length k5,.slice s0 qd.length t0] 1 (by kernel_rfl) ?_;refine aj.mono ?_;rintro e Y6 ⟨vf,fs,rfl,ef,of,_,lf,hb⟩;have nf:fs.length+nmL TxnQ.n fs≤3000:=by
   have:=z87 ef;omega
  have aF:b<Y5.heap.size:=hS.lt.2;replace lf:∀k∈txnK.fp vf fs,b<k:=fun k hk=>by have:=lf k hk;omega
  replace hO:=hO.trans (Out.of_below hb);replace R0:=R0.below hb;replace Bx:=Bx.below hb;replace oq:=repK.own_out (F:=[]) oq (Out.of_below hb) (fun _ _=>by simp);replace hB:=hB.trans (hb.mono hB.size);replace hS:=hS.below hb;clear hb ef aj U V ab ak an;obtain⟨fa,fk,rfl⟩:=of.shape;refine⟨_,rfl,⟨⟨_,hO⟩,rfl⟩,?_⟩;simp only[Act.put,pjE];refine sgr [(5,1)] 0 (by kernel_rfl) ⟨⟨_,hO⟩,rfl⟩ ?_;simp only[pkE];repeat go_big_quiet_step (fail)
  refine wpQuiet_nil ?_;refine z0k (by kernel_rfl) ?_;clear aa hO
  go_wp2_with fail
  refine(z18 b b (0+400+1+1+200) 8 Y6 hS (by omega) (by omega)).mono ?_;rintro e Y7 ⟨t8,rfl,z,d⟩;replace R0:=R0.grown d (by simp only[ne_eq,Option.some.injEq];omega);replace Bx:=Bx.grown d (by simp only[ne_eq,Option.some.injEq];omega);replace oq:=repK.own_out oq (Out.of_grown d) (fun k hk y=>by simp only[Option.toList,List.mem_singleton]at y;have:=C k hk;omega);replace hB:=hB.grown d hB.size (fun k hk=>by simp at hk;omega);replace of:=of.out (Out.of_grown d) (fun k hk y=>by simp only[Option.toList,List.mem_singleton]at y;have:=lf k hk;omega);replace hS:=z;clear z d
  cases t8 with
  |false=>
   have Rr:=R0.row #[.slice s0 qd.length t0,.slice s1 qb.length t1,.slice s2 qt.length t2,.slice s3 qu.length t3,.slice s4 qn.length t4];have oz:=repK.own_out oq (z0r Y7 w.heap.size #[.slice s0 qd.length t0,.slice s1 qb.length t1,.slice s2 qt.length t2,.slice s3 qu.length t3,.slice s4 qn.length t4]) (fun k hk y=>by simp only[List.mem_singleton]at y;have:=C k hk;omega);have E:=of.out (z0r Y7 w.heap.size #[.slice s0 qd.length t0,.slice s1 qb.length t1,.slice s2 qt.length t2,.slice s3 qu.length t3,.slice s4 qn.length t4]) (fun k hk y=>by simp only[List.mem_singleton]at y;have:=lf k hk;omega);have D:=z0o (g:=w.heap.size) hB (Nat.le_refl _) #[.slice s0 qd.length t0,.slice s1 qb.length t1,.slice s2 qt.length t2,.slice s3 qu.length t3,.slice s4 qn.length t4];have HZ:Hid (repK.own (Y7.setRow w.heap.size #[.slice s0 qd.length t0,.slice s1 qb.length t1,.slice s2 qt.length t2,.slice s3 qu.length t3,.slice s4 qn.length t4]) (⟨.slice s0 qd.length t0,qd,.slice s1 qb.length t1,qb,.slice s2 qt.length t2,qt,.slice s3 qu.length t3,qu,.slice s4 qn.length t4,qn⟩:RepQ)∧txnK.Own (Y7.setRow w.heap.size #[.slice s0 qd.length t0,.slice s1 qb.length t1,.slice s2 qt.length t2,.slice s3 qu.length t3,.slice s4 qn.length t4]) (.slice fa fs.length fk) fs∧Below w.heap.size w (Y7.setRow w.heap.size #[.slice s0 qd.length t0,.slice s1 qb.length t1,.slice s2 qt.length t2,.slice s3 qu.length t3,.slice s4 qn.length t4])):=⟨oz,E,D⟩
   have HF:Hid (fs.length+nmL TxnQ.n fs≤3000):=nf;obtain⟨p0,p1,p2,p3,p4⟩:=Bx.cel5;clear oz E D oq of hS hB C lf nf
   go_wp2_with (first|(refine z0C (by kernel_rfl) 57 _ _ rfl _ #[.slice s0 qd.length t0,.slice s1 qb.length t1,.slice s2 qt.length t2,.slice s3 qu.length t3,.slice s4 qn.length t4] rfl rfl 57 _ R0 z1l rfl (by simp[Value.oneCell']) ?_))
   obtain⟨q0,q1,q2,q3,q4⟩:=Rr.cel5;exact bodyPost_ret (v:=.tuple #[.agg #[.slice s0 qd.length t0,.slice s1 qb.length t1,.slice s2 qt.length t2,.slice s3 qu.length t3,.slice s4 qn.length t4],.slice fa fs.length fk]) (by simp[results,Tryz.results27,go_sem,q0,q1,q2,q3,q4]) rfl ⟨(⟨.slice s0 qd.length t0,qd,.slice s1 qb.length t1,qb,.slice s2 qt.length t2,qt,.slice s3 qu.length t3,qu,.slice s4 qn.length t4,qn⟩:RepQ),_,fs,rfl,HN.out,HZ.out.1,HZ.out.2.1,HF.out,HZ.out.2.2⟩
  |true=>
   clear of lf nf
   go_wp2_with fail
   refine(z4s b b (0+400+1+1+200+1) Y7 hS (by omega)).mono ?_;rintro e Y8 ⟨v8,p8,rfl,Z,L,I,z,d⟩;have ap:b<Y7.heap.size:=hS.lt.2;replace R0:=R0.grown d (by simp only[ne_eq,Option.some.injEq];omega);replace Bx:=Bx.grown d (by simp only[ne_eq,Option.some.injEq];omega);replace oq:=repK.own_out oq (Out.of_grown d) (fun k hk y=>by simp only[Option.toList,List.mem_singleton]at y;have:=C k hk;omega);replace hB:=hB.grown d hB.size (fun k hk=>by simp at hk;omega);replace hS:=z;clear z d;have of:=I.ownK9;have lf:∀k∈txnK.fp v8 (p8.map TxnP.qk),b<k:=fun k hk=>by have:=I.lowfp9 k hk;omega
   have nf:(p8.map TxnP.qk).length+nmL TxnQ.n (p8.map TxnP.qk)≤3000:=by
    have h1:=z47 (qs:=p8.map TxnP.qk) (fun q hq=>by obtain⟨p,hp,rfl⟩:=List.mem_map.1 hq;exact L p hp);rw[List.length_map]at h1⊢;omega
   clear I L Z;generalize p8.map TxnP.qk=fs at*;obtain⟨fa,fk,rfl⟩:=of.shape;have Rr:=R0.row #[.slice s0 qd.length t0,.slice s1 qb.length t1,.slice s2 qt.length t2,.slice s3 qu.length t3,.slice s4 qn.length t4];have oz:=repK.own_out oq (z0r Y8 w.heap.size #[.slice s0 qd.length t0,.slice s1 qb.length t1,.slice s2 qt.length t2,.slice s3 qu.length t3,.slice s4 qn.length t4]) (fun k hk y=>by simp only[List.mem_singleton]at y;have:=C k hk;omega);have E:=of.out (z0r Y8 w.heap.size #[.slice s0 qd.length t0,.slice s1 qb.length t1,.slice s2 qt.length t2,.slice s3 qu.length t3,.slice s4 qn.length t4]) (fun k hk y=>by simp only[List.mem_singleton]at y;have:=lf k hk;omega);have D:=z0o (g:=w.heap.size) hB (Nat.le_refl _) #[.slice s0 qd.length t0,.slice s1 qb.length t1,.slice s2 qt.length t2,.slice s3 qu.length t3,.slice s4 qn.length t4];have HZ:Hid (repK.own (Y8.setRow w.heap.size #[.slice s0 qd.length t0,.slice s1 qb.length t1,.slice s2 qt.length t2,.slice s3 qu.length t3,.slice s4 qn.length t4]) (⟨.slice s0 qd.length t0,qd,.slice s1 qb.length t1,qb,.slice s2 qt.length t2,qt,.slice s3 qu.length t3,qu,.slice s4 qn.length t4,qn⟩:RepQ)∧txnK.Own (Y8.setRow w.heap.size #[.slice s0 qd.length t0,.slice s1 qb.length t1,.slice s2 qt.length t2,.slice s3 qu.length t3,.slice s4 qn.length t4]) (.slice fa fs.length fk) fs∧Below w.heap.size w (Y8.setRow w.heap.size #[.slice s0 qd.length t0,.slice s1 qb.length t1,.slice s2 qt.length t2,.slice s3 qu.length t3,.slice s4 qn.length t4])):=⟨oz,E,D⟩
   have HF:Hid (fs.length+nmL TxnQ.n fs≤3000):=nf;obtain⟨p0,p1,p2,p3,p4⟩:=Bx.cel5;clear oz E D oq of hS hB C lf nf
   go_wp2_with (first|(refine z0C (by kernel_rfl) 57 _ _ rfl _ #[.slice s0 qd.length t0,.slice s1 qb.length t1,.slice s2 qt.length t2,.slice s3 qu.length t3,.slice s4 qn.length t4] rfl rfl 57 _ R0 z1l rfl (by simp[Value.oneCell']) ?_))
   obtain⟨q0,q1,q2,q3,q4⟩:=Rr.cel5;exact bodyPost_ret (v:=.tuple #[.agg #[.slice s0 qd.length t0,.slice s1 qb.length t1,.slice s2 qt.length t2,.slice s3 qu.length t3,.slice s4 qn.length t4],.slice fa fs.length fk]) (by simp[results,Tryz.results27,go_sem,q0,q1,q2,q3,q4]) rfl ⟨(⟨.slice s0 qd.length t0,qd,.slice s1 qb.length t1,qb,.slice s2 qt.length t2,qt,.slice s3 qu.length t3,qu,.slice s4 qn.length t4,qn⟩:RepQ),_,fs,rfl,HN.out,HZ.out.1,HZ.out.2.1,HF.out,HZ.out.2.2⟩
end
end Go.Proofs.YtciofogeiohleaaGreatDoor
